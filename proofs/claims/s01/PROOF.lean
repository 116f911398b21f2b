import PyProof.Rows.All
import Wide.All
import OpenK.AllK
import Wide.FinOn
import PyProof.EqAt
import PyProof.EqKinds
import PyProof.TupleCall
import KE.BitLaws
import PyProof.StationsW
import PyProof.RulesAs
import PyProof.PassesOwn
import PyProof.ExcClass
import PyProof.ExcArgs
import PyProof.InstStore
import PyProof.InstStoreFacts
import PyProof.ExcInit
import PyProof.RulesDel
import KE.KRevIter
import KE.LcSums
import KE.KDictList
import KE.OsGo
import Open.SpecLaws
import PySem.Challenge.RW_someall_s01_answers
set_option Elab.async false
set_option linter.all false
set_option maxRecDepth 100000
namespace L2
open PySem PySem.Spec PyProof.Rows
abbrev Key := Sum Int Str
def keyIs : Key → Value → Bool
  | .inl k, v => Value.isInt k v
  | .inr x, v => Value.isStrOf x v
def keyH (w : World) : Key → Int
  | .inl k => hashInt k
  | .inr x => hashStr w x
theorem keyIs_shape : ∀ {k : Key} {v : Value}, keyIs k v = true → (∃ i t, k = Sum.inl i ∧ v = Value.int i t) ∨ (∃ x t, k = Sum.inr x ∧ v = Value.str x t)
  | .inl i, v, h => by
    obtain ⟨t, e⟩ := Value.isInt_shape (k := i) (v := v) h
    exact .inl ⟨i, t, rfl, e⟩
  | .inr x, v, h => by
    obtain ⟨t, e⟩ := Value.isStrOf_shape (x := x) (v := v) h
    exact .inr ⟨x, t, rfl, e⟩
theorem keyIs_int (i : Int) (t : Tok) : keyIs (.inl i) (.int i t) = true := by simp [keyIs, Value.isInt]
theorem keyIs_str (x : Str) (t : Tok) : keyIs (.inr x) (.str x t) = true := by simp [keyIs, Value.isStrOf]
theorem key_ll (a b : Int) : decide ((Sum.inl a : Key) = Sum.inl b) = (a == b) := by
  by_cases e : a = b
  · subst e; simp
  · have h : ¬ (Sum.inl a : Key) = Sum.inl b := fun q => e (Sum.inl.inj q)
    rw [decide_eq_false h]
    exact (beq_eq_false_iff_ne.mpr e).symm
theorem key_rr (a b : Str) : decide ((Sum.inr a : Key) = Sum.inr b) = decide (a = b) := by
  by_cases e : a = b
  · subst e; simp
  · have h : ¬ (Sum.inr a : Key) = Sum.inr b := fun q => e (Sum.inr.inj q)
    rw [decide_eq_false h, decide_eq_false e]
theorem key_lr (a : Int) (b : Str) : decide ((Sum.inl a : Key) = Sum.inr b) = false := decide_eq_false (fun q => nomatch q)
theorem key_rl (a : Str) (b : Int) : decide ((Sum.inr a : Key) = Sum.inl b) = false := decide_eq_false (fun q => nomatch q)
def mixKind (prog : Program) (w : World) : PySem.KeyKind prog w Key where
  is := keyIs
  hash := keyH w
  inj := fun v a b ha hb => by
    rcases keyIs_shape ha with ⟨i, t, rfl, rfl⟩ | ⟨x, t, rfl, rfl⟩
    · rcases keyIs_shape hb with ⟨j, u, rfl, e⟩ | ⟨y, u, rfl, e⟩
      · injection e with e1 _; rw [e1]
      · exact nomatch e
    · rcases keyIs_shape hb with ⟨j, u, rfl, e⟩ | ⟨y, u, rfl, e⟩
      · exact nomatch e
      · injection e with e1 _; rw [e1]
  byValue := fun k v h => by
    rcases keyIs_shape h with ⟨i, t, rfl, rfl⟩ | ⟨x, t, rfl, rfl⟩ <;> rfl
  pyHash := fun hv h => by
    rcases keyIs_shape hv with ⟨i, t, rfl, rfl⟩ | ⟨x, t, rfl, rfl⟩
    · exact wpAny_pyHash_int h
    · exact wpAny_pyHash_str h
  eqBool := fun hu hv h => by
    rcases keyIs_shape hu with ⟨i, t, rfl, rfl⟩ | ⟨x, t, rfl, rfl⟩
    · rcases keyIs_shape hv with ⟨j, u, rfl, rfl⟩ | ⟨y, u, rfl, rfl⟩
      · rw [key_ll] at h; exact wpAny_eqBool_int h
      · rw [key_lr] at h; exact SeqAt.EqAt.int_str i t y u _ _ _ _ h
    · rcases keyIs_shape hv with ⟨j, u, rfl, rfl⟩ | ⟨y, u, rfl, rfl⟩
      · rw [key_rl] at h; exact SeqAt.EqAt.str_int x t j u _ _ _ _ h
      · rw [key_rr] at h; exact wpAny_eqBool_str h
  «strs» := fun k x t v h => by
    rcases keyIs_shape h with ⟨i, u, rfl, e⟩ | ⟨y, u, rfl, e⟩
    · exact nomatch e
    · injection e with e1 _
      subst e1
      cases v <;> rfl
abbrev KeyN := Option Key
def keyNIs : KeyN → Value → Bool
  | none, v => match v with
    | .none => true
    | _ => false
  | some k, v => keyIs k v
def keyNH (w : World) : KeyN → Int
  | none => 4238894112
  | some k => keyH w k
theorem keyNIs_shape : ∀ {k : KeyN} {v : Value}, keyNIs k v = true → (k = none ∧ v = Value.none) ∨ (∃ q, k = some q ∧ keyIs q v = true)
  | none, v, h => by
    cases v <;> first | exact .inl ⟨rfl, rfl⟩ | (exfalso; exact Bool.false_ne_true h)
  | some q, v, h => .inr ⟨q, rfl, h⟩
theorem pyHash_none {prog : Program} {w : World} {A : Around} {E : Value → Shared → Prop} {s : Shared} {Q : Int → Shared → Prop} (h : Q 4238894112 { s with toks := s.toks + 1 }) : wpAny (model prog w) A (PySem.pyHash .none) Q E s :=
  PySem.W.pyHash_slot (T := "NoneType") rfl F.slot_NoneType_hash F.entry_NoneType_hash (F.args_NoneType_hash_1 _) (beq_builtin_none _) (.inl rfl) (wpAny_bind (wpAny_pure (wpAny_bind (wpAny_mkInt (wpAny_pure ⟨_, _, rfl, h⟩)))))
def nKind (prog : Program) (w : World) : PySem.KeyKind prog w KeyN where
  is := keyNIs
  hash := keyNH w
  inj := fun v a b ha hb => by
    rcases keyNIs_shape ha with ⟨rfl, rfl⟩ | ⟨q, rfl, hq⟩
    · rcases keyNIs_shape hb with ⟨rfl, _⟩ | ⟨r, rfl, hr⟩
      · rfl
      · rcases keyIs_shape hr with ⟨i, t, rfl, e⟩ | ⟨x, t, rfl, e⟩ <;> exact nomatch e
    · rcases keyNIs_shape hb with ⟨rfl, rfl⟩ | ⟨r, rfl, hr⟩
      · rcases keyIs_shape hq with ⟨i, t, rfl, e⟩ | ⟨x, t, rfl, e⟩ <;> exact nomatch e
      · rw [(mixKind prog w).inj v q r hq hr]
  byValue := fun k v h => by
    rcases keyNIs_shape h with ⟨rfl, rfl⟩ | ⟨q, rfl, hq⟩
    · rfl
    · exact (mixKind prog w).byValue q v hq
  pyHash := fun hv h => by
    rcases keyNIs_shape hv with ⟨rfl, rfl⟩ | ⟨q, rfl, hq⟩
    · exact pyHash_none h
    · exact (mixKind prog w).pyHash hq h
  eqBool := fun {A E s a b u v Q} hu hv h => by
    rcases keyNIs_shape hu with ⟨rfl, rfl⟩ | ⟨q, rfl, hq⟩
    · rcases keyNIs_shape hv with ⟨rfl, rfl⟩ | ⟨r, rfl, hr⟩
      · exact SeqAt.EqAt.same .none _ _ _ _ h
      · have h' : Q false s := h
        rcases keyIs_shape hr with ⟨i, t, rfl, rfl⟩ | ⟨x, t, rfl, rfl⟩
        · exact SeqAt.EqAt.none_int i t _ _ _ _ h'
        · exact SeqAt.EqAt.none_str x t _ _ _ _ h'
    · rcases keyNIs_shape hv with ⟨rfl, rfl⟩ | ⟨r, rfl, hr⟩
      · have h' : Q false s := h
        rcases keyIs_shape hq with ⟨i, t, rfl, rfl⟩ | ⟨x, t, rfl, rfl⟩
        · exact SeqAt.EqAt.int_none i t _ _ _ _ h'
        · exact SeqAt.EqAt.str_none x t _ _ _ _ h'
      · refine (mixKind prog w).eqBool hq hr ?_
        have e : decide ((some q : KeyN) = some r) = decide (q = r) := by
          by_cases z : q = r
          · subst z; simp
          · simp [z]
        rw [← e]; exact h
  «strs» := fun k x t v h => by
    rcases keyNIs_shape h with ⟨rfl, e⟩ | ⟨q, rfl, hq⟩
    · exact nomatch e
    · exact (mixKind prog w).«strs» q x t v hq
theorem mixKind_int (prog : Program) (w : World) (i : Int) (t : Tok) : (mixKind prog w).is (.inl i) (.int i t) = true := keyIs_int i t
theorem mixKind_str (prog : Program) (w : World) (x : Str) (t : Tok) : (mixKind prog w).is (.inr x) (.str x t) = true := keyIs_str x t
end L2
namespace L2
open PySem PySem.Spec PyProof.Rows
inductive V where
  | non | bl (b : Bool) | int (i : Int) | str (x : Str) | byt (b : Array UInt8) | flt (b : UInt64) | ref (a : Addr) | ty (n : String)
  deriving DecidableEq
def RelV : V → Value → Prop
  | .non, u => u = Value.none
  | .bl b, u => u = Value.bool b
  | .int i, u => ∃ t, u = Value.int i t
  | .str x, u => ∃ t, u = Value.str x t
  | .byt b, u => ∃ t, u = Value.bytes b t
  | .flt b, u => ∃ t, u = Value.float b t
  | .ref a, u => u = Value.ref a
  | .ty n, u => u = Value.type n
abbrev Vals : List V → List Value → Prop := Paired RelV
theorem Vals.length {xs : List V} {us : List Value} (r : Vals xs us) : xs.length = us.length := Paired.length r
theorem Vals.get : ∀ {xs : List V} {us : List Value} {i : Nat} {x : V}, Vals xs us → xs[i]? = some x → ∃ u, us[i]? = some u ∧ RelV x u
  | _, _, _, _, .nil, e => by simp at e
  | _, _, 0, _, .cons r _, e => by simp at e; subst e; exact ⟨_, rfl, r⟩
  | _, _, i + 1, x, .cons _ t, e => by
    obtain ⟨u, h1, h2⟩ := Vals.get (i := i) (x := x) t (by simpa using e)
    exact ⟨u, by simpa using h1, h2⟩
theorem Vals.set {x : V} {u : Value} (r : RelV x u) : ∀ {xs : List V} {us : List Value} (i : Nat), Vals xs us → Vals (xs.set i x) (us.set i u)
  | _, _, _, .nil => .nil
  | _, _, 0, .cons _ t => .cons r t
  | _, _, i + 1, .cons q t => .cons q (Vals.set r i t)
theorem Vals.append : ∀ {xs ys : List V} {us ws : List Value}, Vals xs us → Vals ys ws → Vals (xs ++ ys) (us ++ ws)
  | _, _, _, _, .nil, s => s
  | _, _, _, _, .cons r t, s => .cons r (Vals.append t s)
theorem Vals.take : ∀ {xs : List V} {us : List Value} (n : Nat), Vals xs us → Vals (xs.take n) (us.take n)
  | _, _, 0, _ => .nil
  | _, _, _ + 1, .nil => .nil
  | _, _, n + 1, .cons r t => .cons r (Vals.take n t)
theorem Vals.drop : ∀ {xs : List V} {us : List Value} (n : Nat), Vals xs us → Vals (xs.drop n) (us.drop n)
  | _, _, 0, r => r
  | _, _, _ + 1, .nil => .nil
  | _, _, n + 1, .cons _ t => Vals.drop n t
def RelO : Option V → Option Value → Prop
  | some v, some u => RelV v u
  | none, none => True
  | _, _ => False
def KV {κ : Type} : List (κ × V) → List (κ × Value) → Prop := Paired fun (p : κ × V) (q : κ × Value) => p.1 = q.1 ∧ RelV p.2 q.2
def kV : Key → V
  | .inl i => .int i
  | .inr x => .str x
def kN : KeyN → V
  | none => .non
  | some k => kV k
inductive HO where
  /-- a list -/
  | lst (xs : List V)
  /-- a tuple (never changes) -/
  | tup (xs : List V)
  /-- a dict whose keys are ints and texts; one whose keys are tuples of ints and texts (the empty one is both) -/
  | dK (kvs : List (Key × V)) | dT (kvs : List (List KeyN × V))
  /-- a set of ints: its members, its size -/
  | set (S : Int → Bool) (n : Nat)
  /-- an instance of the class at C, its dict at dx, its attributes -/
  | ins (C dx : Addr) (fs : List (Str × V))
  /-- the dict of the instance at x -/
  | own (x : Addr)
  /-- the dict of an exception -/
  | xd (fs : List (Str × V))
  /-- a bound method, f of x -/
  | met (f x : Addr)
  /-- a range object lo, lo + 1, .. below hi -/
  | rng (lo hi : Int)
  /-- a thing that is known to the object (the script; a dict while a loop walks it): read, never written while it is so -/
  | frz (o : Obj) (u : HO)
  /-- a code object's table -/
  | tbl (ps : Array Value)
  /-- any other thing, by what is true of its one object (a def of one's own: SetO a S n := HO.ext fun h => ..) -/
  | ext (φ : Heap → Prop)
abbrev Hp := Addr → Option HO
def upd (H : Hp) (a : Addr) (o : HO) : Hp := fun b => if b = a then some o else H b
theorem upd_same {H : Hp} {a : Addr} {o : HO} : upd H a o a = some o := by unfold upd; rw [if_pos rfl]
theorem upd_ne {H : Hp} {a b : Addr} {o : HO} (h : b ≠ a) : upd H a o b = H b := by unfold upd; rw [if_neg h]
theorem ne_of {H : Hp} {a b : Addr} {o u : HO} (h : H a = some o) (h' : H b = some u) (d : o ≠ u) : a ≠ b := by
  intro e; subst e; rw [h] at h'; exact d (Option.some.inj h')
theorem ne_of_none {H : Hp} {a b : Addr} {o : HO} (h : H a = some o) (h' : H b = none) : a ≠ b := by
  intro e; subst e; rw [h] at h'; cases h'
section
variable (P : Program) (w : World)
def ObjOk (H : Hp) (h : Heap) (a : Addr) : HO → Prop
  | .lst xs => xs.length ≤ sizeLine ∧ ∃ (its : List Value) (n : Nat), Vals xs its ∧ h.get? a = some { cls := .type "list", data := .seq its.toArray n }
  | .tup xs => xs.length ≤ sizeLine ∧ ∃ its : List Value, Vals xs its ∧ IsTup h a its.toArray
  | .dK kvs => kvs.length ≤ sizeLine ∧ (a == sysModules) = false ∧ ∃ vs, KV kvs vs ∧ h.DictOf (mixKind P w) a vs
  | .dT kvs => kvs.length ≤ sizeLine ∧ (a == sysModules) = false ∧ ∃ xs : List (List KeyN × Addr × Value),
      Paired (fun (p : List KeyN × V) (q : List KeyN × Addr × Value) => p.1 = q.1 ∧ H q.2.1 = some (.tup (p.1.map kN)) ∧ RelV p.2 q.2.2) kvs xs ∧
      ∃ o es ep, h.get? a = some o ∧ o.ExactDict ∧ o.data = .dict es ep ∧ es.toList = xs.map (entryOfKey (tupleKind (nKind P w))) ∧ (xs.map (·.1)).Nodup
  | .set S n => h.SetOf (intKind P w) a S n
  | .ins C dx fs => H dx = some (.own a) ∧ fs.length ≤ 1000 ∧ dx ≠ a ∧ h.get? a = some (PySem.W.instObj C dx) ∧
      ∃ mA, h.Ns1 dx mA ∧ (∀ f, RelO (fs.lookup f) (mA f)) ∧ PySem.Within mA (fs.map (·.1))
  | .own _ => ∃ o, h.get? a = some o
  | .xd fs => ∃ mA, h.Ns1 a mA ∧ ∀ f, RelO (fs.lookup f) (mA f)
  | .rng lo hi => ∃ t u v, h.get? a = some { cls := .type "range", data := .fields #[.int lo t, .int hi u, .int 1 v] }
  | .frz o u => h.get? a = some o ∧ ObjOk H h a u
  | .tbl ps => h.get? a = some { cls := .none, data := .fields ps }
  | .met f x => h.get? a = some (PySem.W.methodObj (.ref f) (.ref x))
  | .ext φ => φ h ∧ (∃ o, h.get? a = some o) ∧ ∀ h1 h2 : Heap, φ h1 → (∀ o, h1.get? a = some o → h2.get? a = some o) → φ h2
def HOk (H : Hp) (h : Heap) : Prop := ∀ a o, H a = some o → ObjOk P w H h a o
end
section
variable {P : Program} {w : World} {H H' : Hp} {h h' : Heap} {a : Addr} {o : HO}
theorem ObjOk.lt (x : ObjOk P w H h a o) : a < h.objs.size := by
  cases o with
  | lst xs => obtain ⟨_, _, _, _, e⟩ := x; exact Heap.lt_size e
  | tup xs => obtain ⟨_, _, _, p⟩ := x; exact p.lt
  | dK kvs => obtain ⟨_, _, _, _, o, _, _, e, _⟩ := x; exact Heap.lt_size e
  | dT kvs => obtain ⟨_, _, _, _, o, _, _, e, _⟩ := x; exact Heap.lt_size e
  | set S n => obtain ⟨o, _, _, _, e, _⟩ := x; exact Heap.lt_size e
  | ins C dx fs => obtain ⟨_, _, _, e, _⟩ := x; exact Heap.lt_size e
  | own y => obtain ⟨_, e⟩ := x; exact Heap.lt_size e
  | xd fs => obtain ⟨_, ⟨_, _, _, e, _⟩, _⟩ := x; exact Heap.lt_size e
  | rng lo hi => obtain ⟨_, _, _, e⟩ := x; exact Heap.lt_size e
  | frz ob u => obtain ⟨e, _⟩ := x; exact Heap.lt_size e
  | tbl ps => exact Heap.lt_size (show h.get? a = some _ from x)
  | met f y => exact Heap.lt_size (show h.get? a = some _ from x)
  | ext φ => obtain ⟨_, ⟨_, e⟩, _⟩ := x; exact Heap.lt_size e
theorem Paired.mapP {α β : Type} {F G : α → β → Prop} : ∀ {l₁ : List α} {l₂ : List β}, Paired F l₁ l₂ → (∀ a b, F a b → G a b) → Paired G l₁ l₂
  | _, _, .nil, _ => .nil
  | _, _, .cons r t, f => .cons (f _ _ r) (Paired.mapP t f)
theorem ObjOk.stay (x : ObjOk P w H h a o) (k : ∀ b u, (b = a ∨ H b = some (.own a)) → h.get? b = some u → h'.get? b = some u)
    (ho : ∀ b, H b = some (.own a) → H' b = some (.own a)) (ht : ∀ b xs, H b = some (.tup xs) → H' b = some (.tup xs)) : ObjOk P w H' h' a o := by
  induction o with
  | lst xs => obtain ⟨z, its, n, r, e⟩ := x; exact ⟨z, its, n, r, k _ _ (.inl rfl) e⟩
  | tup xs => obtain ⟨z, its, r, ob, e, c⟩ := x; exact ⟨z, its, r, ob, k _ _ (.inl rfl) e, c⟩
  | dK kvs => obtain ⟨z, y, vs, r, ob, es, ep, e, c⟩ := x; exact ⟨z, y, vs, r, ob, es, ep, k _ _ (.inl rfl) e, c⟩
  | dT kvs =>
    obtain ⟨z, y, xs, r, ob, es, ep, e, c⟩ := x
    exact ⟨z, y, xs, Paired.mapP r fun p q z => ⟨z.1, ht _ _ z.2.1, z.2.2⟩, ob, es, ep, k _ _ (.inl rfl) e, c⟩
  | set S n => obtain ⟨ob, es, ep, t, e, c⟩ := x; exact ⟨ob, es, ep, t, k _ _ (.inl rfl) e, c⟩
  | ins C dx fs =>
    obtain ⟨d, z, ne, e, mA, ⟨od, es, ep, e2, c⟩, r⟩ := x
    exact ⟨ho _ d, z, ne, k _ _ (.inl rfl) e, mA, ⟨od, es, ep, k _ _ (.inr d) e2, c⟩, r⟩
  | own y => obtain ⟨ob, e⟩ := x; exact ⟨ob, k _ _ (.inl rfl) e⟩
  | xd fs => obtain ⟨mA, ⟨od, es, ep, e, c⟩, r⟩ := x; exact ⟨mA, ⟨od, es, ep, k _ _ (.inl rfl) e, c⟩, r⟩
  | rng lo hi => obtain ⟨t, u, v, e⟩ := x; exact ⟨t, u, v, k _ _ (.inl rfl) e⟩
  | frz ob u ih => obtain ⟨e, q⟩ := x; exact ⟨k _ _ (.inl rfl) e, ih q⟩
  | tbl ps =>
    have e : h.get? a = some { cls := .none, data := .fields ps } := x
    show h'.get? a = some { cls := .none, data := .fields ps }
    exact k a _ (.inl rfl) e
  | met f y =>
    have e : h.get? a = some (PySem.W.methodObj (.ref f) (.ref y)) := x
    show h'.get? a = some (PySem.W.methodObj (.ref f) (.ref y))
    exact k a _ (.inl rfl) e
  | ext φ => obtain ⟨p, ⟨o, e⟩, st⟩ := x; exact ⟨st _ _ p fun o q => k _ _ (.inl rfl) q, ⟨o, k _ _ (.inl rfl) e⟩, st⟩
theorem HOk.lt (x : HOk P w H h) (e : H a = some o) : a < h.objs.size := (x a o e).lt
theorem HOk.fresh (x : HOk P w H h) (e : h.objs.size ≤ a) : H a = none := by
  cases q : H a with
  | none => rfl
  | some u => exact absurd (Nat.lt_of_lt_of_le (x.lt q) e) (Nat.lt_irrefl _)
theorem HOk.kept (x : HOk P w H h) (k : ∀ b u, h.get? b = some u → h'.get? b = some u) : HOk P w H h' := fun a o e =>
  (x a o e).stay (fun b u _ q => k b u q) (fun _ q => q) fun _ _ q => q
theorem HOk.laid (x : HOk P w H h) (k : ∀ b u, h.get? b = some u → h'.get? b = some u) (hp : h.objs.size ≤ a) (new : ObjOk P w (upd H a o) h' a o) : HOk P w (upd H a o) h' := fun b u e => by
  have hn := x.fresh hp
  by_cases hb : b = a
  · subst hb; rw [upd_same] at e; cases e; exact new
  · rw [upd_ne hb] at e
    exact (x b u e).stay (fun c v _ q => k c v q) (fun c q => by rw [upd_ne (ne_of_none q hn)]; exact q) fun c xs q => by rw [upd_ne (ne_of_none q hn)]; exact q
end
def Rd (H : Hp) (a : Addr) (u : HO) : Prop := H a = some u ∨ ∃ o, H a = some (.frz o u)
theorem Rd.ok {P : Program} {w : World} {H : Hp} {h : Heap} {a : Addr} {u : HO} (r : Rd H a u) (x : HOk P w H h) : ObjOk P w H h a u := by
  rcases r with r | ⟨o, r⟩
  · exact x a u r
  · obtain ⟨_, q⟩ := x a _ r
    exact q
def Mut : Option HO → Prop
  | some (.lst _) => True
  | some (.dK _) => True
  | some (.dT _) => True
  | some (.set _ _) => True
  | some (.ins _ _ _) => True
  | some (.ext _) => True
  | _ => False
section
variable {P : Program} {w : World} {H : Hp} {h h' : Heap} {x e : Addr} {o' : HO}
theorem HOk.write (ok : HOk P w H h) (mu : Mut (H x)) (he : e = x ∨ H e = some (.own x)) (k : ∀ b u, b ≠ e → h.get? b = some u → h'.get? b = some u) (heo : ∃ u, h'.get? e = some u)
    (new : ObjOk P w (upd H x o') h' x o') : HOk P w (upd H x o') h' := fun b u q => by
  have nown : ∀ c y, H c = some (.own y) → c ≠ x := fun c y r z => by subst z; rw [r] at mu; exact mu
  have ntup : ∀ c xs, H c = some (.tup xs) → c ≠ x := fun c xs r z => by subst z; rw [r] at mu; exact mu
  by_cases hb : b = x
  · subst hb; rw [upd_same] at q; cases q; exact new
  · rw [upd_ne hb] at q
    by_cases hbe : b = e
    · have q' : H b = some (.own x) := by
        rcases he with z | z
        · exact absurd (hbe.trans z) hb
        · rw [hbe]; exact z
      rw [q] at q'; cases q'
      obtain ⟨v, hv⟩ := heo
      exact ⟨v, by rw [hbe]; exact hv⟩
    · refine (ok b u q).stay (fun c v hc r => k c v ?_ r) (fun c r => by rw [upd_ne (nown c b r)]; exact r) fun c xs r => by rw [upd_ne (ntup c xs r)]; exact r
      rcases hc with rfl | hc
      · exact hbe
      · rintro rfl
        rcases he with z | z
        · exact nown c b hc z
        · rw [hc] at z; cases z; exact hb rfl
end
structure Un (fs ex : List Addr) (H H' : Hp) (h h' : Heap) : Prop where
  keep : ∀ b o, h.get? b = some o → H b = none → b ∉ fs → b ∉ ex → h'.get? b = some o
  slot : ∀ b o, h.get? b = some o → H b = none → b ∈ fs → b ∉ ex → ∃ sl, h'.get? b = some { o with slots := sl }
  free : ∀ b o, h.get? b = some o → H b = none → b ∉ ex → H' b = none
  there : ∀ b o, h.get? b = some o → b ∉ ex → ∃ o', h'.get? b = some o'
  tups : ∀ b xs, H b = some (.tup xs) → H' b = some (.tup xs)
  frzs : ∀ b o u, H b = some (.frz o u) → H' b = some (.frz o u)
  tbls : ∀ b ps, H b = some (.tbl ps) → ∃ more, H' b = some (.tbl (ps ++ more))
section
variable {fs fs' ex ex' : List Addr} {H H1 H2 : Hp} {h h1 h2 h' : Heap} {a x e : Addr} {o : HO}
theorem Un.any (u : Un fs ex H H1 h h1) {b : Addr} {ob : Obj} (q : h.get? b = some ob) (n : H b = none) (hx : b ∉ ex) : ∃ sl, h1.get? b = some { ob with slots := sl } := by
  by_cases hb : b ∈ fs
  · exact u.slot b ob q n hb hx
  · exact ⟨ob.slots, u.keep b ob q n hb hx⟩
theorem Un.kept (k : ∀ b u, h.get? b = some u → h'.get? b = some u) : Un fs ex H H h h' :=
  ⟨fun b ob q _ _ _ => k b ob q, fun b ob q _ _ _ => ⟨ob.slots, k b ob q⟩, fun _ _ _ n _ => n, fun b ob q _ => ⟨ob, k b ob q⟩, fun _ _ q => q, fun _ _ _ q => q, fun _ ps q => ⟨#[], by rw [q]; simp⟩⟩
theorem Un.refl : Un fs ex H H h h := Un.kept fun _ _ q => q
theorem Un.laid (k : ∀ b u, h.get? b = some u → h'.get? b = some u) (hp : h.objs.size ≤ a) (hn : H a = none) : Un fs ex H (upd H a o) h h' where
  keep := fun b u q _ _ _ => k b u q
  slot := fun b u q _ _ _ => ⟨u.slots, k b u q⟩
  free := fun b u q n _ => by rw [upd_ne (Nat.ne_of_lt (Nat.lt_of_lt_of_le (Heap.lt_size q) hp))]; exact n
  there := fun b u q _ => ⟨u, k b u q⟩
  tups := fun b xs q => by rw [upd_ne (ne_of_none q hn)]; exact q
  frzs := fun b u xs q => by rw [upd_ne (ne_of_none q hn)]; exact q
  tbls := fun b ps q => ⟨#[], by rw [upd_ne (ne_of_none q hn), q]; simp⟩
theorem Un.write (mu : Mut (H x)) (he : e = x ∨ H e = some (.own x)) (k : ∀ b u, b ≠ e → h.get? b = some u → h'.get? b = some u) (heo : ∃ u, h'.get? e = some u) : Un fs ex H (upd H x o) h h' := by
  have hx : ∀ b, H b = none → b ≠ x := fun b n z => by subst z; rw [n] at mu; exact mu
  have hb : ∀ b, H b = none → b ≠ e := fun b n z => by
    subst z
    rcases he with r | r
    · exact hx b n r
    · rw [n] at r; cases r
  have hm : ∀ b u, H b = some u → ¬ Mut (some u) → b ≠ x := fun b u q nm z => by subst z; rw [q] at mu; exact nm mu
  refine ⟨fun b u q n _ _ => k b u (hb b n) q, fun b u q n _ _ => ⟨u.slots, k b u (hb b n) q⟩, fun b u q n _ => by rw [upd_ne (hx b n)]; exact n, fun b u q _ => ?_,
    fun b xs q => by rw [upd_ne (hm b _ q fun z => z)]; exact q, fun b u xs q => by rw [upd_ne (hm b _ q fun z => z)]; exact q, fun b ps q => ⟨#[], by rw [upd_ne (hm b _ q fun z => z), q]; simp⟩⟩
  by_cases hbe : b = e
  · subst hbe; exact heo
  · exact ⟨u, k b u hbe q⟩
end
def trk (h : Heap) (H : Hp) : List Addr := (List.range h.objs.size).filter fun a => (H a).isSome
def hidT (h : Heap) (H : Hp) : Heap := PySem.W.hideAll h (trk h H)
theorem hidT_size (h : Heap) (H : Hp) : (hidT h H).objs.size = h.objs.size := PySem.W.hideAll_size _ _
theorem hidT_get {h : Heap} {H : Hp} {b : Addr} {o : Obj} (e : h.get? b = some o) (n : H b = none) : (hidT h H).get? b = some o :=
  PySem.W.hideAll_get _ e fun hm => by
    have q : (H b).isSome = true := (List.mem_filter.mp hm).2
    rw [n] at q; simp at q
theorem of_hidT {h : Heap} {H : Hp} {b : Addr} {o : Obj} (e : (hidT h H).get? b = some o) : h.get? b = some o ∧ H b = none := by
  have e' : h.get? b = some o := PySem.W.of_hideAll (trk h H) e
  refine ⟨e', ?_⟩
  cases q : H b with
  | none => rfl
  | some x =>
    have hm : b ∈ trk h H := List.mem_filter.mpr ⟨List.mem_range.mpr (Heap.lt_size e'), by simp [q]⟩
    have z : (hidT h H).get? b = none := PySem.W.hideAll_none (trk h H) hm
    rw [z] at e; cases e
end L2
namespace L2
open PySem PySem.Spec PyProof.Rows
structure Mod (K : PySem.W.Frag) (mg : Str → Option Value) (base : Heap) : Prop where
  kin : K.In base
  glob : base.Ns mainGlobals mg
  blt : ∃ mb, base.Ns builtinsNs mb ∧ ∀ x : Str, x ≠ "__name__" → mb x = bootBuiltins x
  nolimit : base.NoLimit
structure Cx where
  prog : Program
  w : World
  K : PySem.W.Frag
  mg : Str → Option Value
  base : Heap
  A : Around
  N : List Str
  s₀ : Shared
  H₀ : Hp
  env : Env
  outer : List Env
  stack : List Env
  ex : List Addr
  fn : Str → Bool
  calm : Bool
  pn : List (Addr × Obj)
  xe : Value → Shared → Prop
def frs (l : List Env) : List Addr := l.filterMap (·.frame)
abbrev Cx.fs (X : Cx) : List Addr := frs X.outer
def Vis (sc : Scope) (x : Str) : Prop := sc.names.lookup x = some .local ∨ sc.names.lookup x = some .cell ∨ sc.names.lookup x = some .free
def Loc (sc : Scope) (x : Str) : Prop := sc.names.lookup x = some .local ∨ sc.names.lookup x = some .cell
def Look (env : Env) (h : Heap) (m : Str → Option Value) (x : Str) (u : Value) : Prop :=
  (env.kindOf x = some .local ∧ m x = some u) ∨ ((env.kindOf x = some .cell ∨ env.kindOf x = some .free) ∧ ∃ c, env.cells.lookup x = some c ∧ h.IsCell c (some u))
structure Cx.Ok (X : Cx) : Prop where
  mod : Mod X.K X.mg X.base
  kind : X.env.scope.kind = .function
  glob : X.env.globals = mainGlobals
  blt : X.env.builtins = builtinsNs
  above : X.s₀.heap.objs.size ≤ X.env.locals
  inj : ∀ x y c, X.env.cells.lookup x = some c → X.env.cells.lookup y = some c → x = y
  has : ∀ x, (X.env.kindOf x = some .cell ∨ X.env.kindOf x = some .free) → ∃ c, X.env.cells.lookup x = some c
  cab : ∀ x c, X.fn x = true → X.env.cells.lookup x = some c → X.s₀.heap.objs.size ≤ c
  hd : X.calm = true → X.A.handled = none
  frames : X.A.frames = some X.stack
  stk : X.stack = X.outer ∨ (X.stack = X.env :: X.outer ∧ X.env.frame = some X.env.locals)
  exf : ∀ b ∈ X.ex, b ≠ X.env.locals ∧ ∀ x c, X.env.cells.lookup x = some c → c ≠ b
  bs : ∀ b o, X.base.get? b = some o → X.s₀.heap.get? b = some o ∧ X.H₀ b = none
  bsz : X.base.objs.size ≤ X.s₀.heap.objs.size
  noex : ∀ b o, X.base.get? b = some o → b ∉ X.ex
  exfs : ∀ b ∈ X.ex, b ∉ X.fs
  funs : X.s₀.heap.FunFrames X.base X.outer
  frf : ∀ b ∈ X.fs, X.H₀ b = none
structure Inv (X : Cx) (pins : List (Addr × Obj)) (σ : List (Option V)) (H : Hp) (s : Shared) : Prop where
  ok : X.Ok
  os : s.os = X.s₀.os
  bare : AllBare s.gens
  base : Un X.fs X.ex X.H₀ H X.s₀.heap s.heap
  loc : ∃ m, s.heap.Ns X.env.locals m ∧ ∀ (i : Nat) (x : Str) (v : V), X.N[i]? = some x → σ[i]? = some (some v) → Vis X.env.scope x → ∃ u, RelV v u ∧ Look X.env s.heap m x u
  cell : ∀ x c, X.env.cells.lookup x = some c → ∃ v, s.heap.IsCell c v
  free : H X.env.locals = none
  freeC : ∀ x c, X.env.cells.lookup x = some c → H c = none
  pin : ∀ p ∈ X.pn ++ pins, s.heap.get? p.1 = some p.2 ∧ H p.1 = none ∧ p.1 ≠ X.env.locals ∧ p.1 ∉ X.fs ∧ ∀ v, p.2.data ≠ .cell v
  hok : HOk X.prog X.w H s.heap
  len : σ.length = X.N.length
section
variable {X : Cx} {pins : List (Addr × Obj)} {σ : List (Option V)} {H H' : Hp} {s : Shared} {h' : Heap}
theorem Cx.Ok.nofr (ok : X.Ok) {b : Addr} {o : Obj} (e : X.base.get? b = some o) : b ∉ X.fs := fun hb => by
  have := (ok.funs.mem hb).1
  rw [e] at this; cases this
theorem Inv.bs (I : Inv X pins σ H s) : ∀ b o, X.base.get? b = some o → s.heap.get? b = some o ∧ H b = none := fun b o e =>
  ⟨I.base.keep b o (I.ok.bs b o e).1 (I.ok.bs b o e).2 (I.ok.nofr e) (I.ok.noex b o e), I.base.free b o (I.ok.bs b o e).1 (I.ok.bs b o e).2 (I.ok.noex b o e)⟩
theorem Inv.bk (I : Inv X pins σ H s) : ∀ b o, X.base.get? b = some o → s.heap.get? b = some o := fun b o e => (I.bs b o e).1
theorem Inv.mod (I : Inv X pins σ H s) : Mod X.K X.mg X.base := I.ok.mod
theorem Inv.kIn (I : Inv X pins σ H s) : X.K.In s.heap := I.ok.mod.kin.keeps I.bk
theorem Inv.fr (I : Inv X pins σ H s) : ∃ m, Fr X.base X.env.locals s.heap m :=
  let ⟨m, hn, _⟩ := I.loc
  ⟨m, hn, I.bk, Nat.le_trans I.ok.bsz I.ok.above⟩
theorem Inv.lt (I : Inv X pins σ H s) : X.env.locals < s.heap.objs.size := let ⟨_, hn, _⟩ := I.loc; hn.lt
theorem Inv.sz (I : Inv X pins σ H s) : X.s₀.heap.objs.size ≤ s.heap.objs.size := Nat.le_trans I.ok.above (Nat.le_of_lt I.lt)
theorem Inv.nofs (I : Inv X pins σ H s) {a : Addr} (h : s.heap.objs.size ≤ a) : a ∉ X.fs := fun hb => by
  obtain ⟨_, o, ho, _⟩ := I.ok.funs.mem hb
  exact absurd (Nat.lt_of_lt_of_le (Heap.lt_size ho) (Nat.le_trans I.sz h)) (Nat.lt_irrefl _)
theorem Inv.cne (I : Inv X pins σ H s) : ∀ x c, X.env.cells.lookup x = some c → c ≠ X.env.locals := fun x c e z => by
  obtain ⟨v, o, ho, hd⟩ := I.cell x c e
  obtain ⟨m, ⟨o', es, ep, ho', hd', _⟩, _⟩ := I.loc
  rw [z, ho'] at ho; cases ho; rw [hd'] at hd; cases hd
theorem Inv.funs (I : Inv X pins σ H s) : s.heap.FunFrames X.base X.outer := by
  have all : ∀ (l : List Env), (∀ b ∈ frs l, b ∈ X.fs) → X.s₀.heap.FunFrames X.base l → s.heap.FunFrames X.base l := by
    intro l
    induction l with
    | nil => intro _ _; trivial
    | cons env r ih =>
      intro hs hl
      obtain ⟨hk, ⟨L, o, hf, hn, ho, hd⟩, hr⟩ := hl
      have hL : L ∈ X.fs := hs L (by unfold frs; rw [List.filterMap_cons, hf]; exact List.mem_cons_self)
      obtain ⟨sl, e⟩ := I.base.slot L o ho (I.ok.frf L hL) hL fun z => I.ok.exfs L z hL
      exact ⟨hk, ⟨L, _, hf, hn, e, hd⟩, ih (fun b hb => hs b (by unfold frs; rw [List.filterMap_cons, hf]; exact List.mem_cons_of_mem _ hb)) hr⟩
  exact all X.outer (fun _ hb => hb) I.ok.funs
theorem Inv.stack (I : Inv X pins σ H s) : s.heap.FunFrames X.base X.stack := by
  rcases I.ok.stk with e | ⟨e, hf⟩
  · rw [e]; exact I.funs
  · rw [e]
    obtain ⟨m, hn, _⟩ := I.loc
    refine .cons (by rw [I.ok.kind]; decide) hf hn ?_ I.funs
    exact Heap.get?_none_of_le (Nat.le_trans I.ok.bsz I.ok.above)
theorem Inv.stkSub (I : Inv X pins σ H s) : ∀ b ∈ frs X.stack, b ∈ X.env.locals :: X.fs := fun b hb => by
  rcases I.ok.stk with e | ⟨e, hf⟩
  · rw [e] at hb; exact List.mem_cons_of_mem _ hb
  · rw [e] at hb
    unfold frs at hb
    rw [List.filterMap_cons, hf] at hb
    exact hb
theorem Inv.stkFree (I : Inv X pins σ H s) : ∀ b ∈ frs X.stack, H b = none := fun b hb => by
  rcases List.mem_cons.mp (I.stkSub b hb) with e | hb
  · rw [e]; exact I.free
  · obtain ⟨_, o, ho, _⟩ := I.ok.funs.mem hb
    exact I.base.free b o ho (I.ok.frf b hb) fun z => I.ok.exfs b z hb
theorem Inv.step {g' : Array GenState} {t' : Nat} {d' : Drawn} {ch : List Addr} (I : Inv X pins σ H s)
    (hch : ∀ b ∈ ch, (b ∈ X.ex ∨ X.s₀.heap.objs.size ≤ b) ∧ b ≠ X.env.locals ∧ (∀ x c, X.env.cells.lookup x = some c → c ≠ b) ∧ ∀ p ∈ X.pn ++ pins, p.1 ≠ b)
    (keep : ∀ b o, b ≠ X.env.locals → b ∉ X.fs → b ∉ ch → s.heap.get? b = some o → H b = none → h'.get? b = some o)
    (slot : ∀ b o, b ≠ X.env.locals → b ∈ X.fs → b ∉ ch → s.heap.get? b = some o → H b = none → ∃ sl, h'.get? b = some { o with slots := sl }) (free : ∀ b o, b ∉ ch → s.heap.get? b = some o → H b = none → H' b = none)
    (there : ∀ b o, b ∉ ch → s.heap.get? b = some o → ∃ o', h'.get? b = some o')
    (tups : ∀ b xs, H b = some (.tup xs) → H' b = some (.tup xs)) (frzs : ∀ b o u, H b = some (.frz o u) → H' b = some (.frz o u)) (tbls : ∀ b ps, H b = some (.tbl ps) → ∃ more, H' b = some (.tbl (ps ++ more)))
    (ns : ∀ m, s.heap.Ns X.env.locals m → h'.Ns X.env.locals m) (hok : HOk X.prog X.w H' h') (hg : AllBare g') :
    Inv X pins σ H' { s with heap := h', gens := g', drawn := d', toks := t' } := by
  have neL : ∀ b o, X.s₀.heap.get? b = some o → b ≠ X.env.locals := fun b o e => Nat.ne_of_lt (Nat.lt_of_lt_of_le (Heap.lt_size e) I.ok.above)
  have neC : ∀ b o, X.s₀.heap.get? b = some o → b ∉ X.ex → b ∉ ch := fun b o e hx hb => by
    rcases (hch b hb).1 with z | z
    · exact hx z
    · exact absurd (Nat.lt_of_lt_of_le (Heap.lt_size e) z) (Nat.lt_irrefl _)
  have cellK : ∀ x c, X.env.cells.lookup x = some c → ∀ v, s.heap.IsCell c v → h'.IsCell c v := fun x c e v ⟨o, ho, hd⟩ => by
    have nch : c ∉ ch := fun z => (hch c z).2.2.1 x c e rfl
    by_cases hc : c ∈ X.fs
    · obtain ⟨sl, q⟩ := slot c o (I.cne x c e) hc nch ho (I.freeC x c e)
      exact ⟨_, q, hd⟩
    · exact ⟨o, keep c o (I.cne x c e) hc nch ho (I.freeC x c e), hd⟩
  refine ⟨I.ok, I.os, hg, ⟨fun b o e n hb hx => ?_, fun b o e n hb hx => ?_, fun b o e n hx => ?_, fun b o e hx => ?_, fun b xs e => tups b xs (I.base.tups b xs e), fun b o xs e => frzs b o xs (I.base.frzs b o xs e), fun b ps e => ?_⟩, ?_, fun x c e => ?_, ?_, fun x c e => ?_, fun p hp => ?_, hok, I.len⟩
  · exact keep b o (neL b o e) hb (neC b o e hx) (I.base.keep b o e n hb hx) (I.base.free b o e n hx)
  · obtain ⟨sl, e1⟩ := I.base.slot b o e n hb hx
    obtain ⟨sl', e2⟩ := slot b _ (neL b o e) hb (neC b o e hx) e1 (I.base.free b o e n hx)
    exact ⟨sl', e2⟩
  · obtain ⟨o', e1⟩ := I.base.there b o e hx
    exact free b o' (neC b o e hx) e1 (I.base.free b o e n hx)
  · obtain ⟨o', e1⟩ := I.base.there b o e hx
    exact there b o' (neC b o e hx) e1
  · obtain ⟨m1, e1⟩ := I.base.tbls b ps e
    obtain ⟨m2, e2⟩ := tbls b _ e1
    exact ⟨m1 ++ m2, by rw [e2, Array.append_assoc]⟩
  · obtain ⟨m, hn, hl⟩ := I.loc
    refine ⟨m, ns m hn, fun i x v e1 e2 e3 => ?_⟩
    obtain ⟨u, r, l⟩ := hl i x v e1 e2 e3
    refine ⟨u, r, ?_⟩
    rcases l with l | ⟨k, c, e, z⟩
    · exact .inl l
    · exact .inr ⟨k, c, e, cellK x c e _ z⟩
  · obtain ⟨v, z⟩ := I.cell x c e
    exact ⟨v, cellK x c e v z⟩
  · obtain ⟨m, ⟨o, _, _, ho, _⟩, _⟩ := I.loc
    exact free _ o (fun z => (hch _ z).2.1 rfl) ho I.free
  · obtain ⟨v, o, ho, hd⟩ := I.cell x c e
    exact free c o (fun z => (hch c z).2.2.1 x c e rfl) ho (I.freeC x c e)
  · obtain ⟨e, n, ne, nf, d⟩ := I.pin p hp
    have nch : p.1 ∉ ch := fun z => (hch p.1 z).2.2.2 p hp rfl
    exact ⟨keep p.1 p.2 ne nf nch e n, free p.1 p.2 nch e n, ne, nf, d⟩
theorem Inv.un {t' : Nat} (I : Inv X pins σ H s) (u : Un X.fs [] H H' s.heap h') (hok : HOk X.prog X.w H' h') : Inv X pins σ H' { s with heap := h', toks := t' } := by
  obtain ⟨m, ⟨o, es, ep, ho, r⟩, _⟩ := id I.loc
  obtain ⟨sl, hL⟩ := u.any ho I.free (by simp)
  exact I.step (g' := s.gens) (d' := s.drawn) (ch := []) (fun _ z => nomatch z) (fun b o _ hb _ e n => u.keep b o e n hb (by simp)) (fun b o _ hb _ e n => u.slot b o e n hb (by simp)) (fun b o _ e n => u.free b o e n (by simp)) (fun b o _ e => u.there b o e (by simp)) u.tups u.frzs u.tbls (fun m' hm => by
    obtain ⟨o', es', ep', ho', r'⟩ := hm
    rw [ho] at ho'; cases ho'
    exact ⟨_, es', ep', hL, r'⟩) hok I.bare
theorem Inv.call {g' : Array GenState} {t' : Nat} {d' : Drawn} {ch : List Addr} (I : Inv X pins σ H s) (u : Un (frs X.stack) ch H H' s.heap h') (hok : HOk X.prog X.w H' h') (hg : AllBare g')
    (hch : ∀ b ∈ ch, (b ∈ X.ex ∨ X.s₀.heap.objs.size ≤ b) ∧ b ≠ X.env.locals ∧ (∀ x c, X.env.cells.lookup x = some c → c ≠ b) ∧ ∀ p ∈ X.pn ++ pins, p.1 ≠ b) :
    Inv X pins σ H' { s with heap := h', gens := g', drawn := d', toks := t' } := by
  obtain ⟨m, ⟨o, es, ep, ho, r⟩, _⟩ := id I.loc
  obtain ⟨sl, hL⟩ := u.any ho I.free fun z => (hch _ z).2.1 rfl
  exact I.step (ch := ch) hch (fun b o hL hb hc e n => u.keep b o e n (fun z => (List.mem_cons.mp (I.stkSub b z)).elim hL hb) hc) (fun b o _ _ hc e n => u.any e n hc) (fun b o hc e n => u.free b o e n hc) (fun b o hc e => u.there b o e hc) u.tups u.frzs u.tbls (fun m' hm => by
    obtain ⟨o', es', ep', ho', r'⟩ := hm
    rw [ho] at ho'; cases ho'
    exact ⟨_, es', ep', hL, r'⟩) hok hg
theorem Inv.turned {t' : Nat} {it : Addr} (I : Inv X pins σ H s) (k : ∀ b o, b ≠ it → s.heap.get? b = some o → h'.get? b = some o) (hn : H it = none) (hL : it ≠ X.env.locals)
    (h1 : it ∈ X.ex ∨ X.s₀.heap.objs.size ≤ it) (h2 : ∀ x c, X.env.cells.lookup x = some c → c ≠ it) (h3 : ∀ p ∈ X.pn ++ pins, p.1 ≠ it) : Inv X pins σ H { s with heap := h', toks := t' } := by
  have nit : ∀ b u, H b = some u → b ≠ it := fun b u e z => by rw [z, hn] at e; cases e
  refine I.step (g' := s.gens) (d' := s.drawn) (ch := [it]) (fun b hb => ?_) (fun b o _ _ hc e _ => k b o (fun z => hc (by simp [z])) e) (fun b o _ _ hc e _ => ⟨o.slots, k b o (fun z => hc (by simp [z])) e⟩) (fun _ _ _ _ n => n)
    (fun b o hc e => ⟨o, k b o (fun z => hc (by simp [z])) e⟩) (fun _ _ e => e) (fun _ _ _ e => e) (fun b ps e => ⟨#[], by rw [e]; simp⟩) (fun m hm => ?_) (fun b u e => ?_) I.bare
  · have e : b = it := by simpa using hb
    subst e
    exact ⟨h1, hL, h2, h3⟩
  · obtain ⟨o, es, ep, ho, r⟩ := hm
    exact ⟨o, es, ep, k _ o (Ne.symm hL) ho, r⟩
  · refine (I.hok b u e).stay (fun c v hc q => k c v ?_ q) (fun _ q => q) fun _ _ q => q
    rcases hc with z | z
    · rw [z]; exact nit b u e
    · exact nit c _ z
theorem Inv.tok (I : Inv X pins σ H s) (t : Nat) : Inv X pins σ H { s with toks := t } := I.un (h' := s.heap) (t' := t) Un.refl I.hok
theorem Inv.kept {t' : Nat} (I : Inv X pins σ H s) (k : ∀ b u, s.heap.get? b = some u → h'.get? b = some u) : Inv X pins σ H { s with heap := h', toks := t' } := I.un (Un.kept k) (I.hok.kept k)
theorem Inv.laid {a : Addr} {o : HO} {t' : Nat} (I : Inv X pins σ H s) (k : ∀ b u, s.heap.get? b = some u → h'.get? b = some u) (hp : s.heap.objs.size ≤ a) (new : ObjOk X.prog X.w (upd H a o) h' a o) :
    Inv X pins σ (upd H a o) { s with heap := h', toks := t' } := I.un (Un.laid k hp (I.hok.fresh hp)) (I.hok.laid k hp new)
theorem Inv.write {x e : Addr} {o : HO} {t' : Nat} (I : Inv X pins σ H s) (mu : Mut (H x)) (he : e = x ∨ H e = some (.own x)) (k : ∀ b u, b ≠ e → s.heap.get? b = some u → h'.get? b = some u) (heo : ∃ u, h'.get? e = some u)
    (new : ObjOk X.prog X.w (upd H x o) h' x o) : Inv X pins σ (upd H x o) { s with heap := h', toks := t' } := I.un (Un.write mu he k heo) (I.hok.write mu he k heo new)
theorem Inv.weak {σ' : List (Option V)} (I : Inv X pins σ H s) (hl : σ'.length = σ.length) (w : ∀ (i : Nat) v, σ'[i]? = some (some v) → σ[i]? = some (some v)) : Inv X pins σ' H s :=
  ⟨I.ok, I.os, I.bare, I.base, let ⟨m, hn, hl'⟩ := I.loc; ⟨m, hn, fun i x v e1 e2 e3 => hl' i x v e1 (w i v e2) e3⟩, I.cell, I.free, I.freeC, I.pin, I.hok, hl.trans I.len⟩
theorem Inv.pins_of {pins' : List (Addr × Obj)} (I : Inv X pins σ H s) (h : ∀ p ∈ pins', s.heap.get? p.1 = some p.2 ∧ H p.1 = none ∧ p.1 ≠ X.env.locals ∧ p.1 ∉ X.fs ∧ ∀ v, p.2.data ≠ .cell v) : Inv X pins' σ H s :=
  ⟨I.ok, I.os, I.bare, I.base, I.loc, I.cell, I.free, I.freeC, fun p hp => (List.mem_append.mp hp).elim (fun z => I.pin p (List.mem_append_left _ z)) (h p), I.hok, I.len⟩
theorem nodup_ix {N : List Str} (hN : N.Nodup) {i j : Nat} {x : Str} (a : N[i]? = some x) (b : N[j]? = some x) : i = j := by
  obtain ⟨h1, e1⟩ := List.getElem?_eq_some_iff.mp a
  obtain ⟨h2, e2⟩ := List.getElem?_eq_some_iff.mp b
  exact (List.getElem_inj hN).mp (e1.trans e2.symm)
theorem store_ok2 {M : Model} {A : Around} {E : Value → Shared → Prop} {i : Nat} {x : Str} {v : V} {u : Value} {Q : Unit → Shared → Prop} (I : Inv X pins σ H s) (hN : X.N.Nodup) (hi : X.N[i]? = some x) (hx : Loc X.env.scope x) (r : RelV v u)
    (h : ∀ s', Inv X pins (σ.set i (some v)) H s' → (∃ a, Heap.SameBut a s.heap s'.heap ∧ (a = X.env.locals ∨ X.env.cells.lookup x = some a)) → Q () s') (hf : X.fn x = true ∨ X.env.scope.names.lookup x = some .local := by first | exact .inl rfl | exact .inr rfl | assumption) : wpAny M A (storeName X.env x u) Q E s := by
  obtain ⟨m, hn, hl⟩ := id I.loc
  have hcls : (X.env.scope.kind == .class || (X.env.scope.kind == .module && X.env.locals != X.env.globals)) = false := by rw [I.ok.kind]; rfl
  have hiσ : i < σ.length := by rw [I.len]; exact (List.getElem?_eq_some_iff.mp hi).1
  have cne := I.cne
  have tracked : ∀ {a : Addr} {h' : Heap}, (∃ o, s.heap.get? a = some o ∧ H a = none) → Heap.SameBut a s.heap h' → HOk X.prog X.w H h' := fun {a h'} ha hs b ob e => by
    obtain ⟨_, _, hfree⟩ := ha
    refine (I.hok b ob e).stay (fun c w' hc q => (hs.2 c ?_).trans q) (fun _ q => q) fun _ _ q => q
    rintro rfl
    rcases hc with rfl | hc
    · rw [hfree] at e; cases e
    · rw [hfree] at hc; cases hc
  rcases hx with hk | hk
  · refine wpAny_storeName_local hk hn (fun h' hn' hs => ?_) hcls
    obtain ⟨oL, _, _, hoL, _⟩ := id hn
    refine h _ ⟨I.ok, I.os, I.bare, ⟨fun b o e n hb hx => ?_, fun b o e n hb hx => ?_, I.base.free, fun b o e hx => ?_, I.base.tups, I.base.frzs, I.base.tbls⟩, ⟨_, hn', fun j y v' e1 e2 e3 => ?_⟩, fun y c e => ?_, I.free, I.freeC, fun p hp => ?_, tracked ⟨oL, hoL, I.free⟩ hs, by simpa using I.len⟩ ⟨_, hs, .inl rfl⟩
    · exact (hs.2 b (Nat.ne_of_lt (Nat.lt_of_lt_of_le (Heap.lt_size e) I.ok.above))).trans (I.base.keep b o e n hb hx)
    · obtain ⟨sl, e1⟩ := I.base.slot b o e n hb hx
      exact ⟨sl, (hs.2 b (Nat.ne_of_lt (Nat.lt_of_lt_of_le (Heap.lt_size e) I.ok.above))).trans e1⟩
    · obtain ⟨o', e1⟩ := I.base.there b o e hx
      exact ⟨o', (hs.2 b (Nat.ne_of_lt (Nat.lt_of_lt_of_le (Heap.lt_size e) I.ok.above))).trans e1⟩
    · by_cases hj : j = i
      · subst hj
        rw [hi] at e1; cases e1
        rw [List.getElem?_set_self hiσ] at e2
        cases e2
        exact ⟨u, r, .inl ⟨hk, by simp⟩⟩
      · rw [List.getElem?_set_ne (Ne.symm hj)] at e2
        obtain ⟨u', r', q⟩ := hl j y v' e1 e2 e3
        refine ⟨u', r', ?_⟩
        rcases q with ⟨k, e⟩ | ⟨k, c, e, z⟩
        · refine .inl ⟨k, ?_⟩
          have : y ≠ x := fun e => hj (nodup_ix hN e1 (e ▸ hi))
          simp [this, e]
        · exact .inr ⟨k, c, e, z.sameBut hs (cne y c e)⟩
    · obtain ⟨w', z⟩ := I.cell y c e
      exact ⟨w', z.sameBut hs (cne y c e)⟩
    · obtain ⟨e, n, ne, nf, d⟩ := I.pin p hp
      exact ⟨(hs.2 p.1 ne).trans e, n, ne, nf, d⟩
  · have hfn : X.fn x = true := by
      rcases hf with z | z
      · exact z
      · rw [z] at hk; cases hk
    obtain ⟨c, hc⟩ := I.ok.has x (.inl hk)
    obtain ⟨w', z⟩ := I.cell x c hc
    refine wpAny_storeName_cell I.ok.kind hk hc z (fun h' hc' hs => ?_)
    obtain ⟨oc, hoc, hocd⟩ := id z
    refine h { s with heap := h' } ⟨I.ok, I.os, I.bare, ⟨fun b o e n hb hx => ?_, fun b o e n hb hx => ?_, I.base.free, fun b o e hx => ?_, I.base.tups, I.base.frzs, I.base.tbls⟩, ⟨m, hn.sameBut hs (Ne.symm (cne x c hc)), fun j y v' e1 e2 e3 => ?_⟩, fun y c' e => ?_, I.free, I.freeC, fun p hp => ?_, tracked ⟨oc, hoc, I.freeC x c hc⟩ hs, by simpa using I.len⟩ ⟨c, hs, .inr hc⟩
    · exact (hs.2 b (Nat.ne_of_lt (Nat.lt_of_lt_of_le (Heap.lt_size e) (I.ok.cab x c hfn hc)))).trans (I.base.keep b o e n hb hx)
    · obtain ⟨sl, e1⟩ := I.base.slot b o e n hb hx
      exact ⟨sl, (hs.2 b (Nat.ne_of_lt (Nat.lt_of_lt_of_le (Heap.lt_size e) (I.ok.cab x c hfn hc)))).trans e1⟩
    · obtain ⟨o', e1⟩ := I.base.there b o e hx
      exact ⟨o', (hs.2 b (Nat.ne_of_lt (Nat.lt_of_lt_of_le (Heap.lt_size e) (I.ok.cab x c hfn hc)))).trans e1⟩
    · by_cases hj : j = i
      · subst hj
        rw [hi] at e1; cases e1
        rw [List.getElem?_set_self hiσ] at e2
        cases e2
        exact ⟨u, r, .inr ⟨.inl hk, c, hc, hc'⟩⟩
      · rw [List.getElem?_set_ne (Ne.symm hj)] at e2
        obtain ⟨u', r', q⟩ := hl j y v' e1 e2 e3
        refine ⟨u', r', ?_⟩
        rcases q with q | ⟨k, c', e, z'⟩
        · exact .inl q
        · refine .inr ⟨k, c', e, z'.sameBut hs ?_⟩
          rintro rfl
          exact hj (nodup_ix hN e1 (I.ok.inj _ _ _ e hc ▸ hi))
    · by_cases hcc : c' = c
      · subst hcc; exact ⟨_, hc'⟩
      · obtain ⟨w2, z2⟩ := I.cell y c' e
        exact ⟨w2, z2.sameBut hs hcc⟩
    · obtain ⟨e, n, ne, nf, d⟩ := I.pin p hp
      refine ⟨(hs.2 p.1 ?_).trans e, n, ne, nf, d⟩
      intro q
      rw [q, hoc] at e
      have q' : oc = p.2 := Option.some.inj e
      exact d w' (by rw [← q']; exact hocd)
theorem store_ok {M : Model} {A : Around} {E : Value → Shared → Prop} {i : Nat} {x : Str} {v : V} {u : Value} {Q : Unit → Shared → Prop} (I : Inv X pins σ H s) (hN : X.N.Nodup) (hi : X.N[i]? = some x) (hx : Loc X.env.scope x) (r : RelV v u)
    (h : ∀ s', Inv X pins (σ.set i (some v)) H s' → Q () s') (hf : X.fn x = true ∨ X.env.scope.names.lookup x = some .local := by first | exact .inl rfl | exact .inr rfl | assumption) : wpAny M A (storeName X.env x u) Q E s :=
  store_ok2 I hN hi hx r (fun s' I' _ => h s' I') hf
theorem Inv.call' {s' : Shared} {ch : List Addr} (I : Inv X pins σ H s) (ho : s'.os = s.os) (u : Un (frs X.stack) ch H H' s.heap s'.heap) (hok : HOk X.prog X.w H' s'.heap) (hg : AllBare s'.gens)
    (hch : ∀ b ∈ ch, (b ∈ X.ex ∨ X.s₀.heap.objs.size ≤ b) ∧ b ≠ X.env.locals ∧ (∀ x c, X.env.cells.lookup x = some c → c ≠ b) ∧ ∀ p ∈ X.pn ++ pins, p.1 ≠ b) : Inv X pins σ H' s' := by
  obtain ⟨h', g', d', t', o'⟩ := s'
  have e : o' = s.os := ho
  subst e
  exact I.call (g' := g') (t' := t') (d' := d') u hok hg hch
end
abbrev XK := Value → Option Addr → Hp → Prop
abbrev St := List (Option V)
abbrev VK := V → Hp → Prop
abbrev TE := St → Hp → VK → Prop
abbrev TT := St → Hp → (Bool → Hp → Prop) → Prop
abbrev TA := St → Hp → (List V → Hp → Prop) → Prop
structure Ends where
  nx : St → Hp → Prop
  rt : VK
  bk : St → Hp → Prop := fun _ _ => False
  ct : St → Hp → Prop := fun _ _ => False
abbrev TS := Ends → St → Hp → Prop
def EP (X : Cx) (pins : List (Addr × Obj)) (σ : St) (Q : VK) (u : Value) (s' : Shared) : Prop := ∃ v H', Inv X pins σ H' s' ∧ RelV v u ∧ Q v H'
def TP (X : Cx) (pins : List (Addr × Obj)) (σ : St) (Q : Bool → Hp → Prop) (b : Bool) (s' : Shared) : Prop := ∃ H', Inv X pins σ H' s' ∧ Q b H'
def AP (X : Cx) (pins : List (Addr × Obj)) (σ : St) (Q : List V → Hp → Prop) (us : List Value) (s' : Shared) : Prop := ∃ vs H', Inv X pins σ H' s' ∧ Vals vs us ∧ Q vs H'
def SP (X : Cx) (pins : List (Addr × Obj)) (D : Ends) (f : Flow) (s' : Shared) : Prop :=
  match f with
  | .next => ∃ σ' H', Inv X pins σ' H' s' ∧ D.nx σ' H'
  | .brk => ∃ σ' H', Inv X pins σ' H' s' ∧ D.bk σ' H'
  | .cont => ∃ σ' H', Inv X pins σ' H' s' ∧ D.ct σ' H'
  | .ret u => ∃ v σ' H', Inv X pins σ' H' s' ∧ RelV v u ∧ D.rt v H'
def PE (X : Cx) (e : Expr) (t : TE) : Prop :=
  ∀ (pins : List (Addr × Obj)) (s : Shared) (σ : St) (H : Hp) (Q : VK), Inv X pins σ H s → t σ H Q → wpAny (model X.prog X.w) X.A (eval e X.env) (EP X pins σ Q) X.xe s
def PT (X : Cx) (e : Expr) (t : TT) : Prop :=
  ∀ (pins : List (Addr × Obj)) (s : Shared) (σ : St) (H : Hp) (Q : Bool → Hp → Prop), Inv X pins σ H s → t σ H Q → wpAny (model X.prog X.w) X.A (isTrue e X.env (eval e X.env)) (TP X pins σ Q) X.xe s
def PW (X : Cx) (e : Expr) (t : TT) : Prop :=
  ∀ (whole : Sem Value) (pins : List (Addr × Obj)) (s : Shared) (σ : St) (H : Hp) (Q : Bool → Hp → Prop), Inv X pins σ H s → t σ H Q → wpAny (model X.prog X.w) X.A (isTrue e X.env whole) (TP X pins σ Q) X.xe s
theorem PW.pt {X : Cx} {e : Expr} {t : TT} (h : PW X e t) : PT X e t := h _
def PA (X : Cx) (es : List Expr) (t : TA) : Prop :=
  ∀ (pos : Pos) (pins : List (Addr × Obj)) (s : Shared) (σ : St) (H : Hp) (Q : List V → Hp → Prop), Inv X pins σ H s → t σ H Q → wpAny (model X.prog X.w) X.A (spliced (backTo pos (starEach es X.env))) (AP X pins σ Q) X.xe s
def PS (X : Cx) (st : Stmt) (t : TS) : Prop :=
  ∀ (pins : List (Addr × Obj)) (s : Shared) (σ : St) (H : Hp) (D : Ends), Inv X pins σ H s → t D σ H → wpAny (model X.prog X.w) X.A (exec st X.env) (SP X pins D) X.xe s
def PSs (X : Cx) (st : List Stmt) (t : TS) : Prop :=
  ∀ (pins : List (Addr × Obj)) (s : Shared) (σ : St) (H : Hp) (D : Ends), Inv X pins σ H s → t D σ H → wpAny (model X.prog X.w) X.A (execs st X.env) (SP X pins D) X.xe s
theorem thn {α : Type} {t : Sem α} {Q Q' : α → Shared → Prop} {M : Model} {A : Around} {E : Value → Shared → Prop} {s : Shared} (h : wpAny M A t Q E s) (hQ : ∀ a s, Q a s → Q' a s) : wpAny M A t Q' E s := wpAny_mono h hQ fun _ _ x => x
end L2
namespace L2
open PySem PySem.Spec PyProof.Rows
section
variable {X : Cx}
theorem bin {a b : Expr} {ta tb : TE} (ha : PE X a ta) (hb : PE X b tb) {pins : List (Addr × Obj)} {s : Shared} {σ : St} {H : Hp} {R : V → V → Hp → Prop} (I : Inv X pins σ H s) (h : ta σ H fun x H1 => tb σ H1 fun y H2 => R x y H2)
    {α : Type} {Q : α → Shared → Prop} {f : Value → Value → Sem α}
    (hf : ∀ v u s2 x y H2, Inv X pins σ H2 s2 → RelV x v → RelV y u → R x y H2 → wpAny (model X.prog X.w) X.A (f v u) Q X.xe s2) :
    wpAny (model X.prog X.w) X.A (eval a X.env) (fun v s₁ => wpAny (model X.prog X.w) X.A (eval b X.env) (fun u s₂ => wpAny (model X.prog X.w) X.A (f v u) Q X.xe s₂) X.xe s₁) X.xe s := by
  refine thn (ha pins s σ H _ I h) fun v s1 ⟨x, H1, I1, r1, q1⟩ => ?_
  refine thn (hb pins s1 σ H1 _ I1 q1) fun u s2 ⟨y, H2, I2, r2, q2⟩ => ?_
  exact hf v u s2 x y H2 I2 r1 r2 q2
def tVar (i : Nat) : TE := fun σ H Q => ∃ v, σ[i]? = some (some v) ∧ Q v H
def tC (v : V) : TE := fun _ H Q => Q v H
theorem pe_var {i : Nat} {x : Str} {pos : Pos} (hN : X.N[i]? = some x) (hv : Vis X.env.scope x) (hd : (x == ("__debug__" : Str)) = false := by decide) (hcd : (x == ("__classdict__" : Str)) = false := by decide) : PE X (.Name x pos) (tVar i) := by
  intro pins s σ H Q I h
  obtain ⟨v, e, h⟩ := h
  obtain ⟨m, hn, hl⟩ := I.loc
  obtain ⟨u, r, l⟩ := hl i x v hN e hv
  have fin : EP X pins σ Q u s := ⟨v, H, I, r, h⟩
  rcases l with ⟨hk, hm⟩ | ⟨hk, c, hc, hcell⟩
  · exact wpAny_Name (wpAny_loadName_local I.ok.kind hk hn hm fin) hd
  · rcases hk with hk | hk
    · exact wpAny_Name (wpAny_loadName_cell I.ok.kind hk hc hcell fin) hd
    · exact wpAny_Name (wpAny_loadName_free I.ok.kind hk hc hcell fin hcd) hd
theorem pe_int {i j pos} : PE X (.Constant (.int i) j pos) (tC (.int i)) := fun _ _ _ H _ I h => wpAny_Constant_int ⟨.int i, H, I.tok _, ⟨_, rfl⟩, h⟩
theorem pe_non {j pos} : PE X (.Constant .none j pos) (tC .non) := fun _ _ _ H _ I h => Constant_none ⟨.non, H, I, rfl, h⟩
theorem pe_str {x j pos} : PE X (.Constant (.str x) j pos) (tC (.str x)) := fun _ _ _ H _ I h => Calls.Constant_str ⟨.str x, H, I.tok _, ⟨_, rfl⟩, h⟩
def Gl (X : Cx) (x : Str) : Prop := X.env.kindOf x = some .globalImplicit
theorem ld_glob {E : Value → Shared → Prop} {pins : List (Addr × Obj)} {s : Shared} {σ : St} {H : Hp} {x : Str} {u : Value} {pos : Pos} {Q : Value → Shared → Prop} (I : Inv X pins σ H s) (hg : Gl X x) (hm : X.mg x = some u) (h : Q u s)
    (hd : (x == ("__debug__" : Str)) = false := by decide) : wpAny (model X.prog X.w) X.A (eval (.Name x pos) X.env) Q E s :=
  Calls.Name_function_global I.ok.kind hg (Calls.loadGlobal_global (by rw [I.ok.glob]; exact I.mod.glob.keeps I.bk) hm h) hd
theorem ld_blt {E : Value → Shared → Prop} {pins : List (Addr × Obj)} {s : Shared} {σ : St} {H : Hp} {x : Str} {u : Value} {pos : Pos} {Q : Value → Shared → Prop} (I : Inv X pins σ H s) (hg : Gl X x) (hm : X.mg x = none) (hv : bootBuiltins x = some u) (h : Q u s)
    (hn : x ≠ "__name__" := by decide) (hd : (x == ("__debug__" : Str)) = false := by decide) : wpAny (model X.prog X.w) X.A (eval (.Name x pos) X.env) Q E s := by
  obtain ⟨mb, h1, h2⟩ := I.mod.blt
  exact Calls.Name_function_global I.ok.kind hg (Calls.loadGlobal_builtin (by rw [I.ok.glob]; exact I.mod.glob.keeps I.bk) hm (by rw [I.ok.blt]; exact h1.keeps I.bk) ((h2 x hn).trans hv) h) hd
theorem pe_glob {x : Str} {v : V} {u : Value} {pos : Pos} (hg : Gl X x) (hm : X.mg x = some u) (r : RelV v u) (hd : (x == ("__debug__" : Str)) = false := by decide) : PE X (.Name x pos) (tC v) :=
  fun _ _ _ H _ I h => ld_glob I hg hm ⟨v, H, I, r, h⟩ hd
variable {a b : Expr} {ta tb : TE} {pos : Pos}
def PC (X : Cx) (op : CmpOp) (a b : Expr) (t : TE) : Prop :=
  ∀ (pins : List (Addr × Obj)) (s : Shared) (σ : St) (H : Hp) (Q : VK), Inv X pins σ H s → t σ H Q →
    wpAny (model X.prog X.w) X.A (eval a X.env) (fun v s₁ => wpAny (model X.prog X.w) X.A (eval b X.env) (fun u s₂ => wpAny (model X.prog X.w) X.A (compareOp op v u) (EP X pins σ Q) X.xe s₂) X.xe s₁) X.xe s
def tB (t : TE) : TT := fun σ H Q => t σ H fun x H1 => ∃ c, x = .bl c ∧ Q c H1
theorem pt_cmp {op : CmpOp} {t : TE} (h : PC X op a b t) (h1 : behindInMarks op b = false := by first | exact nobehind _ (by decide) (by decide) | rfl) : PT X (.Compare a [op] [b] pos) (tB t) := by
  intro pins s σ H Q I hw
  refine wpAny_isTrue_Compare1 (thn (h pins s σ H _ I hw) fun v s1 h1 => thn h1 fun u s2 h2 => thn h2 fun c s3 ⟨x, H1, I1, r1, q1⟩ => ?_) h1
  obtain ⟨d, rfl, q⟩ := q1
  cases r1
  exact wpAny_truthy_bool ⟨H1, I1, q⟩
variable {tA tB' : TT} {rest : List Expr}
def tAnd (t u : TT) : TT := fun σ H Q => t σ H fun c H1 => if c = true then u σ H1 Q else Q false H1
def tOr (t u : TT) : TT := fun σ H Q => t σ H fun c H1 => if c = true then Q true H1 else u σ H1 Q
def tNot (t : TT) : TT := fun σ H Q => t σ H fun c H1 => Q (!c) H1
theorem pw_and1 (ha : PT X a tA) : PW X (.BoolOp .And [a] pos) tA := by
  intro wh pins s σ H Q I h
  refine isTrue_and (thn (ha pins s σ H Q I h) fun c s1 e => ?_)
  cases c with
  | true => exact isTrue_and_nil e
  | false => exact e
theorem pw_or1 (ha : PT X a tA) : PW X (.BoolOp .Or [a] pos) tA := by
  intro wh pins s σ H Q I h
  refine isTrue_or (thn (ha pins s σ H Q I h) fun c s1 e => ?_)
  cases c with
  | false => exact isTrue_or_nil e
  | true => exact e
theorem pw_and (ha : PT X a tA) (hb : PW X (.BoolOp .And (b :: rest) pos) tB') : PW X (.BoolOp .And (a :: b :: rest) pos) (tAnd tA tB') := by
  intro wh pins s σ H Q I h
  refine isTrue_and (thn (ha pins s σ H _ I h) fun c s1 ⟨H1, I1, q1⟩ => ?_)
  cases c with
  | true => exact hb wh pins s1 σ H1 Q I1 q1
  | false => exact ⟨H1, I1, q1⟩
theorem pw_or (ha : PT X a tA) (hb : PW X (.BoolOp .Or (b :: rest) pos) tB') : PW X (.BoolOp .Or (a :: b :: rest) pos) (tOr tA tB') := by
  intro wh pins s σ H Q I h
  refine isTrue_or (thn (ha pins s σ H _ I h) fun c s1 ⟨H1, I1, q1⟩ => ?_)
  cases c with
  | true => exact ⟨H1, I1, q1⟩
  | false => exact hb wh pins s1 σ H1 Q I1 q1
theorem pt_not (ha : PT X a tA) : PT X (.UnaryOp .Not a pos) (tNot tA) := by
  intro pins s σ H Q I h
  exact isTrue_not (ha pins s σ H (fun c H1 => Q (!c) H1) I h)
def tAndV (ta tb : TE) : TE := fun σ H Q => ta σ H fun x H1 => ∃ c, x = .bl c ∧ if c = true then tb σ H1 Q else Q (.bl false) H1
theorem pe_one {op} {t : TE} (h : PE X a t) : PE X (.BoolOp op [a] pos) t := fun pins s σ H Q I hw => BoolOp_one (h pins s σ H Q I hw)
theorem pe_and (ha : PE X a ta) (hb : PE X (.BoolOp .And (b :: rest) pos) tb) : PE X (.BoolOp .And (a :: b :: rest) pos) (tAndV ta tb) := by
  intro pins s σ H Q I h
  refine BoolOp_and (thn (ha pins s σ H _ I h) fun v s1 ⟨x, H1, I1, r1, q1⟩ => ?_)
  obtain ⟨c, rfl, q1⟩ := q1
  cases r1
  refine wpAny_truthy_bool ?_
  cases c with
  | true => exact hb pins s1 σ H1 Q I1 q1
  | false => exact ⟨.bl false, H1, I1, rfl, q1⟩
def tIf (t : TT) (ta tb : TE) : TE := fun σ H Q => t σ H fun c H1 => if c = true then ta σ H1 Q else tb σ H1 Q
theorem pe_ifExp {c : Expr} (hc : PT X c tA) (ha : PE X a ta) (hb : PE X b tb) : PE X (.IfExp c a b pos) (tIf tA ta tb) := by
  intro pins s σ H Q I h
  refine wpAny_IfExp (thn (hc pins s σ H _ I h) fun d s1 ⟨H1, I1, q1⟩ => ?_)
  cases d with
  | true => exact ha pins s1 σ H1 Q I1 q1
  | false => exact hb pins s1 σ H1 Q I1 q1
end
end L2
namespace L2
open PySem PySem.Spec PyProof.Rows
def SqL (K : PySem.W.Frag) (H : Hp) (a : Addr) (xs : List V) : Prop :=
  Rd H a (.lst xs) ∨
    ∃ (o : Obj) (its : Array Value) (n : Nat), K.lookup a = some o ∧ o.cls = .type "list" ∧ o.dict = none ∧ o.data = .seq its n ∧ its.size ≤ sizeLine ∧ Vals xs its.toList
def SqT (K : PySem.W.Frag) (H : Hp) (a : Addr) (xs : List V) : Prop :=
  Rd H a (.tup xs) ∨
    ∃ (o : Obj) (its : Array Value) (n : Nat), K.lookup a = some o ∧ o.cls = .type "tuple" ∧ o.data = .seq its n ∧ its.size ≤ sizeLine ∧ Vals xs its.toList
def absV : Value → Option V
  | .none => some .non
  | .bool b => some (.bl b)
  | .int i _ => some (.int i)
  | .str x _ => some (.str x)
  | .bytes b _ => some (.byt b)
  | .float b _ => some (.flt b)
  | .ref a => some (.ref a)
  | .type n => some (.ty n)
  | _ => none
theorem RelV.abs {x : V} {u : Value} (r : RelV x u) : absV u = some x := by
  cases x with
  | non => cases r; rfl
  | bl _ => cases r; rfl
  | int _ => obtain ⟨t, rfl⟩ := r; rfl
  | str _ => obtain ⟨t, rfl⟩ := r; rfl
  | byt _ => obtain ⟨t, rfl⟩ := r; rfl
  | flt _ => obtain ⟨t, rfl⟩ := r; rfl
  | ref _ => cases r; rfl
  | ty _ => cases r; rfl
theorem RelV.inj {x y : V} {u : Value} (r : RelV x u) (q : RelV y u) : x = y := Option.some.inj (r.abs.symm.trans q.abs)
theorem Vals.inj : ∀ {xs ys : List V} {us : List Value}, Vals xs us → Vals ys us → xs = ys
  | _, _, _, .nil, .nil => rfl
  | _, _, _, .cons r t, .cons r' t' => by rw [r.inj r', Vals.inj t t']
section
variable {X : Cx} {pins : List (Addr × Obj)} {σ : St} {H : Hp} {s : Shared} {a : Addr} {xs ys : List V}
theorem SqL.of {K : PySem.W.Frag} (h : H a = some (.lst xs)) : SqL K H a xs := .inl (.inl h)
theorem Inv.list (I : Inv X pins σ H s) (h : SqL X.K H a xs) : ∃ its : List Value, Vals xs its ∧ PlainL s.heap a its.toArray ∧ xs.length ≤ sizeLine := by
  rcases h with h | ⟨o, its, n, hk, hc, hd, hs, hz, r⟩
  · obtain ⟨z, its, n, r, e⟩ := h.ok I.hok
    exact ⟨its, r, ⟨_, n, e, rfl, rfl, rfl⟩, z⟩
  · refine ⟨its.toList, r, ⟨o, n, I.kIn a o hk, hc, hd, by simpa using hs⟩, ?_⟩
    have e := r.length
    simp only [Array.length_toList] at e
    omega
theorem Inv.tuple (I : Inv X pins σ H s) (h : SqT X.K H a xs) : ∃ its : List Value, Vals xs its ∧ IsTup s.heap a its.toArray ∧ xs.length ≤ sizeLine := by
  rcases h with h | ⟨o, its, n, hk, hc, hs, hz, r⟩
  · obtain ⟨z, its, r, p⟩ := h.ok I.hok
    exact ⟨its, r, p, z⟩
  · refine ⟨its.toList, r, ⟨o, I.kIn a o hk, hc, n, by simpa using hs⟩, ?_⟩
    have e := r.length
    simp only [Array.length_toList] at e
    omega
theorem Inv.list_inj (I : Inv X pins σ H s) (h : SqL X.K H a xs) (h' : SqL X.K H a ys) : xs = ys := by
  obtain ⟨its, r, ⟨o, n, e, _, _, d⟩, _⟩ := I.list h
  obtain ⟨its', r', ⟨o', n', e', _, _, d'⟩, _⟩ := I.list h'
  rw [e] at e'; cases e'
  rw [d] at d'
  injection d' with d1 _
  have : its = its' := by simpa using congrArg Array.toList d1
  subst this
  exact r.inj r'
theorem Inv.tuple_inj (I : Inv X pins σ H s) (h : SqT X.K H a xs) (h' : SqT X.K H a ys) : xs = ys := by
  obtain ⟨its, r, ⟨o, e, _, n, d⟩, _⟩ := I.tuple h
  obtain ⟨its', r', ⟨o', e', _, n', d'⟩, _⟩ := I.tuple h'
  rw [e] at e'; cases e'
  rw [d] at d'
  injection d' with d1 _
  have : its = its' := by simpa using congrArg Array.toList d1
  subst this
  exact r.inj r'
end
abbrev Cx.wish (X : Cx) (E : Value → Shared → Prop) : Cx := { X with xe := E }
abbrev Cx.nox (X : Cx) : Cx := X.wish fun _ _ => False
theorem Cx.Ok.wish {X : Cx} (ok : X.Ok) (E : Value → Shared → Prop) : (X.wish E).Ok :=
  ⟨ok.mod, ok.kind, ok.glob, ok.blt, ok.above, ok.inj, ok.has, ok.cab, ok.hd, ok.frames, ok.stk, ok.exf, ok.bs, ok.bsz, ok.noex, ok.exfs, ok.funs, ok.frf⟩
theorem Cx.Ok.unwish {X : Cx} {E : Value → Shared → Prop} (ok : (X.wish E).Ok) : X.Ok :=
  ⟨ok.mod, ok.kind, ok.glob, ok.blt, ok.above, ok.inj, ok.has, ok.cab, ok.hd, ok.frames, ok.stk, ok.exf, ok.bs, ok.bsz, ok.noex, ok.exfs, ok.funs, ok.frf⟩
section
variable {X : Cx} {pins : List (Addr × Obj)} {σ : St} {H : Hp} {s : Shared} {E : Value → Shared → Prop}
theorem Inv.wish (I : Inv X pins σ H s) (E : Value → Shared → Prop) : Inv (X.wish E) pins σ H s := ⟨I.ok.wish E, I.os, I.bare, I.base, I.loc, I.cell, I.free, I.freeC, I.pin, I.hok, I.len⟩
theorem Inv.unwish (I : Inv (X.wish E) pins σ H s) : Inv X pins σ H s := ⟨I.ok.unwish, I.os, I.bare, I.base, I.loc, I.cell, I.free, I.freeC, I.pin, I.hok, I.len⟩
theorem SP.unwish {D : Ends} {f : Flow} {s' : Shared} (h : SP (X.wish E) pins D f s') : SP X pins D f s' := by
  cases f with
  | next => obtain ⟨σ', H', I, q⟩ := h; exact ⟨σ', H', I.unwish, q⟩
  | brk => obtain ⟨σ', H', I, q⟩ := h; exact ⟨σ', H', I.unwish, q⟩
  | cont => obtain ⟨σ', H', I, q⟩ := h; exact ⟨σ', H', I.unwish, q⟩
  | ret u => obtain ⟨v, σ', H', I, r, q⟩ := h; exact ⟨v, σ', H', I.unwish, r, q⟩
theorem PSs.nox {st : List Stmt} {t : TS} (h : PSs X.nox st t) : PSs X st t := fun pins s σ H D I hw =>
  wpAny_mono (h pins s σ H D (I.wish _) hw) (fun _ _ q => q.unwish) fun _ _ z => False.elim z
end
section
variable {X : Cx} {st : Stmt} {rest : List Stmt} {t u : TS} {e : Expr} {te : TE} {pos : Pos}
def tNext : TS := fun D σ H => D.nx σ H
def tSeq (t u : TS) : TS := fun D σ H => t { D with nx := u D } σ H
theorem pss_nil : PSs X [] tNext := fun _ _ σ H _ I h => wpAny_execs_nil ⟨σ, H, I, h⟩
theorem pss_cons (h1 : PS X st t) (h2 : PSs X rest u) : PSs X (st :: rest) (tSeq t u) := by
  intro pins s σ H D I h
  refine wpAny_execs_cons (thn (h1 pins s σ H { D with nx := u D } I h) fun f s1 q => ?_)
  cases f with
  | next =>
    obtain ⟨σ', H', I', q⟩ := q
    exact h2 pins s1 σ' H' D I' q
  | ret v => exact q
  | brk => exact q
  | cont => exact q
theorem pss_one (h1 : PS X st t) : PSs X [st] t := by
  intro pins s σ H D I h
  refine wpAny_execs_cons (thn (h1 pins s σ H D I h) fun f s1 q => ?_)
  cases f with
  | next => exact wpAny_execs_nil q
  | ret v => exact q
  | brk => exact q
  | cont => exact q
theorem Inv.quiet {pins : List (Addr × Obj)} {σ : St} {H : Hp} {s : Shared} (I : Inv X pins σ H s) : interactive X.env = false := by simp [interactive, I.ok.kind]
def tDrop (te : TE) : TS := fun D σ H => te σ H fun _ H1 => D.nx σ H1
theorem ps_expr (he : PE X e te) (hs : swapsWith e none pos.line X.env = pure false := by rfl) : PS X (.Expr e pos) (tDrop te) := by
  intro pins s σ H D I h
  exact wpAny_Expr_any (thn (he pins s σ H _ I h) fun v s1 ⟨x, H1, I1, r1, q1⟩ => ⟨σ, H1, I1, q1⟩) I.quiet hs
def tRet (te : TE) : TS := fun D σ H => te σ H D.rt
theorem ps_ret (he : PE X e te) : PS X (.Return (some e) pos) (tRet te) := by
  intro pins s σ H D I h
  exact wpAny_Return_some (thn (he pins s σ H _ I h) fun v s1 ⟨x, H1, I1, r1, q1⟩ => ⟨x, σ, H1, I1, r1, q1⟩)
def tIfS (c : TT) (t u : TS) : TS := fun D σ H => c σ H fun b H1 => if b = true then t D σ H1 else u D σ H1
theorem ps_if {c : Expr} {a b : List Stmt} {tc : TT} (hc : PT X c tc) (ha : PSs X a t) (hb : PSs X b u) : PS X (.If c a b pos) (tIfS tc t u) := by
  intro pins s σ H D I h
  refine wpAny_If (thn (hc pins s σ H _ I h) fun d s1 ⟨H1, I1, q1⟩ => ?_)
  cases d with
  | true => exact ha pins s1 σ H1 D I1 q1
  | false => exact hb pins s1 σ H1 D I1 q1
def tNever : TS := fun _ _ _ => False
theorem ps_never : PS X st tNever := fun _ _ _ _ _ _ h => h.elim
end
abbrev TG := V → St → Hp → (St → Hp → Prop) → Prop
abbrev TGs := List V → St → Hp → (St → Hp → Prop) → Prop
def PG (X : Cx) (target : Expr) (t : TG) : Prop :=
  ∀ (pins : List (Addr × Obj)) (s : Shared) (σ : St) (H : Hp) (v : V) (u : Value) (Q : St → Hp → Prop), Inv X pins σ H s → RelV v u → t v σ H Q →
    wpAny (model X.prog X.w) X.A (assign target X.env u) (fun _ s' => ∃ σ' H', Inv X pins σ' H' s' ∧ Q σ' H') X.xe s
def PGs (X : Cx) (ts : List Expr) (t : TGs) : Prop :=
  ∀ (pins : List (Addr × Obj)) (s : Shared) (σ : St) (H : Hp) (vs : List V) (us : List Value) (Q : St → Hp → Prop), Inv X pins σ H s → Vals vs us → t vs σ H Q →
    wpAny (model X.prog X.w) X.A (assignInOrder ((assignEach ts X.env).map (·.2)) us) (fun _ s' => ∃ σ' H', Inv X pins σ' H' s' ∧ Q σ' H') X.xe s
abbrev TSet := V → V → V → Hp → (Hp → Prop) → Prop
def PSet (X : Cx) (t : TSet) : Prop :=
  ∀ (pins : List (Addr × Obj)) (s : Shared) (σ : St) (H : Hp) (o i v : V) (ov iv u : Value) (Q : Hp → Prop), Inv X pins σ H s → RelV o ov → RelV i iv → RelV v u → t o i v H Q →
    wpAny (model X.prog X.w) X.A (setItem ov iv u) (fun _ s' => ∃ H', Inv X pins σ H' s' ∧ Q H') X.xe s
section
variable {X : Cx} {pos : Pos}
def gName (i : Nat) : TG := fun v σ H Q => Q (σ.set i (some v)) H
theorem pg_name {i : Nat} {x : Str} (hN : X.N.Nodup) (hi : X.N[i]? = some x) (hx : Loc X.env.scope x) (hf : X.fn x = true ∨ X.env.scope.names.lookup x = some .local := by first | exact .inl rfl | exact .inr rfl | assumption) : PG X (.Name x pos) (gName i) := by
  intro pins s σ H v u Q I r h
  exact wpAny_assign_Name (store_ok I hN hi hx r (fun s' I' => ⟨_, H, I', h⟩) hf)
def gNil : TGs := fun vs σ H Q => vs = [] ∧ Q σ H
def gCons (t : TG) (u : TGs) : TGs := fun vs σ H Q => ∃ v r, vs = v :: r ∧ t v σ H fun σ' H' => u r σ' H' Q
theorem pgs_nil : PGs X [] gNil := by
  intro pins s σ H vs us Q I r h
  obtain ⟨e, h⟩ := h
  subst e
  cases r
  exact assignInOrder_nil ⟨σ, H, I, h⟩
theorem pgs_cons {e : Expr} {es : List Expr} {t : TG} {u : TGs} (h1 : PG X e t) (h2 : PGs X es u)
    (hs : (assignEach (e :: es) X.env).map (·.2) = assign e X.env :: (assignEach es X.env).map (·.2) := by rfl) : PGs X (e :: es) (gCons t u) := by
  intro pins s σ H vs us Q I r h
  obtain ⟨v, vr, e1, h⟩ := h
  subst e1
  cases r with
  | cons r rr =>
    rw [hs]
    refine assignInOrder_cons (thn (h1 pins s σ H _ _ _ I r h) fun _ s1 ⟨σ1, H1, I1, q1⟩ => ?_)
    exact h2 pins s1 σ1 H1 _ _ Q I1 rr q1
def gTup (K : PySem.W.Frag) (n : Nat) (t : TGs) : TG := fun v σ H Q => ∃ a xs, v = .ref a ∧ SqT K H a xs ∧ xs.length = n ∧ t xs σ H Q
theorem pg_tup {es : List Expr} {k : Nat} {t : TGs} {n : Nat} (hc : X.calm = true) (h : PGs X es t)
    (hn : (assignEach es X.env).length = n := by rfl) (hst : (assignEach es X.env).findIdx? (·.1) = none := by rfl) : PG X (.Tuple es k pos) (gTup X.K n t) := by
  intro pins s σ H v u Q I r hw
  obtain ⟨a, xs, e1, hq, hl, hw⟩ := hw
  subst e1
  cases r
  obtain ⟨its, rv, ht, hz⟩ := I.tuple hq
  refine assign_Tuple_tuple (I.ok.hd hc) ht (by simp [hn, ← hl, rv.length]) hst fun h' hx => ?_
  have I1 : Inv X pins σ H { s with heap := h' } := I.kept (t' := s.toks) fun b o e => hx b o (Nat.ne_of_lt (Heap.lt_size e)) e
  exact h pins _ σ H xs _ Q I1 (by simpa using rv) hw
def gSub (to ti : TE) (t : TSet) : TG := fun v σ H Q => to σ H fun o H1 => ti σ H1 fun i H2 => t o i v H2 fun H3 => Q σ H3
theorem pg_sub {o i : Expr} {to ti : TE} {t : TSet} (ho : PE X o to) (hi : PE X i ti) (hs : PSet X t)
    (ha : ∀ v, assign (.Subscript o i pos) X.env v = (do
      let ov ← holding [v] (eval o X.env)
      let iv ← holding [v, ov] (eval i X.env)
      standAt pos
      holding [v, ov, iv] (setItem ov iv v)
      release [v, ov, iv] []) := by intro _; rfl) : PG X (.Subscript o i pos) (gSub to ti t) := by
  intro pins s σ H v u Q I r h
  rw [ha]
  refine wpAny_bind (wpAny_holding (thn (ho pins s σ H _ I h) fun ov s1 ⟨x, H1, I1, r1, q1⟩ => ?_))
  refine wpAny_bind (wpAny_holding (thn (hi pins s1 σ H1 _ I1 q1) fun iv s2 ⟨y, H2, I2, r2, q2⟩ => ?_))
  refine wpAny_bind (wpAny_standAt (wpAny_bind (wpAny_holding (thn (hs pins s2 σ H2 x y v ov iv u _ I2 r1 r2 r q2) fun _ s3 ⟨H3, I3, q3⟩ => ?_))))
  exact wpAny_release ⟨σ, H3, I3, q3⟩
def tAsg (te : TE) (g : TG) : TS := fun D σ H => te σ H fun x H1 => g x σ H1 D.nx
theorem ps_asg {tg e : Expr} {te : TE} {g : TG} (he : PE X e te) (hg : PG X tg g) (hs : swapsWithSole [tg] e pos.line X.env = pure false := by rfl) (hw : swappedStores [tg] e X.env = pure none := by rfl)
    (h1 : (assignEach [tg] X.env).map (·.2) = [assign tg X.env] := by rfl) : PS X (.Assign [tg] e pos) (tAsg te g) := by
  intro pins s σ H D I h
  refine wpAny_Assign_stores (thn (he pins s σ H _ I h) fun v s1 ⟨x, H1, I1, r1, q1⟩ => ?_) hs hw
  rw [h1]
  exact thn (hg pins s1 σ H1 x v _ I1 r1 q1) fun _ s2 q => q
theorem ps_set {i : Nat} {x : Str} {e : Expr} {te : TE} {pos' : Pos} (hN : X.N.Nodup) (hi : X.N[i]? = some x) (hx : Loc X.env.scope x) (he : PE X e te) (hs : swapsWith e (some (.Name x pos')) pos.line X.env = pure false := by rfl) (hf : X.fn x = true ∨ X.env.scope.names.lookup x = some .local := by first | exact .inl rfl | exact .inr rfl | assumption) :
    PS X (.Assign [.Name x pos'] e pos) (tAsg te (gName i)) := by
  intro pins s σ H D I h
  refine wpAny_Assign_Name (thn (he pins s σ H _ I h) fun v s1 ⟨y, H1, I1, r1, q1⟩ => ?_) hs
  exact store_ok I1 hN hi hx r1 (fun s2 I2 => ⟨_, H1, I2, q1⟩) hf
end
section
variable {X : Cx} {pos : Pos}
def tWhile (c : TT) (tb : TS) : TS := fun D σ H => ∃ W : Nat → St → Hp → Prop, (∃ m, W m σ H) ∧ ∀ m σ H, W m σ H →
  c σ H fun b H1 => if b = true then ∃ N : St → Hp → Prop, (∀ σ' H', N σ' H' → ∃ m', m' < m ∧ W m' σ' H') ∧ tb { D with nx := N, ct := N, bk := D.nx } σ H1 else D.nx σ H1
theorem ps_while {c : Expr} {body : List Stmt} {tc : TT} {tb : TS} (hp : PassesOwn (model X.prog X.w) X.A X.env X.xe) (hc : PT X c tc) (hb : PSs X body tb) : PS X (.While c body [] pos) (tWhile tc tb) := by
  intro pins s σ H D I h
  obtain ⟨W, ⟨m0, w0⟩, turn⟩ := h
  refine wpAny_While (codeAny_whileLoop (fun n s' => ∃ σ' H', Inv X pins σ' H' s' ∧ W n σ' H') ?_ m0 ⟨σ, H, I, w0⟩)
  rintro n s1 ⟨σ1, H1, I1, w1⟩
  refine wpAny_passesOwn hp (thn (hc pins s1 σ1 H1 _ I1 (turn n σ1 H1 w1)) fun b s2 ⟨H2, I2, q2⟩ => ?_)
  cases b with
  | true =>
    obtain ⟨N, hN, q2⟩ := q2
    rw [if_pos rfl]
    refine wpAny_passesOwn hp (thn (hb pins s2 σ1 H2 _ I2 q2) fun f s3 q3 => ?_)
    cases f with
    | next =>
      obtain ⟨σ3, H3, I3, n3⟩ := q3
      obtain ⟨m', hm, w3⟩ := hN σ3 H3 n3
      exact ⟨m', hm, σ3, H3, I3, w3⟩
    | cont =>
      obtain ⟨σ3, H3, I3, n3⟩ := q3
      obtain ⟨m', hm, w3⟩ := hN σ3 H3 n3
      exact ⟨m', hm, σ3, H3, I3, w3⟩
    | brk => exact q3
    | ret v => exact q3
  | false =>
    rw [if_neg Bool.false_ne_true]
    exact wpAny_execs_nil ⟨σ1, H2, I2, q2⟩
end
structure It where
  go : Nat → Hp → Prop
  yld : Nat → Hp → V → Hp → Prop
  stop : Nat → Hp → Prop
def FpOk (X : Cx) (pins : List (Addr × Obj)) (H : Hp) (b : Addr) : Prop :=
  H b = none ∧ b ≠ X.env.locals ∧ b ∉ X.fs ∧ (b ∈ X.ex ∨ X.s₀.heap.objs.size ≤ b) ∧ (∀ x c, X.env.cells.lookup x = some c → c ≠ b) ∧ ∀ p ∈ X.pn ++ pins, p.1 ≠ b
theorem Inv.fpOk {X : Cx} {pins : List (Addr × Obj)} {σ : St} {H H' : Hp} {s : Shared} {b : Addr} (I : Inv X pins σ H s) (hb : s.heap.objs.size ≤ b) (hn : H' b = none) : FpOk X pins H' b := by
  refine ⟨hn, Nat.ne_of_gt (Nat.lt_of_lt_of_le I.lt hb), I.nofs hb, .inr (Nat.le_trans I.sz hb), fun x c e z => ?_, fun p hp z => ?_⟩
  · obtain ⟨v, q⟩ := I.cell x c e
    exact absurd (Nat.lt_of_lt_of_le q.lt (by rw [z]; exact hb)) (Nat.lt_irrefl _)
  · exact absurd (Nat.lt_of_lt_of_le (Heap.lt_size (I.pin p hp).1) (by rw [z]; exact hb)) (Nat.lt_irrefl _)
structure Turn (P : Program) (w : World) (K : PySem.W.Frag) (tg : Expr) (J : It) (fp : List Addr) (it : Addr) (tn : Nat → Heap → Prop) : Prop where
  mem : it ∈ fp
  obj : ∀ i h, tn i h → ∀ b ∈ fp, ∃ o, h.get? b = some o ∧ ∀ v, o.data ≠ .cell v
  keep : ∀ i h h', tn i h → (∀ b ∈ fp, ∀ o, h.get? b = some o → h'.get? b = some o) → tn i h'
  item : ∀ (X : Cx), X.prog = P → X.w = w → X.K = K → X.calm = true → ∀ (i : Nat) (pins : List (Addr × Obj)) (s : Shared) (σ : St) (H : Hp) (E : Value → Shared → Prop), Inv X pins σ H s → (∀ b ∈ fp, FpOk X pins H b) → tn i s.heap → J.go i H →
    wpAny (model P w) X.A (pyNext (.ref it)) (fun r s1 => ∃ u, r = some u ∧
      wpAny (model P w) X.A (letOwnedTupleGo tg (.ref it) u) (fun _ s2 => ∃ x H', Inv X pins σ H' s2 ∧ RelV x u ∧ J.yld i H x H' ∧ tn (i + 1) s2.heap ∧ ∀ b ∈ fp, H' b = none) E s1) E s
  done : ∀ (X : Cx), X.prog = P → X.w = w → X.K = K → X.calm = true → ∀ (i : Nat) (pins : List (Addr × Obj)) (s : Shared) (σ : St) (H : Hp) (E : Value → Shared → Prop), Inv X pins σ H s → (∀ b ∈ fp, FpOk X pins H b) → tn i s.heap → J.stop i H →
    wpAny (model P w) X.A (pyNext (.ref it)) (fun r s1 => r = none ∧ Inv X pins σ H s1) E s
  self : ∀ (A : Around) (i : Nat) (s : Shared) (Q : Value → Shared → Prop) (E : Value → Shared → Prop), tn i s.heap → Q (.ref it) s → wpAny (model P w) A (pyIter (.ref it)) Q E s
abbrev TI := St → Hp → (It → Hp → Prop) → Prop
def PIE (X : Cx) (pins : List (Addr × Obj)) (σ : St) (tg : Expr) (R : It → Hp → Prop) (itv : Value) (s2 : Shared) : Prop :=
  ∃ (it : Addr) (fp : List Addr) (tn : Nat → Heap → Prop) (J : It) (H' : Hp), itv = .ref it ∧ Inv X pins σ H' s2 ∧ Turn X.prog X.w X.K tg J fp it tn ∧ tn 0 s2.heap ∧ (∀ b ∈ fp, FpOk X pins H' b) ∧ R J H'
def PI (X : Cx) (tg iter : Expr) (wi : TI) : Prop :=
  ∀ (pins : List (Addr × Obj)) (s : Shared) (σ : St) (H : Hp) (R : It → Hp → Prop), Inv X pins σ H s → wi σ H R →
    wpAny (model X.prog X.w) X.A (eval iter X.env) (fun v s1 => wpAny (model X.prog X.w) X.A (pyIter v) (PIE X pins σ tg R) X.xe s1) X.xe s
theorem go_of {M : Model} {A : Around} {E : Value → Shared → Prop} {s : Shared} {tg : Expr} {it : Addr} {u : Value} {o : Obj} {n : String} {vs : Array Value} {Q : Unit → Shared → Prop} (ho : s.heap.get? it = some o) (hc : o.cls = .type n) (hd : o.data = .fields vs)
    (hn : ["enumerate", "zip", "dict_itemiterator", "dict_reverseitemiterator", "odict_iterator", "itertools.zip_longest", "itertools.pairwise"].contains n = false) (hQ : Q () s) : wpAny M A (letOwnedTupleGo tg (.ref it) u) Q E s := by
  unfold letOwnedTupleGo
  cases tg <;> first
    | exact wpAny_pure hQ
    | (cases u <;> first
        | exact wpAny_pure hQ
        | (refine wpAny_bind (wpAny_load ho ?_)
           rw [hc, hd]
           show wpAny M A (if (["enumerate", "zip", "dict_itemiterator", "dict_reverseitemiterator", "odict_iterator", "itertools.zip_longest", "itertools.pairwise"].contains n && vs[0]? == some (rawInt _)) = true then _ else _) Q E s
           rw [if_neg (by intro h; rw [hn, Bool.false_and] at h; cases h)]
           exact wpAny_pure hQ))
def Itl (K : PySem.W.Frag) (a : Addr) : It :=
  ⟨fun i H => ∃ xs x, SqL K H a xs ∧ xs[i]? = some x, fun i H x H' => H' = H ∧ ∀ xs, SqL K H a xs → xs[i]? = some x, fun i H => ∃ xs, SqL K H a xs ∧ xs.length ≤ i⟩
def Itt (K : PySem.W.Frag) (a : Addr) : It :=
  ⟨fun i H => ∃ xs x, SqT K H a xs ∧ xs[i]? = some x, fun i H x H' => H' = H ∧ ∀ xs, SqT K H a xs → xs[i]? = some x, fun i H => ∃ xs, SqT K H a xs ∧ xs.length ≤ i⟩
theorem turn_list {P : Program} {w : World} {K : PySem.W.Frag} {tg : Expr} (a it : Addr) : Turn P w K tg (Itl K a) [it] it (fun i h => h.IsListIter it a i) where
  mem := by simp
  obj := fun i h st b hb => by
    have e : b = it := by simpa using hb
    subst e
    obtain ⟨o, e, c, d⟩ := st
    exact ⟨o, e, fun v z => by rw [d] at z; cases z⟩
  keep := fun i h h' st k => st.at fun o e => k it (by simp) o e
  item := by
    intro X hP hw hK hc i pins s σ H E I hf st hg
    subst hP hw hK
    obtain ⟨xs, x, hq, hx⟩ := hg
    obtain ⟨its, rv, p, hz⟩ := I.list hq
    obtain ⟨u, hu, ru⟩ := rv.get hx
    obtain ⟨f0, f1, f2, f3, f4, f5⟩ := hf it (by simp)
    refine wpAny_pyNext_list_item st p.isList (x := u) (by simpa using hu) fun h' st' sb => ?_
    have I1 : Inv X pins σ H { s with heap := h' } := I.turned (t' := s.toks) (fun b o hb e => (sb.2 b hb).trans e) f0 f1 f3 f4 f5
    obtain ⟨o, e, c, d⟩ := id st'
    exact ⟨u, rfl, go_of (s := { s with heap := h' }) e c d (by decide) ⟨x, H, I1, ru, ⟨rfl, fun ys hy => by rw [I.list_inj hy hq]; exact hx⟩, st', fun b hb => (hf b hb).1⟩⟩
  done := by
    intro X hP hw hK hc i pins s σ H E I hf st hg
    subst hP hw hK
    obtain ⟨xs, hq, hx⟩ := hg
    obtain ⟨its, rv, p, hz⟩ := I.list hq
    obtain ⟨f0, f1, f2, f3, f4, f5⟩ := hf it (by simp)
    have hl := rv.length
    exact wpAny_pyNext_list_end (I.ok.hd hc) st p.isList (by simp; omega) fun h' eb => ⟨rfl, I.turned (t' := s.toks) (fun b o hb e => eb b o hb e) f0 f1 f3 f4 f5⟩
  self := fun _ _ _ _ _ st h => wpAny_pyIter_listiter st h
theorem turn_tuple {P : Program} {w : World} {K : PySem.W.Frag} {tg : Expr} (a it : Addr) : Turn P w K tg (Itt K a) [it] it (fun i h => h.IsTupleIter it a i) where
  mem := by simp
  obj := fun i h st b hb => by
    have e : b = it := by simpa using hb
    subst e
    obtain ⟨o, e, c, d⟩ := st
    exact ⟨o, e, fun v z => by rw [d] at z; cases z⟩
  keep := fun i h h' st k => st.at fun o e => k it (by simp) o e
  item := by
    intro X hP hw hK hc i pins s σ H E I hf st hg
    subst hP hw hK
    obtain ⟨xs, x, hq, hx⟩ := hg
    obtain ⟨its, rv, p, hz⟩ := I.tuple hq
    obtain ⟨u, hu, ru⟩ := rv.get hx
    obtain ⟨f0, f1, f2, f3, f4, f5⟩ := hf it (by simp)
    refine wpAny_pyNext_tuple_item st (show s.heap.IsTuple a its.toArray from p) (x := u) (by simpa using hu) fun h' st' sb => ?_
    have I1 : Inv X pins σ H { s with heap := h' } := I.turned (t' := s.toks) (fun b o hb e => (sb.2 b hb).trans e) f0 f1 f3 f4 f5
    obtain ⟨o, e, c, d⟩ := id st'
    exact ⟨u, rfl, go_of (s := { s with heap := h' }) e c d (by decide) ⟨x, H, I1, ru, ⟨rfl, fun ys hy => by rw [I.tuple_inj hy hq]; exact hx⟩, st', fun b hb => (hf b hb).1⟩⟩
  done := by
    intro X hP hw hK hc i pins s σ H E I hf st hg
    subst hP hw hK
    obtain ⟨xs, hq, hx⟩ := hg
    obtain ⟨its, rv, p, hz⟩ := I.tuple hq
    obtain ⟨f0, f1, f2, f3, f4, f5⟩ := hf it (by simp)
    have hl := rv.length
    exact wpAny_pyNext_tuple_end (I.ok.hd hc) st (show s.heap.IsTuple a its.toArray from p) (by simp; omega) fun h' eb => ⟨rfl, I.turned (t' := s.toks) (fun b o hb e => eb b o hb e) f0 f1 f3 f4 f5⟩
  self := fun _ _ _ _ _ st h => wpAny_pyIter_tupleiter st h
end L2
namespace L2
open PySem PySem.Spec PyProof.Rows
section
variable {X : Cx} {tg : Expr}
def iList (K : PySem.W.Frag) (tl : TE) : TI := fun σ H R => tl σ H fun x H1 => ∃ a, x = .ref a ∧ (∃ xs, SqL K H1 a xs) ∧ R (Itl K a) H1
def iTup (K : PySem.W.Frag) (tl : TE) : TI := fun σ H R => tl σ H fun x H1 => ∃ a, x = .ref a ∧ (∃ xs, SqT K H1 a xs) ∧ R (Itt K a) H1
theorem pi_list {l : Expr} {tl : TE} (hl : PE X l tl) : PI X tg l (iList X.K tl) := by
  intro pins s σ H R I h
  refine thn (hl pins s σ H _ I h) fun v s1 ⟨x, H1, I1, r1, q1⟩ => ?_
  obtain ⟨a, e, ⟨xs, hq⟩, q⟩ := q1
  subst e
  cases r1
  obtain ⟨its, rv, p, hz⟩ := I1.list hq
  refine wpAny_pyIter_list p.isList ?_
  refine ⟨s1.heap.objs.size, [s1.heap.objs.size], _, _, H1, rfl, I1.kept (t' := s1.toks) fun b o e => Heap.get?_push_of_some _ e, turn_list a _, ⟨_, Heap.get?_push_size _ rfl, rfl, rfl⟩, fun b hb => ?_, q⟩
  have e : b = s1.heap.objs.size := by simpa using hb
  subst e
  exact I1.fpOk (Nat.le_refl _) (I1.hok.fresh (Nat.le_refl _))
theorem pi_tup {l : Expr} {tl : TE} (hl : PE X l tl) : PI X tg l (iTup X.K tl) := by
  intro pins s σ H R I h
  refine thn (hl pins s σ H _ I h) fun v s1 ⟨x, H1, I1, r1, q1⟩ => ?_
  obtain ⟨a, e, ⟨xs, hq⟩, q⟩ := q1
  subst e
  cases r1
  obtain ⟨its, rv, p, hz⟩ := I1.tuple hq
  refine wpAny_pyIter_tuple (show s1.heap.IsTuple a its.toArray from p) ?_
  refine ⟨s1.heap.objs.size, [s1.heap.objs.size], _, _, H1, rfl, I1.kept (t' := s1.toks) fun b o e => Heap.get?_push_of_some _ e, turn_tuple a _, ⟨_, Heap.get?_push_size _ rfl, rfl, rfl⟩, fun b hb => ?_, q⟩
  have e : b = s1.heap.objs.size := by simpa using hb
  subst e
  exact I1.fpOk (Nat.le_refl _) (I1.hok.fresh (Nat.le_refl _))
def tFor (wi : TI) (g : TG) (tb : TS) : TS := fun D σ H => wi σ H fun J H1 => ∃ W : Nat → Nat → St → Hp → Prop, (∃ m, W 0 m σ H1) ∧ ∀ i m σ H, W i m σ H →
  (J.stop i H ∧ D.nx σ H) ∨ (J.go i H ∧ ∃ N : St → Hp → Prop, (∀ σ' H', N σ' H' → ∃ m', m' < m ∧ W (i + 1) m' σ' H') ∧ ∀ x H', J.yld i H x H' → g x σ H' fun σ2 H2 => tb { D with nx := N, ct := N, bk := D.nx } σ2 H2)
def pinsAt (fp : List Addr) (h : Heap) : List (Addr × Obj) := fp.filterMap fun b => (h.get? b).map fun o => (b, o)
theorem mem_pinsAt {fp : List Addr} {h : Heap} {b : Addr} {o : Obj} (hb : b ∈ fp) (e : h.get? b = some o) : (b, o) ∈ pinsAt fp h := List.mem_filterMap.mpr ⟨b, hb, by rw [e]; rfl⟩
theorem of_pinsAt {fp : List Addr} {h : Heap} {p : Addr × Obj} (hp : p ∈ pinsAt fp h) : p.1 ∈ fp ∧ h.get? p.1 = some p.2 := by
  obtain ⟨b, hb, e⟩ := List.mem_filterMap.mp hp
  cases q : h.get? b with
  | none => rw [q] at e; cases e
  | some o =>
    rw [q] at e
    have e' : (b, o) = p := Option.some.inj e
    subst e'
    exact ⟨hb, q⟩
theorem Inv.pinned {pins : List (Addr × Obj)} {σ : St} {H : Hp} {s : Shared} {fp : List Addr} (I : Inv X pins σ H s) (hf : ∀ b ∈ fp, FpOk X pins H b) (ho : ∀ b ∈ fp, ∃ o, s.heap.get? b = some o ∧ ∀ v, o.data ≠ .cell v) : Inv X (pins ++ pinsAt fp s.heap) σ H s :=
  I.pins_of fun p hp => (List.mem_append.mp hp).elim (fun z => I.pin p (List.mem_append_right _ z)) fun z => by
    obtain ⟨hb, e⟩ := of_pinsAt z
    obtain ⟨f0, f1, f2, _⟩ := hf p.1 hb
    obtain ⟨o, e', d⟩ := ho p.1 hb
    rw [e] at e'; cases e'
    exact ⟨e, f0, f1, f2, d⟩
theorem Inv.unpinned {pins pl : List (Addr × Obj)} {σ : St} {H : Hp} {s : Shared} (I : Inv X (pins ++ pl) σ H s) : Inv X pins σ H s := I.pins_of fun p hp => I.pin p (List.mem_append_right _ (List.mem_append_left _ hp))
theorem ps_for {iter : Expr} {body : List Stmt} {wi : TI} {g : TG} {tb : TS} {pos : Pos} (hp : PassesOwn (model X.prog X.w) X.A X.env X.xe) (hc : X.calm = true) (hi : PI X tg iter wi) (hg : PG X tg g) (hb : PSs X body tb)
    (hs : ∀ x, foldedSetIterable iter X.env x = pure x := by intro _; rfl) : PS X (.For tg iter body [] pos) (tFor wi g tb) := by
  intro pins s σ H D I h
  refine wpAny_For (thn (hi pins s σ H _ I h) fun v s1 h1 => thn h1 fun itv s2 h2 => ?_) hs
  obtain ⟨it, fp, tn, J, H2, e, I2, T, st2, f2, W, ⟨m0, w0⟩, turn⟩ := h2
  subst e
  -- what stays true of the iterator's objects through the loop
  have stat : ∀ {H' : Hp}, (∀ b ∈ fp, H' b = none) → ∀ b ∈ fp, FpOk X pins H' b := fun hn b hb => ⟨hn b hb, (f2 b hb).2⟩
  refine codeAny_forLoop_any (fun n s' => ∃ i σ' H', Inv X pins σ' H' s' ∧ tn i s'.heap ∧ (∀ b ∈ fp, H' b = none) ∧ W i n σ' H') ?_ m0 ⟨0, σ, H2, I2, st2, fun b hb => (f2 b hb).1, w0⟩
  rintro n s3 ⟨i, σ3, H3, I3, st3, fr3, w3⟩
  rcases turn i n σ3 H3 w3 with ⟨stop, qn⟩ | ⟨go, N, hN, step⟩
  · refine wpAny_passesOwn hp (thn (T.done X rfl rfl rfl hc i pins s3 σ3 H3 X.xe I3 (stat fr3) st3 stop) fun r s4 ⟨hr, I4⟩ => ?_)
    subst hr
    exact wpAny_execs_nil ⟨σ3, H3, I4, qn⟩
  · refine wpAny_passesOwn hp (thn (T.item X rfl rfl rfl hc i pins s3 σ3 H3 X.xe I3 (stat fr3) st3 go) fun r s4 ⟨u, hr, h4⟩ => ?_)
    subst hr
    refine wpAny_passesOwn hp (thn h4 fun _ s5 ⟨x, H5, I5, r5, y5, st5, fr5⟩ => ?_)
    have I5' := I5.pinned (stat fr5) (T.obj _ _ st5)
    refine wpAny_passesOwn hp (thn (hg _ s5 σ3 H5 x u _ I5' r5 (step x H5 y5)) fun _ s6 ⟨σ6, H6, I6, q6⟩ => ?_)
    refine wpAny_passesOwn hp (thn (hb _ s6 σ6 H6 _ I6 q6) fun f s7 q7 => ?_)
    have again : ∀ {σ7 : St} {H7 : Hp}, Inv X (pins ++ pinsAt fp s5.heap) σ7 H7 s7 → N σ7 H7 → ∃ m, m < n ∧ ∃ i σ' H', Inv X pins σ' H' s7 ∧ tn i s7.heap ∧ (∀ b ∈ fp, H' b = none) ∧ W i m σ' H' := fun {σ7 H7} I7 n7 => by
      obtain ⟨m', hm, w7⟩ := hN σ7 H7 n7
      refine ⟨m', hm, i + 1, σ7, H7, I7.unpinned, T.keep _ _ _ st5 fun b hb o e => (I7.pin (b, o) (List.mem_append_right _ (List.mem_append_right _ (mem_pinsAt hb e)))).1, fun b hb => ?_, w7⟩
      obtain ⟨o, e, d⟩ := T.obj _ _ st5 b hb
      exact (I7.pin (b, o) (List.mem_append_right _ (List.mem_append_right _ (mem_pinsAt hb e)))).2.1
    cases f with
    | next => obtain ⟨σ7, H7, I7, n7⟩ := q7; exact again I7 n7
    | cont => obtain ⟨σ7, H7, I7, n7⟩ := q7; exact again I7 n7
    | brk => obtain ⟨σ7, H7, I7, q7⟩ := q7; exact ⟨σ7, H7, I7.unpinned, q7⟩
    | ret v => obtain ⟨x7, σ7, H7, I7, r7, q7⟩ := q7; exact ⟨x7, σ7, H7, I7.unpinned, r7, q7⟩
end
theorem for_list {K : PySem.W.Frag} {a : Addr} {xs : List V} {g : TG} {tb : TS} {D : Ends} {σ : St} {H : Hp} (Pv : Nat → St → Hp → Prop) (h0 : Pv 0 σ H) (hl : ∀ i σ H, i ≤ xs.length → Pv i σ H → SqL K H a xs)
    (hs : ∀ i x σ H, xs[i]? = some x → Pv i σ H → g x σ H fun σ2 H2 => tb { D with nx := Pv (i + 1), ct := Pv (i + 1), bk := D.nx } σ2 H2) (hd : ∀ σ H, Pv xs.length σ H → D.nx σ H) :
    ∃ W : Nat → Nat → St → Hp → Prop, (∃ m, W 0 m σ H) ∧ ∀ i m σ H, W i m σ H →
      ((Itl K a).stop i H ∧ D.nx σ H) ∨ ((Itl K a).go i H ∧ ∃ N : St → Hp → Prop, (∀ σ' H', N σ' H' → ∃ m', m' < m ∧ W (i + 1) m' σ' H') ∧ ∀ x H', (Itl K a).yld i H x H' → g x σ H' fun σ2 H2 => tb { D with nx := N, ct := N, bk := D.nx } σ2 H2) := by
  refine ⟨fun i m σ H => m = xs.length - i ∧ i ≤ xs.length ∧ Pv i σ H, ⟨xs.length, by simp, Nat.zero_le _, h0⟩, ?_⟩
  rintro i m σ H ⟨rfl, hi, p⟩
  have q := hl i σ H hi p
  by_cases hlt : i < xs.length
  · refine .inr ⟨⟨xs, xs[i], q, by simp [hlt]⟩, Pv (i + 1), fun σ' H' p' => ⟨xs.length - (i + 1), by omega, rfl, hlt, p'⟩, fun x H' y => ?_⟩
    obtain ⟨e, y⟩ := y
    subst e
    exact hs i x σ _ (y xs q) p
  · have e : i = xs.length := by omega
    subst e
    exact .inl ⟨⟨xs, q, Nat.le_refl _⟩, hd σ H p⟩
theorem for_tup {K : PySem.W.Frag} {a : Addr} {xs : List V} {g : TG} {tb : TS} {D : Ends} {σ : St} {H : Hp} (Pv : Nat → St → Hp → Prop) (h0 : Pv 0 σ H) (hl : ∀ i σ H, i ≤ xs.length → Pv i σ H → SqT K H a xs)
    (hs : ∀ i x σ H, xs[i]? = some x → Pv i σ H → g x σ H fun σ2 H2 => tb { D with nx := Pv (i + 1), ct := Pv (i + 1), bk := D.nx } σ2 H2) (hd : ∀ σ H, Pv xs.length σ H → D.nx σ H) :
    ∃ W : Nat → Nat → St → Hp → Prop, (∃ m, W 0 m σ H) ∧ ∀ i m σ H, W i m σ H →
      ((Itt K a).stop i H ∧ D.nx σ H) ∨ ((Itt K a).go i H ∧ ∃ N : St → Hp → Prop, (∀ σ' H', N σ' H' → ∃ m', m' < m ∧ W (i + 1) m' σ' H') ∧ ∀ x H', (Itt K a).yld i H x H' → g x σ H' fun σ2 H2 => tb { D with nx := N, ct := N, bk := D.nx } σ2 H2) := by
  refine ⟨fun i m σ H => m = xs.length - i ∧ i ≤ xs.length ∧ Pv i σ H, ⟨xs.length, by simp, Nat.zero_le _, h0⟩, ?_⟩
  rintro i m σ H ⟨rfl, hi, p⟩
  have q := hl i σ H hi p
  by_cases hlt : i < xs.length
  · refine .inr ⟨⟨xs, xs[i], q, by simp [hlt]⟩, Pv (i + 1), fun σ' H' p' => ⟨xs.length - (i + 1), by omega, rfl, hlt, p'⟩, fun x H' y => ?_⟩
    obtain ⟨e, y⟩ := y
    subst e
    exact hs i x σ _ (y xs q) p
  · have e : i = xs.length := by omega
    subst e
    exact .inl ⟨⟨xs, q, Nat.le_refl _⟩, hd σ H p⟩
end L2
namespace L2
open PySem PySem.Spec PyProof.Rows
abbrev R2 := V → V → Hp → VK → Prop
def OpR (X : Cx) (f : Value → Value → Sem Value) (r : R2) : Prop :=
  ∀ (pins : List (Addr × Obj)) (s : Shared) (σ : St) (H : Hp) (x y : V) (v u : Value) (Q : VK), Inv X pins σ H s → RelV x v → RelV y u → r x y H Q →
    wpAny (model X.prog X.w) X.A (f v u) (EP X pins σ Q) X.xe s
def UnR (X : Cx) (f : Value → Sem Value) (r : V → Hp → VK → Prop) : Prop :=
  ∀ (pins : List (Addr × Obj)) (s : Shared) (σ : St) (H : Hp) (x : V) (v : Value) (Q : VK), Inv X pins σ H s → RelV x v → r x H Q →
    wpAny (model X.prog X.w) X.A (f v) (EP X pins σ Q) X.xe s
def CallR (X : Cx) (f : Value) (r : List V → Hp → VK → Prop) : Prop :=
  ∀ (pins : List (Addr × Obj)) (s : Shared) (σ : St) (H : Hp) (xs : List V) (us : List Value) (Q : VK), Inv X pins σ H s → Vals xs us → r xs H Q →
    wpAny (model X.prog X.w) X.A (call f us) (EP X pins σ Q) X.xe s
def TruR (X : Cx) (r : V → Hp → (Bool → Hp → Prop) → Prop) : Prop :=
  ∀ (pins : List (Addr × Obj)) (s : Shared) (σ : St) (H : Hp) (x : V) (v : Value) (Q : Bool → Hp → Prop), Inv X pins σ H s → RelV x v → r x H Q →
    wpAny (model X.prog X.w) X.A (truthy v) (TP X pins σ Q) X.xe s
def tOp (r : R2) (ta tb : TE) : TE := fun σ H Q => ta σ H fun x H1 => tb σ H1 fun y H2 => r x y H2 Q
def tUn (r : V → Hp → VK → Prop) (ta : TE) : TE := fun σ H Q => ta σ H fun x H1 => r x H1 Q
def rI (C : Int → Int → Prop) (g : Int → Int → V) : R2 := fun x y H Q => ∃ i j, x = .int i ∧ y = .int j ∧ C i j ∧ Q (g i j) H
def rI0 (g : Int → Int → V) : R2 := fun x y H Q => ∃ i j, x = .int i ∧ y = .int j ∧ Q (g i j) H
def rU (g : Int → V) : V → Hp → VK → Prop := fun x H Q => ∃ i, x = .int i ∧ Q (g i) H
section
variable {X : Cx} {a b c : Expr} {ta tb tc : TE} {pos : Pos}
theorem binT (ha : PE X a ta) (hb : PE X b tb) {pins : List (Addr × Obj)} {s : Shared} {σ : St} {H : Hp} {R : V → V → Hp → Prop} (I : Inv X pins σ H s)
    (h : ta σ H fun x H1 => tb σ H1 fun y H2 => R x y H2) {Q : Value → Shared → Prop} {f : Value → Value → Sem Value}
    (hf : ∀ v u s2 x y H2, Inv X pins σ H2 s2 → RelV x v → RelV y u → R x y H2 → wpAny (model X.prog X.w) X.A (f v u) Q X.xe s2) :
    wpAny (model X.prog X.w) X.A (eval a X.env) (fun v s₁ => wpAny (model X.prog X.w) X.A (eval b X.env) (fun u s₂ => wpAny (model X.prog X.w) X.A (f v u) Q X.xe s₂) X.xe s₁) X.xe s := by
  refine thn (ha pins s σ H _ I h) fun v s1 ⟨x, H1, I1, r1, q1⟩ => ?_
  refine thn (hb pins s1 σ H1 _ I1 q1) fun u s2 ⟨y, H2, I2, r2, q2⟩ => ?_
  exact hf v u s2 x y H2 I2 r1 r2 q2
theorem pe_op {op : Operator} {r : R2} (ho : OpR X (binaryOp op) r) (ha : PE X a ta) (hb : PE X b tb) : PE X (.BinOp a op b pos) (tOp r ta tb) := by
  intro pins s σ H Q I h
  exact wpAny_BinOp (binT ha hb I h fun v u s2 x y H2 I2 rx ry q => ho pins s2 σ H2 x y v u Q I2 rx ry q)
theorem pe_un {op : UnaryOp} {r : V → Hp → VK → Prop} (ho : UnR X (unaryOp op) r) (ha : PE X a ta) : PE X (.UnaryOp op a pos) (tUn r ta) := by
  intro pins s σ H Q I h
  exact UnaryOp_ (thn (ha pins s σ H _ I h) fun v s1 ⟨x, H1, I1, r1, q1⟩ => ho pins s1 σ H1 x v Q I1 r1 q1)
theorem opI {f : Value → Value → Sem Value} {C : Int → Int → Prop} {g : Int → Int → Int}
    (rule : ∀ (i j : Int) (t u : Tok) (s : Shared) (Q : Value → Shared → Prop) (E : Value → Shared → Prop), C i j → Q (.int (g i j) s.toks) { s with toks := s.toks + 1 } → wpAny (model X.prog X.w) X.A (f (.int i t) (.int j u)) Q E s) :
    OpR X f (rI C fun i j => .int (g i j)) := by
  intro pins s σ H x y v u Q I rx ry h
  obtain ⟨i, j, rfl, rfl, hc, q⟩ := h
  obtain ⟨t, rfl⟩ := rx
  obtain ⟨t', rfl⟩ := ry
  exact rule i j t t' s _ _ hc ⟨.int (g i j), H, I.tok _, ⟨_, rfl⟩, q⟩
theorem opI0 {f : Value → Value → Sem Value} {g : Int → Int → Int}
    (rule : ∀ (i j : Int) (t u : Tok) (s : Shared) (Q : Value → Shared → Prop) (E : Value → Shared → Prop), Q (.int (g i j) s.toks) { s with toks := s.toks + 1 } → wpAny (model X.prog X.w) X.A (f (.int i t) (.int j u)) Q E s) :
    OpR X f (rI0 fun i j => .int (g i j)) := by
  intro pins s σ H x y v u Q I rx ry h
  obtain ⟨i, j, rfl, rfl, q⟩ := h
  obtain ⟨t, rfl⟩ := rx
  obtain ⟨t', rfl⟩ := ry
  exact rule i j t t' s _ _ ⟨.int (g i j), H, I.tok _, ⟨_, rfl⟩, q⟩
theorem opB0 {f : Value → Value → Sem Value} {g : Int → Int → Bool}
    (rule : ∀ (i j : Int) (t u : Tok) (s : Shared) (Q : Value → Shared → Prop) (E : Value → Shared → Prop), Q (.bool (g i j)) s → wpAny (model X.prog X.w) X.A (f (.int i t) (.int j u)) Q E s) :
    OpR X f (rI0 fun i j => .bl (g i j)) := by
  intro pins s σ H x y v u Q I rx ry h
  obtain ⟨i, j, rfl, rfl, q⟩ := h
  obtain ⟨t, rfl⟩ := rx
  obtain ⟨t', rfl⟩ := ry
  exact rule i j t t' s _ _ ⟨.bl (g i j), H, I, rfl, q⟩
def CMul (i j : Int) : Prop := (-(2 ^ 64) < i ∧ i < 2 ^ 64) ∨ (-(2 ^ 64) < j ∧ j < 2 ^ 64)
theorem CMul.ok {i j : Int} (h : CMul i j) : IntMulOk i j := by
  rcases h with ⟨h1, h2⟩ | ⟨h1, h2⟩
  · exact .of_left (intBits_le_64 h1 h2)
  · exact .of_right (intBits_le_64 h1 h2)
theorem two_pow_nn (k : Nat) : (0 : Int) ≤ 2 ^ k := by
  rw [two_pow_cast]
  exact Int.natCast_nonneg _
theorem op_add : OpR X (binaryOp .Add) (rI0 fun i j => .int (i + j)) := opI0 fun _ _ _ _ _ _ _ q => add_int q
theorem op_sub : OpR X (binaryOp .Sub) (rI0 fun i j => .int (i - j)) := opI0 fun _ _ _ _ _ _ _ q => sub_int q
theorem op_mul : OpR X (binaryOp .Mult) (rI CMul fun i j => .int (i * j)) := opI fun _ _ _ _ _ _ _ hc q => mul_int q hc.ok
theorem op_mod : OpR X (binaryOp .Mod) (rI (fun _ j => 0 < j) fun i j => .int (i % j)) := opI fun i j _ _ _ _ _ hc q => by
  have h1 : (0 : Int) < j := hc
  exact mod_int' (by omega) (by rw [Int.fmod_eq_emod_of_nonneg i (by omega)]; exact q)
theorem unI {f : Value → Sem Value} {g : Int → Int}
    (rule : ∀ (i : Int) (t : Tok) (s : Shared) (Q : Value → Shared → Prop) (E : Value → Shared → Prop), Q (.int (g i) s.toks) { s with toks := s.toks + 1 } → wpAny (model X.prog X.w) X.A (f (.int i t)) Q E s) :
    UnR X f (rU fun i => .int (g i)) := by
  intro pins s σ H x v Q I rx h
  obtain ⟨i, rfl, q⟩ := h
  obtain ⟨t, rfl⟩ := rx
  exact rule i t s _ _ ⟨.int (g i), H, I.tok _, ⟨_, rfl⟩, q⟩
theorem un_neg : UnR X (unaryOp .USub) (rU fun i => .int (-i)) := unI fun _ _ _ _ _ q => neg_int q
end
def scal : V → V → Bool
  | .non, .non => true | .non, .int _ => true | .int _, .non => true | .non, .bl _ => true | .bl _, .non => true | .non, .str _ => true | .str _, .non => true
  | .int _, .int _ => true | .bl _, .bl _ => true | .str _, .str _ => true | .byt _, .byt _ => true
  | .int _, .str _ => true | .str _, .int _ => true | .bl _, .str _ => true | .str _, .bl _ => true
  | _, _ => false
def rEq : R2 := fun x y H Q => scal x y = true ∧ Q (.bl (decide (x = y))) H
def rNe : R2 := fun x y H Q => scal x y = true ∧ Q (.bl (!decide (x = y))) H
theorem dec_int {i j : Int} : decide (V.int i = V.int j) = (i == j) := by
  rw [Bool.eq_iff_iff]
  simp
theorem dec_bl {i j : Bool} : decide (V.bl i = V.bl j) = (i == j) := by
  rw [Bool.eq_iff_iff]
  simp
theorem dec_str {i j : Str} : decide (V.str i = V.str j) = (i == j) := by
  rw [Bool.eq_iff_iff]
  simp
theorem dec_byt {i j : Array UInt8} : decide (V.byt i = V.byt j) = (i.toList == j.toList) := by
  rw [Bool.eq_iff_iff]
  cases i
  cases j
  simp
section
variable {X : Cx} {a b c : Expr} {ta tb tc : TE} {pos : Pos}
theorem fin_bl {pins : List (Addr × Obj)} {σ : St} {H : Hp} {s : Shared} {Q : VK} {k k' : Bool} (I : Inv X pins σ H s) (q : Q (.bl k) H) (e : k = k') : EP X pins σ Q (.bool k') s := by
  subst e
  exact ⟨.bl k, H, I, rfl, q⟩
theorem op_eq : OpR X (compareOp .Eq) rEq := by
  intro pins s σ H x y v u Q I rx ry h
  obtain ⟨hs, q⟩ := h
  cases x with
  | non =>
    cases rx
    cases y with
    | non => cases ry; exact PySem.EqNone.eq_none_none (fin_bl I q (by simp))
    | bl j => cases ry; exact PySem.EqNone.eq_none_bool (fin_bl I q (by simp))
    | int j => obtain ⟨t', rfl⟩ := ry; exact PySem.EqNone.eq_none_int (fin_bl I q (by simp))
    | str j => obtain ⟨t', rfl⟩ := ry; exact PySem.EqNone.eq_none_str (fin_bl I q (by simp))
    | _ => exact absurd (show false = true from hs) Bool.false_ne_true
  | bl i =>
    cases rx
    cases y with
    | non => cases ry; exact PySem.EqNone.eq_bool_none (fin_bl I q (by simp))
    | bl j => cases ry; exact eq_bool (fin_bl I q dec_bl)
    | str j => obtain ⟨t', rfl⟩ := ry; exact PySem.EqMixed.eq_bool_str (fin_bl I q (by simp))
    | _ => exact absurd (show false = true from hs) Bool.false_ne_true
  | int i =>
    obtain ⟨t, rfl⟩ := rx
    cases y with
    | non => cases ry; exact PySem.EqNone.eq_int_none (fin_bl I q (by simp))
    | int j => obtain ⟨t', rfl⟩ := ry; exact eq_int (fin_bl I q dec_int)
    | str j => obtain ⟨t', rfl⟩ := ry; exact PySem.EqMixed.eq_int_str (fin_bl I q (by simp))
    | _ => exact absurd (show false = true from hs) Bool.false_ne_true
  | str i =>
    obtain ⟨t, rfl⟩ := rx
    cases y with
    | non => cases ry; exact PySem.EqNone.eq_str_none (fin_bl I q (by simp))
    | bl j => cases ry; exact PySem.EqMixed.eq_str_bool (fin_bl I q (by simp))
    | int j => obtain ⟨t', rfl⟩ := ry; exact PySem.EqMixed.eq_str_int (fin_bl I q (by simp))
    | str j => obtain ⟨t', rfl⟩ := ry; exact eq_str (fin_bl I q dec_str)
    | _ => exact absurd (show false = true from hs) Bool.false_ne_true
  | byt i =>
    obtain ⟨t, rfl⟩ := rx
    cases y with
    | byt j => obtain ⟨t', rfl⟩ := ry; exact PySem.W.eq_bytes (fin_bl I q dec_byt)
    | _ => exact absurd (show false = true from hs) Bool.false_ne_true
  | _ => cases y <;> exact absurd (show false = true from hs) Bool.false_ne_true
theorem op_ne : OpR X (compareOp .NotEq) rNe := by
  intro pins s σ H x y v u Q I rx ry h
  obtain ⟨hs, q⟩ := h
  cases x with
  | non =>
    cases rx
    cases y with
    | non => cases ry; exact PySem.EqNone.ne_none_none (fin_bl I q (by simp))
    | bl j => cases ry; exact PySem.EqNone.ne_none_bool (fin_bl I q (by simp))
    | int j => obtain ⟨t', rfl⟩ := ry; exact PySem.EqNone.ne_none_int (fin_bl I q (by simp))
    | str j => obtain ⟨t', rfl⟩ := ry; exact PySem.EqNone.ne_none_str (fin_bl I q (by simp))
    | _ => exact absurd (show false = true from hs) Bool.false_ne_true
  | bl i =>
    cases rx
    cases y with
    | non => cases ry; exact PySem.EqNone.ne_bool_none (fin_bl I q (by simp))
    | bl j => cases ry; exact ne_bool (fin_bl I q (congrArg not dec_bl))
    | str j => obtain ⟨t', rfl⟩ := ry; exact PySem.EqMixed.ne_bool_str (fin_bl I q (by simp))
    | _ => exact absurd (show false = true from hs) Bool.false_ne_true
  | int i =>
    obtain ⟨t, rfl⟩ := rx
    cases y with
    | non => cases ry; exact PySem.EqNone.ne_int_none (fin_bl I q (by simp))
    | int j => obtain ⟨t', rfl⟩ := ry; exact ne_int (fin_bl I q (congrArg not dec_int))
    | str j => obtain ⟨t', rfl⟩ := ry; exact PySem.EqMixed.ne_int_str (fin_bl I q (by simp))
    | _ => exact absurd (show false = true from hs) Bool.false_ne_true
  | str i =>
    obtain ⟨t, rfl⟩ := rx
    cases y with
    | non => cases ry; exact PySem.EqNone.ne_str_none (fin_bl I q (by simp))
    | bl j => cases ry; exact PySem.EqMixed.ne_str_bool (fin_bl I q (by simp))
    | int j => obtain ⟨t', rfl⟩ := ry; exact PySem.EqMixed.ne_str_int (fin_bl I q (by simp))
    | str j => obtain ⟨t', rfl⟩ := ry; exact ne_str (fin_bl I q (congrArg not dec_str))
    | _ => exact absurd (show false = true from hs) Bool.false_ne_true
  | byt i =>
    obtain ⟨t, rfl⟩ := rx
    cases y with
    | byt j => obtain ⟨t', rfl⟩ := ry; exact PySem.W.ne_bytes (fin_bl I q (congrArg not dec_byt))
    | _ => exact absurd (show false = true from hs) Bool.false_ne_true
  | _ => cases y <;> exact absurd (show false = true from hs) Bool.false_ne_true
theorem op_lt : OpR X (compareOp .Lt) (rI0 fun i j => .bl (decide (i < j))) := opB0 fun _ _ _ _ _ _ _ q => lt_int q
theorem op_gt : OpR X (compareOp .Gt) (rI0 fun i j => .bl (decide (j < i))) := opB0 fun _ _ _ _ _ _ _ q => gt_int q
theorem op_ge : OpR X (compareOp .GtE) (rI0 fun i j => .bl (decide (j ≤ i))) := opB0 fun _ _ _ _ _ _ _ q => ge_int q
theorem op_isN : OpR X (compareOp .Is) (fun x y H Q => y = .non ∧ Q (.bl (decide (x = .non))) H) := by
  intro pins s σ H x y v u Q I rx ry h
  obtain ⟨rfl, q⟩ := h
  cases ry
  refine is_none_gen (fin_bl I q ?_)
  cases x <;> first
    | (cases rx; rfl)
    | (obtain ⟨t, rfl⟩ := rx; rfl)
theorem nomark (b : Expr) {op : CmpOp} (h : op ≠ .In := by decide) (h2 : op ≠ .NotIn := by decide) : behindInMarks op b = false := by
  have e1 : (op == CmpOp.In) = false := by cases op <;> first | rfl | exact absurd rfl h
  have e2 : (op == CmpOp.NotIn) = false := by cases op <;> first | rfl | exact absurd rfl h2
  cases b <;> simp [behindInMarks, e1, e2]
theorem pe_cmpR {op : CmpOp} {r : R2} (ho : OpR X (compareOp op) r) (ha : PE X a ta) (hb : PE X b tb) (hm : behindInMarks op b = false) : PE X (.Compare a [op] [b] pos) (tOp r ta tb) := by
  intro pins s σ H Q I h
  exact wpAny_Compare1 (binT ha hb I h fun v u s2 x y H2 I2 rx ry q => ho pins s2 σ H2 x y v u Q I2 rx ry q) hm
def tTest (t : TE) : TT := fun σ H Q => t σ H fun x H' => ∃ k, x = .bl k ∧ Q k H'
theorem pt_cmpR {op : CmpOp} {r : R2} (ho : OpR X (compareOp op) r) (ha : PE X a ta) (hb : PE X b tb) (hm : behindInMarks op b = false) : PT X (.Compare a [op] [b] pos) (tTest (tOp r ta tb)) := by
  intro pins s σ H Q I h
  refine wpAny_isTrue_Compare1 (thn (ha pins s σ H _ I h) fun v s1 ⟨x, H1, I1, r1, q1⟩ => thn (hb pins s1 σ H1 _ I1 q1) fun u s2 ⟨y, H2, I2, r2, q2⟩ =>
    thn (ho pins s2 σ H2 x y v u _ I2 r1 r2 q2) fun c s3 ⟨z, H3, I3, r3, k, e, q3⟩ => ?_) hm
  subst e
  cases r3
  exact wpAny_truthy_bool ⟨H3, I3, q3⟩
def TruV (K : PySem.W.Frag) (x : V) (H : Hp) (k : Bool) : Prop :=
  match x with
  | .non => k = false
  | .bl b => k = b
  | .int i => k = (i != 0)
  | .str y => y.length ≤ sizeLine ∧ k = ((y.length : Int) != 0)
  | .byt y => y.size ≤ sizeLine ∧ k = ((y.size : Int) != 0)
  | .ref p => (∃ xs, SqL K H p xs ∧ k = !xs.isEmpty) ∨ (∃ xs, SqT K H p xs ∧ k = !xs.isEmpty) ∨ ∃ kvs, H p = some (.dK kvs) ∧ k = !kvs.isEmpty
  | _ => False
theorem isEmpty_kv {κ : Type} {kvs : List (κ × V)} {vs : List (κ × Value)} (r : KV kvs vs) : (!vs.isEmpty) = !kvs.isEmpty := by
  cases r <;> rfl
theorem isEmpty_of {xs : List V} {its : List Value} (r : Vals xs its) : (!its.toArray.isEmpty) = !xs.isEmpty := by
  cases r <;> simp
theorem line63 : (sizeLine : Nat) < 2 ^ 63 := by rw [sizeLine_eq]; decide
theorem tru_ok : TruR X (fun x H Q => ∃ k, TruV X.K x H k ∧ Q k H) := by
  intro pins s σ H x v Q I rx h
  obtain ⟨k, e, q⟩ := h
  have hl := line63
  have hs : sizeLine = 16777216 := sizeLine_eq
  cases x with
  | non =>
    cases rx
    have e' : k = false := e
    subst e'
    exact truthy_none ⟨H, I, q⟩
  | bl b =>
    cases rx
    have e' : k = b := e
    subst e'
    exact wpAny_truthy_bool ⟨H, I, q⟩
  | int i =>
    obtain ⟨t, rfl⟩ := rx
    have e' : k = (i != 0) := e
    subst e'
    exact PySem.P.truthy_int ⟨H, I, q⟩
  | str y =>
    obtain ⟨t, rfl⟩ := rx
    obtain ⟨hy, e'⟩ : y.length ≤ sizeLine ∧ k = ((y.length : Int) != 0) := e
    subst e'
    exact PySem.P.truthy_str (by omega) ⟨H, I.tok _, q⟩
  | byt y =>
    obtain ⟨t, rfl⟩ := rx
    obtain ⟨hy, e'⟩ : y.size ≤ sizeLine ∧ k = ((y.size : Int) != 0) := e
    subst e'
    exact PySem.W.truthy_bytes (by omega) ⟨H, I.tok _, q⟩
  | ref p =>
    cases rx
    have e' : (∃ xs, SqL X.K H p xs ∧ k = !xs.isEmpty) ∨ (∃ xs, SqT X.K H p xs ∧ k = !xs.isEmpty) ∨ ∃ kvs, H p = some (.dK kvs) ∧ k = !kvs.isEmpty := e
    rcases e' with ⟨xs, hx, e'⟩ | ⟨xs, hx, e'⟩ | ⟨kvs, hx, e'⟩
    · subst e'
      obtain ⟨its, r, pl, hz⟩ := I.list hx
      have hlen := r.length
      exact wpAny_truthy_list pl.isList (by simp only [List.size_toArray]; omega) ⟨H, I.tok _, by rw [isEmpty_of r]; exact q⟩
    · subst e'
      obtain ⟨its, r, pl, hz⟩ := I.tuple hx
      have hlen := r.length
      exact truthy_tuple pl (by simp only [List.size_toArray]; omega) ⟨H, I.tok _, by rw [isEmpty_of r]; exact q⟩
    · subst e'
      obtain ⟨hz, hS, vs, r, m⟩ : kvs.length ≤ sizeLine ∧ (p == sysModules) = false ∧ ∃ vs, KV kvs vs ∧ s.heap.DictOf (mixKind X.prog X.w) p vs := I.hok p _ hx
      have hlen : kvs.length = vs.length := Paired.length r
      exact wpAny_truthy_dict hS m (by omega) ⟨H, I.tok _, by rw [isEmpty_kv r]; exact q⟩
  | _ => exact (show False from e).elim
theorem pt_truth (ha : PE X a ta) (he : ∀ whole, isTrue a X.env whole = (do let v ← whole; standAt a.pos; holding [v] (truthy v))) :
    PT X a (fun σ H Q => ta σ H fun x H' => ∃ k, TruV X.K x H' k ∧ Q k H') := by
  intro pins s σ H Q I h
  exact isTrue_plain (thn (ha pins s σ H _ I h) fun v s1 ⟨x, H1, I1, r1, q1⟩ => tru_ok pins s1 σ H1 x v Q I1 r1 q1) (he _)
theorem vals1 {x : V} {us : List Value} (r : Vals [x] us) : ∃ u, us = [u] ∧ RelV x u := by
  cases r with
  | cons r1 r2 => cases r2; exact ⟨_, rfl, r1⟩
theorem vals2 {x y : V} {us : List Value} (r : Vals [x, y] us) : ∃ u w', us = [u, w'] ∧ RelV x u ∧ RelV y w' := by
  cases r with
  | cons r1 r2 =>
    cases r2 with
    | cons r3 r4 => cases r4; exact ⟨_, _, rfl, r1, r3⟩
theorem call_abs : CallR X (.builtin "abs") (fun xs H Q => ∃ i, xs = [.int i] ∧ Q (.int (if i < 0 then -i else i)) H) := by
  intro pins s σ H xs us Q I r h
  obtain ⟨i, rfl, q⟩ := h
  obtain ⟨u, rfl, t, rfl⟩ := vals1 r
  exact call_abs_int fun u tk => ⟨.int (if i < 0 then -i else i), H, I.tok _, ⟨_, rfl⟩, q⟩
theorem call_min2 (hc : X.calm = true) : CallR X (.builtin "min") (fun xs H Q => ∃ i j, xs = [.int i, .int j] ∧ Q (.int (if j < i then j else i)) H) := by
  intro pins s σ H xs us Q I r h
  obtain ⟨i, j, rfl, q⟩ := h
  obtain ⟨u, w', rfl, ⟨t, rfl⟩, ⟨t', rfl⟩⟩ := vals2 r
  refine min_two_ints (I.ok.hd hc) fun h' tk k => ⟨_, H, I.kept k, ?_, q⟩
  by_cases hj : j < i
  · rw [if_pos hj, if_pos hj]; exact ⟨_, rfl⟩
  · rw [if_neg hj, if_neg hj]; exact ⟨_, rfl⟩
theorem call_ord : CallR X (.builtin "ord") (fun xs H Q => ∃ x, xs = [.str x] ∧ x.length = 1 ∧ Q (.int (x.cps.getD 0 0 : Nat)) H) := by
  intro pins s σ H xs us Q I r h
  obtain ⟨x, rfl, hz, q⟩ := h
  obtain ⟨u, rfl, t, rfl⟩ := vals1 r
  exact ord_of_one hz ⟨.int _, H, I.tok _, ⟨_, rfl⟩, q⟩
end
end L2
namespace L2
open PySem PySem.Spec PyProof.Rows
structure ObjM (h : Heap) (x dx C : Addr) (mA : Str → Option Value) : Prop where
  obj : h.get? x = some (PySem.W.instObj C dx)
  ns : h.Ns1 dx mA
  ne : dx ≠ x
theorem lookIn_ns {h : Heap} {dx : Addr} {mA : Str → Option Value} (n : h.Ns1 dx mA) : ∃ od, h.get? dx = some od ∧ ∀ name, PySem.W.lookIn name od = some (mA name) := by
  obtain ⟨o, es, ep, ho, hd, hk, _, hm⟩ := n
  refine ⟨o, ho, fun name => ?_⟩
  have e := hm name
  unfold nsFind findBy at e
  rw [← Array.find?_toList] at e
  unfold PySem.W.lookIn
  rw [hd]
  dsimp only
  split
  · rename_i y q
    rw [q] at e
    exact congrArg some e
  · rename_i q
    rw [q] at e
    have a : es.toList.any (·.refKey) = false := by
      rw [List.any_eq_false]
      intro y hy
      obtain ⟨z, t, hkey⟩ := hk y (Array.mem_toList_iff.mp hy)
      simp [DictEntry.refKey, hkey]
    have a' : ¬ es.toList.any (·.refKey) = true := by rw [a]; exact Bool.false_ne_true
    rw [if_neg a']
    exact congrArg some e
theorem ObjM.look {h : Heap} {x dx C : Addr} {mA : Str → Option Value} (I : ObjM h x dx C mA) : ∃ od, PySem.W.InstAt h x (PySem.W.instObj C dx) C (some od) ∧ ∀ name, PySem.W.lookIn name od = some (mA name) :=
  let ⟨od, ho, hl⟩ := lookIn_ns I.ns
  ⟨od, ⟨I.obj, rfl, rfl, ho⟩, hl⟩
section
variable {prog : Program} {w : World} {A : Around} {E : Value → Shared → Prop} {s : Shared} {K : PySem.W.Frag} {x dx C f : Addr} {mA : Str → Option Value} {name : Str} {v : Value}
theorem get_map {expr : Bool} {Q : Value → Shared → Prop} (X : K.In s.heap) (I : ObjM s.heap x dx C mA) (hg : PySem.W.plainGet K C name = true) (hh : PySem.W.hasDictIn K C = true)
    (ha : PySem.W.findIn K (.ref C) name = some none) (hv : mA name = some v) (hv' : PySem.W.handedIn v = true) (h : Q v { s with toks := s.toks + 1 }) :
    wpAny (model prog w) A (getAttr (.ref x) name expr) Q E s := by
  obtain ⟨od, J, hl⟩ := I.look
  exact PySem.W.get_value X J (PySem.W.plainGet_of hg).1 (PySem.W.findObj_own hh ha rfl (by rw [hl, hv])) hv' h
theorem get_meth {pl : Sem Bool} {Q : Value × List Value → Shared → Prop} (X : K.In s.heap) (I : ObjM s.heap x dx C mA) (hg : PySem.W.plainGet K C name = true)
    (hf : PySem.W.findIn K (.ref C) name = some (some (.ref f))) (ht : PySem.W.isFn K (.ref f) = true) (hv : mA name = none) (h : Q (.ref f, [.ref x]) s) :
    wpAny (model prog w) A (getMethod (.ref x) name pl) Q E s := by
  obtain ⟨od, J, hl⟩ := I.look
  exact PySem.W.method_fn X J (PySem.W.plainGet_of hg).1 (PySem.W.plainGet_of hg).2 hf (beq_iff_eq.mp ht) (by show (PySem.W.lookIn name od).map (·.isSome) = some false; rw [hl, hv]; rfl) h
theorem set_map {ns : List Str} {Q : Unit → Shared → Prop} (X : K.In s.heap) (I : ObjM s.heap x dx C mA)
    (hs : PySem.W.findIn K (.ref C) "__setattr__" = some (some (.builtin "object.__setattr__"))) (hp : PySem.W.plainOver K C = true) (ht : PySem.W.takerIn K C name = some none) (hh : PySem.W.hasDictIn K C = true)
    (hw : PySem.Within mA ns) (hsz : ns.length ≤ sizeLine)
    (h : ∀ h', ObjM h' x dx C (fun y => if y = name then some v else mA y) → Heap.SameBut dx s.heap h' → Q () { s with heap := h', toks := s.toks + 2 }) :
    wpAny (model prog w) A (setAttr (.ref x) name v) Q E s := by
  obtain ⟨od, J, hl⟩ := I.look
  refine PySem.W.set_plain X J hs (PySem.W.osa_open (s := { s with toks := s.toks + 1 }) (r := none) X J hp ht fun b => ?_)
  obtain ⟨cd, hc, hd'⟩ := PySem.W.any_some hh
  have hx : s.heap.get? x = some ⟨.ref C, some dx, .plain, #[]⟩ := I.obj
  refine wpAny_bind (wpAny_pure (wpAny_bind (wpAny_bind (wpAny_loadPart hx (wpAny_bind (PySem.W.Looks.here (s := { s with toks := s.toks + 1 }) (PySem.W.looks_clsIn X hc) ?_))))))
  rw [hd']
  refine wpAny_pure (a := some dx) (wpAny_bind (wpAny_pure (wpAny_bind ?_)))
  refine wpAny_nsSet1 (s := { s with toks := s.toks + 1 }) I.ns fun h' hn2 hs2 => ?_
  obtain ⟨oD, esD, epD, hoD, hdD, hcD⟩ := hn2.count (PySem.Within.cons name v hw)
  refine wpAny_bind (wpAny_lookBehind hoD (by rw [hdD]; exact pastItsLine_dict (Nat.le_trans hcD (by rw [List.length_cons]; omega))) ?_)
  exact wpAny_pure (h _ ⟨(hs2.2 _ (Ne.symm I.ne)).trans I.obj, hn2, I.ne⟩ hs2)
theorem make_map {R : Result → Shared → Prop} {vs : List Value} {kw : List (Str × Value)} (X : K.In s.heap) (hm : PySem.W.makesIn K C = true)
    (hi : PySem.W.findIn K (.ref C) "__init__" = some (some (.ref f))) (hf : PySem.W.typeIn K (.ref f) = some (.type "function"))
    (h : codeAny (model prog w) (A.under (.builtin "type.__call__" ⟨.ref C :: vs, kw⟩)) (.call (.ref f) ⟨.ref (s.heap.objs.size + 1) :: vs, kw⟩) (PySem.W.InitBack (s.heap.objs.size + 1) R)
      { s with heap := (s.heap.push PySem.W.emptyDict).push (PySem.W.instObj C s.heap.objs.size) }) :
    codeAny (model prog w) A (.call (.ref C) ⟨vs, kw⟩) R s := by
  obtain ⟨hh, g, d, t, os⟩ := s
  exact PySem.W.make_core (PySem.W.makes_of X hm) (PySem.W.looks_findIn X hi) (fun self => PySem.W.bind_fn X self hf) (.inl rfl) h
end
def putF (f : Str) (v : V) : List (Str × V) → List (Str × V)
  | [] => [(f, v)]
  | (g, x) :: r => if g = f then (g, v) :: r else (g, x) :: putF f v r
theorem lookup_putF (f g : Str) (v : V) : ∀ fs : List (Str × V), (putF f v fs).lookup g = if g = f then some v else fs.lookup g
  | [] => by
    show List.lookup g [(f, v)] = _
    by_cases h : g = f
    · have hb : (g == f) = true := beq_iff_eq.mpr h
      simp only [List.lookup, hb, if_pos h]
    · have hb : (g == f) = false := beq_eq_false_iff_ne.mpr h
      simp only [List.lookup, hb, if_neg h]
  | (k, x) :: r => by
    have ih := lookup_putF f g v r
    rw [show putF f v ((k, x) :: r) = (if k = f then (k, v) :: r else (k, x) :: putF f v r) from rfl]
    by_cases hk : k = f
    · rw [if_pos hk]
      by_cases h : g = k
      · have hb : (g == k) = true := beq_iff_eq.mpr h
        simp only [List.lookup, hb, if_pos (h.trans hk)]
      · have hb : (g == k) = false := beq_eq_false_iff_ne.mpr h
        simp only [List.lookup, hb, if_neg (fun e : g = f => h (e.trans hk.symm))]
    · rw [if_neg hk]
      by_cases h : g = k
      · have hb : (g == k) = true := beq_iff_eq.mpr h
        simp only [List.lookup, hb, if_neg (fun e : g = f => hk (h.symm.trans e))]
      · have hb : (g == k) = false := beq_eq_false_iff_ne.mpr h
        simp only [List.lookup, hb]
        exact ih
theorem keys_putF (f : Str) (v : V) : ∀ fs : List (Str × V), f ∈ (putF f v fs).map (·.1) ∧ ∀ g, g ∈ fs.map (·.1) → g ∈ (putF f v fs).map (·.1)
  | [] => ⟨by simp [putF], fun g h => by simp at h⟩
  | (k, x) :: r => by
    obtain ⟨i1, i2⟩ := keys_putF f v r
    rw [show putF f v ((k, x) :: r) = (if k = f then (k, v) :: r else (k, x) :: putF f v r) from rfl]
    by_cases hk : k = f
    · rw [if_pos hk]
      subst hk
      exact ⟨by simp, fun g h => by simpa using h⟩
    · rw [if_neg hk]
      refine ⟨?_, fun g h => ?_⟩
      · rw [List.map_cons]
        exact List.mem_cons_of_mem _ i1
      · rw [List.map_cons] at h ⊢
        rcases List.mem_cons.mp h with e | e
        · exact List.mem_cons.mpr (.inl e)
        · exact List.mem_cons_of_mem _ (i2 g e)
theorem length_putF (f : Str) (v : V) : ∀ fs : List (Str × V), (putF f v fs).length ≤ fs.length + 1
  | [] => by simp [putF]
  | (k, x) :: r => by
    have ih := length_putF f v r
    rw [show putF f v ((k, x) :: r) = (if k = f then (k, v) :: r else (k, x) :: putF f v r) from rfl]
    by_cases hk : k = f
    · rw [if_pos hk, List.length_cons, List.length_cons]; omega
    · rw [if_neg hk, List.length_cons, List.length_cons]; omega
theorem RelO.some_of {v : V} {o : Option Value} (r : RelO (some v) o) : ∃ u, o = some u ∧ RelV v u := by
  cases o with
  | none => exact (show False from r).elim
  | some u => exact ⟨u, rfl, r⟩
theorem RelO.none_of {o : Option Value} (r : RelO none o) : o = none := by
  cases o with
  | none => rfl
  | some u => exact (show False from r).elim
theorem handed_of {v : V} {u : Value} (r : RelV v u) : PySem.W.handedIn u = true := by
  cases v with
  | non => cases (show u = Value.none from r); rfl
  | bl b => cases (show u = Value.bool b from r); rfl
  | int i => obtain ⟨t, e⟩ := (show ∃ t, u = Value.int i t from r); cases e; rfl
  | str x => obtain ⟨t, e⟩ := (show ∃ t, u = Value.str x t from r); cases e; rfl
  | byt b => obtain ⟨t, e⟩ := (show ∃ t, u = Value.bytes b t from r); cases e; rfl
  | flt b => obtain ⟨t, e⟩ := (show ∃ t, u = Value.float b t from r); cases e; rfl
  | ref a => cases (show u = Value.ref a from r); rfl
  | ty n => cases (show u = Value.type n from r); rfl
section
variable {P : Program} {w : World} {H H' : Hp} {h h' : Heap} {a C dx : Addr} {fs fs' : List (Str × V)}
theorem ins_get (hok : HOk P w H h) (e : H a = some (.ins C dx fs)) : ∃ mA, ObjM h a dx C mA ∧ (∀ f, RelO (fs.lookup f) (mA f)) ∧ PySem.Within mA (fs.map (·.1)) ∧ fs.length ≤ 1000 ∧ H dx = some (.own a) := by
  obtain ⟨d, z, ne, ob, mA, n, r, q⟩ := (show ObjOk P w H h a (.ins C dx fs) from hok a _ e)
  exact ⟨mA, ⟨ob, n, ne⟩, r, q, z, d⟩
end
structure Cls (K : PySem.W.Frag) (C : Addr) : Prop where
  pg : PySem.W.plainGet K C Str.empty = true
  hd : PySem.W.hasDictIn K C = true
  po : PySem.W.plainOver K C = true
  sa : PySem.W.findIn K (.ref C) "__setattr__" = some (some (.builtin "object.__setattr__"))
theorem Cls.get {K : PySem.W.Frag} {C : Addr} (c : Cls K C) (f : Str) : PySem.W.plainGet K C f = true := c.pg
def NoAttr (K : PySem.W.Frag) (C : Addr) (f : Str) : Prop := PySem.W.findIn K (.ref C) f = some none
theorem NoAttr.taker {K : PySem.W.Frag} {C : Addr} {f : Str} (n : NoAttr K C f) : PySem.W.takerIn K C f = some none := by
  unfold PySem.W.takerIn
  rw [show PySem.W.findIn K (.ref C) f = some none from n]
  rfl
structure Meth (K : PySem.W.Frag) (C : Addr) (m : Str) (f : Addr) : Prop where
  at_ : PySem.W.findIn K (.ref C) m = some (some (.ref f))
  fn : PySem.W.isFn K (.ref f) = true
  kp : PySem.W.keepIn K (.ref f) = true
section
variable {X : Cx} {pins : List (Addr × Obj)} {σ : St} {H : Hp} {s : Shared} {a C dx : Addr} {fs : List (Str × V)} {f : Str} {v : V} {A : Around} {E : Value → Shared → Prop}
theorem getattr_ok {b : Bool} {Q : Value → Shared → Prop} (I : Inv X pins σ H s) (e : H a = some (.ins C dx fs)) (c : Cls X.K C) (n : NoAttr X.K C f) (l : fs.lookup f = some v)
    (h : ∀ u s', Inv X pins σ H s' → RelV v u → Q u s') : wpAny (model X.prog X.w) A (getAttr (.ref a) f b) Q E s := by
  obtain ⟨mA, O, r, _, _, _⟩ := ins_get I.hok e
  obtain ⟨u, hu, ru⟩ := RelO.some_of (v := v) (o := mA f) (by rw [← l]; exact r f)
  exact get_map I.kIn O (c.get f) c.hd n hu (handed_of ru) (h u _ (I.tok _) ru)
theorem getmeth_ok {m : Str} {g : Addr} {pl : Sem Bool} {Q : Value × List Value → Shared → Prop} (I : Inv X pins σ H s) (e : H a = some (.ins C dx fs)) (c : Cls X.K C) (k : Meth X.K C m g) (l : fs.lookup m = none)
    (h : Q (.ref g, [.ref a]) s) : wpAny (model X.prog X.w) A (getMethod (.ref a) m pl) Q E s := by
  obtain ⟨mA, O, r, _, _, _⟩ := ins_get I.hok e
  have hn : mA m = none := RelO.none_of (by rw [← l]; exact r m)
  exact get_meth I.kIn O (c.get m) k.at_ k.fn hn h
theorem setattr_ok {y : V} {u : Value} {Q : Unit → Shared → Prop} (I : Inv X pins σ H s) (e : H a = some (.ins C dx fs)) (c : Cls X.K C) (n : NoAttr X.K C f) (hl : fs.length < 1000) (ry : RelV y u)
    (h : ∀ s', Inv X pins σ (upd H a (.ins C dx (putF f y fs))) s' → Q () s') : wpAny (model X.prog X.w) A (setAttr (.ref a) f u) Q E s := by
  obtain ⟨mA, O, r, wi, _, ho⟩ := ins_get I.hok e
  have hz : (fs.map (·.1)).length ≤ sizeLine := by rw [List.length_map, sizeLine_eq]; omega
  refine set_map I.kIn O c.sa c.po n.taker c.hd wi hz fun h' O' sb => h _ ?_
  have hd : ∃ o, h'.get? dx = some o := let ⟨o, _, _, e', _⟩ := O'.ns; ⟨o, e'⟩
  refine I.write (x := a) (e := dx) (by rw [e]; exact True.intro) (.inr ho) (fun b q hb z => (sb.2 b hb).trans z) hd ?_
  refine ⟨by rw [upd_ne O.ne]; exact ho, ?_, O.ne, O'.obj, _, O'.ns, fun g => ?_, fun g hg => ?_⟩
  · have := length_putF f y fs; omega
  · show RelO ((putF f y fs).lookup g) (if g = f then some u else mA g)
    rw [lookup_putF]
    by_cases q : g = f
    · rw [if_pos q, if_pos q]; exact ry
    · rw [if_neg q, if_neg q]; exact r g
  · by_cases q : g = f
    · rw [q]; exact (keys_putF f y fs).1
    · refine (keys_putF f y fs).2 g (wi g fun z => hg ?_)
      show (if g = f then some u else mA g) = none
      rw [if_neg q]; exact z
theorem Inv.made (I : Inv X pins σ H s) : Inv X pins σ (upd (upd H s.heap.objs.size (.own (s.heap.objs.size + 1))) (s.heap.objs.size + 1) (.ins C s.heap.objs.size []))
    { s with heap := (s.heap.push PySem.W.emptyDict).push (PySem.W.instObj C s.heap.objs.size) } := by
  have e1 : (s.heap.push PySem.W.emptyDict).get? s.heap.objs.size = some PySem.W.emptyDict := Heap.get?_push_size s.heap rfl
  have e2 : ((s.heap.push PySem.W.emptyDict).push (PySem.W.instObj C s.heap.objs.size)).get? (s.heap.objs.size + 1) = some (PySem.W.instObj C s.heap.objs.size) := by
    have := Heap.get?_push_size (s.heap.push PySem.W.emptyDict) (o := PySem.W.instObj C s.heap.objs.size) rfl
    rwa [Heap.size_push] at this
  have e3 : (s.heap.push PySem.W.emptyDict).Ns s.heap.objs.size (fun _ => none) := ⟨PySem.W.emptyDict, #[], _, e1, rfl, (fun e he => absurd he (by simp)), fun _ => rfl⟩
  have I1 := I.laid (a := s.heap.objs.size) (o := .own (s.heap.objs.size + 1)) (h' := s.heap.push PySem.W.emptyDict) (t' := s.toks) (fun b u q => Heap.get?_push_of_some _ q) (Nat.le_refl _) ⟨_, e1⟩
  refine I1.laid (a := s.heap.objs.size + 1) (o := .ins C s.heap.objs.size []) (t' := s.toks) (fun b u q => Heap.get?_push_of_some _ q) (Nat.le_of_eq (Heap.size_push _ _)) ?_
  have ne : s.heap.objs.size ≠ s.heap.objs.size + 1 := Nat.ne_of_lt (Nat.lt_succ_self _)
  refine ⟨by rw [upd_ne ne, upd_same], Nat.zero_le _, ne, e2, fun _ => none, (Heap.Ns1.of_empty e3).at fun o q => Heap.get?_push_of_some _ q, fun _ => True.intro, fun y hy => absurd rfl hy⟩
theorem attr_of {prog : Program} {w : World} {env : Env} {e : Expr} {f : Str} {pos : Pos} {s : Shared} {Q : Value → Shared → Prop} (hb : attributeBase e f env (eval e env) = eval e env)
    (h : wpAny (model prog w) A (eval e env) (fun o s₁ => wpAny (model prog w) A (getAttr o f true) Q E s₁) E s) : wpAny (model prog w) A (eval (.Attribute e f pos) env) Q E s :=
  Attribute_any_ h (by rw [arm_eval_Attribute, hb])
end
def tFld (K : PySem.W.Frag) (ta : TE) (f : Str) : TE := fun σ H Q => ta σ H fun x H1 => ∃ a C dx fs v, x = .ref a ∧ H1 a = some (.ins C dx fs) ∧ Cls K C ∧ NoAttr K C f ∧ fs.lookup f = some v ∧ Q v H1
def sFld (K : PySem.W.Frag) (ta tv : TE) (f : Str) : TS := fun D σ H => tv σ H fun y H1 => ta σ H1 fun x H2 => ∃ a C dx fs, x = .ref a ∧ H2 a = some (.ins C dx fs) ∧ Cls K C ∧ NoAttr K C f ∧ fs.length < 1000 ∧
  D.nx σ (upd H2 a (.ins C dx (putF f y fs)))
section
variable {X : Cx} {o e value : Expr} {f : Str} {pos pos' tpos : Pos} {ta tv : TE}
theorem pe_fld (he : PE X e ta) (hb : attributeBase e f X.env (eval e X.env) = eval e X.env) : PE X (.Attribute e f pos) (tFld X.K ta f) := by
  intro pins s σ H Q I h
  refine attr_of hb (thn (he pins s σ H _ I h) fun u s1 ⟨x, H1, I1, rx, a, C, dx, fs, v, ex, ea, c, n, l, q⟩ => ?_)
  subst ex
  obtain rfl : u = Value.ref a := rx
  exact getattr_ok I1 ea c n l fun u' s2 I2 ru => ⟨v, H1, I2, ru, q⟩
theorem ps_fld (ha : PE X o ta) (hv : PE X value tv) (hs : swapsWith value (some (.Attribute o f pos')) pos.line X.env = pure false) : PS X (.Assign [.Attribute o f pos'] value pos) (sFld X.K ta tv f) := by
  intro pins s σ H D I h
  refine plainObj_wpAny_Assign_Attribute (thn (hv pins s σ H _ I h) fun u s1 ⟨y, H1, I1, ry, q⟩ => thn (ha pins s1 σ H1 _ I1 q) fun ov s2 ⟨x, H2, I2, rx, a, C, dx, fs, ex, ea, c, n, l, q2⟩ => ?_) hs
  subst ex
  obtain rfl : ov = Value.ref a := rx
  exact setattr_ok I2 ea c n l ry fun s3 I3 => ⟨σ, _, I3, q2⟩
theorem methcall_of {pl : Sem Bool} {m : Str} {apos : Pos} {args : List Expr} {pins : List (Addr × Obj)} {s : Shared} {σ : St} {H : Hp} {Q : Value → Shared → Prop} {te : TE} (he : PE X e te) (I : Inv X pins σ H s)
    (h : te σ H fun x H1 => ∃ a C dx fs g, x = .ref a ∧ H1 a = some (.ins C dx fs) ∧ Cls X.K C ∧ Meth X.K C m g ∧ fs.lookup m = none ∧
      ∀ s1, Inv X pins σ H1 s1 → wpAny (model X.prog X.w) X.A (callWith pos (.ref g) [.ref a] (backTo pos (starEach args X.env)) (backToKw pos (keywordEach [] X.env))) Q X.xe s1)
    (ht : eval (.Call (.Attribute e m apos) args [] pos) X.env = (do
      let ov ← eval e X.env
      standAt apos.atName
      let (f, first) ← holding [ov] (getMethod ov m pl)
      callWith pos f first (backTo pos (starEach args X.env)) (backToKw pos (keywordEach [] X.env)))) :
    wpAny (model X.prog X.w) X.A (eval (.Call (.Attribute e m apos) args [] pos) X.env) Q X.xe s := by
  refine PySem.W.methodCall_KW (pl := pl) (thn (he pins s σ H _ I h) fun u s1 ⟨x, H1, I1, rx, a, C, dx, fs, g, ex, ea, c, k, l, q⟩ => ?_) ht
  subst ex
  obtain rfl : u = Value.ref a := rx
  exact getmeth_ok I1 ea c k l (q s1 I1)
end
end L2
namespace L2
open PySem PySem.Spec PyProof.Rows
structure Room (k : Nat) (A : Around) : Prop where
  hd : A.handled = none
  dp : A.depth + 3 * k + 5 < recursionLimit
  un : A.units + 16 * k + 200 < cLine
theorem Room.mono {j k : Nat} {A : Around} (r : Room k A) (h : j ≤ k) : Room j A := ⟨r.hd, by have := r.dp; omega, by have := r.un; omega⟩
theorem Room.deeper {k : Nat} {A : Around} (r : Room (k + 1) A) (env : Env) : Room k (A.deeper env) :=
  ⟨r.hd, by have := r.dp; show A.depth + 1 + 3 * k + 5 < _; omega, by have := r.un; show A.units + 3 + 16 * k + 200 < _; omega⟩
theorem make_depth {A : Around} {C : Addr} {us : List Value} {kw : List (Str × Value)} : (A.under (.builtin "type.__call__" ⟨.ref C :: us, kw⟩)).depth = A.depth + 1 := by
  first | rfl | simp [Around.under, Code.weight, Code.isCreation, Code.isGuard, Code.isCaller, Code.frames, Code.isFrame, guardIds]
theorem make_units {A : Around} {C : Addr} {us : List Value} {kw : List (Str × Value)} : (A.under (.builtin "type.__call__" ⟨.ref C :: us, kw⟩)).units = A.units + 1 := by
  first | rfl | simp [Around.under, Code.cUnits, Code.frames, Code.isFrame]
theorem Room.make {k : Nat} {A : Around} (r : Room (k + 1) A) (C : Addr) (us : List Value) (kw : List (Str × Value)) : Room k (A.under (.builtin "type.__call__" ⟨.ref C :: us, kw⟩)) :=
  ⟨r.hd, by have := r.dp; rw [make_depth]; omega, by have := r.un; rw [make_units]; omega⟩
theorem Room.depth {k : Nat} {A : Around} (r : Room k A) : A.depth < recursionLimit := by have := r.dp; omega
theorem Room.units {k : Nat} {A : Around} (r : Room k A) : A.units + 64 < cLine := by have := r.un; omega
def tNil : TA := fun _ H Q => Q [] H
def tCons (ta : TE) (tr : TA) : TA := fun σ H Q => ta σ H fun x H1 => tr σ H1 fun xs H2 => Q (x :: xs) H2
section
variable {X : Cx} {e : Expr} {es : List Expr} {te : TE} {t : TA} {pos : Pos}
theorem pa_nil : PA X [] tNil := fun _ _ _ _ H Q I h => Calls.spliced_nil ⟨[], H, I, .nil, h⟩
theorem pa_cons (ha : PE X e te) (hr : PA X es t) (hs : starEach (e :: es) X.env = (false, eval e X.env) :: starEach es X.env := by rfl) : PA X (e :: es) (tCons te t) := by
  intro pos pins s σ H Q I h
  rw [hs]
  show wpAny _ _ (spliced ((false, eval e X.env) :: backTo pos (starEach es X.env))) _ _ s
  refine Calls.spliced_cons (thn (ha pins s σ H _ I h) fun u s1 ⟨x, H1, I1, r1, q1⟩ => ?_)
  exact thn (hr pos pins s1 σ H1 _ I1 q1) fun us s2 ⟨xs, H2, I2, r2, q2⟩ => ⟨x :: xs, H2, I2, .cons r1 r2, q2⟩
def tTup (t : TA) : TE := fun σ H Q => t σ H fun xs H1 => xs.length ≤ sizeLine ∧ ∀ p, H1 p = none → Q (.ref p) (upd H1 p (.tup xs))
def tLst (t : TA) : TE := fun σ H Q => t σ H fun xs H1 => xs.length ≤ sizeLine ∧ ∀ p, H1 p = none → Q (.ref p) (upd H1 p (.lst xs))
theorem pe_tup {x1} (h : PA X es t) : PE X (.Tuple es x1 pos) (tTup t) := by
  intro pins s σ H Q I hq
  refine wpAny_Tuple_spliced (thn (h pos pins s σ H _ I hq) fun us s1 ⟨xs, H1, I1, r, z, q⟩ => ⟨by rw [← r.length]; exact z, ?_⟩)
  have hf : H1 s1.heap.objs.size = none := I1.hok.fresh (Nat.le_refl _)
  refine ⟨.ref s1.heap.objs.size, upd H1 s1.heap.objs.size (.tup xs), I1.laid (t' := s1.toks) (fun b u e => Heap.get?_push_of_some _ e) (Nat.le_refl _) ?_, rfl, q _ hf⟩
  exact ⟨z, us, r, ⟨_, Heap.get?_push_size _ rfl, rfl, _, rfl⟩⟩
theorem pe_lst (h : PA X es t) : PE X (.List es pos) (tLst t) := by
  intro pins s σ H Q I hq
  refine wpAny_List_spliced (thn (h pos pins s σ H _ I hq) fun us s1 ⟨xs, H1, I1, r, z, q⟩ => ⟨by rw [← r.length]; exact z, ?_⟩)
  have hf : H1 s1.heap.objs.size = none := I1.hok.fresh (Nat.le_refl _)
  refine ⟨.ref s1.heap.objs.size, upd H1 s1.heap.objs.size (.lst xs), I1.laid (t' := s1.toks) (fun b u e => Heap.get?_push_of_some _ e) (Nat.le_refl _) ?_, rfl, q _ hf⟩
  exact ⟨z, us, 0, r, Heap.get?_push_size _ rfl⟩
end
abbrev Sp := List V → Hp → VK → XK → Prop
abbrev CXT := List Env → Hp → Shared → XK → Value → Shared → Prop
structure Env0 (P : Program) (w : World) (K : PySem.W.Frag) (mg : Str → Option Value) (base : Heap) (A : Around) (outer : List Env) (s : Shared) (H : Hp) : Prop where
  frames : A.frames = some outer
  mod : Mod K mg base
  bs : ∀ b o, base.get? b = some o → s.heap.get? b = some o ∧ H b = none
  bsz : base.objs.size ≤ s.heap.objs.size
  funs : s.heap.FunFrames base outer
  frf : ∀ b ∈ frs outer, H b = none
  hok : HOk P w H s.heap
  bare : AllBare s.gens
def CE (outer : List Env) (P : Program) (w : World) (H : Hp) (s : Shared) (Q : VK) (u : Value) (s' : Shared) : Prop :=
  ∃ v H', s'.os = s.os ∧ AllBare s'.gens ∧ Un (frs outer) [] H H' s.heap s'.heap ∧ HOk P w H' s'.heap ∧ RelV v u ∧ Q v H'
def CR (CX : CXT) (outer : List Env) (P : Program) (w : World) (H : Hp) (s : Shared) (Q : VK) (E : XK) (r : Result) (s' : Shared) : Prop :=
  match r with
  | .ok (.ret u) => CE outer P w H s Q u s'
  | .ok _ => False
  | .error e => CX outer H s E e s'
structure FnOk (P : Program) (w : World) (K : PySem.W.Frag) (mg : Str → Option Value) (base : Heap) (CX : CXT) (k : Nat) (f : Addr) (fd : FuncData) (ps : List Str) (sp : Sp) : Prop where
  len : ∀ vs H Q E, sp vs H Q E → vs.length = ps.length
  run : ∀ (A : Around) (outer : List Env) (s : Shared) (H : Hp) (args : Args) (us : List Value) (vs : List V) (Q : VK) (E : XK), Room k A → Env0 P w K mg base A outer s H → BindsTo s fd args (ps.zip us) → Vals vs us → sp vs H Q E →
    codeAny (model P w) A (.call (.ref f) args) (CR CX outer P w H s Q E) s
theorem Env0.make {P : Program} {w : World} {K : PySem.W.Frag} {mg : Str → Option Value} {base : Heap} {A : Around} {outer : List Env} {s : Shared} {H : Hp} (e : Env0 P w K mg base A outer s H) (C : Addr) (us : List Value) (kw : List (Str × Value)) :
    Env0 P w K mg base (A.under (.builtin "type.__call__" ⟨.ref C :: us, kw⟩)) outer s H := ⟨by first | exact e.frames | (simpa [Around.under, Code.envs, Code.isFrame, pushEnvs] using e.frames), e.mod, e.bs, e.bsz, e.funs, e.frf, e.hok, e.bare⟩
section
variable {X : Cx} {pins : List (Addr × Obj)} {σ : St} {H : Hp} {s s' : Shared}
theorem Inv.env0 (I : Inv X pins σ H s) : Env0 X.prog X.w X.K X.mg X.base X.A X.stack s H :=
  ⟨I.ok.frames, I.ok.mod, I.bs, Nat.le_trans I.ok.bsz I.sz, I.stack, I.stkFree, I.hok, I.bare⟩
theorem Inv.after {Q : VK} {u : Value} (I : Inv X pins σ H s) (h : CE X.stack X.prog X.w H s Q u s') : EP X pins σ Q u s' := by
  obtain ⟨v, H', os, bare, un, hok, r, q⟩ := h
  obtain ⟨hh, g, d, t, os'⟩ := s'
  obtain rfl : os' = s.os := os
  exact ⟨v, H', I.call (h' := hh) (g' := g) (d' := d) (t' := t) (ch := []) un hok bare (fun b z => absurd z (by simp)), r, q⟩
end
def tCall (sp : Sp) (dvs : List V) (E : XK) (t : TA) : TE := fun σ H Q => t σ H fun vs H1 => sp (vs ++ dvs) H1 Q E
def tMeth (C : Addr) (m : Str) (sp : Sp) (dvs : List V) (E : XK) (ta : TE) (t : TA) : TE := fun σ H Q => ta σ H fun x H1 => ∃ a dx fs, x = .ref a ∧ H1 a = some (.ins C dx fs) ∧ fs.lookup m = none ∧
  t σ H1 fun vs H2 => sp (x :: (vs ++ dvs)) H2 Q E
def tMake (C : Addr) (sp : Sp) (dvs : List V) (E : XK) (t : TA) : TE := fun σ H Q => t σ H fun vs H1 => ∀ x dx, H1 x = none → H1 dx = none → dx ≠ x →
  sp (.ref x :: (vs ++ dvs)) (upd (upd H1 dx (.own x)) x (.ins C dx [])) (fun v H2 => v = .non ∧ Q (.ref x) H2) E
def Binds (K : PySem.W.Frag) (fd : FuncData) (ps : List Str) (ds : List Value) : Prop :=
  ∀ (s : Shared) (us : List Value), K.In s.heap → (us ++ ds).length = ps.length → BindsTo s fd ⟨us, []⟩ (ps.zip (us ++ ds))
theorem Binds.all {K : PySem.W.Frag} {fd : FuncData} {ps : List Str} (h : ∀ us : List Value, us.length = ps.length → bindArgs fd ⟨us, []⟩ = pure (ps.zip us)) : Binds K fd ps [] := fun s us _ hl => by
  rw [List.append_nil] at hl ⊢
  exact .of_eq (h us hl)
def Passes (CX : CXT) (X : Cx) (E : XK) : Prop := ∀ (pins : List (Addr × Obj)) (σ : St) (H : Hp) (s : Shared) (e : Value) (s' : Shared), Inv X pins σ H s → CX X.stack H s E e s' → X.xe e s'
section
variable {X : Cx} {CX : CXT} {k : Nat} {f C : Addr} {fd : FuncData} {ps : List Str} {sp : Sp} {dvs : List V} {ds : List Value} {E : XK} {x m : Str} {p pos apos : Pos} {e o : Expr} {es : List Expr} {ta : TE} {t : TA}
theorem run_fn {pins : List (Addr × Obj)} {σ : St} {H : Hp} {s : Shared} {Q : VK} {us : List Value} {vs : List V} (F : FnOk X.prog X.w X.K X.mg X.base CX k f fd ps sp) (hr : Room k X.A) (hb : Binds X.K fd ps ds) (hd : Vals dvs ds) (hx : Passes CX X E)
    (I : Inv X pins σ H s) (r : Vals vs us) (h : sp (vs ++ dvs) H Q E) : wpAny (model X.prog X.w) X.A (call (.ref f) us) (EP X pins σ Q) X.xe s := by
  have r2 : Vals (vs ++ dvs) (us ++ ds) := r.append hd
  have hl : (us ++ ds).length = ps.length := by rw [← r2.length]; exact F.len _ _ _ _ h
  refine wpAny_call (codeAny_mono (F.run X.A X.stack s H ⟨us, []⟩ (us ++ ds) (vs ++ dvs) Q E hr I.env0 (hb s us I.kIn hl) r2 h) fun r s' hq => ?_)
  cases r with
  | error e => exact hx pins σ H s e s' I hq
  | ok fl =>
    cases fl with
    | ret u => exact I.after hq
    | next => exact False.elim hq
    | brk => exact False.elim hq
    | cont => exact False.elim hq
theorem pe_call (F : FnOk X.prog X.w X.K X.mg X.base CX k f fd ps sp) (hr : Room k X.A) (hg : Gl X x) (hm : X.mg x = some (.ref f)) (hk : PySem.W.keepIn X.K (.ref f) = true) (hb : Binds X.K fd ps ds) (hd : Vals dvs ds) (hx : Passes CX X E)
    (ha : PA X (e :: es) t) (hdb : (x == ("__debug__" : Str)) = false := by decide) (he : starEach (e :: es) X.env = (false, eval e X.env) :: starEach es X.env := by rfl) (hpl : (backTo pos (starEach es X.env)).any (·.1) = false := by rfl) :
    PE X (.Call (.Name x p) (e :: es) [] pos) (tCall sp dvs E t) := by
  intro pins s σ H Q I h
  refine wpAny_Call_Name_kw (ld_glob I hg hm ?_ hdb)
  refine PySem.W.callWith_K (h₀ := X.base) I.ok.mod.kin hk (thn (ha pos pins s σ H _ I h) fun us s1 ⟨vs, H1, I1, r, q⟩ => ⟨I1.kIn, ?_⟩) he hpl
  exact run_fn F hr hb hd hx I1 r q
theorem pe_call0 (F : FnOk X.prog X.w X.K X.mg X.base CX k f fd ps sp) (hr : Room k X.A) (hg : Gl X x) (hm : X.mg x = some (.ref f)) (hk : PySem.W.keepIn X.K (.ref f) = true) (hb : Binds X.K fd ps ds) (hd : Vals dvs ds) (hx : Passes CX X E)
    (hdb : (x == ("__debug__" : Str)) = false := by decide) : PE X (.Call (.Name x p) [] [] pos) (tCall sp dvs E tNil) := by
  intro pins s σ H Q I h
  refine wpAny_Call_Name_kw (ld_glob I hg hm ?_ hdb)
  exact PySem.W.callWith_K0 I.kIn hk (run_fn (us := []) F hr hb hd hx I .nil h)
theorem pe_meth {pl : Sem Bool} (he : PE X o ta) (c : Cls X.K C) (hm : Meth X.K C m f) (F : FnOk X.prog X.w X.K X.mg X.base CX k f fd ps sp) (hr : Room k X.A) (hb : Binds X.K fd ps ds) (hd : Vals dvs ds) (hx : Passes CX X E) (ha : PA X (e :: es) t)
    (hst : starEach (e :: es) X.env = (false, eval e X.env) :: starEach es X.env := by rfl) (hpl : (backTo pos (starEach es X.env)).any (·.1) = false := by rfl)
    (ht : eval (.Call (.Attribute o m apos) (e :: es) [] pos) X.env = (do
      let ov ← eval o X.env
      standAt apos.atName
      let (f, first) ← holding [ov] (getMethod ov m pl)
      callWith pos f first (backTo pos (starEach (e :: es) X.env)) (backToKw pos (keywordEach [] X.env))) := by rfl) :
    PE X (.Call (.Attribute o m apos) (e :: es) [] pos) (tMeth C m sp dvs E ta t) := by
  intro pins s σ H Q I h
  refine PySem.W.methodCall_KW (pl := pl) (thn (he pins s σ H _ I h) fun u s1 ⟨x, H1, I1, rx, a, dx, fs, ex, ea, l, q⟩ => ?_) ht
  subst ex
  obtain rfl : u = Value.ref a := rx
  refine getmeth_ok I1 ea c hm l ?_
  refine PySem.W.callWith_K (first := [.ref a]) (h₀ := X.base) I.ok.mod.kin hm.kp (thn (ha pos pins s1 σ H1 _ I1 q) fun us s2 ⟨vs, H2, I2, r, q2⟩ => ⟨I2.kIn, ?_⟩) hst hpl
  exact run_fn (us := .ref a :: us) (vs := .ref a :: vs) F hr hb hd hx I2 (.cons rfl r) q2
theorem pe_meth0 {pl : Sem Bool} (he : PE X o ta) (c : Cls X.K C) (hm : Meth X.K C m f) (F : FnOk X.prog X.w X.K X.mg X.base CX k f fd ps sp) (hr : Room k X.A) (hb : Binds X.K fd ps ds) (hd : Vals dvs ds) (hx : Passes CX X E)
    (ht : eval (.Call (.Attribute o m apos) [] [] pos) X.env = (do
      let ov ← eval o X.env
      standAt apos.atName
      let (f, first) ← holding [ov] (getMethod ov m pl)
      callWith pos f first (backTo pos (starEach [] X.env)) (backToKw pos (keywordEach [] X.env))) := by rfl) :
    PE X (.Call (.Attribute o m apos) [] [] pos) (tMeth C m sp dvs E ta tNil) := by
  intro pins s σ H Q I h
  refine PySem.W.methodCall_KW (pl := pl) (thn (he pins s σ H _ I h) fun u s1 ⟨x, H1, I1, rx, a, dx, fs, ex, ea, l, q⟩ => ?_) ht
  subst ex
  obtain rfl : u = Value.ref a := rx
  refine getmeth_ok I1 ea c hm l ?_
  exact PySem.W.callWith_K0 (first := [.ref a]) I1.kIn hm.kp (run_fn (us := [.ref a]) (vs := [.ref a]) F hr hb hd hx I1 (.cons rfl .nil) q)
structure Mk (K : PySem.W.Frag) (C f : Addr) : Prop where
  makes : PySem.W.makesIn K C = true
  init : PySem.W.findIn K (.ref C) "__init__" = some (some (.ref f))
  fn : PySem.W.isFn K (.ref f) = true
  kp : PySem.W.keepIn K (.ref C) = true
theorem run_make {pins : List (Addr × Obj)} {σ : St} {H : Hp} {s : Shared} {Q : VK} {us : List Value} {vs : List V} (M : Mk X.K C f) (F : FnOk X.prog X.w X.K X.mg X.base CX k f fd ps sp) (hr : Room (k + 1) X.A) (hb : Binds X.K fd ps ds) (hd : Vals dvs ds)
    (hx : Passes CX X E) (I : Inv X pins σ H s) (r : Vals vs us)
    (h : ∀ x dx, H x = none → H dx = none → dx ≠ x → sp (.ref x :: (vs ++ dvs)) (upd (upd H dx (.own x)) x (.ins C dx [])) (fun v H2 => v = .non ∧ Q (.ref x) H2) E) :
    wpAny (model X.prog X.w) X.A (call (.ref C) us) (EP X pins σ Q) X.xe s := by
  have hq := h (s.heap.objs.size + 1) s.heap.objs.size (I.hok.fresh (Nat.le_succ _)) (I.hok.fresh (Nat.le_refl _)) (Nat.ne_of_lt (Nat.lt_succ_self _))
  have I2 := Inv.made (C := C) I
  have r2 : Vals (V.ref (s.heap.objs.size + 1) :: (vs ++ dvs)) (Value.ref (s.heap.objs.size + 1) :: (us ++ ds)) := .cons rfl (r.append hd)
  have hl : (Value.ref (s.heap.objs.size + 1) :: us ++ ds).length = ps.length := by
    have e := r2.length
    rw [F.len _ _ _ _ hq] at e
    exact e.symm
  refine wpAny_call (make_map (f := f) I.kIn M.makes M.init (beq_iff_eq.mp M.fn) (codeAny_mono (F.run _ X.stack _ _ ⟨Value.ref (s.heap.objs.size + 1) :: us, []⟩ (Value.ref (s.heap.objs.size + 1) :: (us ++ ds)) _ _ E (hr.make C us [])
    (I2.env0.make C us []) (hb _ (Value.ref (s.heap.objs.size + 1) :: us) I2.kIn hl) r2 hq) fun r s' hq' => ?_))
  cases r with
  | error e => exact hx pins σ _ _ e s' I2 hq'
  | ok fl =>
    cases fl with
    | ret u =>
      obtain ⟨v, H', I3, rv, ev, q3⟩ := I2.after hq'
      subst ev
      exact ⟨rv, ⟨V.ref (s.heap.objs.size + 1), H', I3, rfl, q3⟩⟩
    | next => exact False.elim hq'
    | brk => exact False.elim hq'
    | cont => exact False.elim hq'
theorem pe_make (M : Mk X.K C f) (F : FnOk X.prog X.w X.K X.mg X.base CX k f fd ps sp) (hr : Room (k + 1) X.A) (hg : Gl X x) (hm : X.mg x = some (.ref C)) (hb : Binds X.K fd ps ds) (hd : Vals dvs ds) (hx : Passes CX X E)
    (ha : PA X (e :: es) t) (hdb : (x == ("__debug__" : Str)) = false := by decide) (he : starEach (e :: es) X.env = (false, eval e X.env) :: starEach es X.env := by rfl) (hpl : (backTo pos (starEach es X.env)).any (·.1) = false := by rfl) :
    PE X (.Call (.Name x p) (e :: es) [] pos) (tMake C sp dvs E t) := by
  intro pins s σ H Q I h
  refine wpAny_Call_Name_kw (ld_glob I hg hm ?_ hdb)
  refine PySem.W.callWith_K (h₀ := X.base) I.ok.mod.kin M.kp (thn (ha pos pins s σ H _ I h) fun us s1 ⟨vs, H1, I1, r, q⟩ => ⟨I1.kIn, ?_⟩) he hpl
  exact run_make M F hr hb hd hx I1 r q
theorem pe_make0 (M : Mk X.K C f) (F : FnOk X.prog X.w X.K X.mg X.base CX k f fd ps sp) (hr : Room (k + 1) X.A) (hg : Gl X x) (hm : X.mg x = some (.ref C)) (hb : Binds X.K fd ps ds) (hd : Vals dvs ds) (hx : Passes CX X E)
    (hdb : (x == ("__debug__" : Str)) = false := by decide) : PE X (.Call (.Name x p) [] [] pos) (tMake C sp dvs E tNil) := by
  intro pins s σ H Q I h
  refine wpAny_Call_Name_kw (ld_glob I hg hm ?_ hdb)
  exact PySem.W.callWith_K0 I.kIn M.kp (run_make (us := []) M F hr hb hd hx I .nil h)
end
structure FnScope (N P : List Str) (sc : Scope) : Prop where
  kind : sc.kind = .function
  co : sc.isCoroutine = false
  gen : sc.isGenerator = false
  nd : N.Nodup
  pre : N.take P.length = P
  par : ∀ x ∈ P, sc.names.lookup x = some .local ∨ sc.names.lookup x = some .cell
  nofree : ∀ y ∈ sc.names, y.2 ≠ .free
theorem bindL_out {kindOf : Str → Option NameKind} {x : Str} : ∀ {binds : List (Str × Value)} {m : Str → Option Value}, (∀ v, (x, v) ∉ binds) → bindL kindOf binds m x = m x
  | [], _, _ => rfl
  | (n, v) :: r, m, h => by
    unfold bindL
    rw [bindL_out fun w hw => h w (List.mem_cons_of_mem _ hw)]
    split
    · have : x ≠ n := by rintro rfl; exact h v List.mem_cons_self
      simp [this]
    · rfl
theorem bindC_out {kindOf : Str → Option NameKind} {x : Str} : ∀ {binds : List (Str × Value)} {m : Str → Option Value}, (∀ v, (x, v) ∉ binds) → bindC kindOf binds m x = m x
  | [], _, _ => rfl
  | (n, v) :: r, m, h => by
    unfold bindC
    rw [bindC_out fun w hw => h w (List.mem_cons_of_mem _ hw)]
    split
    · rfl
    · have : x ≠ n := by rintro rfl; exact h v List.mem_cons_self
      simp [this]
theorem bindL_get {kindOf : Str → Option NameKind} {x : Str} {v : Value} : ∀ {P : List Str} {vs : List Value} {i : Nat} {m : Str → Option Value}, P.Nodup → P[i]? = some x → vs[i]? = some v → kindOf x = some .local →
    bindL kindOf (P.zip vs) m x = some v
  | [], _, _, _, _, h, _, _ => by simp at h
  | _ :: _, [], _, _, _, _, h, _ => by simp at h
  | p :: P, w :: vs, 0, m, nd, h1, h2, hk => by
    simp at h1 h2; subst h1; subst h2
    show bindL kindOf ((p, w) :: P.zip vs) m p = _
    unfold bindL
    rw [bindL_out fun v hv => (List.nodup_cons.mp nd).1 (List.of_mem_zip hv).1, if_pos hk]
    simp
  | p :: P, w :: vs, i + 1, m, nd, h1, h2, hk => by
    show bindL kindOf ((p, w) :: P.zip vs) m x = _
    unfold bindL
    exact bindL_get (i := i) (List.nodup_cons.mp nd).2 (by simpa using h1) (by simpa using h2) hk
theorem bindC_get {kindOf : Str → Option NameKind} {x : Str} {v : Value} : ∀ {P : List Str} {vs : List Value} {i : Nat} {m : Str → Option Value}, P.Nodup → P[i]? = some x → vs[i]? = some v → kindOf x ≠ some .local →
    bindC kindOf (P.zip vs) m x = some v
  | [], _, _, _, _, h, _, _ => by simp at h
  | _ :: _, [], _, _, _, _, h, _ => by simp at h
  | p :: P, w :: vs, 0, m, nd, h1, h2, hk => by
    simp at h1 h2; subst h1; subst h2
    show bindC kindOf ((p, w) :: P.zip vs) m p = _
    unfold bindC
    rw [bindC_out fun v hv => (List.nodup_cons.mp nd).1 (List.of_mem_zip hv).1, if_neg hk]
    simp
  | p :: P, w :: vs, i + 1, m, nd, h1, h2, hk => by
    show bindC kindOf ((p, w) :: P.zip vs) m x = _
    unfold bindC
    exact bindC_get (i := i) (List.nodup_cons.mp nd).2 (by simpa using h1) (by simpa using h2) hk
def start (N : List Str) (vs : List V) : St := vs.map some ++ List.replicate (N.length - vs.length) none
def cxOf (CX : CXT) (P : Program) (w : World) (K : PySem.W.Frag) (mg : Str → Option Value) (base : Heap) (N : List Str) (qual : Str) (scope : Scope) (f : Addr) (cd : Value) (A : Around) (outer : List Env) (s : Shared) (H : Hp) (E : XK) : Cx where
  prog := P
  w := w
  K := K
  mg := mg
  base := base
  A := A.deeper (envOfC qual scope s.heap.objs.size f cd)
  N := N
  s₀ := s
  H₀ := H
  env := envOfC qual scope s.heap.objs.size f cd
  outer := outer
  stack := envOfC qual scope s.heap.objs.size f cd :: outer
  ex := []
  calm := true
  fn := fun _ => true
  pn := []
  xe := fun e s' => wpAny (model P w) (A.deeper (envOfC qual scope s.heap.objs.size f cd)) (leaving (envOfC qual scope s.heap.objs.size f cd) e) (fun _ s'' => CX outer H s E e s'') (fun e' s'' => CX outer H s E e' s'') s'
theorem cell_has {sc : Scope} {n : Nat} {x : Str} (h : sc.names.lookup x = some .cell) : ∃ c, (cellsFrom n sc.names []).lookup x = some c := by
  have q := PySem.W.cellsFrom_some sc.names n [] (.inl h)
  exact Option.isSome_iff_exists.mp q
theorem inv_start {CX : CXT} {P : Program} {w : World} {K : PySem.W.Frag} {mg : Str → Option Value} {base : Heap} {N ps : List Str} {qual : Str} {scope : Scope} {f : Addr} {cd : Value} {A : Around} {outer : List Env} {s s1 : Shared} {H : Hp} {E : XK} {us : List Value} {vs : List V}
    (S : FnScope N ps scope) (hd : A.handled = none) (e0 : Env0 P w K mg base A outer s H) (hl : vs.length = ps.length) (r : Vals vs us)
    (x : InCallC s s.heap.objs.size (bindL (envOfC qual scope s.heap.objs.size f cd).kindOf (ps.zip us) fun _ => none) (cellsFrom (s.heap.objs.size + 1) scope.names []) (bindC (envOfC qual scope s.heap.objs.size f cd).kindOf (ps.zip us) fun _ => none) s1) :
    Inv (cxOf CX P w K mg base N qual scope f cd A outer s H E) [] (start N vs) H s1 := by
  have hpl : ps.length ≤ N.length := by have := congrArg List.length S.pre; rw [List.length_take] at this; omega
  obtain ⟨h1, tk, rfl, hk⟩ := x.done
  have noA : ∀ b : Addr, b ∉ (cxOf CX P w K mg base N qual scope f cd A outer s H E).ex := fun b z => absurd (show b ∈ ([] : List Addr) from z) (by simp)
  refine ⟨⟨e0.mod, S.kind, rfl, rfl, Nat.le_refl _, fun y z c h1 h2 => ?_, fun y hy => ?_, fun y c _ h => ?_, fun _ => hd, Around.frames_deeper e0.frames, .inr ⟨rfl, rfl⟩, fun b z => absurd z (noA b), e0.bs, e0.bsz, fun b _ _ => noA b, fun b z => absurd z (noA b), e0.funs, e0.frf⟩,
    rfl, e0.bare, Un.kept hk, ⟨_, x.toInCall.ns, fun i y v h1 h2 h3 => ?_⟩, fun y c h => ⟨_, x.cell y c h⟩, e0.hok.fresh (Nat.le_refl _), fun y c h => ?_, fun p hp => absurd (show p ∈ ([] : List (Addr × Obj)) from hp) (by simp), e0.hok.kept hk, ?_⟩
  · exact name_of_addr x.apart (PySem.mem_of_lookup h1) (PySem.mem_of_lookup h2)
  · have hy : scope.names.lookup y = some .cell ∨ scope.names.lookup y = some .free := hy
    rcases hy with hy | hy
    · exact cell_has hy
    · exact absurd rfl (S.nofree _ (PySem.mem_of_lookup hy))
  · exact Nat.le_of_lt (x.above y c (PySem.mem_of_lookup h))
  · have hi : i < vs.length := by
      unfold start at h2
      by_cases hi : i < vs.length
      · exact hi
      · rw [List.getElem?_append_right (by simpa using hi)] at h2
        rw [List.getElem?_replicate] at h2
        split at h2 <;> cases h2
    have ha : vs[i]? = some v := by
      unfold start at h2
      rw [List.getElem?_append_left (by simpa using hi), List.getElem?_map] at h2
      cases e : vs[i]? with
      | none => rw [e] at h2; cases h2
      | some a => rw [e] at h2; cases h2; rfl
    obtain ⟨u, hu, rv⟩ := r.get ha
    have hp : ps[i]? = some y := by
      rw [← S.pre, List.getElem?_take_of_lt (by omega)]; exact h1
    have ndP : ps.Nodup := by rw [← S.pre]; exact S.nd.sublist (List.take_sublist _ _)
    refine ⟨u, rv, ?_⟩
    rcases S.par y (List.mem_of_getElem? hp) with k | k
    · exact .inl ⟨k, bindL_get ndP hp hu k⟩
    · obtain ⟨c, e⟩ := cell_has (n := s.heap.objs.size + 1) k
      refine .inr ⟨.inl k, c, e, ?_⟩
      have q := x.cell y c e
      rw [bindC_get ndP hp hu (by show scope.names.lookup y ≠ _; rw [k]; decide)] at q
      exact q
  · exact e0.hok.fresh (Nat.le_of_lt (x.above y c (PySem.mem_of_lookup h)))
  · unfold start
    show _ = N.length
    rw [List.length_append, List.length_map, List.length_replicate]
    omega
theorem fn_of {CX : CXT} {P : Program} {w : World} {K : PySem.W.Frag} {mg : Str → Option Value} {base : Heap} {k : Nat} {f : Addr} {name qual : Str} {params : Arguments} {body : List Stmt} {scope : Scope} {dV kV doc pm cdv ct oc : Value} {an od : Option Addr}
    {osl : Array (Option Value)} {N ps : List Str} {sp : Sp} (lk : K.lookup f = some ⟨oc, od, .func (PySem.W.fnOf name qual params body scope dV kV doc pm an cdv ct), osl⟩) (hcd : PySem.W.codeIn K cdv qual = true) (S : FnScope N ps scope)
    (len : ∀ vs H Q E, sp vs H Q E → vs.length = ps.length)
    (hbody : ∀ (A : Around) (outer : List Env) (s : Shared) (H : Hp) (vs : List V) (Q : VK) (E : XK), Room k (A.deeper (envOfC qual scope s.heap.objs.size f cdv)) → sp vs H Q E →
      ∃ t, PSs (cxOf CX P w K mg base N qual scope f cdv A outer s H E) body t ∧ t { nx := fun _ H' => Q .non H', rt := Q } (start N vs) H) :
    FnOk P w K mg base CX (k + 1) f (PySem.W.fnOf name qual params body scope dV kV doc pm an cdv ct) ps sp := by
  refine ⟨len, fun A outer s H args us vs Q E hr e0 hb r hsp => ?_⟩
  have hl := len _ _ _ _ hsp
  have KX : K.In s.heap := e0.mod.kin.keeps fun b o e => (e0.bs b o e).1
  have lim : s.heap.NoLimit := e0.mod.nolimit.keeps fun b o e => (e0.bs b o e).1
  have hkind : ∀ y ∈ ps.zip us, scope.names.lookup y.1 = some .local ∨ (scope.names.lookup y.1 = some .cell ∧ ((cellsFrom (s.heap.objs.size + 1) scope.names []).lookup y.1).isSome = true) := fun ⟨n, v⟩ hy => by
    rcases S.par n (List.of_mem_zip hy).1 with q | q
    · exact .inl q
    · exact .inr ⟨q, PySem.W.cellsFrom_some _ _ _ (.inl q)⟩
  refine codeAny_call_function hr.depth (KX _ _ lk) rfl S.co S.gen rfl (PySem.W.codeRec_of KX hcd) (hb _ _ _ _ ?_)
  refine wpAny_newFunctionEnv_cells S.kind hkind fun env he s1 x => ?_
  subst he
  refine ⟨lim.keeps x.toInCall.keep, codeAny_func ?_⟩
  obtain ⟨t, ht, hq⟩ := hbody A outer s H vs Q E (hr.deeper _) hsp
  have I : Inv (cxOf CX P w K mg base N qual scope f cdv A outer s H E) [] (start N vs) H s1 := inv_start S hr.hd e0 hl r x
  refine wpAny_mono (ht [] s1 (start N vs) H _ I hq) (fun fl s' hs => ?_) fun e s' hs => hs
  have fin : ∀ {σ' : St} {H' : Hp} {v : V} {u : Value}, Inv (cxOf CX P w K mg base N qual scope f cdv A outer s H E) [] σ' H' s' → RelV v u → Q v H' → CE outer P w H s Q u s' :=
    fun {σ' H' v u} J rv q => ⟨v, H', J.os, J.bare, J.base, J.hok, rv, q⟩
  cases fl with
  | ret u =>
    obtain ⟨v, σ', H', J, rv, q⟩ := hs
    exact fin J rv q
  | next =>
    obtain ⟨σ', H', J, q⟩ := hs
    exact fin (v := V.non) (u := Value.none) J rfl q
  | brk =>
    obtain ⟨_, _, _, q⟩ := hs
    exact False.elim q
  | cont =>
    obtain ⟨_, _, _, q⟩ := hs
    exact False.elim q
end L2
namespace L2
open PySem PySem.Spec PyProof.Rows
section
variable {X : Cx} {x : Str} {p pos : Pos} {e : Expr} {es : List Expr} {t : TA} {id T : String} {r : List V → Hp → VK → Prop}
def tCB (r : List V → Hp → VK → Prop) (t : TA) : TE := fun σ H Q => t σ H fun vs H1 => r vs H1 Q
theorem pe_callB (hc : CallR X (.builtin id) r) (hg : Gl X x) (hm : X.mg x = none) (hv : bootBuiltins x = some (.builtin id)) (ha : PA X (e :: es) t) (hn : x ≠ "__name__" := by decide) (hdb : (x == ("__debug__" : Str)) = false := by decide)
    (he : starEach (e :: es) X.env = (false, eval e X.env) :: starEach es X.env := by rfl) (hpl : (backTo pos (starEach es X.env)).any (·.1) = false := by rfl) : PE X (.Call (.Name x p) (e :: es) [] pos) (tCB r t) := by
  intro pins s σ H Q I h
  refine wpAny_Call_Name_kw (ld_blt I hg hm hv ?_ hn hdb)
  exact PyProof.Rows.callWith_builtin1 (thn (ha pos pins s σ H _ I h) fun us s1 ⟨vs, H1, I1, r1, q1⟩ => hc pins s1 σ H1 vs us Q I1 r1 q1) he hpl
theorem pe_callTy (hc : CallR X (.type T) r) (hg : Gl X x) (hm : X.mg x = none) (hv : bootBuiltins x = some (.type T)) (ha : PA X (e :: es) t) (hn : x ≠ "__name__" := by decide) (hdb : (x == ("__debug__" : Str)) = false := by decide)
    (he : starEach (e :: es) X.env = (false, eval e X.env) :: starEach es X.env := by rfl) (hpl : (backTo pos (starEach es X.env)).any (·.1) = false := by rfl) : PE X (.Call (.Name x p) (e :: es) [] pos) (tCB r t) := by
  intro pins s σ H Q I h
  refine wpAny_Call_Name_kw (ld_blt I hg hm hv ?_ hn hdb)
  exact PyProof.Rows.callWith_type1 (thn (ha pos pins s σ H _ I h) fun us s1 ⟨vs, H1, I1, r1, q1⟩ => hc pins s1 σ H1 vs us Q I1 r1 q1) he hpl
end
end L2
namespace HT
open PySem PyProof.Rows
section
open PySem.SeqAt
open PySem.AutoSeq1 (wpAny_loadPart')
open PySem.MeetsSeq PySem.MeetsSeq2 PySem.MeetsSeq3
end
section
variable {prog : Program} {w : World} {A : Around} {E : Value → Shared → Prop} {s : Shared}
def sIx (n d : Nat) : Option Int → Nat
  | none => d
  | some v => if v < 0 then (v + (n : Int)).toNat else min v.toNat n
theorem sIx_none (n d : Nat) : sIx n d none = d := rfl
theorem sIx_nat (n d k : Nat) : sIx n d (some (k : Int)) = min k n := by
  show (if (k : Int) < 0 then ((k : Int) + (n : Int)).toNat else min (k : Int).toNat n) = min k n
  rw [if_neg (by omega), Int.toNat_natCast]
end
end HT
namespace L2
open PySem PySem.Spec PyProof.Rows
abbrev TO := St → Hp → (Option Int → Hp → Prop) → Prop
def PO (X : Cx) (e : Option Expr) (t : TO) : Prop :=
  ∀ (pins : List (Addr × Obj)) (s : Shared) (σ : St) (H : Hp) (Q : Option Int → Hp → Prop), Inv X pins σ H s → t σ H Q →
    wpAny (model X.prog X.w) X.A (evalPart e X.env) (fun u s' => ∃ o H', Inv X pins σ H' s' ∧ IsPart u o ∧ Q o H') X.xe s
def tNoPart : TO := fun _ H Q => Q none H
def tPart (t : TE) : TO := fun σ H Q => t σ H fun x H1 => ∃ i, x = .int i ∧ Q (some i) H1
theorem intsAre_of {ns : List Int} : ∀ {us : List Value}, Vals (ns.map V.int) us → IntsAre us ns := by
  induction ns with
  | nil => intro us r; rw [List.map_nil] at r; cases r; exact .nil
  | cons n ns ih =>
    intro us r
    rw [List.map_cons] at r
    cases r with
    | cons r1 r2 =>
      obtain ⟨t, e⟩ := r1
      subst e
      exact .cons n t (ih r2)
section
variable {X : Cx} {e : Expr} {te : TE} {lo hi : Option Expr} {tl th : TO} {pos p2 : Pos}
theorem po_none : PO X none tNoPart := by
  intro pins s σ H Q I h
  rw [evalPart_none]
  exact wpAny_pure ⟨none, H, I, .none, h⟩
theorem po_some (h : PE X e te) : PO X (some e) (tPart te) := by
  intro pins s σ H Q I hw
  rw [evalPart_some]
  refine thn (h pins s σ H _ I hw) fun u s1 ⟨x, H1, I1, r1, q1⟩ => ?_
  obtain ⟨i, rfl, q⟩ := q1
  obtain ⟨t, rfl⟩ := r1
  exact ⟨some i, H1, I1, .int i t, q⟩
def SlR (X : Cx) (r : V → Option Int → Option Int → Hp → VK → Prop) : Prop :=
  ∀ (pins : List (Addr × Obj)) (s : Shared) (σ : St) (H : Hp) (x : V) (v vl vu : Value) (lo hi : Option Int) (sl : Addr) (Q : VK), Inv X pins σ H s → RelV x v → s.heap.IsSliceOf sl vl vu .none → IsPart vl lo → IsPart vu hi → r x lo hi H Q →
    ∃ T id, typeLookup (.type T) "__getitem__" = pure (some (.builtin id)) ∧ s.TypeIs v T ∧ wpAny (model X.prog X.w) X.A (getItem v (.ref sl)) (EP X pins σ Q) X.xe s
def tSl (r : V → Option Int → Option Int → Hp → VK → Prop) (te : TE) (tl th : TO) : TE := fun σ H Q => te σ H fun x H1 => tl σ H1 fun l H2 => th σ H2 fun u H3 => r x l u H3 Q
theorem pe_slice {r : V → Option Int → Option Int → Hp → VK → Prop} (hr : SlR X r) (he : PE X e te) (hl : PO X lo tl) (hu : PO X hi th) : PE X (.Subscript e (.Slice lo hi none p2) pos) (tSl r te tl th) := by
  intro pins s σ H Q I h
  refine Subscript_ (thn (he pins s σ H _ I h) fun v s1 ⟨x, H1, I1, r1, q1⟩ => ?_)
  refine wpAny_Slice (thn (hl pins s1 σ H1 _ I1 q1) fun vl s2 ⟨l, H2, I2, pl, q2⟩ => thn (hu pins s2 σ H2 _ I2 q2) fun vu s3 ⟨u, H3, I3, pu, q3⟩ => ?_)
  rw [evalPart_none]
  refine wpAny_pure ?_
  have I4 : Inv X pins σ H3 { s3 with heap := s3.heap.push { cls := .type "slice", data := .fields #[vl, vu, .none] } } := I3.kept (t' := s3.toks) fun b ob q => Heap.get?_push_of_some _ q
  obtain ⟨T, id, hT, ht, hg⟩ := hr pins { s3 with heap := s3.heap.push { cls := .type "slice", data := .fields #[vl, vu, .none] } } σ H3 x v vl vu l u s3.heap.objs.size Q I4 r1 (Heap.IsSliceOf.new ..) pl pu q3
  show wpAny (model X.prog X.w) X.A (subscriptTail e (.Slice lo hi none p2) v (.ref s3.heap.objs.size)) (EP X pins σ Q) X.xe { s3 with heap := s3.heap.push { cls := .type "slice", data := .fields #[vl, vu, .none] } }
  exact tail_any (ops := [.ref s3.heap.objs.size, v]) ht hT hg (by with_unfolding_all rfl)
def cutV (xs : List V) (lo hi : Option Int) : List V := (xs.drop (HT.sIx xs.length 0 lo)).take (HT.sIx xs.length xs.length hi - HT.sIx xs.length 0 lo)
theorem cutV_length (xs : List V) (lo hi : Option Int) : (cutV xs lo hi).length ≤ xs.length := by
  unfold cutV
  rw [List.length_take, List.length_drop]
  omega
end
end L2
namespace L2
open PySem PySem.Spec PyProof.Rows
def ixN (n : Nat) (i : Int) : Option Nat := if 0 ≤ i then (if i < n then some i.toNat else none) else if -(n : Int) ≤ i then some (i + n).toNat else none
def atI {α : Type} (xs : List α) (i : Int) : Option α := (ixN xs.length i).bind fun j => xs[j]?
theorem ixN_seq {n : Nat} {i : Int} {j : Nat} (h : ixN n i = some j) : seqIndex? i n = some j ∧ j < n ∧ -(n : Int) ≤ i ∧ i < n := by
  unfold ixN at h
  by_cases h0 : 0 ≤ i
  · rw [if_pos h0] at h
    by_cases h1 : i < n
    · rw [if_pos h1] at h
      have e : i.toNat = j := Option.some.inj h
      exact ⟨by rw [seqIndex_of h0 h1, e], by omega, by omega, h1⟩
    · rw [if_neg h1] at h; cases h
  · rw [if_neg h0] at h
    by_cases h1 : -(n : Int) ≤ i
    · rw [if_pos h1] at h
      have e : (i + n).toNat = j := Option.some.inj h
      exact ⟨by rw [seqIndex_neg (by omega) h1, e], by omega, h1, by omega⟩
    · rw [if_neg h1] at h; cases h
theorem atI_get {α : Type} {xs : List α} {i : Int} {v : α} (h : atI xs i = some v) : ∃ j, seqIndex? i xs.length = some j ∧ xs[j]? = some v ∧ j < xs.length ∧ -(xs.length : Int) ≤ i ∧ i < xs.length := by
  unfold atI at h
  cases e : ixN xs.length i with
  | none => rw [e] at h; cases h
  | some j =>
    rw [e] at h
    obtain ⟨h1, h2, h3, h4⟩ := ixN_seq e
    exact ⟨j, h1, h, h2, h3, h4⟩
theorem atI_nat {α : Type} {xs : List α} {j : Nat} {v : α} (h : xs[j]? = some v) : atI xs (j : Int) = some v := by
  have hj : j < xs.length := (List.getElem?_eq_some_iff.mp h).1
  have e : ixN xs.length (j : Int) = some j := by
    unfold ixN
    rw [if_pos (by omega), if_pos (by omega)]; simp
  unfold atI; rw [e]; exact h
theorem atI_last {α : Type} (xs : List α) (v : α) : atI (xs ++ [v]) (-1) = some v := by
  have hl : (xs ++ [v]).length = xs.length + 1 := by simp
  have e : ixN (xs ++ [v]).length (-1) = some xs.length := by
    unfold ixN
    rw [hl, if_neg (by decide), if_pos (by omega)]
    congr 1
    omega
  unfold atI
  rw [e]
  show (xs ++ [v])[xs.length]? = some v
  simp
def PlainIx (b : Expr) : Prop := ∀ o i, subscripted b false o i = operate [o, i] (getItem o i)
def IxR (X : Cx) (r : R2) : Prop :=
  ∀ (value slice : Expr) (pins : List (Addr × Obj)) (s : Shared) (σ : St) (H : Hp) (x y : V) (v u : Value) (Q : VK), Inv X pins σ H s → RelV x v → RelV y u → r x y H Q →
    subscripted slice false v u = operate [v, u] (getItem v u) → wpAny (model X.prog X.w) X.A (subscriptTail value slice v u) (EP X pins σ Q) X.xe s
def MtR (X : Cx) (id : String) (r : V → List V → Hp → VK → Prop) : Prop :=
  ∀ (pins : List (Addr × Obj)) (s : Shared) (σ : St) (H : Hp) (x : V) (xs : List V) (v : Value) (us : List Value) (Q : VK), Inv X pins σ H s → RelV x v → Vals xs us → r x xs H Q →
    wpAny (model X.prog X.w) X.A (call (.builtin id) (v :: us)) (EP X pins σ Q) X.xe s
section
variable {X : Cx} {a b : Expr} {ta tb : TE} {pos : Pos}
theorem pe_ix {r : R2} (hr : IxR X r) (ha : PE X a ta) (hb : PE X b tb) (hs : PlainIx b) : PE X (.Subscript a b pos) (tOp r ta tb) := by
  intro pins s σ H Q I h
  exact Subscript_ (binT ha hb I h fun v u s2 x y H2 I2 rx ry q => hr a b pins s2 σ H2 x y v u Q I2 rx ry q (hs _ _))
def rIxL (K : PySem.W.Frag) : R2 := fun x y H Q => ∃ p xs i v, x = .ref p ∧ y = .int i ∧ SqL K H p xs ∧ atI xs i = some v ∧ Q v H
theorem ix_list : IxR X (rIxL X.K) := by
  intro value slice pins s σ H x y v u Q I rx ry h hs
  obtain ⟨p, xs, i, z, rfl, rfl, hq, he, q⟩ := h
  cases rx
  obtain ⟨t, rfl⟩ := ry
  obtain ⟨its, r, pl, hz⟩ := I.list hq
  obtain ⟨j, h1, h2, h3, h4, h5⟩ := atI_get he
  obtain ⟨w, ew, rw'⟩ := r.get h2
  have hl := r.length
  have hn := line63
  have fin : EP X pins σ Q w s := ⟨z, H, I, rw', q⟩
  by_cases h0 : 0 ≤ i
  · have hj : i.toNat = j := by
      rw [seqIndex_of h0 h5] at h1
      exact Option.some.inj h1
    exact item_listR pl.isList h0 (by omega) (by rw [hj]; simpa using ew) fin hs
  · have hj : (i + (its.toArray.size : Int)).toNat = j := by
      rw [seqIndex_neg (by omega) h4] at h1
      rw [List.size_toArray, ← hl]
      exact Option.some.inj h1
    exact subscriptTail_builtinR (x := w) pl.isList.typeIs slot_list_getitem.lookup
      (wpAny_getItem_list_neg (Q := fun r s' => r = w ∧ EP X pins σ Q r s') pl.isList (by omega) (by rw [List.size_toArray] <;> omega) (by omega) (by rw [hj]; simpa using ew) ⟨rfl, fin⟩) hs
theorem mapSeq_set (its : List Value) (n j : Nat) (u : Value) : Obj.mapSeq (·.setIfInBounds j u) { cls := .type "list", data := .seq its.toArray n } = { cls := .type "list", data := .seq (its.set j u).toArray n } := by
  simp [Obj.mapSeq]
theorem Inv.lst {pins : List (Addr × Obj)} {σ : St} {H : Hp} {s : Shared} {p : Addr} {xs : List V} (I : Inv X pins σ H s) (h : H p = some (.lst xs)) :
    ∃ (its : List Value) (n : Nat), Vals xs its ∧ s.heap.get? p = some { cls := .type "list", data := .seq its.toArray n } ∧ xs.length ≤ sizeLine := by
  obtain ⟨z, its, n, r, e⟩ := I.hok p _ h
  exact ⟨its, n, r, e, z⟩
theorem Inv.lstUpd {pins : List (Addr × Obj)} {σ : St} {H : Hp} {s : Shared} {p : Addr} {xs ys : List V} {its its' : List Value} {n n' : Nat} {f : Obj → Obj} (I : Inv X pins σ H s) (h : H p = some (.lst xs))
    (ho : s.heap.get? p = some { cls := .type "list", data := .seq its.toArray n }) (hf : f { cls := .type "list", data := .seq its.toArray n } = { cls := .type "list", data := .seq its'.toArray n' }) (r : Vals ys its') (hz : ys.length ≤ sizeLine) (t : Nat) :
    Inv X pins σ (upd H p (.lst ys)) { s with heap := s.heap.update p f, toks := t } := by
  have e : (s.heap.update p f).get? p = some { cls := .type "list", data := .seq its'.toArray n' } := by
    rw [Heap.get?_update_self f ho (by rw [hf] <;> rfl), hf]
  refine I.write (x := p) (e := p) (by rw [h]; trivial) (.inl rfl) (fun b u hb q => (Heap.get?_update_other _ _ (Ne.symm hb)).trans q) ⟨_, e⟩ ?_
  exact ⟨hz, its', n', r, e⟩
def rSetL : V → V → V → Hp → (Hp → Prop) → Prop := fun o i v H Q => ∃ p xs k j, o = .ref p ∧ i = .int k ∧ H p = some (.lst xs) ∧ ixN xs.length k = some j ∧ Q (upd H p (.lst (xs.set j v)))
theorem set_list : PSet X rSetL := by
  intro pins s σ H o i v ov iv u Q I ro ri rv h
  obtain ⟨p, xs, k, j, rfl, rfl, hp, hj, q⟩ := h
  cases ro
  obtain ⟨t, rfl⟩ := ri
  obtain ⟨its, n, r, ho, hz⟩ := I.lst hp
  obtain ⟨h1, h2, h3, h4⟩ := ixN_seq hj
  have hl := r.length
  have hn := line63
  have I' : Inv X pins σ (upd H p (.lst (xs.set j v))) { s with heap := s.heap.update p (Obj.mapSeq (·.setIfInBounds j u)) } :=
    I.lstUpd hp ho (mapSeq_set its n j u) (r.set rv j) (by rw [List.length_set]; exact hz) s.toks
  by_cases h0 : 0 ≤ k
  · have hk : k.toNat = j := by
      rw [seqIndex_of h0 h4] at h1
      exact Option.some.inj h1
    exact PySem.W.ki_setAt ho h0 (by omega) (by rw [List.size_toArray, ← hl]; exact h4) (by rw [hk]; exact ⟨_, I', q⟩)
  · have hk : (k + (its.toArray.size : Int)).toNat = j := by
      rw [seqIndex_neg (by omega) h3] at h1
      rw [List.size_toArray, ← hl]
      exact Option.some.inj h1
    exact PySem.W.ki_setBack ho (by omega) (by rw [List.size_toArray, ← hl]; exact h3) (by omega) (by rw [hk]; exact ⟨_, I', q⟩)
theorem slice_bounds (lo hi : Option Int) (n : Nat) : (sliceBounds lo hi none n).1 = ((HT.sIx n 0 lo : Nat) : Int) ∧ (sliceBounds lo hi none n).2.1 = ((HT.sIx n n hi : Nat) : Int) ∧ (sliceBounds lo hi none n).2.2 = 1 := by
  refine ⟨?_, ?_, rfl⟩
  · cases lo with
    | none => simp [sliceBounds, HT.sIx]
    | some i =>
      simp only [sliceBounds, HT.sIx, Option.getD_none, show (1 : Int) > 0 by decide, if_true]
      by_cases h : i < 0
      · simp only [h, if_true] <;> omega
      · simp only [h, if_false] <;> omega
  · cases hi with
    | none => simp [sliceBounds, HT.sIx]
    | some i =>
      simp only [sliceBounds, HT.sIx, Option.getD_none, show (1 : Int) > 0 by decide, if_true]
      by_cases h : i < 0
      · simp only [h, if_true] <;> omega
      · simp only [h, if_false] <;> omega
theorem slicePick_cut (its : List Value) (lo hi : Option Int) : slicePick its.toArray lo hi none = ((its.drop (HT.sIx its.length 0 lo)).take (HT.sIx its.length its.length hi - HT.sIx its.length 0 lo)).toArray := by
  obtain ⟨h1, h2, h3⟩ := slice_bounds lo hi its.toArray.size
  unfold slicePick
  rw [h1, h2, h3]
  simp only [sliceRange_one, pick_run, List.size_toArray] <;> rfl
def rSlL (K : PySem.W.Frag) : V → Option Int → Option Int → Hp → VK → Prop := fun x lo hi H Q => ∃ a xs, x = .ref a ∧ SqL K H a xs ∧ ∀ p, H p = none → Q (.ref p) (upd H p (.lst (cutV xs lo hi)))
theorem sl_list : SlR X (rSlL X.K) := by
  intro pins s σ H x v vl vu lo hi sl Q I rx hs pl pu h
  obtain ⟨a, xs, rfl, hx, q⟩ := h
  cases rx
  obtain ⟨its, r, ht, hz⟩ := I.list hx
  have hlen := r.length
  refine ⟨"list", _, slot_list_getitem.lookup, ht.isList.typeIs, ?_⟩
  refine wpAny_getItem_list_slice ht.isList hs pl pu .none (by simp) ?_ (by rw [List.size_toArray] <;> omega)
  rw [slicePick_cut, ← hlen]
  refine ⟨.ref s.heap.objs.size, _, I.laid (t' := s.toks) (o := .lst (cutV xs lo hi)) (fun b ob q => Heap.get?_push_of_some _ q) (Nat.le_refl _) ?_, rfl, q _ (I.hok.fresh (Nat.le_refl _))⟩
  exact ⟨Nat.le_trans (cutV_length xs lo hi) hz, _, 0, (r.drop (HT.sIx xs.length 0 lo)).take (HT.sIx xs.length xs.length hi - HT.sIx xs.length 0 lo), Heap.get?_push_size _ rfl⟩
def flatV : V → Bool
  | .non => true
  | .bl _ => true
  | .int _ => true
  | .str _ => true
  | _ => false
def eqV : V → V → Bool
  | .non, .non => true
  | .bl a, .bl b => a == b
  | .bl a, .int b => (if a then 1 else 0) == b
  | .int a, .bl b => a == (if b then 1 else 0)
  | .int a, .int b => a == b
  | .str a, .str b => a == b
  | _, _ => false
theorem eqAt_V {A : Around} {s : Shared} {y x : V} {u v : Value} (ry : RelV y u) (rx : RelV x v) (fy : flatV y = true) (fx : flatV x = true) : SeqAt.EqAt A s u v (eqV y x) := by
  cases y with
  | non =>
    cases ry
    cases x with
    | non => cases rx; exact SeqAt.EqAt.same _
    | bl b => cases rx; exact SeqAt.EqAt.none_bool b
    | int b => obtain ⟨t, rfl⟩ := rx; exact SeqAt.EqAt.none_int b t
    | str b => obtain ⟨t, rfl⟩ := rx; exact SeqAt.EqAt.none_str b t
    | _ => exact absurd (show false = true from fx) Bool.false_ne_true
  | bl a =>
    cases ry
    cases x with
    | non => cases rx; exact SeqAt.EqAt.bool_none a
    | bl b => cases rx; exact SeqAt.EqAt.bool_bool a b
    | int b => obtain ⟨t, rfl⟩ := rx; exact SeqAt.EqAt.bool_int a b t
    | str b => obtain ⟨t, rfl⟩ := rx; exact SeqAt.EqAt.bool_str a b t
    | _ => exact absurd (show false = true from fx) Bool.false_ne_true
  | int a =>
    obtain ⟨t', rfl⟩ := ry
    cases x with
    | non => cases rx; exact SeqAt.EqAt.int_none a t'
    | bl b => cases rx; exact SeqAt.EqAt.int_bool a t' b
    | int b => obtain ⟨t, rfl⟩ := rx; exact SeqAt.EqAt.int_int a t' b t
    | str b => obtain ⟨t, rfl⟩ := rx; exact SeqAt.EqAt.int_str a t' b t
    | _ => exact absurd (show false = true from fx) Bool.false_ne_true
  | str a =>
    obtain ⟨t', rfl⟩ := ry
    cases x with
    | non => cases rx; exact SeqAt.EqAt.str_none a t'
    | bl b => cases rx; exact SeqAt.EqAt.str_bool a t' b
    | int b => obtain ⟨t, rfl⟩ := rx; exact SeqAt.EqAt.str_int a t' b t
    | str b => obtain ⟨t, rfl⟩ := rx; exact SeqAt.EqAt.str_str a t' b t
    | _ => exact absurd (show false = true from fx) Bool.false_ne_true
  | _ => exact absurd (show false = true from fy) Bool.false_ne_true
def eqU (x : V) (u : Value) : Bool := match u with
  | .none => eqV .non x
  | .bool b => eqV (.bl b) x
  | .int i _ => eqV (.int i) x
  | .str z _ => eqV (.str z) x
  | _ => false
theorem eqU_of {x y : V} {u : Value} (r : RelV y u) (f : flatV y = true) : eqU x u = eqV y x := by
  cases y with
  | non => cases r; rfl
  | bl b => cases r; rfl
  | int i => obtain ⟨t, rfl⟩ := r; rfl
  | str z => obtain ⟨t, rfl⟩ := r; rfl
  | _ => exact absurd (show false = true from f) Bool.false_ne_true
theorem any_eqU {x : V} : ∀ {xs : List V} {us : List Value}, Vals xs us → xs.all flatV = true → us.any (eqU x) = xs.any fun y => eqV y x
  | _, _, .nil, _ => rfl
  | y :: xs, u :: us, .cons r t, f => by
    rw [List.all_cons, Bool.and_eq_true] at f
    rw [List.any_cons, List.any_cons, eqU_of r f.1, any_eqU t f.2]
theorem mem_eqAt {A : Around} {s : Shared} {x : V} {v : Value} (rx : RelV x v) (fx : flatV x = true) : ∀ {xs : List V} {us : List Value}, Vals xs us → xs.all flatV = true → ∀ u ∈ us, SeqAt.EqAt A s u v (eqU x u)
  | _, _, .nil, _ => fun u hu => by cases hu
  | y :: xs, u :: us, .cons r t, f => fun u' hu => by
    rw [List.all_cons, Bool.and_eq_true] at f
    rcases List.mem_cons.mp hu with rfl | hu
    · rw [eqU_of r f.1]; exact eqAt_V r rx f.1 fx
    · exact mem_eqAt rx fx t f.2 u' hu
def inV (x : V) (xs : List V) : Bool := xs.any fun y => eqV y x
def rIn (K : PySem.W.Frag) (neg : Bool) : R2 := fun x y H Q => ∃ p xs, y = .ref p ∧ (SqL K H p xs ∨ SqT K H p xs) ∧ flatV x = true ∧ xs.all flatV = true ∧ Q (.bl (if neg then !inV x xs else inV x xs)) H
theorem op_in_seq : OpR X (compareOp .In) (rIn X.K false) := by
  intro pins s σ H x y v u Q I rx ry h
  obtain ⟨p, xs, rfl, hq, fx, fs, q⟩ := h
  cases ry
  rcases hq with hq | hq
  · obtain ⟨its, r, pl, hz⟩ := I.list hq
    refine SeqAt.in_listAt (eqU x) pl.isList (fun w hw => mem_eqAt rx fx r fs w (by simpa using hw)) ⟨.bl _, H, I, rfl, ?_⟩
    rw [show its.toArray.any (eqU x) = its.any (eqU x) by simp, any_eqU r fs]
    exact q
  · obtain ⟨its, r, pl, hz⟩ := I.tuple hq
    refine SeqAt.in_tupleAt (eqU x) pl (fun w hw => mem_eqAt rx fx r fs w (by simpa using hw)) ⟨.bl _, H, I, rfl, ?_⟩
    rw [show its.toArray.any (eqU x) = its.any (eqU x) by simp, any_eqU r fs]
    exact q
theorem op_notIn_seq : OpR X (compareOp .NotIn) (rIn X.K true) := by
  intro pins s σ H x y v u Q I rx ry h
  obtain ⟨p, xs, rfl, hq, fx, fs, q⟩ := h
  cases ry
  rcases hq with hq | hq
  · obtain ⟨its, r, pl, hz⟩ := I.list hq
    refine SeqAt.notIn_listAt (eqU x) pl.isList (fun w hw => mem_eqAt rx fx r fs w (by simpa using hw)) ⟨.bl _, H, I, rfl, ?_⟩
    rw [show its.toArray.any (eqU x) = its.any (eqU x) by simp, any_eqU r fs]
    exact q
  · obtain ⟨its, r, pl, hz⟩ := I.tuple hq
    refine SeqAt.notIn_tupleAt (eqU x) pl (fun w hw => mem_eqAt rx fx r fs w (by simpa using hw)) ⟨.bl _, H, I, rfl, ?_⟩
    rw [show its.toArray.any (eqU x) = its.any (eqU x) by simp, any_eqU r fs]
    exact q
theorem call_len_seq : CallR X (.builtin "len") (fun xs H Q => ∃ p ys, xs = [.ref p] ∧ (SqL X.K H p ys ∨ SqT X.K H p ys) ∧ Q (.int ys.length) H) := by
  intro pins s σ H xs us Q I r h
  obtain ⟨p, ys, rfl, hq, q⟩ := h
  obtain ⟨u, rfl, rx⟩ := vals1 r
  cases rx
  have hn := line63
  rcases hq with hq | hq
  · obtain ⟨its, r', pl, hz⟩ := I.list hq
    have hlen := r'.length
    exact Calls.call_len_list pl.isList (by simp only [List.size_toArray] <;> omega) ⟨.int ys.length, H, I.tok _, ⟨s.toks + 1, by rw [List.size_toArray, hlen]⟩, q⟩
  · obtain ⟨its, r', pl, hz⟩ := I.tuple hq
    have hlen := r'.length
    exact len_tuple pl (by simp only [List.size_toArray] <;> omega) ⟨.int ys.length, H, I.tok _, ⟨s.toks + 1, by rw [List.size_toArray, hlen]⟩, q⟩
theorem call_list_of : CallR X (.type "list") (fun xs H Q => ∃ p ys, xs = [.ref p] ∧ (SqL X.K H p ys ∨ SqT X.K H p ys) ∧ ∀ l, H l = none → Q (.ref l) (upd H l (.lst ys))) := by
  intro pins s σ H xs us Q I r h
  obtain ⟨p, ys, rfl, hq, q⟩ := h
  obtain ⟨u, rfl, rx⟩ := vals1 r
  cases rx
  have fin : ∀ (its : List Value), Vals ys its → ys.length ≤ sizeLine → ∀ (h' : Heap) (c' : Nat), (∀ b o', s.heap.get? b = some o' → h'.get? b = some o') →
      h'.get? s.heap.objs.size = some { cls := .type "list", dict := none, data := .seq its.toArray c', slots := #[] } → EP X pins σ Q (.ref s.heap.objs.size) { s with heap := h' } := fun its r' hz h' c' kp e =>
    ⟨.ref s.heap.objs.size, _, I.laid (t' := s.toks) kp (Nat.le_refl _) (show ObjOk X.prog X.w _ h' _ (.lst ys) from ⟨hz, its, c', r', e⟩), rfl, q _ (I.hok.fresh (Nat.le_refl _))⟩
  rcases hq with hq | hq
  · obtain ⟨its, r', pl, hz⟩ := I.list hq
    have hlen := r'.length
    obtain ⟨o, ho, hc, n, hd⟩ := pl.isList
    exact call_list_seq p (.inl rfl) ho hc hd (fun h' c' kp e => fin its r' hz h' c' kp e) (by simp only [List.size_toArray] <;> omega)
  · obtain ⟨its, r', pl, hz⟩ := I.tuple hq
    have hlen := r'.length
    obtain ⟨o, ho, hc, n, hd⟩ := pl
    exact call_list_seq p (.inr rfl) ho hc hd (fun h' c' kp e => fin its r' hz h' c' kp e) (by simp only [List.size_toArray] <;> omega)
theorem call_tuple_of : CallR X (.type "tuple") (fun xs H Q => ∃ p ys, xs = [.ref p] ∧ ((SqL X.K H p ys ∧ ∀ l, H l = none → Q (.ref l) (upd H l (.tup ys))) ∨ (SqT X.K H p ys ∧ Q (.ref p) H))) := by
  intro pins s σ H xs us Q I r h
  obtain ⟨p, ys, rfl, h⟩ := h
  obtain ⟨u, rfl, rx⟩ := vals1 r
  cases rx
  rcases h with ⟨hq, q⟩ | ⟨hq, q⟩
  · obtain ⟨its, r', pl, hz⟩ := I.list hq
    have hlen := r'.length
    refine call_tuple_list pl.isList (fun h' kp => ?_) (by simp only [List.size_toArray] <;> omega)
    have I1 : Inv X pins σ H { s with heap := h' } := I.kept (t' := s.toks) kp
    have I2 : Inv X pins σ (upd H h'.objs.size (.tup ys)) { s with heap := h'.push { cls := .type "tuple", data := .seq its.toArray } } :=
      I1.laid (t' := s.toks) (fun b o e => Heap.get?_push_of_some _ e) (Nat.le_refl _) (show ObjOk X.prog X.w _ _ _ (.tup ys) from ⟨hz, its, r', IsTup.new _ _⟩)
    exact ⟨.ref h'.objs.size, _, I2, rfl, q _ (I1.hok.fresh (Nat.le_refl _))⟩
  · obtain ⟨its, r', pl, hz⟩ := I.tuple hq
    exact call_tuple_same pl ⟨.ref p, H, I, rfl, q⟩
def tyV (K : PySem.W.Frag) (T : String) (x : V) (H : Hp) : Prop := match x with
  | .str _ => T = "str"
  | .int _ => T = "int"
  | .ref p => (T = "list" ∧ ∃ xs, SqL K H p xs) ∨ (T = "tuple" ∧ ∃ o, K.lookup p = some o ∧ o.cls = .type "tuple" ∧ o.dict = none) ∨
      (T = "dict" ∧ ((∃ kvs, H p = some (.dK kvs)) ∨ ∃ kvs, H p = some (.dT kvs))) ∨ (T = "set" ∧ ∃ S n, H p = some (.set S n))
  | _ => False
theorem tyV_is {pins : List (Addr × Obj)} {σ : St} {H : Hp} {s : Shared} {T : String} {x : V} {v : Value} (I : Inv X pins σ H s) (r : RelV x v) (ty : tyV X.K T x H) :
    s.TypeIs v T ∧ ∀ a, v = .ref a → ∃ ob, s.heap.get? a = some ob ∧ ob.dict = none := by
  cases x with
  | str z =>
    obtain ⟨t, rfl⟩ := r
    cases (show T = "str" from ty)
    exact ⟨typeIs_str s z t, fun _ e => nomatch e⟩
  | int i =>
    obtain ⟨t, rfl⟩ := r
    cases (show T = "int" from ty)
    exact ⟨typeIs_int s i t, fun _ e => nomatch e⟩
  | ref p =>
    cases r
    rcases ty with ⟨rfl, xs, hq⟩ | ⟨rfl, o, hk, hc, hd⟩ | ⟨rfl, hk⟩ | ⟨rfl, S, n, hk⟩
    · obtain ⟨its, _, pl, _⟩ := I.list hq
      refine ⟨pl.isList.typeIs, fun a e => ?_⟩
      cases e
      obtain ⟨o, n, e, c, hd, _⟩ := pl
      exact ⟨o, e, hd⟩
    · refine ⟨⟨o, I.kIn p o hk, hc⟩, fun a e => ?_⟩
      cases e
      exact ⟨o, I.kIn _ o hk, hd⟩
    · have z : ∃ o, s.heap.get? p = some o ∧ o.ExactDict := by
        rcases hk with ⟨kvs, hk⟩ | ⟨kvs, hk⟩
        · obtain ⟨_, _, _, _, o, _, _, e, ex, _⟩ := I.hok p _ hk
          exact ⟨o, e, ex⟩
        · obtain ⟨_, _, _, _, o, _, _, e, ex, _⟩ := I.hok p _ hk
          exact ⟨o, e, ex⟩
      obtain ⟨o, e, ex⟩ := z
      refine ⟨⟨o, e, ex.1⟩, fun a e2 => ?_⟩
      cases e2
      exact ⟨o, e, ex.2.1⟩
    · obtain ⟨o, _, _, _, e, ex, _⟩ := I.hok p _ hk
      refine ⟨⟨o, e, ex.1⟩, fun a e2 => ?_⟩
      cases e2
      exact ⟨o, e, ex.2.1⟩
  | _ => exact False.elim ty
def tBM (K : PySem.W.Frag) (T : String) (r : V → List V → Hp → VK → Prop) (to : TE) (t : TA) : TE := fun σ H Q => to σ H fun x H1 => tyV K T x H1 ∧ t σ H1 fun xs H2 => r x xs H2 Q
variable {o e : Expr} {es : List Expr} {to : TE} {t : TA} {name : Str} {apos cpos : Pos} {T id : String} {r : V → List V → Hp → VK → Prop}
theorem pe_bm (pa : PlainAttrs T) (slot : Slot T name id) (hty : typeOf (.builtin id) = pure (.type "method_descriptor")) (hm : MtR X id r) (ho : PE X o to) (ha : PA X (e :: es) t)
    (hbase : attributeBase o name X.env (eval o X.env) = eval o X.env := by rfl)
    (hfew : ((backTo cpos (starEach (e :: es) X.env)).all (fun x => !x.1) && (backToKw cpos (keywordEach [] X.env)).all (fun x => x.1.isSome)
      && decide ((e :: es).length + ([] : List Keyword).length + (if ([] : List Keyword).isEmpty then 0 else 1) < 30)) = true := by rfl)
    (hline : (apos.endLine == cpos.line) = true := by rfl) (hs : starEach (e :: es) X.env = (false, eval e X.env) :: starEach es X.env := by rfl) (hplain : (backTo cpos (starEach es X.env)).any (·.1) = false := by rfl) :
    PE X (.Call (.Attribute o name apos) (e :: es) [] cpos) (tBM X.K T r to t) := by
  intro pins s σ H Q I h
  refine wpAny_Call_method_late hbase hfew hline rfl (thn (ho pins s σ H _ I h) fun v s1 ⟨x, H1, I1, r1, ty, q1⟩ => ?_)
  obtain ⟨h1, h2⟩ := tyV_is I1 r1 ty
  refine ⟨T, id, pa, slot, hty, h1, h2, ?_⟩
  have hA := ha cpos pins s1 σ H1 _ I1 q1
  rw [hs] at hA ⊢
  refine Calls.callWith_builtin (by show (false || (backTo cpos (starEach es X.env)).any (·.1)) = false; rw [hplain] <;> rfl) (Calls.evalArgs_plain ?_)
  exact thn hA fun us s2 ⟨vs, H2, I2, r2, q2⟩ => hm pins s2 σ H2 x vs v us Q I2 r1 r2 q2
end
end L2
namespace L2
open PySem PySem.Spec PyProof.Rows
def MtM (X : Cx) (id : String) (r : V → List V → Hp → VK → Prop) : Prop :=
  ∀ (pins : List (Addr × Obj)) (s : Shared) (σ : St) (H : Hp) (x : V) (xs : List V) (v : Value) (us : List Value) (Q : VK), Inv X pins σ H s → RelV x v → Vals xs us → r x xs H Q →
    wpAny (model X.prog X.w) X.A (call (.builtin id) (v :: us)) (EP X pins σ Q) X.xe s
theorem Vals.one : ∀ {x : V} {us : List Value}, Vals [x] us → ∃ u, us = [u] ∧ RelV x u
  | _, _, .cons r .nil => ⟨_, rfl, r⟩
theorem Vals.rep {xs : List V} {us : List Value} (h : Vals xs us) : ∀ k : Nat, Vals (List.replicate k xs).flatten (List.replicate k us).flatten
  | 0 => .nil
  | k + 1 => by
    rw [List.replicate_succ, List.replicate_succ, List.flatten_cons, List.flatten_cons]
    exact Vals.append h (Vals.rep h k)
theorem foldl_rep (its : List Value) : ∀ (k : Nat) (acc : List Value),
    List.foldl (fun x1 x2 => x1 ++ x2) acc.toArray (List.replicate k its.toArray) = (acc ++ (List.replicate k its).flatten).toArray
  | 0, acc => by simp
  | k + 1, acc => by
    have e : acc.toArray ++ its.toArray = (acc ++ its).toArray := by simp
    have e2 : (acc ++ its) ++ (List.replicate k its).flatten = acc ++ (List.replicate (k + 1) its).flatten := by
      rw [List.replicate_succ, List.flatten_cons, List.append_assoc]
    rw [← e2, ← foldl_rep its k (acc ++ its), ← e, List.replicate_succ, List.foldl_cons]
section
variable {X : Cx} {pins : List (Addr × Obj)} {σ : St} {H : Hp} {s : Shared} {l b : Addr} {xs ys zs : List V}
theorem Inv.lset {its its' : List Value} {n : Nat} {f : Array Value → Array Value} {t' : Nat} (I : Inv X pins σ H s) (hH : H l = some (.lst xs))
    (e : s.heap.get? l = some { cls := .type "list", data := .seq its.toArray n }) (hf : f its.toArray = its'.toArray) (hv : Vals ys its') (hz : ys.length ≤ sizeLine) :
    Inv X pins σ (upd H l (.lst ys)) { s with heap := s.heap.update l (Obj.mapSeq f), toks := t' } := by
  have q := PySem.IsL.update e f
  rw [hf] at q
  refine I.write (x := l) (e := l) (by rw [hH]; exact trivial) (.inl rfl) (fun b' u hb hu => (Heap.get?_update_other s.heap (Obj.mapSeq f) (Ne.symm hb)).trans hu) ⟨_, q⟩ ?_
  exact ⟨hz, its', _, hv, q⟩
theorem Inv.lnew {its : List Value} {t' : Nat} (I : Inv X pins σ H s) (hv : Vals ys its) (hz : ys.length ≤ sizeLine) :
    Inv X pins σ (upd H s.heap.objs.size (.lst ys)) { s with heap := s.heap.push { cls := .type "list", data := .seq its.toArray }, toks := t' } :=
  I.laid (fun _ _ q => Heap.get?_push_of_some _ q) (Nat.le_refl _) ⟨hz, its, 0, hv, Heap.get?_push_size _ rfl⟩
theorem Inv.fresh (I : Inv X pins σ H s) : H s.heap.objs.size = none := I.hok.fresh (Nat.le_refl _)
theorem Inv.lstM (I : Inv X pins σ H s) (hH : H l = some (.lst xs)) : xs.length ≤ sizeLine ∧ ∃ (its : List Value) (n : Nat), Vals xs its ∧ xs.length = its.length ∧ s.heap.get? l = some { cls := .type "list", data := .seq its.toArray n } := by
  obtain ⟨z, its, n, r, e⟩ := I.hok l _ hH
  exact ⟨z, its, n, r, r.length, e⟩
theorem notLongL {n : Nat} (h : n ≤ sizeLine) : Builtin.List.listTooLong n = false := by
  unfold Builtin.List.listTooLong
  exact decide_eq_false (by omega)
end
section
variable {X : Cx}
def rAppend : V → List V → Hp → VK → Prop := fun x vs H Q => ∃ l xs y, x = .ref l ∧ vs = [y] ∧ H l = some (.lst xs) ∧ xs.length < sizeLine ∧ Q .non (upd H l (.lst (xs ++ [y])))
theorem mt_append : MtM X "list.append" rAppend := by
  intro pins s σ H x vs v us Q I rx rv h
  obtain ⟨l, xs, y, rfl, rfl, hH, hz, q⟩ := h
  cases rx
  obtain ⟨u, rfl, ru⟩ := rv.one
  obtain ⟨z, its, n, r, hl, e⟩ := I.lstM hH
  refine call_meets F.slot_list_append ⟨_, e, rfl⟩ F.entry_list_append (F.args_list_append_2 _ _) (PySem.list_append l its.toArray n u (by rw [List.size_toArray]; omega)) ⟨e, ?_⟩
  refine ⟨.non, _, I.lset (its' := its ++ [u]) hH e (by simp) (r.append (.cons ru .nil)) ?_, rfl, q⟩
  rw [List.length_append, List.length_singleton]
  omega
def rExtend : V → List V → Hp → VK → Prop := fun x vs H Q => ∃ l b xs zs, x = .ref l ∧ vs = [.ref b] ∧ H l = some (.lst xs) ∧ H b = some (.lst zs) ∧ xs.length + zs.length ≤ sizeLine ∧ Q .non (upd H l (.lst (xs ++ zs)))
theorem mt_extend : MtM X "list.extend" rExtend := by
  intro pins s σ H x vs v us Q I rx rv h
  obtain ⟨l, b, xs, zs, rfl, rfl, hH, hB, hz, q⟩ := h
  cases rx
  obtain ⟨u, rfl, ru⟩ := rv.one
  cases ru
  obtain ⟨z, its, n, r, hl, e⟩ := I.lstM hH
  obtain ⟨z2, its2, n2, r2, hl2, e2⟩ := I.lstM hB
  have hsz : its.toArray.size + its2.toArray.size ≤ sizeLine := by rw [List.size_toArray, List.size_toArray]; omega
  have hlong : ¬ (!its.toArray.isEmpty && Builtin.List.listTooLong (its.toArray.size + its2.toArray.size)) = true := by
    rw [notLongL hsz, Bool.and_false]
    exact Bool.false_ne_true
  refine call_meets F.slot_list_extend ⟨_, e, rfl⟩ F.entry_list_extend (F.args_list_extend_2 _ _)
    (AutoSeq1.list_extend_list_list_0 l its.toArray n b its2.toArray n2 hlong (by rw [List.size_toArray]; omega) (by omega)) ⟨e, e2, ?_⟩
  refine ⟨.non, _, I.lset (its' := its ++ its2) hH e (by simp) (r.append r2) ?_, rfl, q⟩
  rw [List.length_append]
  omega
def rCat : R2 := fun x y H Q => ∃ l b xs zs, x = .ref l ∧ y = .ref b ∧ H l = some (.lst xs) ∧ H b = some (.lst zs) ∧ xs.length + zs.length ≤ sizeLine ∧ ∀ p, H p = none → Q (.ref p) (upd H p (.lst (xs ++ zs)))
theorem op_cat : OpR X (binaryOp .Add) rCat := by
  intro pins s σ H x y v u Q I rx ry h
  obtain ⟨l, b, xs, zs, rfl, rfl, hH, hB, hz, q⟩ := h
  cases rx
  cases ry
  obtain ⟨z, its, n, r, hl, e⟩ := I.lstM hH
  obtain ⟨z2, its2, n2, r2, hl2, e2⟩ := I.lstM hB
  refine PySem.P.add_list e e2 ?_ (by rw [List.size_toArray, List.size_toArray]; omega)
  have ea : its.toArray ++ its2.toArray = (its ++ its2).toArray := by simp
  rw [ea]
  exact ⟨.ref _, _, I.lnew (t' := s.toks) (r.append r2) (by rw [List.length_append]; omega), rfl, q _ I.fresh⟩
def rRep : R2 := fun x y H Q => ∃ l k xs, x = .ref l ∧ y = .int k ∧ H l = some (.lst xs) ∧ -(2 ^ 63) ≤ k ∧ k < 2 ^ 63 ∧ xs.length * k.toNat ≤ sizeLine ∧
  ∀ p, H p = none → Q (.ref p) (upd H p (.lst (List.replicate k.toNat xs).flatten))
theorem len_rep {α : Type} (xs : List α) (k : Nat) : (List.replicate k xs).flatten.length = k * xs.length := by
  induction k with
  | zero => simp
  | succ k ih => rw [List.replicate_succ, List.flatten_cons, List.length_append, ih, Nat.succ_mul, Nat.add_comm]
theorem op_rep : OpR X (binaryOp .Mult) rRep := by
  intro pins s σ H x y v u Q I rx ry h
  obtain ⟨l, k, xs, rfl, rfl, hH, h1, h2, hz, q⟩ := h
  cases rx
  obtain ⟨t, rfl⟩ := ry
  obtain ⟨z, its, n, r, hl, e⟩ := I.lstM hH
  have hlen : its.toArray.size * k.toNat ≤ sizeLine := by rw [List.size_toArray, ← hl]; exact hz
  have hcap : ¬ its.toArray.size * k.toNat > (2 ^ 63 - 1) / 8 := by
    have : (sizeLine : Nat) ≤ (2 ^ 63 - 1) / 8 := by decide
    omega
  have hfit : ¬ (!Builtin.List.listFitsIndex k) = true := by
    rw [fitsIndex_both h1 h2]
    exact Bool.false_ne_true
  have hlong : ¬ Builtin.List.listTooLong (its.toArray.size * k.toNat) = true := by
    rw [notLongL hlen]
    exact Bool.false_ne_true
  have hnew : List.foldl (fun x1 x2 => x1 ++ x2) #[] (List.replicate (if its.toArray.isEmpty = true then 0 else k.toNat) its.toArray) = (List.replicate k.toNat its).flatten.toArray := by
    have f0 : ∀ m : Nat, List.foldl (fun x1 x2 => x1 ++ x2) #[] (List.replicate m its.toArray) = (List.replicate m its).flatten.toArray := fun m => by
      have := foldl_rep its m []
      rw [List.nil_append] at this
      exact this
    rw [f0]
    cases its with
    | nil => simp
    | cons a r' => rw [if_neg (by simp)]
  refine wpAny_binaryOp_repeat_ref (T := "list") (U := "int") (by decide) ⟨_, e, rfl⟩ (fun s' => typeIs_int s' k t) noFill_list_mul F.fills_int_mul F.slot_int_rmul repeat_list F.slot_int_index.lookup
    (call_meets F.slot_int_rmul (typeIs_int s k t) F.entry_int_rmul (F.args_int_rmul_2 _ _) (int___rmul___int_list k t l its.toArray n)
      ⟨e, rfl, ⟨_, e, rfl⟩, call_meets F.slot_list_mul ⟨_, e, rfl⟩ F.entry_list_mul (F.args_list_mul_2 _ _) (AutoListH.list___mul___list_int_3 l its.toArray n k t hfit hcap hlong) ⟨e, ?_⟩⟩)
  rw [hnew]
  exact ⟨.ref _, _, I.lnew (t' := s.toks) (r.rep k.toNat) (by rw [len_rep, Nat.mul_comm]; exact hz), rfl, q _ I.fresh⟩
end
end L2
namespace L2
open PySem PySem.Spec PyProof.Rows
theorem vals_of_ints : ∀ {us : List Value} {ns : List Int}, IntsAre us ns → Vals (ns.map V.int) us
  | _, _, .nil => by rw [List.map_nil]; exact Paired.nil
  | _, _, .cons n t h => by rw [List.map_cons]; exact Paired.cons (show RelV (V.int n) (Value.int n t) from ⟨t, rfl⟩) (vals_of_ints h)
section
variable {X : Cx}
def rIndex (K : PySem.W.Frag) : V → List V → Hp → VK → Prop := fun x xs H Q => ∃ (a : Addr) (ys : List V) (y : V) (j : Nat) (z : V), x = V.ref a ∧ xs = [y] ∧ SqL K H a ys ∧ flatV y = true ∧ ys.all flatV = true ∧ ys[j]? = some z ∧ eqV z y = true ∧
  (∀ (m : Nat) (z' : V), m < j → ys[m]? = some z' → eqV z' y = false) ∧ Q (.int (j : Nat)) H
theorem flat_at {ys : List V} (f : ys.all flatV = true) {j : Nat} {z : V} (h : ys[j]? = some z) : flatV z = true := List.all_eq_true.mp f z (List.mem_of_getElem? h)
theorem mt_index : MtR X "list.index" (rIndex X.K) := by
  intro pins s σ H x xs v us Q I rx rxs h
  obtain ⟨a, ys, y, j, z, rfl, rfl, hs, fy, fys, hz, hzj, hno, q⟩ := h
  cases rx
  cases rxs with
  | cons ry rt =>
    rename_i uy ut
    cases rt
    obtain ⟨its, rv, ⟨⟨cls, dd, data, sl⟩, n, ho, hc, hdn, hd⟩, hlen⟩ := I.list hs
    simp only at hc hd
    subst hc hd
    obtain ⟨u, hu, ru⟩ := rv.get hz
    obtain ⟨hjl, hje⟩ := List.getElem?_eq_some_iff.mp hu
    have hvl := rv.length
    have hj : j < its.toArray.size := by simpa using hjl
    have hsl := sizeLine_eq
    refine call_meets PySem.F.slot_list_index ⟨_, ho, rfl⟩ PySem.F.entry_list_index (PySem.F.args_list_index_2 _ _)
      (SeqAt.list_indexAt a its.toArray n dd sl uy (eqU y) j hj (by omega) ?_ ?_) ⟨ho, fun u' hu' => mem_eqAt ry fy rv fys u' (by simpa using hu'), ?_⟩
    · have e1 : its.toArray[j] = u := by simpa using hje
      rw [e1, eqU_of ru (flat_at fys hz)]
      exact hzj
    · intro m hm hmj
      have hml : m < its.length := by simpa using hm
      have hmy : m < ys.length := by omega
      have hy' : ys[m]? = some ys[m] := List.getElem?_eq_getElem hmy
      obtain ⟨u2, hu2, ru2⟩ := rv.get hy'
      obtain ⟨_, hme⟩ := List.getElem?_eq_some_iff.mp hu2
      have e1 : its.toArray[m] = u2 := by simpa using hme
      rw [e1, eqU_of ru2 (flat_at fys hy')]
      exact hno m _ hmj hy'
    · exact ⟨.int (j : Nat), H, I.tok _, ⟨_, rfl⟩, q⟩
end
mutual
inductive Dp (K : PySem.W.Frag) (H : Hp) : V → PyData → Prop
  | non : Dp K H .non .none
  | bl (b : Bool) : Dp K H (.bl b) (.bool b)
  | int (i : Int) : Dp K H (.int i) (.int i)
  | str (x : Str) : Dp K H (.str x) (.str x)
  | lst {a : Addr} {xs : List V} {ds : List PyData} : SqL K H a xs → DpAll K H xs ds → Dp K H (.ref a) (.list ds)
  | tup {a : Addr} {xs : List V} {ds : List PyData} : SqT K H a xs → DpAll K H xs ds → Dp K H (.ref a) (.tuple ds)
inductive DpAll (K : PySem.W.Frag) (H : Hp) : List V → List PyData → Prop
  | nil : DpAll K H [] []
  | cons {v : V} {vs : List V} {d : PyData} {ds : List PyData} : Dp K H v d → DpAll K H vs ds → DpAll K H (v :: vs) (d :: ds)
end
section
variable {X : Cx} {pins : List (Addr × Obj)} {σ : St} {H : Hp} {s : Shared}
mutual
theorem Dp.reads (I : Inv X pins σ H s) : ∀ (d : PyData) (v : V) (u : Value), Dp X.K H v d → RelV v u → ∃ as, Reads s.heap u d as
  | .none, _, _, h, r => by
    cases h
    cases r
    exact ⟨_, Reads.none⟩
  | .bool b, _, _, h, r => by
    cases h
    cases r
    exact ⟨_, Reads.bool b⟩
  | .int i, _, _, h, r => by
    cases h
    obtain ⟨t, rfl⟩ := r
    exact ⟨_, Reads.int i t⟩
  | .str x, _, _, h, r => by
    cases h
    obtain ⟨t, rfl⟩ := r
    exact ⟨_, Reads.str x t⟩
  | .list ds, _, _, h, r => by
    cases h with
    | lst hs ha =>
      cases r
      obtain ⟨its, rv, ⟨o, n, ho, hc, _, hd⟩, _⟩ := I.list hs
      obtain ⟨as, hr⟩ := Dp.readsAll I ds _ its ha rv
      exact ⟨_, Reads.list ho hc hd hr⟩
  | .tuple ds, _, _, h, r => by
    cases h with
    | tup hs ha =>
      cases r
      obtain ⟨its, rv, ⟨o, ho, hc, n, hd⟩, _⟩ := I.tuple hs
      obtain ⟨as, hr⟩ := Dp.readsAll I ds _ its ha rv
      exact ⟨_, Reads.tuple ho hc hd hr⟩
  | .dict _, _, _, h, _ => by cases h
theorem Dp.readsAll (I : Inv X pins σ H s) : ∀ (ds : List PyData) (vs : List V) (us : List Value), DpAll X.K H vs ds → Vals vs us → ∃ as, ReadsAll s.heap us ds as
  | [], _, _, h, r => by
    cases h
    cases r
    exact ⟨_, ReadsAll.nil⟩
  | d :: ds, _, _, h, r => by
    cases h with
    | cons h1 h2 =>
      cases r with
      | cons r1 r2 =>
        obtain ⟨as, q1⟩ := Dp.reads I d _ _ h1 r1
        obtain ⟨bs, q2⟩ := Dp.readsAll I ds _ _ h2 r2
        exact ⟨_, ReadsAll.cons q1 q2⟩
end
end
section
variable {X : Cx}
def rEqD (K : PySem.W.Frag) : R2 := fun x y H Q => ∃ d e, Dp K H x d ∧ Dp K H y e ∧ SeqAt.shaped d = true ∧ SeqAt.shaped e = true ∧ Q (.bl (PyData.eqv d e)) H
def rNeD (K : PySem.W.Frag) : R2 := fun x y H Q => ∃ d e, Dp K H x d ∧ Dp K H y e ∧ SeqAt.shaped d = true ∧ SeqAt.shaped e = true ∧ Q (.bl (!PyData.eqv d e)) H
theorem op_eqD (hu : X.A.units + 64 < cLine) : OpR X (compareOp .Eq) (rEqD X.K) := by
  intro pins s σ H x y v u Q I rx ry h
  obtain ⟨d, e, hd, he, sd, se, q⟩ := h
  obtain ⟨as, r1⟩ := Dp.reads I d x v hd rx
  obtain ⟨bs, r2⟩ := Dp.reads I e y u he ry
  exact SeqAt.compareEq_shaped r1 r2 sd se hu ⟨.bl _, H, I, rfl, q⟩
theorem op_neD (hu : X.A.units + 64 < cLine) : OpR X (compareOp .NotEq) (rNeD X.K) := by
  intro pins s σ H x y v u Q I rx ry h
  obtain ⟨d, e, hd, he, sd, se, q⟩ := h
  obtain ⟨as, r1⟩ := Dp.reads I d x v hd rx
  obtain ⟨bs, r2⟩ := Dp.reads I e y u he ry
  exact SeqAt.compareNe_shaped r1 r2 sd se hu ⟨.bl _, H, I, rfl, q⟩
end
end L2
namespace L2
open PySem PySem.Spec PyProof.Rows
abbrev CellAt (h : Heap) (c : Addr) (v : Option Value) : Prop := h.IsCell c v
def relS (scope sc : Scope) : Scope :=
  { scope with names := scope.names.map fun (n, k) => if (k == .free && sc.kind == .function && sc.names.lookup n == some .cell) then (n, .cell) else (n, k) }
def cloFrom (cells : List (Str × Addr)) : List (Str × NameKind) → List (Str × Addr) → List (Str × Addr)
  | [], acc => acc
  | (n, k) :: r, acc => if k == .free then cloFrom cells r ((n, (cells.lookup n).getD 0) :: acc) else cloFrom cells r acc
theorem closure_loop (env : Env) (f : Str × NameKind → List (Str × Addr) → Sem (ForInStep (List (Str × Addr))))
    (hf : ∀ n k c, f (n, k) c = if k == .free then (do let a ← cellOf env n; pure (.yield ((n, a) :: c))) else pure (.yield c)) :
    ∀ (names : List (Str × NameKind)) (acc : List (Str × Addr)), (∀ y ∈ names, y.2 = .free → ∃ c, env.cells.lookup y.1 = some c) → forIn names acc f = pure (cloFrom env.cells names acc)
  | [], acc, _ => by rw [List.forIn_nil]; rfl
  | (n, k) :: r, acc, h => by
    rw [List.forIn_cons, hf]
    have ih := fun acc => closure_loop env f hf r acc fun y hy => h y (List.mem_cons_of_mem _ hy)
    unfold cloFrom
    by_cases hk : (k == NameKind.free) = true
    · rw [if_pos hk, if_pos hk]
      obtain ⟨c, hc⟩ := h (n, k) List.mem_cons_self (by simpa using hk)
      have e : cellOf env n = pure c := by unfold cellOf; rw [hc]
      rw [e]
      have e2 : (env.cells.lookup n).getD 0 = c := by rw [hc]; rfl
      rw [e2]
      exact ih _
    · rw [if_neg hk, if_neg hk]
      exact ih _
theorem closure_ok {scope : Scope} {env : Env} (h : ∀ y ∈ scope.names, y.2 = .free → ∃ c, env.cells.lookup y.1 = some c) : closureFor scope env = pure (cloFrom env.cells scope.names []) := by
  simp only [closureFor]
  rw [closure_loop env _ (fun n k c => rfl) scope.names [] h]
  rfl
theorem mem_lookup {α : Type} : ∀ {l : List (Str × α)} {n : Str} {c : α}, (n, c) ∈ l → ∃ c', l.lookup n = some c'
  | (k, v) :: r, n, c, h => by
    rw [List.lookup_cons]
    cases hb : n == k with
    | true => exact ⟨_, rfl⟩
    | false =>
      rcases List.mem_cons.mp h with e | h
      · cases e; simp at hb
      · exact mem_lookup h
theorem cloFrom_mem {cells : List (Str × Addr)} : ∀ {names : List (Str × NameKind)} {acc : List (Str × Addr)} {n : Str} {c : Addr}, (n, c) ∈ cloFrom cells names acc → (n, c) ∈ acc ∨ ((n, .free) ∈ names ∧ c = (cells.lookup n).getD 0)
  | [], _, _, _, h => .inl h
  | (m, k) :: r, acc, n, c, h => by
    unfold cloFrom at h
    split at h
    · rename_i hk
      have hk : k = .free := by simpa using hk
      rcases cloFrom_mem h with h | ⟨h1, h2⟩
      · rcases List.mem_cons.mp h with e | h
        · cases e; exact .inr ⟨hk ▸ List.mem_cons_self, rfl⟩
        · exact .inl h
      · exact .inr ⟨List.mem_cons_of_mem _ h1, h2⟩
    · rcases cloFrom_mem h with h | ⟨h1, h2⟩
      · exact .inl h
      · exact .inr ⟨List.mem_cons_of_mem _ h1, h2⟩
theorem cloFrom_acc {cells : List (Str × Addr)} : ∀ {names : List (Str × NameKind)} {acc : List (Str × Addr)} {p : Str × Addr}, p ∈ acc → p ∈ cloFrom cells names acc
  | [], _, _, h => h
  | (m, k) :: r, acc, p, h => by
    unfold cloFrom
    split
    · exact cloFrom_acc (List.mem_cons_of_mem _ h)
    · exact cloFrom_acc h
theorem cloFrom_has {cells : List (Str × Addr)} : ∀ {names : List (Str × NameKind)} {acc : List (Str × Addr)} {n : Str}, (n, .free) ∈ names → (n, (cells.lookup n).getD 0) ∈ cloFrom cells names acc
  | (m, k) :: r, acc, n, h => by
    unfold cloFrom
    rcases List.mem_cons.mp h with e | h
    · cases e
      exact cloFrom_acc List.mem_cons_self
    · split
      · exact cloFrom_has h
      · exact cloFrom_has h
theorem cells_mem : ∀ {names : List (Str × NameKind)} {h : Heap} {acc : List (Str × Addr)} {x : Str} {c : Addr}, (x, c) ∈ cellsFrom h.objs.size names acc →
    (x, c) ∈ acc ∨ ((x, .cell) ∈ names ∧ h.objs.size ≤ c ∧ CellAt (pushCells h names) c none)
  | [], _, _, _, _, h => .inl h
  | (n, k) :: r, h, acc, x, c, hm => by
    unfold cellsFrom at hm
    unfold pushCells
    split at hm
    · rename_i hk
      rw [if_pos hk]
      have hk : k = .cell := by simpa using hk
      rw [← Heap.size_push h { cls := .type "cell", data := .cell none }] at hm
      rcases cells_mem hm with hm | ⟨h1, h2, h3⟩
      · rcases List.mem_cons.mp hm with e | hm
        · cases e
          exact .inr ⟨hk ▸ List.mem_cons_self, Nat.le_refl _, _, pushCells_keeps r _ _ _ (Heap.get?_push_size _ rfl), rfl⟩
        · exact .inl hm
      · rw [Heap.size_push] at h2
        exact .inr ⟨List.mem_cons_of_mem _ h1, Nat.le_of_succ_le h2, h3⟩
    · rename_i hk
      rw [if_neg hk]
      rcases cells_mem hm with hm | ⟨h1, h2, h3⟩
      · exact .inl hm
      · exact .inr ⟨List.mem_cons_of_mem _ h1, h2, h3⟩
theorem cells_acc : ∀ {names : List (Str × NameKind)} {n : Nat} {acc : List (Str × Addr)} {p : Str × Addr}, p ∈ acc → p ∈ cellsFrom n names acc
  | [], _, _, _, h => h
  | (m, k) :: r, n, acc, p, h => by
    unfold cellsFrom
    split
    · exact cells_acc (List.mem_cons_of_mem _ h)
    · exact cells_acc h
theorem cells_has : ∀ {names : List (Str × NameKind)} {n : Nat} {acc : List (Str × Addr)} {x : Str}, (x, .cell) ∈ names → ∃ c, (x, c) ∈ cellsFrom n names acc
  | (m, k) :: r, n, acc, x, h => by
    unfold cellsFrom
    rcases List.mem_cons.mp h with e | h
    · cases e
      exact ⟨n, cells_acc List.mem_cons_self⟩
    · split
      · exact cells_has h
      · exact cells_has h
theorem cells_inj : ∀ {names : List (Str × NameKind)} {h : Heap} {acc : List (Str × Addr)} {x y : Str} {c : Addr}, (∀ p ∈ acc, p.2 < h.objs.size) → (∀ x y c, (x, c) ∈ acc → (y, c) ∈ acc → x = y) →
    (x, c) ∈ cellsFrom h.objs.size names acc → (y, c) ∈ cellsFrom h.objs.size names acc → x = y
  | [], _, _, _, _, _, _, hi, h1, h2 => hi _ _ _ h1 h2
  | (n, k) :: r, h, acc, x, y, c, hl, hi, h1, h2 => by
    unfold cellsFrom at h1 h2
    split at h1
    · rename_i hk
      rw [if_pos hk] at h2
      rw [← Heap.size_push h { cls := .type "cell", data := .cell none }] at h1 h2
      refine cells_inj (h := h.push _) (fun p hp => ?_) (fun x y c a b => ?_) h1 h2
      · rw [Heap.size_push]
        rcases List.mem_cons.mp hp with rfl | hp
        · exact Nat.lt_succ_self _
        · exact Nat.lt_succ_of_lt (hl p hp)
      · rcases List.mem_cons.mp a with e | a <;> rcases List.mem_cons.mp b with e' | b
        · cases e; cases e'; rfl
        · cases e; exact absurd (hl _ b) (Nat.lt_irrefl _)
        · cases e'; exact absurd (hl _ a) (Nat.lt_irrefl _)
        · exact hi _ _ _ a b
    · rename_i hk
      rw [if_neg hk] at h2
      exact cells_inj hl hi h1 h2
theorem newEnv_comp {M : Model} {A : Around} {E : Value → Shared → Prop} {s : Shared} {scope : Scope} {globals : Addr} {closure : List (Str × Addr)} {qual : Str} {func : Option Addr} {code : Value} {around : Env} {builtins : Addr} {Q : Env → Shared → Prop}
    (h : Q (newEnv scope s.heap.objs.size globals (cellsFrom (s.heap.objs.size + 1) scope.names closure) qual func code (some around) builtins)
      { s with heap := pushCells (s.heap.push { cls := .type "dict", data := .dict #[] }) scope.names }) :
    wpAny M A (newFunctionEnv scope globals closure [] qual func code (some around) builtins) Q E s := by
  simp only [newFunctionEnv, Option.isSome_some, if_true]
  refine wpAny_bind (wpAny_alloc ?_)
  refine wpAny_bind (wpAny_layCells _ (fun n k c => rfl) scope.names closure _ _ ?_)
  rw [show ({ s with heap := s.heap.push { cls := .type "dict", data := .dict #[] } } : Shared).heap.objs.size = s.heap.objs.size + 1 from Heap.size_push ..]
  rw [List.forIn_nil]
  exact wpAny_bind (wpAny_pure (wpAny_pure h))
theorem lookup_relS {sc : Scope} : ∀ {names : List (Str × NameKind)} {x : Str} {k : NameKind},
    (names.map fun (n, k) => if (k == NameKind.free && sc.kind == .function && sc.names.lookup n == some .cell) then (n, NameKind.cell) else (n, k)).lookup x = some k →
    ∃ k', names.lookup x = some k' ∧ (k = k' ∨ (k' = .free ∧ k = .cell))
  | [], _, _, h => by simp at h
  | (n, k₀) :: r, x, k, h => by
    have ih := @lookup_relS sc r x k
    have h' : List.lookup x ((if (k₀ == NameKind.free && sc.kind == .function && sc.names.lookup n == some .cell) = true then (n, NameKind.cell) else (n, k₀)) :: (r.map _)) = some k := h
    cases hx : x == n with
    | true =>
      simp only [List.lookup_cons, hx]
      by_cases hc : (k₀ == NameKind.free && sc.kind == .function && sc.names.lookup n == some .cell) = true
      · rw [if_pos hc] at h'
        simp only [List.lookup_cons, hx] at h'
        cases h'
        simp only [Bool.and_eq_true, beq_iff_eq] at hc
        exact ⟨k₀, rfl, .inr ⟨hc.1.1, rfl⟩⟩
      · rw [if_neg hc] at h'
        simp only [List.lookup_cons, hx] at h'
        cases h'
        exact ⟨_, rfl, .inl rfl⟩
    | false =>
      simp only [List.lookup_cons, hx]
      by_cases hc : (k₀ == NameKind.free && sc.kind == .function && sc.names.lookup n == some .cell) = true
      · rw [if_pos hc] at h'
        simp only [List.lookup_cons, hx] at h'
        exact ih h'
      · rw [if_neg hc] at h'
        simp only [List.lookup_cons, hx] at h'
        exact ih h'
structure BlkOk (N : List Str) (sc scope : Scope) (own : List (Str × Nat)) : Prop where
  kind : scope.kind = .function
  uniq : ∀ y ∈ scope.names, scope.names.lookup y.1 = some y.2
  ix : ∀ p ∈ own, N[p.2]? = some p.1
  free : ∀ y ∈ scope.names, y.2 = .free → sc.names.lookup y.1 = some .cell ∨ sc.names.lookup y.1 = some .free
  own : ∀ y ∈ scope.names, y.2 = .local ∨ y.2 = .cell → y.1 ∈ own.map (·.1) ∨ y.1 ∉ N
def wipe (σ : St) : List Nat → St
  | [] => σ
  | v :: vs => (wipe σ vs).set v none
theorem wipe_length (σ : St) : ∀ vs : List Nat, (wipe σ vs).length = σ.length
  | [] => rfl
  | v :: vs => by unfold wipe; rw [List.length_set, wipe_length σ vs]
theorem wipe_some {σ : St} {i : Nat} {x : V} : ∀ {vs : List Nat}, (wipe σ vs)[i]? = some (some x) → σ[i]? = some (some x) ∧ i ∉ vs
  | [], h => ⟨h, by simp⟩
  | v :: vs, h => by
    unfold wipe at h
    by_cases hi : v = i
    · subst hi
      by_cases hv : v < (wipe σ vs).length
      · rw [List.getElem?_set_self hv] at h; cases h
      · rw [List.getElem?_eq_none (by simpa using hv)] at h; cases h
    · rw [List.getElem?_set_ne hi] at h
      obtain ⟨h1, h2⟩ := wipe_some h
      exact ⟨h1, by simp only [List.mem_cons, not_or]; exact ⟨fun e => hi e.symm, h2⟩⟩
abbrev Cx.blk (X : Cx) (s : Shared) (H : Hp) (scope : Scope) (cenv : Env) (fp : List Addr) : Cx := { X with s₀ := s, H₀ := H, env := cenv, outer := X.stack, ex := fp, fn := fun x => scope.names.lookup x == some .cell, pn := [], xe := fun _ _ => False }
section
variable {X : Cx} {pins : List (Addr × Obj)} {σ : St} {H : Hp} {s : Shared}
theorem block_start {scope : Scope} {own : List (Str × Nat)} {fp : List Addr} (I : Inv X pins σ H s) (ok : BlkOk X.N X.env.scope scope own) (hN : X.N.Nodup) (hfp : ∀ b ∈ fp, FpOk X pins H b ∧ b < s.heap.objs.size) :
    Inv (X.blk s H scope (compEnvC scope (cellsFrom (s.heap.objs.size + 1) scope.names (cloFrom X.env.cells scope.names [])) s.heap.objs.size X.env) fp) [] (wipe σ (own.map (·.2))) H { s with heap := pushCells (s.heap.push { cls := .type "dict", data := .dict #[] }) scope.names } := by
  have hfree : ∀ y ∈ scope.names, y.2 = .free → ∃ c, X.env.cells.lookup y.1 = some c := fun y hy e => by
    rcases ok.free y hy e with k | k
    · exact I.ok.has _ (.inl k)
    · exact I.ok.has _ (.inr k)
  generalize hcenv : compEnvC scope (cellsFrom (s.heap.objs.size + 1) scope.names (cloFrom X.env.cells scope.names [])) s.heap.objs.size X.env = cenv
  have kp : ∀ b o, s.heap.get? b = some o → (pushCells (s.heap.push { cls := .type "dict", data := .dict #[] }) scope.names).get? b = some o := fun b o e => pushCells_keeps _ _ _ _ (Heap.get?_push_of_some _ e)
  have hL : cenv.locals = s.heap.objs.size := by rw [← hcenv]; rfl
  have hcl : cenv.cells = cellsFrom (s.heap.objs.size + 1) scope.names (cloFrom X.env.cells scope.names []) := by rw [← hcenv]; rfl
  have hsc : cenv.scope = relS scope X.env.scope := by rw [← hcenv]; rfl
  rw [← Heap.size_push s.heap { cls := .type "dict", data := .dict #[] }] at hcl
  have cm : ∀ {y c}, (y, c) ∈ cloFrom X.env.cells scope.names [] → X.env.cells.lookup y = some c ∧ c < s.heap.objs.size := fun {y c} hm => by
    rcases cloFrom_mem hm with hm | ⟨h1, rfl⟩
    · cases hm
    · obtain ⟨c, hc⟩ := hfree _ h1 rfl
      rw [hc]
      obtain ⟨w, z⟩ := I.cell _ _ hc
      exact ⟨rfl, z.lt⟩
  have mem : ∀ {y c}, cenv.cells.lookup y = some c → (X.env.cells.lookup y = some c ∧ c < s.heap.objs.size) ∨ (s.heap.objs.size + 1 ≤ c ∧ CellAt (pushCells (s.heap.push { cls := .type "dict", data := .dict #[] }) scope.names) c none) := fun {y c} e => by
    rw [hcl] at e
    rcases cells_mem (PySem.mem_of_lookup e) with hm | ⟨_, h2, h3⟩
    · exact .inl (cm hm)
    · rw [Heap.size_push] at h2; exact .inr ⟨h2, h3⟩
  have look : ∀ {y}, scope.names.lookup y = some .free → ∃ c, cenv.cells.lookup y = some c ∧ X.env.cells.lookup y = some c := fun {y} hl => by
    have hy : (y, NameKind.free) ∈ scope.names := PySem.mem_of_lookup hl
    obtain ⟨c', e'⟩ := mem_lookup (cells_acc (names := scope.names) (n := (s.heap.push { cls := .type "dict", data := .dict #[] }).objs.size) (cloFrom_has (cells := X.env.cells) (acc := []) hy))
    rw [← hcl] at e'
    refine ⟨c', e', ?_⟩
    rw [hcl] at e'
    rcases cells_mem (PySem.mem_of_lookup e') with hm | ⟨h1, _, _⟩
    · exact (cm hm).1
    · have := ok.uniq _ h1
      rw [hl] at this; cases this
  have okB : (X.blk s H scope cenv fp).Ok := by
    refine ⟨I.ok.mod, by show cenv.scope.kind = _; rw [hsc]; exact ok.kind, by show cenv.globals = _; rw [← hcenv]; exact I.ok.glob, by show cenv.builtins = _; rw [← hcenv]; exact I.ok.blt, by show s.heap.objs.size ≤ cenv.locals; rw [hL]; exact Nat.le_refl _,
      fun y z c e1 e2 => ?_, fun y hy => ?_, fun y c z e => ?_, I.ok.hd, I.ok.frames, .inl rfl, fun b hb => ⟨?_, fun y c e z => ?_⟩, I.bs, Nat.le_trans I.ok.bsz I.sz, fun b o e hb => ?_, fun b hb z => ?_, I.stack, I.stkFree⟩
    · have e1 : cenv.cells.lookup y = some c := e1
      have e2 : cenv.cells.lookup z = some c := e2
      rw [hcl] at e1 e2
      refine cells_inj (fun p hp => ?_) (fun y z c a b => I.ok.inj y z c (cm a).1 (cm b).1) (PySem.mem_of_lookup e1) (PySem.mem_of_lookup e2)
      rw [Heap.size_push]
      exact Nat.lt_succ_of_lt (cm (y := p.1) (c := p.2) hp).2
    · show ∃ c, cenv.cells.lookup y = some c
      have key : ∀ k, cenv.kindOf y = some k → (k = .cell ∨ k = .free) → ∃ c, cenv.cells.lookup y = some c := fun k hk hk' => by
        unfold Env.kindOf at hk
        rw [hsc] at hk
        obtain ⟨k', e, r⟩ := lookup_relS hk
        have : k' = .cell ∨ k' = .free := by
          rcases r with rfl | ⟨rfl, _⟩
          · exact hk'
          · exact .inr rfl
        rcases this with rfl | rfl
        · obtain ⟨c, hm⟩ := cells_has (n := (s.heap.push { cls := .type "dict", data := .dict #[] }).objs.size) (acc := cloFrom X.env.cells scope.names []) (PySem.mem_of_lookup e)
          obtain ⟨c', e'⟩ := mem_lookup hm
          exact ⟨c', by rw [hcl]; exact e'⟩
        · obtain ⟨c, h1, _⟩ := look e
          exact ⟨c, h1⟩
      rcases hy with hy | hy
      · exact key _ hy (.inl rfl)
      · exact key _ hy (.inr rfl)
    · have z : (scope.names.lookup y == some NameKind.cell) = true := z
      have z : scope.names.lookup y = some .cell := by simpa using z
      have e : cenv.cells.lookup y = some c := e
      rw [hcl] at e
      rcases cells_mem (PySem.mem_of_lookup e) with hm | ⟨_, h2, _⟩
      · rcases cloFrom_mem hm with hm | ⟨h1, _⟩
        · cases hm
        · have q := ok.uniq _ h1
          rw [z] at q; cases q
      · rw [Heap.size_push] at h2
        exact Nat.le_of_succ_le h2
    · show b ≠ cenv.locals
      rw [hL]; exact Nat.ne_of_lt (hfp b hb).2
    · have e : cenv.cells.lookup y = some c := e
      rcases mem e with ⟨h1, _⟩ | ⟨h1, _⟩
      · exact (hfp b hb).1.2.2.2.2.1 y c h1 z
      · have h2 : s.heap.objs.size + 1 ≤ b := by rw [← z]; exact h1
        exact absurd (Nat.lt_of_lt_of_le (hfp b hb).2 (Nat.le_of_succ_le h2)) (Nat.lt_irrefl _)
    · rcases (hfp b hb).1.2.2.2.1 with z | z
      · exact I.ok.noex b o e z
      · exact absurd (Nat.lt_of_lt_of_le (Heap.lt_size e) (Nat.le_trans I.ok.bsz z)) (Nat.lt_irrefl _)
    · rcases List.mem_cons.mp (I.stkSub b z) with z | z
      · exact (hfp b hb).1.2.1 z
      · exact (hfp b hb).1.2.2.1 z
  refine ⟨okB, rfl, I.bare, Un.kept kp, ⟨fun _ => none, ?_, fun i y av e1 e2 e3 => ?_⟩, fun y c e => ?_, ?_, fun y c e => ?_, fun p hp => ?_, I.hok.kept kp, by rw [wipe_length]; exact I.len⟩
  · show Heap.Ns _ cenv.locals _
    rw [hL]
    exact Heap.Ns.keeps (Heap.Ns.new ..) fun b o e => pushCells_keeps _ _ _ _ e
  · obtain ⟨e2, hne⟩ := wipe_some e2
    have hfr : scope.names.lookup y = some .free ∧ (cenv.kindOf y = some .cell ∨ cenv.kindOf y = some .free) := by
      have key : ∀ k, cenv.scope.names.lookup y = some k → k = .local ∨ k = .cell ∨ k = .free → scope.names.lookup y = some .free ∧ (cenv.kindOf y = some .cell ∨ cenv.kindOf y = some .free) := fun k hk hk' => by
        have hk0 := hk
        rw [hsc] at hk
        obtain ⟨k', e, r⟩ := lookup_relS hk
        have no : ¬ (k' = .local ∨ k' = .cell) := fun hh => by
          rcases ok.own _ (PySem.mem_of_lookup e) hh with e' | e'
          · obtain ⟨p, hp, hpy⟩ := List.mem_map.mp e'
            have e3 := ok.ix p hp
            have : p.1 = y := hpy
            rw [this] at e3
            exact hne (List.mem_map.mpr ⟨p, hp, nodup_ix hN e3 e1⟩)
          · exact e' (List.mem_of_getElem? e1)
        rcases r with rfl | ⟨rfl, rfl⟩
        · rcases hk' with rfl | rfl | rfl
          · exact absurd (.inl rfl) no
          · exact absurd (.inr rfl) no
          · exact ⟨e, .inr hk0⟩
        · exact ⟨e, .inl hk0⟩
      have e3 : Vis cenv.scope y := e3
      rcases e3 with e3 | e3 | e3
      · exact key _ e3 (.inl rfl)
      · exact key _ e3 (.inr (.inl rfl))
      · exact key _ e3 (.inr (.inr rfl))
    obtain ⟨m, hn, hl⟩ := I.loc
    have hvis : Vis X.env.scope y := (ok.free _ (PySem.mem_of_lookup hfr.1) rfl).elim (fun k => .inr (.inl k)) (fun k => .inr (.inr k))
    obtain ⟨w, r, q⟩ := hl i y av e1 e2 hvis
    refine ⟨w, r, .inr ⟨hfr.2, ?_⟩⟩
    obtain ⟨c, h1, h2⟩ := look hfr.1
    rcases q with ⟨k, _⟩ | ⟨_, c', e', z⟩
    · have k : X.env.scope.names.lookup y = some .local := k
      rcases ok.free _ (PySem.mem_of_lookup hfr.1) rfl with k' | k' <;> rw [show X.env.scope.names.lookup y = _ from k'] at k <;> cases k
    · rw [h2] at e'; cases e'
      exact ⟨c, h1, z.keeps kp⟩
  · have e : cenv.cells.lookup y = some c := e
    rcases mem e with ⟨h1, _⟩ | ⟨_, z⟩
    · obtain ⟨w, z⟩ := I.cell y c h1
      exact ⟨w, z.keeps kp⟩
    · exact ⟨_, z⟩
  · show H cenv.locals = none
    rw [hL]; exact I.hok.fresh (Nat.le_refl _)
  · have e : cenv.cells.lookup y = some c := e
    rcases mem e with ⟨h1, _⟩ | ⟨h1, _⟩
    · exact I.freeC y c h1
    · exact I.hok.fresh (Nat.le_of_succ_le h1)
  · exact absurd (show p ∈ ([] : List (Addr × Obj)) ++ [] from hp) (by simp)
theorem app_ok {E : Value → Shared → Prop} {D : Addr} {xs : List V} {y : V} {v : Value} {Q : Value → Shared → Prop} (I : Inv X pins σ H s) (hD : H D = some (.lst xs)) (hz : xs.length < sizeLine) (r : RelV y v)
    (h : ∀ s', Inv X pins σ (upd H D (.lst (xs ++ [y]))) s' → Q .none s') : wpAny (model X.prog X.w) X.A (call (.builtin "list.append") [.ref D, v]) Q E s := by
  obtain ⟨hz', its, n, ri, e⟩ := I.hok D _ hD
  have hl := ri.length
  refine append_at (hsz := by rw [List.size_toArray]; omega) e fun h' sb ho' => ?_
  refine h { s with heap := h' } (I.write (t' := s.toks) (by rw [hD]; trivial) (.inl rfl) (fun b u hb q => (sb.2 b hb).trans q) ⟨_, ho'⟩ ⟨by rw [List.length_append]; exact hz, its ++ [v], n + 1, ri.append (.cons r .nil), ?_⟩)
  rw [ho']
  simp
def PTs (X : Cx) (ifs : List Expr) (t : TT) : Prop :=
  ∀ (pins : List (Addr × Obj)) (s : Shared) (σ : St) (H : Hp) (Q : Bool → Hp → Prop), Inv X pins σ H s → t σ H Q →
    wpAny (model X.prog X.w) X.A (forIn ifs true fun c r => if r = true then do let ok ← isTrue c X.env (eval c X.env); pure (ForInStep.yield ok) else pure (ForInStep.yield r)) (TP X pins σ Q) X.xe s
def tYes : TT := fun _ H Q => Q true H
theorem pts_nil : PTs X [] tYes := fun _ _ _ H _ I h => wpAny_tests_nil ⟨H, I, h⟩
theorem pts_one {c : Expr} {t : TT} (h : PT X c t) : PTs X [c] t := fun pins s σ H Q I hw => wpAny_tests_one (h pins s σ H Q I hw)
end
theorem thnF {α : Type} {t : Sem α} {Q Q' : α → Shared → Prop} {M : Model} {A : Around} {E : Value → Shared → Prop} {s : Shared} (h : wpAny M A t Q (fun _ _ => False) s) (hQ : ∀ a s, Q a s → Q' a s) : wpAny M A t Q' E s := wpAny_mono h hQ fun _ _ z => False.elim z
theorem compLoop_any {prog : Program} {w : World} {A : Around} {R : Result → Shared → Prop} {s : Shared} {elt target iter : Expr} {ifs : List Expr} {scope : Scope} {pos : Pos} {it acc : Value} {env : Env} (I : Nat → Shared → Prop)
    (turn : ∀ n s, I n s → wpAny (model prog w) A (pyNext it) (fun r s₁ => match r with
      | none => R (.ok .next) s₁
      | some v => wpAny (model prog w) A (letOwnedTupleGo target it v) (fun _ s₁' => wpAny (model prog w) A (assign target env v) (fun _ s₂ =>
          wpAny (model prog w) A (forIn ifs true fun c r => if r = true then do let ok ← isTrue c env (eval c env); pure (ForInStep.yield ok) else pure (ForInStep.yield r)) (fun ok s₃ =>
            if ok = true then wpAny (model prog w) A (eval elt env) (fun x s₄ =>
              wpAny (model prog w) A (call (.builtin "list.append") [acc, x]) (fun _ s₅ => ∃ m, m < n ∧ I m s₅) (notedBy (model prog w) A env fun e s' => R (.error e) s') s₄) (notedBy (model prog w) A env fun e s' => R (.error e) s') s₃
            else ∃ m, m < n ∧ I m s₃) (notedBy (model prog w) A env fun e s' => R (.error e) s') s₂) (notedBy (model prog w) A env fun e s' => R (.error e) s') s₁') (notedBy (model prog w) A env fun e s' => R (.error e) s') s₁) (notedBy (model prog w) A env fun e s' => R (.error e) s') s)
    (n : Nat) (h : I n s) :
    codeAny (model prog w) A (.compLoop (.ListComp elt [⟨target, iter, ifs, 0⟩] scope pos) 0 it acc env) R s := by
  refine codeAny_loop rfl I (fun n s hI => ?_) n h
  show wpAny _ A ((compTurn (.ListComp elt [⟨target, iter, ifs, 0⟩] scope pos) 0 it acc env).onRaise (fun x => do noteFrame x env; theTreesLotGoes x)) _ _ s
  refine wpAny_noted ?_
  rw [compTurn_list]
  refine wpAny_bind (wpAny_standAt (wpAny_bind (wpAny_mono (turn n s hI) (fun r s₁ h₁ => ?_) fun _ _ h' => h')))
  cases r with
  | none => exact wpAny_pure h₁
  | some v =>
    refine wpAny_bind (wpAny_mono h₁ (fun _ s₁' h₁' => ?_) fun _ _ h' => h')
    refine wpAny_bind (wpAny_mono h₁' (fun _ s₂ h₂ => wpAny_bind (wpAny_mono h₂ (fun ok s₃ h₃ => ?_) fun _ _ h' => h')) fun _ _ h' => h')
    cases ok with
    | false => exact wpAny_pure ⟨rfl, h₃⟩
    | true =>
      exact wpAny_bind (wpAny_bind (wpAny_mono h₃ (fun x s₄ h₄ => wpAny_bind (wpAny_mono h₄ (fun _ s₅ h₅ => wpAny_pure (wpAny_pure ⟨rfl, h₅⟩)) fun _ _ h' => h')) fun _ _ h' => h'))
section
variable {X : Cx}
def tLc (wi : TI) (g : TG) (tt : TT) (te : TE) (vs : List Nat) : TE := fun σ H Q => wi σ H fun J H1 => ∀ D, H1 D = none → ∃ W : Nat → Nat → Hp → Prop, (∃ m, W 0 m (upd H1 D (.lst []))) ∧ ∀ i m H, W i m H →
  (J.stop i H ∧ Q (.ref D) H) ∨ (J.go i H ∧ ∃ Nx : Hp → Prop, (∀ H', Nx H' → ∃ m', m' < m ∧ W (i + 1) m' H') ∧ ∀ x H', J.yld i H x H' → g x (wipe σ vs) H' fun σ2 H2 => wipe σ2 vs = wipe σ vs ∧ tt σ2 H2 fun b H3 =>
    if b = true then te σ2 H3 fun y H4 => ∃ acc, H4 D = some (.lst acc) ∧ acc.length < sizeLine ∧ Nx (upd H4 D (.lst (acc ++ [y]))) else Nx H3)
theorem lc_core {pins : List (Addr × Obj)} {s : Shared} {σ : St} {H : Hp} {Q : VK} {elt tg iter : Expr} {ifs : List Expr} {scope : Scope} {own : List (Str × Nat)} {pos pos' : Pos} {wi : TI} {g : TG} {tt : TT} {te : TE} {use : Option (Value → Sem Unit)} {Qf : Value → Shared → Prop}
    (hc : X.calm = true) (hN : X.N.Nodup) (I : Inv X pins σ H s) (hi : PI X tg iter wi) (ok : BlkOk X.N X.env.scope scope own)
    (hg : ∀ (s : Shared) (H : Hp) (C : Addr) (cl : List (Str × Addr)) (fp : List Addr), PG (X.blk s H scope (compEnvC scope cl C X.env) fp) tg g) (ht : ∀ (s : Shared) (H : Hp) (C : Addr) (cl : List (Str × Addr)) (fp : List Addr), PTs (X.blk s H scope (compEnvC scope cl C X.env) fp) ifs tt)
    (he : ∀ (s : Shared) (H : Hp) (C : Addr) (cl : List (Str × Addr)) (fp : List Addr), PE (X.blk s H scope (compEnvC scope cl C X.env) fp) elt te) (hs : ∀ x, foldedSetIterable iter X.env x = pure x)
    (h : tLc wi g tt te (own.map (·.2)) σ H Q)
    (hRR : ∀ D C s' m H', Inv X pins σ H' s' → Q (.ref D) H' → s'.heap.Ns C m → FpOk X pins H' C → compPost (model X.prog X.w) X.A X.xe use Qf (.ref D) C (.ok .next) s') :
    wpAny (model X.prog X.w) X.A (comprehension (.ListComp elt [⟨tg, iter, ifs, 0⟩] scope pos) scope X.env pos' (newList []) false (eval iter X.env) use) Qf X.xe s := by
  have hfree : ∀ y ∈ scope.names, y.2 = .free → ∃ c, X.env.cells.lookup y.1 = some c := fun y hy e => by
    rcases ok.free y hy e with k | k
    · exact I.ok.has _ (.inl k)
    · exact I.ok.has _ (.inr k)
  refine wpAny_comprehension_free (use := use) rfl hs (closure_ok hfree) ok.kind (fun y hy e => by rw [ok.uniq y hy, e])
    (thn (hi pins s σ H _ I h) fun xv s1 hx => thn hx fun itv s2 h2 => ?_)
  obtain ⟨it, fp, tn, J, H2, e, I2, T, st2, f2, q⟩ := h2
  subst e
  refine wpAny_newObj_type (newEnv_comp ?_) (by show 0 ≤ sizeLine; decide)
  generalize hD : s2.heap.objs.size = D
  have hDn : H2 D = none := I2.hok.fresh (Nat.le_of_eq hD)
  obtain ⟨W, ⟨m0, w0⟩, turn⟩ := q D hDn
  -- the new list
  generalize hs3 : ({ s2 with heap := s2.heap.push { cls := .type "list", data := .seq ([] : List Value).toArray } } : Shared) = s3
  have I3 : Inv X pins σ (upd H2 D (.lst [])) s3 := by
    rw [← hs3]
    refine I2.laid (t' := s2.toks) (fun b o e => Heap.get?_push_of_some _ e) (Nat.le_of_eq hD) ⟨Nat.zero_le _, [], 0, .nil, ?_⟩
    rw [← hD]
    exact Heap.get?_push_size _ rfl
  have h3 : s3.heap = s2.heap.push { cls := .type "list", data := .seq ([] : List Value).toArray } := by rw [← hs3]
  have sz : ∀ b ∈ fp, b < s2.heap.objs.size := fun b hb => by
    obtain ⟨o, e, _⟩ := T.obj _ _ st2 b hb
    exact Heap.lt_size e
  have f3 : ∀ b ∈ fp, FpOk X pins (upd H2 D (.lst [])) b ∧ b < s3.heap.objs.size := fun b hb => by
    have hlt := sz b hb
    refine ⟨⟨?_, (f2 b hb).2⟩, by rw [h3, Heap.size_push]; exact Nat.lt_succ_of_lt hlt⟩
    rw [upd_ne (by rw [← hD]; exact Nat.ne_of_lt hlt)]
    exact (f2 b hb).1
  have st3 : tn 0 s3.heap := T.keep _ _ _ st2 fun b _ o e => by rw [h3]; exact Heap.get?_push_of_some _ e
  have I4 := block_start I3 ok hN f3
  have pg := hg s3 (upd H2 D (.lst [])) s3.heap.objs.size (cellsFrom (s3.heap.objs.size + 1) scope.names (cloFrom X.env.cells scope.names [])) fp
  have pt := ht s3 (upd H2 D (.lst [])) s3.heap.objs.size (cellsFrom (s3.heap.objs.size + 1) scope.names (cloFrom X.env.cells scope.names [])) fp
  have pe := he s3 (upd H2 D (.lst [])) s3.heap.objs.size (cellsFrom (s3.heap.objs.size + 1) scope.names (cloFrom X.env.cells scope.names [])) fp
  show codeAny _ _ (.compStart (.ListComp elt [⟨tg, iter, ifs, 0⟩] scope pos) 0 (.ref it) (.ref D) (compEnvC scope (cellsFrom (s3.heap.objs.size + 1) scope.names (cloFrom X.env.cells scope.names [])) s3.heap.objs.size X.env)) (compPost (model X.prog X.w) X.A X.xe use Qf (.ref D) s3.heap.objs.size) { s3 with heap := pushCells (s3.heap.push { cls := .type "dict", data := .dict #[] }) scope.names }
  have nfp : ∀ b ∈ fp, (upd H2 D (.lst [])) b = none := fun b hb => (f3 b hb).1.1
  generalize hce : compEnvC scope (cellsFrom (s3.heap.objs.size + 1) scope.names (cloFrom X.env.cells scope.names [])) s3.heap.objs.size X.env = ce at I4 pg pt pe ⊢
  have cL : ce.locals = s3.heap.objs.size := by subst hce; rfl
  generalize hH3 : upd H2 D (.lst []) = H3 at I3 I4 pg pt pe w0 nfp f3
  generalize hs4 : ({ s3 with heap := pushCells (s3.heap.push { cls := .type "dict", data := .dict #[] }) scope.names } : Shared) = s4 at I4 ⊢
  have st4 : tn 0 s4.heap := T.keep _ _ _ st3 fun b _ o e => by rw [← hs4]; exact pushCells_keeps _ _ _ _ (Heap.get?_push_of_some _ e)
  have stat : ∀ {σ' : St} {H' : Hp} {s' : Shared}, Inv (X.blk s3 H3 scope ce fp) [] σ' H' s' → (∀ b ∈ fp, H' b = none) → ∀ b ∈ fp, FpOk (X.blk s3 H3 scope ce fp) [] H' b := fun {σ' H' s'} I' hn b hb =>
    ⟨hn b hb, (I'.ok.exf b hb).1, I'.ok.exfs b hb, .inl hb, fun x c e => (I'.ok.exf b hb).2 x c e, fun p hp => absurd (show p ∈ ([] : List (Addr × Obj)) ++ [] from hp) (by simp)⟩
  have loop : codeAny (model X.prog X.w) X.A (.compLoop (.ListComp elt [⟨tg, iter, ifs, 0⟩] scope pos) 0 (.ref it) (.ref D) ce) (compPost (model X.prog X.w) X.A X.xe use Qf (.ref D) s3.heap.objs.size) s4 := by
    refine compLoop_any (fun n s' => ∃ i H', Inv (X.blk s3 H3 scope ce fp) [] (wipe σ (own.map (·.2))) H' s' ∧ tn i s'.heap ∧ (∀ b ∈ fp, H' b = none) ∧ W i n H') ?_ m0 ⟨0, H3, I4, st4, nfp, w0⟩
    rintro n s5 ⟨i, H5, I5, st5, n5, w5⟩
    rcases turn i n H5 w5 with ⟨stop, qq⟩ | ⟨go, Nx, hNx, step⟩
    · have td := T.done (X.blk s3 H3 scope ce fp) rfl rfl rfl hc i [] s5 _ H5 (fun _ _ => False) I5 (stat I5 n5) st5 stop
      refine thnF td fun r s6 ⟨hr, I6⟩ => ?_
      subst hr
      -- back in the def's context
      have I7 : Inv X pins σ H5 s6 := I3.call' (ch := fp) I6.os I6.base I6.hok I6.bare fun b hb => ⟨(f3 b hb).1.2.2.2.1, (f3 b hb).1.2.1, (f3 b hb).1.2.2.2.2.1, (f3 b hb).1.2.2.2.2.2⟩
      have nC : H5 s3.heap.objs.size = none := by
        have z : H5 ce.locals = none := I6.free
        rw [cL] at z
        exact z
      obtain ⟨m, hn, _⟩ := I6.loc
      have hn : s6.heap.Ns ce.locals m := hn
      rw [cL] at hn
      exact hRR D s3.heap.objs.size s6 m H5 I7 qq hn (I3.fpOk (Nat.le_refl _) nC)
    · have ti := T.item (X.blk s3 H3 scope ce fp) rfl rfl rfl hc i [] s5 _ H5 (fun _ _ => False) I5 (stat I5 n5) st5 go
      refine thnF ti fun r s6 ⟨u, hr, h6⟩ => ?_
      subst hr
      refine thnF h6 fun _ s7 ⟨x, H7, I7, r7, y7, st7, n7⟩ => ?_
      have I7' := I7.pinned (stat I7 n7) (T.obj _ _ st7)
      refine thnF (pg _ s7 _ H7 x u _ I7' r7 (step x H7 y7)) fun _ s8 ⟨σ8, H8, I8, hw8, q8⟩ => ?_
      refine thnF (pt _ s8 σ8 H8 _ I8 q8) fun b s9 ⟨H9, I9, q9⟩ => ?_
      -- the turn's end
      have fin : ∀ {s' : Shared} {H' : Hp}, Inv (X.blk s3 H3 scope ce fp) ([] ++ pinsAt fp s7.heap) σ8 H' s' → Nx H' → ∃ m, m < n ∧ ∃ i H', Inv (X.blk s3 H3 scope ce fp) [] (wipe σ (own.map (·.2))) H' s' ∧ tn i s'.heap ∧ (∀ b ∈ fp, H' b = none) ∧ W i m H' := fun {s' H'} I' nx => by
        obtain ⟨m', hm, w'⟩ := hNx H' nx
        have pin' : ∀ b ∈ fp, ∀ o, s7.heap.get? b = some o → s'.heap.get? b = some o ∧ H' b = none := fun b hb o e =>
          let z := I'.pin (b, o) (List.mem_append_right _ (List.mem_append_right _ (mem_pinsAt hb e)))
          ⟨z.1, z.2.1⟩
        have hl : (wipe σ (own.map (·.2))).length = σ8.length := by rw [← hw8, wipe_length]
        refine ⟨m', hm, i + 1, H', (I'.unpinned (pins := [])).weak hl (fun j v e => ?_), T.keep _ _ _ st7 fun b hb o e => (pin' b hb o e).1, fun b hb => ?_, w'⟩
        · rw [← hw8] at e
          exact (wipe_some e).1
        · obtain ⟨o, e, _⟩ := T.obj _ _ st7 b hb
          exact (pin' b hb o e).2
      cases b with
      | false =>
        simp only [Bool.false_eq_true, if_false] at q9 ⊢
        exact fin I9 q9
      | true =>
        simp only [if_true] at q9 ⊢
        refine thnF (pe _ s9 σ8 H9 _ I9 q9) fun z s10 ⟨yv, H10, I10, r10, acc, hD10, hz10, nx⟩ => ?_
        exact app_ok (X := X.blk s3 H3 scope ce fp) I10 hD10 hz10 r10 fun s11 I11 => fin I11 nx
  exact codeAny_compStart_list loop (T.self X.A 0 _ _ _ st4 loop)
theorem pe_lc {elt tg iter : Expr} {ifs : List Expr} {scope : Scope} {own : List (Str × Nat)} {pos : Pos} {wi : TI} {g : TG} {tt : TT} {te : TE} (hc : X.calm = true) (hN : X.N.Nodup) (hi : PI X tg iter wi) (ok : BlkOk X.N X.env.scope scope own)
    (hg : ∀ (s : Shared) (H : Hp) (C : Addr) (cl : List (Str × Addr)) (fp : List Addr), PG (X.blk s H scope (compEnvC scope cl C X.env) fp) tg g) (ht : ∀ (s : Shared) (H : Hp) (C : Addr) (cl : List (Str × Addr)) (fp : List Addr), PTs (X.blk s H scope (compEnvC scope cl C X.env) fp) ifs tt)
    (he : ∀ (s : Shared) (H : Hp) (C : Addr) (cl : List (Str × Addr)) (fp : List Addr), PE (X.blk s H scope (compEnvC scope cl C X.env) fp) elt te) (hs : ∀ x, foldedSetIterable iter X.env x = pure x := by intro _; rfl) :
    PE X (.ListComp elt [⟨tg, iter, ifs, 0⟩] scope pos) (tLc wi g tt te (own.map (·.2))) := by
  intro pins s σ H Q I h
  rw [eval_ListComp]
  refine lc_core hc hN I hi ok hg ht he hs h fun D C s' m H' I' q hn f => ⟨m, hn, fun h'' sb => ?_⟩
  obtain ⟨f0, f1, f2, f3, f4, f5⟩ := f
  exact ⟨.ref D, H', I'.turned (t' := s'.toks) (fun b o hb e => (sb.2 b hb).trans e) f0 f1 f3 f4 f5, rfl, q⟩
theorem ps_setLc {i : Nat} {y : Str} {py : Pos} {elt tg iter : Expr} {ifs : List Expr} {scope : Scope} {own : List (Str × Nat)} {pos spos : Pos} {wi : TI} {g : TG} {tt : TT} {te : TE} (hc : X.calm = true) (hN : X.N.Nodup) (hy : X.N[i]? = some y) (hyl : X.env.scope.names.lookup y = some .local)
    (hsw : swapsWith (.ListComp elt [⟨tg, iter, ifs, 0⟩] scope pos) (some (.Name y py)) spos.line X.env = pure true) (hi : PI X tg iter wi) (ok : BlkOk X.N X.env.scope scope own)
    (hg : ∀ (s : Shared) (H : Hp) (C : Addr) (cl : List (Str × Addr)) (fp : List Addr), PG (X.blk s H scope (compEnvC scope cl C X.env) fp) tg g) (ht : ∀ (s : Shared) (H : Hp) (C : Addr) (cl : List (Str × Addr)) (fp : List Addr), PTs (X.blk s H scope (compEnvC scope cl C X.env) fp) ifs tt)
    (he : ∀ (s : Shared) (H : Hp) (C : Addr) (cl : List (Str × Addr)) (fp : List Addr), PE (X.blk s H scope (compEnvC scope cl C X.env) fp) elt te) (hs : ∀ x, foldedSetIterable iter X.env x = pure x := by intro _; rfl) :
    PS X (.Assign [.Name y py] (.ListComp elt [⟨tg, iter, ifs, 0⟩] scope pos) spos) (tAsg (tLc wi g tt te (own.map (·.2))) (gName i)) := by
  intro pins s σ H D I h
  rw [exec_Assign_Name_used _ _ _ _ hsw]
  refine wpAny_bind (wpAny_standAt (wpAny_bind ?_))
  show wpAny _ X.A (do let _ ← comprehension (.ListComp elt [⟨tg, iter, ifs, 0⟩] scope pos) scope X.env (firstIterPos [⟨tg, iter, ifs, 0⟩] pos) (newList []) false (eval iter X.env) (some (assign (.Name y py) X.env))) _ _ s
  have h : tLc wi g tt te (own.map (·.2)) σ H (fun x H1 => gName i x σ H1 D.nx) := h
  refine wpAny_bind (thn (lc_core (Qf := fun _ s' => SP X pins D .next s') hc hN I hi ok hg ht he hs h fun L C s' m H' I' q hn f => ?_) fun _ s' hq => wpAny_pure (wpAny_pure hq))
  show wpAny _ _ (assign (.Name y py) X.env (.ref L)) _ _ _
  refine wpAny_assign_Name (store_ok2 (v := V.ref L) I' hN hy (.inl hyl) rfl (fun s2 I2 ⟨a, sb, ha⟩ => ?_) (.inr hyl))
  obtain ⟨f0, f1, f2, f3, f4, f5⟩ := f
  have haC : C ≠ a := by
    rcases ha with z | z
    · rw [z]; exact f1
    · exact fun e => f4 y a z e.symm
  refine ⟨m, hn.sameBut sb haC, fun h3 sb3 => ?_⟩
  exact ⟨_, H', I2.turned (t' := s2.toks) (fun b o hb e => (sb3.2 b hb).trans e) f0 f1 f3 f4 f5, q⟩
theorem sw_true {elt : Expr} {gs : List Comprehension} {scope : Scope} {pos py : Pos} {y : Str} {l : Nat} {env : Env} (hk : env.scope.kind = .function) (hy : env.scope.names.lookup y = some .local) (hl : (py.line == pos.line) = true)
    (ha : (scope.names.any fun (n, k) => n == y && (k == .local || k == .cell)) = false) : swapsWith (.ListComp elt gs scope pos) (some (.Name y py)) l env = pure true := by
  have ky : env.kindOf y = some .local := hy
  have hb : env.blockKind = .function := by unfold Env.blockKind; rw [hk]; rfl
  unfold swapsWith
  simp only [hb, ky, ha, Expr.pos, hl]
  rfl
end
theorem lc_list {K : PySem.W.Frag} {a : Addr} {xs : List V} {g : TG} {tt : TT} {te : TE} {vs : List Nat} {σ : St} {H1 : Hp} {D : Addr} {Qd : Hp → Prop} (Pv : Nat → Hp → Prop) (h0 : Pv 0 (upd H1 D (.lst []))) (hl : ∀ i H, i ≤ xs.length → Pv i H → SqL K H a xs)
    (hs : ∀ i x H, xs[i]? = some x → Pv i H → g x (wipe σ vs) H fun σ2 H2 => wipe σ2 vs = wipe σ vs ∧ tt σ2 H2 fun b H3 =>
      if b = true then te σ2 H3 fun y H4 => ∃ acc, H4 D = some (.lst acc) ∧ acc.length < sizeLine ∧ Pv (i + 1) (upd H4 D (.lst (acc ++ [y]))) else Pv (i + 1) H3) (hd : ∀ H, Pv xs.length H → Qd H) :
    ∃ W : Nat → Nat → Hp → Prop, (∃ m, W 0 m (upd H1 D (.lst []))) ∧ ∀ i m H, W i m H →
      ((Itl K a).stop i H ∧ Qd H) ∨ ((Itl K a).go i H ∧ ∃ Nx : Hp → Prop, (∀ H', Nx H' → ∃ m', m' < m ∧ W (i + 1) m' H') ∧ ∀ x H', (Itl K a).yld i H x H' → g x (wipe σ vs) H' fun σ2 H2 => wipe σ2 vs = wipe σ vs ∧ tt σ2 H2 fun b H3 =>
        if b = true then te σ2 H3 fun y H4 => ∃ acc, H4 D = some (.lst acc) ∧ acc.length < sizeLine ∧ Nx (upd H4 D (.lst (acc ++ [y]))) else Nx H3) := by
  refine ⟨fun i m H => m = xs.length - i ∧ i ≤ xs.length ∧ Pv i H, ⟨xs.length, by simp, Nat.zero_le _, h0⟩, ?_⟩
  rintro i m H ⟨rfl, hi, p⟩
  have q := hl i H hi p
  by_cases hlt : i < xs.length
  · refine .inr ⟨⟨xs, xs[i], q, by simp [hlt]⟩, Pv (i + 1), fun H' p' => ⟨xs.length - (i + 1), by omega, rfl, hlt, p'⟩, fun x H' y => ?_⟩
    obtain ⟨e, y⟩ := y
    subst e
    exact hs i x _ (y xs q) p
  · have e : i = xs.length := by omega
    subst e
    exact .inl ⟨⟨xs, q, Nat.le_refl _⟩, hd H p⟩
end L2
namespace L2
open PySem PySem.Spec PyProof.Rows
section
variable {κ : Type} [DecidableEq κ]
def valV (kvs : List (κ × V)) (k : κ) : Option V := (kvs.find? fun kv => decide (kv.1 = k)).map (·.2)
def putK (kvs : List (κ × V)) (k : κ) (v : V) : List (κ × V) :=
  if (kvs.any fun kv => decide (kv.1 = k)) = true then kvs.map (fun kv => if kv.1 = k then (kv.1, v) else kv) else kvs ++ [(k, v)]
def dropK (kvs : List (κ × V)) (k : κ) : List (κ × V) := kvs.filter fun kv => decide (kv.1 ≠ k)
theorem valV_pos {p : κ × V} {r : List (κ × V)} {k : κ} (e : p.1 = k) : valV (p :: r) k = some p.2 := by simp [valV, List.find?_cons, e]
theorem valV_neg {p : κ × V} {r : List (κ × V)} {k : κ} (e : ¬ p.1 = k) : valV (p :: r) k = valV r k := by simp [valV, List.find?_cons, e]
theorem valV_any (k : κ) : ∀ kvs : List (κ × V), (kvs.any fun kv => decide (kv.1 = k)) = (valV kvs k).isSome
  | [] => rfl
  | p :: r => by
    rw [List.any_cons]
    by_cases e : p.1 = k
    · simp only [valV_pos e, decide_eq_true e, Bool.true_or, Option.isSome_some]
    · rw [valV_neg e, decide_eq_false e, Bool.false_or]; exact valV_any k r
theorem length_putK (kvs : List (κ × V)) (k : κ) (v : V) : (putK kvs k v).length ≤ kvs.length + 1 := by
  unfold putK
  split
  · rw [List.length_map]; omega
  · rw [List.length_append, List.length_cons, List.length_nil]; omega
theorem putK_new {kvs : List (κ × V)} {k : κ} (v : V) (h : valV kvs k = none) : putK kvs k v = kvs ++ [(k, v)] := by
  unfold putK
  rw [valV_any, h]
  exact if_neg (by decide)
theorem RelO.isSome_eq {o : Option V} {u : Option Value} (r : RelO o u) : o.isSome = u.isSome := by
  cases o with
  | none => cases u with
    | none => rfl
    | some _ => exact (show False from r).elim
  | some _ => cases u with
    | none => exact (show False from r).elim
    | some _ => rfl
theorem RelO.getD {o : Option V} {u : Option Value} {d : V} {d' : Value} (r : RelO o u) (rd : RelV d d') : RelV (o.getD d) (u.getD d') := by
  cases o with
  | none => cases u with
    | none => exact rd
    | some _ => exact (show False from r).elim
  | some _ => cases u with
    | none => exact (show False from r).elim
    | some _ => exact r
theorem KV.val {kvs : List (κ × V)} {vs : List (κ × Value)} (r : KV kvs vs) (k : κ) : RelO (valV kvs k) (valueAt vs k) := by
  unfold KV at r
  induction r with
  | nil => exact True.intro
  | @cons p q ps qs h t ih =>
    obtain ⟨h1, h2⟩ := h
    by_cases e : p.1 = k
    · have e' : q.1 = k := h1.symm.trans e
      have b : valueAt (q :: qs) k = some q.2 := by simp [valueAt, List.find?_cons, e']
      rw [valV_pos e, b]; exact h2
    · have e' : ¬ q.1 = k := fun z => e (h1.trans z)
      have b : valueAt (q :: qs) k = valueAt qs k := by simp [valueAt, List.find?_cons, e']
      rw [valV_neg e, b]; exact ih
theorem KV.any {kvs : List (κ × V)} {vs : List (κ × Value)} (r : KV kvs vs) (k : κ) : (kvs.any fun kv => decide (kv.1 = k)) = vs.any fun kv => decide (kv.1 = k) := by
  unfold KV at r
  induction r with
  | nil => rfl
  | cons h t ih => rw [List.any_cons, List.any_cons, ih, h.1]
theorem KV.repl {kvs : List (κ × V)} {vs : List (κ × Value)} (r : KV kvs vs) (k : κ) {y : V} {u : Value} (ry : RelV y u) :
    KV (kvs.map fun kv => if kv.1 = k then (kv.1, y) else kv) (vs.map fun kv => if kv.1 = k then (kv.1, u) else kv) := by
  unfold KV at r ⊢
  induction r with
  | nil => exact .nil
  | @cons p q ps qs h t ih =>
    rw [List.map_cons, List.map_cons]
    refine .cons ?_ ih
    obtain ⟨h1, h2⟩ := h
    by_cases e : p.1 = k
    · rw [if_pos e, if_pos (h1.symm.trans e)]; exact ⟨h1, ry⟩
    · rw [if_neg e, if_neg (fun z => e (h1.trans z))]; exact ⟨h1, h2⟩
theorem KV.put {kvs : List (κ × V)} {vs : List (κ × Value)} (r : KV kvs vs) (k : κ) {y : V} {u : Value} (ry : RelV y u) : KV (putK kvs k y) (stored vs k u) := by
  unfold putK stored
  rw [r.any k]
  by_cases e : (vs.any fun kv => decide (kv.1 = k)) = true
  · rw [if_pos e, if_pos e]; exact r.repl k ry
  · rw [if_neg e, if_neg e]; exact Paired.snoc r ⟨rfl, ry⟩
theorem KV.drop {kvs : List (κ × V)} {vs : List (κ × Value)} (r : KV kvs vs) (k : κ) : KV (dropK kvs k) (without vs k) := by
  unfold KV at r ⊢
  unfold dropK without
  induction r with
  | nil => exact .nil
  | @cons p q ps qs h t ih =>
    obtain ⟨h1, h2⟩ := h
    rw [List.filter_cons, List.filter_cons]
    by_cases e : p.1 = k
    · have a : ¬ decide (p.1 ≠ k) = true := by simp [e]
      have b : ¬ decide (q.1 ≠ k) = true := by simp [h1.symm.trans e]
      rw [if_neg a, if_neg b]; exact ih
    · have e' : ¬ q.1 = k := fun z => e (h1.trans z)
      have a : decide (p.1 ≠ k) = true := by simp [e]
      have b : decide (q.1 ≠ k) = true := by simp [e']
      rw [if_pos a, if_pos b]; exact .cons ⟨h1, h2⟩ ih
theorem KV.length {kvs : List (κ × V)} {vs : List (κ × Value)} (r : KV kvs vs) : kvs.length = vs.length := Paired.length r
theorem dropK_le (kvs : List (κ × V)) (k : κ) : (dropK kvs k).length ≤ kvs.length := List.length_filter_le _ _
end
theorem kV_is {P : Program} {w : World} {k : Key} {u : Value} (r : RelV (kV k) u) : (mixKind P w).is k u = true := by
  cases k with
  | inl i => obtain ⟨t, e⟩ := (show ∃ t, u = Value.int i t from r); subst e; exact mixKind_int P w i t
  | inr x => obtain ⟨t, e⟩ := (show ∃ t, u = Value.str x t from r); subst e; exact mixKind_str P w x t
theorem kN_is {P : Program} {w : World} {k : KeyN} {u : Value} (r : RelV (kN k) u) : (nKind P w).is k u = true := by
  cases k with
  | none => obtain rfl : u = Value.none := r; rfl
  | some q => exact kV_is (P := P) (w := w) (k := q) r
theorem items_are {P : Program} {w : World} : ∀ {ks : List KeyN} {us : List Value}, Vals (ks.map kN) us → ItemsAre (nKind P w) ks us
  | [], _, r => by rw [List.map_nil] at r; cases r; exact .nil
  | k :: ks, _, r => by
    rw [List.map_cons] at r
    cases r with
    | cons h t => exact .cons (kN_is h) (items_are t)
abbrev KT (H : Hp) : List (List KeyN × V) → List (List KeyN × Addr × Value) → Prop := Paired fun p q => p.1 = q.1 ∧ H q.2.1 = some (.tup (p.1.map kN)) ∧ RelV p.2 q.2.2
theorem KT.val {H : Hp} {kvs : List (List KeyN × V)} {xs : List (List KeyN × Addr × Value)} (r : KT H kvs xs) (k : List KeyN) : RelO (valV kvs k) ((atKey xs k).map (·.2)) := by
  induction r with
  | nil => exact True.intro
  | @cons p q ps qs h t ih =>
    obtain ⟨h1, _, h2⟩ := h
    by_cases e : p.1 = k
    · have e' : q.1 = k := h1.symm.trans e
      have b : atKey (q :: qs) k = some q.2 := by simp [atKey, List.find?_cons, e']
      rw [valV_pos e, b]; exact h2
    · have e' : ¬ q.1 = k := fun z => e (h1.trans z)
      have b : atKey (q :: qs) k = atKey qs k := by simp [atKey, List.find?_cons, e']
      rw [valV_neg e, b]; exact ih
theorem KT.repl {H : Hp} {kvs : List (List KeyN × V)} {xs : List (List KeyN × Addr × Value)} (r : KT H kvs xs) (k : List KeyN) {y : V} {u : Value} (ry : RelV y u) :
    KT H (kvs.map fun kv => if kv.1 = k then (kv.1, y) else kv) (xs.map (putAt k u)) := by
  induction r with
  | nil => exact .nil
  | @cons p q ps qs h t ih =>
    rw [List.map_cons, List.map_cons]
    refine .cons ?_ ih
    obtain ⟨h1, h2, h3⟩ := h
    unfold putAt
    by_cases e : p.1 = k
    · rw [if_pos e, if_pos (h1.symm.trans e)]; exact ⟨h1, h2, ry⟩
    · rw [if_neg e, if_neg (fun z => e (h1.trans z))]; exact ⟨h1, h2, h3⟩
theorem KT.put {H : Hp} {kvs : List (List KeyN × V)} {xs : List (List KeyN × Addr × Value)} (r : KT H kvs xs) (k : List KeyN) {b : Addr} {y : V} {u : Value} (hb : H b = some (.tup (k.map kN))) (ry : RelV y u) :
    KT H (putK kvs k y) (storedH xs k b u) := by
  have e : (kvs.any fun kv => decide (kv.1 = k)) = (atKey xs k).isSome := by
    rw [valV_any, (r.val k).isSome_eq, Option.isSome_map]
  unfold putK storedH
  rw [e]
  by_cases q : (atKey xs k).isSome = true
  · rw [if_pos q, if_pos q]; exact r.repl k ry
  · rw [if_neg q, if_neg q]; exact Paired.snoc r ⟨rfl, hb, ry⟩
theorem KT.keeps {H H' : Hp} {kvs : List (List KeyN × V)} {xs : List (List KeyN × Addr × Value)} (r : KT H kvs xs) (ht : ∀ b ys, H b = some (.tup ys) → H' b = some (.tup ys)) : KT H' kvs xs :=
  Paired.mapP r fun _ _ z => ⟨z.1, ht _ _ z.2.1, z.2.2⟩
section
variable {P : Program} {w : World} {H : Hp} {h : Heap} {a : Addr}
theorem rd_of {u : HO} (ok : HOk P w H h) (e : Rd H a u) : ObjOk P w H h a u := e.ok ok
theorem dk_rd {kvs : List (Key × V)} (ok : HOk P w H h) (e : Rd H a (.dK kvs)) : kvs.length ≤ sizeLine ∧ (a == sysModules) = false ∧ ∃ vs, KV kvs vs ∧ h.DictOf (mixKind P w) a vs :=
  show ObjOk P w H h a (.dK kvs) from rd_of ok e
theorem dk_of {kvs : List (Key × V)} (ok : HOk P w H h) (e : H a = some (.dK kvs)) : kvs.length ≤ sizeLine ∧ (a == sysModules) = false ∧ ∃ vs, KV kvs vs ∧ h.DictOf (mixKind P w) a vs := dk_rd ok (.inl e)
theorem key_of {ks : List KeyN} (ok : HOk P w H h) (e : H a = some (.tup (ks.map kN))) : (tupleKind (nKind P w)).is h ks a := by
  obtain ⟨_, its, r, o, h1, h2, n, h3⟩ := (show ObjOk P w H h a (.tup (ks.map kN)) from ok a _ e)
  exact ⟨o, its.toArray, n, h1, h2, h3, by simpa using items_are r⟩
theorem dt_rd {kvs : List (List KeyN × V)} (ok : HOk P w H h) (e : Rd H a (.dT kvs)) : kvs.length ≤ sizeLine ∧ (a == sysModules) = false ∧
    ∃ xs, KT H kvs xs ∧ h.DictOfH (tupleKind (nKind P w)) a xs := by
  obtain ⟨z, y, xs, r, o, es, ep, h1, h2, h3, h4, h5⟩ := (show ObjOk P w H h a (.dT kvs) from rd_of ok e)
  refine ⟨z, y, xs, r, o, es, ep, h1, h2, h3, h4, fun x hx => ?_, h5⟩
  have all : ∀ {l : List (List KeyN × V)} {m : List (List KeyN × Addr × Value)}, KT H l m → ∀ x ∈ m, (tupleKind (nKind P w)).is h x.1 x.2.1 := by
    intro l m q
    induction q with
    | nil => intro x hx; exact nomatch hx
    | @cons p q ps qs hq t ih =>
      intro x hx
      rcases List.mem_cons.mp hx with e | hx
      · subst e
        exact key_of ok (by rw [← hq.1]; exact hq.2.1)
      · exact ih x hx
  exact all r x hx
theorem dt_of {kvs : List (List KeyN × V)} (ok : HOk P w H h) (e : H a = some (.dT kvs)) : kvs.length ≤ sizeLine ∧ (a == sysModules) = false ∧
    ∃ xs, KT H kvs xs ∧ h.DictOfH (tupleKind (nKind P w)) a xs := dt_rd ok (.inl e)
end
def DGet (H : Hp) (a : Addr) (y : V) (r : Option V) : Prop :=
  (∃ kvs k, Rd H a (.dK kvs) ∧ y = kV k ∧ r = valV kvs k) ∨ ∃ kvs k b, Rd H a (.dT kvs) ∧ y = .ref b ∧ H b = some (.tup (k.map kN)) ∧ r = valV kvs k
def DPut (H : Hp) (a : Addr) (y v : V) (H' : Hp) : Prop :=
  (∃ kvs k, H a = some (.dK kvs) ∧ y = kV k ∧ kvs.length < sizeLine ∧ H' = upd H a (.dK (putK kvs k v))) ∨
  ∃ kvs k b, H a = some (.dT kvs) ∧ y = .ref b ∧ H b = some (.tup (k.map kN)) ∧ kvs.length < sizeLine ∧ H' = upd H a (.dT (putK kvs k v))
theorem DGet.k {H : Hp} {a : Addr} {kvs : List (Key × V)} {k : Key} (e : H a = some (.dK kvs)) : DGet H a (kV k) (valV kvs k) := .inl ⟨kvs, k, .inl e, rfl, rfl⟩
theorem DGet.t {H : Hp} {a b : Addr} {kvs : List (List KeyN × V)} {k : List KeyN} (e : H a = some (.dT kvs)) (eb : H b = some (.tup (k.map kN))) : DGet H a (.ref b) (valV kvs k) := .inr ⟨kvs, k, b, .inl e, rfl, eb, rfl⟩
theorem DPut.k {H : Hp} {a : Addr} {kvs : List (Key × V)} {k : Key} {v : V} (e : H a = some (.dK kvs)) (hl : kvs.length < sizeLine) : DPut H a (kV k) v (upd H a (.dK (putK kvs k v))) := .inl ⟨kvs, k, e, rfl, hl, rfl⟩
theorem DPut.t {H : Hp} {a b : Addr} {kvs : List (List KeyN × V)} {k : List KeyN} {v : V} (e : H a = some (.dT kvs)) (eb : H b = some (.tup (k.map kN))) (hl : kvs.length < sizeLine) :
    DPut H a (.ref b) v (upd H a (.dT (putK kvs k v))) := .inr ⟨kvs, k, b, e, rfl, eb, hl, rfl⟩
section
variable {X : Cx} {pins : List (Addr × Obj)} {σ : St} {H : Hp} {s : Shared} {a : Addr} {y v : V} {u r : Value} {o : Option V} {A : Around} {E : Value → Shared → Prop}
theorem Inv.big (I : Inv X pins σ H s) : sysModules < s.heap.objs.size := by
  have h : mainGlobals < s.heap.objs.size := (I.mod.glob.keeps I.bk).lt
  exact Nat.lt_trans (by decide) h
theorem d_getItem {Q : Value → Shared → Prop} (hu : A.units + 1 < cLine) (I : Inv X pins σ H s) (g : DGet H a y (some v)) (ry : RelV y u) (h : ∀ w' s', Inv X pins σ H s' → RelV v w' → Q w' s') :
    wpAny (model X.prog X.w) A (getItem (.ref a) u) Q E s := by
  rcases g with ⟨kvs, k, e, ey, l⟩ | ⟨kvs, k, b, e, ey, eb, l⟩
  · subst ey
    obtain ⟨z, hd, vs, rel, dd⟩ := dk_rd I.hok e
    obtain ⟨w', hw, rw'⟩ := RelO.some_of (v := v) (o := valueAt vs k) (by rw [l]; exact rel.val k)
    exact wpAny_getItem_of (kV_is ry) dd.mapOf hw (h w' _ (I.tok _) rw')
  · subst ey
    cases (show u = Value.ref b from ry)
    obtain ⟨z, hd, xs, rel, dd⟩ := dt_rd I.hok e
    obtain ⟨w', hw, rw'⟩ := RelO.some_of (v := v) (o := (atKey xs k).map (·.2)) (by rw [l]; exact rel.val k)
    obtain ⟨p, hp, hp2⟩ := Option.map_eq_some_iff.mp hw
    refine wpAny_getItem_heap (tupleKind_room_in1 hu) (key_of I.hok eb) dd hp ?_
    rw [hp2]
    exact h w' _ (I.tok _) rw'
theorem d_in {Q : Value → Shared → Prop} (hu : A.units + 1 < cLine) (I : Inv X pins σ H s) (g : DGet H a y o) (ry : RelV y u) (h : ∀ s', Inv X pins σ H s' → Q (.bool o.isSome) s') :
    wpAny (model X.prog X.w) A (compareOp .In u (.ref a)) Q E s := by
  rcases g with ⟨kvs, k, e, ey, l⟩ | ⟨kvs, k, b, e, ey, eb, l⟩
  · subst ey
    obtain ⟨z, hd, vs, rel, dd⟩ := dk_rd I.hok e
    refine wpAny_in_of (kV_is ry) hd dd.mapOf ?_
    rw [← (rel.val k).isSome_eq, ← l]
    exact h _ (I.tok _)
  · subst ey
    cases (show u = Value.ref b from ry)
    obtain ⟨z, hd, xs, rel, dd⟩ := dt_rd I.hok e
    refine wpAny_in_heap (tupleKind_room_in1 hu) (key_of I.hok eb) hd dd ?_
    have q := (rel.val k).isSome_eq
    rw [Option.isSome_map] at q
    rw [← q, ← l]
    exact h _ (I.tok _)
theorem d_write {h' : Heap} {t' : Nat} {ob : HO} (I : Inv X pins σ H s) (mu : Mut (H a)) (hs : Heap.SameBut a s.heap h') (he : ∃ q, h'.get? a = some q) (new : ObjOk X.prog X.w (upd H a ob) h' a ob) :
    Inv X pins σ (upd H a ob) { s with heap := h', toks := t' } :=
  I.write (x := a) (e := a) mu (.inl rfl) (fun b q hb z => (hs.2 b hb).trans z) he new
theorem dk_new {P : Program} {w : World} {H' : Hp} {h' : Heap} {kvs : List (Key × V)} {vs : List (Key × Value)} (z : kvs.length ≤ sizeLine) (hd : (a == sysModules) = false) (rel : KV kvs vs) (dd : h'.DictOf (mixKind P w) a vs) :
    ObjOk P w H' h' a (.dK kvs) := ⟨z, hd, vs, rel, dd⟩
theorem d_setItem {H' : Hp} {Q : Unit → Shared → Prop} (hu : A.units + 1 < cLine) (I : Inv X pins σ H s) (g : DPut H a y v H') (ry : RelV y u) (rv : RelV v r) (h : ∀ s', Inv X pins σ H' s' → Q () s') :
    wpAny (model X.prog X.w) A (setItem (.ref a) u r) Q E s := by
  rcases g with ⟨kvs, k, e, ey, l, eH⟩ | ⟨kvs, k, b, e, ey, eb, l, eH⟩
  · subst ey eH
    obtain ⟨z, hd, vs, rel, dd⟩ := dk_of I.hok e
    have hz : vs.length ≤ sizeLine := by rw [← rel.length]; exact z
    have hl : (putK kvs k v).length ≤ sizeLine := by have := length_putK kvs k v; omega
    refine wpAny_setItem_pairs (hsz := hz) (kV_is ry) dd fun h' dd' hs => h _ ?_
    have he : ∃ q, h'.get? a = some q := let ⟨q, _, _, hq, _⟩ := dd'; ⟨q, hq⟩
    exact d_write I (by rw [e]; exact True.intro) hs he (dk_new hl hd (rel.put k rv) dd')
  · subst ey eH
    cases (show u = Value.ref b from ry)
    obtain ⟨z, hd, xs, rel, dd⟩ := dt_of I.hok e
    have hz : xs.length ≤ sizeLine := by rw [← Paired.length rel]; exact z
    have hl : (putK kvs k v).length ≤ sizeLine := by have := length_putK kvs k v; omega
    refine wpAny_setItem_heap (hsz := hz) (tupleKind_room_in1 hu) (key_of I.hok eb) dd fun h' dd' hs => h _ ?_
    obtain ⟨q, es, ep, hq, h2, h3, h4, _, h5⟩ := dd'
    refine d_write I (by rw [e]; exact True.intro) hs ⟨q, hq⟩ ⟨hl, hd, _, (rel.put k eb rv).keeps fun c ys ec => ?_, q, es, ep, hq, h2, h3, h4, h5⟩
    rw [upd_ne (ne_of ec e (fun z => nomatch z))]
    exact ec
end
section
variable {X : Cx} {pins : List (Addr × Obj)} {σ : St} {H : Hp} {s : Shared} {a : Addr} {kvs : List (Key × V)} {k : Key} {u : Value} {A : Around} {E : Value → Shared → Prop}
theorem d_delItem {Q : Unit → Shared → Prop} (I : Inv X pins σ H s) (e : H a = some (.dK kvs)) (ry : RelV (kV k) u) (l : (valV kvs k).isSome = true) (h : ∀ s', Inv X pins σ (upd H a (.dK (dropK kvs k))) s' → Q () s') :
    wpAny (model X.prog X.w) A (delItem (.ref a) u) Q E s := by
  obtain ⟨z, hd, vs, rel, dd⟩ := dk_of I.hok e
  refine wpAny_delItem_slot dd.typeIs (by decide) PySem.F.slot_dict_delitem
    (call_meetsIn PySem.F.slot_dict_delitem dd.typeIs PySem.F.entry_dict_delitem (PySem.F.args_dict_delitem_2 _ _) (meets_dict_delitem_pairs (mixKind X.prog X.w) a (kV_is ry)) ⟨vs, dd, by rw [← rel.length]; exact z, by rw [← (rel.val k).isSome_eq]; exact l, fun h' dd' hs => h _ ?_⟩)
  have he : ∃ q, h'.get? a = some q := let ⟨q, _, _, hq, _⟩ := dd'; ⟨q, hq⟩
  exact d_write I (by rw [e]; exact True.intro) hs he (dk_new (Nat.le_trans (dropK_le kvs k) z) hd (rel.drop k) dd')
theorem d_pop {v : V} {more : List Value} {Q : Value → Shared → Prop} (I : Inv X pins σ H s) (e : H a = some (.dK kvs)) (ry : RelV (kV k) u) (l : valV kvs k = some v) (hm : more = [] ∨ ∃ x, more = [x])
    (h : ∀ w' s', Inv X pins σ (upd H a (.dK (dropK kvs k))) s' → RelV v w' → Q w' s') : wpAny (model X.prog X.w) A (call (.builtin "dict.pop") (.ref a :: u :: more)) Q E s := by
  obtain ⟨z, hd, vs, rel, dd⟩ := dk_of I.hok e
  obtain ⟨w', hw, rw'⟩ := RelO.some_of (v := v) (o := valueAt vs k) (by rw [← l]; exact rel.val k)
  have hp : (keyPart u).isSome = true := by
    cases k with
    | inl i => obtain ⟨t, q⟩ := (show ∃ t, u = Value.int i t from ry); subst q; rfl
    | inr x => obtain ⟨t, q⟩ := (show ∃ t, u = Value.str x t from ry); subst q; rfl
  have ha : argsOk "dict.pop" ⟨.ref a :: u :: more, []⟩ := by
    rcases hm with q | ⟨x, q⟩
    · subst q; exact PySem.F.args_dict_pop_2 _ _
    · subst q; exact PySem.F.args_dict_pop_3 _ _ _
  refine call_meetsIn PySem.F.slot_dict_pop dd.typeIs PySem.F.entry_dict_pop ha (meets_dict_pop_there (mixKind X.prog X.w) a (kV_is ry) more hm hp)
    ⟨vs, w', dd, by rw [← rel.length]; exact z, hw, fun h' dd' hs => h w' _ ?_ rw'⟩
  have he : ∃ q, h'.get? a = some q := let ⟨q, _, _, hq, _⟩ := dd'; ⟨q, hq⟩
  exact d_write I (by rw [e]; exact True.intro) hs he (dk_new (Nat.le_trans (dropK_le kvs k) z) hd (rel.drop k) dd')
end
def NoSl (i : Expr) : Prop := ∀ ov iv, subscripted i false ov iv = operate [ov, iv] (getItem ov iv)
theorem subD_of {prog : Program} {w : World} {A : Around} {E : Value → Shared → Prop} {s : Shared} {env : Env} {value slice : Expr} {pos : Pos} {T id : String} {Q : Value → Shared → Prop}
    (hl : typeLookup (.type T) "__getitem__" = pure (some (.builtin id))) (hs : NoSl slice)
    (h : wpAny (model prog w) A (eval value env) (fun o s₁ => wpAny (model prog w) A (eval slice env) (fun i s₂ => s₂.TypeIs o T ∧ wpAny (model prog w) A (getItem o i) Q E s₂) E s₁) E s) :
    wpAny (model prog w) A (eval (.Subscript value slice pos) env) Q E s := by
  refine Subscript_ (wpAny_mono h (fun o s₁ h₁ => wpAny_mono h₁ (fun i s₂ h₂ => ?_) fun _ _ x => x) fun _ _ x => x)
  obtain ⟨hT, h₂⟩ := h₂
  unfold subscriptTail
  refine wpAny_bind ?_
  rw [getitemInPython_of_ne hT.not_modules]
  refine wpAny_bind (wpAny_specialOf hT hl ?_)
  have fin : wpAny (model prog w) A (subscripted slice false o i) (fun r s₃ => wpAny (model prog w) A (letTemporaryGo value o r >>= fun _ => pure r) Q E s₃) E s₂ := by
    rw [hs o i]
    exact wpAny_operating (wpAny_mono h₂ (fun r s₃ h₃ => wpAny_bind (wpAny_letTemporaryGo (wpAny_pure h₃))) fun _ _ x => x)
  first
    | exact wpAny_pure (wpAny_bind fin)
    | exact wpAny_bind (wpAny_pure (wpAny_bind fin))
    | exact wpAny_bind fin
theorem dict_typeIs {X : Cx} {pins : List (Addr × Obj)} {σ : St} {H : Hp} {s : Shared} {a : Addr} {y : V} {o : Option V} (I : Inv X pins σ H s) (g : DGet H a y o) : s.TypeIs (.ref a) "dict" := by
  rcases g with ⟨kvs, k, e, _, _⟩ | ⟨kvs, k, b, e, _, _, _⟩
  · obtain ⟨_, _, vs, _, dd⟩ := dk_rd I.hok e
    exact dd.typeIs
  · obtain ⟨_, _, xs, _, dd⟩ := dt_rd I.hok e
    exact dd.typeIs
def tDGet (td ty : TE) : TE := fun σ H Q => td σ H fun x H1 => ty σ H1 fun y H2 => ∃ a v, x = .ref a ∧ DGet H2 a y (some v) ∧ Q v H2
def tDIn (ty td : TE) : TE := fun σ H Q => ty σ H fun y H1 => td σ H1 fun x H2 => ∃ a o, x = .ref a ∧ DGet H2 a y o ∧ Q (.bl o.isSome) H2
def sDPut (td ty tv : TE) : TS := fun D σ H => tv σ H fun v H1 => td σ H1 fun x H2 => ty σ H2 fun y H3 => ∃ a H4, x = .ref a ∧ DPut H3 a y v H4 ∧ D.nx σ H4
section
variable {X : Cx} {o i e value : Expr} {pos pos' tpos : Pos} {td ty tv : TE}
theorem pe_dget (hu : X.A.units + 1 < cLine) (ho : PE X o td) (hi : PE X i ty) (hs : NoSl i) : PE X (.Subscript o i pos) (tDGet td ty) := by
  intro pins s σ H Q I h
  refine subD_of PySem.F.slot_dict_getitem.lookup hs (thn (ho pins s σ H _ I h) fun u s1 ⟨x, H1, I1, rx, q1⟩ => thn (hi pins s1 σ H1 _ I1 q1) fun iv s2 ⟨y, H2, I2, ry, a, v, ex, g, q2⟩ => ?_)
  subst ex
  obtain rfl : u = Value.ref a := rx
  exact ⟨dict_typeIs I2 g, d_getItem hu I2 g ry fun w' s3 I3 rw' => ⟨v, H2, I3, rw', q2⟩⟩
theorem pc_din (hu : X.A.units + 1 < cLine) (hi : PE X i ty) (ho : PE X o td) : PC X .In i o (tDIn ty td) := by
  intro pins s σ H Q I h
  refine thn (hi pins s σ H _ I h) fun iv s1 ⟨y, H1, I1, ry, q1⟩ => thn (ho pins s1 σ H1 _ I1 q1) fun u s2 ⟨x, H2, I2, rx, a, ov, ex, g, q2⟩ => ?_
  subst ex
  obtain rfl : u = Value.ref a := rx
  exact d_in hu I2 g ry fun s3 I3 => ⟨.bl ov.isSome, H2, I3, rfl, q2⟩
theorem ps_dput (hu : X.A.units + 1 < cLine) (ho : PE X o td) (hi : PE X i ty) (hv : PE X value tv) (hs : swapsWith value (some (.Subscript o i pos')) pos.line X.env = pure false) :
    PS X (.Assign [.Subscript o i pos'] value pos) (sDPut td ty tv) := by
  intro pins s σ H D I h
  refine wpAny_Assign_Subscript (thn (hv pins s σ H _ I h) fun r s1 ⟨v, H1, I1, rv, q1⟩ => thn (ho pins s1 σ H1 _ I1 q1) fun u s2 ⟨x, H2, I2, rx, q2⟩ => thn (hi pins s2 σ H2 _ I2 q2) fun iv s3 ⟨y, H3, I3, ry, a, H4, ex, g, q3⟩ => ?_) hs
  subst ex
  obtain rfl : u = Value.ref a := rx
  exact d_setItem hu I3 g ry rv fun s4 I4 => ⟨σ, H4, I4, q3⟩
end
theorem dk_empty {P : Program} {w : World} {H : Hp} (h : Heap) (hb : sysModules < h.objs.size) : ObjOk P w H (h.push { cls := .type "dict", data := .dict #[] }) h.objs.size (.dK []) :=
  ⟨Nat.zero_le _, beq_eq_false_iff_ne.mpr (Ne.symm (Nat.ne_of_lt hb)), [], .nil, Heap.DictOf.new h⟩
theorem dt_empty {P : Program} {w : World} {H : Hp} (h : Heap) (hb : sysModules < h.objs.size) : ObjOk P w H (h.push { cls := .type "dict", data := .dict #[] }) h.objs.size (.dT []) :=
  ⟨Nat.zero_le _, beq_eq_false_iff_ne.mpr (Ne.symm (Nat.ne_of_lt hb)), [], .nil, _, #[], 0, Heap.get?_push_size _ rfl, ⟨rfl, rfl, rfl⟩, rfl, rfl, List.nodup_nil⟩
def tDNewK : TE := fun _ H Q => ∀ p, H p = none → Q (.ref p) (upd H p (.dK []))
def tDNewT : TE := fun _ H Q => ∀ p, H p = none → Q (.ref p) (upd H p (.dT []))
section
variable {X : Cx} {pos : Pos}
theorem pe_dnewK : PE X (.Dict [] [] pos) tDNewK := fun pins s σ H Q I h =>
  wpAny_Dict_empty ⟨.ref s.heap.objs.size, _, I.laid (a := s.heap.objs.size) (o := .dK []) (t' := s.toks) (fun _ _ q => Heap.get?_push_of_some _ q) (Nat.le_refl _) (dk_empty s.heap I.big), rfl, h _ (I.hok.fresh (Nat.le_refl _))⟩
theorem pe_dnewT : PE X (.Dict [] [] pos) tDNewT := fun pins s σ H Q I h =>
  wpAny_Dict_empty ⟨.ref s.heap.objs.size, _, I.laid (a := s.heap.objs.size) (o := .dT []) (t' := s.toks) (fun _ _ q => Heap.get?_push_of_some _ q) (Nat.le_refl _) (dt_empty s.heap I.big), rfl, h _ (I.hok.fresh (Nat.le_refl _))⟩
end
def mergeK (kvs more : List (Key × V)) : List (Key × V) := more.foldl (fun acc kv => putK acc kv.1 kv.2) kvs
theorem KV.merge : ∀ {more : List (Key × V)} {rs : List (Key × Value)} {kvs : List (Key × V)} {vs : List (Key × Value)}, KV more rs → KV kvs vs → KV (mergeK kvs more) (merged vs rs) := by
  intro more rs kvs vs r
  unfold KV at r
  induction r generalizing kvs vs with
  | nil => intro q; exact q
  | @cons p q ps qs h t ih =>
    intro r0
    have e : KV (putK kvs p.1 p.2) (stored vs q.1 q.2) := by
      have := r0.put p.1 h.2
      rw [← h.1]; exact this
    exact ih e
theorem length_mergeK : ∀ (more kvs : List (Key × V)), (mergeK kvs more).length ≤ kvs.length + more.length
  | [], kvs => by show kvs.length ≤ kvs.length + 0; omega
  | p :: r, kvs => by
    have h1 := length_mergeK r (putK kvs p.1 p.2)
    have h2 := length_putK kvs p.1 p.2
    show (mergeK (putK kvs p.1 p.2) r).length ≤ _
    rw [List.length_cons]; omega
structure M1 (X : Cx) (o : Expr) (m : Str) (apos : Pos) (e : Expr) (cpos : Pos) : Prop where
  base : attributeBase o m X.env (eval o X.env) = eval o X.env
  few : ((backTo cpos (starEach [e] X.env)).all (fun x => !x.1) && (backToKw cpos (keywordEach [] X.env)).all (fun x => x.1.isSome)
    && decide (([e] : List Expr).length + ([] : List Keyword).length + (if ([] : List Keyword).isEmpty then 0 else 1) < 30)) = true
  line : (apos.endLine == cpos.line) = true
  trees : backTo cpos (starEach [e] X.env) = [(false, eval e X.env)]
structure M2 (X : Cx) (o : Expr) (m : Str) (apos : Pos) (e f : Expr) (cpos : Pos) : Prop where
  base : attributeBase o m X.env (eval o X.env) = eval o X.env
  few : ((backTo cpos (starEach [e, f] X.env)).all (fun x => !x.1) && (backToKw cpos (keywordEach [] X.env)).all (fun x => x.1.isSome)
    && decide (([e, f] : List Expr).length + ([] : List Keyword).length + (if ([] : List Keyword).isEmpty then 0 else 1) < 30)) = true
  line : (apos.endLine == cpos.line) = true
  trees : backTo cpos (starEach [e, f] X.env) = [(false, eval e X.env), (false, eval f X.env)]
def IsD (H : Hp) (a : Addr) : Prop := (∃ kvs, Rd H a (.dK kvs)) ∨ ∃ kvs, Rd H a (.dT kvs)
theorem isD_at {X : Cx} {pins : List (Addr × Obj)} {σ : St} {H : Hp} {s : Shared} {a : Addr} (I : Inv X pins σ H s) (d : IsD H a) :
    s.TypeIs (.ref a) "dict" ∧ (∀ b, Value.ref a = .ref b → ∃ ob, s.heap.get? b = some ob ∧ ob.dict = none) ∧ (a == sysModules) = false := by
  rcases d with ⟨kvs, e⟩ | ⟨kvs, e⟩
  · obtain ⟨_, hd, vs, _, dd⟩ := dk_rd I.hok e
    refine ⟨dd.typeIs, fun b q => ?_, hd⟩
    cases q
    obtain ⟨ob, _, _, h1, h2, _⟩ := dd
    exact ⟨ob, h1, h2.2.1⟩
  · obtain ⟨_, hd, xs, _, dd⟩ := dt_rd I.hok e
    refine ⟨dd.typeIs, fun b q => ?_, hd⟩
    cases q
    obtain ⟨ob, _, _, h1, h2, _⟩ := dd
    exact ⟨ob, h1, h2.2.1⟩
section
variable {X : Cx} {pins : List (Addr × Obj)} {σ : St} {H : Hp} {s : Shared} {a : Addr} {y d : V} {u r : Value} {o : Option V} {A : Around} {E : Value → Shared → Prop}
theorem d_get1 {Q : Value → Shared → Prop} (hu : A.units + 1 < cLine) (I : Inv X pins σ H s) (g : DGet H a y o) (ry : RelV y u) (h : ∀ w' s', Inv X pins σ H s' → RelV (o.getD .non) w' → Q w' s') :
    wpAny (model X.prog X.w) A (call (.builtin "dict.get") [.ref a, u]) Q E s := by
  rcases g with ⟨kvs, k, e, ey, l⟩ | ⟨kvs, k, b, e, ey, eb, l⟩
  · subst ey
    obtain ⟨z, hd, vs, rel, dd⟩ := dk_rd I.hok e
    refine call_meetsIn PySem.F.slot_dict_get dd.typeIs PySem.F.entry_dict_get (PySem.F.args_dict_get_2 _ _) (meets_dict_get (mixKind X.prog X.w) a (kV_is ry) hd) ⟨_, dd.mapOf, h _ _ (I.tok _) ?_⟩
    rw [l]
    exact (rel.val k).getD rfl
  · subst ey
    cases (show u = Value.ref b from ry)
    obtain ⟨z, hd, xs, rel, dd⟩ := dt_rd I.hok e
    refine call_meetsIn PySem.F.slot_dict_get dd.typeIs PySem.F.entry_dict_get (PySem.F.args_dict_get_2 _ _) (meetsH_dict_get (tupleKind (nKind X.prog X.w)) a b hd) ⟨tupleKind_room_in1 hu, k, xs, key_of I.hok eb, dd, h _ _ (I.tok _) ?_⟩
    rw [l]
    exact (rel.val k).getD rfl
theorem d_get2 {Q : Value → Shared → Prop} (hu : A.units + 1 < cLine) (I : Inv X pins σ H s) (g : DGet H a y o) (ry : RelV y u) (rd : RelV d r) (h : ∀ w' s', Inv X pins σ H s' → RelV (o.getD d) w' → Q w' s') :
    wpAny (model X.prog X.w) A (call (.builtin "dict.get") [.ref a, u, r]) Q E s := by
  rcases g with ⟨kvs, k, e, ey, l⟩ | ⟨kvs, k, b, e, ey, eb, l⟩
  · subst ey
    obtain ⟨z, hd, vs, rel, dd⟩ := dk_rd I.hok e
    refine call_meetsIn PySem.F.slot_dict_get dd.typeIs PySem.F.entry_dict_get (PySem.F.args_dict_get_3 _ _ _) (meets_dict_get_default (mixKind X.prog X.w) a (kV_is ry) hd r) ⟨_, dd.mapOf, h _ _ (I.tok _) ?_⟩
    rw [l]
    exact (rel.val k).getD rd
  · subst ey
    cases (show u = Value.ref b from ry)
    obtain ⟨z, hd, xs, rel, dd⟩ := dt_rd I.hok e
    refine call_meetsIn PySem.F.slot_dict_get dd.typeIs PySem.F.entry_dict_get (PySem.F.args_dict_get_3 _ _ _) (meetsH_dict_get_default (tupleKind (nKind X.prog X.w)) a b hd r) ⟨tupleKind_room_in1 hu, k, xs, key_of I.hok eb, dd, h _ _ (I.tok _) ?_⟩
    rw [l]
    exact (rel.val k).getD rd
end
def tDGet1 (td ty : TE) : TE := fun σ H Q => td σ H fun x H1 => ∃ a, x = .ref a ∧ IsD H1 a ∧ ty σ H1 fun y H2 => ∃ o, DGet H2 a y o ∧ Q (o.getD .non) H2
def tDGet2 (td ty tx : TE) : TE := fun σ H Q => td σ H fun x H1 => ∃ a, x = .ref a ∧ IsD H1 a ∧ ty σ H1 fun y H2 => tx σ H2 fun z H3 => ∃ o, DGet H3 a y o ∧ Q (o.getD z) H3
def tDPop1 (td ty : TE) : TE := fun σ H Q => td σ H fun x H1 => ∃ a, x = .ref a ∧ IsD H1 a ∧ ty σ H1 fun y H2 => ∃ kvs k v, H2 a = some (.dK kvs) ∧ y = kV k ∧ valV kvs k = some v ∧ Q v (upd H2 a (.dK (dropK kvs k)))
section
variable {X : Cx} {o e f : Expr} {apos cpos : Pos} {td ty tx : TE}
theorem pe_dget1 (hu : X.A.units + 1 < cLine) (ho : PE X o td) (he : PE X e ty) (m : M1 X o "get" apos e cpos) : PE X (.Call (.Attribute o "get" apos) [e] [] cpos) (tDGet1 td ty) := by
  intro pins s σ H Q I h
  refine wpAny_Call_method m.base m.few m.line PySem.F.plainAttrs_dict PySem.F.slot_dict_get PySem.F.type_dict_get (thn (ho pins s σ H _ I h) fun u s1 ⟨x, H1, I1, rx, a, ex, d, q1⟩ => ?_)
  subst ex
  obtain rfl : u = Value.ref a := rx
  obtain ⟨t1, t2, _⟩ := isD_at I1 d
  refine ⟨t1, t2, ?_⟩
  rw [m.trees]
  refine Calls.callWith_builtin rfl (Calls.evalArgs_plain (Calls.spliced_cons (thn (he pins s1 σ H1 _ I1 q1) fun iv s2 ⟨y, H2, I2, ry, ov, g, q2⟩ => Calls.spliced_nil ?_)))
  exact d_get1 hu I2 g ry fun w' s3 I3 rw' => ⟨_, H2, I3, rw', q2⟩
theorem pe_dget2 (hu : X.A.units + 1 < cLine) (ho : PE X o td) (he : PE X e ty) (hf : PE X f tx) (m : M2 X o "get" apos e f cpos) : PE X (.Call (.Attribute o "get" apos) [e, f] [] cpos) (tDGet2 td ty tx) := by
  intro pins s σ H Q I h
  refine wpAny_Call_method m.base m.few m.line PySem.F.plainAttrs_dict PySem.F.slot_dict_get PySem.F.type_dict_get (thn (ho pins s σ H _ I h) fun u s1 ⟨x, H1, I1, rx, a, ex, d, q1⟩ => ?_)
  subst ex
  obtain rfl : u = Value.ref a := rx
  obtain ⟨t1, t2, _⟩ := isD_at I1 d
  refine ⟨t1, t2, ?_⟩
  rw [m.trees]
  refine Calls.callWith_builtin rfl (Calls.evalArgs_plain (Calls.spliced_cons (thn (he pins s1 σ H1 _ I1 q1) fun iv s2 ⟨y, H2, I2, ry, q2⟩ =>
    Calls.spliced_cons (thn (hf pins s2 σ H2 _ I2 q2) fun fv s3 ⟨z, H3, I3, rz, ov, g, q3⟩ => Calls.spliced_nil ?_))))
  exact d_get2 hu I3 g ry rz fun w' s4 I4 rw' => ⟨_, H3, I4, rw', q3⟩
theorem pe_dpop1 (ho : PE X o td) (he : PE X e ty) (m : M1 X o "pop" apos e cpos) : PE X (.Call (.Attribute o "pop" apos) [e] [] cpos) (tDPop1 td ty) := by
  intro pins s σ H Q I h
  refine wpAny_Call_method m.base m.few m.line PySem.F.plainAttrs_dict PySem.F.slot_dict_pop PySem.F.type_dict_pop (thn (ho pins s σ H _ I h) fun u s1 ⟨x, H1, I1, rx, a, ex, d, q1⟩ => ?_)
  subst ex
  obtain rfl : u = Value.ref a := rx
  obtain ⟨t1, t2, _⟩ := isD_at I1 d
  refine ⟨t1, t2, ?_⟩
  rw [m.trees]
  refine Calls.callWith_builtin rfl (Calls.evalArgs_plain (Calls.spliced_cons (thn (he pins s1 σ H1 _ I1 q1) fun iv s2 ⟨y, H2, I2, ry, kvs, k, v, ea, ey, l, q2⟩ => Calls.spliced_nil ?_)))
  subst ey
  exact d_pop I2 ea ry l (.inl rfl) fun w' s3 I3 rw' => ⟨v, _, I3, rw', q2⟩
end
section
variable {X : Cx} {pins : List (Addr × Obj)} {σ : St} {H : Hp} {s : Shared} {a : Addr} {kvs : List (Key × V)} {A : Around} {E : Value → Shared → Prop}
theorem d_copyOf {Q : Value → Shared → Prop} (I : Inv X pins σ H s) (e : Rd H a (.dK kvs)) (h : ∀ p s', H p = none → Inv X pins σ (upd H p (.dK kvs)) s' → Q (.ref p) s') : wpAny (model X.prog X.w) A (call (.type "dict") [.ref a]) Q E s := by
  obtain ⟨z, hd, vs, rel, dd⟩ := dk_rd I.hok e
  refine kt_call_dict hd dd (by rw [← rel.length]; exact z) fun h' dd' hs => ?_
  refine h _ _ (I.hok.fresh (Nat.le_refl _)) (I.laid (a := s.heap.objs.size) (o := .dK kvs) (t' := s.toks) (fun b q hq => ?_) (Nat.le_refl _) (dk_new z (beq_eq_false_iff_ne.mpr (Ne.symm (Nat.ne_of_lt I.big))) rel dd'))
  exact (hs.2 b (Nat.ne_of_lt (Heap.lt_size hq))).trans (Heap.get?_push_of_some _ hq)
end
end L2
namespace L2
open PySem PySem.Spec PyProof.Rows
theorem boot_reversed5 : bootBuiltins "reversed" = some (.type "reversed") := by decide +kernel
section
variable {X : Cx} {pins : List (Addr × Obj)} {σ : St} {H : Hp} {s : Shared} {h' : Heap}
theorem Inv.turnedL {t' : Nat} {ch : List Addr} (I : Inv X pins σ H s) (k : ∀ b o, b ∉ ch → s.heap.get? b = some o → h'.get? b = some o) (hf : ∀ b ∈ ch, FpOk X pins H b) : Inv X pins σ H { s with heap := h', toks := t' } := by
  have nit : ∀ b u, H b = some u → b ∉ ch := fun b u e z => by
    have q := (hf b z).1
    rw [q] at e; cases e
  refine I.step (g' := s.gens) (d' := s.drawn) (ch := ch) (fun b hb => ⟨(hf b hb).2.2.2.1, (hf b hb).2.1, (hf b hb).2.2.2.2.1, (hf b hb).2.2.2.2.2⟩) (fun b o _ _ hc e _ => k b o hc e) (fun b o _ _ hc e _ => ⟨o.slots, k b o hc e⟩)
    (fun _ _ _ _ n => n) (fun b o hc e => ⟨o, k b o hc e⟩) (fun _ _ e => e) (fun _ _ _ e => e) (fun b ps e => ⟨#[], by rw [e]; simp⟩) (fun m hm => ?_) (fun b u e => ?_) I.bare
  · obtain ⟨o, es, ep, ho, r⟩ := hm
    exact ⟨o, es, ep, k _ o (fun z => (hf _ z).2.1 rfl) ho, r⟩
  · refine (I.hok b u e).stay (fun c v hc q => k c v ?_ q) (fun _ q => q) fun _ _ q => q
    rcases hc with z | z
    · rw [z]; exact nit b u e
    · exact nit c _ z
theorem Inv.turnedNew {t' : Nat} {ch : List Addr} {T : Addr} {ob : HO} (I : Inv X pins σ H s) (k : ∀ b o, b ∉ ch → s.heap.get? b = some o → h'.get? b = some o) (hf : ∀ b ∈ ch, FpOk X pins H b) (hT : s.heap.objs.size ≤ T)
    (new : ObjOk X.prog X.w (upd H T ob) h' T ob) : Inv X pins σ (upd H T ob) { s with heap := h', toks := t' } := by
  have hn : H T = none := I.hok.fresh hT
  have nit : ∀ b u, H b = some u → b ∉ ch := fun b u e z => by
    have q := (hf b z).1
    rw [q] at e; cases e
  refine I.step (g' := s.gens) (d' := s.drawn) (ch := ch) (fun b hb => ⟨(hf b hb).2.2.2.1, (hf b hb).2.1, (hf b hb).2.2.2.2.1, (hf b hb).2.2.2.2.2⟩) (fun b o _ _ hc e _ => k b o hc e) (fun b o _ _ hc e _ => ⟨o.slots, k b o hc e⟩)
    (fun b o _ e n => ?_) (fun b o hc e => ⟨o, k b o hc e⟩) (fun b xs e => ?_) (fun b o u e => ?_) (fun b ps e => ⟨#[], ?_⟩) (fun m hm => ?_) (fun b u e => ?_) I.bare
  · rw [upd_ne (Nat.ne_of_lt (Nat.lt_of_lt_of_le (Heap.lt_size e) hT))]; exact n
  · rw [upd_ne (ne_of_none e hn)]; exact e
  · rw [upd_ne (ne_of_none e hn)]; exact e
  · rw [upd_ne (ne_of_none e hn), e]; simp
  · obtain ⟨o, es, ep, ho, r⟩ := hm
    exact ⟨o, es, ep, k _ o (fun z => (hf _ z).2.1 rfl) ho, r⟩
  · by_cases hb : b = T
    · subst hb
      rw [upd_same] at e
      cases e
      exact new
    · rw [upd_ne hb] at e
      refine (I.hok b u e).stay (fun c v hc q => k c v ?_ q) (fun c q => by rw [upd_ne (ne_of_none q hn)]; exact q) fun c xs q => by rw [upd_ne (ne_of_none q hn)]; exact q
      rcases hc with z | z
      · rw [z]; exact nit b u e
      · exact nit c _ z
theorem Inv.lock {d : Addr} {u : HO} (I : Inv X pins σ H s) (h : H d = some u) (mu : Mut (some u)) : ∃ od, Inv X pins σ (upd H d (.frz od u)) s := by
  have x := I.hok d u h
  have ex : ∃ od, s.heap.get? d = some od := by
    cases u with
    | lst xs => obtain ⟨_, _, _, _, e⟩ := x; exact ⟨_, e⟩
    | dK kvs => obtain ⟨_, _, _, _, o, _, _, e, _⟩ := x; exact ⟨o, e⟩
    | dT kvs => obtain ⟨_, _, _, _, o, _, _, e, _⟩ := x; exact ⟨o, e⟩
    | set S n => obtain ⟨o, _, _, _, e, _⟩ := x; exact ⟨o, e⟩
    | ins C dx fs => obtain ⟨_, _, _, e, _⟩ := x; exact ⟨_, e⟩
    | ext φ => obtain ⟨_, ⟨_, e⟩, _⟩ := x; exact ⟨_, e⟩
    | _ => exact False.elim mu
  obtain ⟨od, e⟩ := ex
  have new : ObjOk X.prog X.w (upd H d (.frz od u)) s.heap d (.frz od u) := by
    refine ⟨e, x.stay (fun b v _ q => q) (fun b q => ?_) fun b xs q => ?_⟩
    · rw [upd_ne (fun z => by rw [z, h] at q; cases q; exact mu)]; exact q
    · rw [upd_ne (fun z => by rw [z, h] at q; cases q; exact mu)]; exact q
  exact ⟨od, I.write (x := d) (e := d) (t' := s.toks) (h' := s.heap) (by rw [h]; exact mu) (.inl rfl) (fun b v _ q => q) ⟨od, e⟩ new⟩
theorem Inv.nofrz {d : Addr} {u : HO} (I : Inv X pins σ H s) (h : H d = some u) (mu : Mut (some u)) : ∀ o' u', X.H₀ d ≠ some (.frz o' u') := fun o' u' e => by
  have q := I.base.frzs d o' u' e
  rw [h] at q
  cases q
  exact mu
theorem Inv.unlock {d : Addr} {od : Obj} {u : HO} (I : Inv X pins σ H s) (h : H d = some (.frz od u)) (hn : ∀ o' u', X.H₀ d ≠ some (.frz o' u')) : Inv X pins σ (upd H d u) s := by
  have neH : ∀ b o, H b = some o → (∀ o' u', o ≠ .frz o' u') → b ≠ d := fun b o e hne z => by
    rw [z, h] at e
    cases e
    exact hne _ _ rfl
  have neN : ∀ b, H b = none → b ≠ d := fun b e z => by rw [z, h] at e; cases e
  refine ⟨I.ok, I.os, I.bare, ⟨I.base.keep, I.base.slot, fun b o e n hx => ?_, I.base.there, fun b xs e => ?_, fun b o x e => ?_, fun b ps e => ?_⟩, I.loc, I.cell, ?_, fun x c e => ?_, fun p hp => ?_, fun b o e => ?_, I.len⟩
  · rw [upd_ne (neN b (I.base.free b o e n hx))]; exact I.base.free b o e n hx
  · have q := I.base.tups b xs e
    rw [upd_ne (neH b _ q (fun _ _ z => nomatch z))]; exact q
  · have q := I.base.frzs b o x e
    rw [upd_ne (fun z => by rw [z] at e; exact hn _ _ e)]; exact q
  · obtain ⟨m, q⟩ := I.base.tbls b ps e
    exact ⟨m, by rw [upd_ne (neH b _ q (fun _ _ z => nomatch z))]; exact q⟩
  · rw [upd_ne (neN _ I.free)]; exact I.free
  · rw [upd_ne (neN c (I.freeC x c e))]; exact I.freeC x c e
  · obtain ⟨e, n, r⟩ := I.pin p hp
    exact ⟨e, by rw [upd_ne (neN _ n)]; exact n, r⟩
  · by_cases hb : b = d
    · rw [hb, upd_same] at e
      cases e
      rw [hb]
      obtain ⟨_, x⟩ := I.hok d _ h
      exact x.stay (fun c v _ q => q) (fun c q => by rw [upd_ne (neH c _ q (fun _ _ z => nomatch z))]; exact q) fun c xs q => by rw [upd_ne (neH c _ q (fun _ _ z => nomatch z))]; exact q
    · rw [upd_ne hb] at e
      exact (I.hok b o e).stay (fun c v _ q => q) (fun c q => by rw [upd_ne (neH c _ q (fun _ _ z => nomatch z))]; exact q) fun c xs q => by rw [upd_ne (neH c _ q (fun _ _ z => nomatch z))]; exact q
end
def tLock (t : TS) : TS := fun D σ H => ∃ d u, H d = some u ∧ Mut (some u) ∧ ∀ od, t ⟨fun σ' H' => H' d = some (.frz od u) ∧ D.nx σ' (upd H' d u), fun v H' => H' d = some (.frz od u) ∧ D.rt v (upd H' d u), fun σ' H' => H' d = some (.frz od u) ∧ D.bk σ' (upd H' d u), fun σ' H' => H' d = some (.frz od u) ∧ D.ct σ' (upd H' d u)⟩ σ (upd H d (.frz od u))
section
variable {X : Cx}
theorem ps_lock {st : Stmt} {t : TS} (h : PS X st t) : PS X st (tLock t) := by
  intro pins s σ H D I hw
  obtain ⟨d, u, hd, mu, hw⟩ := hw
  obtain ⟨od, I1⟩ := I.lock hd mu
  refine thn (h pins s σ _ _ I1 (hw od)) fun f s1 q => ?_
  cases f with
  | next => obtain ⟨σ', H', I2, e, q⟩ := q; exact ⟨σ', _, I2.unlock e (I.nofrz hd mu), q⟩
  | brk => obtain ⟨σ', H', I2, e, q⟩ := q; exact ⟨σ', _, I2.unlock e (I.nofrz hd mu), q⟩
  | cont => obtain ⟨σ', H', I2, e, q⟩ := q; exact ⟨σ', _, I2.unlock e (I.nofrz hd mu), q⟩
  | ret v => obtain ⟨x, σ', H', I2, r, e, q⟩ := q; exact ⟨x, σ', _, I2.unlock e (I.nofrz hd mu), r, q⟩
theorem pi_one {tg : Expr} {pins : List (Addr × Obj)} {σ : St} {H : Hp} {s : Shared} {R : It → Hp → Prop} {J : It} {tn : Nat → Heap → Prop} {tk : Nat} (I : Inv X pins σ H s) (o : Obj)
    (T : Turn X.prog X.w X.K tg J [s.heap.objs.size] s.heap.objs.size tn) (st : tn 0 (s.heap.push o)) (q : R J H) : PIE X pins σ tg R (.ref s.heap.objs.size) { s with heap := s.heap.push o, toks := tk } := by
  refine ⟨s.heap.objs.size, [s.heap.objs.size], tn, J, H, rfl, I.kept fun b ob e => Heap.get?_push_of_some _ e, T, st, fun b hb => ?_, q⟩
  have e : b = s.heap.objs.size := by simpa using hb
  subst e
  exact I.fpOk (Nat.le_refl _) (I.hok.fresh (Nat.le_refl _))
end
def Itv (K : PySem.W.Frag) (a : Addr) (n : Nat) : It :=
  ⟨fun i H => i < n ∧ ∃ (xs : List V) (x : V), SqL K H a xs ∧ xs[n - 1 - i]? = some x, fun i H x H' => H' = H ∧ ∀ xs, SqL K H a xs → xs[n - 1 - i]? = some x, fun i _ => n ≤ i⟩
theorem turn_rev {P : Program} {w : World} {K : PySem.W.Frag} {tg : Expr} (a it : Addr) (n : Nat) : Turn P w K tg (Itv K a n) [it] it (fun i h => i ≤ n ∧ h.IsRevIter it a ((n : Int) - 1 - (i : Nat))) where
  mem := by simp
  obj := fun i h st b hb => by
    have e : b = it := by simpa using hb
    subst e
    obtain ⟨_, o, e, c, d⟩ := st
    exact ⟨o, e, fun v z => by rw [d] at z; cases z⟩
  keep := fun i h h' st k => ⟨st.1, st.2.at fun o e => k it (by simp) o e⟩
  item := by
    intro X hP hw hK hc i pins s σ H E I hf st hg
    subst hP hw hK
    obtain ⟨hin, xs, x, hq, hx⟩ := hg
    obtain ⟨its, rv, p, hz⟩ := I.list hq
    obtain ⟨u, hu, ru⟩ := rv.get hx
    obtain ⟨f0, f1, f2, f3, f4, f5⟩ := hf it (by simp)
    obtain ⟨_, hit⟩ := st
    have e1 : (n : Int) - 1 - ((i : Nat) : Int) = ((n - 1 - i : Nat) : Int) := by omega
    rw [e1] at hit
    refine wpAny_pyNext_rev_item hit p.isList (x := u) (by simpa using hu) fun h' st' sb => ?_
    have e2 : ((n - 1 - i : Nat) : Int) - 1 = (n : Int) - 1 - ((i + 1 : Nat) : Int) := by omega
    rw [e2] at st'
    have I1 : Inv X pins σ H { s with heap := h' } := I.turned (t' := s.toks) (fun b o hb e => (sb.2 b hb).trans e) f0 f1 f3 f4 f5
    obtain ⟨o, e, c, d⟩ := id st'
    exact ⟨u, rfl, go_of (s := { s with heap := h' }) e c d (by decide) ⟨x, H, I1, ru, ⟨rfl, fun ys hy => by rw [I.list_inj hy hq]; exact hx⟩, ⟨hin, st'⟩, fun b hb => (hf b hb).1⟩⟩
  done := by
    intro X hP hw hK hc i pins s σ H E I hf st hg
    subst hP hw hK
    obtain ⟨f0, f1, f2, f3, f4, f5⟩ := hf it (by simp)
    obtain ⟨hin, hit⟩ := st
    have hge : n ≤ i := hg
    have e1 : (n : Int) - 1 - ((i : Nat) : Int) = -1 := by omega
    rw [e1] at hit
    exact wpAny_pyNext_rev_end (I.ok.hd hc) hit fun h' eb => ⟨rfl, I.turned (t' := s.toks) (fun b o hb e => eb b o hb e) f0 f1 f3 f4 f5⟩
  self := fun A i s Q E st h => wpAny_pyIter_revIter st.2 h
def iRev (K : PySem.W.Frag) (ta : TA) : TI := fun σ H R => ta σ H fun vs H1 => ∃ (a : Addr) (xs : List V), vs = [.ref a] ∧ SqL K H1 a xs ∧ R (Itv K a xs.length) H1
section
variable {X : Cx} {tg : Expr}
theorem pi_reversed {e : Expr} {ta : TA} {p pos : Pos} (hg : Gl X "reversed") (hm : X.mg "reversed" = none) (ha : PA X [e] ta) (hs : starEach [e] X.env = [(false, eval e X.env)] := by rfl) : PI X tg (.Call (.Name "reversed" p) [e] [] pos) (iRev X.K ta) := by
  intro pins s σ H R I h
  refine Call_ (ld_blt I hg hm boot_reversed5 (PyProof.Rows.callWith_type1 (thn (ha pos pins s σ H _ I h) fun us s1 ⟨vs, H1, I1, r1, q1⟩ => ?_) hs rfl))
  obtain ⟨a, xs, e, hq, q⟩ := q1
  subst e
  cases r1 with
  | cons r rr =>
    cases rr
    cases r
    obtain ⟨its, rv, p', hz⟩ := I1.list hq
    have hl := rv.length
    have e1 : ((its.toArray.size : Nat) : Int) - 1 = (xs.length : Int) - 1 - ((0 : Nat) : Int) := by simp only [List.size_toArray]; omega
    refine call_reversed_list p'.isList (wpAny_pyIter_revIter (l := a) (i := ((its.toArray.size : Nat) : Int) - 1) ⟨_, Heap.get?_push_size _ rfl, rfl, rfl⟩ ?_)
    refine pi_one (tk := s1.toks) I1 _ (turn_rev a _ xs.length) ⟨Nat.zero_le _, ?_⟩ q
    rw [← e1]
    exact ⟨_, Heap.get?_push_size _ rfl, rfl, rfl⟩
end
def Its (x : Str) : It := ⟨fun i _ => i < x.cps.size, fun i H v H' => H' = H ∧ ∃ c, x.cps[i]? = some c ∧ v = .str ⟨#[c]⟩, fun i _ => x.cps.size ≤ i⟩
theorem turn_str {P : Program} {w : World} {K : PySem.W.Frag} {tg : Expr} (it : Addr) (x : Str) (t : Tok) (ty : String) (hty : ty = "str_ascii_iterator" ∨ ty = "str_iterator") :
    Turn P w K tg (Its x) [it] it (fun i h => h.IsStrIter it ty x t i) where
  mem := by simp
  obj := fun i h st b hb => by
    have e : b = it := by simpa using hb
    subst e
    obtain ⟨o, e, c, d⟩ := st
    exact ⟨o, e, fun v z => by rw [d] at z; cases z⟩
  keep := fun i h h' st k => let ⟨o, ho, r⟩ := st; ⟨o, k it (by simp) o ho, r⟩
  item := by
    intro X hP hw hK hc i pins s σ H E I hf st hg
    subst hP hw hK
    obtain ⟨f0, f1, f2, f3, f4, f5⟩ := hf it (by simp)
    have W : Walks X.prog X.w X.A it [it] [it] x.cps.size (SignAt x) (fun i h => h.IsStrIter it ty x t i) := by
      rcases hty with e | e
      · rw [e]; exact Walks.strAscii (I.ok.hd hc) it x t
      · rw [e]; exact Walks.strWide (I.ok.hd hc) it x t
    have hno : ["enumerate", "zip", "dict_itemiterator", "dict_reverseitemiterator", "odict_iterator", "itertools.zip_longest", "itertools.pairwise"].contains ty = false := by
      rcases hty with e | e
      · rw [e]; decide
      · rw [e]; decide
    refine W.item i s _ _ hg st fun v h' tk hv st' kk => ?_
    obtain ⟨c, u, hcx, rfl⟩ := hv
    have I1 : Inv X pins σ H { s with heap := h', toks := tk } := I.turned (fun b o hb e => kk b o (by simpa using hb) e) f0 f1 f3 f4 f5
    obtain ⟨oi, e, cc, dd⟩ := id st'
    exact ⟨_, rfl, go_of (s := { s with heap := h', toks := tk }) e cc dd hno ⟨.str ⟨#[c]⟩, H, I1, ⟨u, rfl⟩, ⟨rfl, c, hcx, rfl⟩, st', fun b hb => (hf b hb).1⟩⟩
  done := by
    intro X hP hw hK hc i pins s σ H E I hf st hg
    subst hP hw hK
    obtain ⟨f0, f1, f2, f3, f4, f5⟩ := hf it (by simp)
    have hx : x.cps[i]? = none := Array.getElem?_eq_none hg
    rcases hty with e | e
    · rw [e] at st
      exact wpAny_pyNext_ascii_end (I.ok.hd hc) st hx fun h' eb => ⟨rfl, I.turned (t' := s.toks) (fun b o hb e => eb b o hb e) f0 f1 f3 f4 f5⟩
    · rw [e] at st
      exact wpAny_pyNext_wide_end (I.ok.hd hc) st hx fun h' eb => ⟨rfl, I.turned (t' := s.toks) (fun b o hb e => eb b o hb e) f0 f1 f3 f4 f5⟩
  self := fun A i s Q E st h => by
    rcases hty with e | e
    · rw [e] at st; exact wpAny_pyIter_striter_ascii st h
    · rw [e] at st; exact wpAny_pyIter_striter_wide st h
def iStr (te : TE) : TI := fun σ H R => te σ H fun v H1 => ∃ x, v = .str x ∧ R (Its x) H1
theorem pi_str {X : Cx} {tg e : Expr} {te : TE} (he : PE X e te) : PI X tg e (iStr te) := by
  intro pins s σ H R I h
  refine thn (he pins s σ H _ I h) fun v s1 ⟨y, H1, I1, r1, x, ex, q⟩ => ?_
  subst ex
  obtain ⟨t, rfl⟩ := r1
  cases ha : x.cps.all (· < 128)
  · exact wpAny_pyIter_wide ha (pi_one (tk := s1.toks) I1 _ (turn_str _ x t "str_iterator" (.inr rfl)) ⟨_, Heap.get?_push_size _ rfl, rfl, rfl⟩ q)
  · exact wpAny_pyIter_ascii ha (pi_one (tk := s1.toks) I1 _ (turn_str _ x t "str_ascii_iterator" (.inl rfl)) ⟨_, Heap.get?_push_size _ rfl, rfl, rfl⟩ q)
section
variable {prog : Program} {w : World} {A : Around} {E : Value → Shared → Prop} {s : Shared}
theorem iter_keys {d : Addr} {o : Obj} {es : Array DictEntry} {ep : Nat} {Q : Value → Shared → Prop} (hd : (d == sysModules) = false) (ho : s.heap.get? d = some o) (hc : o.ExactDict) (hdat : o.data = .dict es ep)
    (hQ : Q (.ref s.heap.objs.size) { s with heap := s.heap.push { cls := .type "dict_keyiterator", data := .fields #[.ref d, .int 0 0, .int es.size 0, .int ep 0] } }) :
    wpAny (model prog w) A (pyIter (.ref d)) Q E s := by
  have hT : s.TypeIs (.ref d) "dict" := ⟨o, ho, hc.1⟩
  refine wpAny_pyIter_slot hT F.slot_dict_iter (wpAny_call_entry F.slot_dict_iter hT F.entry_dict_iter ?_ (F.args_dict_iter_1 _))
  unfold Builtin.«dict.__iter__»
  refine wpAny_bind ?_
  unfold Builtin.Dict.dictSlotNone
  refine wpAny_bind (wpAny_notOrdered_dict hT ?_)
  show wpAny _ _ (pure (Value.ref d)) _ _ s
  refine wpAny_pure ?_
  show wpAny _ _ (Builtin.Dict.showsAll d >>= _) _ _ s
  unfold Builtin.Dict.showsAll
  rw [if_neg (by rw [hd]; exact Bool.false_ne_true)]
  refine wpAny_bind (wpAny_pure ?_)
  refine wpAny_bind (wpAny_dictEntries ho hdat ?_)
  refine wpAny_bind (wpAny_dictEpoch ho hdat ?_)
  refine wpAny_bind (wpAny_newObj_type (wpAny_pure ⟨_, rfl, "dict_keyiterator", _, ⟨_, Heap.get?_push_size _ rfl, rfl⟩, F.slot_dict_keyiterator_next.lookup, ?_⟩))
  simpa [rawInt] using hQ
theorem next_key_item {it d : Addr} {i n ep : Nat} {od : Obj} {es : Array DictEntry} {en : DictEntry} {Q : Option Value → Shared → Prop} (hit : s.heap.IsKeyIter it d i n ep) (hod : s.heap.get? d = some od) (hdd : od.data = .dict es ep)
    (hsz : es.size = n) (hx : es[i]? = some en) (hQ : ∀ h', h'.IsKeyIter it d (i + 1) n ep → Heap.SameBut it s.heap h' → Q (some en.key) { s with heap := h' }) : wpAny (model prog w) A (pyNext (.ref it)) Q E s := by
  obtain ⟨o, ho, hc, hd⟩ := id hit
  unfold pyNext
  refine wpAny_bind (wpAny_attempt (wpAny_callSpecial?_slot (name := Str.ofString "__next__") hit.typeIs F.slot_dict_keyiterator_next
    (wpAny_call_entry F.slot_dict_keyiterator_next hit.typeIs F.entry_dict_keyiterator_next ?_ (F.args_dict_keyiterator_next_1 _))))
  refine wpAny_bind (wpAny_pure ?_)
  refine wpAny_bind ?_
  refine wpAny_bind ?_
  first | refine wpAny_bind (wpAny_typeNameOfWhole_keyiter hit.typeIs (wpAny_pure ?_)) | refine wpAny_bind (wpAny_typeNameOf_keyiter hit.typeIs (wpAny_pure ?_))
  refine wpAny_bind (wpAny_fieldsOf ho hd ?_)
  have hown : Builtin.Dict_items.ownsTuple "dict_keyiterator" = false := by decide
  simp only [hown, Bool.false_eq_true, if_false]
  show wpAny _ _ (if (Value.ref d == Value.none) = true then _ else _) _ _ s
  rw [if_neg (show ¬ ((Value.ref d == Value.none) = true) from Bool.false_ne_true)]
  refine wpAny_bind (wpAny_pure ?_)
  refine wpAny_bind (wpAny_dictEntries hod hdd ?_)
  rw [if_neg (by rw [hsz]; simp)]
  refine wpAny_bind (wpAny_pure ?_)
  refine wpAny_bind (wpAny_dictEpoch hod hdd ?_)
  rw [if_neg (by simp)]
  refine wpAny_pure ?_
  obtain ⟨hlt', hen⟩ := Array.getElem?_eq_some_iff.mp hx
  simp only [show ¬ ((i : Int) < 0) from by omega, if_false, Int.toNat_natCast, Array.getElem?_eq_getElem hlt']
  refine wpAny_bind ?_
  first | refine wpAny_bind (wpAny_typeNameOfWhole_keyiter hit.typeIs (wpAny_pure ?_)) | refine wpAny_bind (wpAny_typeNameOf_keyiter hit.typeIs (wpAny_pure ?_))
  refine wpAny_bind (wpAny_isOneOf_keyiter hit.typeIs ?_)
  show wpAny _ _ (setField (.ref it) 1 (rawInt ((i : Int) + 1)) >>= _) _ _ s
  refine wpAny_bind (wpAny_setField ho hd (by simp) ?_)
  have hit' : (s.heap.update it (Obj.mapFields (·.setIfInBounds 1 (rawInt ((i : Int) + 1))))).IsKeyIter it d (i + 1) n ep :=
    ⟨_, Heap.get?_update_self _ ho (Obj.isFreed_of_fields (Obj.data_mapFields hd _)), (Obj.cls_mapFields ..).trans hc, by rw [Obj.data_mapFields hd]; simp [rawInt]⟩
  refine wpAny_bind (wpAny_holding ?_)
  refine wpAny_bind (wpAny_isOneOf_keyiter (s := { s with heap := s.heap.update it (Obj.mapFields (·.setIfInBounds 1 (rawInt ((i : Int) + 1)))) }) hit'.typeIs ?_)
  show wpAny _ _ (pure es[i].key) _ _ _
  rw [hen]
  exact wpAny_pure (wpAny_pure ⟨_, rfl, wpAny_pure (hQ _ hit' (Heap.SameBut.update ..))⟩)
theorem next_key_end {it d : Addr} {i n ep : Nat} {od : Obj} {es : Array DictEntry} {Q : Option Value → Shared → Prop} (hh : A.handled = none) (hit : s.heap.IsKeyIter it d i n ep) (hod : s.heap.get? d = some od) (hdd : od.data = .dict es ep)
    (hsz : es.size = n) (hge : n ≤ i) (hQ : ∀ h', Heap.ExtBut it s.heap h' → Q none { s with heap := h' }) : wpAny (model prog w) A (pyNext (.ref it)) Q E s := by
  obtain ⟨o, ho, hc, hd⟩ := id hit
  unfold pyNext
  refine wpAny_bind (wpAny_attempt (wpAny_callSpecial?_slot (name := Str.ofString "__next__") hit.typeIs F.slot_dict_keyiterator_next
    (wpAny_call_entry F.slot_dict_keyiterator_next hit.typeIs F.entry_dict_keyiterator_next ?_ (F.args_dict_keyiterator_next_1 _))))
  refine wpAny_bind (wpAny_pure ?_)
  refine wpAny_bind ?_
  refine wpAny_bind ?_
  first | refine wpAny_bind (wpAny_typeNameOfWhole_keyiter hit.typeIs (wpAny_pure ?_)) | refine wpAny_bind (wpAny_typeNameOf_keyiter hit.typeIs (wpAny_pure ?_))
  refine wpAny_bind (wpAny_fieldsOf ho hd ?_)
  have hown : Builtin.Dict_items.ownsTuple "dict_keyiterator" = false := by decide
  simp only [hown, Bool.false_eq_true, if_false]
  show wpAny _ _ (if (Value.ref d == Value.none) = true then _ else _) _ _ s
  rw [if_neg (show ¬ ((Value.ref d == Value.none) = true) from Bool.false_ne_true)]
  refine wpAny_bind (wpAny_pure ?_)
  refine wpAny_bind (wpAny_dictEntries hod hdd ?_)
  rw [if_neg (by rw [hsz]; simp)]
  refine wpAny_bind (wpAny_pure ?_)
  refine wpAny_bind (wpAny_dictEpoch hod hdd ?_)
  rw [if_neg (by simp)]
  refine wpAny_pure ?_
  have hge' : es.size ≤ i := by rw [hsz]; exact hge
  simp only [show ¬ ((i : Int) < 0) from by omega, if_false, Int.toNat_natCast, Array.getElem?_eq_none hge']
  refine wpAny_bind ?_
  first | refine wpAny_bind (wpAny_typeNameOfWhole_keyiter hit.typeIs (wpAny_pure ?_)) | refine wpAny_bind (wpAny_typeNameOf_keyiter hit.typeIs (wpAny_pure ?_))
  show wpAny _ _ (setField (.ref it) 0 .none >>= _) _ _ s
  refine wpAny_bind (wpAny_setField ho hd (by simp) ?_)
  show wpAny _ _ (newExc (.type "StopIteration") [] >>= _) _ _ _
  refine wpAny_bind ?_
  simp only [newExc, newTuple]
  refine wpAny_bind (wpAny_newObj_type ?_ (by size_fits))
  refine wpAny_bind (m := firstArgMember _ _) (wpAny_of_eq (a := Value.none) (by first | rfl | (simp only [firstArgMember]; rfl)) ?_)
  refine wpAny_newObj_type ?_ (by size_fits)
  simp only [raiseNew]
  refine wpAny_bind (wpAny_handled ?_)
  rw [show A.in1.handled = none from hh]
  refine wpAny_bind (wpAny_pure (wpAny_throw ?_))
  refine wpAny_bind (wpAny_isInstance (T := "StopIteration") (b := true) ⟨_, Heap.get?_push_size _ rfl, rfl⟩ isSubtype_stop ?_)
  exact wpAny_pure (hQ _ (((Heap.SameBut.update ..).extBut.push _).push _))
end
theorem kv_get {κ : Type} {kvs : List (κ × V)} {vs : List (κ × Value)} (h : KV kvs vs) : ∀ {i : Nat} {k : κ} {v : V}, kvs[i]? = some (k, v) → ∃ u, vs[i]? = some (k, u) ∧ RelV v u := by
  unfold KV at h
  induction h with
  | nil => intro i k v e; simp at e
  | @cons a b l₁ l₂ r t ih =>
    intro i k v e
    cases i with
    | zero =>
      simp only [List.getElem?_cons_zero, Option.some.injEq] at e
      subst e
      refine ⟨b.2, ?_, r.2⟩
      simp only [List.getElem?_cons_zero]
      exact congrArg some (Prod.ext r.1.symm rfl)
    | succ j =>
      simp only [List.getElem?_cons_succ] at e ⊢
      exact ih e
theorem paired_get {α β : Type} {G : α → β → Prop} {l₁ : List α} {l₂ : List β} (h : Paired G l₁ l₂) : ∀ {i : Nat} {a : α}, l₁[i]? = some a → ∃ b, l₂[i]? = some b ∧ G a b := by
  induction h with
  | nil => intro i a e; simp at e
  | @cons a b l₁ l₂ r t ih =>
    intro i a' e
    cases i with
    | zero =>
      simp only [List.getElem?_cons_zero, Option.some.injEq] at e
      subst e
      exact ⟨b, rfl, r⟩
    | succ j =>
      simp only [List.getElem?_cons_succ] at e ⊢
      exact ih e
theorem relV_key {k : Key} {u : Value} (h : keyIs k u = true) : RelV (kV k) u := by
  rcases keyIs_shape h with ⟨i, t, rfl, rfl⟩ | ⟨x, t, rfl, rfl⟩
  · exact ⟨t, rfl⟩
  · exact ⟨t, rfl⟩
section
variable {X : Cx} {pins : List (Addr × Obj)} {σ : St} {H : Hp} {s : Shared} {d : Addr} {o : Obj}
theorem Inv.frzK {kvs : List (Key × V)} (I : Inv X pins σ H s) (h : H d = some (.frz o (.dK kvs))) :
    (d == sysModules) = false ∧ s.heap.get? d = some o ∧ o.ExactDict ∧ ∃ (es : Array DictEntry) (ep : Nat) (vs : List (Key × Value)), o.data = .dict es ep ∧ es.size = kvs.length ∧ KV kvs vs ∧ s.heap.DictAt (mixKind X.prog X.w) d vs ep := by
  obtain ⟨hd, z, hs, vs, kv, o', es, ep, ho, hx, hdt, r⟩ := I.hok d _ h
  rw [hd] at ho
  cases ho
  refine ⟨hs, hd, hx, es, ep, vs, hdt, ?_, kv, o, es, hd, hx, hdt, r⟩
  have l1 := r.2.1.length
  have l2 : kvs.length = vs.length := Paired.length kv
  rw [Array.length_toList] at l1
  omega
theorem Inv.frzT {kvs : List (List KeyN × V)} (I : Inv X pins σ H s) (h : H d = some (.frz o (.dT kvs))) :
    (d == sysModules) = false ∧ s.heap.get? d = some o ∧ o.ExactDict ∧ ∃ (es : Array DictEntry) (ep : Nat), o.data = .dict es ep ∧ es.size = kvs.length ∧
      ∀ (i : Nat) (k : List KeyN) (v : V), kvs[i]? = some (k, v) → ∃ (en : DictEntry) (q : Addr), es[i]? = some en ∧ en.key = .ref q ∧ H q = some (.tup (k.map kN)) := by
  obtain ⟨hd, z, hs, xs, pr, o', es, ep, ho, hx, hdt, he, _⟩ := I.hok d _ h
  rw [hd] at ho
  cases ho
  refine ⟨hs, hd, hx, es, ep, hdt, ?_, fun i k v e => ?_⟩
  · have l1 : es.size = xs.length := size_of_entries he
    have l2 : kvs.length = xs.length := Paired.length pr
    omega
  · obtain ⟨b, hb, e1, e2, _⟩ := paired_get pr e
    have q := entry_at he i
    rw [hb] at q
    exact ⟨_, b.2.1, q, rfl, e2⟩
end
def Itk (d : Addr) (o : Obj) (kvs : List (Key × V)) : It :=
  ⟨fun i H => H d = some (.frz o (.dK kvs)) ∧ i < kvs.length, fun i H x H' => H' = H ∧ ∃ k v, kvs[i]? = some (k, v) ∧ x = kV k, fun i H => H d = some (.frz o (.dK kvs)) ∧ kvs.length ≤ i⟩
def Itkt (d : Addr) (o : Obj) (kvs : List (List KeyN × V)) : It :=
  ⟨fun i H => H d = some (.frz o (.dT kvs)) ∧ i < kvs.length, fun i H x H' => H' = H ∧ ∃ (k : List KeyN) (v : V) (q : Addr), kvs[i]? = some (k, v) ∧ x = .ref q ∧ H q = some (.tup (k.map kN)), fun i H => H d = some (.frz o (.dT kvs)) ∧ kvs.length ≤ i⟩
theorem dict_ep {o : Obj} {es es' : Array DictEntry} {ep ep' : Nat} (h : o.data = .dict es ep) (h' : o.data = .dict es' ep') : es' = es ∧ ep' = ep := by
  rw [h] at h'
  cases h'
  exact ⟨rfl, rfl⟩
section
variable {P : Program} {w : World} {K : PySem.W.Frag} {tg : Expr} {d : Addr} {o : Obj} {es : Array DictEntry} {ep : Nat}
theorem turn_keys {kvs : List (Key × V)} (it : Addr) (hod : o.data = .dict es ep) : Turn P w K tg (Itk d o kvs) [it] it (fun i h => h.IsKeyIter it d i kvs.length ep) where
  mem := by simp
  obj := fun i h st b hb => by
    have e : b = it := by simpa using hb
    subst e
    obtain ⟨oi, e, c, dd⟩ := st
    exact ⟨oi, e, fun v z => by rw [dd] at z; cases z⟩
  keep := fun i h h' st k => st.at fun oi e => k it (by simp) oi e
  item := by
    intro X hP hw hK hc i pins s σ H E I hf st hg
    subst hP hw hK
    obtain ⟨hd, hi⟩ := hg
    obtain ⟨f0, f1, f2, f3, f4, f5⟩ := hf it (by simp)
    obtain ⟨hs, hgd, hx, es', ep', vs, hdt, hsz, kv, hm⟩ := I.frzK hd
    obtain ⟨rfl, rfl⟩ := dict_ep hod hdt
    obtain ⟨⟨k, v⟩, hkv⟩ : ∃ p, kvs[i]? = some p := ⟨kvs[i], List.getElem?_eq_getElem hi⟩
    obtain ⟨u, hu, ru⟩ := kv_get kv hkv
    have hl : kvs.length = vs.length := Paired.length kv
    rw [hl] at st
    refine wpAny_pyNext_dict_item st hm hu fun key h' hkey st' sb => ?_
    have I1 : Inv X pins σ H { s with heap := h' } := I.turned (t' := s.toks) (fun b ob hb e => (sb.2 b hb).trans e) f0 f1 f3 f4 f5
    obtain ⟨oi, e, c, dd⟩ := id st'
    refine ⟨key, rfl, go_of (s := { s with heap := h' }) e c dd (by decide) ⟨kV k, H, I1, relV_key (show keyIs k key = true from hkey), ⟨rfl, k, v, hkv, rfl⟩, ?_, fun b hb => (hf b hb).1⟩⟩
    show h'.IsKeyIter it d (i + 1) kvs.length _
    rw [hl]
    exact st'
  done := by
    intro X hP hw hK hc i pins s σ H E I hf st hg
    subst hP hw hK
    obtain ⟨hd, hi⟩ := hg
    obtain ⟨f0, f1, f2, f3, f4, f5⟩ := hf it (by simp)
    obtain ⟨hs, hgd, hx, es', ep', vs, hdt, hsz, kv, hm⟩ := I.frzK hd
    obtain ⟨rfl, rfl⟩ := dict_ep hod hdt
    exact next_key_end (I.ok.hd hc) st hgd hdt hsz hi fun h' eb => ⟨rfl, I.turned (t' := s.toks) (fun b ob hb e => eb b ob hb e) f0 f1 f3 f4 f5⟩
  self := fun A i s Q E st h => wpAny_pyIter_keyiter st h
theorem turn_keysT {kvs : List (List KeyN × V)} (it : Addr) (hod : o.data = .dict es ep) : Turn P w K tg (Itkt d o kvs) [it] it (fun i h => h.IsKeyIter it d i kvs.length ep) where
  mem := by simp
  obj := fun i h st b hb => by
    have e : b = it := by simpa using hb
    subst e
    obtain ⟨oi, e, c, dd⟩ := st
    exact ⟨oi, e, fun v z => by rw [dd] at z; cases z⟩
  keep := fun i h h' st k => st.at fun oi e => k it (by simp) oi e
  item := by
    intro X hP hw hK hc i pins s σ H E I hf st hg
    subst hP hw hK
    obtain ⟨hd, hi⟩ := hg
    obtain ⟨f0, f1, f2, f3, f4, f5⟩ := hf it (by simp)
    obtain ⟨hs, hgd, hx, es', ep', hdt, hsz, ent⟩ := I.frzT hd
    obtain ⟨rfl, rfl⟩ := dict_ep hod hdt
    obtain ⟨⟨k, v⟩, hkv⟩ : ∃ p, kvs[i]? = some p := ⟨kvs[i], List.getElem?_eq_getElem hi⟩
    obtain ⟨en, q, hen, hkey, hq⟩ := ent i k v hkv
    refine next_key_item st hgd hdt hsz hen fun h' st' sb => ?_
    have I1 : Inv X pins σ H { s with heap := h' } := I.turned (t' := s.toks) (fun b ob hb e => (sb.2 b hb).trans e) f0 f1 f3 f4 f5
    obtain ⟨oi, e, c, dd⟩ := id st'
    exact ⟨en.key, rfl, go_of (s := { s with heap := h' }) e c dd (by decide) ⟨.ref q, H, I1, hkey, ⟨rfl, k, v, q, hkv, rfl, hq⟩, st', fun b hb => (hf b hb).1⟩⟩
  done := by
    intro X hP hw hK hc i pins s σ H E I hf st hg
    subst hP hw hK
    obtain ⟨hd, hi⟩ := hg
    obtain ⟨f0, f1, f2, f3, f4, f5⟩ := hf it (by simp)
    obtain ⟨hs, hgd, hx, es', ep', hdt, hsz, ent⟩ := I.frzT hd
    obtain ⟨rfl, rfl⟩ := dict_ep hod hdt
    exact next_key_end (I.ok.hd hc) st hgd hdt hsz hi fun h' eb => ⟨rfl, I.turned (t' := s.toks) (fun b ob hb e => eb b ob hb e) f0 f1 f3 f4 f5⟩
  self := fun A i s Q E st h => by
    refine wpAny_pyIter_slot st.typeIs F.slot_dict_keyiterator_iter (wpAny_call_entry F.slot_dict_keyiterator_iter st.typeIs F.entry_dict_keyiterator_iter ?_ (F.args_dict_keyiterator_iter_1 _))
    show wpAny _ _ (ret (.ref it)) _ _ s
    exact wpAny_pure ⟨_, rfl, "dict_keyiterator", _, st.typeIs, F.slot_dict_keyiterator_next.lookup, h⟩
end
def iKeys (td : TE) : TI := fun σ H R => td σ H fun x H1 => ∃ d o, x = .ref d ∧ ((∃ kvs, H1 d = some (.frz o (.dK kvs)) ∧ R (Itk d o kvs) H1) ∨ ∃ kvs, H1 d = some (.frz o (.dT kvs)) ∧ R (Itkt d o kvs) H1)
section
variable {X : Cx} {tg e : Expr} {td : TE} {apos cpos : Pos}
theorem pi_keys (he : PE X e td) : PI X tg e (iKeys td) := by
  intro pins s σ H R I h
  refine thn (he pins s σ H _ I h) fun u s1 ⟨x, H1, I1, rx, d, o, ex, q⟩ => ?_
  subst ex
  obtain rfl : u = Value.ref d := rx
  rcases q with ⟨kvs, hd, q⟩ | ⟨kvs, hd, q⟩
  · obtain ⟨hs, hgd, hx, es, ep, vs, hdt, hsz, kv, hm⟩ := I1.frzK hd
    refine iter_keys hs hgd hx hdt (pi_one (tk := s1.toks) I1 _ (turn_keys _ hdt) ⟨_, Heap.get?_push_size _ rfl, rfl, ?_⟩ q)
    rw [hsz] <;> rfl
  · obtain ⟨hs, hgd, hx, es, ep, hdt, hsz, ent⟩ := I1.frzT hd
    refine iter_keys hs hgd hx hdt (pi_one (tk := s1.toks) I1 _ (turn_keysT _ hdt) ⟨_, Heap.get?_push_size _ rfl, rfl, ?_⟩ q)
    rw [hsz] <;> rfl
end
theorem boot_zip5 : bootBuiltins "zip" = some (.type "zip") := by decide +kernel
def Itz (K : PySem.W.Frag) (a b : Addr) : It :=
  ⟨fun i H => ∃ (xs ys : List V) (x y : V), SqL K H a xs ∧ SqL K H b ys ∧ xs[i]? = some x ∧ ys[i]? = some y,
    fun i H v H' => ∃ T x y, v = .ref T ∧ H T = none ∧ H' = upd H T (.tup [x, y]) ∧ (∀ xs, SqL K H a xs → xs[i]? = some x) ∧ ∀ ys, SqL K H b ys → ys[i]? = some y,
    fun i H => ∃ xs ys : List V, SqL K H a xs ∧ SqL K H b ys ∧ (xs.length ≤ i ∨ ys.length ≤ i)⟩
theorem turn_zip {P : Program} {w : World} {K : PySem.W.Frag} {elts : List Expr} {kk : Nat} {tpos : Pos} {a b z TI TO i1 i2 : Addr} (D : ZipApart z TI TO i1 i2 a b) :
    Turn P w K (.Tuple elts kk tpos) (Itz K a b) [z, TI, TO, i1, i2] z (fun i h => IsZip h z TI TO .none ∧ IsPair h TI (.ref i1) (.ref i2) ∧ (∃ x y, IsPair h TO x y) ∧ h.IsListIter i1 a i ∧ h.IsListIter i2 b i) where
  mem := by simp
  obj := fun i h st c hc => by
    obtain ⟨hz, hTI, ⟨x, y, hTO⟩, ⟨o1, e1, _, d1⟩, ⟨o2, e2, _, d2⟩⟩ := st
    have e' : c = z ∨ c = TI ∨ c = TO ∨ c = i1 ∨ c = i2 := by simpa using hc
    rcases e' with q | q | q | q | q
    · rw [q]; exact ⟨_, hz, fun v q => nomatch q⟩
    · rw [q]; exact ⟨_, hTI, fun v q => nomatch q⟩
    · rw [q]; exact ⟨_, hTO, fun v q => nomatch q⟩
    · rw [q]; exact ⟨o1, e1, fun v q => by rw [d1] at q; cases q⟩
    · rw [q]; exact ⟨o2, e2, fun v q => by rw [d2] at q; cases q⟩
  keep := fun i h h' st k => by
    obtain ⟨hz, hTI, ⟨x, y, hTO⟩, h1, h2⟩ := st
    exact ⟨k z (by simp) _ hz, k TI (by simp) _ hTI, ⟨x, y, k TO (by simp) _ hTO⟩, h1.at fun o q => k i1 (by simp) o q, h2.at fun o q => k i2 (by simp) o q⟩
  item := by
    intro X hP hw hK hc i pins s σ H E I hf st hg
    subst hP hw hK
    obtain ⟨hz, hTI, ⟨x0, y0, hTO⟩, h1, h2⟩ := st
    obtain ⟨xs, ys, x, y, hqx, hqy, hx, hy⟩ := hg
    obtain ⟨its, rv, p, _⟩ := I.list hqx
    obtain ⟨its2, rv2, p2, _⟩ := I.list hqy
    obtain ⟨u, hu, ru⟩ := rv.get hx
    obtain ⟨u2, hu2, ru2⟩ := rv2.get hy
    have hzl : z < s.heap.objs.size := Heap.lt_size hz
    refine wpAny_pyNext_zip_item D hz hTI hTO h1 h2 p.isList p2.isList (x := u) (y := u2) (by simpa using hu) (by simpa using hu2) fun h' z' TO' h1' h2' hT hsz hk => ?_
    refine ⟨_, rfl, wpAny_letOwnedTupleGo_zip (s := { s with heap := h' }) z' fun h'' z'' sb => ?_⟩
    have hT2 : h''.get? s.heap.objs.size = some { cls := .type "tuple", data := .seq #[u, u2] } := (sb.2 _ (Nat.ne_of_gt hzl)).trans hT
    have new : ObjOk X.prog X.w (upd H s.heap.objs.size (.tup [x, y])) h'' s.heap.objs.size (.tup [x, y]) :=
      ⟨by show 2 ≤ sizeLine; decide, [u, u2], .cons ru (.cons ru2 .nil), ⟨_, hT2, rfl, _, rfl⟩⟩
    have I1 : Inv X pins σ (upd H s.heap.objs.size (.tup [x, y])) { s with heap := h'' } :=
      I.turnedNew (t' := s.toks) (ch := [z, TI, TO, i1, i2]) (fun c o hb q => (sb.2 c (fun q' => hb (by simp [q']))).trans (hk c o (fun q' => hb (by simp [q'])) (fun q' => hb (by simp [q'])) (fun q' => hb (by simp [q'])) (fun q' => hb (by simp [q'])) q)) hf (Nat.le_refl _) new
    refine ⟨.ref s.heap.objs.size, _, I1, rfl, ⟨_, x, y, rfl, I.hok.fresh (Nat.le_refl _), rfl, fun l hl => by rw [I.list_inj hl hqx]; exact hx, fun l hl => by rw [I.list_inj hl hqy]; exact hy⟩, ⟨z'', ?_, ⟨u, u2, ?_⟩, ?_, ?_⟩, fun c hcm => ?_⟩
    · exact (sb.2 _ D.TIz).trans (hk _ _ D.TIz D.TITO D.TIi1 D.TIi2 hTI)
    · exact (sb.2 _ D.TOz).trans TO'
    · exact h1'.at fun o q => (sb.2 _ D.i1z).trans q
    · exact h2'.at fun o q => (sb.2 _ D.i2z).trans q
    · have hlt : c < s.heap.objs.size := by
        have e' : c = z ∨ c = TI ∨ c = TO ∨ c = i1 ∨ c = i2 := by simpa using hcm
        rcases e' with q | q | q | q | q
        · rw [q]; exact hzl
        · rw [q]; exact Heap.lt_size hTI
        · rw [q]; exact Heap.lt_size hTO
        · rw [q]; obtain ⟨_, e1, _⟩ := h1; exact Heap.lt_size e1
        · rw [q]; obtain ⟨_, e2, _⟩ := h2; exact Heap.lt_size e2
      rw [upd_ne (Nat.ne_of_lt hlt)]
      exact (hf c hcm).1
  done := by
    intro X hP hw hK hc i pins s σ H E I hf st hg
    subst hP hw hK
    obtain ⟨hz, hTI, ⟨x0, y0, hTO⟩, h1, h2⟩ := st
    obtain ⟨xs, ys, hqx, hqy, hend⟩ := hg
    obtain ⟨its, rv, p, _⟩ := I.list hqx
    obtain ⟨its2, rv2, p2, _⟩ := I.list hqy
    have l1 := rv.length
    have l2 := rv2.length
    have he : its.toArray[i]? = none ∨ its2.toArray[i]? = none := by
      rcases hend with q | q
      · exact .inl (by simp; omega)
      · exact .inr (by simp; omega)
    exact wpAny_pyNext_zip_end (I.ok.hd hc) D hz hTI hTO h1 h2 p.isList p2.isList he fun h' hk => ⟨rfl, I.turnedL (t' := s.toks) (ch := [z, TI, TO, i1, i2]) (fun c o hb q =>
      hk c o (fun q' => hb (by simp [q'])) (fun q' => hb (by simp [q'])) (fun q' => hb (by simp [q'])) (fun q' => hb (by simp [q'])) q) hf⟩
  self := fun A i s Q E st h => wpAny_pyIter_zip st.1 h
def iZip (K : PySem.W.Frag) (ta : TA) : TI := fun σ H R => ta σ H fun vs H1 => ∃ a b xs ys, vs = [.ref a, .ref b] ∧ SqL K H1 a xs ∧ SqL K H1 b ys ∧ R (Itz K a b) H1
theorem pi_zip {X : Cx} {e e2 : Expr} {ta : TA} {p pos tpos : Pos} {elts : List Expr} {kk : Nat} (hg : Gl X "zip") (hm : X.mg "zip" = none) (ha : PA X [e, e2] ta)
    (hs : starEach [e, e2] X.env = (false, eval e X.env) :: starEach [e2] X.env := by rfl) (hpl : (backTo pos (starEach [e2] X.env)).any (·.1) = false := by rfl) :
    PI X (.Tuple elts kk tpos) (.Call (.Name "zip" p) [e, e2] [] pos) (iZip X.K ta) := by
  intro pins s σ H R I h
  refine Call_ (ld_blt I hg hm boot_zip5 (PyProof.Rows.callWith_type1 (thn (ha pos pins s σ H _ I h) fun us s1 ⟨vs, H1, I1, r1, q1⟩ => ?_) hs hpl))
  obtain ⟨a, b, xs, ys, ex, hqx, hqy, q⟩ := q1
  subst ex
  cases r1 with
  | cons r rr =>
    cases rr with
    | cons r' rr =>
      cases rr
      cases r
      cases r'
      obtain ⟨its, rv, p1, _⟩ := I1.list hqx
      obtain ⟨its2, rv2, p2, _⟩ := I1.list hqy
      have la : a < s1.heap.objs.size := p1.lt
      have lb : b < s1.heap.objs.size := p2.lt
      refine call_zip_2 p1.isList p2.isList fun h' hz hTI hTO h1 h2 hsz hk => wpAny_pyIter_zip hz ?_
      have I2 : Inv X pins σ H1 { s1 with heap := h' } := I1.kept (t' := s1.toks) hk
      refine ⟨s1.heap.objs.size + 4, [s1.heap.objs.size + 4, s1.heap.objs.size + 2, s1.heap.objs.size + 3, s1.heap.objs.size, s1.heap.objs.size + 1], _, _, H1, rfl, I2, turn_zip (PySem.W.ktu_apart s1.heap.objs.size a b la lb), ⟨hz, hTI, ⟨_, _, hTO⟩, h1, h2⟩, fun c hcm => ?_, q⟩
      have e' : c = s1.heap.objs.size + 4 ∨ c = s1.heap.objs.size + 2 ∨ c = s1.heap.objs.size + 3 ∨ c = s1.heap.objs.size ∨ c = s1.heap.objs.size + 1 := by simpa using hcm
      have hle : s1.heap.objs.size ≤ c := by
        rcases e' with z | z | z | z | z
        · rw [z]; exact Nat.le_add_right _ _
        · rw [z]; exact Nat.le_add_right _ _
        · rw [z]; exact Nat.le_add_right _ _
        · rw [z]; exact Nat.le_refl _
        · rw [z]; exact Nat.le_add_right _ _
      exact I1.fpOk hle (I1.hok.fresh hle)
end L2
namespace Att
open PySem PySem.W PySem.Calls PyProof.Rows
theorem ints_of_wellAll {P : Params} {h : Heap} : ∀ (ns : List Int) (vs : List Value), WellAll P h vs (ns.map WData.int) → IntsAre vs ns := by
  intro ns
  induction ns with
  | nil =>
    intro vs w
    rw [List.map_nil] at w
    cases w
    exact .nil
  | cons n ns ih =>
    intro vs w
    rw [List.map_cons] at w
    cases w with
    | cons a b =>
      cases a
      exact .cons _ _ (ih _ b)
end Att
namespace L2
open PySem PySem.Spec PyProof.Rows
theorem vals_ints : ∀ {vs : List Value} {ns : List Int}, IntsAre vs ns → Vals (ns.map V.int) vs
  | _, _, .nil => .nil
  | _, _, .cons n t h => .cons ⟨t, rfl⟩ (vals_ints h)
def Only (H : Hp) : Prop := ∀ b, H b = none ∨ ∃ o xs, H b = some (.frz o (.lst xs))
end L2
namespace L2
open PySem PySem.Spec PyProof.Rows
def inClass (s : Stmt) (j : Nat) : Stmt := match s with
  | .ClassDef _ _ _ body _ _ _ _ _ _ _ => body.getD j (.Pass ⟨0, 0, 0, 0⟩)
  | _ => .Pass ⟨0, 0, 0, 0⟩
def defArgs (s : Stmt) : Arguments := match s with
  | .FunctionDef _ a _ _ _ _ _ _ _ _ => a
  | _ => { posonlyargs := [], args := [], vararg := none, kwonlyargs := [], kw_defaults := [], kwarg := none, defaults := [] }
def defBody (s : Stmt) : List Stmt := match s with
  | .FunctionDef _ _ b _ _ _ _ _ _ _ => b
  | _ => []
def defScope (s : Stmt) : Scope := match s with
  | .FunctionDef _ _ _ _ _ _ sc _ _ _ => sc
  | _ => { kind := .function, names := [], isGenerator := false, isCoroutine := false }
abbrev CX0 : CXT := fun _ _ _ _ _ _ => False
abbrev E0 : XK := fun _ _ _ => False
theorem pass0 {X : Cx} : Passes CX0 X E0 := fun _ _ _ _ _ _ _ h => h.elim
structure Fun (K : PySem.W.Frag) (x qual : Str) (st : Stmt) (f : Addr) (fd : FuncData) : Prop where
  ex : ∃ (oc : Value) (od : Option Addr) (kV doc pm : Value) (an : Option Addr) (cdv ct : Value) (osl : Array (Option Value)),
    fd = PySem.W.fnOf x qual (defArgs st) (defBody st) (defScope st) .none kV doc pm an cdv ct ∧ K.lookup f = some ⟨oc, od, .func fd, osl⟩ ∧ PySem.W.codeIn K cdv qual = true
  kp : PySem.W.keepIn K (.ref f) = true
section
variable {P : Program} {w : World} {K : PySem.W.Frag} {mg : Str → Option Value} {base : Heap}
theorem Fun.ok {x qual : Str} {st : Stmt} {f : Addr} {fd : FuncData} {N ps : List Str} {k : Nat} {sp : Sp} (F : Fun K x qual st f fd) (S : FnScope N ps (defScope st)) (len : ∀ vs H Q E, sp vs H Q E → vs.length = ps.length)
    (hbody : ∀ (cdv : Value) (A : Around) (outer : List Env) (s : Shared) (H : Hp) (vs : List V) (Q : VK) (E : XK), Room k (A.deeper (envOfC qual (defScope st) s.heap.objs.size f cdv)) → sp vs H Q E →
      ∃ t, PSs (cxOf CX0 P w K mg base N qual (defScope st) f cdv A outer s H E).nox (defBody st) t ∧ t { nx := fun _ H' => Q .non H', rt := Q } (start N vs) H) : FnOk P w K mg base CX0 (k + 1) f fd ps sp := by
  obtain ⟨oc, od, kV, doc, pm, an, cdv, ct, osl, rfl, lk, hcd⟩ := F.ex
  refine fn_of lk hcd S len fun A outer s H vs Q E hr hsp => ?_
  obtain ⟨t, h, q⟩ := hbody cdv A outer s H vs Q E hr hsp
  exact ⟨t, h.nox, q⟩
theorem Fun.binds {x qual : Str} {st : Stmt} {f : Addr} {fd : FuncData} {ps : List Str} (F : Fun K x qual st f fd)
    (h : ∀ (kV doc pm : Value) (an : Option Addr) (cdv ct : Value) (us : List Value), us.length = ps.length → bindArgs (PySem.W.fnOf x qual (defArgs st) (defBody st) (defScope st) .none kV doc pm an cdv ct) ⟨us, []⟩ = pure (ps.zip us)) : Binds K fd ps [] := by
  obtain ⟨oc, od, kV, doc, pm, an, cdv, ct, osl, rfl, lk, hcd⟩ := F.ex
  exact .all (h kV doc pm an cdv ct)
theorem fun_mk {x qual : Str} {st : Stmt} {f : Addr} {oc : Value} {od an : Option Addr} {osl : Array (Option Value)} {kV doc pm cdv ct : Value} (l : K.lookup f = some ⟨oc, od, .func (PySem.W.fnOf x qual (defArgs st) (defBody st) (defScope st) .none kV doc pm an cdv ct), osl⟩)
    (c : PySem.W.codeIn K cdv qual = true) (k : PySem.W.keepIn K (.ref f) = true) : Fun K x qual st f (PySem.W.fnOf x qual (defArgs st) (defBody st) (defScope st) .none kV doc pm an cdv ct) := ⟨⟨oc, od, kV, doc, pm, an, cdv, ct, osl, rfl, l, c⟩, k⟩
end
theorem hu_of {A : Around} {k : Nat} (hr : Room k A) : A.units + 1 < cLine := Nat.lt_of_le_of_lt (Nat.add_le_add_left (by decide : 1 ≤ 64) _) hr.units
section
variable {X : Cx}
theorem pv (i : Nat) {x : Str} {pos : Pos} (hN : X.N[i]? = some x := by rfl) (hv : Vis X.env.scope x := by first | exact Or.inl rfl | exact Or.inr (Or.inl rfl) | exact Or.inr (Or.inr rfl)) (hd : (x == ("__debug__" : Str)) = false := by decide)
    (hcd : (x == ("__classdict__" : Str)) = false := by decide) : PE X (.Name x pos) (tVar i) := pe_var hN hv hd hcd
end
theorem iteF {A B : Prop} (h : B) : if false = true then A else B := by
  rw [if_neg Bool.false_ne_true]
  exact h
theorem iteT {A B : Prop} (h : A) : if true = true then A else B := by
  rw [if_pos rfl]
  exact h
def Same (H H' : Hp) : Prop := ∀ b o, H b = some o → H' b = some o
theorem Same.refl (H : Hp) : Same H H := fun _ _ h => h
theorem Same.trans {H H1 H2 : Hp} (a : Same H H1) (b : Same H1 H2) : Same H H2 := fun c o h => b c o (a c o h)
theorem Same.free {H H' : Hp} (e : Same H H') {l : Addr} (h : H' l = Option.none) : H l = Option.none := by
  cases q : H l with
  | none => rfl
  | some o =>
    rw [e l o q] at h
    cases h
theorem Same.seq {K : PySem.W.Frag} {H H' : Hp} {a : Addr} {xs : List V} (e : Same H H') (h : SqL K H a xs) : SqL K H' a xs := by
  rcases h with (h | ⟨o, h⟩) | h
  · exact .inl (.inl (e _ _ h))
  · exact .inl (.inr ⟨o, e _ _ h⟩)
  · exact .inr h
section
variable {κ : Type} [DecidableEq κ]
theorem valV_not {kvs : List (κ × V)} {k : κ} (h : valV kvs k = none) : ¬ k ∈ kvs.map (·.1) := by
  intro m
  obtain ⟨p, hp, e⟩ := List.mem_map.mp m
  have q : (kvs.any fun kv => decide (kv.1 = k)) = true := List.any_eq_true.mpr ⟨p, hp, decide_eq_true e⟩
  rw [valV_any, h] at q
  exact absurd q (by simp)
end
theorem at_of {xs : List V} {z : Int} {j : Nat} {v : V} (e : z = (j : Int)) (h : xs[j]? = some v) : atI xs z = some v := by
  rw [e]
  exact atI_nat h
theorem nd_ix {α : Type} {l : List α} (hN : l.Nodup) {i j : Nat} {x : α} (a : l[i]? = some x) (b : l[j]? = some x) : i = j := by
  obtain ⟨h1, e1⟩ := List.getElem?_eq_some_iff.mp a
  obtain ⟨h2, e2⟩ := List.getElem?_eq_some_iff.mp b
  exact (List.getElem_inj hN).mp (e1.trans e2.symm)
end L2
namespace L2
open PySem
structure Wing (h : Heap) (e : Addr) (c : Value) (dd : Option Addr) (T : Addr) (fl : Value) : Prop where
  ob : ∃ vs : Array Value, h.get? e = some { cls := c, dict := dd, data := .fields vs } ∧ vs[1]? = some (.ref T)
  ne : T ≠ e
  tb : ∃ oT ts, h.get? T = some oT ∧ oT.data = .fields ts ∧ ts[3]? = some fl
structure Moved (fs xs : List Addr) (h h' : Heap) : Prop where
  keep : ∀ b o, b ∉ fs → b ∉ xs → h.get? b = some o → h'.get? b = some o
  slot : ∀ b o, b ∈ fs → b ∉ xs → h.get? b = some o → ∃ sl, h'.get? b = some { o with slots := sl }
  there : ∀ b o, h.get? b = some o → ∃ o', h'.get? b = some o'
theorem Moved.any {fs xs : List Addr} {h h' : Heap} (m : Moved fs xs h h') {b : Addr} {o : Obj} (hx : b ∉ xs) (e : h.get? b = some o) : ∃ sl, h'.get? b = some { o with slots := sl } := by
  by_cases hb : b ∈ fs
  · exact m.slot b o hb hx e
  · exact ⟨o.slots, m.keep b o hb hx e⟩
theorem Moved.trans {fs xs ys : List Addr} {h1 h2 h3 : Heap} (a : Moved fs xs h1 h2) (b : Moved fs ys h2 h3) : Moved fs (xs ++ ys) h1 h3 where
  keep := fun c o hf hx e => b.keep c o hf (fun z => hx (List.mem_append_right _ z)) (a.keep c o hf (fun z => hx (List.mem_append_left _ z)) e)
  slot := fun c o hf hx e => by
    obtain ⟨sl, e1⟩ := a.slot c o hf (fun z => hx (List.mem_append_left _ z)) e
    obtain ⟨sl2, e2⟩ := b.slot c _ hf (fun z => hx (List.mem_append_right _ z)) e1
    exact ⟨sl2, e2⟩
  there := fun c o e => by
    obtain ⟨o1, e1⟩ := a.there c o e
    exact b.there c o1 e1
theorem Moved.drop {fs xs ys : List Addr} {h h' : Heap} (a : Moved fs xs h h') (k : ∀ b ∈ xs, b ∈ ys ∨ h.get? b = none) : Moved fs ys h h' where
  keep := fun b o hf hy e => a.keep b o hf (fun z => by
    rcases k b z with q | q
    · exact hy q
    · rw [q] at e; cases e) e
  slot := fun b o hf hy e => a.slot b o hf (fun z => by
    rcases k b z with q | q
    · exact hy q
    · rw [q] at e; cases e) e
  there := a.there
theorem Moved.mono {fs fs' xs : List Addr} {h h' : Heap} (a : Moved fs xs h h') (k : ∀ b ∈ fs, b ∈ fs') : Moved fs' xs h h' where
  keep := fun b o hf hy e => a.keep b o (fun z => hf (k b z)) hy e
  slot := fun b o _ hy e => a.any hy e
  there := a.there
section
variable {M : Model} {A : Around} {E : Value → Shared → Prop} {s : Shared}
theorem moved_field {h : Heap} {a : Addr} {o : Obj} {vs : Array Value} {k : Nat} {v : Value} (ho : h.get? a = some o) (hd : o.data = .fields vs) :
    Moved [] [a] h (h.update a (Obj.mapFields (·.setIfInBounds k v))) ∧ (h.update a (Obj.mapFields (·.setIfInBounds k v))).get? a = some { o with data := .fields (vs.setIfInBounds k v) } := by
  have hm : (Obj.mapFields (·.setIfInBounds k v) o) = { o with data := .fields (vs.setIfInBounds k v) } := by
    obtain ⟨c, d, dt, sl⟩ := o
    have hd' : dt = .fields vs := hd
    subst hd'; rfl
  have self : (h.update a (Obj.mapFields (·.setIfInBounds k v))).get? a = some { o with data := .fields (vs.setIfInBounds k v) } := by
    have := Heap.get?_update_self (Obj.mapFields (·.setIfInBounds k v)) ho (by rw [hm]; rfl)
    rw [this, hm]
  refine ⟨⟨fun b q _ hx e => ?_, fun b _ hb _ _ => absurd hb (by simp), fun b q e => ?_⟩, self⟩
  · rw [Heap.get?_update_other _ _ (fun z => hx (by rw [z]; simp))]; exact e
  · by_cases z : a = b
    · subst z; exact ⟨_, self⟩
    · exact ⟨q, by rw [Heap.get?_update_other _ _ z]; exact e⟩
theorem entry_new {base : Heap} {env : Env} {outer : List Env} {L e : Addr} {c : Value} {dd : Option Addr} {vs : Array Value} {head : Value} {hadNext : Bool} {Q : Unit → Shared → Prop} (hfr : A.frames = some (env :: outer))
    (hl : s.heap.FunFrames base (env :: outer)) (hf : env.frame = some L) (he : s.heap.get? e = some { cls := c, dict := dd, data := .fields vs }) (hsz : 1 < vs.size)
    (h : ∀ h' T, Moved ((env :: outer).filterMap (·.frame)) [e] s.heap h' → Wing h' e c dd T (rawInt L) → s.heap.objs.size ≤ T → Q () { s with heap := h' }) :
    wpAny M A (do let a ← frameOf env; let pl ← entryPlaceOf L hadNext; let b ← EntryCells.newEntry head a .none (rawInt L) .none pl; setField (.ref e) 1 b) Q E s := by
  have hene : e ∉ (env :: outer).filterMap (·.frame) := fun hm => by
    obtain ⟨_, o, ho, hnf⟩ := hl.mem hm
    rw [he] at ho; cases ho; exact hnf vs rfl
  refine wpAny_bind (wpAny_frameOf_fun hfr hl hf fun h1 ⟨sz, off, all⟩ => ?_)
  refine wpAny_bind (wpAny_entryPlaceOf fun pl hpl => ?_)
  unfold EntryCells.newEntry newFields
  refine wpAny_bind (wpAny_newObj_type ?_ (hpl.sizeOk5 _ _ _ _ _))
  have he1 : h1.get? e = some { cls := c, dict := dd, data := .fields vs } := (off e hene).trans he
  generalize ho2 : ({ cls := .type "traceback", dict := none, data := .fields ([head, .ref L, .none, rawInt L, .none] ++ (if pl.isEmpty then List.replicate 6 Value.none else pl)).toArray } : Obj) = oT
  have he2 := Heap.get?_push_of_some (h := h1) oT he1
  refine wpAny_setField he2 rfl hsz ?_
  obtain ⟨mv, self⟩ := moved_field (h := h1.push oT) (k := 1) (v := .ref h1.objs.size) he2 rfl
  have hT : h1.objs.size ≠ e := Nat.ne_of_gt (Heap.lt_size he1)
  have fr : oT.isFreed = false := by subst ho2; rfl
  have hT2 : (h1.push oT).get? h1.objs.size = some oT := Heap.get?_push_size h1 fr
  have hT3 := mv.keep h1.objs.size oT (by simp) (by simp [hT]) hT2
  refine h _ h1.objs.size ⟨fun b o hb hx q => ?_, fun b o hb hx q => ?_, fun b o q => ?_⟩ ⟨⟨_, self, by simp [hsz]⟩, hT, oT, ([head, .ref L, .none, rawInt L, .none] ++ (if pl.isEmpty then List.replicate 6 Value.none else pl)).toArray, hT3, by rw [← ho2], by simp⟩ ?_
  · exact mv.keep b o (by simp) hx (Heap.get?_push_of_some _ ((off b hb).trans q))
  · obtain ⟨sl, e1⟩ := all b o q
    exact ⟨sl, mv.keep b _ (by simp) hx (Heap.get?_push_of_some _ e1)⟩
  · obtain ⟨sl, e1⟩ := all b o q
    exact mv.there b _ (Heap.get?_push_of_some _ e1)
  · rw [sz]; exact Nat.le_refl _
theorem note_first {base : Heap} {env : Env} {outer : List Env} {L e : Addr} {c : Value} {dd : Option Addr} {vs : Array Value} {Q : Unit → Shared → Prop} (hfr : A.frames = some (env :: outer))
    (hl : s.heap.FunFrames base (env :: outer)) (hf : env.frame = some L) (he : s.heap.get? e = some { cls := c, dict := dd, data := .fields vs }) (h1 : vs[1]? = some .none)
    (h : ∀ h' T, Moved ((env :: outer).filterMap (·.frame)) [e] s.heap h' → Wing h' e c dd T (rawInt L) → s.heap.objs.size ≤ T → Q () { s with heap := h' }) : wpAny M A (noteFrame (.ref e) env) Q E s := by
  unfold noteFrame
  simp only [hf]
  refine wpAny_bind (wpAny_field he rfl h1 ?_)
  rw [if_neg (by decide)]
  exact entry_new hfr hl hf he (Array.getElem?_eq_some_iff.mp h1).1 h
theorem note_next {base : Heap} {env : Env} {outer : List Env} {L e T₀ : Addr} {c : Value} {dd : Option Addr} {Q : Unit → Shared → Prop} (hfr : A.frames = some (env :: outer))
    (hl : s.heap.FunFrames base (env :: outer)) (hf : env.frame = some L) (wg : Wing s.heap e c dd T₀ .none)
    (h : ∀ h' T, Moved ((env :: outer).filterMap (·.frame)) [e, T₀] s.heap h' → Wing h' e c dd T (rawInt L) → s.heap.objs.size ≤ T → Q () { s with heap := h' }) : wpAny M A (noteFrame (.ref e) env) Q E s := by
  obtain ⟨⟨vs, he, h1⟩, hne, oT, ts, hT, hdT, h3⟩ := wg
  unfold noteFrame
  simp only [hf]
  refine wpAny_bind (wpAny_field he rfl h1 ?_)
  rw [if_pos (show (Value.ref T₀ != Value.none) = true from by simp)]
  refine wpAny_bind (wpAny_field hT hdT h3 ?_)
  rw [if_neg (show ¬ ((Value.none == rawInt L) = true) from by simp [rawInt])]
  refine wpAny_bind (wpAny_setField hT hdT (Array.getElem?_eq_some_iff.mp h3).1 ?_)
  obtain ⟨mv, self⟩ := moved_field (k := 3) (v := .none) hT hdT
  have he' := mv.keep e _ (by simp) (by simp [Ne.symm hne]) he
  have hl' : (s.heap.update T₀ (Obj.mapFields (·.setIfInBounds 3 Value.none))).FunFrames base (env :: outer) := hl.of_keeps fun b o hb hnf => by
    refine ⟨o, mv.keep b o (by simp) (fun z => ?_) hb, rfl⟩
    have z' : b = T₀ := by simpa using z
    subst z'; rw [hT] at hb; cases hb; exact hnf ts hdT
  refine entry_new (s := { s with heap := s.heap.update T₀ (Obj.mapFields (·.setIfInBounds 3 Value.none)) }) hfr hl' hf he' (Array.getElem?_eq_some_iff.mp h1).1 fun h' T mv2 wg2 ht => h h' T ?_ wg2 ?_
  · exact ((mv.mono (fs' := (env :: outer).filterMap (·.frame)) (by simp)).trans mv2).drop (ys := [e, T₀]) fun b hb => .inl (by
      rcases List.mem_append.mp hb with q | q <;> simp at q <;> simp [q])
  · exact Nat.le_trans (Nat.le_of_eq (Heap.size_after_update ..).symm) ht
theorem land {e T : Addr} {c fl : Value} {dd : Option Addr} {Q : Unit → Shared → Prop} (wg : Wing s.heap e c dd T fl)
    (h : ∀ h', Moved [] [T] s.heap h' → Wing h' e c dd T .none → Q () { s with heap := h' }) : wpAny M A (setFlight (.ref e) none) Q E s := by
  obtain ⟨⟨vs, he, h1⟩, hne, oT, ts, hT, hdT, h3⟩ := wg
  unfold setFlight
  refine wpAny_bind (wpAny_field he rfl h1 ?_)
  rw [if_pos (show (Value.ref T != Value.none) = true from by simp)]
  have hz := (Array.getElem?_eq_some_iff.mp h3).1
  refine wpAny_setField hT hdT hz ?_
  obtain ⟨mv, self⟩ := moved_field (k := 3) (v := (none : Option Addr).elim Value.none fun f => rawInt f) hT hdT
  exact h _ mv ⟨⟨vs, mv.keep e _ (by simp) (by simp [Ne.symm hne]) he, h1⟩, hne, _, _, self, rfl, by simp [hz]⟩
theorem leave_first {base : Heap} {env : Env} {outer : List Env} {L e : Addr} {c : Value} {dd : Option Addr} {vs : Array Value} {Q : Unit → Shared → Prop} (hfr : A.frames = some (env :: outer))
    (hl : s.heap.FunFrames base (env :: outer)) (hf : env.frame = some L) (he : s.heap.get? e = some { cls := c, dict := dd, data := .fields vs }) (h1 : vs[1]? = some .none)
    (h : ∀ h' T, Moved ((env :: outer).filterMap (·.frame)) [e] s.heap h' → Wing h' e c dd T .none → s.heap.objs.size ≤ T → Q () { s with heap := h' }) : wpAny M A (leaving env (.ref e)) Q E s := by
  unfold leaving
  refine wpAny_bind (note_first hfr hl hf he h1 fun h1 T mv wg ht => land wg fun h2 mv2 wg2 => h h2 T ?_ wg2 ht)
  exact (mv.trans (mv2.mono (by simp))).drop fun b hb => by
    rcases List.mem_append.mp hb with q | q
    · exact .inl q
    · simp at q; subst q; exact .inr (Heap.get?_none_of_le ht)
theorem leave_next {base : Heap} {env : Env} {outer : List Env} {L e T₀ : Addr} {c : Value} {dd : Option Addr} {Q : Unit → Shared → Prop} (hfr : A.frames = some (env :: outer))
    (hl : s.heap.FunFrames base (env :: outer)) (hf : env.frame = some L) (wg : Wing s.heap e c dd T₀ .none)
    (h : ∀ h' T, Moved ((env :: outer).filterMap (·.frame)) [e, T₀] s.heap h' → Wing h' e c dd T .none → s.heap.objs.size ≤ T → Q () { s with heap := h' }) : wpAny M A (leaving env (.ref e)) Q E s := by
  unfold leaving
  refine wpAny_bind (note_next hfr hl hf wg fun h1 T mv wg ht => land wg fun h2 mv2 wg2 => h h2 T ?_ wg2 ht)
  exact (mv.trans (mv2.mono (by simp))).drop fun b hb => by
    rcases List.mem_append.mp hb with q | q
    · exact .inl q
    · simp at q; subst q; exact .inr (Heap.get?_none_of_le ht)
end
end L2
namespace L2
open PySem
section
variable {M : Model} {A : Around} {E : Value → Shared → Prop} {env : Env}
variable {nm q : Str} {C N : Addr} {bs bm : List Value} {hdct : Bool} {sn : List Str} {sub : List Value} {ab : Bool} {col : Option Bool} {dd : Option Addr} {k0 k1 k2 k3 k5 : Option Value} {newId : String}
theorem raise_own {s : Shared} {x : Sem Value} {Q : Flow → Shared → Prop} (hB : bm.contains (.type "BaseException") = true) (hT : bm.contains (.type "type") = false) (calm : A.handled = none)
    (h : wpAny M A x (fun v s1 => ∃ (e : Addr) (dx : Option Addr) (vs : Array Value), v = .ref e ∧ s1.heap.get? C = some (excClassObj nm q C N bs bm hdct sn sub ab col dd k0 k1 k2 k3 k5 newId) ∧
      s1.heap.get? e = some { cls := .ref C, dict := dx, data := .fields vs } ∧ vs[1]? = some .none ∧ E (.ref e) s1) E s) : wpAny M A (raiseStmt env (some x) none) Q E s := by
  have c1 : (Value.ref C :: bm).contains (.type "BaseException") = true := by rw [List.contains_cons, hB, Bool.or_true]
  have c2 : (Value.ref C :: bm).contains (.type "type") = false := by rw [List.contains_cons, hT]; rfl
  unfold raiseStmt
  refine wpAny_bind (wpAny_mono h (fun v s1 hv => ?_) fun _ _ z => z)
  obtain ⟨e, dx, vs, rfl, hC, he, hv, hE⟩ := hv
  obtain ⟨hp, g, d, tk, os⟩ := s1
  repeat (first | with_reducible refine wpAny_loadPart_at he ?_ | with_reducible refine wpAny_loadPart_at hC ?_ | (with_reducible refine wpAny_isSubtype_exc hC ?_; first | rw [c1] | rw [c2]) | with_reducible refine wpAny_field he rfl hv ?_ | wp_step)
  exact wpAny_raiseNew_none calm hE
theorem Raise_own_stmt {s : Shared} {x : Expr} {pos : Pos} {Q : Flow → Shared → Prop} (hB : bm.contains (.type "BaseException") = true) (hT : bm.contains (.type "type") = false) (calm : A.handled = none)
    (h : wpAny M A (eval x env) (fun v s1 => ∃ (e : Addr) (dx : Option Addr) (vs : Array Value), v = .ref e ∧ s1.heap.get? C = some (excClassObj nm q C N bs bm hdct sn sub ab col dd k0 k1 k2 k3 k5 newId) ∧
      s1.heap.get? e = some { cls := .ref C, dict := dx, data := .fields vs } ∧ vs[1]? = some .none ∧ E (.ref e) s1) E s) : wpAny M A (exec (.Raise (some x) none pos) env) Q E s := by
  rw [arm_exec_Raise]
  refine wpAny_bind (wpAny_standAt ?_)
  show wpAny M A (raiseStmt env (some (do let v ← eval x env; standAt pos; pure v)) none) Q E s
  exact raise_own hB hT calm (wpAny_bind (wpAny_mono h (fun v s1 hv => wpAny_bind (wpAny_standAt (wpAny_pure hv))) fun _ _ z => z))
end
end L2
namespace L2
open PySem
section
variable {prog : Program} {w : World} {A : Around} {E : Value → Shared → Prop} {h : Heap} {g : Array GenState} {d : Drawn} {t : Nat} {os : OsState}
variable {nm q : Str} {C N : Addr} {bs bm : List Value} {hdct : Bool} {sn : List Str} {sub : List Value} {ab : Bool} {col : Option Bool} {dd : Option Addr} {k0 k1 k2 k3 k5 : Option Value} {B newId initId : String}
theorem base_init (F : ExcBaseFacts B newId initId bm) {e : Addr} {dx : Option Addr} {vs : Array Value} {rest : List Value} {Q : Value → Shared → Prop}
    (hC : h.get? C = some (excClassObj nm q C N bs bm hdct sn sub ab col dd k0 k1 k2 k3 k5 newId)) (he : h.get? e = some { cls := .ref C, dict := dx, data := .fields vs }) {t0 : Addr} (h0 : vs[0]? = some (.ref t0))
    (hq : Q .none ⟨(h.push { cls := .type "tuple", data := .seq rest.toArray }).update e (Obj.mapFields (·.setIfInBounds 0 (.ref h.objs.size))), g, d, t, os⟩) (hrest : rest.length ≤ sizeLine) :
    wpAny (model prog w) A (call (.builtin initId) (.ref e :: rest)) Q E ⟨h, g, d, t, os⟩ := by
  refine wpAny_call (codeAny_call_builtin F.init.plain F.initEntry (wpAny_check_init_sub F hC he rfl ?_))
  wp_walk
  rw [h0]
  have he2 := Heap.get?_push_of_some (h := h) { cls := .type "tuple", data := .seq rest.toArray } he
  refine wpAny_pure (wpAny_bind (wpAny_setField he2 rfl (Array.getElem?_eq_some_iff.mp h0).1 ?_))
  wp_walk
  exact hq
end
end L2
namespace L2
open PySem Builtin Builtin.ObjectAttr
section
variable {prog : Program} {w : World} {A : Around} {E : Value → Shared → Prop} {h : Heap} {g : Array GenState} {d : Drawn} {t : Nat} {os : OsState}
variable {nm q : Str} {C N x : Addr} {bs bm : List Value} {sn : List Str} {sub : List Value} {ab : Bool} {col : Option Bool} {dd : Option Addr} {k0 k1 k2 k3 k5 : Option Value} {B newId : String}
  {mN mA : Str → Option Value} {name : Str} {v : Value}
theorem xget_entry {tk : Tok} {Q : Fin → Shared → Prop} (mro : mroOf (.type B) = pure bm)
    (hC : h.get? C = some (excClassObj nm q C N bs bm true sn sub ab col dd k0 k1 k2 k3 k5 newId)) (hn : h.Ns N mN) (hna : mN name = none)
    (hB : typeLookup (.type B) name = pure none) (I : h.Inst x C mA) (hv : mA name = some v) (hq : Q (.done (.ret v)) ⟨h, g, d, t, os⟩) :
    wpAny (model prog w) A (Builtin.«object.__getattribute__» ⟨[.ref x, .str name tk], []⟩) Q E ⟨h, g, d, t, os⟩ := by
  obtain ⟨o, hx, hc, hnc, hd⟩ := I
  rcases hd with ⟨_, hmA⟩ | ⟨dx, hdx, hne, hns⟩
  · rw [hmA name] at hv; cases hv
  unfold Builtin.«object.__getattribute__»
  repeat (first | (with_reducible refine wpAny_loadPart_at hx ?_; rw [hc]) | (with_reducible refine wpAny_typeLookup_exc hC hn mro hB ?_; rw [hna]) | wp_step)
  split
  · rename_i c hcd
    exact absurd hcd (hnc c)
  unfold instanceDict
  repeat (first | (with_reducible refine wpAny_loadPart_at hx ?_; rw [hc]) | with_reducible refine wpAny_loadPart_at hC ?_ | wp_step)
  rw [hdx]
  repeat (first | (with_reducible refine wpAny_nsGet hns.ns ?_; rw [hv]) | wp_step)
  exact hq
theorem xget_check {M : Model} {o : Obj} {nameV : Value} {Q : Unit → Shared → Prop} (hb : bm.contains (.type "BaseException") = true)
    (hC : h.get? C = some (excClassObj nm q C N bs bm true sn sub ab col dd k0 k1 k2 k3 k5 newId)) (hx : h.get? x = some o) (hc : o.cls = .ref C) (hq : Q () ⟨h, g, d, t, os⟩) :
    wpAny M A (checkBuiltinCall "BaseException.__getattribute__" ⟨[.ref x, nameV], []⟩) Q E ⟨h, g, d, t, os⟩ := by
  have e1 : builtinKind "BaseException.__getattribute__" = some .slot := by decide +kernel
  have e2 : splitId "BaseException.__getattribute__" = some ("BaseException", "__getattribute__") := by decide +kernel
  have c1 : (Value.ref C :: bm).contains (.type "BaseException") = true := by rw [List.contains_cons, hb]; rfl
  have ha := F.args_bexc_ga (.ref x) nameV
  simp only [checkBuiltinCall, e1, e2]
  refine wpAny_bind ?_
  unfold isInstance
  repeat (first | (with_reducible refine wpAny_loadPart_at hx ?_; rw [hc]) | (with_reducible refine wpAny_isSubtype_exc hC ?_; rw [c1]) | wp_step)
  exact hq
theorem xget_attr {expr : Bool} {Q : Value → Shared → Prop} (FX : ExcAttrFacts B) (mro : mroOf (.type B) = pure bm) (ng : typeLookup (.type B) "__getattr__" = pure none) (hb : bm.contains (.type "BaseException") = true)
    (hC : h.get? C = some (excClassObj nm q C N bs bm true sn sub ab col dd k0 k1 k2 k3 k5 newId)) (hn : h.Ns N mN) (n1 : mN "__getattribute__" = none) (n2 : mN "__getattr__" = none) (hna : mN name = none)
    (hB : typeLookup (.type B) name = pure none) (I : h.Inst x C mA) (hv : mA name = some v) (hh : handedOut v = pure v) (hq : Q v ⟨h, g, d, t + 1, os⟩) :
    wpAny (model prog w) A (getAttr (.ref x) name expr) Q E ⟨h, g, d, t, os⟩ := by
  obtain ⟨o, hx, hc, _⟩ := id I
  have f3 := FX.ga.bind (.ref x)
  have z0 : (expr && onTheHeap (Value.builtin "BaseException.__getattribute__")) = false := by cases expr <;> rfl
  have z2 : (Value.builtin "BaseException.__getattribute__" == Value.builtin "object.__getattribute__") = false := by decide +kernel
  have z1 : (onTheHeap (Value.ref C) && Value.builtin "BaseException.__getattribute__" == Value.builtin "object.__getattribute__") = false := by rw [z2]; rfl
  unfold getAttr getAttrBy
  repeat (any_goals (first | assumption | (with_reducible refine wpAny_loadPart_at hx ?_; rw [hc]) | (with_reducible refine wpAny_typeLookup_exc hC hn mro FX.ga.lookup ?_; rw [n1]) | (with_reducible refine wpAny_typeLookup_exc hC hn mro ng ?_; rw [n2]) | wp_step))
  refine codeAny_call_builtin FX.ga.plain F.entry_bexc_ga (xget_check hb hC hx hc (xget_entry mro hC hn hna hB I hv ?_))
  repeat (any_goals (first | assumption | wp_step))
end
end L2
namespace L2
open PySem Builtin Builtin.ObjectAttr
section
variable {prog : Program} {w : World} {A : Around} {E : Value → Shared → Prop} {h : Heap} {g : Array GenState} {d : Drawn} {t : Nat} {os : OsState}
variable {nm q : Str} {C N x : Addr} {bs bm : List Value} {sn : List Str} {sub : List Value} {ab : Bool} {col : Option Bool} {dd : Option Addr} {k0 k1 k2 k3 k5 : Option Value} {B newId sa owner : String}
  {mN : Str → Option Value} {name : Str} {v : Value}
theorem xset_entry {tk : Tok} {Q : Fin → Shared → Prop} {vs : Array Value} (SF : StoreFacts B bm sa owner)
    (hC : h.get? C = some (excClassObj nm q C N bs bm true sn sub ab col dd k0 k1 k2 k3 k5 newId)) (hn : h.Ns N mN) (hna : mN name = none) (hB : typeLookup (.type B) name = pure none)
    (hx : h.get? x = some { cls := .ref C, dict := none, data := .fields vs })
    (hq : ∀ h' u, h'.get? x = some { cls := .ref C, dict := some h.objs.size, data := .fields vs } → h'.Ns1 h.objs.size (fun y => if y = name then some v else none) → (∀ b o, b ≠ x → h.get? b = some o → h'.get? b = some o) →
      Q (.done (.ret .none)) ⟨h', g, d, u, os⟩) :
    wpAny (model prog w) A (Builtin.«object.__setattr__» ⟨[.ref x, .str name tk, v], []⟩) Q E ⟨h, g, d, t, os⟩ := by
  obtain ⟨o, eo⟩ : ∃ o : Obj, o = { cls := .ref C, dict := none, data := .fields vs } := ⟨_, rfl⟩
  have hc : o.cls = .ref C := by rw [eo]
  have hdn : o.dict = none := by rw [eo]
  have hdt : o.data = .fields vs := by rw [eo]
  have hx0 : h.get? x = some o := by rw [eo]; exact hx
  have pass := SF.passes (.ref x)
  unfold Builtin.«object.__setattr__»
  repeat (first | rw [refuse_eq] | (rw [refuseLoop_ref, pass]) | (with_reducible refine wpAny_loadPart_at hx0 ?_; rw [hc]) | with_reducible refine wpAny_mroOf_exc hC ?_ | (with_reducible refine wpAny_typeLookup_exc hC hn SF.mro hB ?_; rw [hna]) | wp_step)
  rw [hdn, if_neg (by simp [typeHasDict])]
  have x1 := Heap.get?_push_of_some (h := h) { cls := .type "dict", data := .dict #[] } hx0
  have lt : x ≠ h.objs.size := Nat.ne_of_lt (Heap.lt_size hx)
  rw [hdt]
  refine wpAny_bind (wpAny_alloc' (wpAny_bind (wpAny_update' x1 (wpAny_pure ?_))))
  generalize e2 : ((h.push { cls := .type "dict", data := .dict #[] }).update x fun o => { o with dict := some h.objs.size }) = h2
  have gd : h2.get? h.objs.size = some { cls := .type "dict", data := .dict #[] } := by
    rw [← e2]; exact (Heap.get?_update_other _ _ lt).trans (Heap.get?_push_at rfl rfl)
  have gx : h2.get? x = some { cls := .ref C, dict := some h.objs.size, data := .fields vs } := by
    rw [← e2]; rw [Heap.get?_update_self _ x1 (by rw [eo]; rfl), eo]
  have n2 : h2.Ns h.objs.size (fun _ => none) := ⟨_, #[], _, gd, rfl, fun e he => absurd he (by simp), fun _ => rfl⟩
  have kp : ∀ b o, b ≠ x → h.get? b = some o → h2.get? b = some o := fun b o hb e => by
    rw [← e2]; exact (Heap.get?_update_other _ _ (Ne.symm hb)).trans (Heap.get?_push_of_some _ e)
  show wpAny _ _ (storeInDict h.objs.size (.str name tk) name v) _ _ _
  unfold storeInDict newKeyGuard
  refine wpAny_bind (wpAny_pure (wpAny_bind (wpAny_nsSet1 (Heap.Ns1.of_empty n2) fun h' hn' hs => ?_)))
  obtain ⟨oD, esD, epD, hoD, hdD, hcD⟩ := hn'.count (Within.cons name v Within.nil)
  refine wpAny_bind (wpAny_lookBehind hoD (by rw [hdD]; exact pastItsLine_dict (Nat.le_trans hcD (by rw [List.length_cons, List.length_nil, sizeLine_eq]; omega))) ?_)
  wp_walk
  refine hq h' _ ((hs.2 x lt).trans gx) hn' fun b o hb e => (hs.2 b (Nat.ne_of_lt (Heap.lt_size e))).trans (kp b o hb e)
theorem xset_attr {Q : Unit → Shared → Prop} {vs : Array Value} (SF : StoreFacts B bm sa owner)
    (hC : h.get? C = some (excClassObj nm q C N bs bm true sn sub ab col dd k0 k1 k2 k3 k5 newId)) (hn : h.Ns N mN) (hns : mN "__setattr__" = none) (hna : mN name = none) (hB : typeLookup (.type B) name = pure none)
    (hx : h.get? x = some { cls := .ref C, dict := none, data := .fields vs })
    (hq : ∀ h' u, h'.get? x = some { cls := .ref C, dict := some h.objs.size, data := .fields vs } → h'.Ns1 h.objs.size (fun y => if y = name then some v else none) → (∀ b o, b ≠ x → h.get? b = some o → h'.get? b = some o) →
      Q () ⟨h', g, d, u, os⟩) :
    wpAny (model prog w) A (setAttr (.ref x) name v) Q E ⟨h, g, d, t, os⟩ := by
  have f3 := SF.slot.bind (.ref x)
  unfold setAttr callSpecial? specialOf
  repeat (any_goals (first | assumption | with_reducible refine wpAny_loadPart_at hx ?_ | (with_reducible refine wpAny_typeLookup_exc hC hn SF.mro SF.slot.lookup ?_; rw [hns]) | wp_step))
  refine codeAny_call_builtin SF.slot.plain SF.entry (wpAny_check_sa SF hC hx rfl (xset_entry SF hC hn hna hB hx fun h' u a b c => ?_))
  repeat (any_goals (first | assumption | wp_step))
  exact hq h' u a b c
end
end L2
set_option maxHeartbeats 4000000
namespace L2
open PySem PySem.Spec PyProof.Rows
abbrev bmV : List Value := [.type "ValueError", .type "Exception", .type "BaseException", .type "object"]
def strKeys (es : Array DictEntry) : Bool := es.toList.all fun e => match e.key with | .str _ _ => true | _ => false
theorem strKeys_ok {es : Array DictEntry} (h : strKeys es = true) : StrKeys es := by
  intro e he
  have := List.all_eq_true.mp h e (Array.mem_toList_iff.mpr he)
  revert this
  cases e.key <;> simp
theorem nsFind_in {K : PySem.W.Frag} {N : Addr} {c : Value} {d : Option Addr} {es : Array DictEntry} {ep : Nat} {sl : Array (Option Value)} {name : Str} {r : Option Value} (l : K.lookup N = some ⟨c, d, .dict es ep, sl⟩) (e : PySem.W.nsIn K N name = some r) : nsFind es name = r := by
  unfold PySem.W.nsIn at e
  rw [l] at e
  dsimp only at e
  unfold nsFind findBy
  rw [← Array.find?_toList]
  split at e
  · rename_i y q
    rw [q]
    exact Option.some.inj e
  · rename_i q
    rw [q]
    split at e
    · cases e
    · exact Option.some.inj e
structure XCls (K : PySem.W.Frag) (C f : Addr) (at_ : Str) : Prop where
  ob : ∃ (nm q : Str) (N : Addr) (bs : List Value) (sn : List Str) (sub : List Value) (ab : Bool) (col : Option Bool) (dd : Option Addr) (k0 k1 k2 k3 k5 : Option Value) (c : Value) (d : Option Addr) (es : Array DictEntry) (ep : Nat) (sl : Array (Option Value)),
    K.lookup C = some (excClassObj nm q C N bs bmV true sn sub ab col dd k0 k1 k2 k3 k5 "ValueError.__new__") ∧ K.lookup N = some ⟨c, d, .dict es ep, sl⟩ ∧ strKeys es = true ∧
      PySem.W.nsIn K N "__init__" = some (some (.ref f)) ∧ PySem.W.nsIn K N "__getattribute__" = some none ∧ PySem.W.nsIn K N "__getattr__" = some none ∧ PySem.W.nsIn K N "__setattr__" = some none ∧ PySem.W.nsIn K N at_ = some none
  fn : PySem.W.isFn K (.ref f) = true
  kp : PySem.W.keepIn K (.ref C) = true
  lk : typeLookup (.type "ValueError") at_ = pure none
abbrev exO (e C : Addr) (dd : Option Addr) : HO := .ext fun h => ∃ vs : Array Value, h.get? e = some { cls := .ref C, dict := dd, data := .fields vs } ∧ (∃ t, vs[0]? = some (.ref t)) ∧ vs[1]? = some .none
abbrev exF (e C dx : Addr) : HO := .ext fun h => ∃ vs : Array Value, h.get? e = some { cls := .ref C, dict := some dx, data := .fields vs }
theorem exO_ok {P : Program} {w : World} {H : Hp} {h : Heap} {e C : Addr} {dd : Option Addr} {vs : Array Value} {t : Addr} (he : h.get? e = some { cls := .ref C, dict := dd, data := .fields vs }) (h0 : vs[0]? = some (.ref t)) (h1 : vs[1]? = some .none) : ObjOk P w H h e (exO e C dd) :=
  ⟨⟨vs, he, ⟨t, h0⟩, h1⟩, ⟨_, he⟩, fun h1 h2 ⟨vs, a, b⟩ k => ⟨vs, k _ a, b⟩⟩
theorem exF_ok {P : Program} {w : World} {H : Hp} {h : Heap} {e C dx : Addr} {vs : Array Value} (he : h.get? e = some { cls := .ref C, dict := some dx, data := .fields vs }) : ObjOk P w H h e (exF e C dx) :=
  ⟨⟨vs, he⟩, ⟨_, he⟩, fun h1 h2 ⟨vs, a⟩ k => ⟨vs, k _ a⟩⟩
def CXx (P : Program) (w : World) : CXT := fun outer H s E u s' => ∃ (e C dx T : Addr) (H' : Hp), u = .ref e ∧ s'.os = s.os ∧ AllBare s'.gens ∧ Un (frs outer) [] H H' s.heap s'.heap ∧ HOk P w H' s'.heap ∧
  Wing s'.heap e (.ref C) (some dx) T .none ∧ H' e = some (exF e C dx) ∧ H' T = none ∧ s.heap.get? e = none ∧ s.heap.objs.size ≤ T ∧ E (.ref C) (some dx) H'
theorem ObjOk.there {P : Program} {w : World} {H : Hp} {h : Heap} {a : Addr} {o : HO} (x : ObjOk P w H h a o) : ∃ ob, h.get? a = some ob := by
  cases o with
  | lst xs => obtain ⟨_, _, _, _, e⟩ := x; exact ⟨_, e⟩
  | tup xs => obtain ⟨_, _, _, ob, e, _⟩ := x; exact ⟨_, e⟩
  | dK kvs => obtain ⟨_, _, _, _, o, _, _, e, _⟩ := x; exact ⟨_, e⟩
  | dT kvs => obtain ⟨_, _, _, _, o, _, _, e, _⟩ := x; exact ⟨_, e⟩
  | set S n => obtain ⟨o, _, _, _, e, _⟩ := x; exact ⟨_, e⟩
  | ins C dx fs => obtain ⟨_, _, _, e, _⟩ := x; exact ⟨_, e⟩
  | own y => exact x
  | xd fs => obtain ⟨_, ⟨_, _, _, e, _⟩, _⟩ := x; exact ⟨_, e⟩
  | rng lo hi => obtain ⟨_, _, _, e⟩ := x; exact ⟨_, e⟩
  | frz ob u => obtain ⟨e, _⟩ := x; exact ⟨_, e⟩
  | tbl ps => exact ⟨_, (show h.get? a = some _ from x)⟩
  | met f y => exact ⟨_, (show h.get? a = some _ from x)⟩
  | ext φ => exact x.2.1
theorem HOk.moved {P : Program} {w : World} {H : Hp} {h h' : Heap} {fs xs : List Addr} {e C dx : Addr} (ok : HOk P w H h) (mv : Moved fs xs h h') (hf : ∀ b ∈ fs, H b = none) (hx : ∀ b ∈ xs, b ≠ e → H b = none) (he : H e = some (exF e C dx))
    (new : ObjOk P w H h' e (exF e C dx)) : HOk P w H h' := fun a o q => by
  by_cases z : a = e
  · subst z; rw [he] at q; cases q; exact new
  · refine (ok a o q).stay (fun b u hb r => mv.keep b u (fun m => ?_) (fun m => ?_) r) (fun _ r => r) fun _ _ r => r
    · have n := hf b m
      rcases hb with rfl | hb
      · rw [n] at q; cases q
      · rw [n] at hb; cases hb
    · have ne : b ≠ e := by
        rcases hb with rfl | hb
        · exact z
        · rintro rfl; rw [he] at hb; cases hb
      have n := hx b m ne
      rcases hb with rfl | hb
      · rw [n] at q; cases q
      · rw [n] at hb; cases hb
theorem HOk.upd_exF {P : Program} {w : World} {H : Hp} {h : Heap} {e C dx : Addr} {vs : Array Value} (ok : HOk P w H h) (me : Mut (H e)) (he : h.get? e = some { cls := .ref C, dict := some dx, data := .fields vs }) : HOk P w (upd H e (exF e C dx)) h :=
  ok.write (e := e) me (.inl rfl) (fun _ _ _ q => q) ⟨_, he⟩ (exF_ok he)
theorem Un.turn {fs ex : List Addr} {H H1 : Hp} {h h1 : Heap} {e : Addr} {o : HO} (u : Un fs ex H H1 h h1) (me : Mut (H1 e)) (hn : h.get? e = none) : Un fs ex H (upd H1 e o) h h1 where
  keep := u.keep
  slot := u.slot
  free := fun b ob q n hx => by rw [upd_ne (fun z => by rw [z, hn] at q; cases q)]; exact u.free b ob q n hx
  there := u.there
  tups := fun b xs q => by
    have r := u.tups b xs q
    rw [upd_ne (fun z => by rw [← z, r] at me; exact me)]; exact r
  frzs := fun b ob v q => by
    have r := u.frzs b ob v q
    rw [upd_ne (fun z => by rw [← z, r] at me; exact me)]; exact r
  tbls := fun b ps q => by
    obtain ⟨more, r⟩ := u.tbls b ps q
    exact ⟨more, by rw [upd_ne (fun z => by rw [← z, r] at me; exact me)]; exact r⟩
theorem Un.moved {fs : List Addr} {H H1 : Hp} {h h1 h2 : Heap} {fr xs : List Addr} (u : Un fs [] H H1 h h1) (mv : Moved fr xs h1 h2) (hf : ∀ b ∈ fr, b ∈ fs ∨ h.get? b = none) (hx : ∀ b ∈ xs, h.get? b = none) : Un fs [] H H1 h h2 where
  keep := fun b o q n hb hx' => mv.keep b o (fun m => by
      rcases hf b m with z | z
      · exact hb z
      · rw [z] at q; cases q) (fun m => by rw [hx b m] at q; cases q) (u.keep b o q n hb hx')
  slot := fun b o q n hb hx' => by
    obtain ⟨sl, e1⟩ := u.slot b o q n hb hx'
    obtain ⟨sl2, e2⟩ := mv.any (fun m => by rw [hx b m] at q; cases q) e1
    exact ⟨sl2, e2⟩
  free := u.free
  there := fun b o q hx' => by
    obtain ⟨o1, e1⟩ := u.there b o q hx'
    exact mv.there b o1 e1
  tups := u.tups
  frzs := u.frzs
  tbls := u.tbls
section
variable {P : Program} {w : World} {K : PySem.W.Frag} {mg : Str → Option Value} {base : Heap} {N : List Str} {qual : Str} {scope : Scope} {f : Addr} {cdv : Value} {A : Around} {outer : List Env} {s₀ : Shared} {H₀ : Hp} {E : XK}
theorem passX : Passes (CXx P w) (cxOf (CXx P w) P w K mg base N qual scope f cdv A outer s₀ H₀ E) E := by
  intro pins σ H s u s' I h
  obtain ⟨e, C, dx, T, H', rfl, hos, hbare, un, hok, wg, heF, hT, ne, nT, hE⟩ := h
  have I' := I.call' (s' := s') (ch := []) hos un hok hbare (fun b z => absurd z (by simp))
  have fr := I'.ok.frames
  refine leave_next (base := base) (L := s₀.heap.objs.size) fr I'.stack rfl wg fun h' T' mv wg' hT' => ?_
  have there : ∀ b, s.heap.get? b = none → s₀.heap.get? b = none := fun b q => by
    cases z : s₀.heap.get? b with
    | none => rfl
    | some o =>
      obtain ⟨o', z'⟩ := I.base.there b o z (by intro m; exact absurd (show b ∈ ([] : List Addr) from m) (by simp))
      rw [q] at z'; cases z'
  have e0 := there e ne
  have T0 : s₀.heap.get? T = none := Heap.get?_none_of_le (Nat.le_trans I.sz nT)
  obtain ⟨vs, he, h1⟩ := wg'.ob
  refine ⟨e, C, dx, T', H', rfl, I'.os, I'.bare, ?_, ?_, wg', heF, hok.fresh hT', e0, Nat.le_trans I'.sz hT', hE⟩
  · refine Un.moved (fr := frs ((cxOf (CXx P w) P w K mg base N qual scope f cdv A outer s₀ H₀ E).stack)) (xs := [e, T]) I'.base mv (fun b m => ?_) (fun b m => ?_)
    · rcases List.mem_cons.mp (I'.stkSub b m) with z | z
      · right; rw [z]; exact Heap.get?_none_of_le (Nat.le_refl _)
      · left; exact z
    · simp at m; rcases m with rfl | rfl
      · exact e0
      · exact T0
  · exact HOk.moved hok mv (fun b m => I'.stkFree b m) (fun b m z => by simp at m; rcases m with rfl | rfl; exact absurd rfl z; exact hT) heF (exF_ok he)
end
theorem Inv.laidN {X : Cx} {pins : List (Addr × Obj)} {σ : St} {H : Hp} {s : Shared} {h' : Heap} {a : Addr} {o : HO} {t' : Nat} (I : Inv X pins σ H s) (k : ∀ b u, s.heap.get? b = some u → h'.get? b = some u) (hn : s.heap.get? a = none)
    (new : ObjOk X.prog X.w (upd H a o) h' a o) : Inv X pins σ (upd H a o) { s with heap := h', toks := t' } := by
  have Ha : H a = none := by
    cases z : H a with
    | none => rfl
    | some o =>
      obtain ⟨ob, z2⟩ := ObjOk.there (I.hok a o z)
      rw [z2] at hn; cases hn
  refine I.un ⟨fun b u q _ _ _ => k b u q, fun b u q _ _ _ => ⟨u.slots, k b u q⟩, fun b u q n _ => by rw [upd_ne (fun z => by rw [z, hn] at q; cases q)]; exact n, fun b u q _ => ⟨u, k b u q⟩,
    fun b xs q => by rw [upd_ne (ne_of_none q Ha)]; exact q, fun b u xs q => by rw [upd_ne (ne_of_none q Ha)]; exact q, fun b ps q => ⟨#[], by rw [upd_ne (ne_of_none q Ha), q]; simp⟩⟩ fun b u q => ?_
  by_cases hb : b = a
  · subst hb; rw [upd_same] at q; cases q; exact new
  · rw [upd_ne hb] at q
    exact (I.hok b u q).stay (fun c v _ r => k c v r) (fun c r => by rw [upd_ne (ne_of_none r Ha)]; exact r) fun c xs r => by rw [upd_ne (ne_of_none r Ha)]; exact r
def spX (C : Addr) (a : Str) : Sp := fun vs H Q _ => ∃ (e : Addr) (n : Int), vs = [.ref e, .int n] ∧ 0 ≤ n ∧ n ≤ 1000000 ∧ H e = some (exO e C none) ∧
  ∀ (dx : Addr) (H' : Hp), H dx = none → H' e = some (exO e C (some dx)) → H' dx = some (.xd [(a, .int n)]) → (∀ b o, H b = some o → b ≠ e → H' b = some o) → Q .non H'
section
variable {X : Cx} {C fI : Addr} {fd : FuncData} {k : Nat} {a : Str} {x : Str} {p cpos pos : Pos} {ea : Expr} {ta : TA} {E : XK}
def tRaise (C : Addr) (a : Str) (E : XK) (ta : TA) : TS := fun _ σ H => ta σ H fun vs H1 => ∃ n : Int, vs = [.int n] ∧ 0 ≤ n ∧ n ≤ 1000000 ∧
  ∀ (dx e : Addr) (H2 : Hp), H1 dx = none → H1 e = none → H2 dx = some (.xd [(a, .int n)]) → (∀ b o, H1 b = some o → H2 b = some o) → E (.ref C) (some dx) H2
theorem makeX {pins : List (Addr × Obj)} {σ : St} {H : Hp} {s : Shared} {n : Int} {u : Value} {R : Value → Shared → Prop} (XC : XCls X.K C fI a) (F : FnOk X.prog X.w X.K X.mg X.base CX0 k fI fd ["self", "number"] (spX C a)) (hb : Binds X.K fd ["self", "number"] [])
    (hr : Room (k + 1) X.A) (I : Inv X pins σ H s) (ru : RelV (.int n) u) (n0 : 0 ≤ n) (n1 : n ≤ 1000000)
    (h : ∀ (e dx : Addr) (H2 : Hp) (s2 : Shared), Inv X pins σ H2 s2 → s.heap.get? e = none → H2 e = some (exO e C (some dx)) → H dx = none → H e = none → H2 dx = some (.xd [(a, .int n)]) → (∀ b o, H b = some o → H2 b = some o) → R (.ref e) s2) :
    wpAny (model X.prog X.w) X.A (call (.ref C) [u]) R X.xe s := by
  obtain ⟨nm, q, N, bs, sn, sub, ab, col, dd, k0, k1, k2, k3, k5, c, d, es, ep, sl, lC, lN, sk, i1, i2, i3, i4, i5⟩ := XC.ob
  have hC := I.kIn _ _ lC
  have hN : s.heap.Ns N (nsFind es) := ⟨_, es, ep, I.kIn _ _ lN, rfl, strKeys_ok sk, fun _ => rfl⟩
  have hi : nsFind es "__init__" = some (.ref fI) := nsFind_in lN i1
  obtain ⟨oI, lI, cI⟩ : ∃ oI, X.K.lookup fI = some oI ∧ oI.cls = .type "function" := by
    have := XC.fn
    unfold PySem.W.isFn at this
    have := beq_iff_eq.mp this
    unfold PySem.W.typeIn at this
    exact Option.map_eq_some_iff.mp this
  obtain ⟨hh, g, dr, tk, os⟩ := s
  refine wpAny_call_exc_init PySem.F.excBase_ValueError hC hN hi (I.kIn _ _ lI) cI (fun h' e hm => ?_) (by show 1 ≤ sizeLine; decide)
  obtain ⟨t, he, ht, htt⟩ := hm.there
  have He : H e = none := by
    cases z : H e with
    | none => rfl
    | some o =>
      obtain ⟨ob, z2⟩ := ObjOk.there (I.hok e o z)
      have := hm.new
      rw [z2] at this; cases this
  have I1 : Inv X pins σ (upd H e (exO e C none)) ⟨h', g, dr, tk, os⟩ := I.laidN (a := e) (o := exO e C none) (t' := tk) hm.keeps hm.new (exO_ok he rfl rfl)
  refine wpAny_call (codeAny_mono (F.run _ X.stack _ (upd H e (exO e C none)) ⟨[.ref e, u], []⟩ [.ref e, u] [.ref e, .int n]
    (fun v H2 => v = .non ∧ ∃ dx, H2 e = some (exO e C (some dx)) ∧ H dx = none ∧ H2 dx = some (.xd [(a, .int n)]) ∧ ∀ b o, H b = some o → H2 b = some o) E0
    (hr.make C [u] []) (I1.env0.make C [u] []) (hb _ [.ref e, u] I1.kIn rfl) (.cons rfl (.cons ru .nil)) ?_) fun r s' hq => ?_)
  · refine ⟨e, n, rfl, n0, n1, upd_same, fun dx H' hdx h1 h2 h3 => ⟨rfl, dx, h1, ?_, h2, fun b o q => h3 b o ?_ (ne_of_none q He)⟩⟩
    · have ne : dx ≠ e := fun z => by rw [z, upd_same] at hdx; cases hdx
      rw [upd_ne ne] at hdx; exact hdx
    · rw [upd_ne (ne_of_none q He)]; exact q
  · cases r with
    | error z => exact False.elim hq
    | ok fl =>
      cases fl with
      | ret v =>
        obtain ⟨v', H2, I2, rv, ev, dx, q1, q2, q3, q4⟩ := I1.after hq
        subst ev
        exact ⟨rv, h e dx H2 s' I2 hm.new q1 q2 He q3 q4⟩
      | next => exact False.elim hq
      | brk => exact False.elim hq
      | cont => exact False.elim hq
def RaiseOk (X : Cx) (E : XK) : Prop := ∀ (pins : List (Addr × Obj)) (σ : St) (H : Hp) (s : Shared) (e C dx : Addr), Inv X pins σ H s → H e = some (exO e C (some dx)) → X.s₀.heap.get? e = none → E (.ref C) (some dx) (upd H e (exF e C dx)) → X.xe (.ref e) s
theorem ps_raiseC (XC : XCls X.K C fI a) (F : FnOk X.prog X.w X.K X.mg X.base CX0 k fI fd ["self", "number"] (spX C a)) (hb : Binds X.K fd ["self", "number"] []) (hr : Room (k + 1) X.A) (hg : Gl X x) (hm : X.mg x = some (.ref C)) (hc : X.calm = true) (hx : X.ex = [])
    (ok : RaiseOk X E) (ha : PA X [ea] ta) (hdb : (x == ("__debug__" : Str)) = false := by decide) (he : starEach [ea] X.env = [(false, eval ea X.env)] := by rfl) :
    PS X (.Raise (some (.Call (.Name x p) [ea] [] cpos)) none pos) (tRaise C a E ta) := by
  intro pins s σ H D I h
  obtain ⟨nm, q, N, bs, sn, sub, ab, col, dd, k0, k1, k2, k3, k5, c, d, es, ep, sl, lC, lN, sk, i1, i2, i3, i4, i5⟩ := id XC.ob
  refine Raise_own_stmt (C := C) (nm := nm) (q := q) (N := N) (bs := bs) (bm := bmV) (hdct := true) (sn := sn) (sub := sub) (ab := ab) (col := col) (dd := dd) (k0 := k0) (k1 := k1) (k2 := k2) (k3 := k3) (k5 := k5) (newId := "ValueError.__new__") (by decide +kernel) (by decide +kernel) (I.ok.hd hc) ?_
  refine wpAny_Call_Name_kw (ld_glob I hg hm ?_ hdb)
  refine PySem.W.callWith_K (h₀ := X.base) I.ok.mod.kin XC.kp (thn (ha cpos pins s σ H _ I h) fun us s1 hq => ⟨?_, ?_⟩) he rfl
  · obtain ⟨vs, H1, I1, r, q1⟩ := hq
    exact I1.kIn
  · obtain ⟨vs, H1, I1, r, n, rfl, n0, n1, q1⟩ := hq
    obtain ⟨u, rfl, ru⟩ := vals1 r
    refine makeX XC F hb hr I1 ru n0 n1 fun e dx H2 s2 I2 ne h1 h2 h2' h3 h4 => ?_
    obtain ⟨⟨vs, hv, ⟨t, hv0⟩, hv1⟩, _⟩ := I2.hok e _ h1
    refine ⟨e, some dx, vs, rfl, I2.kIn _ _ lC, hv, hv1, ok pins σ H2 s2 e C dx I2 h1 ?_ (q1 dx e _ h2 h2' ?_ fun b o z => ?_)⟩
    · cases z : X.s₀.heap.get? e with
      | none => rfl
      | some o =>
        obtain ⟨o', z'⟩ := I1.base.there e o z (by rw [hx]; simp)
        rw [ne] at z'; cases z'
    · rw [upd_ne (ne_of h3 h1 (by intro z; cases z))]; exact h3
    · rw [upd_ne (ne_of_none z h2')]; exact h4 b o z
end
section
variable {P : Program} {w : World} {K : PySem.W.Frag} {mg : Str → Option Value} {base : Heap} {N : List Str} {qual : Str} {scope : Scope} {f : Addr} {cdv : Value} {A : Around} {outer : List Env} {s₀ : Shared} {H₀ : Hp} {E : XK}
theorem raiseX : RaiseOk (cxOf (CXx P w) P w K mg base N qual scope f cdv A outer s₀ H₀ E) E := by
  intro pins σ H s e C dx I he e0 hE
  obtain ⟨⟨vs, hv, ⟨t, hv0⟩, hv1⟩, _⟩ := I.hok e _ he
  have me : Mut (H e) := by rw [he]; exact True.intro
  refine leave_first (base := base) (L := s₀.heap.objs.size) I.ok.frames I.stack rfl hv hv1 fun h' T mv wg hT => ?_
  obtain ⟨vs', hv', _⟩ := wg.ob
  have nfr : ∀ b ∈ frs (cxOf (CXx P w) P w K mg base N qual scope f cdv A outer s₀ H₀ E).stack, upd H e (exF e C dx) b = none := fun b m => by
    have z := I.stkFree b m
    rw [upd_ne (fun q => by rw [q, he] at z; cases z)]; exact z
  refine ⟨e, C, dx, T, upd H e (exF e C dx), rfl, I.os, I.bare, ?_, ?_, wg, upd_same, ?_, e0, Nat.le_trans I.sz hT, hE⟩
  · refine Un.moved (fr := frs ((cxOf (CXx P w) P w K mg base N qual scope f cdv A outer s₀ H₀ E).stack)) (xs := [e]) (I.base.turn me e0) mv (fun b m => ?_) (fun b m => ?_)
    · rcases List.mem_cons.mp (I.stkSub b m) with z | z
      · right; rw [z]; exact Heap.get?_none_of_le (Nat.le_refl _)
      · left; exact z
    · simp at m; subst m; exact e0
  · exact HOk.moved (I.hok.upd_exF me hv) mv nfr (fun b m z => by simp at m; exact absurd m z) upd_same (exF_ok hv')
  · rw [upd_ne wg.ne]; exact I.hok.fresh hT
end
end L2
namespace L2
open PySem PySem.Spec PyProof.Rows
section
variable {X : Cx} {e o value : Expr} {es : List Expr} {te ta tv : TE} {t : TA} {p fp pos apos cpos pos' : Pos} {x y : Str} {j1 j2 : Nat} {C fI : Addr} {a : Str}
theorem pe_fstr {q1 q2 : Pos} (he : PE X e te) (hx : x.length ≤ 1000) (hy : y.length ≤ 1000) :
    PE X (.JoinedStr [.Constant (.str x) j1 q1, .FormattedValue e (-1) none fp, .Constant (.str y) j2 q2] pos) (fun σ H Q => te σ H fun v H1 => ∃ n : Int, v = .int n ∧ 0 ≤ n ∧ n ≤ 1000000 ∧ ∀ z : Str, Q (.str z) H1) := by
  intro pins s σ H Q I h
  have sz : sizeLine = 16777216 := sizeLine_eq
  have e0 : Str.empty.length = 0 := rfl
  refine JoinedStr_many (joinParts_cons (Calls.Constant_str ⟨?_, ?_⟩))
  · rw [strLen_append, e0, sz]; omega
  refine joinParts_cons (FormattedValue_plain (thn (he pins _ σ H _ (I.tok _) h) fun u s1 ⟨v, H1, I1, r1, n, ev, n0, n1, q⟩ => ?_))
  subst ev
  obtain ⟨tk, rfl⟩ := r1
  have hb : n.natAbs.log2 < 20 := by
    by_cases z : n.natAbs = 0
    · rw [z]; decide
    · exact (Nat.log2_lt z).mpr (by omega)
  have hl := int_text_length_le (a := n) (k := 20) (by decide) hb
  have hl' : (Str.ofString (toString n)).length = (toString n).length := PySem.ofString_length _
  refine formatField_int_small (by omega) ⟨?_, ?_⟩
  · rw [strLen_append, strLen_append, e0, hl', sz]; omega
  refine joinParts_cons (Calls.Constant_str ⟨?_, ?_⟩)
  · rw [strLen_append, strLen_append, strLen_append, e0, hl', sz]; omega
  exact joinParts_nil ⟨.str _, H1, I1.tok _, ⟨_, rfl⟩, q _⟩ (by rw [strLen_append, strLen_append, strLen_append, e0, hl', sz]; omega)
theorem upd_self {H : Hp} {b : Addr} {o : HO} (h : H b = some o) : upd H b o = H := by
  funext c
  by_cases z : c = b
  · rw [z, upd_same, h]
  · rw [upd_ne z]
theorem find_binit (K : PySem.W.Frag) : PySem.W.findCls K (.type "ValueError") (.type "type") "__init__" = some (.val (.builtin "ValueError.__init__")) := by kernel_rfl
theorem pe_binit {pl : Sem Bool} (XC : XCls X.K C fI a) (hg : Gl X "ValueError") (hm : X.mg "ValueError" = none) (ha : PA X (e :: es) t)
    (hst : starEach (e :: es) X.env = (false, eval e X.env) :: starEach es X.env := by rfl) (hpl : (backTo cpos (starEach es X.env)).any (·.1) = false := by rfl)
    (ht : eval (.Call (.Attribute (.Name "ValueError" p) "__init__" apos) (e :: es) [] cpos) X.env = (do
      let ov ← eval (.Name "ValueError" p) X.env
      standAt apos.atName
      let (f, first) ← holding [ov] (getMethod ov "__init__" pl)
      callWith cpos f first (backTo cpos (starEach (e :: es) X.env)) (backToKw cpos (keywordEach [] X.env))) := by rfl) :
    PE X (.Call (.Attribute (.Name "ValueError" p) "__init__" apos) (e :: es) [] cpos) (fun σ H Q => t σ H fun vs H1 => ∃ b z dd, vs = [.ref b, .str z] ∧ H1 b = some (exO b C dd) ∧ Q .non H1) := by
  intro pins s σ H Q I h
  obtain ⟨nm, q, N, bs, sn, sub, ab, col, dd, k0, k1, k2, k3, k5, c, d, es', ep, sl, lC, lN, sk, i1, i2, i3, i4, i5⟩ := id XC.ob
  refine PySem.W.methodCall_KW (pl := pl) (ld_blt I hg hm (u := .type "ValueError") PyProof.Rows.Boot.«ValueError» ?_ (by decide +kernel) (by decide)) ht
  obtain ⟨m, F⟩ := I.fr
  refine PySem.W.method_type F I.mod.kin (by kernel_rfl) (by decide +kernel) (find_binit X.K) (by decide +kernel) ?_
  refine PyProof.Rows.callWith_builtin1 (thn (ha cpos pins _ σ H _ (I.tok _) h) fun us s1 ⟨vs, H1, I1, r1, b, z, dx, ev, hb, q1⟩ => ?_) hst hpl
  subst ev
  obtain ⟨u1, u2, rfl, ru1, ru2⟩ := vals2 r1
  obtain rfl : u1 = Value.ref b := ru1
  obtain ⟨⟨ws, hw, ⟨t0, hw0⟩, hw1⟩, _⟩ := I1.hok b _ hb
  obtain ⟨hh, g, dr, tk, os⟩ := s1
  refine base_init PySem.F.excBase_ValueError (I1.kIn _ _ lC) hw hw0 ?_ (by show 1 ≤ sizeLine; decide)
  have he2 := Heap.get?_push_of_some (h := hh) { cls := .type "tuple", data := .seq [u2].toArray } hw
  obtain ⟨mv, self⟩ := moved_field (h := hh.push { cls := .type "tuple", data := .seq [u2].toArray }) (k := 0) (v := .ref hh.objs.size) he2 rfl
  have hz := (Array.getElem?_eq_some_iff.mp hw0).1
  have I2 := I1.write (x := b) (e := b) (o := exO b C dx) (t' := tk) (h' := (hh.push { cls := .type "tuple", data := .seq [u2].toArray }).update b (Obj.mapFields (·.setIfInBounds 0 (.ref hh.objs.size)))) (by rw [hb]; exact True.intro) (.inl rfl)
    (fun c o hc q => mv.keep c o (by simp) (by simp [hc]) (Heap.get?_push_of_some _ q)) ⟨_, self⟩ (exO_ok (t := hh.objs.size) self (by simp [hz]) (by rw [Array.getElem?_setIfInBounds_ne (by decide)]; exact hw1))
  rw [upd_self hb] at I2
  exact ⟨.non, H1, I2, rfl, q1⟩
theorem ps_fldX (XC : XCls X.K C fI a) (ha : PE X o ta) (hv : PE X value tv) (hs : swapsWith value (some (.Attribute o a pos')) pos.line X.env = pure false) :
    PS X (.Assign [.Attribute o a pos'] value pos) (fun D σ H => tv σ H fun y H1 => ta σ H1 fun x H2 => ∃ b, x = .ref b ∧ H2 b = some (exO b C none) ∧ ∀ dx, H2 dx = none → D.nx σ (upd (upd H2 dx (.xd [(a, y)])) b (exO b C (some dx)))) := by
  intro pins s σ H D I h
  obtain ⟨nm, q, N, bs, sn, sub, ab, col, dd, k0, k1, k2, k3, k5, c, d, es', ep, sl, lC, lN, sk, i1, i2, i3, i4, i5⟩ := id XC.ob
  refine plainObj_wpAny_Assign_Attribute (thn (hv pins s σ H _ I h) fun u s1 ⟨y, H1, I1, ry, q⟩ => thn (ha pins s1 σ H1 _ I1 q) fun ov s2 ⟨x, H2, I2, rx, b, ex, eb, q2⟩ => ?_) hs
  subst ex
  obtain rfl : ov = Value.ref b := rx
  obtain ⟨⟨ws, hw, ⟨t0, hw0⟩, hw1⟩, _⟩ := I2.hok b _ eb
  have hN : s2.heap.Ns N (nsFind es') := ⟨_, es', ep, I2.kIn _ _ lN, rfl, strKeys_ok sk, fun _ => rfl⟩
  have hC := I2.kIn _ _ lC
  obtain ⟨hh, g, dr, tk, os⟩ := s2
  refine xset_attr PySem.F.store_ValueError hC hN (nsFind_in lN i4) (nsFind_in lN i5) XC.lk hw fun h' u' a1 a2 a3 => ?_
  have fr : H2 hh.objs.size = none := I2.hok.fresh (Nat.le_refl _)
  have ne : hh.objs.size ≠ b := fun z => by rw [z, eb] at fr; cases fr
  have nb : ∀ c, H2 c = none → c ≠ b := fun c n z => by rw [z, eb] at n; cases n
  have nd : ∀ c o, hh.get? c = some o → c ≠ hh.objs.size := fun c o q => Nat.ne_of_lt (Heap.lt_size q)
  have nt : ∀ c o, H2 c = some o → c ≠ hh.objs.size := fun c o q => ne_of_none q fr
  have un : Un X.fs [] H2 (upd (upd H2 hh.objs.size (.xd [(a, y)])) b (exO b C (some hh.objs.size))) hh h' := by
    refine ⟨fun c o q n _ _ => a3 c o (nb c n) q, fun c o q n _ _ => ⟨o.slots, a3 c o (nb c n) q⟩, fun c o q n _ => ?_, fun c o q _ => ?_, fun c xs q => ?_, fun c o v q => ?_, fun c ps q => ⟨#[], ?_⟩⟩
    · rw [upd_ne (nb c n), upd_ne (nd c o q)]; exact n
    · by_cases z : c = b
      · rw [z]; exact ⟨_, a1⟩
      · exact ⟨o, a3 c o z q⟩
    · rw [upd_ne (ne_of q eb (by intro z; cases z)), upd_ne (nt c _ q)]; exact q
    · rw [upd_ne (ne_of q eb (by intro z; cases z)), upd_ne (nt c _ q)]; exact q
    · rw [upd_ne (ne_of q eb (by intro z; cases z)), upd_ne (nt c _ q), q]; simp
  have I3 := I2.un (t' := u') un fun c oc q => ?_
  · exact ⟨σ, _, I3, q2 _ fr⟩
  · by_cases z : c = b
    · subst z; rw [upd_same] at q; cases q; exact exO_ok a1 hw0 hw1
    · rw [upd_ne z] at q
      by_cases z2 : c = hh.objs.size
      · subst z2; rw [upd_same] at q; cases q
        refine ⟨_, a2, fun f => ?_⟩
        show RelO (List.lookup f [(a, y)]) (if f = a then some u else none)
        by_cases z3 : f = a
        · subst z3
          rw [if_pos rfl]
          have : List.lookup f [(f, y)] = some y := by simp [List.lookup]
          rw [this]; exact ry
        · rw [if_neg z3]
          have : List.lookup f [(a, y)] = none := by
            have hb : (f == a) = false := beq_eq_false_iff_ne.mpr z3
            simp only [List.lookup, hb]
          rw [this]; exact True.intro
      · rw [upd_ne z2] at q
        refine (I2.hok c oc q).stay (fun c' v hc r => a3 c' v ?_ r) (fun c' r => ?_) fun c' xs r => ?_
        · rcases hc with hc | hc
          · rw [hc]; exact z
          · rintro rfl; rw [eb] at hc; cases hc
        · rw [upd_ne (ne_of r eb (by intro z; cases z)), upd_ne (nt c' _ r)]; exact r
        · rw [upd_ne (ne_of r eb (by intro z; cases z)), upd_ne (nt c' _ r)]; exact r
end
end L2
namespace L2
open PySem PySem.Spec PyProof.Rows
section
variable {X : Cx} {pins : List (Addr × Obj)} {σ : St} {H : Hp} {s : Shared} {e C dx T : Addr} {h' : Heap}
theorem Inv.moved {t' : Nat} (I : Inv X pins σ H s) (mv : Moved (frs X.stack) [e, T] s.heap h') (he : H e = some (exF e C dx)) (fp : FpOk X pins H T) (new : ObjOk X.prog X.w H h' e (exF e C dx)) : Inv X pins σ H { s with heap := h', toks := t' } := by
  obtain ⟨hT, t1, t2, t3, t4, t5⟩ := fp
  refine I.call (g' := s.gens) (d' := s.drawn) (ch := [T]) ⟨fun b o q n hb hx => mv.keep b o hb (fun m => ?_) q, fun b o q n hb hx => mv.any (fun m => ?_) q, fun b o q n hx => n, fun b o q hx => mv.there b o q, fun _ _ q => q, fun _ _ _ q => q, fun b ps q => ⟨#[], by rw [q]; simp⟩⟩ ?_ I.bare (fun b m => ?_)
  · simp at m hx
    rcases m with rfl | rfl
    · rw [he] at n; cases n
    · exact hx rfl
  · simp at m hx
    rcases m with rfl | rfl
    · rw [he] at n; cases n
    · exact hx rfl
  · exact HOk.moved I.hok mv (fun b m => I.stkFree b m) (fun b m z => by simp at m; rcases m with rfl | rfl; exact absurd rfl z; exact hT) he new
  · simp at m; subst m; exact ⟨t3, t1, t4, t5⟩
abbrev Cx.caught (X : Cx) (e : Addr) : Cx := { X with A := X.A.mark (some (.ref e)), calm := false, xe := fun _ _ => False }
theorem Cx.Ok.caught (ok : X.Ok) (e : Addr) : (X.caught e).Ok :=
  ⟨ok.mod, ok.kind, ok.glob, ok.blt, ok.above, ok.inj, ok.has, ok.cab, fun z => (Bool.false_ne_true z).elim, ok.frames, ok.stk, ok.exf, ok.bs, ok.bsz, ok.noex, ok.exfs, ok.funs, ok.frf⟩
theorem Inv.caught (I : Inv X pins σ H s) (e : Addr) : Inv (X.caught e) pins σ H s := ⟨I.ok.caught e, I.os, I.bare, I.base, I.loc, I.cell, I.free, I.freeC, I.pin, I.hok, I.len⟩
theorem Inv.uncaught (I : Inv (X.caught e) pins σ H s) (ok : X.Ok) : Inv X pins σ H s := ⟨ok, I.os, I.bare, I.base, I.loc, I.cell, I.free, I.freeC, I.pin, I.hok, I.len⟩
theorem unbind_ok {M : Model} {A : Around} {E : Value → Shared → Prop} {i : Nat} {x : Str} {v : V} {Q : Unit → Shared → Prop} (I : Inv X pins σ H s) (hN : X.N.Nodup) (hi : X.N[i]? = some x) (hx : X.env.scope.names.lookup x = some .local) (hv : σ[i]? = some (some v))
    (h : ∀ s', Inv X pins (σ.set i none) H s' → Q () s') : wpAny M A (unbindName X.env x) Q E s := by
  obtain ⟨m, hn, hl⟩ := id I.loc
  obtain ⟨u, r, lk⟩ := hl i x v hi hv (.inl hx)
  have hk : X.env.kindOf x = some .local := hx
  have hm : m x = some u := by
    rcases lk with ⟨_, z⟩ | ⟨z, _⟩
    · exact z
    · rw [hk] at z; rcases z with z | z <;> cases z
  have hiσ : i < σ.length := by rw [I.len]; exact (List.getElem?_eq_some_iff.mp hi).1
  refine wpAny_unbindName_local hk hn hm (by rw [I.ok.kind]; rfl) fun h' u' hn' hs => ?_
  obtain ⟨oL, _, _, hoL, _⟩ := id hn
  have lt : ∀ b o, X.s₀.heap.get? b = some o → b ≠ X.env.locals := fun b o e => Nat.ne_of_lt (Nat.lt_of_lt_of_le (Heap.lt_size e) I.ok.above)
  refine h _ ⟨I.ok, I.os, I.bare, ⟨fun b o e n hb hx => (hs.2 b (lt b o e)).trans (I.base.keep b o e n hb hx), fun b o e n hb hx => ?_, I.base.free, fun b o e hx => ?_, I.base.tups, I.base.frzs, I.base.tbls⟩, ⟨_, hn', fun j y v' e1 e2 e3 => ?_⟩, fun y c e => ?_, I.free, I.freeC, fun p hp => ?_, fun b ob e => ?_, by simpa using I.len⟩
  · obtain ⟨sl, z⟩ := I.base.slot b o e n hb hx
    exact ⟨sl, (hs.2 b (lt b o e)).trans z⟩
  · obtain ⟨o', z⟩ := I.base.there b o e hx
    exact ⟨o', (hs.2 b (lt b o e)).trans z⟩
  · have hj : j ≠ i := fun z => by
      subst z
      rw [List.getElem?_set_self hiσ] at e2
      cases e2
    rw [List.getElem?_set_ne (Ne.symm hj)] at e2
    obtain ⟨u2, r2, q⟩ := hl j y v' e1 e2 e3
    refine ⟨u2, r2, ?_⟩
    rcases q with ⟨k, e⟩ | ⟨k, c, e, z⟩
    · refine .inl ⟨k, ?_⟩
      have : y ≠ x := fun e => hj (nodup_ix hN e1 (e ▸ hi))
      simp [this, e]
    · exact .inr ⟨k, c, e, z.sameBut hs (I.cne y c e)⟩
  · obtain ⟨w', z⟩ := I.cell y c e
    exact ⟨w', z.sameBut hs (I.cne y c e)⟩
  · obtain ⟨e, n, ne, nf, d⟩ := I.pin p hp
    exact ⟨(hs.2 p.1 ne).trans e, n, ne, nf, d⟩
  · refine (I.hok b ob e).stay (fun c w' hc q => (hs.2 c ?_).trans q) (fun _ q => q) fun _ _ q => q
    rintro rfl
    have := I.free
    rcases hc with rfl | hc
    · rw [this] at e; cases e
    · rw [this] at hc; cases hc
end
def tTry (sp : Sp) (C : Addr) (i j : Nat) (t : TA) (ts : TS) : TS := fun D σ H => t σ H fun vs H1 => sp vs H1 (fun v H2 => D.nx (σ.set i (some v)) H2) fun c dd H2 => c = .ref C ∧ ∃ dx, dd = some dx ∧
  ∀ e, H2 e = some (exF e C dx) → ts { nx := fun σ' H' => D.nx (σ'.set j none) H', rt := D.rt, bk := fun σ' H' => D.bk (σ'.set j none) H', ct := fun σ' H' => D.ct (σ'.set j none) H' } (σ.set j (some (.ref e))) H2
section
variable {X : Cx} {k : Nat} {f C fI : Addr} {fd : FuncData} {ps : List Str} {sp : Sp} {x y n cx a : Str} {p py np pos apos cpos hpos : Pos} {ea : Expr} {es : List Expr} {t : TA} {ts : TS} {i j : Nat} {b₀ : Stmt} {suite : List Stmt}
theorem ps_tryC (XC : XCls X.K C fI a) (F : FnOk X.prog X.w X.K X.mg X.base (CXx X.prog X.w) k f fd ps sp) (hr : Room k X.A) (hg : Gl X x) (hm : X.mg x = some (.ref f)) (hk : PySem.W.keepIn X.K (.ref f) = true) (hb : Binds X.K fd ps [])
    (ha : ∀ E, PA (X.wish E) (ea :: es) t) (hgc : Gl X cx) (hmc : X.mg cx = some (.ref C)) (hN : X.N.Nodup) (hi : X.N[i]? = some y) (hy : X.env.scope.names.lookup y = some .local) (hj : X.N[j]? = some n) (hn : X.env.scope.names.lookup n = some .local)
    (hst : X.stack = X.env :: X.outer) (hL : X.env.frame = some X.env.locals)
    (hsu : ∀ e, PSs (X.caught e) (b₀ :: suite) ts)
    (hd1 : (x == ("__debug__" : Str)) = false := by decide) (hd2 : (cx == ("__debug__" : Str)) = false := by decide)
    (he : starEach (ea :: es) X.env = (false, eval ea X.env) :: starEach es X.env := by rfl) (hpl : (backTo cpos (starEach es X.env)).any (·.1) = false := by rfl)
    (hs : swapsWith (.Call (.Name x p) (ea :: es) [] cpos) (some (.Name y py)) apos.line X.env = pure false := by rfl) :
    PS X (.Try [.Assign [.Name y py] (.Call (.Name x p) (ea :: es) [] cpos) apos] [.ExceptHandler (some (.Name cx np)) (some n) (b₀ :: suite) hpos] [] [] pos) (tTry sp C i j t ts) := by
  intro pins s σ H D I h
  obtain ⟨nm, q, N, bs, sn, sub, ab, col, dd, k0, k1, k2, k3, k5, c, d, es', ep, sl, lC, lN, sk, i1, i2, i3, i4, i5⟩ := id XC.ob
  refine wpAny_Try_except ?_
  generalize hE : (fun (e : Value) (s₁ : Shared) => wpAny (model X.prog X.w) X.A (noteFrame e X.env) (fun _ s₂ => wpAny (model X.prog X.w) X.A (setFlight e none) (fun _ s₃ => wpAny (model X.prog X.w) X.A (handleBy e X.env [.ExceptHandler (some (.Name cx np)) (some n) (b₀ :: suite) hpos]) (SP X pins D) X.xe s₃) X.xe s₂) X.xe s₁) = EE
  refine wpAny_execs_cons (wpAny_Assign_Name ?_ hs)
  refine wpAny_Call_Name_kw (ld_glob I hg hm ?_ hd1)
  refine PySem.W.callWith_K (h₀ := X.base) I.ok.mod.kin hk (thn (ha EE cpos pins s σ H _ (I.wish EE) h) fun us s1 ⟨vs, H1, I1', r, q1⟩ => ⟨I1'.unwish.kIn, ?_⟩) he hpl
  have I1 := I1'.unwish
  have hl : us.length = ps.length := by rw [← r.length]; exact F.len _ _ _ _ q1
  refine wpAny_call (codeAny_mono (F.run X.A X.stack s1 H1 ⟨us, []⟩ us vs _ _ hr I1.env0 (by have := hb s1 us I1.kIn (by rw [List.append_nil]; exact hl); rw [List.append_nil] at this; exact this) r q1) fun res s' hq => ?_)
  cases res with
  | ok fl =>
    cases fl with
    | ret u =>
      obtain ⟨v, H2, I2, rv, q2⟩ := I1.after hq
      exact store_ok I2 hN hi (.inl hy) rv (fun s3 I3 => wpAny_execs_nil (wpAny_execs_nil ⟨_, H2, I3, q2⟩)) (.inr hy)
    | next => exact False.elim hq
    | brk => exact False.elim hq
    | cont => exact False.elim hq
  | error z =>
    obtain ⟨e, C', dx, T, H2, rfl, hos, hbare, un, hok, wg, heF, hT, ne, nT, ec, dx', edx, hts⟩ := hq
    cases ec; cases edx
    have I2 := I1.call' (s' := s') (ch := []) hos un hok hbare (fun b z => absurd z (by simp))
    have hts := hts e heF
    rw [← hE]
    have fr : X.A.frames = some (X.env :: X.outer) := by rw [← hst]; exact I.ok.frames
    have fn : s'.heap.FunFrames X.base (X.env :: X.outer) := by rw [← hst]; exact I2.stack
    refine note_next fr fn hL wg fun h3 T3 mv3 wg3 hT3 => ?_
    refine land wg3 fun h4 mv4 wg4 => ?_
    have mv : Moved (frs X.stack) [e, T] s'.heap h4 := by
      rw [hst]
      exact (mv3.trans (mv4.mono (by simp))).drop fun b m => by
        rcases List.mem_append.mp m with q | q
        · exact .inl q
        · simp at q; subst q; exact .inr (Heap.get?_none_of_le hT3)
    obtain ⟨vs4, hv4, _⟩ := wg4.ob
    have I4 : Inv X pins σ H2 { s' with heap := h4 } := I2.moved (t' := s'.toks) mv heF (I1.fpOk nT hT) (exF_ok hv4)
    have T3n : H2 T3 = none := I2.hok.fresh hT3
    refine wpAny_handleBy_cons (codeAny_handlers_test ?_) (by intro z; cases z)
    refine ld_glob (X := X.caught e) (I4.caught e) hgc hmc ?_ hd2
    refine wpAny_excMatches_sub_self (I4.kIn _ _ lC) hv4 rfl (by decide +kernel) ?_
    refine codeAny_handlers_suite_as ?_
    refine land wg4 fun h5 mv5 wg5 => ?_
    obtain ⟨vs5, hv5, _⟩ := wg5.ob
    have I5 : Inv X pins σ H2 { s' with heap := h5 } := I4.moved (T := T3) (t' := s'.toks) ((mv5.mono (by simp)).drop fun b m => .inl (by simp at m; simp [m])) heF (I2.fpOk hT3 T3n) (exF_ok hv5)
    refine store_ok I5 hN hj (.inl hn) (v := .ref e) rfl (fun s6 I6 => ?_) (.inr hn)
    refine wpAny_mono (hsu e pins s6 _ H2 _ (I6.caught e) hts) (fun fl s7 hq => ?_) fun _ _ z => False.elim z
    have fin : ∀ {σ7 : St} {H7 : Hp}, Inv (X.caught e) pins σ7 H7 s7 → ∀ {R : Shared → Prop}, (∀ s8, Inv X pins (σ7.set j none) H7 s8 → R s8) → wpAny (model X.prog X.w) X.A (do bindName X.env n .none; unbindBehindTheSuite X.env n hpos) (fun _ s8 => R s8) X.xe s7 := fun {σ7 H7} I7 {R} hR => by
      have I7 := I7.uncaught I.ok
      have hj7 : j < σ7.length := by rw [I7.len]; exact (List.getElem?_eq_some_iff.mp hj).1
      refine wpAny_bind (wpAny_bindName (store_ok I7 hN hj (.inl hn) (v := .non) rfl (fun s8 I8 => ?_) (.inr hn)))
      unfold unbindBehindTheSuite
      refine wpAny_onRaise (unbind_ok (v := .non) I8 hN hj hn (by rw [List.getElem?_set_self hj7]) fun s9 I9 => hR s9 ?_)
      rw [List.set_set] at I9
      exact I9
    cases fl with
    | next => obtain ⟨σ7, H7, I7, q7⟩ := hq; exact fin I7 fun s8 I8 => ⟨_, _, I8, q7⟩
    | brk => obtain ⟨σ7, H7, I7, q7⟩ := hq; exact fin I7 fun s8 I8 => ⟨_, _, I8, q7⟩
    | cont => obtain ⟨σ7, H7, I7, q7⟩ := hq; exact fin I7 fun s8 I8 => ⟨_, _, I8, q7⟩
    | ret u => obtain ⟨v, σ7, H7, I7, rv, q7⟩ := hq; exact fin I7 fun s8 I8 => ⟨v, _, _, I8, rv, q7⟩
theorem pe_fldX {o : Expr} {ta : TE} (XC : XCls X.K C fI a) (ho : PE X o ta) (hb : attributeBase o a X.env (eval o X.env) = eval o X.env) :
    PE X (.Attribute o a pos) (fun σ H Q => ta σ H fun x H1 => ∃ e dx v, x = .ref e ∧ H1 e = some (exF e C dx) ∧ H1 dx = some (.xd [(a, v)]) ∧ Q v H1) := by
  intro pins s σ H Q I h
  obtain ⟨nm, q, N, bs, sn, sub, ab, col, dd, k0, k1, k2, k3, k5, c, d, es', ep, sl, lC, lN, sk, i1, i2, i3, i4, i5⟩ := id XC.ob
  refine attr_of hb (thn (ho pins s σ H _ I h) fun ov s1 ⟨x, H1, I1, rx, e, dx, v, ex, he, hx, q1⟩ => ?_)
  subst ex
  obtain rfl : ov = Value.ref e := rx
  obtain ⟨⟨ws, hw⟩, _⟩ := I1.hok e _ he
  obtain ⟨mA, nsA, rel⟩ : ∃ mA, s1.heap.Ns1 dx mA ∧ ∀ f, RelO ([(a, v)].lookup f) (mA f) := I1.hok dx _ hx
  have ha : [(a, v)].lookup a = some v := by simp [List.lookup]
  obtain ⟨u, hu, ru⟩ := RelO.some_of (v := v) (o := mA a) (by rw [← ha]; exact rel a)
  have ne : dx ≠ e := ne_of hx he (by intro z; cases z)
  have hN : s1.heap.Ns N (nsFind es') := ⟨_, es', ep, I1.kIn _ _ lN, rfl, strKeys_ok sk, fun _ => rfl⟩
  have hC := I1.kIn _ _ lC
  obtain ⟨hh, g, dr, tk, os⟩ := s1
  exact xget_attr PySem.F.excAttr_ValueError (by kernel_rfl) (by rw [typeLookup_type, builtinLookup_eq_fast]; kernel_rfl) (by decide +kernel) hC hN (nsFind_in lN i2) (nsFind_in lN i3) (nsFind_in lN i5) XC.lk
    ⟨_, hw, rfl, (fun c z => by cases z), .inr ⟨dx, rfl, ne, nsA⟩⟩ hu (PySem.W.handedOut_of (handed_of ru)) ⟨v, H1, I1.tok _, ru, q1⟩
end
end L2
namespace L2
open PySem PySem.Spec PyProof.Rows
def tTryX (sp : Sp) (C : Addr) (j : Nat) (t : TA) (ts : TS) : TS := fun D σ H => t σ H fun vs H1 => sp vs H1 (fun v H2 => D.nx σ H2) fun c dd H2 => c = .ref C ∧ ∃ dx, dd = some dx ∧
  ∀ e, H2 e = some (exF e C dx) → ts { nx := fun σ' H' => D.nx (σ'.set j none) H', rt := D.rt, bk := fun σ' H' => D.bk (σ'.set j none) H', ct := fun σ' H' => D.ct (σ'.set j none) H' } (σ.set j (some (.ref e))) H2
section
variable {X : Cx} {k : Nat} {f C fI : Addr} {fd : FuncData} {ps : List Str} {sp : Sp} {x n cx a : Str} {p np pos apos cpos hpos : Pos} {ea : Expr} {es : List Expr} {t : TA} {ts : TS} {j : Nat} {b₀ : Stmt} {suite : List Stmt}
theorem ps_tryX (XC : XCls X.K C fI a) (F : FnOk X.prog X.w X.K X.mg X.base (CXx X.prog X.w) k f fd ps sp) (hr : Room k X.A) (hg : Gl X x) (hm : X.mg x = some (.ref f)) (hk : PySem.W.keepIn X.K (.ref f) = true) (hb : Binds X.K fd ps [])
    (ha : ∀ E, PA (X.wish E) (ea :: es) t) (hgc : Gl X cx) (hmc : X.mg cx = some (.ref C)) (hN : X.N.Nodup) (hj : X.N[j]? = some n) (hn : X.env.scope.names.lookup n = some .local)
    (hst : X.stack = X.env :: X.outer) (hL : X.env.frame = some X.env.locals)
    (hsu : ∀ e, PSs (X.caught e) (b₀ :: suite) ts)
    (hd1 : (x == ("__debug__" : Str)) = false := by decide) (hd2 : (cx == ("__debug__" : Str)) = false := by decide)
    (he : starEach (ea :: es) X.env = (false, eval ea X.env) :: starEach es X.env := by rfl) (hpl : (backTo cpos (starEach es X.env)).any (·.1) = false := by rfl)
    (hs : swapsWith (.Call (.Name x p) (ea :: es) [] cpos) none apos.line X.env = pure false := by rfl) :
    PS X (.Try [.Expr (.Call (.Name x p) (ea :: es) [] cpos) apos] [.ExceptHandler (some (.Name cx np)) (some n) (b₀ :: suite) hpos] [] [] pos) (tTryX sp C j t ts) := by
  intro pins s σ H D I h
  obtain ⟨nm, q, N, bs, sn, sub, ab, col, dd, k0, k1, k2, k3, k5, c, d, es', ep, sl, lC, lN, sk, i1, i2, i3, i4, i5⟩ := id XC.ob
  refine wpAny_Try_except ?_
  generalize hE : (fun (e : Value) (s₁ : Shared) => wpAny (model X.prog X.w) X.A (noteFrame e X.env) (fun _ s₂ => wpAny (model X.prog X.w) X.A (setFlight e none) (fun _ s₃ => wpAny (model X.prog X.w) X.A (handleBy e X.env [.ExceptHandler (some (.Name cx np)) (some n) (b₀ :: suite) hpos]) (SP X pins D) X.xe s₃) X.xe s₂) X.xe s₁) = EE
  refine wpAny_execs_cons (wpAny_Expr_any ?_ I.quiet hs)
  refine wpAny_Call_Name_kw (ld_glob I hg hm ?_ hd1)
  refine PySem.W.callWith_K (h₀ := X.base) I.ok.mod.kin hk (thn (ha EE cpos pins s σ H _ (I.wish EE) h) fun us s1 ⟨vs, H1, I1', r, q1⟩ => ⟨I1'.unwish.kIn, ?_⟩) he hpl
  have I1 := I1'.unwish
  have hl : us.length = ps.length := by rw [← r.length]; exact F.len _ _ _ _ q1
  refine wpAny_call (codeAny_mono (F.run X.A X.stack s1 H1 ⟨us, []⟩ us vs _ _ hr I1.env0 (by have := hb s1 us I1.kIn (by rw [List.append_nil]; exact hl); rw [List.append_nil] at this; exact this) r q1) fun res s' hq => ?_)
  cases res with
  | ok fl =>
    cases fl with
    | ret u =>
      obtain ⟨v, H2, I2, rv, q2⟩ := I1.after hq
      exact wpAny_execs_nil (wpAny_execs_nil ⟨_, H2, I2, q2⟩)
    | next => exact False.elim hq
    | brk => exact False.elim hq
    | cont => exact False.elim hq
  | error z =>
    obtain ⟨e, C', dx, T, H2, rfl, hos, hbare, un, hok, wg, heF, hT, ne, nT, ec, dx', edx, hts⟩ := hq
    cases ec; cases edx
    have I2 := I1.call' (s' := s') (ch := []) hos un hok hbare (fun b z => absurd z (by simp))
    have hts := hts e heF
    rw [← hE]
    have fr : X.A.frames = some (X.env :: X.outer) := by rw [← hst]; exact I.ok.frames
    have fn : s'.heap.FunFrames X.base (X.env :: X.outer) := by rw [← hst]; exact I2.stack
    refine note_next fr fn hL wg fun h3 T3 mv3 wg3 hT3 => ?_
    refine land wg3 fun h4 mv4 wg4 => ?_
    have mv : Moved (frs X.stack) [e, T] s'.heap h4 := by
      rw [hst]
      exact (mv3.trans (mv4.mono (by simp))).drop fun b m => by
        rcases List.mem_append.mp m with q | q
        · exact .inl q
        · simp at q; subst q; exact .inr (Heap.get?_none_of_le hT3)
    obtain ⟨vs4, hv4, _⟩ := wg4.ob
    have I4 : Inv X pins σ H2 { s' with heap := h4 } := I2.moved (t' := s'.toks) mv heF (I1.fpOk nT hT) (exF_ok hv4)
    have T3n : H2 T3 = none := I2.hok.fresh hT3
    refine wpAny_handleBy_cons (codeAny_handlers_test ?_) (by intro z; cases z)
    refine ld_glob (X := X.caught e) (I4.caught e) hgc hmc ?_ hd2
    refine wpAny_excMatches_sub_self (I4.kIn _ _ lC) hv4 rfl (by decide +kernel) ?_
    refine codeAny_handlers_suite_as ?_
    refine land wg4 fun h5 mv5 wg5 => ?_
    obtain ⟨vs5, hv5, _⟩ := wg5.ob
    have I5 : Inv X pins σ H2 { s' with heap := h5 } := I4.moved (T := T3) (t' := s'.toks) ((mv5.mono (by simp)).drop fun b m => .inl (by simp at m; simp [m])) heF (I2.fpOk hT3 T3n) (exF_ok hv5)
    refine store_ok I5 hN hj (.inl hn) (v := .ref e) rfl (fun s6 I6 => ?_) (.inr hn)
    refine wpAny_mono (hsu e pins s6 _ H2 _ (I6.caught e) hts) (fun fl s7 hq => ?_) fun _ _ z => False.elim z
    have fin : ∀ {σ7 : St} {H7 : Hp}, Inv (X.caught e) pins σ7 H7 s7 → ∀ {R : Shared → Prop}, (∀ s8, Inv X pins (σ7.set j none) H7 s8 → R s8) → wpAny (model X.prog X.w) X.A (do bindName X.env n .none; unbindBehindTheSuite X.env n hpos) (fun _ s8 => R s8) X.xe s7 := fun {σ7 H7} I7 {R} hR => by
      have I7 := I7.uncaught I.ok
      have hj7 : j < σ7.length := by rw [I7.len]; exact (List.getElem?_eq_some_iff.mp hj).1
      refine wpAny_bind (wpAny_bindName (store_ok I7 hN hj (.inl hn) (v := .non) rfl (fun s8 I8 => ?_) (.inr hn)))
      unfold unbindBehindTheSuite
      refine wpAny_onRaise (unbind_ok (v := .non) I8 hN hj hn (by rw [List.getElem?_set_self hj7]) fun s9 I9 => hR s9 ?_)
      rw [List.set_set] at I9
      exact I9
    cases fl with
    | next => obtain ⟨σ7, H7, I7, q7⟩ := hq; exact fin I7 fun s8 I8 => ⟨_, _, I8, q7⟩
    | brk => obtain ⟨σ7, H7, I7, q7⟩ := hq; exact fin I7 fun s8 I8 => ⟨_, _, I8, q7⟩
    | cont => obtain ⟨σ7, H7, I7, q7⟩ := hq; exact fin I7 fun s8 I8 => ⟨_, _, I8, q7⟩
    | ret u => obtain ⟨v, σ7, H7, I7, rv, q7⟩ := hq; exact fin I7 fun s8 I8 => ⟨v, _, _, I8, rv, q7⟩
end
end L2
namespace L2
open PySem PySem.Spec PyProof.Rows
section
variable {X : Cx}
theorem call_sum (hcalm : X.calm = true) : CallR X (.builtin "sum") (fun xs H Q => ∃ (a : Addr) (ns : List Int), xs = [.ref a] ∧ SqL X.K H a (ns.map V.int) ∧ Q (.int ns.sum) H) := by
  intro pins s σ H xs us Q I r h
  obtain ⟨a, ns, rfl, hq, q⟩ := h
  obtain ⟨u, rfl, rx⟩ := vals1 r
  cases rx
  obtain ⟨its, r', pl, hz⟩ := I.list hq
  have hi : IntsAre its ns := intsAre_of r'
  obtain ⟨ys, e⟩ := hi.allInts.items
  have hl := pl.isList
  rw [e] at hl
  refine sum_intListG (I.ok.hd hcalm) hl fun h' tk t' hk => ?_
  have e2 : numsOf its = ns := hi.numsOf
  have e3 : its = (intItems ys).toList := by rw [← e]
  have e1 : preSum (numAt ys) ys.size = ns.sum := by
    rw [preSum_eq, List.take_of_length_le (by simp), ← e2, e3, nums_intItems]
  rw [e1]
  exact ⟨.int ns.sum, H, I.kept (t' := tk) hk, ⟨_, rfl⟩, q⟩
theorem bools_of : ∀ {bs : List Bool} {us : List Value}, Vals (bs.map V.bl) us → us = bs.map Value.bool
  | [], _, r => by rw [List.map_nil] at r; cases r; rfl
  | b :: bs, _, r => by
    rw [List.map_cons] at r
    cases r with
    | cons h t =>
      rw [bools_of t]
      obtain rfl : _ = Value.bool b := h
      rfl
theorem range_all' (bs : List Bool) : ((List.range bs.length).all fun i => (bs[i]?).getD true) = bs.all id := by
  rw [Bool.eq_iff_iff, List.all_eq_true, List.all_eq_true]
  constructor
  · intro h b hb
    obtain ⟨i, hi⟩ := List.getElem?_of_mem hb
    have := h i (List.mem_range.mpr (List.getElem?_eq_some_iff.mp hi).1)
    rw [hi] at this; exact this
  · intro h i hi
    have := List.mem_range.mp hi
    rw [List.getElem?_eq_getElem this]
    exact h _ (List.getElem_mem this)
theorem call_all (hcalm : X.calm = true) : CallR X (.builtin "all") (fun xs H Q => ∃ (a : Addr) (bs : List Bool), xs = [.ref a] ∧ SqL X.K H a (bs.map V.bl) ∧ Q (.bl (bs.all id)) H) := by
  intro pins s σ H xs us Q I r h
  obtain ⟨a, bs, rfl, hq, q⟩ := h
  obtain ⟨u, rfl, rx⟩ := vals1 r
  cases rx
  obtain ⟨its, r', pl, hz⟩ := I.list hq
  obtain rfl := bools_of r'
  have hl := pl.isList
  have hlt : a < s.heap.objs.size := by obtain ⟨_, e, _⟩ := hl; exact Heap.lt_size e
  refine call_all_walk (wpAny_pyIter_list hl ?_)
  refine ⟨s.heap.objs.size, [s.heap.objs.size, a], [s.heap.objs.size], (bs.map Value.bool).toArray.size, _, _, fun i => (bs[i]?).getD true, rfl, Walks.list (A := X.A.in1) (I.ok.hd hcalm) _ a (Nat.ne_of_lt hlt) (bs.map Value.bool).toArray,
    ⟨⟨_, Heap.get?_push_size _ rfl, rfl, rfl⟩, hl.push _⟩, fun i v s' Q' E' hP hQ => ?_, fun h' tk hk => ?_⟩
  · have hP' : (bs.map Value.bool)[i]? = some v := by simpa using hP
    rw [List.getElem?_map] at hP'
    cases e : bs[i]? with
    | none => rw [e] at hP'; cases hP'
    | some b =>
      rw [e] at hP'
      cases hP'
      simp only [e, Option.getD_some] at hQ
      exact wpAny_truthy_bool hQ
  · have e : ((List.range (bs.map Value.bool).toArray.size).all fun i => (bs[i]?).getD true) = bs.all id := by
      rw [List.size_toArray, List.length_map]; exact range_all' bs
    rw [e]
    exact ⟨.bl (bs.all id), H, I.kept (t' := tk) (fun b x e => hk b x (fun hm => by rw [List.mem_singleton.mp hm] at e; exact Nat.lt_irrefl _ (Heap.lt_size e)) (Heap.get?_push_of_some _ e)), rfl, q⟩
theorem call_dictD : CallR X (.type "dict") (fun xs H Q => ∃ (a : Addr) (kvs : List (Key × V)), xs = [.ref a] ∧ Rd H a (.dK kvs) ∧ ∀ p, H p = none → Q (.ref p) (upd H p (.dK kvs))) := by
  intro pins s σ H xs us Q I r h
  obtain ⟨a, kvs, rfl, hq, q⟩ := h
  obtain ⟨u, rfl, rx⟩ := vals1 r
  cases rx
  exact d_copyOf I hq fun p s' hp I' => ⟨.ref p, _, I', rfl, q p hp⟩
end
end L2
namespace L2
open PySem PySem.Spec PyProof.Rows
section
variable {prog : Program} {w : World} {A : Around} {E : Value → Shared → Prop} {s : Shared}
theorem call_itemsT (d : Addr) (hd : (d == sysModules) = false) : MeetsIn prog w (Builtin.«dict.items» ⟨[.ref d], []⟩) (fun _ R s => s.TypeIs (.ref d) "dict" ∧
      R (.ok (.ret (.ref s.heap.objs.size))) { s with heap := s.heap.push { cls := .type "dict_items", data := .fields #[.ref d] } }) :=
  .of_wp fun A R s ⟨hT, h⟩ => by
    unfold Builtin.«dict.items»; refine wpAny_bind ?_; unfold Builtin.Dict.noArgs; refine wpAny_bind (wpAny_notOrdered_dict hT ?_); show wpAny _ _ (pure d) _ _ s; refine wpAny_pure ?_
    show wpAny _ _ (Builtin.Dict.showsAll d >>= _) _ _ s; unfold Builtin.Dict.showsAll; rw [if_neg (by rw [hd]; exact Bool.false_ne_true)]; refine wpAny_bind (wpAny_pure ?_); exact wpAny_bind (wpAny_newObj_type (wpAny_pure ⟨_, rfl, h⟩))
theorem iter_itemsT {v d : Addr} {o : Obj} {es : Array DictEntry} {ep : Nat} {Q : Value → Shared → Prop} (hv : s.heap.IsItemsView v d) (ho : s.heap.get? d = some o) (hdat : o.data = .dict es ep)
    (hQ : Q (.ref s.heap.objs.size) { s with heap := s.heap.push { cls := .type "dict_itemiterator", data := .fields #[.none, .bool false, .ref d, .int 0 0, .int es.size 0, .int ep 0, .none, .none] } }) : wpAny (model prog w) A (pyIter (.ref v)) Q E s := by
  obtain ⟨ov, hov, hcv, hdv⟩ := id hv
  refine wpAny_pyIter_slot hv.typeIs PySem.F.slot_dict_items_iter (wpAny_call_entry PySem.F.slot_dict_items_iter hv.typeIs PySem.F.entry_dict_items_iter ?_ (PySem.F.args_dict_items_iter_1 _)); unfold Builtin.«dict_items.__iter__»; refine wpAny_bind (wpAny_pure ?_); refine wpAny_bind ?_
  unfold Builtin.Dict_items.dictOf; refine wpAny_bind (wpAny_field hov hdv (x := .ref d) rfl (wpAny_pure ?_)); refine wpAny_bind ?_; unfold Builtin.Dict_items.newIterator; refine wpAny_bind (wpAny_dictEntries ho hdat ?_); refine wpAny_bind (wpAny_dictEpoch ho hdat ?_)
  have hown : Builtin.Dict_items.ownsTuple "dict_itemiterator" = true := by decide
  simp only [hown, if_true]; refine wpAny_newObj_type (wpAny_pure ⟨_, rfl, "dict_itemiterator", _, ⟨_, Heap.get?_push_size _ rfl, rfl⟩, PySem.F.slot_dict_itemiterator_next.lookup, ?_⟩) (by simp only [sizeOk, Builtin.Dict_items.ownedTupleFields, List.size_toArray, List.length_append, List.length_cons, List.length_nil, sizeLine_eq]; omega)
  simpa [rawInt, Builtin.Dict_items.ownedTupleFields] using hQ
theorem next_itemT {it d : Addr} {i n ep : Nat} {od : Obj} {es : Array DictEntry} {en : DictEntry} {ok ov : Value} {Q : Option Value → Shared → Prop} (hit : IsItemIter s.heap it d i n ep ok ov) (hod : s.heap.get? d = some od) (hdd : od.data = .dict es ep) (hsz : es.size = n) (hx : es[i]? = some en)
    (hQ : ∀ h', IsItemIterOut h' it d (i + 1) n ep en.key en.val s.heap.objs.size → h'.get? s.heap.objs.size = some { cls := .type "tuple", data := .seq #[en.key, en.val] } → h'.objs.size = s.heap.objs.size + 1 →
      (∀ b o, b ≠ it → s.heap.get? b = some o → h'.get? b = some o) → Q (some (.ref s.heap.objs.size)) { s with heap := h' }) : wpAny (model prog w) A (pyNext (.ref it)) Q E s := by
  obtain ⟨hq, g, dr, tk, os⟩ := s
  have hT : Shared.TypeIs ⟨hq, g, dr, tk, os⟩ (.ref it) "dict_itemiterator" := ⟨_, hit, rfl⟩
  unfold pyNext; refine wpAny_bind (wpAny_attempt (wpAny_callSpecial?_slot (name := Str.ofString "__next__") hT PySem.F.slot_dict_itemiterator_next (wpAny_call_entry PySem.F.slot_dict_itemiterator_next hT PySem.F.entry_dict_itemiterator_next ?_ (PySem.F.args_dict_itemiterator_next_1 _))))
  refine wpAny_bind (wpAny_pure ?_); refine wpAny_bind ?_; refine wpAny_bind ?_; (first | refine wpAny_bind (wpAny_typeNameOfWhole_itemiter hT (wpAny_pure ?_)) | refine wpAny_bind (wpAny_typeNameOf_itemiter hT (wpAny_pure ?_))); refine wpAny_bind (wpAny_fieldsOf hit rfl ?_)
  have hown : Builtin.Dict_items.ownsTuple "dict_itemiterator" = true := by decide
  simp only [hown, if_true]; show wpAny _ _ (if (Value.ref d == Value.none) = true then _ else _) _ _ _; rw [if_neg (show ¬ ((Value.ref d == Value.none) = true) from Bool.false_ne_true)]; refine wpAny_bind (wpAny_pure ?_); refine wpAny_bind (wpAny_dictEntries hod hdd ?_); rw [if_neg (by rw [hsz]; simp)]
  refine wpAny_bind (wpAny_pure ?_); refine wpAny_bind (wpAny_dictEpoch hod hdd ?_); rw [if_neg (by simp)]; refine wpAny_pure ?_
  obtain ⟨hlt', hen⟩ := Array.getElem?_eq_some_iff.mp hx
  simp only [show ¬ ((i : Int) < 0) from by omega, if_false, Int.toNat_natCast, Array.getElem?_eq_getElem hlt', hen]; refine wpAny_bind ?_; (first | refine wpAny_bind (wpAny_typeNameOfWhole_itemiter hT (wpAny_pure ?_)) | refine wpAny_bind (wpAny_typeNameOf_itemiter hT (wpAny_pure ?_)))
  refine wpAny_bind (wpAny_isOneOf_itemiter hT ?_); show wpAny _ _ (setField (.ref it) 3 (rawInt ((i : Int) + 1)) >>= _) _ _ ⟨hq, g, dr, tk, os⟩; refine wpAny_bind (wpAny_setField_rec hit (by simp) fun h₁ he₁ hs₁ => ?_)
  replace hs₁ : Heap.SameBut it hq h₁ := hs₁
  replace he₁ : IsItemIter h₁ it d (i + 1) n ep ok ov := by have e : ((i + 1 : Nat) : Int) = (i : Int) + 1 := by omega
                                                            unfold IsItemIter; rw [e]; simpa [rawInt] using he₁
  have hT₁ : Shared.TypeIs ⟨h₁, g, dr, tk, os⟩ (.ref it) "dict_itemiterator" := ⟨_, he₁, rfl⟩
  refine wpAny_bind (wpAny_holding ?_); refine wpAny_bind (wpAny_isOneOf_itemiter hT₁ ?_); refine wpAny_bind (wpAny_isOneOf_itemiter hT₁ ?_); show wpAny _ _ (Builtin.Dict_items.pairFromOwner (.ref it) 6 en.key en.val) _ _ ⟨h₁, g, dr, tk, os⟩
  unfold Builtin.Dict_items.pairFromOwner; refine wpAny_bind (wpAny_newTuple ?_)
  have he₂ : IsItemIter (h₁.push { cls := .type "tuple", data := .seq #[en.key, en.val] }) it d (i + 1) n ep ok ov := Heap.get?_push_of_some _ he₁
  generalize hh₂ : h₁.push { cls := .type "tuple", data := .seq #[en.key, en.val] } = h₂ at he₂
  have hz₁ : h₁.objs.size = hq.objs.size := hs₁.1
  have hil : it < hq.objs.size := Heap.lt_size hit
  have ht₂ : h₂.get? hq.objs.size = some { cls := .type "tuple", data := .seq #[en.key, en.val] } := by rw [← hh₂, ← hz₁]; exact Heap.get?_push_size _ rfl
  have hz₂ : h₂.objs.size = hq.objs.size + 1 := by rw [← hh₂, Heap.size_push, hz₁]
  have hk₂ : ∀ b o, b ≠ it → hq.get? b = some o → h₂.get? b = some o := fun b o hb e => by rw [← hh₂]; exact Heap.get?_push_of_some _ (hs₁.extBut b o hb e)
  show wpAny _ _ (Builtin.Dict_items.ownedTupleIsFree (.ref it) >>= _) _ _ ⟨h₂, g, dr, tk, os⟩; rw [hz₁]; clear hh₂ he₁ hs₁ hT₁ hz₁ h₁; refine wpAny_bind ?_; unfold Builtin.Dict_items.ownedTupleIsFree; refine wpAny_bind (wpAny_field he₂ rfl (x := .none) rfl (wpAny_pure ?_)); simp only [if_true]
  refine wpAny_bind (wpAny_field he₂ rfl (x := ok) rfl ?_); refine wpAny_bind (wpAny_field he₂ rfl (x := ov) rfl ?_); refine wpAny_bind (wpAny_setField_rec he₂ (by simp) fun h₃ he₃ hs₃ => ?_)
  replace hs₃ : Heap.SameBut it h₂ h₃ := hs₃
  replace he₃ : IsItemIter h₃ it d (i + 1) n ep en.key ov := he₃
  refine wpAny_bind (wpAny_setField_rec he₃ (by simp) fun h₄ he₄ hs₄ => ?_); replace hs₄ : Heap.SameBut it h₃ h₄ := hs₄
  replace he₄ : IsItemIter h₄ it d (i + 1) n ep en.key en.val := he₄
  refine wpAny_bind (wpAny_setField_rec he₄ (by simp) fun h₅ he₅ hs₅ => ?_); replace hs₅ : Heap.SameBut it h₄ h₅ := hs₅
  replace he₅ : IsItemIterOut h₅ it d (i + 1) n ep en.key en.val hq.objs.size := he₅
  refine wpAny_bind (wpAny_setField_rec he₅ (by simp) fun h₆ he₆ hs₆ => ?_); replace hs₆ : Heap.SameBut it h₅ h₆ := hs₆
  replace he₆ : IsItemIterOut h₆ it d (i + 1) n ep en.key en.val hq.objs.size := he₆
  refine wpAny_bind (wpAny_letGo (wpAny_pure (wpAny_pure ⟨_, rfl, wpAny_pure (hQ h₆ he₆ ?_ ?_ ?_)⟩)))
  · exact hs₆.extBut _ _ (Nat.ne_of_gt hil) (hs₅.extBut _ _ (Nat.ne_of_gt hil) (hs₄.extBut _ _ (Nat.ne_of_gt hil) (hs₃.extBut _ _ (Nat.ne_of_gt hil) ht₂)))
  · show h₆.objs.size = hq.objs.size + 1; rw [hs₆.1, hs₅.1, hs₄.1, hs₃.1, hz₂]
  · exact fun b o hb e => hs₆.extBut b o hb (hs₅.extBut b o hb (hs₄.extBut b o hb (hs₃.extBut b o hb (hk₂ b o hb e))))
theorem next_endT {it d : Addr} {i n ep : Nat} {od : Obj} {es : Array DictEntry} {ok ov : Value} {Q : Option Value → Shared → Prop} (hh : A.handled = none) (hit : IsItemIter s.heap it d i n ep ok ov) (hod : s.heap.get? d = some od) (hdd : od.data = .dict es ep) (hsz : es.size = n) (hge : es.size ≤ i)
    (hQ : ∀ h', Heap.ExtBut it s.heap h' → Q none { s with heap := h' }) : wpAny (model prog w) A (pyNext (.ref it)) Q E s := by
  have hT : s.TypeIs (.ref it) "dict_itemiterator" := ⟨_, hit, rfl⟩
  unfold pyNext; refine wpAny_bind (wpAny_attempt (wpAny_callSpecial?_slot (name := Str.ofString "__next__") hT PySem.F.slot_dict_itemiterator_next (wpAny_call_entry PySem.F.slot_dict_itemiterator_next hT PySem.F.entry_dict_itemiterator_next ?_ (PySem.F.args_dict_itemiterator_next_1 _))))
  refine wpAny_bind (wpAny_pure ?_); refine wpAny_bind ?_; refine wpAny_bind ?_; (first | refine wpAny_bind (wpAny_typeNameOfWhole_itemiter hT (wpAny_pure ?_)) | refine wpAny_bind (wpAny_typeNameOf_itemiter hT (wpAny_pure ?_))); refine wpAny_bind (wpAny_fieldsOf hit rfl ?_)
  have hown : Builtin.Dict_items.ownsTuple "dict_itemiterator" = true := by decide
  simp only [hown, if_true]; show wpAny _ _ (if (Value.ref d == Value.none) = true then _ else _) _ _ s; rw [if_neg (show ¬ ((Value.ref d == Value.none) = true) from Bool.false_ne_true)]; refine wpAny_bind (wpAny_pure ?_); refine wpAny_bind (wpAny_dictEntries hod hdd ?_); rw [if_neg (by rw [hsz]; simp)]
  refine wpAny_bind (wpAny_pure ?_); refine wpAny_bind (wpAny_dictEpoch hod hdd ?_); rw [if_neg (by simp)]; refine wpAny_pure ?_
  simp only [show ¬ ((i : Int) < 0) from by omega, if_false, Int.toNat_natCast, Array.getElem?_eq_none hge]; refine wpAny_bind ?_; (first | refine wpAny_bind (wpAny_typeNameOfWhole_itemiter hT (wpAny_pure ?_)) | refine wpAny_bind (wpAny_typeNameOf_itemiter hT (wpAny_pure ?_)))
  show wpAny _ _ (setField (.ref it) 2 .none >>= _) _ _ s; refine wpAny_bind (wpAny_setField hit rfl (by simp) ?_); show wpAny _ _ (newExc (.type "StopIteration") [] >>= _) _ _ _; refine wpAny_bind ?_; simp only [newExc, newTuple]; refine wpAny_bind (wpAny_newObj_type ?_ (by size_fits))
  refine wpAny_bind (m := firstArgMember _ _) (wpAny_of_eq (a := Value.none) (by first | rfl | (simp only [firstArgMember]; rfl)) ?_); refine wpAny_newObj_type ?_ (by size_fits); simp only [raiseNew]; refine wpAny_bind (wpAny_handled ?_); rw [show A.in1.handled = none from hh]
  refine wpAny_bind (wpAny_pure (wpAny_throw ?_)); refine wpAny_bind (wpAny_isInstance (T := "StopIteration") (b := true) ⟨_, Heap.get?_push_size _ rfl, rfl⟩ isSubtype_stop ?_); exact wpAny_pure (hQ _ (((Heap.SameBut.update ..).extBut.push _).push _))
end
theorem Inv.frzT2 {X : Cx} {pins : List (Addr × Obj)} {σ : St} {H : Hp} {s : Shared} {d : Addr} {o : Obj} {kvs : List (List KeyN × V)} (I : Inv X pins σ H s) (h : H d = some (.frz o (.dT kvs))) :
    (d == sysModules) = false ∧ s.heap.get? d = some o ∧ o.ExactDict ∧ ∃ (es : Array DictEntry) (ep : Nat), o.data = .dict es ep ∧ es.size = kvs.length ∧
      ∀ (i : Nat) (k : List KeyN) (v : V), kvs[i]? = some (k, v) → ∃ (en : DictEntry) (q : Addr), es[i]? = some en ∧ en.key = .ref q ∧ H q = some (.tup (k.map kN)) ∧ RelV v en.val := by
  obtain ⟨hd, z, hs, xs, pr, o', es, ep, ho, hx, hdt, he, _⟩ := I.hok d _ h
  rw [hd] at ho; cases ho
  refine ⟨hs, hd, hx, es, ep, hdt, ?_, fun i k v e => ?_⟩
  · have l1 : es.size = xs.length := size_of_entries he; have l2 : kvs.length = xs.length := Paired.length pr; omega
  · obtain ⟨b, hb, e1, e2, e3⟩ := paired_get pr e
    have q := entry_at he i
    rw [hb] at q; exact ⟨_, b.2.1, q, rfl, e2, e3⟩
def Itit (d : Addr) (o : Obj) (kvs : List (List KeyN × V)) : It :=
  ⟨fun i H => H d = some (.frz o (.dT kvs)) ∧ i < kvs.length, fun i H x H' => ∃ (T : Addr) (k : List KeyN) (v : V) (q : Addr), kvs[i]? = some (k, v) ∧ x = .ref T ∧ H T = none ∧ H q = some (.tup (k.map kN)) ∧ H' = upd H T (.tup [.ref q, v]), fun i H => H d = some (.frz o (.dT kvs)) ∧ kvs.length ≤ i⟩
section
variable {P : Program} {w : World} {K : PySem.W.Frag} {d : Addr} {o : Obj} {es : Array DictEntry} {ep : Nat}
theorem turn_itemsT {kvs : List (List KeyN × V)} {elts : List Expr} {kk : Nat} {tpos : Pos} (it : Addr) (hod : o.data = .dict es ep) : Turn P w K (.Tuple elts kk tpos) (Itit d o kvs) [it] it (fun i h => ∃ ok ov, IsItemIter h it d i kvs.length ep ok ov) where
  mem := by simp
  obj := fun i h st b hb => by
    have e : b = it := by simpa using hb
    subst e; obtain ⟨ok, ov, e⟩ := st; exact ⟨_, e, fun v z => nomatch z⟩
  keep := fun i h h' st k => let ⟨ok, ov, e⟩ := st; ⟨ok, ov, k it (by simp) _ e⟩
  item := by
    intro X hP hw hK hc i pins s σ H E I hf st hg
    subst hP hw hK
    obtain ⟨hd, hi⟩ := hg
    obtain ⟨hs, hgd, hx, es', ep', hdt, hsz, ent⟩ := I.frzT2 hd
    obtain ⟨rfl, rfl⟩ := dict_ep hod hdt
    obtain ⟨⟨k, v⟩, hkv⟩ : ∃ p, kvs[i]? = some p := ⟨kvs[i], List.getElem?_eq_getElem hi⟩
    obtain ⟨en, q, hen, hkey, hq, rv⟩ := ent i k v hkv
    obtain ⟨ok, ov, he⟩ := st
    have hlt : it < s.heap.objs.size := Heap.lt_size he
    refine next_itemT he hgd hdt hsz hen fun h' ho hT hz hk => ?_
    refine ⟨_, rfl, wpAny_letOwnedTupleGo_items (s := { s with heap := h' }) ho fun h'' he' sb => ?_⟩
    have hT2 : h''.get? s.heap.objs.size = some { cls := .type "tuple", data := .seq #[en.key, en.val] } := (sb.2 _ (Nat.ne_of_gt hlt)).trans hT
    have new : ObjOk X.prog X.w (upd H s.heap.objs.size (.tup [.ref q, v])) h'' s.heap.objs.size (.tup [.ref q, v]) :=
      ⟨by show 2 ≤ sizeLine; decide, [en.key, en.val], .cons hkey (.cons rv .nil), ⟨_, hT2, rfl, _, rfl⟩⟩
    have I1 : Inv X pins σ (upd H s.heap.objs.size (.tup [.ref q, v])) { s with heap := h'' } :=
      I.turnedNew (t' := s.toks) (ch := [it]) (fun b ob hb e => (sb.2 b (by simpa using hb)).trans (hk b ob (by simpa using hb) e)) hf (Nat.le_refl _) new
    refine ⟨.ref s.heap.objs.size, _, I1, rfl, ⟨_, k, v, q, hkv, rfl, I.hok.fresh (Nat.le_refl _), hq, rfl⟩, ⟨en.key, en.val, he'⟩, fun b hb => ?_⟩
    have e : b = it := by simpa using hb
    rw [e, upd_ne (Nat.ne_of_lt hlt)]; exact (hf it (by simp)).1
  done := by
    intro X hP hw hK hc i pins s σ H E I hf st hg
    subst hP hw hK
    obtain ⟨hd, hi⟩ := hg
    obtain ⟨f0, f1, f2, f3, f4, f5⟩ := hf it (by simp)
    obtain ⟨hs, hgd, hx, es', ep', hdt, hsz, ent⟩ := I.frzT2 hd
    obtain ⟨rfl, rfl⟩ := dict_ep hod hdt
    obtain ⟨ok, ov, he⟩ := st
    exact next_endT (I.ok.hd hc) he hgd hdt hsz (by omega) fun h' eb => ⟨rfl, I.turned (t' := s.toks) (fun b ob hb e => eb b ob hb e) f0 f1 f3 f4 f5⟩
  self := fun A i s Q E st h => let ⟨_, _, e⟩ := st; PySem.W.kcp_self e h
end
def iItemsT (td : TE) : TI := fun σ H R => td σ H fun x H1 => ∃ d o kvs, x = .ref d ∧ H1 d = some (.frz o (.dT kvs)) ∧ R (Itit d o kvs) H1
section
variable {X : Cx} {e : Expr} {td : TE} {apos cpos : Pos}
theorem pi_itemsT {elts : List Expr} {kk : Nat} {tpos : Pos} (he : PE X e td) (hbase : attributeBase e "items" X.env (eval e X.env) = eval e X.env := by rfl) (hline : (apos.endLine == cpos.line) = true := by rfl) :
    PI X (.Tuple elts kk tpos) (.Call (.Attribute e "items" apos) [] [] cpos) (iItemsT td) := by
  intro pins s σ H R I h
  refine wpAny_Call_method (T := "dict") (id := "dict.items") hbase rfl hline PySem.F.plainAttrs_dict PySem.F.slot_dict_items PySem.F.type_dict_items (thn (he pins s σ H _ I h) fun u s1 ⟨x, H1, I1, rx, d, o, kvs, ex, hd, q⟩ => ?_)
  subst ex; obtain rfl : u = Value.ref d := rx
  obtain ⟨hs, hgd, hx, es, ep, hdt, hsz, ent⟩ := I1.frzT2 hd
  have hT : s1.TypeIs (.ref d) "dict" := ⟨o, hgd, hx.1⟩
  refine ⟨hT, (fun b z => by cases z; exact ⟨o, hgd, hx.2.1⟩), ?_⟩
  have I2 : Inv X pins σ H1 { s1 with heap := s1.heap.push { cls := .type "dict_items", data := .fields #[.ref d] } } := I1.kept (t' := s1.toks) fun b ob q => Heap.get?_push_of_some _ q
  have fin : wpAny (model X.prog X.w) X.A (pyIter (.ref s1.heap.objs.size)) (PIE X pins σ (.Tuple elts kk tpos) R) X.xe { s1 with heap := s1.heap.push { cls := .type "dict_items", data := .fields #[.ref d] } } := by
    refine iter_itemsT (d := d) ⟨_, Heap.get?_push_size _ rfl, rfl, rfl⟩ (Heap.get?_push_of_some _ hgd) hdt (pi_one (tk := s1.toks) I2 _ (turn_itemsT _ hdt) ⟨.none, .none, ?_⟩ q)
    rw [hsz]; exact Heap.get?_push_size _ rfl
  show wpAny _ _ (callWith cpos (.builtin "dict.items") [.ref d] [] []) _ X.xe s1
  exact method_meetsIn PySem.F.slot_dict_items PySem.F.entry_dict_items rfl (PySem.evalArgs_none ⟨rfl, hT, PySem.F.args_dict_items_1 _, _, call_itemsT d hs, hT, fin⟩)
theorem pe_lockV {t : TE} (h : PE X e t) : PE X e (fun σ H Q => t σ H fun x H1 => ∃ d u, x = .ref d ∧ H1 d = some u ∧ Mut (some u) ∧ ∀ od, Q x (upd H1 d (.frz od u))) := by
  intro pins s σ H Q I hw
  refine thn (h pins s σ _ _ I hw) fun v s1 ⟨x, H1, I2, r, d, u, ex, hd, mu, q⟩ => ?_
  obtain ⟨od, I3⟩ := I2.lock hd mu
  exact ⟨x, _, I3, r, q od⟩
theorem mt_update : MtR X "dict.update" (fun x xs H Q => ∃ (a b : Addr) (kvs more : List (Key × V)), x = .ref a ∧ xs = [.ref b] ∧ a ≠ b ∧ H a = some (.dK kvs) ∧ Rd H b (.dK more) ∧ kvs.length + more.length ≤ sizeLine ∧ Q .non (upd H a (.dK (mergeK kvs more)))) := by
  intro pins s σ H x xs v us Q I rx rxs h
  obtain ⟨a, b, kvs, more, rfl, rfl, hne, ha, hb, hz, q⟩ := h
  cases rx
  obtain ⟨u, rfl, ru⟩ := vals1 rxs
  cases ru
  obtain ⟨z, hd, vs, rel, dd⟩ := dk_of I.hok ha
  obtain ⟨z2, hd2, ws, rel2, dd2⟩ := dk_rd I.hok hb
  refine call_meetsIn PySem.F.slot_dict_update dd.typeIs PySem.F.entry_dict_update (PySem.F.args_dict_update_2 _ _) (meets_dict_update (mixKind X.prog X.w) a b hne hd2) ⟨vs, ws, dd, dd2, by rw [← rel.length, ← rel2.length]; exact hz, fun h' dd' _ hs => ?_⟩
  have he : ∃ q, h'.get? a = some q := let ⟨q, _, _, hq, _⟩ := dd'; ⟨q, hq⟩
  exact ⟨.non, _, d_write (t' := s.toks) I (by rw [ha]; exact True.intro) hs he (dk_new (Nat.le_trans (length_mergeK more kvs) hz) hd (KV.merge rel2 rel) dd'), rfl, q⟩
end
end L2
namespace L2
open PySem PySem.Spec PyProof.Rows
theorem nolen_rev : typeLookup (.type "list_reverseiterator") "__len__" = pure none := by rw [typeLookup_type, builtinLookup_eq_fast]; kernel_rfl
theorem hint_rev : typeLookup (.type "list_reverseiterator") "__length_hint__" = pure (some (.builtin "list_reverseiterator.__length_hint__")) := by rw [typeLookup_type, builtinLookup_eq_fast]; kernel_rfl
section
variable {prog : Program} {w : World} {A : Around} {E : Value → Shared → Prop} {s : Shared}
theorem hint_false {r : Addr} {Q : Bool → Shared → Prop} (hT : s.TypeIs (.ref r) "list_reverseiterator") (h : Q false s) : wpAny (model prog w) A (Builtin.List.listLengthHint (.ref r)) Q E s := by
  unfold Builtin.List.listLengthHint; refine wpAny_bind (wpAny_specialOf hT nolen_rev ?_); show wpAny _ _ (specialOf (Value.ref r) (Str.ofString "__length_hint__") >>= _) _ _ _; refine wpAny_bind (wpAny_specialOf hT hint_rev ?_)
  generalize hid : ("list_reverseiterator.__length_hint__" : String) = id0; wp_delta; rw [show splitId id0 = some ("list_reverseiterator", "__length_hint__") from by subst hid; decide +kernel]; subst hid
  refine wpAny_bind (wpAny_isInstance (b := true) hT (by rw [isSubtype_type]; kernel_rfl) ?_); refine wpAny_ite_split (fun z => absurd z (by decide)) fun _ => ?_
  refine wpAny_ite_split (fun _ => ?_) (fun z => absurd (by decide +kernel) z)
  refine wpAny_ite_split (fun z => absurd z (by decide +kernel)) fun _ => ?_
  exact wpAny_pure h
theorem extend_rev {R : Result → Shared → Prop} {r l S : Addr} {items : Array Value} {res : Value} {c₀ : Nat} (hh : A.handled = none) (hit : s.heap.IsRevIter r l ((items.size : Int) - 1)) (hl : s.heap.IsList l items) (hne : l ≠ r) (hSr : S ≠ r) (hSl : S ≠ l) (hn : items.size ≤ sizeLine)
    (hS : s.heap.get? S = some { cls := .type "list", data := .seq #[] c₀ })
    (hR : ∀ h' tk acc' c', (∀ b o, b ≠ S → b ≠ r → s.heap.get? b = some o → h'.get? b = some o) → h'.get? S = some { cls := .type "list", dict := none, data := .seq acc' c', slots := #[] } → ItemsOf (fun i v => items[items.size - 1 - i]? = some v) acc' items.size → R (.ok (.ret res)) { s with heap := h', toks := tk }) :
    wpAny (model prog w) A.in1 (Builtin.List.listExtendWith (.ref S) (.ref r) res) (fun fin s' => match fin with | .done f => R (.ok f) s' | .again c' => c'.quiet = true ∧ codeAny (model prog w) A c' R s') (fun e s' => R (.error e) s') s := by
  have W := Walks.listRev (prog := prog) (w := w) (A := A.in1) hh r l hne items
  have hSf : S ∉ [r, l] := by simp [hSr, hSl]
  have e0 : (items.size : Int) - 1 = (items.size : Int) - 1 - ((0 : Nat) : Int) := by omega
  unfold Builtin.List.listExtendWith; refine wpAny_bind (wpAny_typeOf (T := "list_reverseiterator") hit.typeIs ?_)
  have h1 : Builtin.List.listSameRef (.ref S) (.ref r) = false := by simp [Builtin.List.listSameRef, hSr]
  have n1 : (Value.type "list_reverseiterator" == Value.type "list") = false := by decide
  have n2 : (Value.type "list_reverseiterator" == Value.type "tuple") = false := by decide
  simp only [h1, n1, n2, Bool.or_false, Bool.false_eq_true, if_false]; refine wpAny_bind (wpAny_pyIter_revIter hit ?_); refine wpAny_bind (wpAny_holding (hint_false hit.typeIs ?_))
  have key : ∀ (h : Heap) (c₁ tk : Nat), h.IsRevIter r l ((items.size : Int) - 1) → h.IsList l items → (∀ b o, b ≠ S → s.heap.get? b = some o → h.get? b = some o) → h.get? S = some { cls := .type "list", data := .seq #[] c₁ } → codeAny (model prog w) A (.builtin "list.extend.loop" ⟨[.ref S, .ref r, res], []⟩) R { s with heap := h, toks := tk } := by
    intro h c₁ tk h1 h2 hk hS₁
    refine codeAny_extend_loopS W.toS hn S hSf res items.size 0 _ #[] c₁ rfl (Nat.zero_le _) ⟨Nat.zero_le _, by rw [← e0]; exact h1, h2⟩ hS₁ (ItemsOf.nil _) fun s' acc' c' hm hS' hacc => ?_
    rw [PySem.Moved.eq_with hm]
    refine hR s'.heap s'.toks acc' c' (fun b o hb hb2 e => hm.heap b o (fun hmem => ?_) (hk b o hb e)) hS' hacc
    rcases List.mem_cons.mp hmem with e' | hmem
    · exact hb e'
    · exact hb2 (List.mem_singleton.mp hmem)
  refine wpAny_ite_split (fun z => ?_) (fun _ => wpAny_pure ⟨plainId_quiet PySem.F.plain_extend_loop _, key _ c₀ _ hit hl (fun b o _ e => e) hS⟩)
  exact absurd z (by decide +kernel)
theorem call_list_rev {Q : Value → Shared → Prop} {r l : Addr} {items : Array Value} (hh : A.handled = none) (hit : s.heap.IsRevIter r l ((items.size : Int) - 1)) (hl : s.heap.IsList l items) (hne : l ≠ r) (hn : items.size ≤ sizeLine)
    (hQ : ∀ h' tk acc' c', (∀ b o, b ≠ r → s.heap.get? b = some o → h'.get? b = some o) → h'.get? s.heap.objs.size = some { cls := .type "list", dict := none, data := .seq acc' c', slots := #[] } → ItemsOf (fun i v => items[items.size - 1 - i]? = some v) acc' items.size → Q (.ref s.heap.objs.size) { s with heap := h', toks := tk }) :
    wpAny (model prog w) A (call (.type "list") [.ref r]) Q E s := by
  refine callType_codes (Q₁ := fun obj s₁ => obj = .ref s.heap.objs.size ∧ s₁ = { s with heap := s.heap.push { cls := .type "list", data := .seq #[] } }) PySem.F.called_list (PySem.F.typeCall_list_1 _) PySem.F.entry_list_init (code_list_new _ ⟨rfl, rfl⟩) fun obj s₁ h₁ => ?_
  obtain ⟨rfl, rfl⟩ := h₁
  have hS : (s.heap.push { cls := .type "list", data := .seq #[] }).get? s.heap.objs.size = some { cls := .type "list", data := .seq #[] } := Heap.get?_push_size _ rfl
  have lr : r < s.heap.objs.size := by obtain ⟨_, e, _⟩ := hit; exact Heap.lt_size e
  have ll : l < s.heap.objs.size := by obtain ⟨_, e, _⟩ := hl; exact Heap.lt_size e
  refine ⟨⟨_, hS, rfl⟩, PySem.F.args_list_init_2 _ _, ?_⟩
  show wpAny _ _ (do let old ← Builtin.List.listItems (.ref s.heap.objs.size); Builtin.List.listUpdate (.ref s.heap.objs.size) (fun _ => #[]); letGo old.toList.reverse; Builtin.List.listExtendWith (.ref s.heap.objs.size) (.ref r) .none) _ _ _
  refine wpAny_bind ?_; unfold Builtin.List.listItems; refine wpAny_bind (wpAny_seqItems hS rfl (wpAny_pure ?_))
  show wpAny _ _ (updateSeq s.heap.objs.size (fun _ => #[]) >>= fun _ => letGo (#[] : Array Value).toList.reverse >>= fun _ => Builtin.List.listExtendWith (.ref s.heap.objs.size) (.ref r) .none) _ _ _
  refine wpAny_bind (wpAny_updateSeq hS rfl ?_)
  have hS₂ := Heap.get?_update_self (Obj.mapSeq (fun _ => (#[] : Array Value))) hS rfl
  have oth : ∀ b o, b ≠ s.heap.objs.size → s.heap.get? b = some o → ((s.heap.push { cls := .type "list", data := .seq #[] }).update s.heap.objs.size (Obj.mapSeq (fun _ => (#[] : Array Value)))).get? b = some o := fun b o hb e => (Heap.get?_update_other _ _ (Ne.symm hb)).trans (Heap.get?_push_of_some _ e)
  refine wpAny_bind (wpAny_letGo ?_)
  refine extend_rev (A := A.in1) hh (hit.at fun o e => oth r o (Nat.ne_of_lt lr) e) (hl.at fun o e => oth l o (Nat.ne_of_lt ll) e) hne (Nat.ne_of_gt lr) (Nat.ne_of_gt ll) hn hS₂ fun h' tk acc' c' hk hS' hacc => ?_
  exact ⟨rfl, hQ h' tk acc' c' (fun b o hb e => hk b o (Nat.ne_of_lt (Heap.lt_size e)) hb (oth b o (Nat.ne_of_lt (Heap.lt_size e)) e)) hS' hacc⟩
end
section
variable {X : Cx}
theorem rev_items {its : List Value} {acc : Array Value} (h : ItemsOf (fun i v => its.toArray[its.toArray.size - 1 - i]? = some v) acc its.toArray.size) : acc.toList = its.reverse := by
  obtain ⟨h1, h2⟩ := h
  have h1' : acc.size = its.length := by simpa using h1
  apply List.ext_getElem
  · simp [h1']
  · intro i a b
    have hi : i < acc.size := by simpa using a
    have := h2 i acc[i] (Array.getElem?_eq_getElem hi)
    rw [List.size_toArray, List.getElem?_toArray] at this
    rw [List.getElem_reverse]
    have hlt : its.length - 1 - i < its.length := by omega
    rw [List.getElem?_eq_getElem hlt] at this
    rw [Array.getElem_toList]
    exact (Option.some.inj this).symm
theorem pe_listRev {e : Expr} {ta : TA} {p p2 pos pos2 : Pos} (hcalm : X.calm = true) (hg : Gl X "reversed") (hm : X.mg "reversed" = none) (hg2 : Gl X "list") (hm2 : X.mg "list" = none) (ha : PA X [e] ta) (hs : starEach [e] X.env = [(false, eval e X.env)] := by rfl)
    (hs2 : starEach [.Call (.Name "reversed" p2) [e] [] pos2] X.env = [(false, eval (.Call (.Name "reversed" p2) [e] [] pos2) X.env)] := by rfl) :
    PE X (.Call (.Name "list" p) [.Call (.Name "reversed" p2) [e] [] pos2] [] pos) (fun σ H Q => ta σ H fun vs H1 => ∃ (a : Addr) (xs : List V), vs = [.ref a] ∧ SqL X.K H1 a xs ∧ ∀ q, H1 q = none → Q (.ref q) (upd H1 q (.lst xs.reverse))) := by
  intro pins s σ H Q I h
  refine wpAny_Call_Name_kw (ld_blt I hg2 hm2 (show bootBuiltins "list" = some (.type "list") by decide +kernel) ?_ (by decide) (by decide))
  refine PyProof.Rows.callWith_type1 ?_ hs2 rfl
  rw [hs2]
  show wpAny _ _ (spliced [(false, eval (.Call (.Name "reversed" p2) [e] [] pos2) X.env)]) _ _ s
  refine Calls.spliced_cons ?_
  refine Call_ (ld_blt I hg hm boot_reversed5 (PyProof.Rows.callWith_type1 (thn (ha pos2 pins s σ H _ I h) fun us s1 ⟨vs, H1, I1, r1, q1⟩ => ?_) hs rfl))
  obtain ⟨a, xs, e, hq, q⟩ := q1
  subst e
  obtain ⟨u, rfl, rx⟩ := vals1 r1
  cases rx
  obtain ⟨its, rv, p', hz⟩ := I1.list hq
  have hl := rv.length
  have hlst := p'.isList
  have hlt : a < s1.heap.objs.size := by obtain ⟨_, e, _⟩ := hlst; exact Heap.lt_size e
  refine call_reversed_list hlst ?_
  refine Calls.spliced_nil ?_
  have I2 : Inv X pins σ H1 { s1 with heap := s1.heap.push (revObj a ((its.toArray.size : Int) - 1)) } := I1.kept (t' := s1.toks) fun b ob q => Heap.get?_push_of_some _ q
  refine call_list_rev (I.ok.hd hcalm) (l := a) (items := its.toArray) ⟨_, Heap.get?_push_size _ rfl, rfl, rfl⟩ (hlst.push _) (Nat.ne_of_lt hlt) (by simp only [List.size_toArray]; omega) fun h' tk acc' c' hk hS' hacc => ?_
  have er := rev_items hacc
  have hsz : s1.heap.objs.size ≤ (s1.heap.push (revObj a ((its.toArray.size : Int) - 1))).objs.size := by rw [Heap.size_push]; omega
  have new : ObjOk X.prog X.w (upd H1 (s1.heap.push (revObj a ((its.toArray.size : Int) - 1))).objs.size (.lst xs.reverse)) h' (s1.heap.push (revObj a ((its.toArray.size : Int) - 1))).objs.size (.lst xs.reverse) := by
    refine ⟨by rw [List.length_reverse]; exact hz, its.reverse, c', ?_, ?_⟩
    · have : ∀ {a : List V} {b : List Value}, Vals a b → Vals a.reverse b.reverse := by
        intro a b r
        induction r with
        | nil => exact .nil
        | cons h t ih => rw [List.reverse_cons, List.reverse_cons]; exact Paired.snoc ih h
      exact this rv
    · rw [← er, Array.toArray_toList]; exact hS'
  refine ⟨.ref _, _, I1.laid (t' := tk) (fun b o e => hk b o (Nat.ne_of_lt (Heap.lt_size e)) (Heap.get?_push_of_some _ e)) hsz new, rfl, q _ (I1.hok.fresh hsz)⟩
end
end L2
set_option exponentiation.threshold 3000
namespace L2
open PySem PySem.Spec PyProof.Rows
theorem bits_le {i : Nat} (h : i < 2 ^ 2000) : (Builtin.Int.intBits (i : Int) : Int) ≤ 2000 := by
  unfold Builtin.Int.intBits
  split
  · decide
  · rename_i h0
    have hi : i ≠ 0 := by intro z; subst z; exact h0 rfl
    have : (i : Int).natAbs = i := by simp
    rw [this]
    have : i.log2 < 2000 := (Nat.log2_lt hi).mpr h
    omega
theorem bitAnd_nn (i j : Nat) : Builtin.bitAnd (i : Int) (j : Int) = ((i &&& j : Nat) : Int) := by
  unfold Builtin.bitAnd
  have h1 : decide ((0 : Int) ≤ (i : Int)) = true := by simp
  have h2 : decide ((0 : Int) ≤ (j : Int)) = true := by simp
  first
  | (rw [h1, h2]; simp)
  | simp
theorem bitOr_nn (i j : Nat) : Builtin.bitOr (i : Int) (j : Int) = ((i ||| j : Nat) : Int) := by
  unfold Builtin.bitOr Builtin.bitAnd Builtin.bitNot
  have h1 : ¬ ((0 : Int) ≤ -(i : Int) - 1) := by omega
  have h2 : ¬ ((0 : Int) ≤ -(j : Int) - 1) := by omega
  have e1 : (-(-(i : Int) - 1) - 1).toNat = i := by omega
  have e2 : (-(-(j : Int) - 1) - 1).toNat = j := by omega
  rw [decide_eq_false h1, decide_eq_false h2]
  show -(-((((-(-(i : Int) - 1) - 1).toNat ||| (-(-(j : Int) - 1) - 1).toNat : Nat)) : Int) - 1) - 1 = _
  rw [e1, e2]; omega
section
variable {X : Cx}
def rN (C : Nat → Nat → Prop) (g : Nat → Nat → Nat) : R2 := fun x y H Q => ∃ i j : Nat, x = .int i ∧ y = .int j ∧ C i j ∧ Q (.int (g i j : Nat)) H
theorem opN {f : Value → Value → Sem Value} {C : Nat → Nat → Prop} {g : Nat → Nat → Nat}
    (rule : ∀ (i j : Nat) (t u : Tok) (s : Shared) (Q : Value → Shared → Prop) (E : Value → Shared → Prop), C i j → Q (.int (g i j : Nat) s.toks) { s with toks := s.toks + 1 } → wpAny (model X.prog X.w) X.A (f (.int (i : Nat) t) (.int (j : Nat) u)) Q E s) : OpR X f (rN C g) := by
  intro pins s σ H x y v u Q I rx ry h
  obtain ⟨i, j, rfl, rfl, hc, q⟩ := h
  obtain ⟨t, rfl⟩ := rx
  obtain ⟨t', rfl⟩ := ry
  exact rule i j t t' s _ _ hc ⟨.int (g i j : Nat), H, I.tok _, ⟨_, rfl⟩, q⟩
theorem op_shlN : OpR X (binaryOp .LShift) (rN (fun i j => i < 2 ^ 2000 ∧ j ≤ 2000) fun i j => i <<< j) := opN fun i j t u s Q E hc q => by
  refine lshift_int (by omega) (by have := bits_le hc.1; have := hc.2; omega) ?_
  have e : (i : Int) * 2 ^ (j : Int).toNat = ((i <<< j : Nat) : Int) := by
    rw [Nat.shiftLeft_eq]; simp
  rw [e]; exact q
theorem op_shrN : OpR X (binaryOp .RShift) (rN (fun _ _ => True) fun i j => i >>> j) := opN fun i j t u s Q E hc q => by
  refine rshift_int (by omega) ?_
  rw [Int.fdiv_eq_ediv_of_nonneg _ (two_pow_nn _)]
  have e : (i : Int) / 2 ^ (j : Int).toNat = ((i >>> j : Nat) : Int) := by
    rw [Nat.shiftRight_eq_div_pow]; simp
  rw [e]; exact q
theorem op_andN : OpR X (binaryOp .BitAnd) (rN (fun _ _ => True) fun i j => i &&& j) := opN fun i j t u s Q E hc q => by
  refine and_int ?_
  rw [bitAnd_nn]; exact q
theorem op_orN : OpR X (binaryOp .BitOr) (rN (fun _ _ => True) fun i j => i ||| j) := opN fun i j t u s Q E hc q => by
  refine or_int ?_
  rw [bitOr_nn]; exact q
theorem op_divN : OpR X (binaryOp .FloorDiv) (rN (fun _ j => 0 < j ∧ j < 2 ^ 2000) fun i j => i / j) := opN fun i j t u s Q E hc q => by
  have h0 : j ≠ 0 := by have := hc.1; omega
  refine floordiv_int (by omega) ?_ (.inl (PyProof.noPylong_of_log2 ?_))
  · rw [Int.fdiv_eq_ediv_of_nonneg _ (by omega)]
    exact q
  · have : (j : Int).natAbs = j := by simp
    rw [this]
    have : j.log2 < 2000 := (Nat.log2_lt h0).mpr hc.2
    omega
end
theorem for_it {J : It} {n : Nat} {g : TG} {tb : TS} {D : Ends} {σ : St} {H : Hp} (Pv : Nat → St → Hp → Prop) (h0 : Pv 0 σ H) (hgo : ∀ i σ H, i < n → Pv i σ H → J.go i H) (hst : ∀ σ H, Pv n σ H → J.stop n H)
    (hs : ∀ i σ H x H', i < n → Pv i σ H → J.yld i H x H' → g x σ H' fun σ2 H2 => tb { D with nx := Pv (i + 1), ct := Pv (i + 1), bk := D.nx } σ2 H2) (hd : ∀ σ H, Pv n σ H → D.nx σ H) :
    ∃ W : Nat → Nat → St → Hp → Prop, (∃ m, W 0 m σ H) ∧ ∀ i m σ H, W i m σ H →
      (J.stop i H ∧ D.nx σ H) ∨ (J.go i H ∧ ∃ N : St → Hp → Prop, (∀ σ' H', N σ' H' → ∃ m', m' < m ∧ W (i + 1) m' σ' H') ∧ ∀ x H', J.yld i H x H' → g x σ H' fun σ2 H2 => tb { D with nx := N, ct := N, bk := D.nx } σ2 H2) := by
  refine ⟨fun i m σ H => m = n - i ∧ i ≤ n ∧ Pv i σ H, ⟨n, rfl, Nat.zero_le _, h0⟩, ?_⟩
  rintro i m σ H ⟨rfl, hi, p⟩
  by_cases hlt : i < n
  · exact .inr ⟨hgo i σ H hlt p, Pv (i + 1), fun σ' H' p' => ⟨n - (i + 1), by omega, rfl, hlt, p'⟩, fun x H' q => hs i σ H x H' hlt p q⟩
  · obtain rfl : i = n := by omega
    exact .inl ⟨hst σ H p, hd σ H p⟩
theorem lc_it {J : It} {n : Nat} {g : TG} {tt : TT} {te : TE} {vs : List Nat} {σ : St} {H1 : Hp} {D : Addr} {Qd : Hp → Prop} (Pv : Nat → Hp → Prop) (h0 : Pv 0 (upd H1 D (.lst []))) (hgo : ∀ i H, i < n → Pv i H → J.go i H) (hst : ∀ H, Pv n H → J.stop n H)
    (hs : ∀ i H x H', i < n → Pv i H → J.yld i H x H' → g x (wipe σ vs) H' fun σ2 H2 => wipe σ2 vs = wipe σ vs ∧ tt σ2 H2 fun b H3 =>
      if b = true then te σ2 H3 fun y H4 => ∃ acc, H4 D = some (.lst acc) ∧ acc.length < sizeLine ∧ Pv (i + 1) (upd H4 D (.lst (acc ++ [y]))) else Pv (i + 1) H3) (hd : ∀ H, Pv n H → Qd H) :
    ∃ W : Nat → Nat → Hp → Prop, (∃ m, W 0 m (upd H1 D (.lst []))) ∧ ∀ i m H, W i m H →
      (J.stop i H ∧ Qd H) ∨ (J.go i H ∧ ∃ Nx : Hp → Prop, (∀ H', Nx H' → ∃ m', m' < m ∧ W (i + 1) m' H') ∧ ∀ x H', J.yld i H x H' → g x (wipe σ vs) H' fun σ2 H2 => wipe σ2 vs = wipe σ vs ∧ tt σ2 H2 fun b H3 =>
        if b = true then te σ2 H3 fun y H4 => ∃ acc, H4 D = some (.lst acc) ∧ acc.length < sizeLine ∧ Nx (upd H4 D (.lst (acc ++ [y]))) else Nx H3) := by
  refine ⟨fun i m H => m = n - i ∧ i ≤ n ∧ Pv i H, ⟨n, rfl, Nat.zero_le _, h0⟩, ?_⟩
  rintro i m H ⟨rfl, hi, p⟩
  by_cases hlt : i < n
  · exact .inr ⟨hgo i H hlt p, Pv (i + 1), fun H' p' => ⟨n - (i + 1), by omega, rfl, hlt, p'⟩, fun x H' q => hs i H x H' hlt p q⟩
  · obtain rfl : i = n := by omega
    exact .inl ⟨hst H p, hd H p⟩
end L2
namespace Sm
open Ql66
abbrev o8 (x : Int) : UInt8 := UInt8.ofNat x.toNat
def oct (w : List Int) : List UInt8 := w.map fun x => o8 x
def Byt (x : Int) : Prop := 0 ≤ x ∧ x ≤ 255
def Byts (w : List Int) : Prop := ∀ x ∈ w, Byt x
theorem o8_nat {x : Int} (h : Byt x) : (o8 x).toNat = x.toNat := by
  obtain ⟨h1, h2⟩ := h
  show (UInt8.ofNat x.toNat).toNat = _
  rw [UInt8.toNat_ofNat']; omega
theorem o8_eq {x : Int} {k : Nat} (h : Byt x) (hk : k < 256) : (o8 x = UInt8.ofNat k) ↔ x = (k : Int) := by
  constructor
  · intro e
    have := congrArg UInt8.toNat e
    rw [o8_nat h, UInt8.toNat_ofNat'] at this
    obtain ⟨h1, h2⟩ := h
    omega
  · intro e; subst e; rfl
theorem o8_inj {x y : Int} (h : Byt x) (k : Byt y) (e : o8 x = o8 y) : x = y := by
  have := congrArg UInt8.toNat e
  rw [o8_nat h, o8_nat k] at this
  obtain ⟨h1, h2⟩ := h; obtain ⟨k1, k2⟩ := k; omega
theorem oct_inj : ∀ {u v : List Int}, Byts u → Byts v → oct u = oct v → u = v
  | [], [], _, _, _ => rfl
  | [], _ :: _, _, _, e => by cases e
  | _ :: _, [], _, _, e => by cases e
  | x :: u, y :: v, hu, hv, e => by
    have e' : o8 x :: oct u = o8 y :: oct v := e
    injection e' with e1 e2
    rw [o8_inj (hu x (by simp)) (hv y (by simp)) e1, oct_inj (fun z hz => hu z (by simp [hz])) (fun z hz => hv z (by simp [hz])) e2]
def gap (b : Int) : Bool := b == 32 || (b == 9 || (b == 10 || b == 13))
theorem space_gap {x : Int} (h : Byt x) : space (o8 x) = gap x := by
  have key : ∀ (k : Nat), k < 256 → ((o8 x) == UInt8.ofNat k) = (x == (k : Int)) := by
    intro k hk
    rw [Bool.eq_iff_iff, beq_iff_eq, beq_iff_eq]
    exact o8_eq h hk
  unfold space gap
  have a := key 32 (by decide); have b := key 9 (by decide); have c := key 10 (by decide); have d := key 13 (by decide)
  have e32 : (UInt8.ofNat 32 : UInt8) = 32 := rfl
  have e9 : (UInt8.ofNat 9 : UInt8) = 9 := rfl
  have e10 : (UInt8.ofNat 10 : UInt8) = 10 := rfl
  have e13 : (UInt8.ofNat 13 : UInt8) = 13 := rfl
  rw [e32] at a; rw [e9] at b; rw [e10] at c; rw [e13] at d
  rw [a, b, c, d]; rfl
def cut : List Int → List (List Int)
  | [] => [[]]
  | x :: r => if gap x = true then [] :: cut r else match cut r with
    | [] => [[x]]
    | l :: m => (x :: l) :: m
theorem cut_ne : ∀ t, cut t ≠ []
  | [] => by simp [cut]
  | x :: r => by
    unfold cut
    split
    · simp
    · split <;> simp
theorem cut_oct : ∀ (t : List Int), Byts t → split (oct t) = (cut t).map oct
  | [], _ => rfl
  | x :: r, h => by
    have ih := cut_oct r (fun z hz => h z (by simp [hz]))
    show split (o8 x :: oct r) = _
    unfold split cut
    rw [space_gap (h x (by simp)), ih]
    by_cases g : gap x = true
    · rw [if_pos g, if_pos g]; rfl
    · rw [if_neg g, if_neg g]
      cases e : cut r with
      | nil => exact absurd e (cut_ne r)
      | cons l m => rfl
def swStep (st : List (List Int) × List Int) (b : Int) : List (List Int) × List Int :=
  if gap b = false then (st.1, st.2 ++ [b]) else if st.2 = [] then st else (st.1 ++ [st.2], [])
def swEnd (st : List (List Int) × List Int) : List (List Int) := if st.2 = [] then st.1 else st.1 ++ [st.2]
def wordsOf (t : List Int) : List (List Int) := swEnd (t.foldl swStep ([], []))
def glue (w : List Int) : List (List Int) → List (List Int)
  | [] => [w]
  | l :: m => (w ++ l) :: m
theorem sw_in {ws : List (List Int)} {w : List Int} {x : Int} (g : gap x = false) : swStep (ws, w) x = (ws, w ++ [x]) := by
  unfold swStep; rw [if_pos g]
theorem sw_gap0 {ws : List (List Int)} {x : Int} (g : gap x = true) : swStep (ws, []) x = (ws, []) := by
  unfold swStep; rw [if_neg (by simp [g]), if_pos rfl]
theorem sw_gap1 {ws : List (List Int)} {w : List Int} {x : Int} (g : gap x = true) (h : w ≠ []) : swStep (ws, w) x = (ws ++ [w], []) := by
  unfold swStep; rw [if_neg (by simp [g]), if_neg h]
theorem cut_gap {x : Int} {r : List Int} (g : gap x = true) : cut (x :: r) = [] :: cut r := by
  rw [cut]; exact if_pos g
theorem cut_in {x : Int} {r l : List Int} {m : List (List Int)} (g : gap x = false) (e : cut r = l :: m) : cut (x :: r) = (x :: l) :: m := by
  rw [cut, if_neg (by simp [g]), e]
theorem sw_fold : ∀ (t : List Int) (ws : List (List Int)) (w : List Int), swEnd (t.foldl swStep (ws, w)) = ws ++ (glue w (cut t)).filter (fun w => w != [])
  | [], ws, w => by
    show swEnd (ws, w) = ws ++ List.filter _ [w ++ []]
    unfold swEnd
    by_cases h : w = []
    · subst h; simp
    · simp [h]
  | x :: r, ws, w => by
    rw [List.foldl_cons]
    cases e : cut r with
    | nil => exact absurd e (cut_ne r)
    | cons l m =>
    by_cases g : gap x = true
    · rw [cut_gap g, e]
      by_cases h : w = []
      · subst h
        rw [sw_gap0 g, sw_fold r ws [], e]
        simp [glue]
      · rw [sw_gap1 g h, sw_fold r (ws ++ [w]) [], e]
        simp [glue, h]
    · have g' : gap x = false := by simpa using g
      rw [sw_in g', sw_fold r ws (w ++ [x]), e, cut_in g' e]
      simp [glue]
theorem wordsOf_cut (t : List Int) : wordsOf t = (cut t).filter (fun w => w != []) := by
  unfold wordsOf
  rw [sw_fold]
  cases e : cut t with
  | nil => exact absurd e (cut_ne t)
  | cons l m => simp [glue]
def toksAt (k : Nat) (ws : List (List Int)) : List Tok := ((ws.map oct).zipIdx k).map fun x => (x.1, x.2 + 1)
theorem toksAt_nil (k : Nat) : toksAt k [] = [] := rfl
theorem toksAt_cons (k : Nat) (w : List Int) (ws : List (List Int)) : toksAt k (w :: ws) = (oct w, k + 1) :: toksAt (k + 1) ws := by
  simp [toksAt, List.zipIdx_cons]
theorem toksAt_length (k : Nat) (ws : List (List Int)) : (toksAt k ws).length = ws.length := by
  simp [toksAt]
theorem words_eq {t : List Int} (h : Byts t) : words (oct t) = toksAt 0 (wordsOf t) := by
  unfold words toksAt
  rw [cut_oct t h, wordsOf_cut]
  congr 2
  generalize cut t = l
  induction l with
  | nil => rfl
  | cons w r ih =>
    rw [List.map_cons]
    cases w with
    | nil =>
      have e : oct [] = [] := rfl
      rw [e, List.filter_cons_of_neg (by simp), List.filter_cons_of_neg (by simp)]; exact ih
    | cons x y =>
      rw [List.filter_cons_of_pos (by simp [oct]), List.filter_cons_of_pos (by simp), ih]; rfl
theorem cut_byts : ∀ {t : List Int}, Byts t → ∀ w ∈ cut t, Byts w
  | [], _, w, hw => by simp [cut] at hw; subst hw; intro x hx; cases hx
  | x :: r, h, w, hw => by
    have ih := cut_byts (t := r) (fun z hz => h z (by simp [hz]))
    unfold cut at hw
    split at hw
    · rcases List.mem_cons.mp hw with rfl | hw
      · intro x hx; cases hx
      · exact ih w hw
    · split at hw
      · simp at hw; subst hw; intro z hz; simp at hz; subst hz; exact h _ (by simp)
      · rename_i l m e
        rcases List.mem_cons.mp hw with rfl | hw
        · intro z hz
          rcases List.mem_cons.mp hz with rfl | hz
          · exact h _ (by simp)
          · exact ih l (by rw [e]; simp) z hz
        · exact ih w (by rw [e]; simp [hw])
theorem wordsOf_byts {t : List Int} (h : Byts t) : ∀ w ∈ wordsOf t, Byts w := fun w hw => by
  rw [wordsOf_cut] at hw
  exact cut_byts h w (List.mem_filter.mp hw).1
theorem cut_len : ∀ (t : List Int), ((cut t).map List.length).sum + (cut t).length ≤ t.length + 1
  | [] => by simp [cut]
  | x :: r => by
    have ih := cut_len r
    unfold cut
    split
    · simp; omega
    · split
      · simp
      · rename_i l m e
        rw [e] at ih
        simp at ih ⊢
        omega
theorem filter_sum (l : List (List Int)) : ((l.filter (fun w => w != [])).map List.length).sum ≤ (l.map List.length).sum ∧ (l.filter (fun w => w != [])).length ≤ l.length := by
  refine ⟨?_, List.length_filter_le _ _⟩
  induction l with
  | nil => simp
  | cons w r ih =>
    rw [List.filter_cons]
    split
    · simp; omega
    · simp; omega
theorem wordsOf_len (t : List Int) : ((wordsOf t).map List.length).sum + (wordsOf t).length ≤ t.length + 1 := by
  rw [wordsOf_cut]
  have a := cut_len t
  have b := filter_sum (cut t)
  omega
def dig (b : Int) : Bool := decide (48 ≤ b ∧ b ≤ 57)
theorem digit_dig {x : Int} (h : Byt x) : digit (o8 x) = dig x := by
  unfold digit dig
  rw [o8_nat h]
  obtain ⟨h1, h2⟩ := h
  rw [decide_eq_decide]; omega
def worth (n : Nat) (w : List Int) : Nat := w.foldl (fun n c => 10 * n + (c.toNat - 48)) n
theorem worth_oct : ∀ (w : List Int) (n : Nat), Byts w → (oct w).foldl (fun n c => 10 * n + (c.toNat - 48)) n = worth n w
  | [], _, _ => rfl
  | x :: r, n, h => by
    show (oct r).foldl _ (10 * n + ((o8 x).toNat - 48)) = worth (10 * n + (x.toNat - 48)) r
    rw [o8_nat (h x (by simp))]
    exact worth_oct r _ (fun z hz => h z (by simp [hz]))
theorem worth_le : ∀ (w : List Int) (n : Nat), n ≤ worth n w
  | [], n => Nat.le_refl n
  | x :: r, n => by
    have := worth_le r (10 * n + (x.toNat - 48))
    show n ≤ worth (10 * n + (x.toNat - 48)) r
    omega
theorem worth_append (u v : List Int) (n : Nat) : worth n (u ++ v) = worth (worth n u) v := by
  unfold worth; rw [List.foldl_append]
theorem all_oct : ∀ {w : List Int}, Byts w → (oct w).all digit = w.all dig
  | [], _ => rfl
  | x :: r, h => by
    show (digit (o8 x) && (oct r).all digit) = (dig x && r.all dig)
    rw [digit_dig (h x (by simp)), all_oct (fun z hz => h z (by simp [hz]))]
def upTo (w : List Int) (most : Nat) : Option Nat := match number (oct w) with
  | some n => if n ≤ most then some n else none
  | none => none
theorem number_int {w : List Int} (h : Byts w) : number (oct w) = if w = [] ∨ w.all dig = false ∨ (w.head? = some 48 ∧ w ≠ [48]) then none else some (worth 0 w) := by
  unfold number
  rw [all_oct h, worth_oct w 0 h]
  have e1 : (oct w = []) ↔ w = [] := by cases w <;> simp [oct]
  have e2 : ((oct w).head? = some 48 ∧ oct w ≠ [48]) ↔ (w.head? = some 48 ∧ w ≠ [48]) := by
    cases w with
    | nil => simp [oct]
    | cons x r =>
      have hx := h x (by simp)
      have k : (o8 x = 48) ↔ x = 48 := o8_eq (k := 48) hx (by decide)
      have hc : oct (x :: r) = o8 x :: oct r := rfl
      have hn : (oct r = []) ↔ r = [] := by cases r <;> simp [oct]
      rw [hc, List.head?_cons, List.head?_cons]
      constructor
      · rintro ⟨a, b⟩
        have a' : x = 48 := k.mp (Option.some.inj a)
        refine ⟨by rw [a'], fun e => b ?_⟩
        injection e with e1 e2
        rw [k.mpr e1, hn.mpr e2]
      · rintro ⟨a, b⟩
        have a' : x = 48 := Option.some.inj a
        refine ⟨by rw [k.mpr a'], fun e => b ?_⟩
        injection e with e1 e2
        rw [k.mp e1, hn.mp e2]
  simp only [e1, e2]
theorem upTo_nil (most : Nat) : upTo [] most = none := rfl
theorem upTo_lead {w : List Int} {most : Nat} (h : Byts w) (a : w.head? = some 48) (b : 1 < w.length) : upTo w most = none := by
  unfold upTo
  rw [number_int h, if_pos (.inr (.inr ⟨a, by rintro rfl; simp at b⟩))]
theorem upTo_odd {w : List Int} {most : Nat} (h : Byts w) (a : w.all dig = false) : upTo w most = none := by
  unfold upTo
  rw [number_int h, if_pos (.inr (.inl a))]
theorem upTo_big {u v : List Int} {most : Nat} (h : Byts (u ++ v)) (a : most < worth 0 u) : upTo (u ++ v) most = none := by
  unfold upTo
  rw [number_int h]
  by_cases c : u ++ v = [] ∨ (u ++ v).all dig = false ∨ ((u ++ v).head? = some 48 ∧ u ++ v ≠ [48])
  · rw [if_pos c]
  · rw [if_neg c]
    refine if_neg ?_
    rw [worth_append]
    have := worth_le v (worth 0 u)
    omega
theorem upTo_some {w : List Int} {most : Nat} (h : Byts w) (hn : w ≠ []) (hl : ¬ (w.head? = some 48 ∧ 1 < w.length)) (a : w.all dig = true) (b : worth 0 w ≤ most) : upTo w most = some (worth 0 w) := by
  unfold upTo
  rw [number_int h, if_neg]
  · exact if_pos b
  · rintro (z | z | ⟨z1, z2⟩)
    · exact hn z
    · rw [a] at z; cases z
    · refine hl ⟨z1, ?_⟩
      cases w with
      | nil => cases z1
      | cons x r =>
        cases r with
        | nil => simp at z1; subst z1; exact absurd rfl z2
        | cons y r => simp
theorem upTo_le {w : List Int} {most n : Nat} (h : upTo w most = some n) : n ≤ most := by
  unfold upTo at h
  split at h
  · split at h
    · cases h; assumption
    · cases h
  · cases h
theorem numberIn_up {w : List Int} {lo hi k : Nat} : numberIn lo hi (oct w, k) = match upTo w hi with
    | some n => if lo ≤ n then .ok n else .error k
    | none => .error k := by
  unfold numberIn upTo
  cases e : number (oct w) with
  | none => rfl
  | some n =>
    simp only
    by_cases a : n ≤ hi
    · by_cases b : lo ≤ n
      · simp [a, b]
      · simp [a, b]
    · simp [a]
end Sm
namespace Sm
open Ql66
def litUp (w : List Int) (most : Nat) : Option Int := if w.take 1 = [45] then (match upTo (w.drop 1) most with
    | some n => if n = 0 then none else some (-(n : Int))
    | none => none) else match upTo w most with
    | some n => some (n : Int)
    | none => none
theorem worth_pos : ∀ {w : List Int} {n : Nat}, 0 < n → 0 < worth n w
  | [], n, h => h
  | x :: r, n, h => by
    show 0 < worth (10 * n + (x.toNat - 48)) r
    exact worth_pos (by omega)
theorem upTo_zero {w : List Int} {most : Nat} (hw : Byts w) (h : upTo w most = some 0) : w = [48] := by
  unfold upTo at h
  rw [number_int hw] at h
  by_cases c : w = [] ∨ w.all dig = false ∨ (w.head? = some 48 ∧ w ≠ [48])
  · rw [if_pos c] at h; cases h
  · rw [if_neg c] at h
    dsimp only at h
    split at h
    · have h0 : worth 0 w = 0 := Option.some.inj h
      cases w with
      | nil => exact absurd (.inl rfl) c
      | cons x r =>
        by_cases z : x = 48
        · subst z
          by_cases y : r = []
          · rw [y]
          · exact absurd (.inr (.inr ⟨rfl, by simp [y]⟩)) c
        · exfalso
          have hd : dig x = true := by
            cases q : dig x with
            | true => rfl
            | false => exact absurd (.inr (.inl (by simp [q]))) c
          have hd' : 48 ≤ x ∧ x ≤ 57 := of_decide_eq_true hd
          have : 0 < worth (10 * 0 + (x.toNat - 48)) r := worth_pos (by omega)
          have e : worth 0 (x :: r) = worth (10 * 0 + (x.toNat - 48)) r := rfl
          omega
    · cases h
theorem upTo_48 (most : Nat) : upTo [48] most = some 0 := by
  have e : number (oct [48]) = some 0 := by decide
  unfold upTo; rw [e]; simp
theorem oct_zero {w : List Int} (hw : Byts w) : oct w = txt "0" ↔ w = [48] := by
  have e : txt "0" = oct [48] := by decide
  rw [e]
  exact ⟨fun h => oct_inj hw (by intro x hx; simp at hx; subst hx; exact ⟨by decide, by decide⟩) h, fun h => by rw [h]⟩
theorem litUp_zero {w : List Int} {most : Nat} (hw : Byts w) : litUp w most = some 0 ↔ w = [48] := by
  constructor
  · intro h
    unfold litUp at h
    split at h
    · split at h
      · split at h
        · cases h
        · rename_i n _ hn
          have : -(n : Int) = 0 := Option.some.inj h
          omega
      · cases h
    · split at h
      · rename_i n e
        have : (n : Int) = 0 := Option.some.inj h
        have : n = 0 := by omega
        subst this
        exact upTo_zero hw e
      · cases h
  · rintro rfl
    unfold litUp
    rw [if_neg (by decide), upTo_48]; rfl
theorem literal_lit {w : List Int} {vars k : Nat} (hw : Byts w) (h0 : w ≠ [48]) : literal vars (oct w, k) = match litUp w vars with
    | none => .error k
    | some z => .ok (z.natAbs, decide (0 < z)) := by
  cases w with
  | nil =>
    show (numberIn 1 vars (oct [], k)).map (fun n => (n, true)) = _
    rw [numberIn_up]; rfl
  | cons x r =>
    have hx := hw x (by simp)
    have hr : Byts r := fun z hz => hw z (by simp [hz])
    by_cases z : x = 45
    · subst z
      show (numberIn 1 vars (oct r, k)).map (fun n => (n, false)) = _
      rw [numberIn_up]
      unfold litUp
      rw [if_pos (by simp)]
      show Except.map _ _ = match (match upTo r vars with | some n => if n = 0 then none else some (-(n : Int)) | none => none) with | none => Except.error k | some z => .ok (z.natAbs, decide (0 < z))
      cases e : upTo r vars with
      | none => rfl
      | some n =>
        by_cases y : n = 0
        · subst y; simp [Except.map]
        · have h1 : 1 ≤ n := by omega
          have h2 : ¬ (0 < -(n : Int)) := by omega
          simp [y, h1, Except.map]
    · have hne : o8 x ≠ 45 := fun e => z ((o8_eq (k := 45) hx (by decide)).mp e)
      have e1 : literal vars (oct (x :: r), k) = (numberIn 1 vars (oct (x :: r), k)).map (fun n => (n, true)) := by
        show literal vars (o8 x :: oct r, k) = (numberIn 1 vars (o8 x :: oct r, k)).map (fun n => (n, true))
        unfold literal
        split
        · rename_i r' heq
          injection heq with a b
          exact absurd a hne
        · rfl
      rw [e1, numberIn_up]
      unfold litUp
      rw [if_neg (by simp [z])]
      cases e : upTo (x :: r) vars with
      | none => rfl
      | some n =>
        by_cases y : n = 0
        · subst y; exact absurd (upTo_zero hw e) h0
        · have h1 : 1 ≤ n := by omega
          have h2 : (0 : Int) < n := by omega
          simp [h1, Except.map]; omega
def clauseAt (vars : Nat) (l : Clause) (z : Int) (k : Nat) (r : List (List Int)) : Except Nat (Clause × List Tok) :=
  if z = 0 then .ok (l, toksAt k r) else if (l.any fun y => y.1 == z.natAbs) = true then .error k else clause vars (l ++ [(z.natAbs, decide (0 < z))]) (toksAt k r)
theorem clause_nil (vars : Nat) (l : Clause) (k : Nat) : clause vars l (toksAt k []) = .error 0 := by
  rw [toksAt_nil]; unfold clause; rfl
theorem clause_cons {vars : Nat} {l : Clause} {k : Nat} {w : List Int} {r : List (List Int)} (hw : Byts w) : clause vars l (toksAt k (w :: r)) = match litUp w vars with
    | none => .error (k + 1)
    | some z => clauseAt vars l z (k + 1) r := by
  rw [toksAt_cons]
  by_cases h0 : w = [48]
  · subst h0
    rw [(litUp_zero hw).mpr rfl]
    unfold clause clauseAt
    rw [if_pos ((oct_zero hw).mpr rfl)]; rfl
  · unfold clause
    rw [if_neg (fun e => h0 ((oct_zero hw).mp e)), literal_lit hw h0]
    cases e : litUp w vars with
    | none => rfl
    | some z =>
      have hz : z ≠ 0 := fun q => h0 ((litUp_zero hw).mp (by rw [e, q]))
      show (if _ then _ else _) = clauseAt vars l z (k + 1) r
      unfold clauseAt
      rw [if_neg hz]
def blockAt (vars : Nat) (q : Bool) (l : List (Nat × Bool)) (any : Bool) (n k : Nat) (r : List (List Int)) : Except Nat (List (Nat × Bool) × List Tok) :=
  if n = 0 then (if any = true then .ok (l, toksAt k r) else .error k) else if (l.any fun y => y.1 == n) = true then .error k else block vars q (l ++ [(n, q)]) true (toksAt k r)
theorem block_nil (vars : Nat) (q : Bool) (l : List (Nat × Bool)) (any : Bool) (k : Nat) : block vars q l any (toksAt k []) = .error 0 := by
  rw [toksAt_nil]; unfold block; rfl
theorem block_cons {vars : Nat} {q : Bool} {l : List (Nat × Bool)} {any : Bool} {k : Nat} {w : List Int} {r : List (List Int)} : block vars q l any (toksAt k (w :: r)) = match upTo w vars with
    | none => .error (k + 1)
    | some n => blockAt vars q l any n (k + 1) r := by
  rw [toksAt_cons]
  unfold block
  rw [numberIn_up]
  cases e : upTo w vars with
  | none => rfl
  | some n => simp [Except.bind, blockAt]
end Sm
namespace Sm
open Ql66
def endF (o : List (Nat × Bool)) (cs : List Clause) : List Tok → Except Nat Formula
  | [] => .ok ⟨o, cs⟩
  | x :: _ => .error x.2
def form4 (vars count : Nat) (r : List (List Int)) : Except Nat Formula :=
  (blocks vars (r.length + 1) [] (toksAt 4 r)).bind fun o => (clauses vars count o.2).bind fun l => endF o.1 l.1 l.2
def form3 (vars : Nat) : List (List Int) → Except Nat Formula
  | [] => .error 0
  | w :: r => match upTo w 1024 with
    | none => .error 4
    | some n => form4 vars n r
def form2 : List (List Int) → Except Nat Formula
  | [] => .error 0
  | w :: r => match upTo w 20 with
    | none => .error 3
    | some n => if 1 ≤ n then form3 n r else .error 3
def form1 : List (List Int) → Except Nat Formula
  | [] => .error 0
  | w :: r => if oct w = txt "cnf" then form2 r else .error 2
def form0 : List (List Int) → Except Nat Formula
  | [] => .error 0
  | w :: r => if oct w = txt "p" then form1 r else .error 1
theorem formula_form (ws : List (List Int)) : formula (toksAt 0 ws) = form0 ws := by
  match ws with
  | [] => rfl
  | [p] =>
    rw [toksAt_cons, toksAt_nil]
    show (if oct p ≠ txt "p" then Except.error (0 + 1) else Except.error 0) = _
    unfold form0 form1
    by_cases h : oct p = txt "p" <;> simp [h]
  | [p, c] =>
    rw [toksAt_cons, toksAt_cons, toksAt_nil]
    show (if oct p ≠ txt "p" then Except.error (0 + 1) else if oct c ≠ txt "cnf" then Except.error (0 + 1 + 1) else Except.error 0) = _
    unfold form0 form1 form2
    by_cases h : oct p = txt "p" <;> by_cases h2 : oct c = txt "cnf" <;> simp [h, h2]
  | [p, c, v] =>
    rw [toksAt_cons, toksAt_cons, toksAt_cons, toksAt_nil]
    show (if oct p ≠ txt "p" then Except.error (0 + 1) else if oct c ≠ txt "cnf" then Except.error (0 + 1 + 1) else (numberIn 1 VARS (oct v, 0 + 1 + 1 + 1)).bind fun _ => Except.error 0) = _
    rw [numberIn_up]
    unfold form0 form1 form2 form3
    show _ = if _ then (if _ then (match upTo v 20 with | none => Except.error 3 | some n => if 1 ≤ n then Except.error 0 else Except.error 3) else _) else _
    by_cases h : oct p = txt "p"
    · by_cases h2 : oct c = txt "cnf"
      · rw [if_neg (by simp [h]), if_neg (by simp [h2]), if_pos h, if_pos h2]
        show (match upTo v 20 with | some n => if 1 ≤ n then Except.ok n else Except.error 3 | none => Except.error 3).bind (fun _ => Except.error 0) = _
        cases e : upTo v 20 with
        | none => rfl
        | some n => by_cases y : 1 ≤ n <;> simp [y, Except.bind]
      · simp [h, h2]
    · simp [h]
  | p :: c :: v :: n :: r =>
    rw [toksAt_cons, toksAt_cons, toksAt_cons, toksAt_cons]
    have hl : (toksAt 4 r).length = r.length := toksAt_length 4 r
    show (if oct p ≠ txt "p" then Except.error (0 + 1) else if oct c ≠ txt "cnf" then Except.error (0 + 1 + 1) else (numberIn 1 VARS (oct v, 0 + 1 + 1 + 1)).bind fun vars => (numberIn 0 CLAUSES (oct n, 0 + 1 + 1 + 1 + 1)).bind fun count =>
      (blocks vars ((toksAt 4 r).length + 1) [] (toksAt 4 r)).bind fun o => (clauses vars count o.2).bind fun l => match l.2 with
        | [] => Except.ok (⟨o.1, l.1⟩ : Formula)
        | x :: _ => .error x.2) = _
    rw [numberIn_up, hl]
    unfold form0 form1 form2
    by_cases h : oct p = txt "p"
    · by_cases h2 : oct c = txt "cnf"
      · rw [if_neg (by simp [h]), if_neg (by simp [h2])]
        have e0 : form0 (p :: c :: v :: n :: r) = (match upTo v 20 with | none => Except.error 3 | some m => if 1 ≤ m then form3 m (n :: r) else Except.error 3) := by
          show (if oct p = txt "p" then form1 (c :: v :: n :: r) else _) = _
          rw [if_pos h]
          show (if oct c = txt "cnf" then form2 (v :: n :: r) else _) = _
          rw [if_pos h2]; rfl
        refine Eq.trans ?_ e0.symm
        show (match upTo v 20 with | some n => if 1 ≤ n then Except.ok n else Except.error 3 | none => Except.error 3).bind _ = (match upTo v 20 with | none => Except.error 3 | some m => if 1 ≤ m then form3 m (n :: r) else Except.error 3)
        cases e : upTo v 20 with
        | none => rfl
        | some m =>
          by_cases y : 1 ≤ m
          · simp only [y, if_true]
            show (numberIn 0 1024 (oct n, 4)).bind _ = _
            rw [numberIn_up]
            show (match upTo n 1024 with | some n => if 0 ≤ n then Except.ok n else Except.error 4 | none => Except.error 4).bind _ = (match upTo n 1024 with | none => Except.error 4 | some c => form4 m c r)
            cases e2 : upTo n 1024 with
            | none => rfl
            | some cnt =>
              simp only [Nat.zero_le, if_true]
              show ((blocks m (r.length + 1) [] (toksAt 4 r)).bind fun o => (clauses m cnt o.2).bind fun l => match l.2 with
                | [] => Except.ok (⟨o.1, l.1⟩ : Formula)
                | x :: _ => .error x.2) = form4 m cnt r
              rfl
          · simp [y, Except.bind]
      · simp [h, h2]
    · simp [h]
def errNo (ws : List (List Int)) (k : Nat) : Nat := if k = 0 then ws.length + 1 else k
theorem read_form {t : List Int} (hb : Byts t) : Ql66.read (oct t) = match form0 (wordsOf t) with
    | .ok f => .ok f
    | .error k => .error (errNo (wordsOf t) k) := by
  unfold Ql66.read
  rw [words_eq hb, formula_form]
  cases form0 (wordsOf t) with
  | ok f => rfl
  | error k => simp [errNo, toksAt_length]
theorem nodup_lt : ∀ (n : Nat) (l : List Nat), l.Nodup → (∀ x ∈ l, x < n) → l.length ≤ n
  | 0, l, _, h => by
    cases l with
    | nil => simp
    | cons x r => exact absurd (h x (by simp)) (by omega)
  | n + 1, l, nd, h => by
    by_cases m : n ∈ l
    · have := nodup_lt n (l.erase n) (nd.erase n) fun x hx => by
        have h1 := (nd.mem_erase_iff).mp hx
        have h2 := h x h1.2
        have h3 := h1.1
        omega
      rw [List.length_erase_of_mem m] at this
      omega
    · have := nodup_lt n l nd fun x hx => by
        have h2 := h x hx
        have h3 : x ≠ n := fun e => m (e ▸ hx)
        omega
      omega
structure Ord (vars : Nat) (l : List (Nat × Bool)) : Prop where
  nd : (l.map (·.1)).Nodup
  rg : ∀ y ∈ l, 1 ≤ y.1 ∧ y.1 ≤ vars
theorem Ord.len {vars : Nat} {l : List (Nat × Bool)} (o : Ord vars l) : l.length ≤ vars := by
  have := nodup_lt vars (l.map fun y => y.1 - 1) ?_ ?_
  · simpa using this
  · have h := o.nd
    have rg := o.rg
    clear o
    induction l with
    | nil => simp
    | cons y r ih =>
      rw [List.map_cons, List.nodup_cons] at h ⊢
      refine ⟨fun m => h.1 ?_, ih h.2 fun z hz => rg z (by simp [hz])⟩
      obtain ⟨z, hz, e⟩ := List.mem_map.mp m
      have a := rg z (by simp [hz]); have b := rg y (by simp)
      exact List.mem_map.mpr ⟨z, hz, by omega⟩
  · intro x hx
    obtain ⟨z, hz, e⟩ := List.mem_map.mp hx
    have := o.rg z hz
    omega
theorem Ord.nil (vars : Nat) : Ord vars [] := ⟨by simp, fun y h => by cases h⟩
theorem nodup_snoc {l : List Nat} {n : Nat} (h : l.Nodup) (hn : n ∉ l) : (l ++ [n]).Nodup := by
  rw [List.nodup_append]
  exact ⟨h, by simp, fun a ha b hb => by simp at hb; subst hb; exact fun e => hn (e ▸ ha)⟩
theorem any_fst {l : List (Nat × Bool)} {n : Nat} : (l.any fun y => y.1 == n) = true ↔ n ∈ l.map (·.1) := by
  simp [List.any_eq_true, List.mem_map]
theorem Ord.snoc {vars : Nat} {l : List (Nat × Bool)} {n : Nat} {q : Bool} (o : Ord vars l) (h1 : 1 ≤ n) (h2 : n ≤ vars) (hn : ¬ (l.any fun y => y.1 == n) = true) : Ord vars (l ++ [(n, q)]) where
  nd := by
    rw [List.map_append]
    exact nodup_snoc o.nd fun m => hn (any_fst.mpr m)
  rg := fun y hy => by
    rcases List.mem_append.mp hy with z | z
    · exact o.rg y z
    · simp at z; subst z; exact ⟨h1, h2⟩
theorem blocks_done {vars f : Nat} {l : List (Nat × Bool)} {ts : List Tok} (h : l.length = vars) : blocks vars f l ts = .ok (l, ts) := by
  cases f with
  | zero => rfl
  | succ f => unfold blocks; rw [if_pos h]
theorem blocks_nil {vars f k : Nat} {l : List (Nat × Bool)} (h : l.length < vars) : blocks vars (f + 1) l (toksAt k []) = .error 0 := by
  rw [toksAt_nil]; unfold blocks; rw [if_neg (by omega)]
theorem blocks_cons {vars f k : Nat} {l : List (Nat × Bool)} {w : List Int} {r : List (List Int)} (h : l.length < vars) : blocks vars (f + 1) l (toksAt k (w :: r)) =
    if oct w = txt "e" ∨ oct w = txt "a" then (block vars (oct w == txt "e") l false (toksAt (k + 1) r)).bind fun y => blocks vars f y.1 y.2 else .error (k + 1) := by
  rw [toksAt_cons]
  conv => lhs; unfold blocks
  rw [if_neg (by omega)]
theorem clauses_zero (vars : Nat) (ts : List Tok) : clauses vars 0 ts = .ok ([], ts) := rfl
theorem clauses_succ (vars k : Nat) (ts : List Tok) : clauses vars (k + 1) ts = (clause vars [] ts).bind fun c => (clauses vars k c.2).map fun l => (c.1 :: l.1, l.2) := rfl
end Sm
namespace Sm
open Ql66
abbrev wordAt (ws : List (List Int)) (k : Nat) : List Int := ws.getD k []
def errAt (ws : List (List Int)) (k : Nat) : Nat := if k = ws.length then 0 else k + 1
theorem errNo_at {ws : List (List Int)} {k : Nat} (h : k ≤ ws.length) : errNo ws (errAt ws k) = k + 1 := by
  unfold errNo errAt
  by_cases e : k = ws.length
  · rw [if_pos e]; simp [e]
  · rw [if_neg e, if_neg (by omega)]
theorem drop_at {ws : List (List Int)} {k : Nat} (h : k < ws.length) : ws.drop k = wordAt ws k :: ws.drop (k + 1) := by
  unfold wordAt
  rw [List.drop_eq_getElem_cons h, List.getD_eq_getElem?_getD, List.getElem?_eq_getElem h]; rfl
theorem word_end {ws : List (List Int)} {k : Nat} (h : ws.length ≤ k) : wordAt ws k = [] := by
  unfold wordAt
  rw [List.getD_eq_getElem?_getD, List.getElem?_eq_none h]; rfl
theorem litUp_nil (vars : Nat) : litUp [] vars = none := by
  unfold litUp; rw [if_neg (by simp), upTo_nil]
theorem clause_step {ws : List (List Int)} {vars k : Nat} {l : Clause} (hw : ∀ w ∈ ws, Byts w) (h : k ≤ ws.length) : clause vars l (toksAt k (ws.drop k)) = match litUp (wordAt ws k) vars with
    | none => .error (errAt ws k)
    | some z => clauseAt vars l z (k + 1) (ws.drop (k + 1)) := by
  by_cases e : k = ws.length
  · rw [word_end (by omega), litUp_nil, List.drop_of_length_le (by omega), clause_nil]
    unfold errAt; rw [if_pos e]
  · have hk : k < ws.length := by omega
    have hb : Byts (wordAt ws k) := by
      unfold wordAt
      rw [List.getD_eq_getElem?_getD, List.getElem?_eq_getElem hk]
      exact hw _ (List.getElem_mem hk)
    rw [drop_at hk, clause_cons hb]
    unfold errAt; rw [if_neg e]
    all_goals (cases litUp (wordAt ws k) vars <;> rfl)
theorem block_step {ws : List (List Int)} {vars k : Nat} {q any : Bool} {l : List (Nat × Bool)} (h : k ≤ ws.length) : block vars q l any (toksAt k (ws.drop k)) = match upTo (wordAt ws k) vars with
    | none => .error (errAt ws k)
    | some n => blockAt vars q l any n (k + 1) (ws.drop (k + 1)) := by
  by_cases e : k = ws.length
  · rw [word_end (by omega), upTo_nil, List.drop_of_length_le (by omega), block_nil]
    unfold errAt; rw [if_pos e]
  · rw [drop_at (by omega), block_cons]
    unfold errAt; rw [if_neg e]
    all_goals (cases upTo (wordAt ws k) vars <;> rfl)
theorem blocks_step {ws : List (List Int)} {vars f k : Nat} {l : List (Nat × Bool)} (hl : l.length < vars) (h : k ≤ ws.length) : blocks vars (f + 1) l (toksAt k (ws.drop k)) =
    if oct (wordAt ws k) = txt "e" ∨ oct (wordAt ws k) = txt "a" then (block vars (oct (wordAt ws k) == txt "e") l false (toksAt (k + 1) (ws.drop (k + 1)))).bind fun y => blocks vars f y.1 y.2 else .error (errAt ws k) := by
  by_cases e : k = ws.length
  · rw [word_end (by omega), List.drop_of_length_le (by omega), blocks_nil hl, if_neg (by decide)]
    unfold errAt; rw [if_pos e]
  · rw [drop_at (by omega), blocks_cons hl]
    unfold errAt; rw [if_neg e]
end Sm
namespace Sm
open Ql66
theorem form0_step (ws : List (List Int)) : form0 ws = if oct (wordAt ws 0) = txt "p" then form1 (ws.drop 1) else .error (errAt ws 0) := by
  cases ws with
  | nil => rfl
  | cons w r => rfl
theorem form1_step {ws : List (List Int)} (h : 1 ≤ ws.length) : form1 (ws.drop 1) = if oct (wordAt ws 1) = txt "cnf" then form2 (ws.drop 2) else .error (errAt ws 1) := by
  match ws, h with
  | [_], _ => rfl
  | _ :: _ :: _, _ => rfl
theorem form2_step {ws : List (List Int)} (h : 2 ≤ ws.length) : form2 (ws.drop 2) = match upTo (wordAt ws 2) 20 with
    | none => .error (errAt ws 2)
    | some n => if 1 ≤ n then form3 n (ws.drop 3) else .error 3 := by
  match ws, h with
  | [_, _], _ => rfl
  | _ :: _ :: _ :: _, _ => rfl
theorem form3_step {ws : List (List Int)} {vars : Nat} (h : 3 ≤ ws.length) : form3 vars (ws.drop 3) = match upTo (wordAt ws 3) 1024 with
    | none => .error (errAt ws 3)
    | some n => form4 vars n (ws.drop 4) := by
  match ws, h with
  | [_, _, _], _ => rfl
  | _ :: _ :: _ :: _ :: _, _ => rfl
theorem sum_mem {l : List (List Int)} {w : List Int} (h : w ∈ l) : w.length ≤ (l.map List.length).sum := by
  induction l with
  | nil => cases h
  | cons x r ih =>
    rw [List.map_cons, List.sum_cons]
    rcases List.mem_cons.mp h with rfl | h
    · omega
    · have := ih h; omega
theorem clauses_more {vars n : Nat} {cs : List Clause} {c : Clause} {ts ts' : List Tok} (h : clause vars [] ts = .ok (c, ts')) :
    ((clauses vars (n + 1) ts).map fun l => (cs ++ l.1, l.2)) = (clauses vars n ts').map fun l => ((cs ++ [c]) ++ l.1, l.2) := by
  rw [clauses_succ, h]
  simp only [Except.bind]
  cases clauses vars n ts' with
  | error e => rfl
  | ok l => simp [Except.map]
theorem clauses_err {vars n e : Nat} {cs : List Clause} {ts : List Tok} (h : clause vars [] ts = .error e) : ((clauses vars (n + 1) ts).map fun l => (cs ++ l.1, l.2)) = .error e := by
  rw [clauses_succ, h]; rfl
theorem map_id_pair {vars n : Nat} {ts : List Tok} : ((clauses vars n ts).map fun l => (([] : List Clause) ++ l.1, l.2)) = clauses vars n ts := by
  cases clauses vars n ts with
  | error e => rfl
  | ok l => simp [Except.map]
end Sm
namespace Sm
open Ql66
def vals (m n : Nat) : Values := (List.range m).map fun i => n.testBit i
theorem vals_length (m n : Nat) : (vals m n).length = m := by simp [vals]
theorem vals_succ (m n : Nat) : vals (m + 1) n = vals m n ++ [n.testBit m] := by
  simp [vals, List.range_succ]
theorem vals_congr {m a b : Nat} (h : ∀ i, i < m → a.testBit i = b.testBit i) : vals m a = vals m b := by
  unfold vals
  apply List.map_congr_left
  intro i hi
  exact h i (List.mem_range.mp hi)
theorem vals_getD {m n i : Nat} (h : i < m) : (vals m n).getD i false = n.testBit i := by
  unfold vals
  rw [List.getD_eq_getElem?_getD, List.getElem?_map, List.getElem?_range h]; rfl
theorem tb_low {n k i : Nat} (h : i < k) : (n + 2 ^ k).testBit i = n.testBit i := by
  rw [Nat.add_comm]
  exact Nat.testBit_two_pow_add_gt h n
theorem tb_top {n k : Nat} (h : n < 2 ^ k) : (n + 2 ^ k).testBit k = true := by
  rw [Nat.add_comm, Nat.testBit_two_pow_add_eq, Nat.testBit_lt_two_pow h]; rfl
theorem vals_zero_bit {m n : Nat} (h : n < 2 ^ m) : vals (m + 1) n = vals m n ++ [false] := by
  rw [vals_succ, Nat.testBit_lt_two_pow h]
theorem vals_one_bit {m n : Nat} (h : n < 2 ^ m) : vals (m + 1) (n + 2 ^ m) = vals m n ++ [true] := by
  rw [vals_succ, tb_top h, vals_congr (b := n) fun i hi => tb_low hi]
def placeB : List Bool → Nat
  | [] => 0
  | v :: r => 2 * placeB r + v.toNat
theorem placeB_lt : ∀ v : List Bool, placeB v < 2 ^ v.length
  | [] => by simp [placeB]
  | v :: r => by
    have := placeB_lt r
    have : v.toNat ≤ 1 := by cases v <;> simp
    simp only [placeB, List.length_cons, Nat.pow_succ]; omega
theorem placeB_bit : ∀ (v : List Bool) (i : Nat), i < v.length → (placeB v).testBit i = v.getD i false
  | [], i, h => by simp at h
  | v :: r, 0, _ => by
    simp only [placeB, Nat.testBit_zero]
    cases v <;> simp <;> omega
  | v :: r, i + 1, h => by
    have ih := placeB_bit r i (by simpa using h)
    simp only [placeB, Nat.testBit_succ]
    have e : (2 * placeB r + v.toNat) / 2 = placeB r := by cases v <;> simp <;> omega
    rw [e, ih]; simp
theorem vals_place (v : List Bool) : vals v.length (placeB v) = v := by
  apply List.ext_getElem
  · exact vals_length _ _
  · intro i h1 h2
    have := placeB_bit v i h2
    simp only [vals, List.getElem_map, List.getElem_range]
    rw [this, List.getD_eq_getElem?_getD, List.getElem?_eq_getElem h2]; rfl
def failsAt : Option Bool → Bool → Bool
  | none, _ => true
  | some b, v => v != b
def fails : Nat → List (Option Bool) → Nat → Bool
  | _, [], _ => true
  | k, h :: r, p => failsAt h (p.testBit k) && fails (k + 1) r p
theorem fails_snoc : ∀ (k : Nat) (hs : List (Option Bool)) (h : Option Bool) (p : Nat), fails k (hs ++ [h]) p = (fails k hs p && failsAt h (p.testBit (k + hs.length)))
  | k, [], h, p => by simp [fails]
  | k, g :: r, h, p => by
    rw [List.cons_append, fails, fails, fails_snoc (k + 1) r h p, Bool.and_assoc]
    have : k + 1 + r.length = k + (g :: r).length := by simp; omega
    rw [this]
theorem fails_congr : ∀ (k : Nat) (hs : List (Option Bool)) (p q : Nat), (∀ i, k ≤ i → i < k + hs.length → p.testBit i = q.testBit i) → fails k hs p = fails k hs q
  | _, [], _, _, _ => rfl
  | k, h :: r, p, q, e => by
    rw [fails, fails, e k (Nat.le_refl _) (by simp), fails_congr (k + 1) r p q fun i h1 h2 => e i (by omega) (by simp at h2 ⊢; omega)]
theorem fails_append : ∀ (k : Nat) (a b : List (Option Bool)) (p : Nat), fails k (a ++ b) p = (fails k a p && fails (k + a.length) b p)
  | k, [], b, p => by simp [fails]
  | k, h :: r, b, p => by
    rw [List.cons_append, fails, fails, fails_append (k + 1) r b p, Bool.and_assoc]
    have : k + 1 + r.length = k + (h :: r).length := by simp; omega
    rw [this]
theorem fails_shift : ∀ (k j : Nat) (hs : List (Option Bool)) (p : Nat), fails (k + j) hs p = fails k hs (p / 2 ^ j)
  | k, j, [], p => rfl
  | k, j, h :: r, p => by
    have := fails_shift (k + 1) j r p
    rw [fails, fails, ← this, Nat.testBit_div_two_pow]
    have e : k + 1 + j = k + j + 1 := by omega
    have e2 : j + k = k + j := by omega
    rw [e]
theorem fails_all : ∀ (k : Nat) (hs : List (Option Bool)) (p : Nat), fails k hs p = true ↔ ∀ i b, hs[i]? = some (some b) → p.testBit (k + i) ≠ b
  | k, [], p => by simp [fails]
  | k, h :: r, p => by
    rw [fails, Bool.and_eq_true, fails_all (k + 1) r p]
    constructor
    · rintro ⟨a, b⟩ i c e
      cases i with
      | zero =>
        simp at e; subst e
        simpa [failsAt] using a
      | succ i =>
        have := b i c (by simpa using e)
        have q : k + (i + 1) = k + 1 + i := by omega
        rw [q]; exact this
    · intro a
      refine ⟨?_, fun i b e => ?_⟩
      · cases h with
        | none => rfl
        | some b =>
          have := a 0 b (by simp)
          simpa [failsAt] using this
      · have := a (i + 1) b (by simpa using e)
        have q : k + (i + 1) = k + 1 + i := by omega
        rw [q] at this; exact this
structure RowOf (hs : List (Option Bool)) (row : Nat) : Prop where
  bit : ∀ p, row.testBit p = (decide (p < 2 ^ hs.length) && fails 0 hs p)
theorem RowOf.nil : RowOf [] 1 := ⟨fun p => by
  simp only [fails, List.length_nil, Nat.pow_zero, Bool.and_true]
  cases p with
  | zero => rfl
  | succ p => simp [Nat.testBit_succ]⟩
def rowStep (h : Option Bool) (row width : Nat) : Nat := match h with
  | none => row ||| (row <<< width)
  | some false => row <<< width
  | some true => row
theorem RowOf.snoc {hs : List (Option Bool)} {row : Nat} (r : RowOf hs row) (h : Option Bool) : RowOf (hs ++ [h]) (rowStep h row (2 ^ hs.length)) := ⟨fun p => by
  have hb := r.bit
  rw [fails_snoc, Nat.zero_add, List.length_append, List.length_singleton, Nat.pow_succ]
  by_cases c : p < 2 ^ hs.length
  · have t : p.testBit hs.length = false := Nat.testBit_lt_two_pow c
    have n1 : ¬ 2 ^ hs.length ≤ p := by omega
    have n2 : p < 2 ^ hs.length * 2 := by omega
    rcases h with _ | _ | _
    · simp [rowStep, Nat.testBit_or, Nat.testBit_shiftLeft, hb, t, n1, n2, c, failsAt]
    · simp [rowStep, Nat.testBit_shiftLeft, t, n1, failsAt]
    · simp [rowStep, hb, t, n2, c, failsAt]
  · by_cases d : p < 2 ^ hs.length * 2
    · have e : p = (p - 2 ^ hs.length) + 2 ^ hs.length := by omega
      have lt : p - 2 ^ hs.length < 2 ^ hs.length := by omega
      have t : p.testBit hs.length = true := by rw [e]; exact tb_top lt
      have ge : 2 ^ hs.length ≤ p := by omega
      have f : fails 0 hs (p - 2 ^ hs.length) = fails 0 hs p := fails_congr 0 hs _ _ fun i _ hi => by
        conv => rhs; rw [e]
        rw [tb_low (by omega)]
      rcases h with _ | _ | _
      · simp [rowStep, Nat.testBit_or, Nat.testBit_shiftLeft, hb, t, ge, c, d, lt, f, failsAt]
      · simp [rowStep, Nat.testBit_shiftLeft, hb, t, ge, d, lt, f, failsAt]
      · simp [rowStep, hb, t, c, failsAt]
    · have n3 : ¬ (p - 2 ^ hs.length < 2 ^ hs.length) := by omega
      rcases h with _ | _ | _
      · simp [rowStep, Nat.testBit_or, Nat.testBit_shiftLeft, hb, c, d, n3]
      · simp [rowStep, Nat.testBit_shiftLeft, hb, d, n3]
      · simp [rowStep, hb, c, d]⟩
theorem lt_of_bits {x k : Nat} (h : ∀ i, k ≤ i → x.testBit i = false) : x < 2 ^ k := Nat.lt_pow_two_of_testBit x h
theorem RowOf.lt {hs : List (Option Bool)} {row : Nat} (r : RowOf hs row) : row < 2 ^ 2 ^ hs.length := lt_of_bits fun i hi => by
  rw [r.bit]; simp; omega
def placesStep (h : Option Bool) (ps : List Nat) (width : Nat) : List Nat := match h with
  | none => ps ++ ps.map (· + width)
  | some false => ps.map (· + width)
  | some true => ps
structure PlacesOf (hs : List (Option Bool)) (ps : List Nat) : Prop where
  mem : ∀ p, p ∈ ps ↔ p < 2 ^ hs.length ∧ fails 0 hs p = true
  len : ps.length ≤ 2 ^ hs.length
theorem PlacesOf.nil : PlacesOf [] [0] := ⟨fun p => by simp [fails], by simp⟩
theorem PlacesOf.snoc {hs : List (Option Bool)} {ps : List Nat} (r : PlacesOf hs ps) (h : Option Bool) : PlacesOf (hs ++ [h]) (placesStep h ps (2 ^ hs.length)) where
  len := by
    have := r.len
    rw [List.length_append, List.length_singleton, Nat.pow_succ]
    rcases h with _ | _ | _ <;> simp [placesStep] <;> omega
  mem := fun p => by
    have hm := r.mem
    rw [fails_snoc, Nat.zero_add, List.length_append, List.length_singleton, Nat.pow_succ]
    have low : p < 2 ^ hs.length → p.testBit hs.length = false := fun c => Nat.testBit_lt_two_pow c
    have up : ∀ a, a < 2 ^ hs.length → (a + 2 ^ hs.length).testBit hs.length = true ∧ fails 0 hs (a + 2 ^ hs.length) = fails 0 hs a := fun a ha => ⟨tb_top ha, fails_congr 0 hs _ _ fun i _ hi => tb_low (by omega)⟩
    have A : p ∈ ps ↔ p < 2 ^ hs.length ∧ fails 0 hs p = true := hm p
    have B : p ∈ ps.map (· + 2 ^ hs.length) ↔ (2 ^ hs.length ≤ p ∧ p < 2 ^ hs.length * 2) ∧ fails 0 hs p = true := by
      rw [List.mem_map]
      constructor
      · rintro ⟨a, ha, rfl⟩
        have q := (hm a).mp ha
        rw [(up a q.1).2]
        exact ⟨⟨by omega, by omega⟩, q.2⟩
      · rintro ⟨⟨h1, h2⟩, h3⟩
        refine ⟨p - 2 ^ hs.length, ?_, by omega⟩
        rw [hm]
        have lt : p - 2 ^ hs.length < 2 ^ hs.length := by omega
        have := (up _ lt).2
        rw [show p - 2 ^ hs.length + 2 ^ hs.length = p by omega] at this
        exact ⟨lt, by rw [← this]; exact h3⟩
    have T : 2 ^ hs.length ≤ p → p < 2 ^ hs.length * 2 → p.testBit hs.length = true := fun h1 h2 => by
      have := (up (p - 2 ^ hs.length) (by omega)).1
      rw [show p - 2 ^ hs.length + 2 ^ hs.length = p by omega] at this
      exact this
    rcases h with _ | _ | _
    · show p ∈ ps ++ _ ↔ _
      rw [List.mem_append, A, B]
      simp only [failsAt, Bool.and_true]
      constructor
      · rintro (h | h)
        · exact ⟨by omega, h.2⟩
        · exact ⟨h.1.2, h.2⟩
      · rintro ⟨h1, h2⟩
        by_cases c : p < 2 ^ hs.length
        · exact .inl ⟨c, h2⟩
        · exact .inr ⟨⟨by omega, h1⟩, h2⟩
    · show p ∈ ps.map _ ↔ _
      rw [B]
      constructor
      · rintro ⟨⟨h1, h2⟩, h3⟩
        exact ⟨h2, by rw [h3, T h1 h2]; rfl⟩
      · rintro ⟨h1, h2⟩
        rw [Bool.and_eq_true] at h2
        refine ⟨⟨?_, h1⟩, h2.1⟩
        by_cases c : p < 2 ^ hs.length
        · have := h2.2
          rw [low c] at this
          cases this
        · omega
    · show p ∈ ps ↔ _
      rw [A]
      constructor
      · rintro ⟨h1, h2⟩
        exact ⟨by omega, by rw [h2, low h1]; rfl⟩
      · rintro ⟨h1, h2⟩
        rw [Bool.and_eq_true] at h2
        refine ⟨?_, h2.1⟩
        by_cases c : p < 2 ^ hs.length
        · exact c
        · have := h2.2
          rw [T (by omega) h1] at this
          cases this
end Sm
namespace Sm
open Ql66
theorem p10 {k : Nat} (h : k ≤ 10) : 2 ^ k ≤ 1024 := Nat.pow_le_pow_right (n := 2) (j := 10) (by decide) h
def cnt (n : Nat) (P : Nat → Bool) : Nat := (List.range n).countP P
theorem cnt_add (a b : Nat) (P : Nat → Bool) : cnt (a + b) P = cnt a P + cnt b (fun n => P (a + n)) := by
  unfold cnt
  rw [List.range_add, List.countP_append, List.countP_map]; rfl
theorem cnt_congr {n : Nat} {P Q : Nat → Bool} (h : ∀ i, i < n → P i = Q i) : cnt n P = cnt n Q := by
  unfold cnt
  exact List.countP_congr fun i hi => by rw [h i (List.mem_range.mp hi)]
theorem cnt_none {n : Nat} {P : Nat → Bool} (h : ∀ i, i < n → P i = false) : cnt n P = 0 := by
  unfold cnt
  rw [List.countP_eq_zero]
  intro i hi
  rw [h i (List.mem_range.mp hi)]; simp
theorem cnt_not (n : Nat) (P : Nat → Bool) : cnt n P + cnt n (fun i => !P i) = n := by
  unfold cnt
  have : ∀ l : List Nat, l.countP P + l.countP (fun i => !P i) = l.length := by
    intro l
    induction l with
    | nil => rfl
    | cons x r ih =>
      rw [List.countP_cons, List.countP_cons, List.length_cons]
      cases P x <;> simp <;> omega
  rw [this, List.length_range]
theorem values_cnt : ∀ (k : Nat) (g : Values → Bool), (valuesOf k).countP g = cnt (2 ^ k) fun n => g (vals k n)
  | 0, g => by
    show List.countP g [[]] = cnt 1 _
    simp [cnt, List.range_succ, vals]
  | k + 1, g => by
    have fl : ∀ l : List Values, (l.flatMap fun v => [v ++ [false], v ++ [true]]).countP g = l.countP (fun v => g (v ++ [false])) + l.countP (fun v => g (v ++ [true])) := by
      intro l
      induction l with
      | nil => rfl
      | cons v r ih =>
        rw [List.flatMap_cons, List.countP_append, ih, List.countP_cons, List.countP_cons]
        simp only [List.countP_cons, List.countP_nil]
        cases g (v ++ [false]) <;> cases g (v ++ [true]) <;> simp <;> omega
    show List.countP g ((valuesOf k).flatMap fun v => [v ++ [false], v ++ [true]]) = _
    rw [fl, values_cnt k, values_cnt k, Nat.pow_succ, Nat.mul_two, cnt_add]
    congr 1
    · exact cnt_congr fun i hi => by rw [vals_zero_bit hi]
    · exact cnt_congr fun i hi => by rw [Nat.add_comm (2 ^ k) i, vals_one_bit hi]
theorem ways_cnt (f : Formula) (k : Nat) : f.ways k = 2 ^ k - cnt (2 ^ k) fun n => !f.true_ (vals k n) := by
  unfold Formula.ways
  rw [← List.countP_eq_length_filter, values_cnt]
  have := cnt_not (2 ^ k) fun n => f.true_ (vals k n)
  omega
def bitAt (rows : List Nat) (n : Nat) : Bool := (rows.getD (n / 1024) 0).testBit (n % 1024)
theorem rows_cntB (B : Nat) (hB : 0 < B) : ∀ rows : List Nat, (rows.map fun r => cnt B r.testBit).sum = cnt (B * rows.length) (fun n => (rows.getD (n / B) 0).testBit (n % B))
  | [] => rfl
  | r :: rs => by
    have e : B * (r :: rs).length = B + B * rs.length := by rw [List.length_cons, Nat.mul_add, Nat.mul_one, Nat.add_comm]
    rw [List.map_cons, List.sum_cons, rows_cntB B hB rs, e, cnt_add]
    have a : cnt B r.testBit = cnt B (fun n => ((r :: rs).getD (n / B) 0).testBit (n % B)) := cnt_congr fun i hi => by
      rw [Nat.div_eq_of_lt hi, Nat.mod_eq_of_lt hi]; rfl
    have b : cnt (B * rs.length) (fun n => (rs.getD (n / B) 0).testBit (n % B)) = cnt (B * rs.length) (fun n => ((r :: rs).getD ((B + n) / B) 0).testBit ((B + n) % B)) := cnt_congr fun i hi => by
      rw [Nat.add_div_left _ hB, Nat.add_mod_left]; rfl
    rw [a, b]
theorem rows_cnt (rows : List Nat) : (rows.map fun r => cnt 1024 r.testBit).sum = cnt (1024 * rows.length) (bitAt rows) := rows_cntB 1024 (by decide) rows
structure Lev (f : Formula) (m : Nat) (rows : List Nat) : Prop where
  len : rows.length = 2 ^ (m - 10)
  lt : ∀ r ∈ rows, r < 2 ^ min (2 ^ m) 1024
  bit : ∀ n, n < 2 ^ m → bitAt rows n = !f.true_ (vals m n)
theorem true_step {f : Formula} {v : Values} {x : Nat} {q : Bool} (h : f.order[v.length]? = some (x, q)) : f.true_ v = if q = true then f.true_ (v ++ [false]) || f.true_ (v ++ [true]) else f.true_ (v ++ [false]) && f.true_ (v ++ [true]) := by
  obtain ⟨hl, e⟩ := List.getElem?_eq_some_iff.mp h
  unfold Formula.true_
  rw [List.drop_eq_getElem_cons hl, e, trueFrom, List.length_append, List.length_append]; rfl
def comb (q : Bool) (a b : Nat) : Nat := if q = true then a &&& b else a ||| b
theorem comb_bit (q : Bool) (a b i : Nat) : (comb q a b).testBit i = if q = true then a.testBit i && b.testBit i else a.testBit i || b.testBit i := by
  unfold comb
  cases q
  · simp [Nat.testBit_or]
  · simp [Nat.testBit_and]
theorem comb_lt {q : Bool} {a b k : Nat} (ha : a < 2 ^ k) (hb : b < 2 ^ k) : comb q a b < 2 ^ k := by
  unfold comb
  cases q
  · exact Nat.or_lt_two_pow ha hb
  · exact Nat.and_lt_two_pow _ hb
theorem not_step {f : Formula} {m n x : Nat} {q a b : Bool} (h : f.order[m]? = some (x, q)) (hn : n < 2 ^ m) (ea : a = !f.true_ (vals (m + 1) n)) (eb : b = !f.true_ (vals (m + 1) (n + 2 ^ m))) :
    (if q = true then a && b else a || b) = !f.true_ (vals m n) := by
  have h' : f.order[(vals m n).length]? = some (x, q) := by rw [vals_length]; exact h
  rw [true_step h', ea, eb, vals_zero_bit hn, vals_one_bit hn]
  cases q <;> simp
theorem pow_split {m : Nat} (h : 10 ≤ m) : 2 ^ m = 2 ^ (m - 10) * 1024 := by
  have : 2 ^ m = 2 ^ (m - 10) * 2 ^ 10 := by rw [← Nat.pow_add]; congr 1; omega
  exact this
theorem Lev.many {f : Formula} {m x : Nat} {q : Bool} {rows : List Nat} (L : Lev f (m + 1) rows) (h : f.order[m]? = some (x, q)) (hm : 10 ≤ m) :
    Lev f m (List.zipWith (comb q) (rows.take (2 ^ (m - 10))) (rows.drop (2 ^ (m - 10)))) := by
  have hl : rows.length = 2 ^ (m - 10) * 2 := by rw [L.len, show m + 1 - 10 = (m - 10) + 1 by omega, Nat.pow_succ]
  have e0 : 2 ^ m = 2 ^ (m - 10) * 1024 := pow_split hm
  have big : ∀ k, 10 ≤ k → min (2 ^ k) 1024 = 1024 := fun k hk => by
    have : 2 ^ 10 ≤ 2 ^ k := Nat.pow_le_pow_right (by decide) hk
    rw [Nat.min_eq_right (by omega)]
  refine ⟨?_, ?_, fun n hn => ?_⟩
  · rw [List.length_zipWith, List.length_take, List.length_drop, hl]; omega
  · intro r hr
    rw [big m hm]
    have hlt := L.lt
    rw [big (m + 1) (by omega)] at hlt
    obtain ⟨i, hi, e⟩ := List.getElem_of_mem hr
    rw [List.getElem_zipWith] at e
    rw [← e]
    refine comb_lt (hlt _ ?_) (hlt _ ?_)
    · exact List.mem_of_mem_take (List.getElem_mem _)
    · exact List.mem_of_mem_drop (List.getElem_mem _)
  · have hq : n / 1024 < 2 ^ (m - 10) := by omega
    have e1 : bitAt (List.zipWith (comb q) (rows.take (2 ^ (m - 10))) (rows.drop (2 ^ (m - 10)))) n = if q = true then bitAt rows n && bitAt rows (n + 2 ^ m) else bitAt rows n || bitAt rows (n + 2 ^ m) := by
      unfold bitAt
      have d1 : (n + 2 ^ m) / 1024 = n / 1024 + 2 ^ (m - 10) := by omega
      have d2 : (n + 2 ^ m) % 1024 = n % 1024 := by omega
      rw [d1, d2]
      have l1 : n / 1024 < rows.length := by omega
      have l2 : n / 1024 + 2 ^ (m - 10) < rows.length := by omega
      have g : (List.zipWith (comb q) (rows.take (2 ^ (m - 10))) (rows.drop (2 ^ (m - 10)))).getD (n / 1024) 0 = comb q (rows.getD (n / 1024) 0) (rows.getD (n / 1024 + 2 ^ (m - 10)) 0) := by
        rw [List.getD_eq_getElem?_getD, List.getD_eq_getElem?_getD, List.getD_eq_getElem?_getD, List.getElem?_zipWith, List.getElem?_take, if_pos hq, List.getElem?_drop, Nat.add_comm (2 ^ (m - 10)), List.getElem?_eq_getElem l1, List.getElem?_eq_getElem l2]; rfl
      rw [g, comb_bit]
    rw [e1]
    have p2 : 2 ^ (m + 1) = 2 ^ m * 2 := Nat.pow_succ 2 m
    exact not_step h hn (L.bit n (by omega)) (L.bit (n + 2 ^ m) (by omega))
theorem Lev.one {f : Formula} {m x row : Nat} {q : Bool} (L : Lev f (m + 1) [row]) (h : f.order[m]? = some (x, q)) (hm : m < 10) :
    Lev f m [comb q (row &&& (2 ^ 2 ^ m - 1)) (row >>> 2 ^ m)] := by
  have le : ∀ k, k ≤ 10 → 2 ^ k ≤ 1024 := fun k hk => p10 hk
  have mn : ∀ k, k ≤ 10 → min (2 ^ k) 1024 = 2 ^ k := fun k hk => Nat.min_eq_left (le k hk)
  have p2 : 2 ^ (m + 1) = 2 ^ m * 2 := Nat.pow_succ 2 m
  have l1 := le (m + 1) (by omega)
  have hr : row < 2 ^ 2 ^ (m + 1) := by
    have := L.lt row (by simp)
    rwa [mn (m + 1) (by omega)] at this
  refine ⟨?_, ?_, fun n hn => ?_⟩
  · rw [show m - 10 = 0 by omega]; rfl
  · intro r hr'
    simp at hr'
    subst hr'
    rw [mn m (by omega)]
    refine comb_lt (Nat.mod_lt _ (Nat.two_pow_pos _)) ?_
    refine lt_of_bits fun i hi => ?_
    rw [Nat.testBit_shiftRight]
    exact Nat.testBit_lt_two_pow (Nat.lt_of_lt_of_le hr (Nat.pow_le_pow_right (by decide) (by omega)))
  · have z : ∀ k r, k < 1024 → bitAt [r] k = r.testBit k := fun k r hk => by
      unfold bitAt
      rw [Nat.div_eq_of_lt hk, Nat.mod_eq_of_lt hk]; rfl
    rw [z n _ (by omega), comb_bit]
    have a := L.bit n (by omega)
    have b := L.bit (n + 2 ^ m) (by omega)
    rw [z n _ (by omega)] at a
    rw [z (n + 2 ^ m) _ (by omega)] at b
    refine not_step h hn ?_ ?_
    · rw [← a, Nat.testBit_and, Nat.testBit_two_pow_sub_one]; simp [hn]
    · rw [← b, Nat.testBit_shiftRight, Nat.add_comm]
theorem Lev.cnt {f : Formula} {m : Nat} {rows : List Nat} (L : Lev f m rows) : (rows.map fun r => Sm.cnt 1024 r.testBit).sum = Sm.cnt (2 ^ m) fun n => !f.true_ (vals m n) := by
  rw [rows_cnt, L.len]
  rw [← cnt_congr L.bit]
  by_cases hm : 10 ≤ m
  · rw [pow_split hm, Nat.mul_comm]
  · have hm' : m < 10 := by omega
    have le : 2 ^ m ≤ 1024 := p10 (by omega)
    rw [show m - 10 = 0 by omega, Nat.pow_zero, Nat.mul_one]
    have e : 1024 = 2 ^ m + (1024 - 2 ^ m) := by omega
    rw [e, cnt_add, cnt_none (n := 1024 - 2 ^ m), Nat.add_zero]
    intro i hi
    have hk : 2 ^ m + i < 1024 := by omega
    have l1 := L.len
    rw [show m - 10 = 0 by omega, Nat.pow_zero] at l1
    match rows, l1 with
    | [row], _ =>
      unfold bitAt
      rw [Nat.div_eq_of_lt hk, Nat.mod_eq_of_lt hk]
      show row.testBit _ = false
      have := L.lt row (by simp)
      rw [Nat.min_eq_left le] at this
      exact Nat.testBit_lt_two_pow (Nat.lt_of_lt_of_le this (Nat.pow_le_pow_right (by decide) (by omega)))
theorem Lev.at {f : Formula} {rows : List Nat} {v : Values} (L : Lev f v.length rows) : bitAt rows (placeB v) = !f.true_ v := by
  rw [L.bit _ (placeB_lt v), vals_place]
theorem Lev.row {f : Formula} {m : Nat} {rows : List Nat} {n : Nat} (L : Lev f m rows) (h : n < 2 ^ m) : n / 1024 < rows.length := by
  rw [L.len]
  by_cases hm : 10 ≤ m
  · have := pow_split hm; omega
  · have le : 2 ^ m ≤ 1024 := p10 (by omega)
    have := Nat.two_pow_pos (m - 10)
    rw [Nat.div_eq_of_lt (by omega)]; exact this
def holdV (c : Clause) (x : Nat) : Option Bool := (c.find? fun l => l.1 == x).map (·.2)
theorem holdV_mem {c : Clause} {x : Nat} {b : Bool} (h : holdV c x = some b) : (x, b) ∈ c := by
  unfold holdV at h
  cases e : c.find? fun l => l.1 == x with
  | none => rw [e] at h; cases h
  | some l =>
    rw [e] at h
    have h1 := List.find?_some e
    have h2 := List.mem_of_find?_eq_some e
    obtain ⟨y, b'⟩ := l
    simp at h h1
    subst h; subst h1
    exact h2
theorem holdV_of {c : Clause} {x : Nat} {b : Bool} (nd : (c.map (·.1)).Nodup) (h : (x, b) ∈ c) : holdV c x = some b := by
  induction c with
  | nil => cases h
  | cons l r ih =>
    rw [List.map_cons, List.nodup_cons] at nd
    unfold holdV
    rw [List.find?_cons]
    rcases List.mem_cons.mp h with rfl | h
    · simp
    · have : (l.1 == x) = false := by
        rw [beq_eq_false_iff_ne]
        rintro rfl
        exact nd.1 (List.mem_map.mpr ⟨(l.1, b), h, rfl⟩)
      rw [this]
      exact ih nd.2 h
abbrev hsOf (c : Clause) (xs : List Nat) : List (Option Bool) := xs.map (holdV c)
abbrev varsOf (f : Formula) : List Nat := f.order.map (·.1)
theorem place_at {f : Formula} {x i : Nat} (nd : (varsOf f).Nodup) (h : (varsOf f)[i]? = some x) : f.place x = i := by
  unfold Formula.place
  have : ∀ (l : List (Nat × Bool)) (i : Nat), (l.map (·.1)).Nodup → (l.map (·.1))[i]? = some x → l.findIdx (fun y => y.1 == x) = i := by
    intro l
    induction l with
    | nil => intro i _ h; simp at h
    | cons y r ih =>
      intro i nd h
      rw [List.map_cons, List.nodup_cons] at nd
      rw [List.findIdx_cons]
      cases i with
      | zero => simp at h; subst h; simp
      | succ i =>
        have h' : (r.map (·.1))[i]? = some x := by simpa using h
        have : (y.1 == x) = false := by
          rw [beq_eq_false_iff_ne]
          rintro rfl
          exact nd.1 (List.mem_of_getElem? h')
        rw [this, ih i nd.2 h']; rfl
  exact this _ _ nd h
structure FW (f : Formula) : Prop where
  nd : (varsOf f).Nodup
  rg : ∀ x ∈ varsOf f, 1 ≤ x ∧ x ≤ f.size
  sz : 1 ≤ f.size ∧ f.size ≤ 20
  all : ∀ x, 1 ≤ x → x ≤ f.size → x ∈ varsOf f
  cl : ∀ c ∈ f.clauses, (c.map (·.1)).Nodup ∧ ∀ l ∈ c, l.1 ∈ varsOf f
  few : f.clauses.length ≤ 1024
theorem clause_fails {f : Formula} (W : FW f) {c : Clause} (hc : c ∈ f.clauses) (n : Nat) : (c.any (f.lit (vals f.size n))) = !fails 0 (hsOf c (varsOf f)) n := by
  obtain ⟨cn, cv⟩ := W.cl c hc
  have key : fails 0 (hsOf c (varsOf f)) n = true ↔ ¬ (c.any (f.lit (vals f.size n)) = true) := by
    rw [fails_all, List.any_eq_true]
    constructor
    · rintro h ⟨⟨x, b⟩, hl, e⟩
      obtain ⟨i, hi⟩ := List.getElem?_of_mem (cv _ hl)
      have hp := place_at W.nd hi
      have hlt : i < f.size := by
        have := (List.getElem?_eq_some_iff.mp hi).1
        simpa [Formula.size] using this
      have := h i b (by rw [List.getElem?_map, hi]; exact congrArg some (holdV_of cn hl))
      rw [Nat.zero_add] at this
      unfold Formula.lit at e
      rw [hp, vals_getD hlt] at e
      exact this (by simpa using e)
    · intro h i b e
      rw [List.getElem?_map] at e
      cases q : (varsOf f)[i]? with
      | none => rw [q] at e; cases e
      | some x =>
        rw [q] at e
        have hb : holdV c x = some b := Option.some.inj e
        intro z
        refine h ⟨(x, b), holdV_mem hb, ?_⟩
        have hlt : i < f.size := by
          have := (List.getElem?_eq_some_iff.mp q).1
          simpa [Formula.size] using this
        unfold Formula.lit
        rw [place_at W.nd q, vals_getD hlt]
        rw [Nat.zero_add] at z
        simpa using z
  cases h : fails 0 (hsOf c (varsOf f)) n with
  | true => have := key.mp h; simpa using this
  | false =>
    rw [h] at key
    by_cases q : c.any (f.lit (vals f.size n)) = true
    · simpa using q
    · exact absurd (key.mpr q) (by simp)
structure RowsOf (cs : List Clause) (early late : List Nat) (rows : List Nat) : Prop where
  len : rows.length = 2 ^ late.length
  bit : ∀ q, q < 2 ^ late.length → ∀ p, (rows.getD q 0).testBit p = cs.any fun c => fails 0 (hsOf c late) q && (decide (p < 2 ^ early.length) && fails 0 (hsOf c early) p)
theorem RowsOf.lev {f : Formula} (W : FW f) {rows : List Nat} (R : RowsOf f.clauses ((varsOf f).take 10) ((varsOf f).drop 10) rows) : Lev f f.size rows := by
  have hV : (varsOf f).length = f.size := by simp [Formula.size]
  have hE : ((varsOf f).take 10).length = min 10 f.size := by rw [List.length_take, hV]
  have hL : ((varsOf f).drop 10).length = f.size - 10 := by rw [List.length_drop, hV]
  have hp : 2 ^ min 10 f.size = min (2 ^ f.size) 1024 := by
    by_cases c : f.size ≤ 10
    · rw [Nat.min_eq_right c, Nat.min_eq_left (p10 c)]
    · have : 2 ^ 10 ≤ 2 ^ f.size := Nat.pow_le_pow_right (by decide) (by omega)
      rw [Nat.min_eq_left (by omega), Nat.min_eq_right (by omega)]
  have rb := R.bit
  rw [hE, hL, hp] at rb
  have rl := R.len
  rw [hL] at rl
  refine ⟨rl, fun r hr => ?_, fun n hn => ?_⟩
  · obtain ⟨i, hi, e⟩ := List.getElem_of_mem hr
    refine lt_of_bits fun j hj => ?_
    have := rb i (by rw [← rl]; exact hi) j
    rw [List.getD_eq_getElem?_getD, List.getElem?_eq_getElem hi, Option.getD_some, e] at this
    rw [this]
    have nj : ¬ j < min (2 ^ f.size) 1024 := by omega
    simp only [nj, decide_false, Bool.false_and, Bool.and_false]
    simp
  · have hq : n / 1024 < 2 ^ (f.size - 10) := by
      by_cases c : 10 ≤ f.size
      · have := pow_split c; omega
      · have le : 2 ^ f.size ≤ 1024 := p10 (by omega)
        have := Nat.two_pow_pos (f.size - 10)
        rw [Nat.div_eq_of_lt (by omega)]; exact this
    have lt : n % 1024 < min (2 ^ f.size) 1024 := by
      have := Nat.mod_lt n (show 0 < 1024 by decide)
      have := Nat.mod_le n 1024
      omega
    unfold bitAt
    rw [rb _ hq]
    have tr : f.true_ (vals f.size n) = f.holds (vals f.size n) := by
      unfold Formula.true_
      rw [vals_length, List.drop_of_length_le (show f.order.length ≤ f.size from Nat.le_refl _), trueFrom]
    rw [tr]
    unfold Formula.holds
    rw [List.not_all_eq_any_not]
    have : ∀ c ∈ f.clauses, (fails 0 (hsOf c ((varsOf f).drop 10)) (n / 1024) && (decide (n % 1024 < min (2 ^ f.size) 1024) && fails 0 (hsOf c ((varsOf f).take 10)) (n % 1024))) = !(c.any (f.lit (vals f.size n))) := by
      intro c hc
      rw [clause_fails W hc, Bool.not_not]
      have e1 : hsOf c (varsOf f) = hsOf c ((varsOf f).take 10) ++ hsOf c ((varsOf f).drop 10) := by
        rw [hsOf, hsOf, hsOf, ← List.map_append, List.take_append_drop]
      rw [e1, fails_append, Nat.zero_add, List.length_map, hE]
      simp only [lt, decide_true, Bool.true_and]
      rw [Bool.and_comm]
      congr 1
      · refine fails_congr 0 _ _ _ fun i _ hi => ?_
        rw [List.length_map, hE] at hi
        rw [show (1024 : Nat) = 2 ^ 10 from rfl, Nat.testBit_mod_two_pow]
        have : i < 10 := by omega
        simp [this]
      · by_cases c10 : 10 ≤ f.size
        · rw [Nat.min_eq_left c10]
          have := fails_shift 0 10 (hsOf c ((varsOf f).drop 10)) n
          rw [Nat.zero_add] at this
          rw [this]
        · have : (varsOf f).drop 10 = [] := List.drop_of_length_le (by rw [hV]; omega)
          rw [this]; rfl
    clear rb rl
    have cong : ∀ (l : List Clause) (g h : Clause → Bool), (∀ c ∈ l, g c = h c) → l.any g = l.any h := by
      intro l g h e
      induction l with
      | nil => rfl
      | cons a r ih => rw [List.any_cons, List.any_cons, e a (by simp), ih fun c hc => e c (by simp [hc])]
    exact cong _ _ _ this
end Sm
namespace Sm
def enc (B : Nat) : List Nat → Nat
  | [] => 0
  | d :: r => d + B * enc B r
def evens : List Nat → List Nat
  | [] => []
  | [d] => [d]
  | d :: _ :: r => d :: evens r
def pairs : List Nat → List Nat
  | [] => []
  | [d] => [d]
  | a :: b :: r => (a + b) :: pairs r
def maskOf (w : Nat) : Nat → Nat
  | 0 => 0
  | k + 1 => (2 ^ w - 1) + 2 ^ (2 * w) * maskOf w k
theorem and_blocks {a m r M k : Nat} (ha : a < 2 ^ k) (hm : m < 2 ^ k) : (a + 2 ^ k * r) &&& (m + 2 ^ k * M) = (a &&& m) + 2 ^ k * (r &&& M) := by
  apply Nat.eq_of_testBit_eq
  intro i
  have am : a &&& m < 2 ^ k := Nat.and_lt_two_pow _ hm
  rw [Nat.testBit_and, Nat.add_comm a, Nat.add_comm m, Nat.add_comm (a &&& m), Nat.testBit_two_pow_mul_add _ ha, Nat.testBit_two_pow_mul_add _ hm, Nat.testBit_two_pow_mul_add _ am, Nat.testBit_and, Nat.testBit_and]
  split <;> rfl
theorem pow2w (w : Nat) : 2 ^ (2 * w) = 2 ^ w * 2 ^ w := by rw [Nat.two_mul, Nat.pow_add]
theorem enc_evens (w : Nat) : ∀ (k : Nat) (ds : List Nat), ds.length ≤ 2 * k → (∀ d ∈ ds, d < 2 ^ w) → enc (2 ^ w) ds &&& maskOf w k = enc (2 ^ (2 * w)) (evens ds)
  | 0, [], _, _ => by simp [enc, evens, maskOf]
  | 0, _ :: _, h, _ => by simp at h
  | k + 1, [], _, _ => by simp [enc, evens]
  | k + 1, [d], _, hd => by
    have h1 := hd d (by simp)
    have hw := Nat.two_pow_pos w
    have ee : enc (2 ^ w) [d] = d + 2 ^ (2 * w) * 0 := by simp [enc]
    have le : 2 ^ w ≤ 2 ^ (2 * w) := Nat.pow_le_pow_right (by decide) (by omega)
    rw [ee, maskOf, and_blocks (by omega) (by omega), Nat.zero_and, Nat.and_two_pow_sub_one_eq_mod, Nat.mod_eq_of_lt h1]
    simp [evens, enc]
  | k + 1, d :: e :: r, hl, hd => by
    have h1 := hd d (by simp)
    have h2 := hd e (by simp)
    have ih := enc_evens w k r (by simp at hl; omega) fun x hx => hd x (by simp [hx])
    have hw := Nat.two_pow_pos w
    have le : 2 ^ w ≤ 2 ^ (2 * w) := Nat.pow_le_pow_right (by decide) (by omega)
    have ee : enc (2 ^ w) (d :: e :: r) = (d + 2 ^ w * e) + 2 ^ (2 * w) * enc (2 ^ w) r := by
      rw [enc, enc, pow2w, Nat.mul_add, Nat.mul_assoc, Nat.add_assoc]
    have lt : d + 2 ^ w * e < 2 ^ (2 * w) := by
      rw [pow2w]
      have : 2 ^ w * (e + 1) ≤ 2 ^ w * 2 ^ w := Nat.mul_le_mul_left _ h2
      rw [Nat.mul_add, Nat.mul_one] at this
      omega
    rw [ee, maskOf, and_blocks lt (by omega), ih, Nat.and_two_pow_sub_one_eq_mod, Nat.add_mul_mod_self_left, Nat.mod_eq_of_lt h1]
    rfl
theorem enc_shift {w d : Nat} {r : List Nat} (h : d < 2 ^ w) : enc (2 ^ w) (d :: r) >>> w = enc (2 ^ w) r := by
  rw [Nat.shiftRight_eq_div_pow, enc, Nat.add_mul_div_left _ _ (Nat.two_pow_pos w), Nat.div_eq_of_lt h, Nat.zero_add]
theorem enc_pairs (B : Nat) : ∀ ds : List Nat, enc B (evens ds) + enc B (evens ds.tail) = enc B (pairs ds)
  | [] => rfl
  | [d] => by simp [evens, enc, pairs]
  | [d, e] => by simp [evens, enc, pairs]
  | d :: e :: x :: r => by
    have ih := enc_pairs B (x :: r)
    have h1 : evens (d :: e :: x :: r) = d :: evens (x :: r) := rfl
    have h2 : evens (d :: e :: x :: r).tail = e :: evens r := rfl
    have h3 : pairs (d :: e :: x :: r) = (d + e) :: pairs (x :: r) := rfl
    have h4 : (x :: r).tail = r := rfl
    rw [h4] at ih
    rw [h1, h2, h3, enc, enc, enc, ← ih, Nat.mul_add]
    omega
theorem pairs_sum : ∀ ds : List Nat, (pairs ds).sum = ds.sum
  | [] => rfl
  | [d] => rfl
  | a :: b :: r => by simp [pairs, pairs_sum r]; omega
theorem pairs_len : ∀ (k : Nat) (ds : List Nat), ds.length = 2 * k → (pairs ds).length = k
  | 0, [], _ => rfl
  | 0, _ :: _, h => by simp at h
  | k + 1, [], h => by simp at h
  | k + 1, [d], h => by simp at h; omega
  | k + 1, a :: b :: r, h => by simp [pairs, pairs_len k r (by simp at h; omega)]
theorem pairs_le {w : Nat} : ∀ ds : List Nat, (∀ d ∈ ds, d ≤ w) → ∀ d ∈ pairs ds, d ≤ 2 * w
  | [], _, d, h => by cases h
  | [x], h, d, hd => by simp [pairs] at hd; subst hd; have := h d (by simp); omega
  | a :: b :: r, h, d, hd => by
    rcases List.mem_cons.mp hd with rfl | hd
    · have h1 := h a (by simp); have h2 := h b (by simp); omega
    · exact pairs_le r (fun x hx => h x (by simp [hx])) d hd
def popStep (row w mask : Nat) : Nat := (row &&& mask) + ((row >>> w) &&& mask)
theorem pop_step {w k : Nat} {ds : List Nat} (hl : ds.length = 2 * k) (hd : ∀ d ∈ ds, d ≤ w) : popStep (enc (2 ^ w) ds) w (maskOf w k) = enc (2 ^ (2 * w)) (pairs ds) := by
  have lt : ∀ d ∈ ds, d < 2 ^ w := fun d h => Nat.lt_of_le_of_lt (hd d h) Nat.lt_two_pow_self
  unfold popStep
  rw [enc_evens w k ds (by omega) lt]
  cases ds with
  | nil => simp [enc, evens, pairs]
  | cons d r =>
    rw [enc_shift (lt d (by simp)), enc_evens w k r (by simp at hl; omega) fun x hx => lt x (by simp [hx])]
    exact enc_pairs _ (d :: r)
def Fld (n w k row : Nat) : Prop := ∃ ds : List Nat, row = enc (2 ^ w) ds ∧ ds.length = 2 * k ∧ (∀ d ∈ ds, d ≤ w) ∧ ds.sum = n
theorem Fld.step {n w k row : Nat} (h : Fld n w (2 * k) row) : Fld n (2 * w) k (popStep row w (maskOf w (2 * k))) := by
  obtain ⟨ds, rfl, hl, hd, hs⟩ := h
  exact ⟨pairs ds, pop_step hl hd, pairs_len _ ds hl, pairs_le ds hd, by rw [pairs_sum, hs]⟩
theorem Fld.last {n w row : Nat} (h : Fld n w 1 row) : popStep row w (maskOf w 1) = n := by
  obtain ⟨ds, rfl, hl, hd, hs⟩ := h
  rw [pop_step hl hd]
  match ds, hl with
  | [a, b], _ =>
    simp [pairs, enc]
    simpa using hs
theorem enc_bits : ∀ (m x : Nat), x < 2 ^ m → enc 2 ((List.range m).map fun i => (x.testBit i).toNat) = x
  | 0, x, h => by simp at h; subst h; rfl
  | m + 1, x, h => by
    rw [List.range_succ_eq_map, List.map_cons, List.map_map, enc]
    have : ((fun i => (x.testBit i).toNat) ∘ Nat.succ) = fun i => ((x / 2).testBit i).toNat := by
      funext i
      simp [Nat.testBit_succ]
    rw [this, enc_bits m (x / 2) (by rw [Nat.pow_succ] at h; omega)]
    have : (x.testBit 0).toNat = x % 2 := by
      rw [Nat.testBit_zero]
      rcases Nat.mod_two_eq_zero_or_one x with e | e <;> simp [e]
    rw [this]; omega
theorem bits_sum (P : Nat → Bool) : ∀ l : List Nat, (l.map fun i => (P i).toNat).sum = l.countP P
  | [] => rfl
  | x :: r => by
    rw [List.map_cons, List.sum_cons, bits_sum P r, List.countP_cons]
    cases P x <;> simp <;> omega
theorem Fld.start {k row : Nat} (h : row < 2 ^ (2 * k)) : Fld (cnt (2 * k) row.testBit) 1 k row := by
  refine ⟨(List.range (2 * k)).map fun i => (row.testBit i).toNat, (enc_bits _ _ h).symm, by simp, ?_, bits_sum _ _⟩
  intro d hd
  obtain ⟨i, _, rfl⟩ := List.mem_map.mp hd
  cases row.testBit i <;> simp
def masksOf : List (Nat × Nat) := (List.range 10).map fun j => (2 ^ j, (2 ^ 1024 - 1) / (2 ^ 2 ^ j + 1))
def popOf (row : Nat) : Nat := masksOf.foldl (fun r m => popStep r m.1 m.2) row
theorem masks_eq : masksOf = (List.range 10).map fun j => (2 ^ j, maskOf (2 ^ j) (2 ^ (9 - j))) := by decide +kernel
theorem pop_eq {row : Nat} (h : row < 2 ^ 1024) : popOf row = cnt 1024 row.testBit := by
  have h0 : Fld (cnt 1024 row.testBit) 1 512 row := Fld.start (k := 512) h
  have h1 : Fld (cnt 1024 row.testBit) 2 256 _ := Fld.step (k := 256) h0
  have h2 : Fld (cnt 1024 row.testBit) 4 128 _ := Fld.step (k := 128) h1
  have h3 : Fld (cnt 1024 row.testBit) 8 64 _ := Fld.step (k := 64) h2
  have h4 : Fld (cnt 1024 row.testBit) 16 32 _ := Fld.step (k := 32) h3
  have h5 : Fld (cnt 1024 row.testBit) 32 16 _ := Fld.step (k := 16) h4
  have h6 : Fld (cnt 1024 row.testBit) 64 8 _ := Fld.step (k := 8) h5
  have h7 : Fld (cnt 1024 row.testBit) 128 4 _ := Fld.step (k := 4) h6
  have h8 : Fld (cnt 1024 row.testBit) 256 2 _ := Fld.step (k := 2) h7
  have h9 : Fld (cnt 1024 row.testBit) 512 1 _ := Fld.step (k := 1) h8
  have h10 := h9.last
  unfold popOf
  rw [masks_eq]
  exact h10
theorem cnt_le (n : Nat) (P : Nat → Bool) : cnt n P ≤ n := by
  unfold cnt
  exact Nat.le_trans List.countP_le_length (by simp)
end Sm
namespace Sm
open Ql66
structure GoodC (vars : Nat) (c : Clause) : Prop where
  nd : (c.map (·.1)).Nodup
  rg : ∀ y ∈ c, 1 ≤ y.1 ∧ y.1 ≤ vars
theorem numberIn_ok {lo hi n : Nat} {x : Tok} (h : numberIn lo hi x = .ok n) : lo ≤ n ∧ n ≤ hi := by
  unfold numberIn at h
  split at h
  · split at h
    · cases h; assumption
    · cases h
  · cases h
theorem literal_ok {vars : Nat} {x : Tok} {l : Lit} (h : literal vars x = .ok l) : 1 ≤ l.1 ∧ l.1 ≤ vars := by
  unfold literal at h
  split at h
  all_goals
    rename_i r
    first
    | (cases e : numberIn 1 vars _ with
        | error k => rw [e] at h; cases h
        | ok n => rw [e] at h; cases h; exact numberIn_ok e)
theorem clause_good {vars : Nat} : ∀ (ts : List Tok) (l c : Clause) (r : List Tok), GoodC vars l → clause vars l ts = .ok (c, r) → GoodC vars c
  | [], l, c, r, _, h => by unfold clause at h; cases h
  | x :: ts, l, c, r, g, h => by
    unfold clause at h
    split at h
    · cases h; exact g
    · cases e : literal vars x with
      | error k => rw [e] at h; cases h
      | ok y =>
        rw [e] at h
        simp only [Except.bind] at h
        split at h
        · cases h
        · rename_i hn
          refine clause_good ts _ c r ?_ h
          have hy := literal_ok e
          refine ⟨?_, fun z hz => ?_⟩
          · rw [List.map_append]
            refine nodup_snoc g.nd fun m => hn (any_fst.mpr m)
          · rcases List.mem_append.mp hz with q | q
            · exact g.rg z q
            · simp at q; subst q; exact hy
theorem GoodC.nil (vars : Nat) : GoodC vars [] := ⟨by simp, fun y h => by cases h⟩
theorem block_first {vars : Nat} {q : Bool} : ∀ (ws : List (List Int)) (k : Nat) (l : List (Nat × Bool)) (any : Bool) (l' : List (Nat × Bool)) (r : List Tok), (∀ w ∈ ws, Byts w) → block vars q l any (toksAt k ws) = .ok (l', r) →
    ((toksAt k ws).takeWhile fun x => x.1 != txt "0").length + l.length = l'.length
  | [], k, l, any, l', r, _, h => by rw [block_nil] at h; cases h
  | w :: ws, k, l, any, l', r, hb, h => by
    have hw := hb w (by simp)
    rw [block_cons] at h
    rw [toksAt_cons, List.takeWhile_cons]
    cases e : upTo w vars with
    | none => rw [e] at h; cases h
    | some n =>
      rw [e] at h
      have h' : blockAt vars q l any n (k + 1) ws = .ok (l', r) := h
      unfold blockAt at h'
      by_cases n0 : n = 0
      · subst n0
        rw [if_pos rfl] at h'
        have hw0 := upTo_zero hw e
        have : (oct w != txt "0") = false := by
          rw [(oct_zero hw).mpr hw0]; simp
        rw [this]
        split at h'
        · cases h'; simp
        · cases h'
      · rw [if_neg n0] at h'
        have : (oct w != txt "0") = true := by
          rw [bne_iff_ne]
          intro z
          have := (oct_zero hw).mp z
          subst this
          rw [upTo_48] at e
          cases e; exact n0 rfl
        rw [this]
        split at h'
        · cases h'
        · have ih := block_first ws (k + 1) _ true l' r (fun w hw => hb w (by simp [hw])) h'
          simp only [if_true, List.length_cons, List.length_append, List.length_nil] at ih ⊢
          omega
theorem first_block {ws : List (List Int)} {vars : Nat} {q : Bool} {l' : List (Nat × Bool)} {r : List Tok} (hb : ∀ w ∈ ws, Byts w) (h5 : 5 ≤ ws.length) (h : block vars q [] false (toksAt 5 (ws.drop 5)) = .ok (l', r)) : firstBlock (toksAt 0 ws) = l'.length := by
  match ws, h5 with
  | a :: b :: c :: d :: e :: t, _ =>
    have := block_first t 5 [] false l' r (fun w hw => hb w (by simp [hw])) h
    rw [toksAt_cons, toksAt_cons, toksAt_cons, toksAt_cons, toksAt_cons]
    simpa [firstBlock] using this
theorem ord_all {vars : Nat} {o : List (Nat × Bool)} (h : Ord vars o) (hl : o.length = vars) : ∀ x, 1 ≤ x → x ≤ vars → x ∈ o.map (·.1) := by
  intro x h1 h2
  refine Classical.byContradiction fun hn => ?_
  have : Ord vars (o ++ [(x, true)]) := h.snoc h1 h2 fun z => hn (any_fst.mp z)
  have := this.len
  simp at this
  omega
theorem fw_of {vars : Nat} {o : List (Nat × Bool)} {cs : List Clause} (h : Ord vars o) (hl : o.length = vars) (h1 : 1 ≤ vars) (h2 : vars ≤ 20) (hc : ∀ c ∈ cs, GoodC vars c) (hf : cs.length ≤ 1024) : FW ⟨o, cs⟩ where
  nd := h.nd
  rg := fun x hx => by
    obtain ⟨y, hy, rfl⟩ := List.mem_map.mp hx
    have := h.rg y hy
    exact ⟨this.1, by show y.1 ≤ o.length; omega⟩
  sz := ⟨by show 1 ≤ o.length; omega, by show o.length ≤ 20; omega⟩
  all := fun x a b => ord_all h hl x a (by have : x ≤ o.length := b; omega)
  cl := fun c hc' => ⟨(hc c hc').nd, fun l hl' => by
    have := (hc c hc').rg l hl'
    exact ord_all h hl _ this.1 this.2⟩
  few := hf
theorem blocks_fuel {ws : List (List Int)} {vars f k : Nat} {l : List (Nat × Bool)} (hl : l.length < vars) (hk : k ≤ ws.length) (hf : ws.length - k + 1 ≤ f) : blocks vars f l (toksAt k (ws.drop k)) =
    if oct (wordAt ws k) = txt "e" ∨ oct (wordAt ws k) = txt "a" then (block vars (oct (wordAt ws k) == txt "e") l false (toksAt (k + 1) (ws.drop (k + 1)))).bind fun y => blocks vars (f - 1) y.1 y.2 else .error (errAt ws k) := by
  obtain ⟨g, rfl⟩ : ∃ g, f = g + 1 := ⟨f - 1, by omega⟩
  exact blocks_step hl hk
end Sm
namespace Sm
open Ql66
abbrev Ent := List (Option Bool) × Nat
def entBit (es : List Ent) (q p : Nat) : Bool := es.any fun e => fails 0 e.1 q && e.2.testBit p
theorem any_congr {α : Type} : ∀ {l : List α} {g h : α → Bool}, (∀ c ∈ l, g c = h c) → l.any g = l.any h
  | [], _, _, _ => rfl
  | a :: r, g, h, e => by rw [List.any_cons, List.any_cons, e a (by simp), any_congr fun c hc => e c (by simp [hc])]
theorem ent_replace {es : List Ent} {hs : List (Option Bool)} {old row : Nat} (nd : (es.map (·.1)).Nodup) (h : (hs, old) ∈ es) (q p : Nat) :
    entBit (es.map fun e => if e.1 = hs then (e.1, old ||| row) else e) q p = (entBit es q p || (fails 0 hs q && row.testBit p)) := by
  unfold entBit
  induction es with
  | nil => cases h
  | cons e r ih =>
    rw [List.map_cons, List.nodup_cons] at nd
    rw [List.map_cons, List.any_cons, List.any_cons]
    rcases List.mem_cons.mp h with z | z
    · subst z
      have key : (r.map fun e => if e.1 = hs then (e.1, old ||| row) else e) = r := by
        have : ∀ e ∈ r, (if e.1 = hs then (e.1, old ||| row) else e) = e := fun e he => by
          rw [if_neg]
          rintro rfl
          exact nd.1 (List.mem_map.mpr ⟨e, he, rfl⟩)
        rw [List.map_congr_left this, List.map_id'']
        intro x; rfl
      rw [key, if_pos rfl]
      simp only [Nat.testBit_or]
      cases fails 0 hs q <;> cases old.testBit p <;> cases row.testBit p <;> simp
    · have ne : e.1 ≠ hs := by
        rintro rfl
        exact nd.1 (List.mem_map.mpr ⟨_, z, rfl⟩)
      rw [if_neg ne, ih nd.2 z, Bool.or_assoc]
theorem ent_new (es : List Ent) (hs : List (Option Bool)) (row q p : Nat) : entBit (es ++ [(hs, 0 ||| row)]) q p = (entBit es q p || (fails 0 hs q && row.testBit p)) := by
  unfold entBit
  rw [List.any_append]
  simp
structure EntsOf (cs : List Clause) (early late : List Nat) (es : List Ent) : Prop where
  nd : (es.map (·.1)).Nodup
  len : ∀ e ∈ es, e.1.length = late.length
  few : es.length ≤ cs.length
  bit : ∀ q p, entBit es q p = cs.any fun c => fails 0 (hsOf c late) q && (decide (p < 2 ^ early.length) && fails 0 (hsOf c early) p)
theorem EntsOf.nil (early late : List Nat) : EntsOf [] early late [] := ⟨by simp, (fun e h => by cases h), by simp, fun _ _ => rfl⟩
theorem EntsOf.rep {cs : List Clause} {early late : List Nat} {es : List Ent} {c : Clause} {old row : Nat} (E : EntsOf cs early late es) (h : (hsOf c late, old) ∈ es) (R : RowOf (hsOf c early) row) :
    EntsOf (cs ++ [c]) early late (es.map fun e => if e.1 = hsOf c late then (e.1, old ||| row) else e) where
  nd := by
    have : (es.map fun e => if e.1 = hsOf c late then (e.1, old ||| row) else e).map (·.1) = es.map (·.1) := by
      rw [List.map_map]
      refine List.map_congr_left fun e _ => ?_
      simp only [Function.comp]
      split <;> rfl
    rw [this]; exact E.nd
  len := fun e he => by
    obtain ⟨x, hx, rfl⟩ := List.mem_map.mp he
    split
    · exact E.len x hx
    · exact E.len x hx
  few := by simp; have := E.few; omega
  bit := fun q p => by
    have hl : (hsOf c early).length = early.length := by simp
    rw [ent_replace E.nd h, E.bit, List.any_append, List.any_cons, List.any_nil, Bool.or_false, R.bit, hl]
theorem EntsOf.add {cs : List Clause} {early late : List Nat} {es : List Ent} {c : Clause} {row : Nat} (E : EntsOf cs early late es) (h : hsOf c late ∉ es.map (·.1)) (R : RowOf (hsOf c early) row) :
    EntsOf (cs ++ [c]) early late (es ++ [(hsOf c late, 0 ||| row)]) where
  nd := by
    rw [List.map_append, List.nodup_append]
    exact ⟨E.nd, by simp, fun a ha b hb => by simp at hb; subst hb; exact fun e => h (e ▸ ha)⟩
  len := fun e he => by
    rcases List.mem_append.mp he with z | z
    · exact E.len e z
    · simp at z; subst z; simp
  few := by simp; have := E.few; omega
  bit := fun q p => by
    have hl : (hsOf c early).length = early.length := by simp
    rw [ent_new, E.bit, List.any_append, List.any_cons, List.any_nil, Bool.or_false, R.bit, hl]
structure FillOf (n : Nat) (es : List Ent) (ps : List Nat) (row : Nat) (rows : List Nat) : Prop where
  len : rows.length = n
  bit : ∀ q, q < n → ∀ p, (rows.getD q 0).testBit p = (entBit es q p || (decide (q ∈ ps) && row.testBit p))
theorem FillOf.start (n row : Nat) : FillOf n [] [] row (List.replicate n 0) := ⟨by simp, fun q hq p => by
  rw [List.getD_eq_getElem?_getD, List.getElem?_replicate, if_pos hq]
  simp [entBit]⟩
theorem FillOf.next {n : Nat} {es : List Ent} {row row' : Nat} {rows : List Nat} (F : FillOf n es [] row rows) : FillOf n es [] row' rows := ⟨F.len, fun q hq p => by
  rw [F.bit q hq p]; simp⟩
theorem FillOf.put {n : Nat} {es : List Ent} {ps : List Nat} {row j : Nat} {rows : List Nat} (F : FillOf n es ps row rows) (hj : j < n) : FillOf n es (ps ++ [j]) row (rows.set j ((rows.getD j 0) ||| row)) := by
  refine ⟨by rw [List.length_set]; exact F.len, fun q hq p => ?_⟩
  rw [List.getD_eq_getElem?_getD, List.getElem?_set]
  have hl := F.len
  by_cases e : j = q
  · subst e
    rw [if_pos rfl, if_pos (by omega), Option.getD_some, Nat.testBit_or, F.bit j hq p]
    simp
    cases entBit es j p <;> cases row.testBit p <;> simp
  · rw [if_neg e, ← List.getD_eq_getElem?_getD, F.bit q hq p]
    have : (q ∈ ps ++ [j]) ↔ q ∈ ps := by simp [Ne.symm e]
    simp only [this]
theorem FillOf.done {n : Nat} {es : List Ent} {ps : List Nat} {e : Ent} {rows : List Nat} (F : FillOf n es ps e.2 rows) (hn : n = 2 ^ e.1.length) (hp : PlacesOf e.1 ps) : FillOf n (es ++ [e]) [] 0 rows := ⟨F.len, fun q hq p => by
  rw [F.bit q hq p]
  have : decide (q ∈ ps) = fails 0 e.1 q := by
    rw [Bool.eq_iff_iff, decide_eq_true_iff, hp.mem]
    rw [hn] at hq
    simp [hq]
  rw [this]
  unfold entBit
  rw [List.any_append]
  simp⟩
theorem FillOf.rows {cs : List Clause} {early late : List Nat} {es : List Ent} {row : Nat} {rows : List Nat} (E : EntsOf cs early late es) (F : FillOf (2 ^ late.length) es [] row rows) : RowsOf cs early late rows := ⟨F.len, fun q hq p => by
  rw [F.bit q hq p, E.bit]; simp⟩
end Sm
namespace Sm
open Ql66
structure Eqv (c' c : Clause) : Prop where
  nd : (c'.map (·.1)).Nodup
  mem : ∀ l, l ∈ c' ↔ l ∈ c
theorem Eqv.refl {c : Clause} (h : (c.map (·.1)).Nodup) : Eqv c c := ⟨h, fun _ => Iff.rfl⟩
theorem contains_iff {c : Clause} {l : Lit} : c.contains l = true ↔ l ∈ c := by simp
theorem Eqv.contains {c' c : Clause} (h : Eqv c' c) (l : Lit) : c'.contains l = c.contains l := by
  rw [Bool.eq_iff_iff, contains_iff, contains_iff]; exact h.mem l
theorem Eqv.nil {c' c : Clause} (h : Eqv c' c) : c' = [] ↔ c = [] := by
  rw [List.eq_nil_iff_forall_not_mem, List.eq_nil_iff_forall_not_mem]
  exact ⟨fun a l m => a l ((h.mem l).mpr m), fun a l m => a l ((h.mem l).mp m)⟩
theorem all_mem {c' c : Clause} (h : ∀ l, l ∈ c' ↔ l ∈ c) (g : Lit → Bool) : c'.all g = c.all g := by
  rw [Bool.eq_iff_iff, List.all_eq_true, List.all_eq_true]
  exact ⟨fun a l m => a l ((h l).mpr m), fun a l m => a l ((h l).mp m)⟩
theorem may_eqv {f : Formula} {c' c d' d : Clause} (hc : Eqv c' c) (hd : Eqv d' d) (x : Nat) : mayResolve f c' d' x = mayResolve f c d x := by
  unfold mayResolve
  rw [hc.contains, hd.contains, all_mem hc.mem]
  congr 3
  congr 1
  funext l
  rw [hd.contains]
theorem mem_resolvent {c d : Clause} {x : Nat} (l : Lit) : l ∈ resolvent c d x ↔ l.1 ≠ x ∧ (l ∈ c ∨ l ∈ d) := by
  unfold resolvent
  rw [List.mem_append, List.mem_filter, List.mem_filter]
  simp only [bne_iff_ne, Bool.and_eq_true, Bool.not_eq_true', List.contains_eq_mem, decide_eq_false_iff_not]
  constructor
  · rintro (⟨a, b⟩ | ⟨a, b, _⟩)
    · exact ⟨by simpa using b, .inl a⟩
    · exact ⟨by simpa using b, .inr a⟩
  · rintro ⟨a, b⟩
    by_cases h : l ∈ c
    · exact .inl ⟨h, by simpa using a⟩
    · rcases b with b | b
      · exact absurd b h
      · exact .inr ⟨b, by simpa using a, h⟩
theorem mem_reduced {f : Formula} {c : Clause} (l : Lit) : l ∈ reduced f c ↔ l ∈ c ∧ (f.some_ l.1 = true ∨ ∃ m ∈ c, f.some_ m.1 = true ∧ f.place l.1 < f.place m.1) := by
  unfold reduced
  rw [List.mem_filter, Bool.or_eq_true, List.any_eq_true]
  simp only [Bool.and_eq_true, decide_eq_true_iff]
def putC (acc : Clause) (l : Lit) : Clause := if (acc.any fun y => y.1 == l.1) = true then acc.map (fun y => if y.1 = l.1 then l else y) else acc ++ [l]
def mergeC (c d : Clause) : Clause := d.foldl putC c
theorem putC_vars (acc : Clause) (l : Lit) (nd : (acc.map (·.1)).Nodup) : ((putC acc l).map (·.1)).Nodup := by
  unfold putC
  split
  · have : (acc.map fun y => if y.1 = l.1 then l else y).map (·.1) = acc.map (·.1) := by
      rw [List.map_map]
      refine List.map_congr_left fun y _ => ?_
      simp only [Function.comp]
      split
      · rename_i h; exact h.symm
      · rfl
    rw [this]; exact nd
  · rename_i h
    rw [List.map_append]
    exact nodup_snoc nd fun m => h (any_fst.mpr m)
theorem putC_mem {acc : Clause} {l : Lit} (m : Lit) : m ∈ putC acc l ↔ m = l ∨ (m ∈ acc ∧ m.1 ≠ l.1) := by
  unfold putC
  split
  · rename_i h
    rw [List.mem_map]
    constructor
    · rintro ⟨y, hy, rfl⟩
      split
      · exact .inl rfl
      · rename_i n; exact .inr ⟨hy, n⟩
    · rintro (rfl | ⟨a, b⟩)
      · obtain ⟨y, hy, e⟩ := List.any_eq_true.mp h
        exact ⟨y, hy, if_pos (by simpa using e)⟩
      · exact ⟨m, a, if_neg b⟩
  · rename_i h
    rw [List.mem_append, List.mem_singleton]
    constructor
    · rintro (a | a)
      · refine .inr ⟨a, fun e => h (List.any_eq_true.mpr ⟨m, a, by simpa using e⟩)⟩
      · exact .inl a
    · rintro (a | ⟨a, _⟩)
      · exact .inr a
      · exact .inl a
theorem mergeC_nd : ∀ (d c : Clause), (c.map (·.1)).Nodup → ((mergeC c d).map (·.1)).Nodup
  | [], c, h => h
  | l :: r, c, h => mergeC_nd r (putC c l) (putC_vars c l h)
theorem mergeC_mem : ∀ (d c : Clause) (m : Lit), (d.map (·.1)).Nodup → (m ∈ mergeC c d ↔ m ∈ d ∨ (m ∈ c ∧ m.1 ∉ d.map (·.1)))
  | [], c, m, _ => by simp [mergeC]
  | l :: r, c, m, nd => by
    rw [List.map_cons, List.nodup_cons] at nd
    show m ∈ mergeC (putC c l) r ↔ _
    rw [mergeC_mem r (putC c l) m nd.2, putC_mem, List.mem_cons, List.map_cons, List.mem_cons]
    constructor
    · rintro (a | ⟨rfl | ⟨a, b⟩, d⟩)
      · exact .inl (.inr a)
      · exact .inl (.inl rfl)
      · exact .inr ⟨a, fun z => z.elim b d⟩
    · rintro ((rfl | a) | ⟨a, b⟩)
      · exact .inr ⟨.inl rfl, nd.1⟩
      · exact .inl a
      · exact .inr ⟨.inr ⟨a, fun z => b (.inl z)⟩, fun z => b (.inr z)⟩
theorem may_iff {f : Formula} {c d : Clause} {x : Nat} : mayResolve f c d x = true ↔ f.some_ x = true ∧ (x, true) ∈ c ∧ (x, false) ∈ d ∧ ∀ l ∈ c, l.1 = x ∨ (l.1, !l.2) ∉ d := by
  unfold mayResolve
  rw [Bool.and_eq_true, Bool.and_eq_true, Bool.and_eq_true, contains_iff, contains_iff, List.all_eq_true]
  simp
theorem nd_sign {c : Clause} (nd : (c.map (·.1)).Nodup) {x : Nat} {a b : Bool} (h1 : (x, a) ∈ c) (h2 : (x, b) ∈ c) : a = b := by
  have e1 := holdV_of nd h1
  have e2 := holdV_of nd h2
  rw [e1] at e2
  exact Option.some.inj e2
theorem merged_eqv {f : Formula} {c' c d' d : Clause} {x : Nat} (hc : Eqv c' c) (hd : Eqv d' d) (may : mayResolve f c d x = true) : Eqv ((mergeC c' d').filter fun l => decide (l.1 ≠ x)) (resolvent c d x) where
  nd := by
    have := mergeC_nd d' c' hc.nd
    exact (List.Sublist.map _ (List.filter_sublist)).nodup this
  mem := fun l => by
    obtain ⟨_, hx, hx2, hall⟩ := may_iff.mp may
    rw [List.mem_filter, mergeC_mem d' c' l hd.nd, mem_resolvent, decide_eq_true_iff, hd.mem]
    constructor
    · rintro ⟨a | a, b⟩
      · exact ⟨b, .inr a⟩
      · exact ⟨b, .inl ((hc.mem l).mp a.1)⟩
    · rintro ⟨a, b | b⟩
      · refine ⟨?_, a⟩
        by_cases h : l ∈ d
        · exact .inl h
        · refine .inr ⟨(hc.mem l).mpr b, fun z => ?_⟩
          obtain ⟨⟨y, q⟩, hy, e⟩ := List.mem_map.mp z
          have e' : y = l.1 := e
          subst e'
          have hyd := (hd.mem _).mp hy
          rcases hall l b with r | r
          · exact a r
          · obtain ⟨y, s⟩ := l
            cases q <;> cases s <;> first | exact h hyd | exact r hyd
      · exact ⟨.inl b, a⟩
def unlikes (c d : Clause) : List Nat := (c.filter fun l => d.contains (l.1, !l.2)).map (·.1)
theorem unlikes_one {c d : Clause} {x : Nat} (nc : (c.map (·.1)).Nodup) : (unlikes c d = [x] ∧ holdV c x = some true) ↔ ((x, true) ∈ c ∧ (x, false) ∈ d ∧ ∀ l ∈ c, l.1 = x ∨ (l.1, !l.2) ∉ d) := by
  have mem : ∀ y, y ∈ unlikes c d ↔ ∃ b, (y, b) ∈ c ∧ (y, !b) ∈ d := fun y => by
    unfold unlikes
    rw [List.mem_map]
    constructor
    · rintro ⟨l, hl, rfl⟩
      rw [List.mem_filter] at hl
      exact ⟨l.2, hl.1, by simpa using hl.2⟩
    · rintro ⟨b, h1, h2⟩
      exact ⟨(y, b), List.mem_filter.mpr ⟨h1, by simpa using h2⟩, rfl⟩
  have nd : (unlikes c d).Nodup := (List.Sublist.map _ (List.filter_sublist)).nodup nc
  constructor
  · rintro ⟨h1, h2⟩
    have hx := holdV_mem h2
    have hm : x ∈ unlikes c d := by rw [h1]; simp
    obtain ⟨b, hb1, hb2⟩ := (mem x).mp hm
    have := nd_sign nc hx hb1
    subst this
    refine ⟨hx, hb2, fun l hl => ?_⟩
    by_cases e : l.1 = x
    · exact .inl e
    · refine .inr fun z => e ?_
      have : l.1 ∈ unlikes c d := (mem l.1).mpr ⟨l.2, hl, z⟩
      rw [h1] at this
      simpa using this
  · rintro ⟨h1, h2, h3⟩
    refine ⟨?_, holdV_of nc h1⟩
    have hx : x ∈ unlikes c d := (mem x).mpr ⟨true, h1, h2⟩
    have all : ∀ y ∈ unlikes c d, y = x := fun y hy => by
      obtain ⟨b, a1, a2⟩ := (mem y).mp hy
      rcases h3 _ a1 with z | z
      · exact z
      · exact absurd a2 z
    match e : unlikes c d, nd, hx, all with
    | [], _, h, _ => cases h
    | [y], _, _, a => rw [a y (by simp)]
    | y :: z :: r, n, _, a =>
      exfalso
      have h1 := a y (by simp)
      have h2 := a z (by simp)
      rw [List.nodup_cons] at n
      exact n.1 (by rw [h1, h2]; simp)
def keptStep (f : Formula) (c : Clause) (ks : Clause) (x : Nat) : Clause := match holdV c x with
  | some b => if ks ≠ [] ∨ f.some_ x = true then ks ++ [(x, b)] else ks
  | none => ks
structure KeptAt (f : Formula) (c ks : Clause) (j : Nat) : Prop where
  nd : (ks.map (·.1)).Nodup
  mem : ∀ l, l ∈ ks ↔ (l ∈ c ∧ j ≤ f.place l.1) ∧ (f.some_ l.1 = true ∨ ∃ m ∈ c, f.some_ m.1 = true ∧ f.place l.1 < f.place m.1)
theorem KeptAt.start {f : Formula} (W : FW f) {c : Clause} (hc : ∀ l ∈ c, l.1 ∈ varsOf f) : KeptAt f c [] f.size where
  nd := by simp
  mem := fun l => by
    constructor
    · intro h; cases h
    · rintro ⟨⟨a, b⟩, _⟩
      obtain ⟨i, hi⟩ := List.getElem?_of_mem (hc l a)
      have := place_at W.nd hi
      have hl := (List.getElem?_eq_some_iff.mp hi).1
      have : (varsOf f).length = f.size := by simp [Formula.size]
      omega
theorem KeptAt.step {f : Formula} (W : FW f) {c ks : Clause} {j x : Nat} (nc : (c.map (·.1)).Nodup) (hc : ∀ l ∈ c, l.1 ∈ varsOf f) (K : KeptAt f c ks (j + 1)) (hx : (varsOf f)[j]? = some x) : KeptAt f c (keptStep f c ks x) j := by
  have px : f.place x = j := place_at W.nd hx
  have inj : ∀ l ∈ c, f.place l.1 = j → l.1 = x := fun l hl e => by
    obtain ⟨i, hi⟩ := List.getElem?_of_mem (hc l hl)
    have := place_at W.nd hi
    rw [e] at this
    subst this
    rw [hx] at hi
    exact (Option.some.inj hi).symm
  unfold keptStep
  cases h : holdV c x with
  | none =>
    refine ⟨K.nd, fun l => ?_⟩
    rw [K.mem]
    constructor
    · rintro ⟨⟨a, b⟩, q⟩
      exact ⟨⟨a, by omega⟩, q⟩
    · rintro ⟨⟨a, b⟩, q⟩
      refine ⟨⟨a, ?_⟩, q⟩
      refine Nat.lt_of_le_of_ne b fun e => ?_
      have e' := inj l a e.symm
      have : holdV c x = some l.2 := holdV_of nc (by rw [← e']; exact a)
      rw [h] at this; cases this
  | some b =>
    have hm := holdV_mem h
    have only : ∀ l ∈ c, f.place l.1 = j → l = (x, b) := fun l hl e => by
      have e1 := inj l hl e
      obtain ⟨y, s⟩ := l
      have e1' : y = x := e1
      subst e1'
      rw [nd_sign nc hl hm]
    have qual : (ks ≠ [] ∨ f.some_ x = true) ↔ (f.some_ x = true ∨ ∃ m ∈ c, f.some_ m.1 = true ∧ f.place x < f.place m.1) := by
      constructor
      · rintro (a | a)
        · right
          cases ks with
          | nil => exact absurd rfl a
          | cons l r =>
            obtain ⟨⟨h1, h2⟩, h3⟩ := (K.mem l).mp (by simp)
            rcases h3 with h3 | ⟨m, h3, h4, h5⟩
            · exact ⟨l, h1, h3, by omega⟩
            · exact ⟨m, h3, h4, by omega⟩
        · exact .inl a
      · rintro (a | ⟨m, h1, h2, h3⟩)
        · exact .inr a
        · left
          intro e
          have : m ∈ ks := (K.mem m).mpr ⟨⟨h1, by omega⟩, .inl h2⟩
          rw [e] at this; cases this
    by_cases q : ks ≠ [] ∨ f.some_ x = true
    · show KeptAt f c (if _ then _ else _) j
      rw [if_pos q]
      refine ⟨?_, fun l => ?_⟩
      · rw [List.map_append]
        refine nodup_snoc K.nd fun z => ?_
        obtain ⟨l, hl, e⟩ := List.mem_map.mp z
        have := ((K.mem l).mp hl).1.2
        rw [e, px] at this
        omega
      · rw [List.mem_append, List.mem_singleton, K.mem]
        constructor
        · rintro (⟨⟨a, b⟩, r⟩ | rfl)
          · exact ⟨⟨a, by omega⟩, r⟩
          · exact ⟨⟨hm, by rw [px]; exact Nat.le_refl _⟩, qual.mp q⟩
        · rintro ⟨⟨a, b⟩, r⟩
          by_cases e : f.place l.1 = j
          · exact .inr (only l a e)
          · exact .inl ⟨⟨a, by omega⟩, r⟩
    · show KeptAt f c (if _ then _ else _) j
      rw [if_neg q]
      refine ⟨K.nd, fun l => ?_⟩
      rw [K.mem]
      constructor
      · rintro ⟨⟨a, b⟩, r⟩
        exact ⟨⟨a, by omega⟩, r⟩
      · rintro ⟨⟨a, b⟩, r⟩
        refine ⟨⟨a, ?_⟩, r⟩
        refine Nat.lt_of_le_of_ne b fun e => ?_
        have := only l a e.symm
        subst this
        exact q (qual.mpr r)
theorem KeptAt.done {f : Formula} {c' c ks : Clause} (h : Eqv c' c) (K : KeptAt f c' ks 0) : Eqv ks (reduced f c) := ⟨K.nd, fun l => by
  rw [K.mem, mem_reduced, h.mem]
  constructor
  · rintro ⟨⟨a, _⟩, q | ⟨m, q, r⟩⟩
    · exact ⟨a, .inl q⟩
    · exact ⟨a, .inr ⟨m, (h.mem m).mp q, r⟩⟩
  · rintro ⟨a, q | ⟨m, q, r⟩⟩
    · exact ⟨⟨a, Nat.zero_le _⟩, .inl q⟩
    · exact ⟨⟨a, Nat.zero_le _⟩, .inr ⟨m, (h.mem m).mpr q, r⟩⟩⟩
end Sm
namespace Sm
open Ql66
def numE (hi : Nat) (ws : List (List Int)) (k : Nat) : Except Nat Nat := match upTo (wordAt ws k) hi with
  | some n => if 1 ≤ n then .ok n else .error (errAt ws k)
  | none => .error (errAt ws k)
theorem numE_ok {hi k n : Nat} {ws : List (List Int)} (h : upTo (wordAt ws k) hi = some n) (h1 : 1 ≤ n) : numE hi ws k = .ok n := by
  unfold numE; rw [h]; exact if_pos h1
theorem numE_err {hi k : Nat} {ws : List (List Int)} (h : ∀ n, upTo (wordAt ws k) hi = some n → ¬ 1 ≤ n) : numE hi ws k = .error (errAt ws k) := by
  unfold numE
  cases e : upTo (wordAt ws k) hi with
  | none => rfl
  | some n => exact if_neg (h n e)
theorem num_tok {α : Type} {hi k : Nat} {ws : List (List Int)} {g : Nat → List Tok → Except Nat α} (h : k ≤ ws.length) :
    (match toksAt k (ws.drop k) with | [] => .error 0 | a :: q => (numberIn 1 hi a).bind fun i => g i q) = (numE hi ws k).bind fun i => g i (toksAt (k + 1) (ws.drop (k + 1))) := by
  by_cases e : k = ws.length
  · have hd : ws.drop k = [] := List.drop_of_length_le (by omega)
    unfold numE
    rw [hd, toksAt_nil, word_end (by omega), upTo_nil]
    show Except.error 0 = Except.error (errAt ws k)
    unfold errAt; rw [if_pos e]
  · rw [drop_at (by omega), toksAt_cons]
    show (numberIn 1 hi (oct (wordAt ws k), k + 1)).bind _ = _
    rw [numberIn_up]
    unfold numE errAt
    rw [if_neg e]
    all_goals
      cases upTo (wordAt ws k) hi with
      | none => rfl
      | some n => by_cases z : 1 ≤ n <;> simp [z]
def stepE (f : Formula) (cs : List Clause) (ws : List (List Int)) (k : Nat) : Except Nat (Clause × Nat) :=
  if oct (wordAt ws k) = txt "r" then
    (numE cs.length ws (k + 1)).bind fun i => (numE cs.length ws (k + 2)).bind fun j => (numE f.size ws (k + 3)).bind fun v =>
      if mayResolve f (Ql66.clauseAt cs i) (Ql66.clauseAt cs j) v = true then .ok (resolvent (Ql66.clauseAt cs i) (Ql66.clauseAt cs j) v, k + 4) else .error (k + 4)
  else if oct (wordAt ws k) = txt "u" then (numE cs.length ws (k + 1)).bind fun i => .ok (reduced f (Ql66.clauseAt cs i), k + 2)
  else .error (k + 1)
theorem numE_in {hi k n : Nat} {ws : List (List Int)} (h : numE hi ws k = .ok n) : 1 ≤ n ∧ n ≤ hi ∧ k < ws.length := by
  unfold numE at h
  cases e : upTo (wordAt ws k) hi with
  | none => rw [e] at h; cases h
  | some m =>
    rw [e] at h
    by_cases z : 1 ≤ m
    · have h' : (if 1 ≤ m then Except.ok m else Except.error (errAt ws k)) = Except.ok n := h
      rw [if_pos z] at h'
      cases h'
      refine ⟨z, upTo_le e, ?_⟩
      refine Nat.lt_of_not_le fun y => ?_
      rw [word_end y, upTo_nil] at e; cases e
    · have h' : (if 1 ≤ m then Except.ok m else Except.error (errAt ws k)) = Except.ok n := h
      rw [if_neg z] at h'; cases h'
theorem done_ok {f : Formula} {cs : List Clause} {i j v : Nat} (i1 : 1 ≤ i) (i2 : i ≤ cs.length) (j1 : 1 ≤ j) (j2 : j ≤ cs.length) (may : mayResolve f (Ql66.clauseAt cs i) (Ql66.clauseAt cs j) v = true) : done f cs (.resolve i j v) = some (cs ++ [resolvent (Ql66.clauseAt cs i) (Ql66.clauseAt cs j) v]) := by
  show (if _ then _ else _) = _
  exact if_pos ⟨i1, i2, j1, j2, may⟩
theorem done_no {f : Formula} {cs : List Clause} {i j v : Nat} (may : ¬ mayResolve f (Ql66.clauseAt cs i) (Ql66.clauseAt cs j) v = true) : done f cs (.resolve i j v) = none := by
  show (if _ then _ else _) = _
  exact if_neg fun q => may q.2.2.2.2
theorem proof_step {f : Formula} {n k : Nat} {any : Bool} {cs : List Clause} {ws : List (List Int)} (h : k < ws.length) : proof f (n + 1) any cs (toksAt k (ws.drop k)) =
    (stepE f cs ws k).bind fun y => proof f n true (cs ++ [y.1]) (toksAt y.2 (ws.drop y.2)) := by
  rw [drop_at h, toksAt_cons]
  conv => lhs; unfold proof
  unfold stepE
  by_cases r : oct (wordAt ws k) = txt "r"
  · rw [if_pos r, if_pos r]
    have A := num_tok (ws := ws) (k := k + 1) (hi := cs.length) (g := fun i q => match q with
        | [] => .error 0
        | b :: z => (numberIn 1 cs.length b).bind fun j => match z with
          | [] => .error 0
          | y :: w => (numberIn 1 f.size y).bind fun v => match done f cs (.resolve i j v) with
            | some c => proof f n true c w
            | none => .error y.2) (by omega)
    refine A.trans ?_
    cases e1 : numE cs.length ws (k + 1) with
    | error e => rfl
    | ok i =>
      obtain ⟨i1, i2, hk1⟩ := numE_in e1
      simp only [Except.bind]
      have B := num_tok (ws := ws) (k := k + 2) (hi := cs.length) (g := fun j z => match z with
          | [] => .error 0
          | y :: w => (numberIn 1 f.size y).bind fun v => match done f cs (.resolve i j v) with
            | some c => proof f n true c w
            | none => .error y.2) (by omega)
      refine B.trans ?_
      cases e2 : numE cs.length ws (k + 2) with
      | error e => rfl
      | ok j =>
        obtain ⟨j1, j2, hk2⟩ := numE_in e2
        simp only [Except.bind]
        -- the last word's own number is asked too
        by_cases e : k + 3 = ws.length
        · have hd : ws.drop (k + 3) = [] := List.drop_of_length_le (by omega)
          unfold numE
          rw [hd, toksAt_nil, word_end (by omega), upTo_nil]
          show Except.error 0 = Except.error (errAt ws (k + 3))
          unfold errAt; rw [if_pos e]
        · rw [drop_at (k := k + 3) (by omega), toksAt_cons]
          show (numberIn 1 f.size (oct (wordAt ws (k + 3)), k + 3 + 1)).bind _ = _
          rw [numberIn_up]
          unfold numE errAt
          rw [if_neg e]
          cases upTo (wordAt ws (k + 3)) f.size with
          | none => rfl
          | some v =>
            by_cases z : 1 ≤ v
            · simp only [z, if_true, Except.bind]
              by_cases may : mayResolve f (Ql66.clauseAt cs i) (Ql66.clauseAt cs j) v = true
              · rw [done_ok i1 i2 j1 j2 may, if_pos may]
              · rw [done_no may, if_neg may]
            · simp [z, Except.bind]
  · rw [if_neg r, if_neg r]
    by_cases u : oct (wordAt ws k) = txt "u"
    · rw [if_pos u, if_pos u]
      have A := num_tok (ws := ws) (k := k + 1) (hi := cs.length) (g := fun i q => proof f n true (cs ++ [reduced f (Ql66.clauseAt cs i)]) q) (by omega)
      refine A.trans ?_
      cases e1 : numE cs.length ws (k + 1) with
      | error e => rfl
      | ok i => rfl
    · rw [if_neg u, if_neg u]; rfl
theorem proof_end {f : Formula} {n k : Nat} {any : Bool} {cs : List Clause} {ws : List (List Int)} (h : ws.length ≤ k) : proof f n any cs (toksAt k (ws.drop k)) = if any = true ∧ cs.getLast? = some [] then .ok () else .error 0 := by
  rw [List.drop_of_length_le h, toksAt_nil]
  unfold proof; rfl
theorem proof_full {f : Formula} {k : Nat} {any : Bool} {cs : List Clause} {ws : List (List Int)} (h : k < ws.length) : proof f 0 any cs (toksAt k (ws.drop k)) = .error (k + 1) := by
  rw [drop_at h, toksAt_cons]
  unfold proof; rfl
theorem clauseAt_get {cs : List Clause} {i : Nat} (h1 : 1 ≤ i) (h2 : i ≤ cs.length) : cs[i - 1]? = some (Ql66.clauseAt cs i) := by
  unfold Ql66.clauseAt
  rw [if_neg (by omega), List.getD_eq_getElem?_getD, List.getElem?_eq_getElem (by omega)]; rfl
end Sm
namespace Sm
open Ql66 PyQl66
def readRes (s : Abs) (t : List Int) : Abs × Nat := match form0 (wordsOf t) with
  | .ok f => (some (f, firstBlock (toksAt 0 (wordsOf t))), 0)
  | .error e => (s, errNo (wordsOf t) e)
def proofRes (f : Formula) (t : List Int) : Nat := match Ql66.proof f 65536 false f.clauses (toksAt 0 (wordsOf t)) with
  | .ok _ => 0
  | .error e => errNo (wordsOf t) e
def playRes (f : Formula) (vs : List Int) : Int := if f.size ≤ vs.length ∨ (vs.any fun y => decide (1 < y)) = true then -2 else ((f.play (vs.map fun y => y == 1) : Nat) : Int)
def ansOf (s : Abs) (p : Int) (row : List Int) : Abs × List Int :=
  if p = 0 then (none, [0])
  else if p = 1 then ((readRes s row).1, [((readRes s row).2 : Int)])
  else match s with
    | none => (none, [-3])
    | some x => if p = 2 then (s, [if x.1.true_ [] = true then 1 else 0])
      else if p = 3 then (s, [0, ((x.1.ways x.2 : Nat) : Int)])
      else if p = 4 then (s, [playRes x.1 row])
      else (s, [((proofRes x.1 row : Nat) : Int)])
theorem bytes_byts {t : List Int} (h : NeutralIO.bytes t = true) : Byts t := fun x hx => by
  have := List.all_eq_true.mp h x hx
  simp at this
  exact this
structure CallAs (p : Int) (row : List Int) (c : List (List Int)) : Prop where
  rg : 0 ≤ p ∧ p ≤ 5
  eq : if p = 1 ∨ p = 4 ∨ p = 5 then c = [[p], row] else c = [[p]] ∧ row = []
theorem step_as {p : Int} {row : List Int} {c : List (List Int)} (C : CallAs p row c) (hm : Ql66Neutral.may (whole c) = true) (hl : row.length ≤ 100000) (s : Abs) : Ql66Neutral.step s (whole c) = ansOf s p row ∧ Byts row := by
  obtain ⟨⟨h1, h2⟩, h⟩ := C
  have hp : p = 0 ∨ p = 1 ∨ p = 2 ∨ p = 3 ∨ p = 4 ∨ p = 5 := by omega
  rcases hp with rfl | rfl | rfl | rfl | rfl | rfl
  · rw [if_neg (by decide)] at h
    obtain ⟨rfl, rfl⟩ := h
    exact ⟨rfl, fun x hx => by cases hx⟩
  · rw [if_pos (by decide)] at h
    subst h
    have hm' : (Ql66Neutral.u32 (row.length : Int) && Ql66Neutral.bytes (row.length : Int) 0 262144 row) = true := hm
    have hb : Byts row := by
      rw [Bool.and_eq_true] at hm'
      have := hm'.2
      unfold Ql66Neutral.bytes at this
      rw [Bool.and_eq_true] at this
      exact bytes_byts this.1
    refine ⟨?_, hb⟩
    show (let r := spec s (.read (oct row) (row.length : Int).toNat); (r.1, r.2.value :: [])) = _
    have e : spec s (.read (oct row) (row.length : Int).toNat) = match Ql66.read (oct row) with
        | .ok f => (some (f, firstBlock (words (oct row))), only 0)
        | .error k => (s, only (k : Int)) := by
      show (if TEXT < (row.length : Int).toNat then _ else _) = _
      have : ¬ TEXT < (row.length : Int).toNat := by
        show ¬ 262144 < _
        rw [Int.toNat_natCast]; omega
      rw [if_neg this]
      cases Ql66.read (oct row) <;> rfl
    rw [e, read_form hb, words_eq hb]
    unfold ansOf readRes
    rw [if_neg (by decide), if_pos rfl]
    cases form0 (wordsOf row) with
    | ok f => rfl
    | error k => rfl
  · rw [if_neg (by decide)] at h
    obtain ⟨rfl, rfl⟩ := h
    refine ⟨?_, fun x hx => by cases hx⟩
    cases s <;> rfl
  · rw [if_neg (by decide)] at h
    obtain ⟨rfl, rfl⟩ := h
    refine ⟨?_, fun x hx => by cases hx⟩
    cases s <;> rfl
  · rw [if_pos (by decide)] at h
    subst h
    have hm' : (NeutralIO.within (row.length : Int) 0 64 && Ql66Neutral.bytes (row.length : Int) 0 64 row) = true := hm
    have hb : Byts row := by
      rw [Bool.and_eq_true] at hm'
      have := hm'.2
      unfold Ql66Neutral.bytes at this
      rw [Bool.and_eq_true] at this
      exact bytes_byts this.1
    refine ⟨?_, hb⟩
    cases s with
    | none => rfl
    | some x =>
      show (let r := spec (some x) (.play (Ql66Neutral.nats row) (row.length : Int).toNat); (r.1, r.2.value :: [])) = _
      have a1 : ((Ql66Neutral.nats row).any fun y => decide (1 < y)) = row.any fun y => decide (1 < y) := by
        unfold Ql66Neutral.nats
        rw [List.any_map]
        refine any_congr fun y hy => ?_
        have := hb y hy
        obtain ⟨b1, b2⟩ := this
        show decide (1 < y.toNat) = decide (1 < y)
        rw [decide_eq_decide]; omega
      have a2 : ((Ql66Neutral.nats row).map fun y => y == 1) = row.map fun y => y == 1 := by
        unfold Ql66Neutral.nats
        rw [List.map_map]
        refine List.map_congr_left fun y hy => ?_
        obtain ⟨b1, b2⟩ := hb y hy
        show (y.toNat == 1) = (y == 1)
        rw [Bool.eq_iff_iff, beq_iff_eq, beq_iff_eq]; omega
      have e : spec (some x) (.play (Ql66Neutral.nats row) (row.length : Int).toNat) = if x.1.size ≤ (row.length : Int).toNat ∨ ((Ql66Neutral.nats row).any fun y => decide (1 < y)) = true then (some x, only (-2)) else (some x, only ((x.1.play ((Ql66Neutral.nats row).map fun y => y == 1) : Nat) : Int)) := rfl
      rw [e, a1, a2, Int.toNat_natCast]
      show _ = (some x, [playRes x.1 row])
      unfold playRes
      split <;> rfl
  · rw [if_pos (by decide)] at h
    subst h
    have hm' : (Ql66Neutral.u32 (row.length : Int) && Ql66Neutral.bytes (row.length : Int) 0 262144 row) = true := hm
    have hb : Byts row := by
      rw [Bool.and_eq_true] at hm'
      have := hm'.2
      unfold Ql66Neutral.bytes at this
      rw [Bool.and_eq_true] at this
      exact bytes_byts this.1
    refine ⟨?_, hb⟩
    cases s with
    | none => rfl
    | some x =>
      show (let r := spec (some x) (.proof (oct row) (row.length : Int).toNat); (r.1, r.2.value :: [])) = _
      have e : spec (some x) (.proof (oct row) (row.length : Int).toNat) = match proof x.1 STEPS false x.1.clauses (words (oct row)) with
          | .ok _ => (some x, only 0)
          | .error k => (some x, only ((if k = 0 then (words (oct row)).length + 1 else k : Nat) : Int)) := by
        show (if TEXT < (row.length : Int).toNat then _ else _) = _
        have : ¬ TEXT < (row.length : Int).toNat := by
          show ¬ 262144 < _
          rw [Int.toNat_natCast]; omega
        rw [if_neg this]
        cases proof x.1 STEPS false x.1.clauses (words (oct row)) <;> rfl
      rw [e, words_eq hb]
      show _ = (some x, [((proofRes x.1 row : Nat) : Int)])
      unfold proofRes
      have hs : STEPS = 65536 := rfl
      rw [hs]
      cases Ql66.proof x.1 65536 false x.1.clauses (toksAt 0 (wordsOf row)) with
      | ok u => rfl
      | error k => simp [errNo, toksAt_length, only]
theorem rows_eq (n : Int) (r : List Int) : PyFlat.rows 1 (n :: r) = if 0 ≤ n ∧ n.toNat ≤ r.length then some ([r.take n.toNat], r.drop n.toNat) else none := by
  have e : PyFlat.row (n :: r) = if 0 ≤ n ∧ n.toNat ≤ r.length then some (r.take n.toNat, r.drop n.toNat) else none := rfl
  show (match PyFlat.row (n :: r) with | none => none | some (x, s) => match PyFlat.rows 0 s with | none => none | some (xs, t) => some (x :: xs, t)) = _
  rw [e]
  split
  · rename_i h
    split at h
    · cases h
    · rename_i z; rw [if_neg z]
  · rename_i x s h
    split at h
    · rename_i z
      rw [if_pos z]
      cases h; rfl
    · cases h
theorem call_eq (p : Int) (r : List Int) : PyFlat.call shape (p :: r) = match shape p with
    | none => none
    | some (n, k) => if r.length < n then none else match PyFlat.rows k (r.drop n) with
      | none => none
      | some (xs, t) => some ((p :: r.take n) :: xs, t) := rfl
def Rem (r : List Int) (cs : List (List (List Int))) : Prop := ∃ fu, PyFlat.calls shape fu r = some cs
theorem rem_nil {cs : List (List (List Int))} (h : Rem [] cs) : cs = [] := by
  obtain ⟨fu, h⟩ := h
  cases fu <;> (unfold PyFlat.calls at h; cases h; rfl)
theorem rem_cons {p : Int} {r : List Int} {cs : List (List (List Int))} (h : Rem (p :: r) cs) : ∃ c cs' row t, cs = c :: cs' ∧ CallAs p row c ∧ Rem t cs' ∧
    (if p = 1 ∨ p = 4 ∨ p = 5 then ∃ n r', r = n :: r' ∧ 0 ≤ n ∧ n.toNat ≤ r'.length ∧ row = r'.take n.toNat ∧ t = r'.drop n.toNat else t = r) := by
  obtain ⟨fu, h⟩ := h
  cases fu with
  | zero => unfold PyFlat.calls at h; cases h
  | succ fu =>
    unfold PyFlat.calls at h
    cases hc : PyFlat.call shape (p :: r) with
    | none => rw [hc] at h; cases h
    | some ct =>
      obtain ⟨c, t⟩ := ct
      rw [hc] at h
      have h' : (match PyFlat.calls shape fu t with | none => none | some cs => some (c :: cs)) = some cs := h
      cases hr : PyFlat.calls shape fu t with
      | none => rw [hr] at h'; cases h'
      | some cs' =>
        rw [hr] at h'
        have : cs = c :: cs' := (Option.some.inj h').symm
        subst this
        have flat : ∀ q : Int, shape q = some (0, 0) → p = q → c = [[p]] ∧ t = r := fun q hq e => by
          subst e
          rw [call_eq, hq] at hc
          have hc' : (if r.length < 0 then none else match PyFlat.rows 0 (r.drop 0) with | none => none | some (xs, t) => some ((p :: r.take 0) :: xs, t)) = some (c, t) := hc
          rw [if_neg (by omega)] at hc'
          have hc'' : some ([p :: r.take 0], r.drop 0) = some (c, t) := hc'
          have := Option.some.inj hc''
          injection this with a b
          exact ⟨a.symm, b.symm⟩
        have rowd : ∀ q : Int, shape q = some (0, 1) → p = q → ∃ n r', r = n :: r' ∧ 0 ≤ n ∧ n.toNat ≤ r'.length ∧ c = [[p], r'.take n.toNat] ∧ t = r'.drop n.toNat := fun q hq e => by
          subst e
          rw [call_eq, hq] at hc
          have hc' : (if r.length < 0 then none else match PyFlat.rows 1 (r.drop 0) with | none => none | some (xs, t) => some ((p :: r.take 0) :: xs, t)) = some (c, t) := hc
          rw [if_neg (by omega), List.drop_zero] at hc'
          cases r with
          | nil => cases hc'
          | cons n r' =>
            by_cases z : 0 ≤ n ∧ n.toNat ≤ r'.length
            · have e1 : PyFlat.rows 1 (n :: r') = some ([r'.take n.toNat], r'.drop n.toNat) := by
                rw [rows_eq, if_pos z]
              rw [e1] at hc'
              have := Option.some.inj hc'
              injection this with a b
              exact ⟨n, r', rfl, z.1, z.2, a.symm, b.symm⟩
            · have e1 : PyFlat.rows 1 (n :: r') = none := by
                rw [rows_eq, if_neg z]
              rw [e1] at hc'; cases hc'
        by_cases q0 : p = 0
        · obtain ⟨a, b⟩ := flat 0 rfl q0
          subst q0
          exact ⟨c, cs', [], t, rfl, ⟨⟨by decide, by decide⟩, by rw [if_neg (by decide)]; exact ⟨a, rfl⟩⟩, ⟨fu, hr⟩, by rw [if_neg (by decide)]; exact b⟩
        by_cases q1 : p = 1
        · obtain ⟨n, r', e1, e2, e3, e4, e5⟩ := rowd 1 rfl q1
          subst q1
          exact ⟨c, cs', _, t, rfl, ⟨⟨by decide, by decide⟩, by rw [if_pos (by decide)]; exact e4⟩, ⟨fu, hr⟩, by rw [if_pos (by decide)]; exact ⟨n, r', e1, e2, e3, rfl, e5⟩⟩
        by_cases q2 : p = 2
        · obtain ⟨a, b⟩ := flat 2 rfl q2
          subst q2
          exact ⟨c, cs', [], t, rfl, ⟨⟨by decide, by decide⟩, by rw [if_neg (by decide)]; exact ⟨a, rfl⟩⟩, ⟨fu, hr⟩, by rw [if_neg (by decide)]; exact b⟩
        by_cases q3 : p = 3
        · obtain ⟨a, b⟩ := flat 3 rfl q3
          subst q3
          exact ⟨c, cs', [], t, rfl, ⟨⟨by decide, by decide⟩, by rw [if_neg (by decide)]; exact ⟨a, rfl⟩⟩, ⟨fu, hr⟩, by rw [if_neg (by decide)]; exact b⟩
        by_cases q4 : p = 4
        · obtain ⟨n, r', e1, e2, e3, e4, e5⟩ := rowd 4 rfl q4
          subst q4
          exact ⟨c, cs', _, t, rfl, ⟨⟨by decide, by decide⟩, by rw [if_pos (by decide)]; exact e4⟩, ⟨fu, hr⟩, by rw [if_pos (by decide)]; exact ⟨n, r', e1, e2, e3, rfl, e5⟩⟩
        by_cases q5 : p = 5
        · obtain ⟨n, r', e1, e2, e3, e4, e5⟩ := rowd 5 rfl q5
          subst q5
          exact ⟨c, cs', _, t, rfl, ⟨⟨by decide, by decide⟩, by rw [if_pos (by decide)]; exact e4⟩, ⟨fu, hr⟩, by rw [if_pos (by decide)]; exact ⟨n, r', e1, e2, e3, rfl, e5⟩⟩
        · exfalso
          have : shape p = none := by
            unfold shape
            rw [if_neg q0, if_neg q1, if_neg q2, if_neg q3, if_neg q4, if_neg q5]
          rw [call_eq, this] at hc
          cases hc
structure Whole (ns : List Int) (k : Nat) (s : Abs) (acc : List Int) (cs : List (List (List Int))) : Prop where
  rem : Rem (ns.drop k) cs
  may : (cs.map whole).all Ql66Neutral.may = true
  eq : answers ns = acc ++ PyFlat.told (PyFlat.played Ql66Neutral.step s (cs.map whole))
theorem whole_start {ns : List Int} (h : answers_asked ns = true) : ∃ cs, Whole ns 0 none [] cs := by
  unfold answers_asked at h
  unfold PyQl66.calls at h
  cases e : PyFlat.calls shape ns.length ns with
  | none => rw [e] at h; cases h
  | some cs =>
    rw [e] at h
    have h' : (PyFlat.atMost 300 (cs.map whole) && Ql66Neutral.asked (cs.map whole)) = true := h
    rw [Bool.and_eq_true] at h'
    have ha := h'.2
    unfold Ql66Neutral.asked at ha
    rw [Bool.and_eq_true] at ha
    refine ⟨cs, ⟨ns.length, by rw [List.drop_zero]; exact e⟩, ha.1, ?_⟩
    unfold answers PyQl66.calls
    rw [e]
    rfl
theorem told_cons (a : List Int) (l : List (List Int)) : PyFlat.told (a :: l) = ((a.length : Int) :: a) ++ PyFlat.told l := rfl
theorem Whole.done {ns : List Int} {k : Nat} {s : Abs} {acc : List Int} {cs : List (List (List Int))} (W : Whole ns k s acc cs) (h : ns.length ≤ k) : answers ns = acc := by
  have r := W.rem
  rw [List.drop_of_length_le h] at r
  have := rem_nil r
  subst this
  rw [W.eq]
  simp [PyFlat.played, PyFlat.told]
theorem ansOf_len (s : Abs) (p : Int) (row : List Int) : (ansOf s p row).2.length ≤ 2 := by
  unfold ansOf
  split
  · simp
  · split
    · simp
    · split
      · simp
      · split
        · simp
        · split
          · simp
          · split <;> simp
theorem Whole.next {ns : List Int} {k : Nat} {s : Abs} {acc : List Int} {cs : List (List (List Int))} (W : Whole ns k s acc cs) (hk : k < ns.length) (hl : ns.length ≤ 60000) : ∃ p row k' cs', ns[k]? = some p ∧ (0 ≤ p ∧ p ≤ 5) ∧ Byts row ∧ row.length ≤ 60000 ∧ k < k' ∧ k' ≤ ns.length ∧
    Whole ns k' (ansOf s p row).1 (acc ++ (((ansOf s p row).2.length : Int) :: (ansOf s p row).2)) cs' ∧
    (if p = 1 ∨ p = 4 ∨ p = 5 then ∃ n : Nat, ns[k + 1]? = some (n : Int) ∧ row = (ns.drop (k + 2)).take n ∧ row.length = n ∧ k' = k + 2 + n else row = [] ∧ k' = k + 1) := by
  have r := W.rem
  rw [List.drop_eq_getElem_cons hk] at r
  obtain ⟨c, cs', row, t, rfl, C, rt, q⟩ := rem_cons r
  have hm := W.may
  rw [List.map_cons, List.all_cons, Bool.and_eq_true] at hm
  have hrl : row.length ≤ 60000 := by
    by_cases z : ns[k] = 1 ∨ ns[k] = 4 ∨ ns[k] = 5
    · rw [if_pos z] at q
      obtain ⟨n, r', e1, _, e3, e4, _⟩ := q
      rw [e4, List.length_take]
      have : (ns.drop (k + 1)).length ≤ 60000 := by rw [List.length_drop]; omega
      rw [e1] at this
      simp at this
      omega
    · have := C.eq
      rw [if_neg z] at this
      rw [this.2]; simp
  obtain ⟨st, hb⟩ := step_as C hm.1 (by omega) s
  have eq := W.eq
  rw [List.map_cons] at eq
  have eq' : answers ns = acc ++ PyFlat.told ((Ql66Neutral.step s (whole c)).2 :: PyFlat.played Ql66Neutral.step (Ql66Neutral.step s (whole c)).1 (cs'.map whole)) := eq
  rw [st, told_cons, ← List.append_assoc] at eq'
  by_cases z : ns[k] = 1 ∨ ns[k] = 4 ∨ ns[k] = 5
  · rw [if_pos z] at q
    obtain ⟨n, r', e1, e2, e3, e4, e5⟩ := q
    have hd : ns.drop (k + 2) = r' := by
      have : (ns.drop (k + 1)).drop 1 = r' := by rw [e1]; rfl
      rw [List.drop_drop] at this
      exact this
    have hk1 : k + 1 < ns.length := by
      refine Nat.lt_of_not_le fun y => ?_
      rw [List.drop_of_length_le y] at e1; cases e1
    have hn : ns[k + 1]? = some n := by
      have : (ns.drop (k + 1))[0]? = some n := by rw [e1]; rfl
      rw [List.getElem?_drop] at this
      exact this
    have hr' : r'.length = ns.length - (k + 2) := by rw [← hd, List.length_drop]
    refine ⟨ns[k], row, k + 2 + n.toNat, cs', List.getElem?_eq_getElem hk, C.rg, hb, hrl, by omega, by omega, ⟨?_, hm.2, eq'⟩, ?_⟩
    · rw [e5, ← hd, List.drop_drop] at rt
      exact rt
    · rw [if_pos z]
      refine ⟨n.toNat, by rw [hn]; congr 1; omega, by rw [hd]; exact e4, by rw [e4, List.length_take]; omega, rfl⟩
  · rw [if_neg z] at q
    have h2 := C.eq
    rw [if_neg z] at h2
    refine ⟨ns[k], row, k + 1, cs', List.getElem?_eq_getElem hk, C.rg, hb, hrl, by omega, hk, ⟨?_, hm.2, eq'⟩, ?_⟩
    · rw [q] at rt; exact rt
    · rw [if_neg z]
      exact ⟨h2.2, rfl⟩
end Sm
namespace Sa
open PySem L2
def top (i : Nat) : Stmt := PySem.Challenge.pw_someall_s01_answers.main.body.getD i (.Pass ⟨0, 0, 0, 0⟩)
abbrev sWrong : Stmt := inClass (top 5) 0
abbrev sReader : Stmt := inClass (top 6) 0
abbrev sAtEnd : Stmt := inClass (top 6) 1
abbrev sComing : Stmt := inClass (top 6) 2
abbrev sOneOf : Stmt := inClass (top 6) 3
abbrev sNumber : Stmt := inClass (top 6) 4
abbrev sLiteral : Stmt := inClass (top 6) 5
abbrev sEnd : Stmt := inClass (top 6) 6
abbrev sSplit : Stmt := top 7
abbrev sUpTo : Stmt := top 8
abbrev sLitUp : Stmt := top 9
abbrev iL (w : List Int) : List V := w.map V.int
structure WordsAt (H : Hp) (l : Addr) (as : List Addr) (ws : List (List Int)) : Prop where
  hl : H l = some (.lst (as.map V.ref))
  pr : PySem.Paired (fun a w => H a = some (.lst (iL w))) as ws
structure TxtW (K : PySem.W.Frag) (mg : Str → Option Value) : Prop where
  gaps : ∃ g, mg "GAPS" = some (.ref g) ∧ ∀ H : Hp, SqT K H g [.int 32, .int 9, .int 10, .int 13]
  minus : ∃ t, mg "MINUS" = some (.int 45 t)
  zero : ∃ t, mg "DIGIT_ZERO" = some (.int 48 t)
  nine : ∃ t, mg "DIGIT_NINE" = some (.int 57 t)
  len : mg "len" = none
def optI : Option Nat → V
  | some n => .int n
  | none => .non
theorem pgI {X : Cx} {x : Str} {n : Int} {t : Tok} {pos : Pos} (hm : X.mg x = some (.int n t)) (hg : Gl X x := by rfl) (hd : (x == ("__debug__" : Str)) = false := by decide) : PE X (.Name x pos) (tC (.int n)) := pe_glob hg hm (v := .int n) ⟨_, rfl⟩ hd
def spUpTo (K : PySem.W.Frag) : Sp := fun vs H Q _ => ∃ (a : Addr) (w : List Int) (most : Nat), vs = [.ref a, .int most] ∧ SqL K H a (iL w) ∧ Sm.Byts w ∧ w.length ≤ 100000 ∧ most ≤ 1000000 ∧ Q (optI (Sm.upTo w most)) H
theorem ifB {b : Bool} {A B : Prop} (h1 : b = true → A) (h2 : b = false → B) : if b = true then A else B := by
  cases b with
  | true => rw [if_pos rfl]; exact h1 rfl
  | false => rw [if_neg Bool.false_ne_true]; exact h2 rfl
theorem ifD {c : Prop} [Decidable c] {A B : Prop} (h1 : c → A) (h2 : ¬ c → B) : if decide c = true then A else B := ifB (fun e => h1 (of_decide_eq_true e)) fun e => h2 (of_decide_eq_false e)
theorem int_eq {x y : Int} (h : V.int x = V.int y) : x = y := by cases h; rfl
theorem iL_get {w : List Int} {i : Nat} {y : V} (h : (iL w)[i]? = some y) : ∃ z, w[i]? = some z ∧ y = .int z := by
  rw [List.getElem?_map] at h
  cases e : w[i]? with
  | none => rw [e] at h; cases h
  | some z => rw [e] at h; exact ⟨z, rfl, (Option.some.inj h).symm⟩
theorem upTo_loop {K : PySem.W.Frag} {a : Addr} {w : List Int} {most : Nat} {H : Hp} {Q : VK} {D : Ends} (hS : SqL K H a (iL w)) (hB : Sm.Byts w) (hM : most ≤ 1000000) (hne : w ≠ []) (hl : ¬ (w.head? = some 48 ∧ 1 < w.length)) (hD : D.rt = Q)
    (k : Q (optI (Sm.upTo w most)) H) :
    tSeq (tAsg (tC (V.int 0)) (gName 2))
      (tSeq
        (tFor (iList K (tVar 0)) (gName 3)
          (tSeq
            (tIfS (tOr (tTest (tOp (rI0 fun i j => V.bl (decide (i < j))) (tVar 3) (tC (V.int 48)))) (tTest (tOp (rI0 fun i j => V.bl (decide (j < i))) (tVar 3) (tC (V.int 57))))) (tRet (tC V.non)) tNext)
            (tSeq
              (tAsg (tOp (rI0 fun i j => V.int (i - j)) (tOp (rI0 fun i j => V.int (i + j)) (tOp (rI CMul fun i j => V.int (i * j)) (tC (V.int 10)) (tVar 2)) (tVar 3)) (tC (V.int 48))) (gName 2))
              (tIfS (tTest (tOp (rI0 fun i j => V.bl (decide (j < i))) (tVar 2) (tVar 1))) (tRet (tC V.non)) tNext))))
        (tRet (tVar 2))) D [some (.ref a), some (.int most), none, none] H := by
  subst hD
  refine ⟨_, rfl, a, rfl, ⟨_, hS⟩, for_list (K := K) (a := a) (xs := iL w) (fun i σ H1 => ∃ v, σ = [some (.ref a), some (.int most), some (.int (Sm.worth 0 (w.take i) : Nat)), v] ∧ H1 = H ∧ (w.take i).all Sm.dig = true ∧ Sm.worth 0 (w.take i) ≤ most)
    ⟨none, rfl, rfl, rfl, Nat.zero_le _⟩ (fun i σ H1 _ ⟨_, _, e, _⟩ => by rw [e]; exact hS) ?_ ?_⟩
  · rintro i y σ H1 hi ⟨v, rfl, rfl, hd, hw⟩
    obtain ⟨z, hz, rfl⟩ := iL_get hi
    have hzb := hB z (List.mem_of_getElem? hz)
    have ht : w.take (i + 1) = w.take i ++ [z] := by rw [List.take_succ, hz]; rfl
    have hsplit : w = w.take i ++ z :: w.drop (i + 1) := by
      have := List.take_append_drop (i + 1) w
      rw [ht] at this
      rw [List.append_assoc] at this
      exact this.symm
    refine ⟨_, rfl, _, _, rfl, rfl, _, rfl, ifD (fun c1 => ?_) (fun c1 => ⟨_, rfl, _, _, rfl, rfl, _, rfl, ifD (fun c2 => ?_) fun c2 => ?_⟩)⟩
    · show D.rt .non H1
      rw [Sm.upTo_odd hB (by rw [hsplit, List.all_append, List.all_cons]; simp [Sm.dig]; omega)] at k
      exact k
    · show D.rt .non H1
      rw [Sm.upTo_odd hB (by rw [hsplit, List.all_append, List.all_cons]; simp [Sm.dig]; omega)] at k
      exact k
    · have e10 : (10 : Int) * (Sm.worth 0 (w.take i) : Nat) + z - 48 = (Sm.worth 0 (w.take (i + 1)) : Nat) := by
        rw [ht, Sm.worth_append]
        show _ = ((10 * Sm.worth 0 (w.take i) + (z.toNat - 48) : Nat) : Int)
        omega
      refine ⟨_, rfl, _, _, rfl, rfl, .inl ⟨by decide, by decide⟩, _, rfl, _, _, rfl, rfl, _, _, rfl, rfl, _, rfl, _, rfl, _, _, rfl, rfl, _, rfl, ifD (fun c3 => ?_) (fun c3 => ?_)⟩
      · show D.rt .non H1
        have c3' : (most : Int) < 10 * (Sm.worth 0 (w.take i) : Nat) + z - 48 := c3
        rw [e10] at c3'
        have hu := Sm.upTo_big (u := w.take (i + 1)) (v := w.drop (i + 1)) (most := most) (by rw [List.take_append_drop]; exact hB) (by omega)
        rw [List.take_append_drop] at hu
        rw [hu] at k
        exact k
      · have c3' : ¬ (most : Int) < 10 * (Sm.worth 0 (w.take i) : Nat) + z - 48 := c3
        rw [e10] at c3'
        refine ⟨some (.int z), ?_, rfl, ?_, by omega⟩
        · show [some (V.ref a), some (V.int most), some (V.int (10 * (Sm.worth 0 (w.take i) : Nat) + z - 48)), some (V.int z)] = _
          rw [e10]
        · rw [ht, List.all_append, hd]; simp [Sm.dig]; omega
  · rintro σ H1 ⟨v, rfl, rfl, hd, hw⟩
    have el : (iL w).length = w.length := by simp
    rw [el, List.take_length] at hd hw ⊢
    rw [Sm.upTo_some hB hne hl hd hw] at k
    exact ⟨_, rfl, k⟩
section
variable {P : Program} {w : World} {K : PySem.W.Frag} {mg : Str → Option Value} {base : Heap}
theorem scU : FnScope ["word", "most", "number", "byte"] ["word", "most"] (defScope sUpTo) := ⟨rfl, rfl, rfl, by decide +kernel, rfl, by decide +kernel, by decide +kernel⟩
theorem ok_upTo {f : Addr} {fd : FuncData} (F : Fun K "number_up_to" "number_up_to" sUpTo f fd) (T : TxtW K mg) : FnOk P w K mg base CX0 1 f fd ["word", "most"] (spUpTo K) := by
  obtain ⟨tz, hz⟩ := T.zero
  obtain ⟨tn, hn⟩ := T.nine
  refine F.ok scU (fun vs H Q E h => ?_) (fun cdv A outer s H vs Q E hr h => ?_)
  · obtain ⟨a, w, most, rfl, _⟩ := h
    rfl
  · obtain ⟨a, w, most, rfl, hS, hB, hL, hM, k⟩ := h
    refine ⟨_, pss_cons (ps_if (PW.pt (pw_or (pt_not (pt_truth (pv 0) (fun _ => rfl))) (pw_or1 (PW.pt (pw_and (pt_cmpR op_eq (pe_ix ix_list (pv 0) pe_int (fun _ _ => rfl)) (pgI hz) (nomark _))
        (pw_and1 (pt_cmpR op_gt (pe_callB call_len_seq (by rfl) T.len PySem.boot_len (pa_cons (pv 0) pa_nil)) pe_int (nomark _)))))))) (pss_one (ps_ret pe_non)) pss_nil)
      (pss_cons (ps_set (i := 2) scU.nd rfl (Or.inl rfl) pe_int)
      (pss_cons (ps_for PassesOwn.never rfl (pi_list (pv 0)) (pg_name (i := 3) scU.nd rfl (Or.inl rfl))
        (pss_cons (ps_if (PW.pt (pw_or (pt_cmpR op_lt (pv 3) (pgI hz) (nomark _)) (pw_or1 (pt_cmpR op_gt (pv 3) (pgI hn) (nomark _))))) (pss_one (ps_ret pe_non)) pss_nil)
        (pss_cons (ps_set (i := 2) scU.nd rfl (Or.inl rfl) (pe_op op_sub (pe_op op_add (pe_op op_mul pe_int (pv 2)) (pv 3)) (pgI hz)))
        (pss_one (ps_if (pt_cmpR op_gt (pv 2) (pv 1) (nomark _)) (pss_one (ps_ret pe_non)) pss_nil)))))
      (pss_one (ps_ret (pv 2))))), ?_⟩
    refine ⟨_, rfl, _, .inl ⟨_, hS, rfl⟩, ifB (fun e => ?_) (fun e => ?_)⟩
    · cases w with
      | nil => exact k
      | cons x r => cases e
    · cases w with
      | nil => cases e
      | cons x r =>
        refine ⟨_, rfl, a, _, _, _, rfl, rfl, hS, at_of (j := 0) rfl rfl, rfl, _, rfl, ifD (fun c1 => ⟨_, rfl, a, _, rfl, .inl hS, _, _, rfl, rfl, _, rfl, ifD (fun c2 => ?_) fun c2 => ?_⟩) fun c1 => ?_⟩
        · have := int_eq c1
          subst this
          have c2' : 1 < (48 :: r).length := by simp [iL] at c2 ⊢; omega
          rw [Sm.upTo_lead hB rfl c2'] at k
          exact k
        · exact upTo_loop hS hB hM (by simp) (fun z => c2 (by have := z.2; simp [iL] at this ⊢; omega)) rfl k
        · exact upTo_loop hS hB hM (by simp) (fun z => c1 (by have := z.1; simp at this; rw [this])) rfl k
end
abbrev pdI (w : List Int) : PyData := .list (w.map PyData.int)
theorem dpAll_int {K : PySem.W.Frag} {H : Hp} : ∀ w : List Int, DpAll K H (iL w) (w.map PyData.int)
  | [] => .nil
  | x :: r => .cons (.int x) (dpAll_int r)
theorem dp_int {K : PySem.W.Frag} {H : Hp} {a : Addr} {w : List Int} (h : SqL K H a (iL w)) : Dp K H (.ref a) (pdI w) := .lst h (dpAll_int w)
theorem can_int : ∀ w : List Int, PyData.canLayAll0 (w.map PyData.int) = true
  | [] => rfl
  | x :: r => by
    show (PyData.canLay0 (.int x) && PyData.canLayAll0 (r.map PyData.int)) = true
    rw [can_int r]; rfl
theorem dep_int : ∀ w : List Int, PyData.depthAll (w.map PyData.int) = 0
  | [] => rfl
  | x :: r => by
    show max (PyData.depth (.int x)) (PyData.depthAll (r.map PyData.int)) = 0
    rw [dep_int r]; rfl
theorem shaped_int (w : List Int) : PySem.SeqAt.shaped (pdI w) = true := by
  show (PyData.canLayAll0 (w.map PyData.int) && decide (PyData.depthAll (w.map PyData.int) + 1 ≤ 64)) = true
  rw [can_int, dep_int]; rfl
theorem eqvAll_int : ∀ u v : List Int, PyData.eqvAll (u.map PyData.int) (v.map PyData.int) = decide (u = v)
  | [], [] => rfl
  | [], _ :: _ => rfl
  | _ :: _, [] => rfl
  | x :: u, y :: v => by
    show (PyData.eqv (.int x) (.int y) && PyData.eqvAll (u.map PyData.int) (v.map PyData.int)) = _
    rw [eqvAll_int u v]
    show ((x == y) && decide (u = v)) = _
    rw [Bool.eq_iff_iff]
    simp
theorem eqv_int (u v : List Int) : PyData.eqv (pdI u) (pdI v) = decide (u = v) := eqvAll_int u v
theorem cut_take (w : List Int) (n : Nat) : cutV (iL w) none (some (n : Int)) = iL (w.take n) := by
  unfold cutV
  rw [HT.sIx_none, HT.sIx_nat, List.drop_zero, Nat.sub_zero, iL, ← List.map_take, List.length_map]
  congr 1
  rw [List.take_eq_take_iff]; omega
theorem cut_drop (w : List Int) (n : Nat) : cutV (iL w) (some (n : Int)) none = iL (w.drop n) := by
  unfold cutV
  rw [HT.sIx_none, HT.sIx_nat, iL, ← List.map_drop, ← List.map_take, List.length_map]
  congr 1
  rw [List.take_of_length_le (by rw [List.length_drop]; omega)]
  by_cases h : n ≤ w.length
  · rw [Nat.min_eq_left h]
  · rw [Nat.min_eq_right (by omega), List.drop_of_length_le (Nat.le_refl _), List.drop_of_length_le (by omega)]
theorem cut_take1 (w : List Int) : cutV (iL w) none (some (1 : Int)) = iL (w.take 1) := cut_take w 1
theorem cut_drop1 (w : List Int) : cutV (iL w) (some (1 : Int)) none = iL (w.drop 1) := cut_drop w 1
def optZ : Option Int → V
  | some n => .int n
  | none => .non
def spLit (K : PySem.W.Frag) : Sp := fun vs H Q _ => ∃ (a : Addr) (w : List Int) (most : Nat), vs = [.ref a, .int most] ∧ SqL K H a (iL w) ∧ Sm.Byts w ∧ w.length ≤ 100000 ∧ most ≤ 1000000 ∧ ∀ H', Same H H' → Q (optZ (Sm.litUp w most)) H'
theorem Same.upd {H : Hp} {p : Addr} {o : HO} (h : H p = none) : Same H (upd H p o) := fun b u e => by rw [upd_ne (ne_of_none e h)]; exact e
section
variable {P : Program} {w : World} {K : PySem.W.Frag} {mg : Str → Option Value} {base : Heap}
theorem scLi : FnScope ["word", "most", "variable"] ["word", "most"] (defScope sLitUp) := ⟨rfl, rfl, rfl, by decide +kernel, rfl, by decide +kernel, by decide +kernel⟩
theorem ok_lit {f fU : Addr} {fd fdU : FuncData} (F : Fun K "literal_up_to" "literal_up_to" sLitUp f fd) (T : TxtW K mg) (FU : Fun K "number_up_to" "number_up_to" sUpTo fU fdU) (bU : Binds K fdU ["word", "most"] []) (mU : mg "number_up_to" = some (.ref fU)) :
    FnOk P w K mg base CX0 2 f fd ["word", "most"] (spLit K) := by
  have GU : FnOk P w K mg base CX0 1 fU fdU ["word", "most"] (spUpTo K) := ok_upTo FU T
  obtain ⟨tm, hm⟩ := T.minus
  refine F.ok scLi (fun vs H Q E h => ?_) (fun cdv A outer s H vs Q E hr h => ?_)
  · obtain ⟨a, w, most, rfl, _⟩ := h
    rfl
  · obtain ⟨a, w, most, rfl, hS, hB, hL, hM, k⟩ := h
    have hu := hr.units
    refine ⟨_, pss_cons (ps_if (pt_cmpR (op_neD hu) (pe_slice sl_list (pv 0) po_none (po_some pe_int)) (pe_lst (pa_cons (pgI hm) pa_nil)) (nomark _))
        (pss_one (ps_ret (pe_call GU hr rfl mU FU.kp bU .nil pass0 (pa_cons (pv 0) (pa_cons (pv 1) pa_nil))))) pss_nil)
      (pss_cons (ps_set (i := 2) scLi.nd rfl (Or.inl rfl) (pe_call GU hr rfl mU FU.kp bU .nil pass0 (pa_cons (pe_slice sl_list (pv 0) (po_some pe_int) po_none) (pa_cons (pv 1) pa_nil))))
      (pss_cons (ps_if (PW.pt (pw_or (pt_cmpR op_isN (pv 2) pe_non (nomark _)) (pw_or1 (pt_cmpR op_eq (pv 2) pe_int (nomark _))))) (pss_one (ps_ret pe_non)) pss_nil)
      (pss_one (ps_ret (pe_un un_neg (pv 2)))))), ?_⟩
    refine ⟨_, rfl, 1, rfl, a, _, rfl, hS, ?_⟩
    rw [cut_take1]
    refine fun p hp => ⟨by show 1 ≤ sizeLine; decide, fun q hq => ?_⟩
    have s1 : Same H (upd H p (.lst (iL (w.take 1)))) := Same.upd hp
    have s2 : Same H (upd (upd H p (.lst (iL (w.take 1)))) q (.lst [.int 45])) := s1.trans (Same.upd hq)
    have npq : p ≠ q := ne_of_none upd_same hq
    refine ⟨pdI (w.take 1), pdI [45], dp_int (SqL.of (by rw [upd_ne npq, upd_same])), dp_int (SqL.of upd_same), shaped_int _, shaped_int _, _, rfl, ?_⟩
    rw [eqv_int]
    refine ifB (fun e => ?_) (fun e => ?_)
    · have e' : w.take 1 ≠ [45] := by simpa using e
      refine ⟨_, rfl, _, rfl, a, w, most, rfl, s2.seq hS, hB, hL, hM, ?_⟩
      have hk := k _ s2
      unfold Sm.litUp at hk
      rw [if_neg e'] at hk
      revert hk
      cases Sm.upTo w most <;> exact id
    · have e' : w.take 1 = [45] := by simpa using e
      have hk := fun H' hs => k H' hs
      unfold Sm.litUp at hk
      rw [if_pos e'] at hk
      refine ⟨_, rfl, 1, rfl, a, _, rfl, s2.seq hS, ?_⟩
      rw [cut_drop1]
      intro r hr'
      have s3 := s2.trans (Same.upd (o := .lst (iL (w.drop 1))) hr')
      refine ⟨_, rfl, r, w.drop 1, most, rfl, SqL.of upd_same, fun x hx => hB x (List.mem_of_mem_drop hx), by rw [List.length_drop]; omega, hM, ?_⟩
      cases eu : Sm.upTo (w.drop 1) most with
      | none =>
        have hk := hk _ s3
        rw [eu] at hk
        exact ⟨_, rfl, rfl, _, rfl, iteT hk⟩
      | some n =>
        refine ⟨_, rfl, rfl, _, rfl, iteF ⟨_, rfl, rfl, _, rfl, ifD (fun c => ?_) fun c => ?_⟩⟩
        · have c' := int_eq c
          have hk := hk _ s3
          rw [eu] at hk
          have : n = 0 := by omega
          subst this
          exact hk
        · have c' : n ≠ 0 := fun z => c (by rw [z]; rfl)
          have hk := hk _ s3
          rw [eu] at hk
          dsimp only at hk
          rw [if_neg c'] at hk
          exact ⟨_, rfl, _, rfl, hk⟩
end
theorem inV_gap (b : Int) : inV (.int b) [.int 32, .int 9, .int 10, .int 13] = Sm.gap b := by
  show (eqV (.int 32) (.int b) || (eqV (.int 9) (.int b) || (eqV (.int 10) (.int b) || (eqV (.int 13) (.int b) || false)))) = _
  have e : ∀ i : Int, eqV (.int i) (.int b) = (b == i) := fun i => by
    show (i == b) = (b == i)
    rw [Bool.eq_iff_iff, beq_iff_eq, beq_iff_eq]; exact eq_comm
  rw [e, e, e, e, Bool.or_false]; rfl
theorem paired_upd {H : Hp} {b : Addr} {o : HO} : ∀ {as : List Addr} {ws : List (List Int)}, Paired (fun a w => H a = some (.lst (iL w))) as ws → b ∉ as → Paired (fun a w => upd H b o a = some (.lst (iL w))) as ws
  | _, _, .nil, _ => .nil
  | _, _, .cons r t, h => .cons (by rw [upd_ne (fun z => h (by rw [z]; simp))]; exact r) (paired_upd t fun m => h (by simp [m]))
theorem paired_snoc {H : Hp} {b : Addr} {w : List Int} (e : H b = some (.lst (iL w))) : ∀ {as : List Addr} {ws : List (List Int)}, Paired (fun a w => H a = some (.lst (iL w))) as ws → Paired (fun a w => H a = some (.lst (iL w))) (as ++ [b]) (ws ++ [w])
  | _, _, .nil => .cons e .nil
  | _, _, .cons r t => .cons r (paired_snoc e t)
theorem paired_mem {H : Hp} : ∀ {as : List Addr} {ws : List (List Int)}, Paired (fun a w => H a = some (.lst (iL w))) as ws → ∀ a ∈ as, H a ≠ none
  | _, _, .nil, a, h => by cases h
  | _, _, .cons r t, a, h => by
    rcases List.mem_cons.mp h with rfl | h
    · rw [r]; simp
    · exact paired_mem t a h
def spSplit (K : PySem.W.Frag) : Sp := fun vs H Q _ => ∃ (a : Addr) (t : List Int), vs = [.ref a] ∧ SqL K H a (iL t) ∧ t.length ≤ 100000 ∧ ∀ (l : Addr) (as : List Addr) (H' : Hp), WordsAt H' l as (Sm.wordsOf t) → Same H H' → H l = none → (∀ a ∈ as, H a = none) → Q (.ref l) H'
structure SplitSt (H H1 : Hp) (l b : Addr) (t : List Int) (i : Nat) : Prop where
  ex : ∃ (as : List Addr) (ws : List (List Int)) (cur : List Int), (t.take i).foldl Sm.swStep ([], []) = (ws, cur) ∧ H1 l = some (.lst (as.map V.ref)) ∧ Paired (fun a w => H1 a = some (.lst (iL w))) as ws ∧ H1 b = some (.lst (iL cur)) ∧ b ∉ as ∧ l ∉ as ∧ as.length ≤ i ∧ cur.length ≤ i ∧ ∀ a ∈ as, H a = none
  nlb : l ≠ b
  nl : H l = none
  nb : H b = none
  sm : Same H H1
section
variable {P : Program} {w : World} {K : PySem.W.Frag} {mg : Str → Option Value} {base : Heap}
theorem scSp : FnScope ["text", "words", "word", "byte"] ["text"] (defScope sSplit) := ⟨rfl, rfl, rfl, by decide +kernel, rfl, by decide +kernel, by decide +kernel⟩
theorem ok_split {f : Addr} {fd : FuncData} (F : Fun K "split_words" "split_words" sSplit f fd) (T : TxtW K mg) : FnOk P w K mg base CX0 1 f fd ["text"] (spSplit K) := by
  obtain ⟨g, hg, hG⟩ := T.gaps
  refine F.ok scSp (fun vs H Q E h => ?_) (fun cdv A outer s H vs Q E hr h => ?_)
  · obtain ⟨a, t, rfl, _⟩ := h
    rfl
  · obtain ⟨a, t, rfl, hS, hL, k⟩ := h
    refine ⟨_, pss_cons (ps_set (i := 1) scSp.nd rfl (Or.inl rfl) (pe_lst pa_nil))
      (pss_cons (ps_set (i := 2) scSp.nd rfl (Or.inl rfl) (pe_lst pa_nil))
      (pss_cons (ps_for PassesOwn.never rfl (pi_list (pv 0)) (pg_name (i := 3) scSp.nd rfl (Or.inl rfl))
        (pss_one (ps_if (pt_cmpR op_notIn_seq (pv 3) (pe_glob (v := .ref g) rfl hg rfl) (by with_unfolding_all rfl))
          (pss_one (ps_expr (pe_bm PySem.F.plainAttrs_list PySem.F.slot_list_append PySem.F.type_list_append mt_append (pv 2) (pa_cons (pv 3) pa_nil))))
          (pss_one (ps_if (pt_truth (pv 2) (fun _ => rfl))
            (pss_cons (ps_expr (pe_bm PySem.F.plainAttrs_list PySem.F.slot_list_append PySem.F.type_list_append mt_append (pv 1) (pa_cons (pv 2) pa_nil)))
            (pss_one (ps_set (i := 2) scSp.nd rfl (Or.inl rfl) (pe_lst pa_nil)))) pss_nil)))))
      (pss_cons (ps_if (pt_truth (pv 2) (fun _ => rfl)) (pss_one (ps_expr (pe_bm PySem.F.plainAttrs_list PySem.F.slot_list_append PySem.F.type_list_append mt_append (pv 1) (pa_cons (pv 2) pa_nil)))) pss_nil)
      (pss_one (ps_ret (pv 1)))))), ?_⟩
    have z0 : (0 : Nat) ≤ sizeLine := Nat.zero_le _
    refine ⟨z0, fun l hl => ⟨z0, fun b hb => ?_⟩⟩
    have s0 : Same H (upd (upd H l (.lst [])) b (.lst [])) := (Same.upd hl).trans (Same.upd hb)
    have nlb : l ≠ b := ne_of_none upd_same hb
    have hb0 : H b = none := by rw [upd_ne nlb.symm] at hb; exact hb
    refine ⟨_, rfl, a, rfl, ⟨_, s0.seq hS⟩, for_list (K := K) (a := a) (xs := iL t) (fun i σ H1 => ∃ (b : Addr) (v : Option V), σ = [some (.ref a), some (.ref l), some (.ref b), v] ∧ SplitSt H H1 l b t i)
      ⟨b, none, rfl, ⟨[], [], [], rfl, by rw [upd_ne nlb, upd_same]; rfl, .nil, upd_same, by simp, by simp, Nat.le_refl _, Nat.le_refl _, by simp⟩, nlb, hl, hb0, s0⟩ (fun i σ H1 _ ⟨_, _, _, z⟩ => z.sm.seq hS) ?_ ?_⟩
    · rintro i y σ H1 hi ⟨b, v, rfl, ⟨as, ws, cur, hf, h1, h2, h3, h4, h5, h6, h7, h8⟩, n1, n2, n3, sm⟩
      obtain ⟨z, hz, rfl⟩ := iL_get hi
      have hi' : i < t.length := (List.getElem?_eq_some_iff.mp hz).1
      have ht : (t.take (i + 1)).foldl Sm.swStep ([], []) = Sm.swStep (ws, cur) z := by
        rw [List.take_succ, hz, List.foldl_append, hf]; rfl
      have sz : sizeLine = 16777216 := sizeLine_eq
      refine ⟨_, rfl, g, _, rfl, .inr (hG _), rfl, rfl, _, rfl, ?_⟩
      rw [show (if true = true then !inV (V.int z) [V.int 32, V.int 9, V.int 10, V.int 13] else inV (V.int z) [V.int 32, V.int 9, V.int 10, V.int 13]) = !Sm.gap z by rw [if_pos rfl, inV_gap]]
      refine ifB (fun e => ?_) (fun e => ?_)
      · have e' : Sm.gap z = false := by simpa using e
        rw [Sm.sw_in e'] at ht
        refine ⟨_, rfl, .inl ⟨rfl, _, SqL.of h3⟩, _, rfl, b, _, _, rfl, rfl, h3, by simp [iL]; omega, ?_⟩
        refine ⟨b, _, rfl, ⟨as, ws, cur ++ [z], ht, by rw [upd_ne n1]; exact h1, paired_upd h2 h4, by rw [upd_same]; simp [iL], h4, h5, by omega, by simp; omega, h8⟩, n1, n2, n3, fun c o q => ?_⟩
        rw [upd_ne (ne_of_none q n3)]; exact sm c o q
      · have e' : Sm.gap z = true := by simpa using e
        refine ⟨_, rfl, _, .inl ⟨_, SqL.of h3, rfl⟩, ifB (fun c => ?_) (fun c => ?_)⟩
        · have c' : cur ≠ [] := by intro q; subst q; cases c
          rw [Sm.sw_gap1 e' c'] at ht
          refine ⟨_, rfl, .inl ⟨rfl, _, SqL.of h1⟩, _, rfl, l, _, _, rfl, rfl, h1, by simp; omega, ?_⟩
          refine ⟨z0, fun p hp => ?_⟩
          have hpl : l ≠ p := ne_of_none upd_same hp
          have hpb : b ≠ p := ne_of_none (by rw [upd_ne n1.symm]; exact h3) hp
          have sm2 : Same H (upd H1 l (.lst (as.map V.ref ++ [V.ref b]))) := fun c o q => by rw [upd_ne (ne_of_none q n2)]; exact sm c o q
          have q2 : Paired (fun a w => upd H1 l (.lst (as.map V.ref ++ [V.ref b])) a = some (.lst (iL w))) (as ++ [b]) (ws ++ [cur]) := paired_snoc (by rw [upd_ne n1.symm]; exact h3) (paired_upd h2 h5)
          have npas : p ∉ as ++ [b] := fun m => paired_mem q2 p m hp
          have hp0 : H p = none := sm2.free hp
          refine ⟨p, _, rfl, ⟨as ++ [b], ws ++ [cur], [], ht, ?_, paired_upd q2 npas, upd_same, npas, ?_, by simp; omega, Nat.zero_le _, fun a m => ?_⟩, hpl, n2, hp0, sm2.trans (Same.upd hp)⟩
          · rw [upd_ne hpl, upd_same]; simp
          · intro m
            rcases List.mem_append.mp m with q | q
            · exact h5 q
            · simp at q; exact n1 q
          · rcases List.mem_append.mp m with q | q
            · exact h8 a q
            · simp at q; subst q; exact n3
        · have c' : cur = [] := by
            cases cur with
            | nil => rfl
            | cons x r => cases c
          subst c'
          rw [Sm.sw_gap0 e'] at ht
          exact ⟨b, _, rfl, ⟨as, ws, [], ht, h1, h2, h3, h4, h5, by omega, Nat.zero_le _, h8⟩, n1, n2, n3, sm⟩
    · rintro σ H1 ⟨b, v, rfl, ⟨as, ws, cur, hf, h1, h2, h3, h4, h5, h6, h7, h8⟩, n1, n2, n3, sm⟩
      have el : (iL t).length = t.length := by simp
      rw [el, List.take_length] at hf
      rw [el] at h6 h7
      have sz : sizeLine = 16777216 := sizeLine_eq
      refine ⟨_, rfl, _, .inl ⟨_, SqL.of h3, rfl⟩, ifB (fun c => ?_) (fun c => ?_)⟩
      · have c' : cur ≠ [] := by intro q; subst q; cases c
        refine ⟨_, rfl, .inl ⟨rfl, _, SqL.of h1⟩, _, rfl, l, _, _, rfl, rfl, h1, by simp; omega, ?_⟩
        refine ⟨_, rfl, k l (as ++ [b]) _ ⟨by rw [upd_same]; simp, ?_⟩ (fun c o q => by rw [upd_ne (ne_of_none q n2)]; exact sm c o q) n2 fun a m => ?_⟩
        rotate_left
        · rcases List.mem_append.mp m with q | q
          · exact h8 a q
          · simp at q; subst q; exact n3
        have : Sm.wordsOf t = ws ++ [cur] := by
          unfold Sm.wordsOf
          rw [hf]; unfold Sm.swEnd; rw [if_neg c']
        rw [this]
        exact paired_snoc (by rw [upd_ne n1.symm]; exact h3) (paired_upd h2 h5)
      · have c' : cur = [] := by
          cases cur with
          | nil => rfl
          | cons x r => cases c
        have : Sm.wordsOf t = ws := by
          unfold Sm.wordsOf
          rw [hf]; unfold Sm.swEnd; rw [if_pos c']
        exact ⟨_, rfl, k l as _ ⟨h1, by rw [this]; exact h2⟩ sm n2 h8⟩
end
section
variable {P : Program} {w : World} {K : PySem.W.Frag} {mg : Str → Option Value} {base : Heap}
theorem _root_.L2.Fun.okX {x qual : Str} {st : Stmt} {f : Addr} {fd : FuncData} {N ps : List Str} {k : Nat} {sp : Sp} (F : Fun K x qual st f fd) (S : FnScope N ps (defScope st)) (len : ∀ vs H Q E, sp vs H Q E → vs.length = ps.length)
    (hbody : ∀ (cdv : Value) (A : Around) (outer : List Env) (s : Shared) (H : Hp) (vs : List V) (Q : VK) (E : XK), Room k (A.deeper (PyProof.Rows.envOfC qual (defScope st) s.heap.objs.size f cdv)) → sp vs H Q E →
      ∃ t, PSs (cxOf (CXx P w) P w K mg base N qual (defScope st) f cdv A outer s H E) (defBody st) t ∧ t { nx := fun _ H' => Q .non H', rt := Q } (start N vs) H) : FnOk P w K mg base (CXx P w) (k + 1) f fd ps sp := by
  obtain ⟨oc, od, kV, doc, pm, an, cdv, ct, osl, rfl, lk, hcd⟩ := F.ex
  exact fn_of lk hcd S len fun A outer s H vs Q E hr hsp => hbody cdv A outer s H vs Q E hr hsp
theorem scWr : FnScope ["self", "number"] ["self", "number"] (defScope sWrong) := ⟨rfl, rfl, rfl, by decide +kernel, rfl, by decide +kernel, by decide +kernel⟩
theorem ok_wrong {f CW : Addr} {fd : FuncData} (F : Fun K "__init__" "WrongWord.__init__" sWrong f fd) (XC : XCls K CW f "number") (hv : mg "ValueError" = none) : FnOk P w K mg base CX0 1 f fd ["self", "number"] (spX CW "number") := by
  refine F.ok scWr (fun vs H Q E h => ?_) (fun cdv A outer s H vs Q E hr h => ?_)
  · obtain ⟨e, n, rfl, _⟩ := h
    rfl
  · obtain ⟨e, n, rfl, n0, n1, he, k⟩ := h
    refine ⟨_, pss_cons (ps_expr (pe_binit XC rfl hv (pa_cons (pv 0) (pa_cons (pe_fstr (pv 1) (by decide +kernel) (by decide +kernel)) pa_nil)))) (pss_one (ps_fldX XC (pv 0) (pv 1) rfl)), ?_⟩
    refine ⟨_, rfl, _, rfl, n, rfl, n0, n1, fun z => ⟨e, z, none, rfl, he, _, rfl, _, rfl, e, rfl, he, fun dx hdx => ?_⟩⟩
    have ne : dx ≠ e := fun q => by rw [q, he] at hdx; cases hdx
    refine k dx _ hdx upd_same (by rw [upd_ne ne, upd_same]) fun b o q hb => ?_
    rw [upd_ne hb, upd_ne (ne_of_none q hdx)]; exact q
end
def Off (xs : List Addr) (H H' : Hp) : Prop := ∀ b o, H b = some o → b ∉ xs → H' b = some o
theorem Off.of {xs : List Addr} {H H' : Hp} (s : Same H H') : Off xs H H' := fun b o e _ => s b o e
theorem Off.trans {xs : List Addr} {H H1 H2 : Hp} (a : Off xs H H1) (b : Off xs H1 H2) : Off xs H H2 := fun c o e n => b c o (a c o e n) n
theorem Off.mono {xs ys : List Addr} {H H1 : Hp} (a : Off xs H H1) (h : ∀ b ∈ xs, b ∈ ys) : Off ys H H1 := fun c o e n => a c o e fun m => n (h c m)
theorem Off.upd {H : Hp} {p : Addr} {o : HO} : Off [p] H (upd H p o) := fun b u e n => by rw [upd_ne (fun z => n (by simp [z]))]; exact e
theorem Off.seqT {xs : List Addr} {K : PySem.W.Frag} {H H' : Hp} {a : Addr} {ys : List V} (e : Off xs H H') (n : ∀ o, H a = some o → a ∉ xs) (h : SqT K H a ys) : SqT K H' a ys := by
  rcases h with (h | ⟨o, h⟩) | h
  · exact .inl (.inl (e _ _ h (n _ h)))
  · exact .inl (.inr ⟨o, e _ _ h (n _ h)⟩)
  · exact .inr h
def rdF (l : Addr) (k : Nat) : List (Str × V) := putF "taken" (.int k) (putF "words" (.ref l) [])
theorem wt : ¬ (("words" : Str) = "taken") := by decide +kernel
theorem rdF_eq (l : Addr) (k : Nat) : rdF l k = ([("words", V.ref l), ("taken", V.int k)] : List (Str × V)) := by
  show (if ("words" : Str) = "taken" then [(("words" : Str), V.int k)] else (("words" : Str), V.ref l) :: putF "taken" (V.int k) []) = _
  rw [if_neg wt]; rfl
theorem rdF_words (l : Addr) (k : Nat) : (rdF l k).lookup ("words" : Str) = some (.ref l) := by
  unfold rdF; rw [lookup_putF, if_neg wt, lookup_putF, if_pos rfl]
theorem rdF_taken (l : Addr) (k : Nat) : (rdF l k).lookup ("taken" : Str) = some (.int k) := by
  unfold rdF; rw [lookup_putF, if_pos rfl]
theorem rdF_no (l : Addr) (k : Nat) {m : Str} (h1 : ¬ m = "taken") (h2 : ¬ m = "words") : (rdF l k).lookup m = none := by
  unfold rdF; rw [lookup_putF, if_neg h1, lookup_putF, if_neg h2]; rfl
theorem rdF_put (l : Addr) (k y : Nat) : putF "taken" (.int y) (rdF l k) = rdF l y := by
  rw [rdF_eq, rdF_eq]
  show (if ("words" : Str) = "taken" then _ else (("words" : Str), V.ref l) :: (if ("taken" : Str) = "taken" then [(("taken" : Str), V.int y)] else _)) = _
  rw [if_neg wt, if_pos rfl]
theorem rdF_len (l : Addr) (k : Nat) : (rdF l k).length < 1000 := by rw [rdF_eq]; show 2 < 1000; decide
structure ReaderAt (CR : Addr) (H : Hp) (p l : Addr) (as : List Addr) (ws : List (List Int)) (k : Nat) : Prop where
  ob : ∃ dx, H p = some (.ins CR dx (rdF l k))
  wd : WordsAt H l as ws
theorem WordsAt.off {xs : List Addr} {H H' : Hp} {l : Addr} {as : List Addr} {ws : List (List Int)} (h : WordsAt H l as ws) (e : Off xs H H') (n : ∀ b ys, H b = some (.lst ys) → b ∉ xs) : WordsAt H' l as ws := by
  obtain ⟨h1, h2⟩ := h
  exact ⟨e _ _ h1 (n _ _ h1), Paired.mapP h2 fun a w q => e _ _ q (n _ _ q)⟩
theorem ins_not {H : Hp} {p C dx : Addr} {fs : List (Str × V)} (h : H p = some (.ins C dx fs)) : ∀ b ys, H b = some (.lst ys) → b ∉ [p] := fun b ys e m => by
  simp at m; subst m; rw [h] at e; cases e
theorem WordsAt.get {H : Hp} {l : Addr} {as : List Addr} {ws : List (List Int)} (h : WordsAt H l as ws) : H l = some (.lst (as.map V.ref)) ∧ as.length = ws.length ∧ ∀ (k : Nat) w, ws[k]? = some w → ∃ a, as[k]? = some a ∧ H a = some (.lst (iL w)) := by
  obtain ⟨h1, h2⟩ := h
  refine ⟨h1, h2.length, ?_⟩
  clear h1
  induction h2 with
  | nil => intro k w e; simp at e
  | cons r t ih =>
    intro k w e
    cases k with
    | zero => simp at e; subst e; exact ⟨_, rfl, r⟩
    | succ k => exact ih k w (by simpa using e)
abbrev wAt (ws : List (List Int)) (k : Nat) : List Int := ws.getD k []
def DefOf (K : PySem.W.Frag) (mg : Str → Option Value) (name : Str) (st : Stmt) (ps : List Str) : Prop := ∃ f fd, Fun K name name st f fd ∧ Binds K fd ps [] ∧ mg name = some (.ref f)
def MethOf (K : PySem.W.Frag) (C : Addr) (name qual : Str) (st : Stmt) (ps : List Str) : Prop := ∃ f fd, Fun K name qual st f fd ∧ Binds K fd ps [] ∧ Meth K C name f
structure TxtR (K : PySem.W.Frag) (mg : Str → Option Value) (CW fW CR : Addr) (fdW : FuncData) : Prop where
  tw : TxtW K mg
  xc : XCls K CW fW "number"
  fw : Fun K "__init__" "WrongWord.__init__" sWrong fW fdW
  bw : Binds K fdW ["self", "number"] []
  mw : mg "WrongWord" = some (.ref CW)
  ve : mg "ValueError" = none
  cl : Cls K CR
  nw : NoAttr K CR "words"
  nt : NoAttr K CR "taken"
  mr : mg "Reader" = some (.ref CR)
  od : mg "ord" = none
  ae : MethOf K CR "is_at_end" "Reader.is_at_end" sAtEnd ["self"]
def spRd (K : PySem.W.Frag) (CR : Addr) : Sp := fun vs H Q _ => ∃ (p dx a : Addr) (t : List Int), vs = [.ref p, .ref a] ∧ H p = some (.ins CR dx []) ∧ SqL K H a (iL t) ∧ t.length ≤ 100000 ∧
  ∀ (l : Addr) (as : List Addr) (H' : Hp), ReaderAt CR H' p l as (Sm.wordsOf t) 0 → Off [p] H H' → H l = none → (∀ a ∈ as, H a = none) → Q .non H'
def spAtEnd (CR : Addr) : Sp := fun vs H Q _ => ∃ (p l : Addr) (as : List Addr) (ws : List (List Int)) (k : Nat), vs = [.ref p] ∧ ReaderAt CR H p l as ws k ∧ k ≤ ws.length ∧ Q (.bl (decide (k = ws.length))) H
def spComing (CR : Addr) : Sp := fun vs H Q _ => ∃ (p l : Addr) (as : List Addr) (ws : List (List Int)) (k : Nat), vs = [.ref p] ∧ ReaderAt CR H p l as ws k ∧ k ≤ ws.length ∧
  ∀ (q : Addr) (H' : Hp), Same H H' → H' q = some (.lst (iL (wAt ws k))) → Q (.ref q) H'
section
variable {P : Program} {w : World} {K : PySem.W.Frag} {mg : Str → Option Value} {base : Heap}
theorem scRd : FnScope ["self", "text"] ["self", "text"] (defScope sReader) := ⟨rfl, rfl, rfl, by decide +kernel, rfl, by decide +kernel, by decide +kernel⟩
theorem ok_reader {f fS CW fW CR : Addr} {fd fdS fdW : FuncData} (F : Fun K "__init__" "Reader.__init__" sReader f fd) (T : TxtR K mg CW fW CR fdW) (FS : Fun K "split_words" "split_words" sSplit fS fdS) (bS : Binds K fdS ["text"] []) (mS : mg "split_words" = some (.ref fS)) :
    FnOk P w K mg base CX0 2 f fd ["self", "text"] (spRd K CR) := by
  have GS : FnOk P w K mg base CX0 1 fS fdS ["text"] (spSplit K) := ok_split FS T.tw
  refine F.ok scRd (fun vs H Q E h => ?_) (fun cdv A outer s H vs Q E hr h => ?_)
  · obtain ⟨p, dx, a, t, rfl, _⟩ := h
    rfl
  · obtain ⟨p, dx, a, t, rfl, hp, hS, hL, k⟩ := h
    refine ⟨_, pss_cons (ps_fld (pv 0) (pe_call GS hr rfl mS FS.kp bS .nil pass0 (pa_cons (pv 1) pa_nil)) rfl) (pss_one (ps_fld (pv 0) pe_int rfl)), ?_⟩
    refine ⟨_, rfl, a, t, rfl, hS, hL, fun l as H' wd sm hl has => ?_⟩
    have hp' := sm _ _ hp
    refine ⟨_, rfl, p, CR, dx, _, rfl, hp', T.cl, T.nw, (by show 0 < 1000; decide), _, rfl, p, CR, dx, _, rfl, upd_same, T.cl, T.nt, (by show 1 < 1000; decide), ?_⟩
    have o1 : Off [p] H' (upd (upd H' p (.ins CR dx (putF "words" (.ref l) []))) p (.ins CR dx (putF "taken" (.int 0) (putF "words" (.ref l) [])))) := Off.upd.trans Off.upd
    exact k l as _ ⟨⟨dx, upd_same⟩, wd.off o1 (ins_not hp')⟩ ((Off.of sm).trans o1) hl has
theorem scAt : FnScope ["self"] ["self"] (defScope sAtEnd) := ⟨rfl, rfl, rfl, by decide +kernel, rfl, by decide +kernel, by decide +kernel⟩
theorem ok_atEnd {f CW fW CR : Addr} {fd fdW : FuncData} (F : Fun K "is_at_end" "Reader.is_at_end" sAtEnd f fd) (T : TxtR K mg CW fW CR fdW) : FnOk P w K mg base CX0 1 f fd ["self"] (spAtEnd CR) := by
  refine F.ok scAt (fun vs H Q E h => ?_) (fun cdv A outer s H vs Q E hr h => ?_)
  · obtain ⟨p, l, as, ws, k, rfl, _⟩ := h
    rfl
  · obtain ⟨p, l, as, ws, k, rfl, ⟨⟨dx, hp⟩, wd⟩, hk, kk⟩ := h
    obtain ⟨h1, h2, h3⟩ := wd.get
    refine ⟨_, pss_one (ps_ret (pe_cmpR op_eq (pe_fld (pv 0) rfl) (pe_callB call_len_seq (by rfl) T.tw.len PySem.boot_len (pa_cons (pe_fld (pv 0) rfl) pa_nil)) (nomark _))), ?_⟩
    refine ⟨_, rfl, p, CR, dx, _, _, rfl, hp, T.cl, T.nt, rdF_taken _ _, _, rfl, p, CR, dx, _, _, rfl, hp, T.cl, T.nw, rdF_words _ _, l, _, rfl, .inl (SqL.of h1), rfl, ?_⟩
    have : decide (V.int (k : Int) = V.int ((as.map V.ref).length : Nat)) = decide (k = ws.length) := by
      rw [decide_eq_decide, List.length_map, h2]
      constructor
      · intro e; have := int_eq e; omega
      · rintro rfl; rfl
    rw [this]
    exact kk
theorem scCo : FnScope ["self"] ["self"] (defScope sComing) := ⟨rfl, rfl, rfl, by decide +kernel, rfl, by decide +kernel, by decide +kernel⟩
theorem ok_coming {f CW fW CR : Addr} {fd fdW : FuncData} (F : Fun K "coming" "Reader.coming" sComing f fd) (T : TxtR K mg CW fW CR fdW) : FnOk P w K mg base CX0 2 f fd ["self"] (spComing CR) := by
  obtain ⟨fA, fdA, FA, bA, mA⟩ := T.ae
  have GA : FnOk P w K mg base CX0 1 fA fdA ["self"] (spAtEnd CR) := ok_atEnd FA T
  refine F.ok scCo (fun vs H Q E h => ?_) (fun cdv A outer s H vs Q E hr h => ?_)
  · obtain ⟨p, l, as, ws, k, rfl, _⟩ := h
    rfl
  · obtain ⟨p, l, as, ws, k, rfl, R, hk, kk⟩ := h
    obtain ⟨⟨dx, hp⟩, wd⟩ := id R
    obtain ⟨h1, h2, h3⟩ := wd.get
    refine ⟨_, pss_cons (ps_if (pt_truth (pe_meth0 (pv 0) T.cl mA GA hr bA .nil pass0) (fun _ => rfl)) (pss_one (ps_ret (pe_lst pa_nil))) pss_nil)
      (pss_one (ps_ret (pe_ix ix_list (pe_fld (pv 0) rfl) (pe_fld (pv 0) rfl) (fun _ _ => rfl)))), ?_⟩
    refine ⟨_, rfl, p, dx, _, rfl, hp, rdF_no _ _ (by decide +kernel) (by decide +kernel), p, l, as, ws, k, rfl, R, hk, _, rfl, ifD (fun c => ?_) (fun c => ?_)⟩
    · refine ⟨Nat.zero_le _, fun q hq => kk q _ (Same.upd hq) ?_⟩
      rw [upd_same]
      have : wAt ws k = [] := by unfold wAt; rw [List.getD_eq_getElem?_getD, List.getElem?_eq_none (by omega)]; rfl
      rw [this]; rfl
    · have hlt : k < ws.length := by omega
      obtain ⟨a, ha, hb⟩ := h3 k _ (List.getElem?_eq_getElem hlt)
      refine ⟨_, rfl, p, CR, dx, _, _, rfl, hp, T.cl, T.nw, rdF_words _ _, _, rfl, p, CR, dx, _, _, rfl, hp, T.cl, T.nt, rdF_taken _ _, l, _, _, _, rfl, rfl, SqL.of h1, at_of (j := k) (v := V.ref a) rfl (by rw [List.getElem?_map, ha]; rfl), ?_⟩
      refine kk a _ (Same.refl _) ?_
      have : wAt ws k = ws[k] := by unfold wAt; rw [List.getD_eq_getElem?_getD, List.getElem?_eq_getElem hlt]; rfl
      rw [this]; exact hb
end
structure GoodWs (ws : List (List Int)) : Prop where
  few : ws.length ≤ 100000
  all : ∀ w ∈ ws, Sm.Byts w ∧ w.length ≤ 100000
theorem GoodWs.at {ws : List (List Int)} (g : GoodWs ws) (k : Nat) : Sm.Byts (wAt ws k) ∧ (wAt ws k).length ≤ 100000 := by
  unfold wAt
  rw [List.getD_eq_getElem?_getD]
  cases e : ws[k]? with
  | none => exact ⟨fun x h => (by cases h), Nat.zero_le _⟩
  | some w => exact g.all w (List.mem_of_getElem? e)
def Wrong (CW : Addr) (xs : List Addr) (H : Hp) (E : XK) (n : Nat) : Prop := ∀ (dx : Addr) (H' : Hp), H' dx = some (.xd [("number", .int n)]) → Off xs H H' → E (.ref CW) (some dx) H'
def spNum (CR CW : Addr) : Sp := fun vs H Q E => ∃ (p l : Addr) (as : List Addr) (ws : List (List Int)) (k least most : Nat), vs = [.ref p, .int least, .int most] ∧ ReaderAt CR H p l as ws k ∧ k ≤ ws.length ∧ GoodWs ws ∧ most ≤ 1000000 ∧
  (∀ (n : Nat) (H' : Hp), Sm.upTo (wAt ws k) most = some n → least ≤ n → ReaderAt CR H' p l as ws (k + 1) → Off [p] H H' → Q (.int n) H') ∧
  ((∀ n, Sm.upTo (wAt ws k) most = some n → ¬ least ≤ n) → Wrong CW [p] H E (k + 1))
def spLitT (CR CW : Addr) : Sp := fun vs H Q E => ∃ (p l : Addr) (as : List Addr) (ws : List (List Int)) (k most : Nat), vs = [.ref p, .int most] ∧ ReaderAt CR H p l as ws k ∧ k ≤ ws.length ∧ GoodWs ws ∧ most ≤ 1000000 ∧
  (∀ (n : Int) (H' : Hp), Sm.litUp (wAt ws k) most = some n → ReaderAt CR H' p l as ws (k + 1) → Off [p] H H' → Q (.int n) H') ∧
  (Sm.litUp (wAt ws k) most = none → Wrong CW [p] H E (k + 1))
def spEnd (CR CW : Addr) : Sp := fun vs H Q E => ∃ (p l : Addr) (as : List Addr) (ws : List (List Int)) (k : Nat), vs = [.ref p] ∧ ReaderAt CR H p l as ws k ∧ k ≤ ws.length ∧ GoodWs ws ∧
  (k = ws.length → Q .non H) ∧ (k < ws.length → Wrong CW [p] H E (k + 1))
theorem ReaderAt.next {CR p l dx : Addr} {as : List Addr} {H : Hp} {ws : List (List Int)} {k : Nat} (hp : H p = some (.ins CR dx (rdF l k))) (wd : WordsAt H l as ws) : ReaderAt CR (upd H p (.ins CR dx (putF "taken" (.int ((k : Int) + 1)) (rdF l k)))) p l as ws (k + 1) := by
  refine ⟨⟨dx, ?_⟩, wd.off Off.upd (ins_not hp)⟩
  rw [upd_same]
  have : putF "taken" (.int ((k : Int) + 1)) (rdF l k) = rdF l (k + 1) := rdF_put l k (k + 1)
  rw [this]
theorem wrong_of {CW p : Addr} {H H1 : Hp} {E : XK} {n : Nat} {m : Int} (W : Wrong CW [p] H E n) (o : Off [p] H H1) (em : m = (n : Int)) :
    ∀ (dx e : Addr) (H2 : Hp), H1 dx = none → H1 e = none → H2 dx = some (.xd [("number", .int m)]) → (∀ b o, H1 b = some o → H2 b = some o) → E (.ref CW) (some dx) H2 := fun dx e H2 _ _ hx s => by
  subst em
  exact W dx H2 hx (o.trans (Off.of s))
section
variable {P : Program} {w : World} {K : PySem.W.Frag} {mg : Str → Option Value} {base : Heap}
theorem scNu : FnScope ["self", "least", "most", "number"] ["self", "least", "most"] (defScope sNumber) := ⟨rfl, rfl, rfl, by decide +kernel, rfl, by decide +kernel, by decide +kernel⟩
theorem ok_number {f fC fU CW fW CR : Addr} {fd fdC fdU fdW : FuncData} (F : Fun K "take_number" "Reader.take_number" sNumber f fd) (T : TxtR K mg CW fW CR fdW)
    (FC : Fun K "coming" "Reader.coming" sComing fC fdC) (bC : Binds K fdC ["self"] []) (mC : Meth K CR "coming" fC)
    (FU : Fun K "number_up_to" "number_up_to" sUpTo fU fdU) (bU : Binds K fdU ["word", "most"] []) (mU : mg "number_up_to" = some (.ref fU)) : FnOk P w K mg base (CXx P w) 3 f fd ["self", "least", "most"] (spNum CR CW) := by
  have GC : FnOk P w K mg base CX0 2 fC fdC ["self"] (spComing CR) := ok_coming FC T
  have GU : FnOk P w K mg base CX0 1 fU fdU ["word", "most"] (spUpTo K) := ok_upTo FU T.tw
  have GW : FnOk P w K mg base CX0 1 fW fdW ["self", "number"] (spX CW "number") := ok_wrong T.fw T.xc T.ve
  refine F.okX scNu (fun vs H Q E h => ?_) (fun cdv A outer s H vs Q E hr h => ?_)
  · obtain ⟨p, l, as, ws, k, least, most, rfl, _⟩ := h
    rfl
  · obtain ⟨p, l, as, ws, k, least, most, rfl, R, hk, gw, hM, k1, k2⟩ := h
    have hr1 := hr.mono (show 1 ≤ 2 by decide)
    refine ⟨_, pss_cons (ps_set (i := 3) scNu.nd rfl (Or.inl rfl) (pe_call GU hr1 rfl mU FU.kp bU .nil pass0 (pa_cons (pe_meth0 (pv 0) T.cl mC GC hr bC .nil pass0) (pa_cons (pv 2) pa_nil))))
      (pss_cons (ps_fld (pv 0) (pe_op op_add (pe_fld (pv 0) rfl) pe_int) rfl)
      (pss_cons (ps_if (PW.pt (pw_or (pt_cmpR op_isN (pv 3) pe_non (nomark _)) (pw_or1 (pt_cmpR op_lt (pv 3) (pv 1) (nomark _))))) (pss_one (ps_raiseC T.xc GW T.bw hr rfl T.mw rfl rfl raiseX (pa_cons (pe_fld (pv 0) rfl) pa_nil))) pss_nil)
      (pss_one (ps_ret (pv 3))))), ?_⟩
    obtain ⟨⟨dx, hp⟩, wd⟩ := id R
    obtain ⟨gb, gl⟩ := gw.at k
    have gf := gw.few
    refine ⟨_, rfl, p, dx, _, rfl, hp, rdF_no _ _ (by decide +kernel) (by decide +kernel), p, l, as, ws, k, rfl, R, hk, fun q H1 sm hq => ⟨_, rfl, q, wAt ws k, most, rfl, SqL.of hq, gb, gl, hM, ?_⟩⟩
    have hp1 := sm _ _ hp
    have wd1 := wd.off (Off.of (xs := []) sm) (fun _ _ _ m => by cases m)
    refine ⟨_, rfl, p, CR, dx, _, _, rfl, hp1, T.cl, T.nt, rdF_taken _ _, _, _, rfl, rfl, _, rfl, p, CR, dx, _, rfl, hp1, T.cl, T.nt, rdF_len _ _, ?_⟩
    have R2 := ReaderAt.next hp1 wd1
    have o2 : Off [p] H _ := (Off.of sm).trans (Off.upd (p := p) (o := .ins CR dx (putF "taken" (.int ((k : Int) + 1)) (rdF l k))))
    obtain ⟨dx2, hp2⟩ := R2.ob
    have hE : ∀ (h : ∀ n, Sm.upTo (wAt ws k) most = some n → ¬ least ≤ n), _ := fun h => wrong_of (m := ((k + 1 : Nat) : Int)) (k2 h) o2 rfl
    cases eu : Sm.upTo (wAt ws k) most with
    | none =>
      refine ⟨_, rfl, rfl, _, rfl, iteT ⟨_, rfl, p, CR, dx2, _, _, rfl, hp2, T.cl, T.nt, rdF_taken _ _, _, rfl, by omega, by omega, hE (fun n z => by rw [eu] at z; cases z)⟩⟩
    | some n =>
      refine ⟨_, rfl, rfl, _, rfl, iteF ⟨_, rfl, _, rfl, _, _, rfl, rfl, _, rfl, ifD (fun c => ?_) fun c => ?_⟩⟩
      · exact ⟨_, rfl, p, CR, dx2, _, _, rfl, hp2, T.cl, T.nt, rdF_taken _ _, _, rfl, by omega, by omega, hE (fun m z => by rw [eu] at z; cases z; omega)⟩
      · exact ⟨_, rfl, k1 n _ eu (by omega) R2 o2⟩
theorem scLt : FnScope ["self", "most", "literal"] ["self", "most"] (defScope sLiteral) := ⟨rfl, rfl, rfl, by decide +kernel, rfl, by decide +kernel, by decide +kernel⟩
theorem ok_literal {f fC fL fU CW fW CR : Addr} {fd fdC fdL fdU fdW : FuncData} (F : Fun K "take_literal" "Reader.take_literal" sLiteral f fd) (T : TxtR K mg CW fW CR fdW)
    (FC : Fun K "coming" "Reader.coming" sComing fC fdC) (bC : Binds K fdC ["self"] []) (mC : Meth K CR "coming" fC)
    (FU : Fun K "number_up_to" "number_up_to" sUpTo fU fdU) (bU : Binds K fdU ["word", "most"] []) (mU : mg "number_up_to" = some (.ref fU))
    (FL : Fun K "literal_up_to" "literal_up_to" sLitUp fL fdL) (bL : Binds K fdL ["word", "most"] []) (mL : mg "literal_up_to" = some (.ref fL)) : FnOk P w K mg base (CXx P w) 3 f fd ["self", "most"] (spLitT CR CW) := by
  have GC : FnOk P w K mg base CX0 2 fC fdC ["self"] (spComing CR) := ok_coming FC T
  have GL : FnOk P w K mg base CX0 2 fL fdL ["word", "most"] (spLit K) := ok_lit FL T.tw FU bU mU
  have GW : FnOk P w K mg base CX0 1 fW fdW ["self", "number"] (spX CW "number") := ok_wrong T.fw T.xc T.ve
  refine F.okX scLt (fun vs H Q E h => ?_) (fun cdv A outer s H vs Q E hr h => ?_)
  · obtain ⟨p, l, as, ws, k, most, rfl, _⟩ := h
    rfl
  · obtain ⟨p, l, as, ws, k, most, rfl, R, hk, gw, hM, k1, k2⟩ := h
    have hr1 := hr.mono (show 1 ≤ 2 by decide)
    refine ⟨_, pss_cons (ps_set (i := 2) scLt.nd rfl (Or.inl rfl) (pe_call GL hr rfl mL FL.kp bL .nil pass0 (pa_cons (pe_meth0 (pv 0) T.cl mC GC hr bC .nil pass0) (pa_cons (pv 1) pa_nil))))
      (pss_cons (ps_fld (pv 0) (pe_op op_add (pe_fld (pv 0) rfl) pe_int) rfl)
      (pss_cons (ps_if (pt_cmpR op_isN (pv 2) pe_non (nomark _)) (pss_one (ps_raiseC T.xc GW T.bw hr rfl T.mw rfl rfl raiseX (pa_cons (pe_fld (pv 0) rfl) pa_nil))) pss_nil)
      (pss_one (ps_ret (pv 2))))), ?_⟩
    obtain ⟨⟨dx, hp⟩, wd⟩ := id R
    obtain ⟨gb, gl⟩ := gw.at k
    have gf := gw.few
    refine ⟨_, rfl, p, dx, _, rfl, hp, rdF_no _ _ (by decide +kernel) (by decide +kernel), p, l, as, ws, k, rfl, R, hk, fun q H1 sm hq => ⟨_, rfl, q, wAt ws k, most, rfl, SqL.of hq, gb, gl, hM, fun H2 sm2 => ?_⟩⟩
    have sm := sm.trans sm2
    have hp1 := sm _ _ hp
    have wd1 := wd.off (Off.of (xs := []) sm) (fun _ _ _ m => by cases m)
    refine ⟨_, rfl, p, CR, dx, _, _, rfl, hp1, T.cl, T.nt, rdF_taken _ _, _, _, rfl, rfl, _, rfl, p, CR, dx, _, rfl, hp1, T.cl, T.nt, rdF_len _ _, ?_⟩
    have R2 := ReaderAt.next hp1 wd1
    have o2 : Off [p] H _ := (Off.of sm).trans (Off.upd (p := p) (o := .ins CR dx (putF "taken" (.int ((k : Int) + 1)) (rdF l k))))
    obtain ⟨dx2, hp2⟩ := R2.ob
    cases eu : Sm.litUp (wAt ws k) most with
    | none =>
      exact ⟨_, rfl, rfl, _, rfl, iteT ⟨_, rfl, p, CR, dx2, _, _, rfl, hp2, T.cl, T.nt, rdF_taken _ _, _, rfl, by omega, by omega, wrong_of (m := ((k + 1 : Nat) : Int)) (k2 eu) o2 rfl⟩⟩
    | some n => exact ⟨_, rfl, rfl, _, rfl, iteF ⟨_, rfl, k1 n _ eu R2 o2⟩⟩
theorem scEn : FnScope ["self"] ["self"] (defScope sEnd) := ⟨rfl, rfl, rfl, by decide +kernel, rfl, by decide +kernel, by decide +kernel⟩
theorem ok_end {f CW fW CR : Addr} {fd fdW : FuncData} (F : Fun K "take_end" "Reader.take_end" sEnd f fd) (T : TxtR K mg CW fW CR fdW) : FnOk P w K mg base (CXx P w) 3 f fd ["self"] (spEnd CR CW) := by
  have GW : FnOk P w K mg base CX0 1 fW fdW ["self", "number"] (spX CW "number") := ok_wrong T.fw T.xc T.ve
  obtain ⟨fA, fdA, FA, bA, mA⟩ := T.ae
  have GA : FnOk P w K mg base CX0 1 fA fdA ["self"] (spAtEnd CR) := ok_atEnd FA T
  refine F.okX scEn (fun vs H Q E h => ?_) (fun cdv A outer s H vs Q E hr h => ?_)
  · obtain ⟨p, l, as, ws, k, rfl, _⟩ := h
    rfl
  · obtain ⟨p, l, as, ws, k, rfl, R, hk, gw, k1, k2⟩ := h
    have hr1 := hr.mono (show 1 ≤ 2 by decide)
    refine ⟨_, pss_one (ps_if (pt_not (pt_truth (pe_meth0 (pv 0) T.cl mA GA hr1 bA .nil pass0) (fun _ => rfl)))
      (pss_one (ps_raiseC T.xc GW T.bw hr rfl T.mw rfl rfl raiseX (pa_cons (pe_op op_add (pe_fld (pv 0) rfl) pe_int) pa_nil))) pss_nil), ?_⟩
    obtain ⟨⟨dx, hp⟩, wd⟩ := id R
    have gf := gw.few
    refine ⟨_, rfl, p, dx, _, rfl, hp, rdF_no _ _ (by decide +kernel) (by decide +kernel), p, l, as, ws, k, rfl, R, hk, _, rfl, ifB (fun c => ?_) (fun c => ?_)⟩
    · have c' : k < ws.length := by simp at c; omega
      exact ⟨_, rfl, p, CR, dx, _, _, rfl, hp, T.cl, T.nt, rdF_taken _ _, _, _, rfl, rfl, _, rfl, by omega, by omega, wrong_of (m := (k : Int) + 1) (k2 c') (Off.of (Same.refl H)) (by omega)⟩
    · have c' : k = ws.length := by simpa using c
      exact k1 c'
end
def codes (x : Str) : List Int := x.cps.toList.map fun (c : Nat) => (c : Int)
theorem lc_str {x : Str} {g : TG} {tt : TT} {te : TE} {vs : List Nat} {σ : St} {H1 : Hp} {D : Addr} {Qd : Hp → Prop} (Pv : Nat → Hp → Prop) (h0 : Pv 0 (upd H1 D (.lst [])))
    (hs : ∀ i c H, x.cps[i]? = some c → Pv i H → g (.str ⟨#[c]⟩) (wipe σ vs) H fun σ2 H2 => wipe σ2 vs = wipe σ vs ∧ tt σ2 H2 fun b H3 =>
      if b = true then te σ2 H3 fun y H4 => ∃ acc, H4 D = some (.lst acc) ∧ acc.length < sizeLine ∧ Pv (i + 1) (upd H4 D (.lst (acc ++ [y]))) else Pv (i + 1) H3) (hd : ∀ H, Pv x.cps.size H → Qd H) :
    ∃ W : Nat → Nat → Hp → Prop, (∃ m, W 0 m (upd H1 D (.lst []))) ∧ ∀ i m H, W i m H →
      ((Its x).stop i H ∧ Qd H) ∨ ((Its x).go i H ∧ ∃ Nx : Hp → Prop, (∀ H', Nx H' → ∃ m', m' < m ∧ W (i + 1) m' H') ∧ ∀ y H', (Its x).yld i H y H' → g y (wipe σ vs) H' fun σ2 H2 => wipe σ2 vs = wipe σ vs ∧ tt σ2 H2 fun b H3 =>
        if b = true then te σ2 H3 fun y H4 => ∃ acc, H4 D = some (.lst acc) ∧ acc.length < sizeLine ∧ Nx (upd H4 D (.lst (acc ++ [y]))) else Nx H3) := by
  refine ⟨fun i m H => m = x.cps.size - i ∧ i ≤ x.cps.size ∧ Pv i H, ⟨x.cps.size, rfl, Nat.zero_le _, h0⟩, ?_⟩
  rintro i m H ⟨rfl, hi, p⟩
  by_cases hlt : i < x.cps.size
  · refine .inr ⟨hlt, Pv (i + 1), fun H' p' => ⟨x.cps.size - (i + 1), by omega, rfl, hlt, p'⟩, fun y H' q => ?_⟩
    obtain ⟨e, c, hc, ey⟩ := q
    subst e; subst ey
    exact hs i c _ hc p
  · have e : i = x.cps.size := by omega
    subst e
    exact .inl ⟨Nat.le_refl _, hd H p⟩
def spOne (K : PySem.W.Frag) (CR CW : Addr) : Sp := fun vs H Q E => ∃ (p c l : Addr) (as : List Addr) (chs : List Str) (ws : List (List Int)) (k : Nat), vs = [.ref p, .ref c] ∧ SqT K H c (chs.map V.str) ∧ (∀ ch ∈ chs, ch.cps.size ≤ 100) ∧ ReaderAt CR H p l as ws k ∧ k ≤ ws.length ∧ GoodWs ws ∧
  (∀ (ch : Str) (H' : Hp), ch ∈ chs → codes ch = wAt ws k → ReaderAt CR H' p l as ws (k + 1) → Off [p] H H' → Q (.str ch) H') ∧
  ((∀ ch ∈ chs, codes ch ≠ wAt ws k) → Wrong CW [p] H E (k + 1))
theorem strs_get {chs : List Str} {i : Nat} {y : V} (h : (chs.map V.str)[i]? = some y) : ∃ z, chs[i]? = some z ∧ y = .str z := by
  rw [List.getElem?_map] at h
  cases e : chs[i]? with
  | none => rw [e] at h; cases h
  | some z => rw [e] at h; exact ⟨z, rfl, (Option.some.inj h).symm⟩
section
variable {P : Program} {w : World} {K : PySem.W.Frag} {mg : Str → Option Value} {base : Heap}
theorem scOn : FnScope ["self", "choices", "word", "choice", "sign"] ["self", "choices"] (defScope sOneOf) := ⟨rfl, rfl, rfl, by decide +kernel, rfl, by decide +kernel, by decide +kernel⟩
theorem blkOn : BlkOk ["self", "choices", "word", "choice", "sign"] (defScope sOneOf) { kind := .function, names := [(".0", .local), ("sign", .local), ("ord", .globalImplicit)], isGenerator := false, isCoroutine := false } [("sign", 4)] := ⟨rfl, by decide +kernel, by decide +kernel, by decide +kernel, by decide +kernel⟩
theorem ok_oneOf {f fC CW fW CR : Addr} {fd fdC fdW : FuncData} (F : Fun K "take_one_of" "Reader.take_one_of" sOneOf f fd) (T : TxtR K mg CW fW CR fdW)
    (FC : Fun K "coming" "Reader.coming" sComing fC fdC) (bC : Binds K fdC ["self"] []) (mC : Meth K CR "coming" fC) : FnOk P w K mg base (CXx P w) 3 f fd ["self", "choices"] (spOne K CR CW) := by
  have GC : FnOk P w K mg base CX0 2 fC fdC ["self"] (spComing CR) := ok_coming FC T
  have GW : FnOk P w K mg base CX0 1 fW fdW ["self", "number"] (spX CW "number") := ok_wrong T.fw T.xc T.ve
  refine F.okX scOn (fun vs H Q E h => ?_) (fun cdv A outer s H vs Q E hr h => ?_)
  · obtain ⟨p, c, l, as, chs, ws, k, rfl, _⟩ := h
    rfl
  · obtain ⟨p, c, l, as, chs, ws, k, rfl, hT, hch, R, hk, gw, k1, k2⟩ := h
    have hr1 := hr.mono (show 1 ≤ 2 by decide)
    have hu := hr.units
    refine ⟨_, pss_cons (ps_set (i := 2) scOn.nd rfl (Or.inl rfl) (pe_meth0 (pv 0) T.cl mC GC hr bC .nil pass0))
      (pss_cons (ps_fld (pv 0) (pe_op op_add (pe_fld (pv 0) rfl) pe_int) rfl)
      (pss_cons (ps_for PassesOwn.leaving rfl (pi_tup (pv 1)) (pg_name (i := 3) scOn.nd rfl (Or.inl rfl))
        (pss_one (ps_if (pt_cmpR (op_eqD hu) (pv 2) (pe_lc (own := [("sign", 4)]) rfl scOn.nd (pi_str (pv 3)) blkOn
          (fun _ _ _ _ _ => pg_name (i := 4) scOn.nd rfl (Or.inl rfl)) (fun _ _ _ _ _ => pts_nil) (fun _ _ _ _ _ => pe_callB call_ord (by rfl) T.od (by rfl) (pa_cons (pv 4) pa_nil))) (nomark _))
          (pss_one (ps_ret (pv 3))) pss_nil)))
      (pss_one (ps_raiseC T.xc GW T.bw hr rfl T.mw rfl rfl raiseX (pa_cons (pe_fld (pv 0) rfl) pa_nil))))), ?_⟩
    obtain ⟨⟨dx, hp⟩, wd⟩ := id R
    have gf := gw.few
    refine ⟨_, rfl, p, dx, _, rfl, hp, rdF_no _ _ (by decide +kernel) (by decide +kernel), p, l, as, ws, k, rfl, R, hk, fun q H1 sm hq => ?_⟩
    have hp1 := sm _ _ hp
    have wd1 := wd.off (Off.of (xs := []) sm) (fun _ _ _ m => by cases m)
    refine ⟨_, rfl, p, CR, dx, _, _, rfl, hp1, T.cl, T.nt, rdF_taken _ _, _, _, rfl, rfl, _, rfl, p, CR, dx, _, rfl, hp1, T.cl, T.nt, rdF_len _ _, ?_⟩
    have R2 := ReaderAt.next hp1 wd1
    have o2 : Off [p] H _ := (Off.of sm).trans (Off.upd (p := p) (o := .ins CR dx (putF "taken" (.int ((k : Int) + 1)) (rdF l k))))
    have hq2 : upd H1 p (.ins CR dx (putF "taken" (.int ((k : Int) + 1)) (rdF l k))) q = some (.lst (iL (wAt ws k))) := by
      rw [upd_ne (ne_of hq hp1 (by intro z; cases z))]; exact hq
    generalize upd H1 p (.ins CR dx (putF "taken" (.int ((k : Int) + 1)) (rdF l k))) = H2 at R2 o2 hq2 ⊢
    have npc : ∀ o, H c = some o → (∃ ys, o = .tup ys) ∨ (∃ ob ys, o = .frz ob (.tup ys)) → c ∉ [p] := fun o e z m => by
      simp at m; subst m; rw [hp] at e; cases e
      rcases z with ⟨_, z⟩ | ⟨_, _, z⟩ <;> cases z
    have hT2 : ∀ H3, Off [p] H H3 → SqT K H3 c (chs.map V.str) := fun H3 o => by
      rcases hT with (z | ⟨ob, z⟩) | z
      · exact .inl (.inl (o _ _ z (npc _ z (.inl ⟨_, rfl⟩))))
      · exact .inl (.inr ⟨ob, o _ _ z (npc _ z (.inr ⟨_, _, rfl⟩))⟩)
      · exact .inr z
    refine ⟨_, rfl, c, rfl, ⟨_, hT2 _ o2⟩, for_tup (K := K) (a := c) (xs := chs.map V.str) (fun i σ H3 => ∃ v, σ = [some (.ref p), some (.ref c), some (.ref q), v, none] ∧ ReaderAt CR H3 p l as ws (k + 1) ∧ Off [p] H H3 ∧ H3 q = some (.lst (iL (wAt ws k))) ∧ ∀ ch ∈ chs.take i, codes ch ≠ wAt ws k)
      ⟨none, rfl, R2, o2, hq2, fun ch m => by simp at m⟩ (fun i σ H3 _ ⟨_, _, _, o, _⟩ => hT2 _ o) ?_ ?_⟩
    · rintro i y σ H3 hi ⟨v, rfl, R3, o3, hq3, no⟩
      obtain ⟨ch, hc, rfl⟩ := strs_get hi
      have hmem := List.mem_of_getElem? hc
      have hcs := hch ch hmem
      have sz : sizeLine = 16777216 := sizeLine_eq
      refine ⟨_, rfl, _, rfl, _, rfl, fun D hD => lc_str (fun j H4 => Same H3 H4 ∧ H4 D = some (.lst (iL ((codes ch).take j)))) ⟨Same.upd hD, upd_same⟩ ?_ ?_⟩
      · rintro j z H4 hz ⟨s4, h4⟩
        have hj : j < ch.cps.size := (Array.getElem?_eq_some_iff.mp hz).1
        refine ⟨rfl, ⟨_, rfl, _, rfl, rfl, _, h4, ?_, fun b o e => ?_, ?_⟩⟩
        · simp [iL]; omega
        · rw [upd_ne (ne_of_none e hD)]; exact s4 b o e
        · rw [upd_same]
          have hg : (codes ch)[j]? = some (z : Int) := by
            unfold codes
            rw [List.getElem?_map, Array.getElem?_toList, hz]; rfl
          rw [List.take_succ, hg]
          simp [iL]
      · rintro H4 ⟨s4, h4⟩
        have el : (codes ch).take ch.cps.size = codes ch := List.take_of_length_le (by simp [codes])
        rw [el] at h4
        refine ⟨pdI (wAt ws k), pdI (codes ch), dp_int (SqL.of (s4 _ _ hq3)), dp_int (SqL.of h4), shaped_int _, shaped_int _, _, rfl, ?_⟩
        rw [eqv_int]
        obtain ⟨dx3, hp3⟩ := R3.ob
        have o4 := o3.trans (Off.of s4)
        have R4 : ReaderAt CR H4 p l as ws (k + 1) := ⟨⟨dx3, s4 _ _ hp3⟩, R3.wd.off (Off.of (xs := []) s4) (fun _ _ _ m => by cases m)⟩
        refine ifD (fun e => ?_) (fun e => ?_)
        · exact ⟨_, rfl, k1 ch _ hmem e.symm R4 o4⟩
        · refine ⟨_, rfl, R4, o4, s4 _ _ hq3, fun ch' m => ?_⟩
          rw [List.take_succ, hc] at m
          rcases List.mem_append.mp m with m | m
          · exact no ch' m
          · simp at m; subst m; exact fun z => e z.symm
    · rintro σ H3 ⟨v, rfl, R3, o3, hq3, no⟩
      have el : (chs.map V.str).length = chs.length := by simp
      rw [el, List.take_length] at no
      obtain ⟨dx3, hp3⟩ := R3.ob
      exact ⟨_, rfl, p, CR, dx3, _, _, rfl, hp3, T.cl, T.nt, rdF_taken _ _, _, rfl, by omega, by omega, wrong_of (m := ((k + 1 : Nat) : Int)) (k2 no) o3 rfl⟩
end
abbrev sFormula : Stmt := inClass (top 15) 0
abbrev sReadF : Stmt := top 16
abbrev sBlock : Stmt := top 17
abbrev sClause : Stmt := top 18
def litP (l : Ql66.Lit) : Key × V := (Sum.inl (l.1 : Int), .int (if l.2 = true then 1 else 0))
def cV (c : Ql66.Clause) : List (Key × V) := c.map litP
theorem cV_val (c : Ql66.Clause) (n : Nat) : (valV (cV c) (Sum.inl (n : Int))).isSome = c.any fun y => y.1 == n := by
  rw [← valV_any]
  unfold cV
  rw [List.any_map]
  congr 1
  funext l
  show decide ((Sum.inl (l.1 : Int) : Key) = Sum.inl (n : Int)) = (l.1 == n)
  rw [Bool.eq_iff_iff, decide_eq_true_iff, beq_iff_eq]
  constructor
  · intro h
    injection h with h
    omega
  · intro h; rw [h]
theorem cV_put {c : Ql66.Clause} {n : Nat} {b : Bool} (h : (c.any fun y => y.1 == n) = false) : putK (cV c) (Sum.inl (n : Int)) (.int (if b = true then 1 else 0)) = cV (c ++ [(n, b)]) := by
  have e : valV (cV c) (Sum.inl (n : Int)) = none := by
    cases q : valV (cV c) (Sum.inl (n : Int)) with
    | none => rfl
    | some v =>
      have := cV_val c n
      rw [q, h] at this; cases this
  rw [putK_new _ e]
  unfold cV
  rw [List.map_append]; rfl
theorem abs_nat (z : Int) : (if z < 0 then -z else z) = (z.natAbs : Int) := by split <;> omega
def spClause (CR CW : Addr) : Sp := fun vs H Q E => ∃ (p l : Addr) (as : List Addr) (ws : List (List Int)) (k most : Nat), vs = [.ref p, .int most] ∧ ReaderAt CR H p l as ws k ∧ k ≤ ws.length ∧ GoodWs ws ∧ most ≤ 20 ∧
  (∀ (c : Ql66.Clause) (k' : Nat) (d : Addr) (H' : Hp), Ql66.clause most [] (Sm.toksAt k (ws.drop k)) = .ok (c, Sm.toksAt k' (ws.drop k')) → k < k' → k' ≤ ws.length → ReaderAt CR H' p l as ws k' → H' d = some (.dK (cV c)) → H d = none → Off [p] H H' → Q (.ref d) H') ∧
  (∀ e, Ql66.clause most [] (Sm.toksAt k (ws.drop k)) = .error e → Wrong CW [p] H E (Sm.errNo ws e))
theorem Wrong.off {CW : Addr} {xs : List Addr} {H H1 : Hp} {E : XK} {n : Nat} (W : Wrong CW xs H E n) (o : Off xs H H1) : Wrong CW xs H1 E n := fun dx H' h s => W dx H' h (o.trans s)
structure ClSt (CR : Addr) (H H1 : Hp) (p l d : Addr) (as : List Addr) (ws : List (List Int)) (k0 k1 most : Nat) (c : Ql66.Clause) (z : Int) : Prop where
  eq : Ql66.clause most [] (Sm.toksAt k0 (ws.drop k0)) = Sm.clauseAt most c z k1 (ws.drop k1)
  rd : ReaderAt CR H1 p l as ws k1
  lo : k0 < k1
  hi : k1 ≤ ws.length
  dc : H1 d = some (.dK (cV c))
  nd : H d = none
  of : Off [p] H H1
  few : c.length < k1
section
variable {P : Program} {w : World} {K : PySem.W.Frag} {mg : Str → Option Value} {base : Heap}
theorem scCl : FnScope ["reader", "most", "clause", "literal", "variable"] ["reader", "most"] (defScope sClause) := ⟨rfl, rfl, rfl, by decide +kernel, rfl, by decide +kernel, by decide +kernel⟩
theorem ok_clause {f fT CW fW CR : Addr} {fd fdT fdW : FuncData} (F : Fun K "take_clause" "take_clause" sClause f fd) (T : TxtR K mg CW fW CR fdW) (ab : mg "abs" = none)
    (FT : Fun K "take_literal" "Reader.take_literal" sLiteral fT fdT) (bT : Binds K fdT ["self", "most"] []) (mT : Meth K CR "take_literal" fT) (GT : FnOk P w K mg base (CXx P w) 3 fT fdT ["self", "most"] (spLitT CR CW)) :
    FnOk P w K mg base (CXx P w) 4 f fd ["reader", "most"] (spClause CR CW) := by
  have GW : FnOk P w K mg base CX0 1 fW fdW ["self", "number"] (spX CW "number") := ok_wrong T.fw T.xc T.ve
  refine F.okX scCl (fun vs H Q E h => ?_) (fun cdv A outer s H vs Q E hr h => ?_)
  · obtain ⟨p, l, as, ws, k, most, rfl, _⟩ := h
    rfl
  · obtain ⟨p, l, as, ws, k, most, rfl, R, hk, gw, hM, k1, k2⟩ := h
    have hr2 := hr.mono (show 2 ≤ 3 by decide)
    have hu := hu_of hr
    refine ⟨_, pss_cons (ps_set (i := 2) scCl.nd rfl (Or.inl rfl) pe_dnewK)
      (pss_cons (ps_set (i := 3) scCl.nd rfl (Or.inl rfl) (pe_meth (pv 0) T.cl mT GT hr bT .nil passX (pa_cons (pv 1) pa_nil)))
      (pss_cons (ps_while PassesOwn.leaving (pt_cmpR op_ne (pv 3) pe_int (nomark _))
        (pss_cons (ps_set (i := 4) scCl.nd rfl (Or.inl rfl) (pe_callB call_abs (by rfl) ab (by rfl) (pa_cons (pv 3) pa_nil)))
        (pss_cons (ps_if (pt_cmp (pc_din hu (pv 4) (pv 2)) (by with_unfolding_all rfl)) (pss_one (ps_raiseC T.xc GW T.bw hr2 rfl T.mw rfl rfl raiseX (pa_cons (pe_fld (pv 0) rfl) pa_nil))) pss_nil)
        (pss_cons (ps_dput hu (pv 2) (pv 4) (pe_ifExp (pt_cmpR op_gt (pv 3) pe_int (nomark _)) pe_int pe_int) rfl)
        (pss_one (ps_set (i := 3) scCl.nd rfl (Or.inl rfl) (pe_meth (pv 0) T.cl mT GT hr bT .nil passX (pa_cons (pv 1) pa_nil))))))))
      (pss_one (ps_ret (pv 2))))), ?_⟩
    have gf := gw.few
    have gb : ∀ w ∈ ws, Sm.Byts w := fun w h => (gw.all w h).1
    have sz : sizeLine = 16777216 := sizeLine_eq
    intro d hd
    have s0 : Same H (upd H d (.dK [])) := Same.upd hd
    obtain ⟨⟨dx, hp⟩, wd⟩ := id R
    have R0 : ReaderAt CR (upd H d (.dK [])) p l as ws k := ⟨⟨dx, s0 _ _ hp⟩, wd.off (Off.of (xs := []) s0) (fun _ _ _ m => by cases m)⟩
    have st := Sm.clause_step (vars := most) (l := []) gb hk
    refine ⟨_, rfl, p, dx, _, rfl, s0 _ _ hp, rdF_no _ _ (by decide +kernel) (by decide +kernel), _, rfl, p, l, as, ws, k, most, rfl, R0, hk, gw, by omega, fun z H1 ez R1 o1 => ?_, fun ez => ?_⟩
    · have hk1 : k < ws.length := by
        refine Nat.lt_of_le_of_ne hk fun q => ?_
        have : wAt ws k = [] := Sm.word_end (by omega)
        rw [this, Sm.litUp_nil] at ez; cases ez
      have ez' : Sm.litUp (Sm.wordAt ws k) most = some z := ez
      rw [ez'] at st
      have hdp : d ≠ p := (ne_of_none hp hd).symm
      refine ⟨fun m σ H2 => ∃ (c : Ql66.Clause) (z : Int) (k1 : Nat) (v : Option V), m = ws.length - k1 ∧ σ = [some (.ref p), some (.int most), some (.ref d), some (.int z), v] ∧ ClSt CR H H2 p l d as ws k k1 most c z,
        ⟨_, [], z, k + 1, none, rfl, rfl, ⟨st, R1, Nat.lt_succ_self _, hk1, o1 _ _ upd_same (by simp [hdp]), hd, (Off.of s0).trans o1, Nat.succ_pos _⟩⟩, ?_⟩
      rintro m σ H2 ⟨c, z, k1', v, rfl, rfl, S⟩
      refine ⟨_, rfl, rfl, _, rfl, ifB (fun e => ?_) (fun e => ?_)⟩
      · have e' : z ≠ 0 := fun q => by subst q; simp at e
        refine ⟨fun σ' H' => ∃ m', m' < ws.length - k1' ∧ ∃ (c : Ql66.Clause) (z : Int) (k1 : Nat) (v : Option V), m' = ws.length - k1 ∧ σ' = [some (.ref p), some (.int most), some (.ref d), some (.int z), v] ∧ ClSt CR H H' p l d as ws k k1 most c z, fun _ _ q => q, ?_⟩
        refine ⟨_, rfl, z, rfl, ?_⟩
        rw [abs_nat]
        refine ⟨_, rfl, _, rfl, d, _, rfl, DGet.k (k := Sum.inl (z.natAbs : Int)) S.dc, _, rfl, ?_⟩
        rw [cV_val]
        have eq := S.eq
        unfold Sm.clauseAt at eq
        rw [if_neg e'] at eq
        obtain ⟨dx2, hp2⟩ := S.rd.ob
        refine ifB (fun dup => ?_) (fun dup => ?_)
        · rw [if_pos dup] at eq
          have hi := S.hi
          have lo := S.lo
          have W := k2 _ eq
          have en : Sm.errNo ws k1' = k1' := by unfold Sm.errNo; rw [if_neg (by omega)]
          rw [en] at W
          exact ⟨_, rfl, p, CR, dx2, _, _, rfl, hp2, T.cl, T.nt, rdF_taken _ _, _, rfl, by omega, by omega, wrong_of (m := (k1' : Int)) W S.of rfl⟩
        · rw [if_neg (by rw [dup]; exact Bool.false_ne_true)] at eq
          have few := S.few
          have hi := S.hi
          have lo := S.lo
          have hcl : (cV c).length < sizeLine := by unfold cV; rw [List.length_map]; omega
          have step : ∀ (n : Int), n = (if decide (0 < z) = true then 1 else 0) → ∀ H3, H3 = upd H2 d (.dK (putK (cV c) (Sum.inl (z.natAbs : Int)) (.int n))) →
              ReaderAt CR H3 p l as ws k1' ∧ H3 d = some (.dK (cV (c ++ [(z.natAbs, decide (0 < z))]))) ∧ Off [p] H H3 := fun n hn H3 e3 => by
            subst hn
            rw [cV_put dup] at e3
            subst e3
            have hdp : d ≠ p := (ne_of_none hp hd).symm
            refine ⟨⟨⟨dx2, by rw [upd_ne hdp.symm]; exact hp2⟩, S.rd.wd.off (xs := [d]) Off.upd fun b ys e m => ?_⟩, upd_same, fun b o e n => ?_⟩
            · simp at m; subst m; rw [S.dc] at e; cases e
            · rw [upd_ne (ne_of_none e S.nd)]; exact S.of b o e n
          have st2 := Sm.clause_step (vars := most) (l := c ++ [(z.natAbs, decide (0 < z))]) gb hi
          rw [st2] at eq
          refine ⟨_, rfl, _, _, rfl, rfl, _, rfl, ifB (fun q => ?pos) (fun q => ?neg)⟩
          case' pos => refine ⟨_, rfl, _, rfl, d, _, rfl, DPut.k (k := Sum.inl (z.natAbs : Int)) S.dc hcl, ?_⟩; obtain ⟨R3, d3, o3⟩ := step 1 (by rw [if_pos q]) _ rfl
          case' neg => refine ⟨_, rfl, _, rfl, d, _, rfl, DPut.k (k := Sum.inl (z.natAbs : Int)) S.dc hcl, ?_⟩; obtain ⟨R3, d3, o3⟩ := step 0 (by rw [if_neg (by rw [q]; exact Bool.false_ne_true)]) _ rfl
          all_goals
            obtain ⟨dx3, hp3⟩ := R3.ob
            refine ⟨_, rfl, p, dx3, _, rfl, hp3, rdF_no _ _ (by decide +kernel) (by decide +kernel), _, rfl, p, l, as, ws, k1', most, rfl, R3, hi, gw, by omega, fun z2 H4 ez2 R4 o4 => ?_, fun ez2 => ?_⟩
            · have ez2' : Sm.litUp (Sm.wordAt ws k1') most = some z2 := ez2
              rw [ez2'] at eq
              have hk2 : k1' < ws.length := by
                refine Nat.lt_of_le_of_ne hi fun q => ?_
                have : wAt ws k1' = [] := Sm.word_end (by omega)
                rw [this, Sm.litUp_nil] at ez2; cases ez2
              have hdp : d ≠ p := (ne_of_none hp hd).symm
              exact ⟨_, by omega, _, z2, k1' + 1, _, rfl, rfl, ⟨eq, R4, by omega, hk2, o4 _ _ d3 (by simp [hdp]), S.nd, o3.trans o4, by simp; omega⟩⟩
            · have ez2' : Sm.litUp (Sm.wordAt ws k1') most = none := ez2
              rw [ez2'] at eq
              have W := k2 _ eq
              rw [Sm.errNo_at hi] at W
              exact W.off o3
      · have e' : z = 0 := by
          have : (!decide (V.int z = V.int 0)) = false := e
          simp at this; exact this
        have eq := S.eq
        unfold Sm.clauseAt at eq
        rw [if_pos e'] at eq
        exact ⟨_, rfl, k1 c k1' d H2 eq S.lo S.hi S.rd S.dc S.nd S.of⟩
    · have ez' : Sm.litUp (Sm.wordAt ws k) most = none := ez
      rw [ez'] at st
      have W := k2 _ st
      rw [Sm.errNo_at hk] at W
      exact W.off (Off.of s0)
end
def kd (b : Bool) : Str := if b = true then "e" else "a"
def fF (lv lk : Addr) (fb : Nat) (lc : Addr) : List (Str × V) := putF "clauses" (.ref lc) (putF "first_block" (.int fb) (putF "kinds" (.ref lk) (putF "variables" (.ref lv) [])))
theorem n_kc : ¬ (("kinds" : Str) = "clauses") := by decide +kernel
theorem n_kb : ¬ (("kinds" : Str) = "first_block") := by decide +kernel
theorem n_vc : ¬ (("variables" : Str) = "clauses") := by decide +kernel
theorem n_vk : ¬ (("variables" : Str) = "kinds") := by decide +kernel
theorem n_vb : ¬ (("variables" : Str) = "first_block") := by decide +kernel
theorem n_bc : ¬ (("first_block" : Str) = "clauses") := by decide +kernel
section
variable (lv lk : Addr) (fb : Nat) (lc : Addr)
theorem fF_vars : (fF lv lk fb lc).lookup ("variables" : Str) = some (.ref lv) := by
  unfold fF; rw [lookup_putF, if_neg n_vc, lookup_putF, if_neg n_vb, lookup_putF, if_neg n_vk, lookup_putF, if_pos rfl]
theorem fF_kinds : (fF lv lk fb lc).lookup ("kinds" : Str) = some (.ref lk) := by
  unfold fF; rw [lookup_putF, if_neg n_kc, lookup_putF, if_neg n_kb, lookup_putF, if_pos rfl]
theorem fF_first : (fF lv lk fb lc).lookup ("first_block" : Str) = some (.int fb) := by
  unfold fF; rw [lookup_putF, if_neg n_bc, lookup_putF, if_pos rfl]
theorem fF_clauses : (fF lv lk fb lc).lookup ("clauses" : Str) = some (.ref lc) := by
  unfold fF; rw [lookup_putF, if_pos rfl]
theorem fF_no {m : Str} (h1 : ¬ m = "clauses") (h2 : ¬ m = "first_block") (h3 : ¬ m = "kinds") (h4 : ¬ m = "variables") : (fF lv lk fb lc).lookup m = none := by
  unfold fF; rw [lookup_putF, if_neg h1, lookup_putF, if_neg h2, lookup_putF, if_neg h3, lookup_putF, if_neg h4]; rfl
theorem fF_eq : fF lv lk fb lc = ([("variables", V.ref lv), ("kinds", V.ref lk), ("first_block", V.int fb), ("clauses", V.ref lc)] : List (Str × V)) := by
  show putF "clauses" (.ref lc) (putF "first_block" (.int fb) (if ("variables" : Str) = "kinds" then _ else _)) = _
  rw [if_neg n_vk]
  show putF "clauses" (.ref lc) (if ("variables" : Str) = "first_block" then _ else _ :: (if ("kinds" : Str) = "first_block" then _ else _)) = _
  rw [if_neg n_vb, if_neg n_kb]
  show (if ("variables" : Str) = "clauses" then _ else _ :: (if ("kinds" : Str) = "clauses" then _ else _ :: (if ("first_block" : Str) = "clauses" then _ else _))) = _
  rw [if_neg n_vc, if_neg n_kc, if_neg n_bc]; rfl
theorem fF_put (n : Nat) : putF "first_block" (.int n) (fF lv lk fb lc) = fF lv lk n lc := by
  rw [fF_eq, fF_eq]
  show (if ("variables" : Str) = "first_block" then _ else _ :: (if ("kinds" : Str) = "first_block" then _ else _ :: (if ("first_block" : Str) = "first_block" then _ else _))) = _
  rw [if_neg n_vb, if_neg n_kb, if_pos rfl]
theorem fF_len : (fF lv lk fb lc).length < 1000 := by rw [fF_eq]; show 4 < 1000; decide
end
structure TxtF (K : PySem.W.Frag) (mg : Str → Option Value) (CF : Addr) : Prop where
  cl : Cls K CF
  nv : NoAttr K CF "variables"
  nk : NoAttr K CF "kinds"
  nc : NoAttr K CF "clauses"
  nb : NoAttr K CF "first_block"
  mf : mg "Formula" = some (.ref CF)
  some_ : ∃ t, mg "SOME" = some (.str "e" t)
  all_ : ∃ t, mg "ALL" = some (.str "a" t)
  mv : ∃ t, mg "MOST_VARIABLES" = some (.int 20 t)
  mc : ∃ t, mg "MOST_CLAUSES" = some (.int 1024 t)
abbrev ordV (o : List (Nat × Bool)) : List V := o.map fun y => V.int (y.1 : Nat)
abbrev ordK (o : List (Nat × Bool)) : List V := o.map fun y => V.str (kd y.2)
structure FormAt (CF : Addr) (H : Hp) (p lv lk lc : Addr) (o : List (Nat × Bool)) (cs : List Ql66.Clause) : Prop where
  ob : ∃ dx fb, H p = some (.ins CF dx (fF lv lk fb lc))
  hv : H lv = some (.lst (ordV o))
  hk : H lk = some (.lst (ordK o))
  hc : ∃ ds : List Addr, H lc = some (.lst (ds.map V.ref)) ∧ Paired (fun d c => H d = some (.dK (cV c))) ds cs
  vk : lv ≠ lk
  vc : lv ≠ lc
  kc : lk ≠ lc
theorem FormAt.off {CF : Addr} {H H' : Hp} {p lv lk lc : Addr} {o : List (Nat × Bool)} {cs : List Ql66.Clause} {xs : List Addr} (f : FormAt CF H p lv lk lc o cs) (e : Off xs H H') (n : ∀ b u, H b = some u → (u = .lst (ordV o) → b ∉ xs) ∧ (u = .lst (ordK o) → b ∉ xs))
    (np : p ∉ xs) (nc : lc ∉ xs) (nd : ∀ b c, H b = some (.dK (cV c)) → b ∉ xs) : FormAt CF H' p lv lk lc o cs := by
  obtain ⟨⟨dx, fb, h1⟩, h2, h3, ⟨ds, h4, h5⟩, a, b, c⟩ := f
  exact ⟨⟨dx, fb, e _ _ h1 np⟩, e _ _ h2 ((n _ _ h2).1 rfl), e _ _ h3 ((n _ _ h3).2 rfl), ⟨ds, e _ _ h4 nc, Paired.mapP h5 fun d c q => e _ _ q (nd _ _ q)⟩, a, b, c⟩
theorem FormAt.offI {CF CR : Addr} {H H' : Hp} {p lv lk lc q dq : Addr} {fq : List (Str × V)} {o : List (Nat × Bool)} {cs : List Ql66.Clause} (f : FormAt CF H p lv lk lc o cs) (hq : H q = some (.ins CR dq fq)) (nq : p ≠ q) (e : Off [q] H H') : FormAt CF H' p lv lk lc o cs := by
  refine f.off e (fun b u h => ⟨fun z m => ?_, fun z m => ?_⟩) (by simp [nq]) (fun m => ?_) fun b c h m => ?_
  · simp at m; subst m; rw [hq] at h; cases h; cases z
  · simp at m; subst m; rw [hq] at h; cases h; cases z
  · obtain ⟨ds, h4, _⟩ := f.hc
    simp at m; subst m; rw [hq] at h4; cases h4
  · simp at m; subst m; rw [hq] at h; cases h
theorem FormAt.same {CF : Addr} {H H' : Hp} {p lv lk lc : Addr} {o : List (Nat × Bool)} {cs : List Ql66.Clause} (f : FormAt CF H p lv lk lc o cs) (e : Same H H') : FormAt CF H' p lv lk lc o cs :=
  f.off (xs := []) (Off.of e) (fun _ _ _ => ⟨fun _ m => (by cases m), fun _ m => (by cases m)⟩) (by simp) (by simp) fun _ _ _ m => (by cases m)
theorem codes_e : codes ("e" : Str) = [101] := by decide +kernel
theorem codes_a : codes ("a" : Str) = [97] := by decide +kernel
theorem oct_e : Sm.oct [101] = Ql66.txt "e" := by decide +kernel
theorem oct_a : Sm.oct [97] = Ql66.txt "a" := by decide +kernel
theorem is_e {w : List Int} (hb : Sm.Byts w) : Sm.oct w = Ql66.txt "e" ↔ w = [101] := by
  rw [← oct_e]
  exact ⟨fun e => Sm.oct_inj hb (fun x hx => by simp at hx; subst hx; exact ⟨by decide, by decide⟩) e, fun e => by rw [e]⟩
theorem is_a {w : List Int} (hb : Sm.Byts w) : Sm.oct w = Ql66.txt "a" ↔ w = [97] := by
  rw [← oct_a]
  exact ⟨fun e => Sm.oct_inj hb (fun x hx => by simp at hx; subst hx; exact ⟨by decide, by decide⟩) e, fun e => by rw [e]⟩
theorem pgS {X : Cx} {x : Str} {z : Str} {t : Tok} {pos : Pos} (hm : X.mg x = some (.str z t)) (hg : Gl X x := by rfl) (hd : (x == ("__debug__" : Str)) = false := by decide) : PE X (.Name x pos) (tC (.str z)) := pe_glob hg hm (v := .str z) ⟨_, rfl⟩ hd
abbrev isQ (w : List Int) : Prop := Sm.oct w = Ql66.txt "e" ∨ Sm.oct w = Ql66.txt "a"
structure Sep (l : Addr) (as : List Addr) (lv lk : Addr) : Prop where
  nv : l ≠ lv
  nk : l ≠ lk
  av : lv ∉ as
  ak : lk ∉ as
def spBlock (CR CW CF : Addr) : Sp := fun vs H Q E => ∃ (p l pf lv lk lc : Addr) (as : List Addr) (ws : List (List Int)) (k most : Nat) (o : List (Nat × Bool)) (cs : List Ql66.Clause), vs = [.ref p, .int most, .ref pf] ∧ ReaderAt CR H p l as ws k ∧ FormAt CF H pf lv lk lc o cs ∧ p ≠ pf ∧ Sep l as lv lk ∧
  k ≤ ws.length ∧ GoodWs ws ∧ most ≤ 20 ∧ Sm.Ord most o ∧
  (∀ (o' : List (Nat × Bool)) (k' : Nat) (H' : Hp), isQ (Sm.wordAt ws k) → Ql66.block most (Sm.oct (Sm.wordAt ws k) == Ql66.txt "e") o false (Sm.toksAt (k + 1) (ws.drop (k + 1))) = .ok (o', Sm.toksAt k' (ws.drop k')) → k < k' → k' ≤ ws.length → o.length < o'.length → Sm.Ord most o' →
    ReaderAt CR H' p l as ws k' → FormAt CF H' pf lv lk lc o' cs → Off [p, lv, lk] H H' → Q .non H') ∧
  (¬ isQ (Sm.wordAt ws k) → Wrong CW [p, lv, lk] H E (k + 1)) ∧
  (∀ e, isQ (Sm.wordAt ws k) → Ql66.block most (Sm.oct (Sm.wordAt ws k) == Ql66.txt "e") o false (Sm.toksAt (k + 1) (ws.drop (k + 1))) = .error e → Wrong CW [p, lv, lk] H E (Sm.errNo ws e))
theorem Off.more {p : Addr} {xs : List Addr} {H H' : Hp} (o : Off [p] H H') : Off (p :: xs) H H' := o.mono fun b m => by simp at m; subst m; simp
theorem ord_snoc (o : List (Nat × Bool)) (n : Nat) (q : Bool) : ordV o ++ [V.int n] = ordV (o ++ [(n, q)]) ∧ ordK o ++ [V.str (kd q)] = ordK (o ++ [(n, q)]) := by
  constructor <;> simp [ordV, ordK]
theorem inV_ord (o : List (Nat × Bool)) (n : Nat) : inV (.int (n : Int)) (ordV o) = o.any fun y => y.1 == n := by
  unfold inV ordV
  rw [List.any_map]
  congr 1
  funext y
  show ((y.1 : Int) == (n : Int)) = (y.1 == n)
  rw [Bool.eq_iff_iff, beq_iff_eq, beq_iff_eq]
  omega
theorem flat_ord (o : List (Nat × Bool)) : (ordV o).all flatV = true := by
  unfold ordV
  rw [List.all_map, List.all_eq_true]
  intro y _; rfl
theorem FormAt.grow {CF : Addr} {H : Hp} {p lv lk lc : Addr} {o : List (Nat × Bool)} {cs : List Ql66.Clause} (f : FormAt CF H p lv lk lc o cs) (n : Nat) (q : Bool) :
    FormAt CF (upd (upd H lv (.lst (ordV o ++ [V.int n]))) lk (.lst (ordK o ++ [V.str (kd q)]))) p lv lk lc (o ++ [(n, q)]) cs := by
  obtain ⟨⟨dx, fb, h1⟩, h2, h3, ⟨ds, h4, h5⟩, a, b, c⟩ := f
  obtain ⟨e1, e2⟩ := ord_snoc o n q
  rw [e1, e2]
  refine ⟨⟨dx, fb, ?_⟩, ?_, upd_same, ⟨ds, ?_, Paired.mapP h5 fun d c q => ?_⟩, a, b, c⟩
  · rw [upd_ne (ne_of h1 h3 (by intro z; cases z)), upd_ne (ne_of h1 h2 (by intro z; cases z))]; exact h1
  · rw [upd_ne a, upd_same]
  · rw [upd_ne c.symm, upd_ne b.symm]; exact h4
  · rw [upd_ne (ne_of q h3 (by intro z; cases z)), upd_ne (ne_of q h2 (by intro z; cases z))]; exact q
theorem ReaderAt.grow {CR : Addr} {H : Hp} {p l lv lk : Addr} {as : List Addr} {ws : List (List Int)} {k : Nat} {u v x y : List V} (r : ReaderAt CR H p l as ws k) (ap : Sep l as lv lk) (hv : H lv = some (.lst u)) (hk : H lk = some (.lst v)) : ReaderAt CR (upd (upd H lv (.lst x)) lk (.lst y)) p l as ws k := by
  obtain ⟨⟨dx, h1⟩, h2, h3⟩ := r
  refine ⟨⟨dx, ?_⟩, ?_, paired_upd (paired_upd h3 ap.av) ap.ak⟩
  · rw [upd_ne (ne_of h1 hk (by intro z; cases z)), upd_ne (ne_of h1 hv (by intro z; cases z))]; exact h1
  · rw [upd_ne ap.nk, upd_ne ap.nv]; exact h2
structure BlSt (CR CF : Addr) (H H1 : Hp) (p l pf lv lk lc : Addr) (as : List Addr) (ws : List (List Int)) (k0 k1 most : Nat) (q : Bool) (o o1 : List (Nat × Bool)) (cs : List Ql66.Clause) (n : Nat) : Prop where
  eq : ∃ any, Ql66.block most q o false (Sm.toksAt (k0 + 1) (ws.drop (k0 + 1))) = Sm.blockAt most q o1 any n k1 (ws.drop k1) ∧ (n = 0 → any = true ∧ o.length < o1.length)
  rd : ReaderAt CR H1 p l as ws k1
  fm : FormAt CF H1 pf lv lk lc o1 cs
  lo : k0 < k1
  hi : k1 ≤ ws.length
  of : Off [p, lv, lk] H H1
  or : Sm.Ord most o1
  le : o.length ≤ o1.length
  nm : n ≤ most
section
variable {P : Program} {w : World} {K : PySem.W.Frag} {mg : Str → Option Value} {base : Heap}
theorem scBl : FnScope ["reader", "most", "formula", "kind", "variable"] ["reader", "most", "formula"] (defScope sBlock) := ⟨rfl, rfl, rfl, by decide +kernel, rfl, by decide +kernel, by decide +kernel⟩
theorem ok_block {f fO fN CW fW CR CF : Addr} {fd fdO fdN fdW : FuncData} (F : Fun K "take_block" "take_block" sBlock f fd) (T : TxtR K mg CW fW CR fdW) (TF : TxtF K mg CF)
    (FO : Fun K "take_one_of" "Reader.take_one_of" sOneOf fO fdO) (bO : Binds K fdO ["self", "choices"] []) (mO : Meth K CR "take_one_of" fO) (GO : FnOk P w K mg base (CXx P w) 3 fO fdO ["self", "choices"] (spOne K CR CW))
    (FN : Fun K "take_number" "Reader.take_number" sNumber fN fdN) (bN : Binds K fdN ["self", "least", "most"] []) (mN : Meth K CR "take_number" fN) (GN : FnOk P w K mg base (CXx P w) 3 fN fdN ["self", "least", "most"] (spNum CR CW)) :
    FnOk P w K mg base (CXx P w) 4 f fd ["reader", "most", "formula"] (spBlock CR CW CF) := by
  have GW : FnOk P w K mg base CX0 1 fW fdW ["self", "number"] (spX CW "number") := ok_wrong T.fw T.xc T.ve
  obtain ⟨ts, hs⟩ := TF.some_
  obtain ⟨ta, ha⟩ := TF.all_
  refine F.okX scBl (fun vs H Q E h => ?_) (fun cdv A outer s H vs Q E hr h => ?_)
  · obtain ⟨p, l, pf, lv, lk, lc, as, ws, k, most, o, cs, rfl, _⟩ := h
    rfl
  · obtain ⟨p, l, pf, lv, lk, lc, as, ws, k, most, o, cs, rfl, R, Fm, npf, ap, hk, gw, hM, ord, k1, k2, k3⟩ := h
    have hr2 := hr.mono (show 2 ≤ 3 by decide)
    refine ⟨_, pss_cons (ps_set (i := 3) scBl.nd rfl (Or.inl rfl) (pe_meth (pv 0) T.cl mO GO hr bO .nil passX (pa_cons (pe_tup (pa_cons (pgS hs) (pa_cons (pgS ha) pa_nil))) pa_nil)))
      (pss_cons (ps_set (i := 4) scBl.nd rfl (Or.inl rfl) (pe_meth (pv 0) T.cl mN GN hr bN .nil passX (pa_cons pe_int (pa_cons (pv 1) pa_nil))))
      (pss_one (ps_while PassesOwn.leaving (pt_cmpR op_ne (pv 4) pe_int (nomark _))
        (pss_cons (ps_if (pt_cmpR op_in_seq (pv 4) (pe_fld (pv 2) rfl) (by with_unfolding_all rfl)) (pss_one (ps_raiseC T.xc GW T.bw hr2 rfl T.mw rfl rfl raiseX (pa_cons (pe_fld (pv 0) rfl) pa_nil))) pss_nil)
        (pss_cons (ps_expr (pe_bm PySem.F.plainAttrs_list PySem.F.slot_list_append PySem.F.type_list_append mt_append (pe_fld (pv 2) rfl) (pa_cons (pv 4) pa_nil)))
        (pss_cons (ps_expr (pe_bm PySem.F.plainAttrs_list PySem.F.slot_list_append PySem.F.type_list_append mt_append (pe_fld (pv 2) rfl) (pa_cons (pv 3) pa_nil)))
        (pss_one (ps_set (i := 4) scBl.nd rfl (Or.inl rfl) (pe_meth (pv 0) T.cl mN GN hr bN .nil passX (pa_cons pe_int (pa_cons (pv 1) pa_nil))))))))))), ?_⟩
    have gf := gw.few
    obtain ⟨gb, gl⟩ := gw.at k
    have sz : sizeLine = 16777216 := sizeLine_eq
    obtain ⟨⟨dx, hp⟩, wd⟩ := id R
    refine ⟨_, rfl, p, dx, _, rfl, hp, rdF_no _ _ (by decide +kernel) (by decide +kernel), by show 2 ≤ sizeLine; decide, fun t ht => ?_⟩
    have s0 : Same H (upd H t (.tup [.str "e", .str "a"])) := Same.upd ht
    have R0 : ReaderAt CR (upd H t (.tup [.str "e", .str "a"])) p l as ws k := ⟨⟨dx, s0 _ _ hp⟩, wd.off (Off.of (xs := []) s0) (fun _ _ _ m => by cases m)⟩
    have F0 := Fm.same s0
    have q_e : ∀ {w : List Int}, Sm.Byts w → (codes ("e" : Str) = w ↔ Sm.oct w = Ql66.txt "e") := fun {w} hb => by rw [codes_e, is_e hb]; exact eq_comm
    have q_a : ∀ {w : List Int}, Sm.Byts w → (codes ("a" : Str) = w ↔ Sm.oct w = Ql66.txt "a") := fun {w} hb => by rw [codes_a, is_a hb]; exact eq_comm
    refine ⟨p, t, l, as, ["e", "a"], ws, k, rfl, .inl (.inl upd_same), by intro ch m; simp at m; rcases m with rfl | rfl <;> decide +kernel, R0, hk, gw, fun ch H1 mem ec R1 o1 => ?_, fun no => ?_⟩
    · -- a kind has come
      have hq : isQ (Sm.wordAt ws k) ∧ ch = kd (Sm.oct (Sm.wordAt ws k) == Ql66.txt "e") := by
        simp at mem
        rcases mem with rfl | rfl
        · have := (q_e gb).mp ec
          exact ⟨.inl this, by unfold kd; rw [if_pos (by rw [show Sm.oct (Sm.wordAt ws k) = Ql66.txt "e" from this]; exact beq_self_eq_true _)]⟩
        · have := (q_a gb).mp ec
          refine ⟨.inr this, ?_⟩
          unfold kd
          rw [if_neg]
          rw [show Sm.oct (Sm.wordAt ws k) = Ql66.txt "a" from this]
          decide +kernel
      obtain ⟨hq, rfl⟩ := hq
      generalize (Sm.oct (Sm.wordAt ws k) == Ql66.txt "e") = qq at k1 k3 ⊢
      have hk1 : k < ws.length := by
        refine Nat.lt_of_le_of_ne hk fun q => ?_
        have e0 : Sm.wordAt ws k = [] := Sm.word_end (by omega)
        rw [e0] at hq
        rcases hq with hq | hq <;> exact absurd hq (by decide +kernel)
      have F1 := F0.offI (s0 _ _ hp) npf.symm o1
      have oT : Off [p, lv, lk] H H1 := (Off.of s0).trans o1.more
      obtain ⟨dx1, hp1⟩ := R1.ob
      have st := Sm.block_step (vars := most) (q := qq) (any := false) (l := o) (show k + 1 ≤ ws.length from hk1)
      have wr : ∀ {H2 : Hp} {e : Nat}, Ql66.block most qq o false (Sm.toksAt (k + 1) (ws.drop (k + 1))) = .error e → Off [p, lv, lk] H H2 → Wrong CW [p] H2 E (Sm.errNo ws e) := fun {H2 e} he oo dx' H' hx o' => k3 e hq he dx' H' hx (oo.trans o'.more)
      refine ⟨_, rfl, p, dx1, _, rfl, hp1, rdF_no _ _ (by decide +kernel) (by decide +kernel), _, rfl, p, l, as, ws, k + 1, 1, most, rfl, R1, hk1, gw, by omega, fun n H2 en hn R2 o2 => ?_, fun no => ?_⟩
      · -- the first variable
        have en' : Sm.upTo (Sm.wordAt ws (k + 1)) most = some n := en
        rw [en'] at st
        have hk2 : k + 1 < ws.length := by
          refine Nat.lt_of_le_of_ne hk1 fun q => ?_
          have e0 : wAt ws (k + 1) = [] := Sm.word_end (by omega)
          rw [e0, Sm.upTo_nil] at en; cases en
        have F2 := F1.offI hp1 npf.symm o2
        refine ⟨fun m σ H3 => ∃ (o1 : List (Nat × Bool)) (n k1 : Nat), m = ws.length - k1 ∧ σ = [some (.ref p), some (.int most), some (.ref pf), some (.str (kd qq)), some (.int (n : Nat))] ∧ BlSt CR CF H H3 p l pf lv lk lc as ws k k1 most qq o o1 cs n,
          ⟨_, o, n, k + 1 + 1, rfl, rfl, ⟨⟨false, st, fun z => by omega⟩, R2, F2, by omega, hk2, oT.trans o2.more, ord, Nat.le_refl _, Sm.upTo_le en⟩⟩, ?_⟩
        rintro m σ H3 ⟨o1', n, k1', rfl, rfl, S⟩
        obtain ⟨any, eq, ez⟩ := S.eq
        obtain ⟨dx3, hp3⟩ := S.rd.ob
        obtain ⟨dx4, fb4, hp4⟩ := S.fm.ob
        have lo := S.lo
        have hi := S.hi
        refine ⟨_, rfl, rfl, _, rfl, ifB (fun e => ?_) (fun e => ?_)⟩
        · have e' : n ≠ 0 := fun q => by subst q; simp at e
          refine ⟨fun σ' H' => ∃ m', m' < ws.length - k1' ∧ ∃ (o1 : List (Nat × Bool)) (n k1 : Nat), m' = ws.length - k1 ∧ σ' = [some (.ref p), some (.int most), some (.ref pf), some (.str (kd qq)), some (.int (n : Nat))] ∧ BlSt CR CF H H' p l pf lv lk lc as ws k k1 most qq o o1 cs n, fun _ _ q => q, ?_⟩
          unfold Sm.blockAt at eq
          rw [if_neg e'] at eq
          refine ⟨_, rfl, _, rfl, pf, CF, dx4, _, _, rfl, hp4, TF.cl, TF.nv, fF_vars _ _ _ _, lv, _, rfl, .inl (SqL.of S.fm.hv), rfl, flat_ord _, _, rfl, ?_⟩
          rw [show (if false = true then !inV (V.int (n : Nat)) (ordV o1') else inV (V.int (n : Nat)) (ordV o1')) = o1'.any fun y => y.1 == n by rw [if_neg Bool.false_ne_true, inV_ord]]
          refine ifB (fun dup => ?_) (fun dup => ?_)
          · rw [if_pos dup] at eq
            have W := wr eq S.of
            have en : Sm.errNo ws k1' = k1' := by unfold Sm.errNo; rw [if_neg (by omega)]
            rw [en] at W
            exact ⟨_, rfl, p, CR, dx3, _, _, rfl, hp3, T.cl, T.nt, rdF_taken _ _, _, rfl, by omega, by omega, wrong_of (m := (k1' : Int)) W (Off.of (Same.refl _)) rfl⟩
          · have nd : ¬ (o1'.any fun y => y.1 == n) = true := by rw [dup]; exact Bool.false_ne_true
            rw [if_neg nd] at eq
            have ln := S.or.len
            have hlv : (ordV o1').length < sizeLine := by unfold ordV; rw [List.length_map]; omega
            have hlk : (ordK o1').length < sizeLine := by unfold ordK; rw [List.length_map]; omega
            refine ⟨_, rfl, pf, CF, dx4, _, _, rfl, hp4, TF.cl, TF.nv, fF_vars _ _ _ _, .inl ⟨rfl, _, SqL.of S.fm.hv⟩, _, rfl, lv, _, _, rfl, rfl, S.fm.hv, hlv, ?_⟩
            have nvp : pf ≠ lv := ne_of hp4 S.fm.hv (by intro z; cases z)
            have hp4' : upd H3 lv (.lst (ordV o1' ++ [V.int (n : Nat)])) pf = some (.ins CF dx4 (fF lv lk fb4 lc)) := by rw [upd_ne nvp]; exact hp4
            have hk4' : upd H3 lv (.lst (ordV o1' ++ [V.int (n : Nat)])) lk = some (.lst (ordK o1')) := by rw [upd_ne S.fm.vk.symm]; exact S.fm.hk
            refine ⟨_, rfl, pf, CF, dx4, _, _, rfl, hp4', TF.cl, TF.nk, fF_kinds _ _ _ _, .inl ⟨rfl, _, SqL.of hk4'⟩, _, rfl, lk, _, _, rfl, rfl, hk4', hlk, ?_⟩
            have F5 := S.fm.grow n qq
            have R5 := S.rd.grow (x := ordV o1' ++ [V.int (n : Nat)]) (y := ordK o1' ++ [V.str (kd qq)]) ap S.fm.hv S.fm.hk
            have o5 : Off [p, lv, lk] H (upd (upd H3 lv (.lst (ordV o1' ++ [V.int (n : Nat)]))) lk (.lst (ordK o1' ++ [V.str (kd qq)]))) := fun b u e n => by
              rw [upd_ne (fun z => n (by simp [z])), upd_ne (fun z => n (by simp [z]))]; exact S.of b u e n
            have ord5 : Sm.Ord most (o1' ++ [(n, qq)]) := S.or.snoc (by omega) S.nm nd
            generalize upd (upd H3 lv (.lst (ordV o1' ++ [V.int (n : Nat)]))) lk (.lst (ordK o1' ++ [V.str (kd qq)])) = H5 at F5 R5 o5 ⊢
            obtain ⟨dx5, hp5⟩ := R5.ob
            have st2 := Sm.block_step (vars := most) (q := qq) (any := true) (l := o1' ++ [(n, qq)]) hi
            rw [st2] at eq
            have le := S.le
            refine ⟨_, rfl, p, dx5, _, rfl, hp5, rdF_no _ _ (by decide +kernel) (by decide +kernel), _, rfl, p, l, as, ws, k1', 0, most, rfl, R5, hi, gw, by omega, fun n2 H6 en2 _ R6 o6 => ?_, fun no => ?_⟩
            · have en2' : Sm.upTo (Sm.wordAt ws k1') most = some n2 := en2
              rw [en2'] at eq
              have hk2' : k1' < ws.length := by
                refine Nat.lt_of_le_of_ne hi fun q => ?_
                have e0 : wAt ws k1' = [] := Sm.word_end (by omega)
                rw [e0, Sm.upTo_nil] at en2; cases en2
              exact ⟨_, by omega, o1' ++ [(n, qq)], n2, k1' + 1, rfl, rfl, ⟨⟨true, eq, fun _ => ⟨rfl, by simp; omega⟩⟩, R6, F5.offI hp5 npf.symm o6, by omega, hk2', o5.trans o6.more, ord5, by simp; omega, Sm.upTo_le en2⟩⟩
            · have en2' : Sm.upTo (Sm.wordAt ws k1') most = none := by
                cases q : Sm.upTo (Sm.wordAt ws k1') most with
                | none => rfl
                | some n2 => exact absurd (Nat.zero_le _) (no n2 q)
              rw [en2'] at eq
              have W := wr eq o5
              rw [Sm.errNo_at hi] at W
              exact W
        · have e' : n = 0 := by
            have : (!decide (V.int (n : Nat) = V.int 0)) = false := e
            simp at this; omega
          obtain ⟨ea, el⟩ := ez e'
          unfold Sm.blockAt at eq
          rw [if_pos e', if_pos ea] at eq
          exact k1 o1' k1' H3 hq eq lo hi el S.or S.rd S.fm S.of
      · cases q : Sm.upTo (Sm.wordAt ws (k + 1)) most with
        | none =>
          rw [q] at st
          have W := wr st oT
          rw [Sm.errNo_at hk1] at W
          exact W
        | some n =>
          have hn : n = 0 := by have := no n q; omega
          subst hn
          rw [q] at st
          have st' : Ql66.block most qq o false (Sm.toksAt (k + 1) (ws.drop (k + 1))) = .error (k + 1 + 1) := st
          have W := wr st' oT
          have en : Sm.errNo ws (k + 1 + 1) = k + 1 + 1 := by unfold Sm.errNo; rw [if_neg (by omega)]
          rw [en] at W
          exact W
    · have : ¬ isQ (Sm.wordAt ws k) := by
        rintro (z | z)
        · exact no "e" (by simp) ((q_e gb).mpr z)
        · exact no "a" (by simp) ((q_a gb).mpr z)
      exact fun dx' H' hx oo => k2 this dx' H' hx (((Off.of s0).trans oo).more)
end
abbrev sKindOf : Stmt := inClass (top 15) 1
section
variable (P : Program) (w : World) (K : PySem.W.Frag) (mg : Str → Option Value) (base : Heap)
def Pr (CX : CXT) (k : Nat) (name : Str) (ps : List Str) (sp : Sp) : Prop := ∃ f fd, PySem.W.keepIn K (.ref f) = true ∧ Binds K fd ps [] ∧ mg name = some (.ref f) ∧ FnOk P w K mg base CX k f fd ps sp
def PrM (CX : CXT) (k : Nat) (C : Addr) (name : Str) (ps : List Str) (sp : Sp) : Prop := ∃ f fd, Meth K C name f ∧ Binds K fd ps [] ∧ FnOk P w K mg base CX k f fd ps sp
def PrC (CX : CXT) (k : Nat) (C : Addr) (ps : List Str) (sp : Sp) : Prop := ∃ f fd, Mk K C f ∧ Binds K fd ps [] ∧ FnOk P w K mg base CX k f fd ps sp
def InitOf (C : Addr) (qual : Str) (st : Stmt) (ps : List Str) : Prop := ∃ f fd, Fun K "__init__" qual st f fd ∧ Binds K fd ps [] ∧ Mk K C f
end
abbrev New (xs : List Addr) (H : Hp) : Prop := ∀ x ∈ xs, H x = none
theorem _root_.L2.Same.off {xs : List Addr} {H H1 H2 : Hp} (s : Same H H1) (o : Off xs H1 H2) (n : New xs H) : Same H H2 := fun b u e => o b u (s b u e) fun m => by
  rw [n b m] at e; cases e
theorem _root_.L2.Same.set {H H1 : Hp} {p : Addr} {o : HO} (s : Same H H1) (n : H p = none) : Same H (L2.upd H1 p o) := L2.Same.off s (xs := [p]) Off.upd fun x m => by simp at m; subst m; exact n
theorem Wrong.new {CW : Addr} {xs : List Addr} {H H1 : Hp} {E : XK} {n : Nat} (W : Wrong CW [] H E n) (s : Same H H1) (nw : New xs H) : Wrong CW xs H1 E n := fun dx H' h o => W dx H' h (Off.of (L2.Same.off s o nw))
theorem made {H : Hp} {x dx : Addr} {o o' : HO} (hx : H x = none) (hd : H dx = none) (ne : dx ≠ x) : Same H (upd (upd H dx o) x o') := L2.Same.set (Same.upd hd) hx
def FmAt (CF : Addr) (H : Hp) (p : Addr) (f : Ql66.Formula) (fb : Nat) : Prop := ∃ (dx lv lk lc : Addr) (ds : List Addr), H p = some (.ins CF dx (fF lv lk fb lc)) ∧ H lv = some (.lst (ordV f.order)) ∧ H lk = some (.lst (ordK f.order)) ∧
  H lc = some (.lst (ds.map V.ref)) ∧ Paired (fun d c => H d = some (.dK (cV c))) ds f.clauses
theorem FmAt.same {CF : Addr} {H H' : Hp} {p : Addr} {f : Ql66.Formula} {fb : Nat} (h : FmAt CF H p f fb) (s : Same H H') : FmAt CF H' p f fb := by
  obtain ⟨dx, lv, lk, lc, ds, h1, h2, h3, h4, h5⟩ := h
  exact ⟨dx, lv, lk, lc, ds, s _ _ h1, s _ _ h2, s _ _ h3, s _ _ h4, Paired.mapP h5 fun d c q => s _ _ q⟩
def spFi (CF : Addr) : Sp := fun vs H Q _ => ∃ (p dx : Addr), vs = [.ref p] ∧ H p = some (.ins CF dx []) ∧
  ∀ (lv lk lc : Addr) (H' : Hp), H' p = some (.ins CF dx (fF lv lk 0 lc)) → FormAt CF H' p lv lk lc [] [] → Off [p] H H' → New [lv, lk, lc] H → Q .non H'
def spKind (CF : Addr) : Sp := fun vs H Q _ => ∃ (p : Addr) (f : Ql66.Formula) (fb x : Nat), vs = [.ref p, .int x] ∧ FmAt CF H p f fb ∧ Sm.FW f ∧ 1 ≤ x ∧ x ≤ f.size ∧ Q (.str (kd (f.some_ x))) H
def spReadF (K : PySem.W.Frag) (CW CF : Addr) : Sp := fun vs H Q E => ∃ (a : Addr) (t : List Int), vs = [.ref a] ∧ SqL K H a (iL t) ∧ t.length ≤ 90000 ∧ Sm.Byts t ∧
  (∀ (pf : Addr) (f : Ql66.Formula) (fb : Nat) (H' : Hp), Sm.form0 (Sm.wordsOf t) = .ok f → Sm.FW f → fb = Ql66.firstBlock (Sm.toksAt 0 (Sm.wordsOf t)) → fb ≤ f.size → FmAt CF H' pf f fb → Same H H' → Q (.ref pf) H') ∧
  (∀ e, Sm.form0 (Sm.wordsOf t) = .error e → Wrong CW [] H E (Sm.errNo (Sm.wordsOf t) e))
theorem some_at {f : Ql66.Formula} (W : Sm.FW f) {j x : Nat} {q : Bool} (h : f.order[j]? = some (x, q)) : f.some_ x = q := by
  unfold Ql66.Formula.some_
  cases q with
  | true =>
    rw [List.any_eq_true]
    exact ⟨(x, true), List.mem_of_getElem? h, by simp⟩
  | false =>
    rw [List.any_eq_false]
    rintro ⟨y, b⟩ hy z
    simp at z
    obtain ⟨rfl, rfl⟩ := z
    obtain ⟨i, hi⟩ := List.getElem?_of_mem hy
    have a : (Sm.varsOf f)[i]? = some y := by rw [List.getElem?_map, hi]; rfl
    have b : (Sm.varsOf f)[j]? = some y := by rw [List.getElem?_map, h]; rfl
    have := nd_ix W.nd a b
    subst this
    rw [hi] at h; cases h
theorem goodWs_of {t : List Int} (hb : Sm.Byts t) (hl : t.length ≤ 90000) : GoodWs (Sm.wordsOf t) := by
  have h := Sm.wordsOf_len t
  exact ⟨by omega, fun w hw => ⟨Sm.wordsOf_byts hb w hw, by have := Sm.sum_mem hw; omega⟩⟩
section
variable {P : Program} {w : World} {K : PySem.W.Frag} {mg : Str → Option Value} {base : Heap}
theorem scFi : FnScope ["self"] ["self"] (defScope sFormula) := ⟨rfl, rfl, rfl, by decide +kernel, rfl, by decide +kernel, by decide +kernel⟩
theorem ok_formula {CF : Addr} (D : InitOf K CF "Formula.__init__" sFormula ["self"]) (TF : TxtF K mg CF) : PrC P w K mg base CX0 1 CF ["self"] (spFi CF) := by
  obtain ⟨f, fd, F, b, M⟩ := D
  refine ⟨f, fd, M, b, F.ok scFi (fun vs H Q E h => ?_) (fun cdv A outer s H vs Q E hr h => ?_)⟩
  · obtain ⟨p, dx, rfl, _⟩ := h
    rfl
  · obtain ⟨p, dx, rfl, hp, k⟩ := h
    refine ⟨_, pss_cons (ps_fld (pv 0) (pe_lst pa_nil) rfl) (pss_cons (ps_fld (pv 0) (pe_lst pa_nil) rfl) (pss_cons (ps_fld (pv 0) pe_int rfl) (pss_one (ps_fld (pv 0) (pe_lst pa_nil) rfl)))), ?_⟩
    refine ⟨Nat.zero_le _, fun lv h1 => ⟨_, rfl, p, CF, dx, _, rfl, (Same.upd h1) _ _ hp, TF.cl, TF.nv, by show 0 < 1000; decide, ?_⟩⟩
    refine ⟨Nat.zero_le _, fun lk h2 => ⟨_, rfl, p, CF, dx, _, rfl, (Same.upd h2) _ _ upd_same, TF.cl, TF.nk, by show 1 < 1000; decide, ?_⟩⟩
    refine ⟨_, rfl, p, CF, dx, _, rfl, upd_same, TF.cl, TF.nb, by show 2 < 1000; decide, ?_⟩
    refine ⟨Nat.zero_le _, fun lc h3 => ⟨_, rfl, p, CF, dx, _, rfl, (Same.upd h3) _ _ upd_same, TF.cl, TF.nc, by show 3 < 1000; decide, ?_⟩⟩
    have pv : p ≠ lv := ne_of_none hp h1
    have pk : p ≠ lk := ne_of_none upd_same h2
    have pc : p ≠ lc := ne_of_none upd_same h3
    have vk : lv ≠ lk := fun z => by subst z; rw [upd_ne pv.symm, upd_same] at h2; cases h2
    have vc : lv ≠ lc := fun z => by
      subst z
      rw [upd_ne pv.symm, upd_ne pv.symm, upd_ne vk, upd_ne pv.symm, upd_same] at h3; cases h3
    have kc : lk ≠ lc := fun z => by
      subst z
      rw [upd_ne pk.symm, upd_ne pk.symm, upd_same] at h3; cases h3
    have e1 : ∀ {X Y : Hp} {o : HO}, X lv = some o → (upd (upd Y lc (.lst [])) p (.ins CF dx (fF lv lk 0 lc))) lv = Y lv := fun _ => by rw [upd_ne pv.symm, upd_ne vc]
    refine k lv lk lc _ upd_same ⟨⟨dx, 0, upd_same⟩, ?_, ?_, ⟨[], ?_, .nil⟩, vk, vc, kc⟩ (fun b o e n => ?_) (fun x m => ?_)
    · rw [upd_ne pv.symm, upd_ne vc, upd_ne pv.symm, upd_ne pv.symm, upd_ne vk, upd_ne pv.symm, upd_same]; rfl
    · rw [upd_ne pk.symm, upd_ne kc, upd_ne pk.symm, upd_ne pk.symm, upd_same]; rfl
    · rw [upd_ne pc.symm, upd_same]; rfl
    · have nb : b ≠ p := by simpa using n
      have bv : b ≠ lv := ne_of_none e h1
      have bk : b ≠ lk := fun z => by subst z; rw [upd_ne nb, upd_ne bv, e] at h2; cases h2
      have bc : b ≠ lc := fun z => by subst z; rw [upd_ne nb, upd_ne nb, upd_ne bk, upd_ne nb, upd_ne bv, e] at h3; cases h3
      rw [upd_ne nb, upd_ne bc, upd_ne nb, upd_ne nb, upd_ne bk, upd_ne nb, upd_ne bv]; exact e
    · simp at m
      rcases m with rfl | rfl | rfl
      · exact h1
      · rw [upd_ne pk.symm, upd_ne vk.symm] at h2; exact h2
      · rw [upd_ne pc.symm, upd_ne pc.symm, upd_ne kc.symm, upd_ne pc.symm, upd_ne vc.symm] at h3; exact h3
theorem scKi : FnScope ["self", "variable"] ["self", "variable"] (defScope sKindOf) := ⟨rfl, rfl, rfl, by decide +kernel, rfl, by decide +kernel, by decide +kernel⟩
theorem ok_kind {CF : Addr} (D : MethOf K CF "kind_of" "Formula.kind_of" sKindOf ["self", "variable"]) (TF : TxtF K mg CF) : PrM P w K mg base CX0 1 CF "kind_of" ["self", "variable"] (spKind CF) := by
  obtain ⟨f, fd, F, b, M⟩ := D
  refine ⟨f, fd, M, b, F.ok scKi (fun vs H Q E h => ?_) (fun cdv A outer s H vs Q E hr h => ?_)⟩
  · obtain ⟨p, f, fb, x, rfl, _⟩ := h
    rfl
  · obtain ⟨p, f, fb, x, rfl, ⟨dx, lv, lk, lc, ds, h1, h2, h3, h4, h5⟩, W, hx1, hx2, k⟩ := h
    refine ⟨_, pss_one (ps_ret (pe_ix ix_list (pe_fld (pv 0) rfl) (pe_bm PySem.F.plainAttrs_list PySem.F.slot_list_index PySem.F.type_list_index mt_index (pe_fld (pv 0) rfl) (pa_cons (pv 1) pa_nil)) (fun _ _ => rfl))), ?_⟩
    obtain ⟨j, hj⟩ := List.getElem?_of_mem (W.all x hx1 hx2)
    obtain ⟨⟨y, q⟩, hy, e⟩ : ∃ y, f.order[j]? = some y ∧ y.1 = x := by
      rw [List.getElem?_map] at hj
      cases e : f.order[j]? with
      | none => rw [e] at hj; cases hj
      | some y => rw [e] at hj; exact ⟨y, rfl, Option.some.inj hj⟩
    have e' : y = x := e
    subst e'
    have hk := some_at W hy
    rw [hk] at k
    refine ⟨_, rfl, p, CF, dx, _, _, rfl, h1, TF.cl, TF.nk, fF_kinds _ _ _ _, _, rfl, p, CF, dx, _, _, rfl, h1, TF.cl, TF.nv, fF_vars _ _ _ _, .inl ⟨rfl, _, SqL.of h2⟩, _, rfl, lv, _, _, j, .int (y : Nat), rfl, rfl, SqL.of h2, rfl, flat_ord _, ?_, ?_, ?_, ?_⟩
    · show (ordV f.order)[j]? = _
      rw [ordV, List.getElem?_map, hy]; rfl
    · show ((y : Int) == (y : Int)) = true
      simp
    · intro m z' hm hz
      rw [ordV, List.getElem?_map] at hz
      cases e : f.order[m]? with
      | none => rw [e] at hz; cases hz
      | some u =>
        rw [e] at hz
        cases hz
        show ((u.1 : Int) == (y : Int)) = false
        rw [beq_eq_false_iff_ne]
        intro q
        have q' : u.1 = y := by omega
        have a1 : (Sm.varsOf f)[m]? = some y := by rw [List.getElem?_map, e]; exact congrArg some q'
        have a2 : (Sm.varsOf f)[j]? = some y := by rw [List.getElem?_map, hy]; rfl
        have := nd_ix W.nd a1 a2
        omega
    · exact ⟨lk, _, _, _, rfl, rfl, SqL.of h3, at_of (j := j) (v := .str (kd q)) rfl (by rw [ordK, List.getElem?_map, hy]; rfl), k⟩
end
structure DefsW (K : PySem.W.Frag) (mg : Str → Option Value) (CR : Addr) : Prop where
  split : DefOf K mg "split_words" sSplit ["text"]
  upTo : DefOf K mg "number_up_to" sUpTo ["word", "most"]
  litUp : DefOf K mg "literal_up_to" sLitUp ["word", "most"]
  init : InitOf K CR "Reader.__init__" sReader ["self", "text"]
  coming : MethOf K CR "coming" "Reader.coming" sComing ["self"]
  one : MethOf K CR "take_one_of" "Reader.take_one_of" sOneOf ["self", "choices"]
  num : MethOf K CR "take_number" "Reader.take_number" sNumber ["self", "least", "most"]
  lit : MethOf K CR "take_literal" "Reader.take_literal" sLiteral ["self", "most"]
  en : MethOf K CR "take_end" "Reader.take_end" sEnd ["self"]
  block : DefOf K mg "take_block" sBlock ["reader", "most", "formula"]
  clause : DefOf K mg "take_clause" sClause ["reader", "most"]
  ab : mg "abs" = none
section
variable {P : Program} {w : World} {K : PySem.W.Frag} {mg : Str → Option Value} {base : Heap} {CW fW CR CF : Addr} {fdW : FuncData}
theorem pr_reader (T : TxtR K mg CW fW CR fdW) (D : DefsW K mg CR) : PrC P w K mg base CX0 2 CR ["self", "text"] (spRd K CR) := by
  obtain ⟨f, fd, F, b, M⟩ := D.init
  obtain ⟨fS, fdS, FS, bS, mS⟩ := D.split
  exact ⟨f, fd, M, b, ok_reader F T FS bS mS⟩
theorem pr_one (T : TxtR K mg CW fW CR fdW) (D : DefsW K mg CR) : PrM P w K mg base (CXx P w) 3 CR "take_one_of" ["self", "choices"] (spOne K CR CW) := by
  obtain ⟨f, fd, F, b, M⟩ := D.one
  obtain ⟨fC, fdC, FC, bC, mC⟩ := D.coming
  exact ⟨f, fd, M, b, ok_oneOf F T FC bC mC⟩
theorem pr_num (T : TxtR K mg CW fW CR fdW) (D : DefsW K mg CR) : PrM P w K mg base (CXx P w) 3 CR "take_number" ["self", "least", "most"] (spNum CR CW) := by
  obtain ⟨f, fd, F, b, M⟩ := D.num
  obtain ⟨fC, fdC, FC, bC, mC⟩ := D.coming
  obtain ⟨fU, fdU, FU, bU, mU⟩ := D.upTo
  exact ⟨f, fd, M, b, ok_number F T FC bC mC FU bU mU⟩
theorem pr_end (T : TxtR K mg CW fW CR fdW) (D : DefsW K mg CR) : PrM P w K mg base (CXx P w) 3 CR "take_end" ["self"] (spEnd CR CW) := by
  obtain ⟨f, fd, F, b, M⟩ := D.en
  exact ⟨f, fd, M, b, ok_end F T⟩
theorem pr_clause (T : TxtR K mg CW fW CR fdW) (D : DefsW K mg CR) : Pr P w K mg base (CXx P w) 4 "take_clause" ["reader", "most"] (spClause CR CW) := by
  obtain ⟨f, fd, F, b, m⟩ := D.clause
  obtain ⟨fT, fdT, FT, bT, mT⟩ := D.lit
  obtain ⟨fC, fdC, FC, bC, mC⟩ := D.coming
  obtain ⟨fU, fdU, FU, bU, mU⟩ := D.upTo
  obtain ⟨fL, fdL, FL, bL, mL⟩ := D.litUp
  exact ⟨f, fd, F.kp, b, m, ok_clause F T D.ab FT bT mT (ok_literal FT T FC bC mC FU bU mU FL bL mL)⟩
theorem pr_block (T : TxtR K mg CW fW CR fdW) (TF : TxtF K mg CF) (D : DefsW K mg CR) : Pr P w K mg base (CXx P w) 4 "take_block" ["reader", "most", "formula"] (spBlock CR CW CF) := by
  obtain ⟨f, fd, F, b, m⟩ := D.block
  obtain ⟨fO, fdO, FO, bO, mO⟩ := D.one
  obtain ⟨fN, fdN, FN, bN, mN⟩ := D.num
  obtain ⟨fC, fdC, FC, bC, mC⟩ := D.coming
  obtain ⟨fU, fdU, FU, bU, mU⟩ := D.upTo
  exact ⟨f, fd, F.kp, b, m, ok_block F T TF FO bO mO (ok_oneOf FO T FC bC mC) FN bN mN (ok_number FN T FC bC mC FU bU mU)⟩
end
theorem codes_p : codes ("p" : Str) = [112] := by decide +kernel
theorem codes_cnf : codes ("cnf" : Str) = [99, 110, 102] := by decide +kernel
theorem is_lit {w u : List Int} {x : String} (e : Sm.oct u = Ql66.txt x) (hu : Sm.Byts u) (hb : Sm.Byts w) : Sm.oct w = Ql66.txt x ↔ w = u := by
  rw [← e]
  exact ⟨fun e => Sm.oct_inj hb hu e, fun e => by rw [e]⟩
theorem byts_of {u : List Int} (h : (u.all fun x => decide (0 ≤ x ∧ x ≤ 255)) = true) : Sm.Byts u := fun x hx => show 0 ≤ x ∧ x ≤ 255 from of_decide_eq_true (List.all_eq_true.mp h x hx)
theorem word_lt {ws : List (List Int)} {k : Nat} (hk : k ≤ ws.length) (h : Sm.wordAt ws k ≠ []) : k < ws.length := by
  refine Nat.lt_of_le_of_ne hk fun q => h (Sm.word_end (by omega))
theorem upTo_lt {ws : List (List Int)} {k m n : Nat} (hk : k ≤ ws.length) (h : Sm.upTo (Sm.wordAt ws k) m = some n) : k < ws.length := by
  refine word_lt hk fun z => ?_
  rw [z, Sm.upTo_nil] at h; cases h
structure RfSt (CR CF : Addr) (H H1 : Hp) (p l pf dx lv lk lc : Addr) (as ds : List Addr) (ws : List (List Int)) (k fb : Nat) (o : List (Nat × Bool)) (cs : List Ql66.Clause) : Prop where
  rd : ReaderAt CR H1 p l as ws k
  hk : k ≤ ws.length
  ob : H1 pf = some (.ins CF dx (fF lv lk fb lc))
  hv : H1 lv = some (.lst (ordV o))
  hkk : H1 lk = some (.lst (ordK o))
  hc : H1 lc = some (.lst (ds.map V.ref))
  pr : Paired (fun d c => H1 d = some (.dK (cV c))) ds cs
  vk : lv ≠ lk
  vc : lv ≠ lc
  kc : lk ≠ lc
  np : p ≠ pf
  ap : Sep l as lv lk
  lcl : l ≠ lc
  lca : lc ∉ as
  sm : Same H H1
  nw : New [p, pf, lv, lk, lc] H
theorem RfSt.fm {CR CF : Addr} {H H1 : Hp} {p l pf dx lv lk lc : Addr} {as ds : List Addr} {ws : List (List Int)} {k fb : Nat} {o : List (Nat × Bool)} {cs : List Ql66.Clause} (S : RfSt CR CF H H1 p l pf dx lv lk lc as ds ws k fb o cs) : FormAt CF H1 pf lv lk lc o cs :=
  ⟨⟨dx, fb, S.ob⟩, S.hv, S.hkk, ⟨ds, S.hc, S.pr⟩, S.vk, S.vc, S.kc⟩
theorem RfSt.blk {CR CF : Addr} {H H1 H2 : Hp} {p l pf dx lv lk lc : Addr} {as ds : List Addr} {ws : List (List Int)} {k k' fb : Nat} {o o' : List (Nat × Bool)} {cs : List Ql66.Clause} (S : RfSt CR CF H H1 p l pf dx lv lk lc as ds ws k fb o cs)
    (R : ReaderAt CR H2 p l as ws k') (hk' : k' ≤ ws.length) (F2 : FormAt CF H2 pf lv lk lc o' cs) (of : Off [p, lv, lk] H1 H2) : RfSt CR CF H H2 p l pf dx lv lk lc as ds ws k' fb o' cs := by
  obtain ⟨⟨dxr, hp⟩, wd⟩ := S.rd
  have n1 : pf ∉ [p, lv, lk] := fun m => by
    simp at m
    rcases m with z | z | z
    · exact S.np z.symm
    · have := S.ob; rw [z, S.hv] at this; cases this
    · have := S.ob; rw [z, S.hkk] at this; cases this
  have n2 : lc ∉ [p, lv, lk] := fun m => by
    simp at m
    rcases m with z | z | z
    · have := S.hc; rw [z, hp] at this; cases this
    · exact S.vc z.symm
    · exact S.kc z.symm
  have nw := S.nw
  refine ⟨R, hk', of _ _ S.ob n1, F2.hv, F2.hk, of _ _ S.hc n2, Paired.mapP S.pr fun d c q => of _ _ q fun m => ?_, S.vk, S.vc, S.kc, S.np, S.ap, S.lcl, S.lca, L2.Same.off S.sm of (fun x m => nw x ?_), nw⟩
  · simp at m
    rcases m with z | z | z
    · rw [z, hp] at q; cases q
    · rw [z, S.hv] at q; cases q
    · rw [z, S.hkk] at q; cases q
  · simp at m ⊢
    rcases m with z | z | z <;> simp [z]
theorem RfSt.cla {CR CF : Addr} {H H1 H2 : Hp} {p l pf dx lv lk lc d : Addr} {as ds : List Addr} {ws : List (List Int)} {k k' fb : Nat} {o : List (Nat × Bool)} {cs : List Ql66.Clause} {c : Ql66.Clause} (S : RfSt CR CF H H1 p l pf dx lv lk lc as ds ws k fb o cs)
    (R : ReaderAt CR H2 p l as ws k') (hk' : k' ≤ ws.length) (hd : H2 d = some (.dK (cV c))) (of : Off [p] H1 H2) : H2 lc = some (.lst (ds.map V.ref)) ∧ H2 pf = some (.ins CF dx (fF lv lk fb lc)) ∧
      RfSt CR CF H (upd H2 lc (.lst (ds.map V.ref ++ [.ref d]))) p l pf dx lv lk lc as (ds ++ [d]) ws k' fb o (cs ++ [c]) := by
  obtain ⟨⟨dxr, hp⟩, wd⟩ := S.rd
  have nl : ∀ b u, H1 b = some (.lst u) → b ∉ [p] := fun b u e m => by simp at m; subst m; rw [hp] at e; cases e
  have hc2 := of _ _ S.hc (nl _ _ S.hc)
  have ob2 := of _ _ S.ob (by simp [S.np.symm])
  refine ⟨hc2, ob2, ?_⟩
  have nw := S.nw
  have hv2 := of _ _ S.hv (nl _ _ S.hv)
  have hk2 := of _ _ S.hkk (nl _ _ S.hkk)
  obtain ⟨⟨dx2, hp2⟩, wl, wp⟩ := R
  refine ⟨⟨⟨dx2, ?_⟩, ?_, paired_upd wp S.lca⟩, hk', ?_, ?_, ?_, ?_, ?_, S.vk, S.vc, S.kc, S.np, S.ap, S.lcl, S.lca, ?_, nw⟩
  · rw [upd_ne (ne_of hp2 hc2 (by intro z; cases z))]; exact hp2
  · rw [upd_ne S.lcl]; exact wl
  · rw [upd_ne (ne_of ob2 hc2 (by intro z; cases z))]; exact ob2
  · rw [upd_ne S.vc]; exact hv2
  · rw [upd_ne S.kc]; exact hk2
  · rw [upd_same, List.map_append]; rfl
  · refine Paired.snoc (Paired.mapP S.pr fun e c' q => ?_) (by rw [upd_ne (ne_of hd hc2 (by intro z; cases z))]; exact hd)
    have q2 := of _ _ q (fun m => by simp at m; subst m; rw [hp] at q; cases q)
    rw [upd_ne (ne_of q2 hc2 (by intro z; cases z))]; exact q2
  · exact L2.Same.set (L2.Same.off S.sm of fun x m => nw x (by simp at m ⊢; simp [m])) (nw lc (by simp))
theorem form4_eq (most cnt : Nat) (ws : List (List Int)) : Sm.form4 most cnt (ws.drop 4) = (Ql66.blocks most (ws.length - 4 + 1) [] (Sm.toksAt 4 (ws.drop 4))).bind fun o => (Ql66.clauses most cnt o.2).bind fun l => Sm.endF o.1 l.1 l.2 := by
  unfold Sm.form4
  rw [List.length_drop]
abbrev restB (most cnt f : Nat) (o : List (Nat × Bool)) (k : Nat) (ws : List (List Int)) : Except Nat Ql66.Formula := (Ql66.blocks most f o (Sm.toksAt k (ws.drop k))).bind fun o => (Ql66.clauses most cnt o.2).bind fun l => Sm.endF o.1 l.1 l.2
abbrev restC (most n : Nat) (o : List (Nat × Bool)) (cs : List Ql66.Clause) (k : Nat) (ws : List (List Int)) : Except Nat Ql66.Formula := ((Ql66.clauses most n (Sm.toksAt k (ws.drop k))).map fun l => (cs ++ l.1, l.2)).bind fun l => Sm.endF o l.1 l.2
theorem restB_done {most cnt f k : Nat} {o : List (Nat × Bool)} {ws : List (List Int)} (h : o.length = most) : restB most cnt f o k ws = restC most cnt o [] k ws := by
  unfold restB restC
  rw [Sm.blocks_done h, Sm.map_id_pair]; rfl
theorem restB_wrong {most cnt f k : Nat} {o : List (Nat × Bool)} {ws : List (List Int)} (h : o.length < most) (hk : k ≤ ws.length) (hf : ws.length - k + 1 ≤ f) (q : ¬ isQ (Sm.wordAt ws k)) : restB most cnt f o k ws = .error (Sm.errAt ws k) := by
  unfold restB
  rw [Sm.blocks_fuel h hk hf, if_neg q]; rfl
theorem restB_err {most cnt f k e : Nat} {o : List (Nat × Bool)} {ws : List (List Int)} (h : o.length < most) (hk : k ≤ ws.length) (hf : ws.length - k + 1 ≤ f) (q : isQ (Sm.wordAt ws k))
    (he : Ql66.block most (Sm.oct (Sm.wordAt ws k) == Ql66.txt "e") o false (Sm.toksAt (k + 1) (ws.drop (k + 1))) = .error e) : restB most cnt f o k ws = .error e := by
  unfold restB
  rw [Sm.blocks_fuel h hk hf, if_pos q, he]; rfl
theorem restB_ok {most cnt f k k' : Nat} {o o' : List (Nat × Bool)} {ws : List (List Int)} (h : o.length < most) (hk : k ≤ ws.length) (hf : ws.length - k + 1 ≤ f) (q : isQ (Sm.wordAt ws k))
    (he : Ql66.block most (Sm.oct (Sm.wordAt ws k) == Ql66.txt "e") o false (Sm.toksAt (k + 1) (ws.drop (k + 1))) = .ok (o', Sm.toksAt k' (ws.drop k'))) : restB most cnt f o k ws = restB most cnt (f - 1) o' k' ws := by
  conv => lhs; unfold restB
  rw [Sm.blocks_fuel h hk hf, if_pos q, he]; rfl
theorem restC_err {most n k e : Nat} {o : List (Nat × Bool)} {cs : List Ql66.Clause} {ws : List (List Int)} (he : Ql66.clause most [] (Sm.toksAt k (ws.drop k)) = .error e) : restC most (n + 1) o cs k ws = .error e := by
  unfold restC
  rw [Sm.clauses_err he]; rfl
theorem restC_ok {most n k k' : Nat} {o : List (Nat × Bool)} {cs : List Ql66.Clause} {c : Ql66.Clause} {ws : List (List Int)} (he : Ql66.clause most [] (Sm.toksAt k (ws.drop k)) = .ok (c, Sm.toksAt k' (ws.drop k'))) : restC most (n + 1) o cs k ws = restC most n o (cs ++ [c]) k' ws := by
  conv => lhs; unfold restC
  rw [Sm.clauses_more he]
theorem restC_end {most k : Nat} {o : List (Nat × Bool)} {cs : List Ql66.Clause} {ws : List (List Int)} (hk : k ≤ ws.length) : restC most 0 o cs k ws = if k = ws.length then .ok ⟨o, cs⟩ else .error (k + 1) := by
  unfold restC
  rw [Sm.clauses_zero]
  show Sm.endF o (cs ++ []) (Sm.toksAt k (ws.drop k)) = _
  rw [List.append_nil]
  by_cases e : k = ws.length
  · rw [if_pos e, List.drop_of_length_le (by omega)]; rfl
  · rw [if_neg e, Sm.drop_at (by omega), Sm.toksAt_cons]; rfl
section
variable {P : Program} {w : World} {K : PySem.W.Frag} {mg : Str → Option Value} {base : Heap} {CW fW CR CF : Addr} {fdW : FuncData}
theorem scRF : FnScope ["text", "reader", "most", "how_many", "formula"] ["text"] (defScope sReadF) := ⟨rfl, rfl, rfl, by decide +kernel, rfl, by decide +kernel, by decide +kernel⟩
theorem ok_readF (T : TxtR K mg CW fW CR fdW) (TF : TxtF K mg CF) (D : DefsW K mg CR) (DI : InitOf K CF "Formula.__init__" sFormula ["self"]) (DR : DefOf K mg "read_formula" sReadF ["text"]) :
    Pr P w K mg base (CXx P w) 6 "read_formula" ["text"] (spReadF K CW CF) := by
  obtain ⟨fi, fdi, MR, bi, GR⟩ := pr_reader (P := P) (w := w) (base := base) T D
  obtain ⟨fO, fdO, mO, bO, GO⟩ := pr_one (P := P) (w := w) (base := base) T D
  obtain ⟨fN, fdN, mN, bN, GN⟩ := pr_num (P := P) (w := w) (base := base) T D
  obtain ⟨fE, fdE, mE, bE, GE⟩ := pr_end (P := P) (w := w) (base := base) T D
  obtain ⟨fC, fdC, kC, bC, mC, GC⟩ := pr_clause (P := P) (w := w) (base := base) T D
  obtain ⟨fB, fdB, kB, bB, mB, GB⟩ := pr_block (P := P) (w := w) (base := base) T TF D
  obtain ⟨fF', fdF, MF, bF, GF⟩ := ok_formula (P := P) (w := w) (base := base) DI TF
  obtain ⟨tv, hmv⟩ := TF.mv
  obtain ⟨tc, hmc⟩ := TF.mc
  obtain ⟨f, fd, F, b, m⟩ := DR
  refine ⟨f, fd, F.kp, b, m, F.okX scRF (fun vs H Q E h => ?_) (fun cdv A outer s H vs Q E hr h => ?_)⟩
  · obtain ⟨a, t, rfl, _⟩ := h
    rfl
  · obtain ⟨a, t, rfl, hS, hL, hB, k1, k2⟩ := h
    have hr3 := hr.mono (show 3 ≤ 5 by decide)
    have hr2 := hr.mono (show 2 ≤ 5 by decide)
    have hr4 := hr.mono (show 4 ≤ 5 by decide)
    refine ⟨_, pss_cons (ps_set (i := 1) scRF.nd rfl (Or.inl rfl) (pe_make MR GR hr3 rfl T.mr bi .nil pass0 (pa_cons (pv 0) pa_nil)))
      (pss_cons (ps_expr (pe_meth (pv 1) T.cl mO GO hr3 bO .nil passX (pa_cons (pe_tup (pa_cons pe_str pa_nil)) pa_nil)))
      (pss_cons (ps_expr (pe_meth (pv 1) T.cl mO GO hr3 bO .nil passX (pa_cons (pe_tup (pa_cons pe_str pa_nil)) pa_nil)))
      (pss_cons (ps_set (i := 2) scRF.nd rfl (Or.inl rfl) (pe_meth (pv 1) T.cl mN GN hr3 bN .nil passX (pa_cons pe_int (pa_cons (pgI hmv) pa_nil))))
      (pss_cons (ps_set (i := 3) scRF.nd rfl (Or.inl rfl) (pe_meth (pv 1) T.cl mN GN hr3 bN .nil passX (pa_cons pe_int (pa_cons (pgI hmc) pa_nil))))
      (pss_cons (ps_set (i := 4) scRF.nd rfl (Or.inl rfl) (pe_make0 MF GF hr2 rfl TF.mf bF .nil pass0))
      (pss_cons (ps_expr (pe_call GB hr4 rfl mB kB bB .nil passX (pa_cons (pv 1) (pa_cons (pv 2) (pa_cons (pv 4) pa_nil)))))
      (pss_cons (ps_fld (pv 4) (pe_callB call_len_seq (by rfl) T.tw.len PySem.boot_len (pa_cons (pe_fld (pv 4) rfl) pa_nil)) rfl)
      (pss_cons (ps_while PassesOwn.leaving (pt_cmpR op_lt (pe_callB call_len_seq (by rfl) T.tw.len PySem.boot_len (pa_cons (pe_fld (pv 4) rfl) pa_nil)) (pv 2) (nomark _))
        (pss_one (ps_expr (pe_call GB hr4 rfl mB kB bB .nil passX (pa_cons (pv 1) (pa_cons (pv 2) (pa_cons (pv 4) pa_nil)))))))
      (pss_cons (ps_while PassesOwn.leaving (pt_cmpR op_lt (pe_callB call_len_seq (by rfl) T.tw.len PySem.boot_len (pa_cons (pe_fld (pv 4) rfl) pa_nil)) (pv 3) (nomark _))
        (pss_one (ps_expr (pe_bm PySem.F.plainAttrs_list PySem.F.slot_list_append PySem.F.type_list_append mt_append (pe_fld (pv 4) rfl) (pa_cons (pe_call GC hr4 rfl mC kC bC .nil passX (pa_cons (pv 1) (pa_cons (pv 2) pa_nil))) pa_nil)))))
      (pss_cons (ps_expr (pe_meth0 (pv 1) T.cl mE GE hr3 bE .nil passX))
      (pss_one (ps_ret (pv 4))))))))))))), ?_⟩
    have gw := goodWs_of hB hL
    have gb := Sm.wordsOf_byts hB
    generalize hws : Sm.wordsOf t = ws at k1 k2 gw gb
    have gf := gw.few
    have sz : sizeLine = 16777216 := sizeLine_eq
    refine ⟨_, rfl, fun p dp hp0 hdp0 nep => ⟨p, dp, a, t, rfl, upd_same, (made hp0 hdp0 nep).seq hS, by omega, fun l as H1 R1 o1 hl has => ⟨rfl, ?_⟩⟩⟩
    rw [hws] at R1
    have s1 : Same H H1 := L2.Same.off (made hp0 hdp0 nep) o1 fun x m => by simp at m; subst m; exact hp0
    have hnp : New [p] H := fun x m => by simp at m; subst m; exact hp0
    have wr : ∀ {H2 : Hp} {e : Nat}, Sm.form0 ws = .error e → Same H H2 → Wrong CW [p] H2 E (Sm.errNo ws e) := fun he ss => (k2 _ he).new ss hnp
    have ro : ∀ {H1 H2 : Hp} {k : Nat}, ReaderAt CR H1 p l as ws k → Same H1 H2 → ReaderAt CR H2 p l as ws k := fun {H1 H2 k} R ss => by
      obtain ⟨⟨dx, h1⟩, wd⟩ := R
      exact ⟨⟨dx, ss _ _ h1⟩, wd.off (Off.of (xs := []) ss) (fun _ _ _ m => by cases m)⟩
    -- p
    obtain ⟨dx1, hp1⟩ := R1.ob
    refine ⟨_, rfl, p, dx1, _, rfl, hp1, rdF_no _ _ (by decide +kernel) (by decide +kernel), by show 1 ≤ sizeLine; decide, fun u hu => ?_⟩
    refine ⟨p, u, l, as, ["p"], ws, 0, rfl, .inl (.inl upd_same), by intro ch m; simp at m; subst m; decide +kernel, ro R1 (Same.upd hu), Nat.zero_le _, gw, fun ch H2 mem ec R2 o2 => ?_, fun no => ?_⟩
    rotate_left
    · have : ¬ Sm.oct (Sm.wordAt ws 0) = Ql66.txt "p" := fun z => no "p" (by simp) (by
        rw [codes_p]
        exact ((is_lit (u := [112]) (by decide +kernel) (byts_of (by decide +kernel)) (gw.at 0).1).mp z).symm)
      have e0 := Sm.form0_step ws
      rw [if_neg this] at e0
      have W := wr (H2 := upd H1 u (.tup [.str "p"])) e0 (s1.trans (Same.upd hu))
      rw [Sm.errNo_at (Nat.zero_le _)] at W
      exact W
    simp at mem
    subst mem
    have e0 := Sm.form0_step ws
    rw [if_pos ((is_lit (u := [112]) (by decide +kernel) (byts_of (by decide +kernel)) (gw.at 0).1).mpr (ec.symm.trans codes_p))] at e0
    have hk1 : 1 ≤ ws.length := word_lt (k := 0) (Nat.zero_le _) (by rw [show Sm.wordAt ws 0 = _ from ec.symm, codes_p]; simp)
    have s2 : Same H H2 := L2.Same.off (s1.trans (Same.upd hu)) o2 hnp
    -- cnf
    obtain ⟨dx2, hp2⟩ := R2.ob
    refine ⟨_, rfl, p, dx2, _, rfl, hp2, rdF_no _ _ (by decide +kernel) (by decide +kernel), by show 1 ≤ sizeLine; decide, fun u2 hu2 => ?_⟩
    refine ⟨p, u2, l, as, ["cnf"], ws, 1, rfl, .inl (.inl upd_same), by intro ch m; simp at m; subst m; decide +kernel, ro R2 (Same.upd hu2), hk1, gw, fun ch H3 mem ec2 R3 o3 => ?_, fun no => ?_⟩
    rotate_left
    · have : ¬ Sm.oct (Sm.wordAt ws 1) = Ql66.txt "cnf" := fun z => no "cnf" (by simp) (by
        rw [codes_cnf]
        exact ((is_lit (u := [99, 110, 102]) (by decide +kernel) (byts_of (by decide +kernel)) (gw.at 1).1).mp z).symm)
      have e1 := Sm.form1_step hk1
      rw [if_neg this] at e1
      have W := wr (H2 := upd H2 u2 (.tup [.str "cnf"])) (e0.trans e1) (s2.trans (Same.upd hu2))
      rw [Sm.errNo_at hk1] at W
      exact W
    simp at mem
    subst mem
    have e1 := e0.trans (Sm.form1_step hk1)
    rw [if_pos ((is_lit (u := [99, 110, 102]) (by decide +kernel) (byts_of (by decide +kernel)) (gw.at 1).1).mpr (ec2.symm.trans codes_cnf))] at e1
    have hk2 : 2 ≤ ws.length := word_lt (k := 1) hk1 (by rw [show Sm.wordAt ws 1 = _ from ec2.symm, codes_cnf]; simp)
    have s3 : Same H H3 := L2.Same.off (s2.trans (Same.upd hu2)) o3 hnp
    have e2 := e1.trans (Sm.form2_step hk2)
    -- V
    obtain ⟨dx3, hp3⟩ := R3.ob
    refine ⟨_, rfl, p, dx3, _, rfl, hp3, rdF_no _ _ (by decide +kernel) (by decide +kernel), p, l, as, ws, 2, 1, 20, rfl, R3, hk2, gw, by omega, fun most H4 en hn R4 o4 => ?_, fun no => ?_⟩
    rotate_left
    · cases q : Sm.upTo (Sm.wordAt ws 2) 20 with
      | none =>
        rw [q] at e2
        have W := wr (H2 := H3) e2 s3
        rw [Sm.errNo_at hk2] at W
        exact W
      | some n =>
        rw [q] at e2
        have e2' : Sm.form0 ws = if 1 ≤ n then Sm.form3 n (ws.drop 3) else .error 3 := e2
        rw [if_neg (no n q)] at e2'
        exact wr (H2 := H3) e2' s3
    rw [show Sm.upTo (Sm.wordAt ws 2) 20 = some most from en] at e2
    have e2' : Sm.form0 ws = if 1 ≤ most then Sm.form3 most (ws.drop 3) else .error 3 := e2
    rw [if_pos hn] at e2'
    have hm20 : most ≤ 20 := Sm.upTo_le en
    have hk3 : 3 ≤ ws.length := upTo_lt (k := 2) hk2 en
    have s4 : Same H H4 := L2.Same.off s3 o4 hnp
    have e3 := e2'.trans (Sm.form3_step hk3)
    -- C
    obtain ⟨dx4, hp4⟩ := R4.ob
    refine ⟨_, rfl, p, dx4, _, rfl, hp4, rdF_no _ _ (by decide +kernel) (by decide +kernel), p, l, as, ws, 3, 0, 1024, rfl, R4, hk3, gw, by omega, fun cnt H5 en2 hn2 R5 o5 => ?_, fun no => ?_⟩
    rotate_left
    · cases q : Sm.upTo (Sm.wordAt ws 3) 1024 with
      | none =>
        rw [q] at e3
        have W := wr (H2 := H4) e3 s4
        rw [Sm.errNo_at hk3] at W
        exact W
      | some n => exact absurd (Nat.zero_le n) (no n q)
    rw [show Sm.upTo (Sm.wordAt ws 3) 1024 = some cnt from en2] at e3
    have e4 : Sm.form0 ws = restB most cnt (ws.length - 4 + 1) [] 4 ws := by
      have : Sm.form0 ws = Sm.form4 most cnt (ws.drop 4) := e3
      rw [this, form4_eq]
    have hc1024 : cnt ≤ 1024 := Sm.upTo_le en2
    have hk4 : 4 ≤ ws.length := upTo_lt (k := 3) hk3 en2
    have s5 : Same H H5 := L2.Same.off s4 o5 hnp
    -- Formula()
    intro pf df hpf0 hdf0 nef
    refine ⟨pf, df, rfl, upd_same, fun lv lk lc H6 ob6 F6 o6 nw6 => ⟨rfl, ?_⟩⟩
    have sm6 : Same H5 H6 := L2.Same.off (made hpf0 hdf0 nef) o6 fun x m => by simp at m; subst m; exact hpf0
    have R6 := ro R5 sm6
    have nw6' : New [lv, lk, lc] H5 := fun x m => by
      cases e : H5 x with
      | none => rfl
      | some u => have := nw6 x m; rw [(made hpf0 hdf0 nef) _ _ e] at this; cases this
    obtain ⟨⟨dx5, hp5⟩, wl5, wp5⟩ := R5
    have has5 : ∀ x, x ∈ as → ∃ u, H5 x = some u := fun x m => by
      obtain ⟨i, hi⟩ := List.getElem?_of_mem m
      cases e : H5 x with
      | none => exact absurd e (paired_mem wp5 x m)
      | some u => exact ⟨u, rfl⟩
    have nas : ∀ x, H5 x = none → x ∉ as := fun x e m => by obtain ⟨u, q⟩ := has5 x m; rw [e] at q; cases q
    have nl : ∀ x, H5 x = none → l ≠ x := fun x e z => by subst z; rw [wl5] at e; cases e
    have nH : ∀ x, H5 x = none → H x = none := fun x e => s5.free e
    have S6 : RfSt CR CF H H6 p l pf df lv lk lc as [] ws 4 0 [] [] := by
      refine ⟨R6, hk4, ob6, F6.hv, F6.hk, ?_, .nil, F6.vk, F6.vc, F6.kc, ne_of_none hp5 hpf0, ⟨nl _ (nw6' lv (by simp)), nl _ (nw6' lk (by simp)), nas _ (nw6' lv (by simp)), nas _ (nw6' lk (by simp))⟩, nl _ (nw6' lc (by simp)), nas _ (nw6' lc (by simp)), s5.trans sm6, fun x m => ?_⟩
      · obtain ⟨ds, h1, h2⟩ := F6.hc
        cases h2; exact h1
      · simp at m
        rcases m with rfl | rfl | rfl | rfl | rfl
        · exact hp0
        · exact nH _ hpf0
        · exact nH _ (nw6' _ (by simp))
        · exact nH _ (nw6' _ (by simp))
        · exact nH _ (nw6' _ (by simp))
    -- the first block
    have nb : ∀ {H' : Hp} {k fb : Nat} {o : List (Nat × Bool)} {cs : List Ql66.Clause} {ds : List Addr}, RfSt CR CF H H' p l pf df lv lk lc as ds ws k fb o cs → New [p, lv, lk] H := fun S x m => S.nw x (by simp at m ⊢; rcases m with z | z | z <;> simp [z])
    refine ⟨_, rfl, _, rfl, _, rfl, p, l, pf, lv, lk, lc, as, ws, 4, most, [], [], rfl, S6.rd, S6.fm, S6.np, S6.ap, hk4, gw, hm20, Sm.Ord.nil most, fun o7 k7 H7 hq he lo hi hl or7 R7 F7 of7 => ?_, fun hq => ?_, fun e hq he => ?_⟩
    rotate_left
    · have W := (k2 _ (e4.trans (restB_wrong (by simp; omega) hk4 (by omega) hq))).new (xs := [p, lv, lk]) S6.sm (nb S6)
      rw [Sm.errNo_at hk4] at W
      exact W
    · exact (k2 _ (e4.trans (restB_err (by simp; omega) hk4 (by omega) hq he))).new (xs := [p, lv, lk]) S6.sm (nb S6)
    have S7 := S6.blk R7 hi F7 of7
    have e7 := e4.trans (restB_ok (by simp; omega) hk4 (by omega) hq he)
    have hfirst : Ql66.firstBlock (Sm.toksAt 0 ws) = o7.length := Sm.first_block gb (by omega) he
    -- first_block
    refine ⟨_, rfl, pf, CF, df, _, _, rfl, S7.ob, TF.cl, TF.nv, fF_vars _ _ _ _, lv, _, rfl, .inl (SqL.of S7.hv), _, rfl, pf, CF, df, _, rfl, S7.ob, TF.cl, TF.nb, fF_len _ _ _ _, ?_⟩
    have lo7 : (ordV o7).length = o7.length := by simp
    rw [lo7, fF_put]
    have S8 : RfSt CR CF H (upd H7 pf (.ins CF df (fF lv lk o7.length lc))) p l pf df lv lk lc as [] ws k7 o7.length o7 [] := by
      have ob := S7.ob
      have ne : ∀ {b : Addr} {u : HO}, H7 b = some u → (∀ z, u ≠ .ins CF df z) → b ≠ pf := fun {b u} e nz z => by
        subst z; rw [ob] at e; cases e; exact nz _ rfl
      obtain ⟨⟨dxr, hpr⟩, wl, wp⟩ := S7.rd
      refine ⟨⟨⟨dxr, ?_⟩, ?_, Paired.mapP wp fun x w q => ?_⟩, S7.hk, upd_same, ?_, ?_, ?_, .nil, S7.vk, S7.vc, S7.kc, S7.np, S7.ap, S7.lcl, S7.lca, ?_, S7.nw⟩
      · rw [upd_ne S7.np]; exact hpr
      · rw [upd_ne (ne wl (by intro z q; cases q))]; exact wl
      · rw [upd_ne (ne q (by intro z q; cases q))]; exact q
      · rw [upd_ne (ne S7.hv (by intro z q; cases q))]; exact S7.hv
      · rw [upd_ne (ne S7.hkk (by intro z q; cases q))]; exact S7.hkk
      · rw [upd_ne (ne S7.hc (by intro z q; cases q))]; exact S7.hc
      · exact L2.Same.set S7.sm (S7.nw pf (by simp))
    -- the other blocks
    refine ⟨fun mm σ HH => ∃ (k fu : Nat) (o : List (Nat × Bool)), mm = ws.length - k ∧ σ = [some (.ref a), some (.ref p), some (.int most), some (.int cnt), some (.ref pf)] ∧ RfSt CR CF H HH p l pf df lv lk lc as [] ws k o7.length o [] ∧ Sm.Ord most o ∧ ws.length - k + 1 ≤ fu ∧ Sm.form0 ws = restB most cnt fu o k ws ∧ o7.length ≤ o.length,
      ⟨_, k7, ws.length - 4 + 1 - 1, o7, rfl, rfl, S8, or7, by omega, e7, Nat.le_refl _⟩, ?_⟩
    rintro mm σ HH ⟨k, fu, o, rfl, rfl, S, or, hfu, eq, hge⟩
    have lo' : (ordV o).length = o.length := by simp
    refine ⟨_, rfl, pf, CF, df, _, _, rfl, S.ob, TF.cl, TF.nv, fF_vars _ _ _ _, lv, _, rfl, .inl (SqL.of S.hv), _, rfl, _, _, rfl, rfl, _, rfl, ifD (fun c => ?_) (fun c => ?_)⟩
    · have c' : o.length < most := by rw [lo'] at c; omega
      refine ⟨_, fun σ' H' q => q, ?_⟩
      refine ⟨_, rfl, _, rfl, _, rfl, p, l, pf, lv, lk, lc, as, ws, k, most, o, [], rfl, S.rd, S.fm, S.np, S.ap, S.hk, gw, hm20, or, fun o9 k9 H9 hq9 he9 lo9 hi9 hl9 or9 R9 F9 of9 => ?_, fun hq9 => ?_, fun e hq9 he9 => ?_⟩
      · exact ⟨_, by omega, k9, fu - 1, o9, rfl, rfl, S.blk R9 hi9 F9 of9, or9, by omega, eq.trans (restB_ok c' S.hk hfu hq9 he9), by omega⟩
      · have W := (k2 _ (eq.trans (restB_wrong c' S.hk hfu hq9))).new (xs := [p, lv, lk]) S.sm (nb S)
        rw [Sm.errNo_at S.hk] at W
        exact W
      · exact (k2 _ (eq.trans (restB_err c' S.hk hfu hq9 he9))).new (xs := [p, lv, lk]) S.sm (nb S)
    have c' : o.length = most := by
      have := or.len
      rw [lo'] at c; omega
    have eqC := eq.trans (restB_done c')
    -- the clauses
    refine ⟨fun mm σ HH => ∃ (k : Nat) (cs : List Ql66.Clause) (ds : List Addr), mm = cnt - cs.length ∧ σ = [some (.ref a), some (.ref p), some (.int most), some (.int cnt), some (.ref pf)] ∧ RfSt CR CF H HH p l pf df lv lk lc as ds ws k o7.length o cs ∧ cs.length ≤ cnt ∧ (∀ c ∈ cs, Sm.GoodC most c) ∧ Sm.form0 ws = restC most (cnt - cs.length) o cs k ws,
      ⟨_, k, [], [], rfl, rfl, S, Nat.zero_le _, (fun c m => by cases m), eqC⟩, ?_⟩
    clear S hfu eq eqC
    rintro mm σ HH ⟨k, cs, ds, rfl, rfl, S, hcs, gc, eq⟩
    have ld : ds.length = cs.length := S.pr.length
    have lo'' : (ds.map V.ref).length = cs.length := by simp [ld]
    refine ⟨_, rfl, pf, CF, df, _, _, rfl, S.ob, TF.cl, TF.nc, fF_clauses _ _ _ _, lc, _, rfl, .inl (SqL.of S.hc), _, rfl, _, _, rfl, rfl, _, rfl, ifD (fun d => ?_) (fun d => ?_)⟩
    · have d' : cs.length < cnt := by rw [lo''] at d; omega
      have hn : cnt - cs.length = (cnt - (cs.length + 1)) + 1 := by omega
      rw [hn] at eq
      refine ⟨_, fun σ' H' q => q, ?_⟩
      refine ⟨_, rfl, pf, CF, df, _, _, rfl, S.ob, TF.cl, TF.nc, fF_clauses _ _ _ _, .inl ⟨rfl, _, SqL.of S.hc⟩, _, rfl, _, rfl, p, l, as, ws, k, most, rfl, S.rd, S.hk, gw, hm20, fun c9 k9 d9 H9 he9 lo9 hi9 R9 hd9 hd0 of9 => ?_, fun e he9 => ?_⟩
      · obtain ⟨hc9, ob9, S9⟩ := S.cla R9 hi9 hd9 of9
        refine ⟨lc, _, _, rfl, rfl, hc9, by rw [lo'']; omega, ?_⟩
        refine ⟨cnt - (cs ++ [c9]).length, by rw [List.length_append, List.length_singleton]; omega, k9, cs ++ [c9], ds ++ [d9], rfl, rfl, S9, by simp; omega, fun c m => ?_, ?_⟩
        · rcases List.mem_append.mp m with q | q
          · exact gc c q
          · simp at q; subst q; exact Sm.clause_good _ _ _ _ (Sm.GoodC.nil most) he9
        · have := eq.trans (restC_ok he9)
          rw [List.length_append]; exact this
      · exact (k2 _ (eq.trans (restC_err he9))).new (xs := [p]) S.sm hnp
    have d' : cs.length = cnt := by rw [lo''] at d; omega
    rw [show cnt - cs.length = 0 by omega] at eq
    have eqE := eq.trans (restC_end S.hk)
    -- the end
    obtain ⟨dxz, hpz⟩ := S.rd.ob
    refine ⟨_, rfl, p, dxz, _, rfl, hpz, rdF_no _ _ (by decide +kernel) (by decide +kernel), p, l, as, ws, k, rfl, S.rd, S.hk, gw, fun he => ?_, fun he => ?_⟩
    · rw [if_pos he] at eqE
      refine ⟨_, rfl, k1 pf ⟨o, cs⟩ o7.length HH eqE (Sm.fw_of or c' hn hm20 gc (by omega)) hfirst.symm hge ⟨df, lv, lk, lc, ds, S.ob, S.hv, S.hkk, S.hc, S.pr⟩ S.sm⟩
    · rw [if_neg (by omega)] at eqE
      have W := (k2 _ eqE).new (xs := [p]) S.sm hnp
      have en : Sm.errNo ws (k + 1) = k + 1 := by unfold Sm.errNo; rw [if_neg (by omega)]
      rw [en] at W
      exact W
end
abbrev sOutInit : Stmt := inClass (top 32) 0
abbrev sIsTrue : Stmt := inClass (top 32) 1
abbrev sCount : Stmt := inClass (top 32) 2
abbrev sPlace : Stmt := top 33
abbrev sLevels : Stmt := top 34
abbrev sMasks : Stmt := top 35
abbrev sOnes : Stmt := top 36
abbrev sEither : Stmt := top 37
abbrev sRows : Stmt := top 38
abbrev sByLate : Stmt := top 39
abbrev sHolding : Stmt := top 40
abbrev sRow : Stmt := top 41
abbrev sPlaces : Stmt := top 42
def hV : Option Bool → V
  | none => .non
  | some b => .int (b.toNat : Nat)
def hK : Option Bool → KeyN := Option.map fun b => Sum.inl ((b.toNat : Nat) : Int)
theorem hK_V (h : Option Bool) : kN (hK h) = hV h := by cases h <;> rfl
theorem hKs_V (hs : List (Option Bool)) : (hs.map hK).map kN = hs.map hV := by
  rw [List.map_map]; exact List.map_congr_left fun h _ => hK_V h
abbrev nL (l : List Nat) : List V := l.map fun (n : Nat) => V.int (n : Nat)
structure TxtT (K : PySem.W.Frag) (mg : Str → Option Value) (CO : Addr) : Prop where
  early : ∃ t, mg "EARLY" = some (.int 10 t)
  bits : ∃ t, mg "ROW_BITS" = some (.int 1024 t)
  some_ : ∃ t, mg "SOME" = some (.str "e" t)
  len : mg "len" = none
  rev : mg "reversed" = none
  mn : mg "min" = none
  zip : mg "zip" = none
  list : mg "list" = none
  tuple : mg "tuple" = none
  sum : mg "sum" = none
  cl : Cls K CO
  nl : NoAttr K CO "levels"
  mo : mg "Outcomes" = some (.ref CO)
def spPlace (K : PySem.W.Frag) : Sp := fun vs H Q _ => ∃ (a : Addr) (v : List Bool), vs = [.ref a] ∧ SqL K H a (v.map fun b => V.int (b.toNat : Nat)) ∧ v.length ≤ 100 ∧ Q (.int (Sm.placeB v : Nat)) H
def spEither : Sp := fun vs H Q _ => ∃ (q : Bool) (a b : Nat), vs = [.str (kd q), .int (a : Nat), .int (b : Nat)] ∧ Q (.int (Sm.comb q a b : Nat)) H
def spRow (K : PySem.W.Frag) : Sp := fun vs H Q _ => ∃ (a : Addr) (hs : List (Option Bool)), vs = [.ref a] ∧ SqT K H a (hs.map hV) ∧ hs.length ≤ 10 ∧ ∀ row, Sm.RowOf hs row → Q (.int (row : Nat)) H
def spPlaces (K : PySem.W.Frag) : Sp := fun vs H Q _ => ∃ (a : Addr) (hs : List (Option Bool)), vs = [.ref a] ∧ SqT K H a (hs.map hV) ∧ hs.length ≤ 10 ∧ ∀ (ps : List Nat) (l : Addr) (H' : Hp), Sm.PlacesOf hs ps → H' l = some (.lst (nL ps)) → H l = none → Same H H' → Q (.ref l) H'
theorem placeB_rev (v : List Bool) : ∀ i, i ≤ v.length → ∃ n, Sm.placeB (v.drop (v.length - i)) = n ∧ (∀ b, i < v.length → v[v.length - 1 - i]? = some b → Sm.placeB (v.drop (v.length - (i + 1))) = 2 * n + b.toNat) := by
  intro i hi
  refine ⟨_, rfl, fun b hl e => ?_⟩
  have h1 : v.length - (i + 1) < v.length := by omega
  have e' : v[v.length - (i + 1)]'h1 = b := by
    have e1 : v.length - 1 - i = v.length - (i + 1) := by omega
    rw [e1, List.getElem?_eq_getElem h1] at e
    exact Option.some.inj e
  rw [List.drop_eq_getElem_cons h1, e', show v.length - (i + 1) + 1 = v.length - i by omega]; rfl
section
variable {P : Program} {w : World} {K : PySem.W.Frag} {mg : Str → Option Value} {base : Heap} {CO : Addr}
theorem scPl : FnScope ["values", "place", "value"] ["values"] (defScope sPlace) := ⟨rfl, rfl, rfl, by decide +kernel, rfl, by decide +kernel, by decide +kernel⟩
theorem ok_place (D : DefOf K mg "place_of" sPlace ["values"]) (T : TxtT K mg CO) : Pr P w K mg base CX0 1 "place_of" ["values"] (spPlace K) := by
  obtain ⟨f, fd, F, b, m⟩ := D
  refine ⟨f, fd, F.kp, b, m, F.ok scPl (fun vs H Q E h => ?_) (fun cdv A outer s H vs Q E hr h => ?_)⟩
  · obtain ⟨a, v, rfl, _⟩ := h
    rfl
  · obtain ⟨a, v, rfl, hS, hL, k⟩ := h
    refine ⟨_, pss_cons (ps_set (i := 1) scPl.nd rfl (Or.inl rfl) pe_int) (pss_cons (ps_for PassesOwn.never rfl (pi_reversed (by rfl) T.rev (pa_cons (pv 0) pa_nil)) (pg_name (i := 2) scPl.nd rfl (Or.inl rfl))
      (pss_one (ps_set (i := 1) scPl.nd rfl (Or.inl rfl) (pe_op op_add (pe_op op_mul pe_int (pv 1)) (pv 2))))) (pss_one (ps_ret (pv 1)))), ?_⟩
    have hlen : (v.map fun b => V.int (b.toNat : Nat)).length = v.length := by simp
    refine ⟨_, rfl, a, _, rfl, hS, ?_⟩
    rw [hlen]
    refine for_it (n := v.length) (fun i σ H1 => H1 = H ∧ i ≤ v.length ∧ ∃ x, σ = [some (.ref a), some (.int (Sm.placeB (v.drop (v.length - i)) : Nat)), x]) ⟨rfl, Nat.zero_le _, none, ?_⟩ ?_ ?_ ?_ ?_
    · rw [Nat.sub_zero, List.drop_length]; rfl
    · rintro i σ H1 hi ⟨rfl, _, _⟩
      have h1 : v.length - 1 - i < v.length := by omega
      exact ⟨hi, _, _, hS, by rw [List.getElem?_map, List.getElem?_eq_getElem h1]; rfl⟩
    · rintro σ H1 _
      exact Nat.le_refl _
    · rintro i σ H1 x H2 hi ⟨rfl, _, y, rfl⟩ ⟨rfl, hy⟩
      have := hy _ hS
      rw [List.getElem?_map] at this
      cases e : v[v.length - 1 - i]? with
      | none => rw [e] at this; cases this
      | some b =>
        rw [e] at this
        cases this
        obtain ⟨n, hn, st⟩ := placeB_rev v i (by omega)
        have st := st b hi e
        refine ⟨_, rfl, _, _, rfl, rfl, .inl ⟨by decide, by decide⟩, _, rfl, _, _, rfl, rfl, rfl, by omega, some (.int (b.toNat : Nat)), ?_⟩
        show [some (V.ref a), some (V.int (2 * (Sm.placeB (v.drop (v.length - i)) : Nat) + (b.toNat : Nat))), some (V.int (b.toNat : Nat))] = _
        rw [hn, st]
        have : (2 : Int) * (n : Nat) + (b.toNat : Nat) = ((2 * n + b.toNat : Nat) : Int) := by omega
        rw [this]
    · rintro σ H1 ⟨rfl, _, y, rfl⟩
      refine ⟨_, rfl, ?_⟩
      rw [Nat.sub_self, List.drop_zero]
      exact k
theorem scEi : FnScope ["kind", "with_zero", "with_one"] ["kind", "with_zero", "with_one"] (defScope sEither) := ⟨rfl, rfl, rfl, by decide +kernel, rfl, by decide +kernel, by decide +kernel⟩
theorem kd_e (q : Bool) : decide (V.str (kd q) = V.str "e") = q := by
  cases q
  · exact decide_eq_false (by intro z; injection z with z; exact absurd z (by decide +kernel))
  · exact decide_eq_true rfl
theorem ok_either (D : DefOf K mg "failing_either_way" sEither ["kind", "with_zero", "with_one"]) (T : TxtT K mg CO) : Pr P w K mg base CX0 1 "failing_either_way" ["kind", "with_zero", "with_one"] spEither := by
  obtain ⟨ts, hs⟩ := T.some_
  obtain ⟨f, fd, F, b, m⟩ := D
  refine ⟨f, fd, F.kp, b, m, F.ok scEi (fun vs H Q E h => ?_) (fun cdv A outer s H vs Q E hr h => ?_)⟩
  · obtain ⟨q, a, b, rfl, _⟩ := h
    rfl
  · obtain ⟨q, a, b, rfl, k⟩ := h
    refine ⟨_, pss_cons (ps_if (pt_cmpR op_eq (pv 0) (pgS hs) (nomark _)) (pss_one (ps_ret (pe_op op_andN (pv 1) (pv 2)))) pss_nil) (pss_one (ps_ret (pe_op op_orN (pv 1) (pv 2)))), ?_⟩
    refine ⟨_, rfl, rfl, _, rfl, ?_⟩
    rw [kd_e]
    cases q
    · exact ⟨_, rfl, _, rfl, a, b, rfl, rfl, trivial, k⟩
    · exact ⟨_, rfl, _, rfl, a, b, rfl, rfl, trivial, k⟩
theorem hV_get {hs : List (Option Bool)} {i : Nat} {x : V} (h : (hs.map hV)[i]? = some x) : ∃ g, hs[i]? = some g ∧ x = hV g := by
  rw [List.getElem?_map] at h
  cases e : hs[i]? with
  | none => rw [e] at h; cases h
  | some g => rw [e] at h; exact ⟨g, rfl, (Option.some.inj h).symm⟩
theorem take_get {α : Type} {l : List α} {i : Nat} {x : α} (h : l[i]? = some x) : l.take (i + 1) = l.take i ++ [x] := by rw [List.take_succ, h]; rfl
theorem len_take {α : Type} {l : List α} {i : Nat} {x : α} (h : l[i]? = some x) : (l.take i).length = i := by
  have := (List.getElem?_eq_some_iff.mp h).1
  rw [List.length_take]; omega
theorem pow_le10 {i : Nat} (h : i ≤ 10) : 2 ^ i ≤ 1024 := Sm.p10 h
theorem two_pow_int (i : Nat) : (2 : Int) * ((2 ^ i : Nat) : Int) = ((2 ^ (i + 1) : Nat) : Int) := by rw [Nat.pow_succ]; omega
theorem scRw : FnScope ["holding", "row", "width", "value"] ["holding"] (defScope sRow) := ⟨rfl, rfl, rfl, by decide +kernel, rfl, by decide +kernel, by decide +kernel⟩
theorem ok_row (D : DefOf K mg "failing_row" sRow ["holding"]) (T : TxtT K mg CO) : Pr P w K mg base CX0 1 "failing_row" ["holding"] (spRow K) := by
  obtain ⟨f, fd, F, b, m⟩ := D
  refine ⟨f, fd, F.kp, b, m, F.ok scRw (fun vs H Q E h => ?_) (fun cdv A outer s H vs Q E hr h => ?_)⟩
  · obtain ⟨a, hs, rfl, _⟩ := h
    rfl
  · obtain ⟨a, hs, rfl, hS, hL, k⟩ := h
    refine ⟨_, pss_cons (ps_set (i := 1) scRw.nd rfl (Or.inl rfl) pe_int) (pss_cons (ps_set (i := 2) scRw.nd rfl (Or.inl rfl) pe_int)
      (pss_cons (ps_for PassesOwn.never rfl (pi_tup (pv 0)) (pg_name (i := 3) scRw.nd rfl (Or.inl rfl))
        (pss_cons (ps_if (pt_cmpR op_isN (pv 3) pe_non (nomark _)) (pss_one (ps_set (i := 1) scRw.nd rfl (Or.inl rfl) (pe_op op_orN (pv 1) (pe_op op_shlN (pv 1) (pv 2)))))
          (pss_one (ps_if (pt_cmpR op_eq (pv 3) pe_int (nomark _)) (pss_one (ps_set (i := 1) scRw.nd rfl (Or.inl rfl) (pe_op op_shlN (pv 1) (pv 2)))) pss_nil)))
        (pss_one (ps_set (i := 2) scRw.nd rfl (Or.inl rfl) (pe_op op_mul pe_int (pv 2))))))
      (pss_one (ps_ret (pv 1))))), ?_⟩
    refine ⟨_, rfl, a, rfl, ⟨_, hS⟩, for_tup (K := K) (a := a) (xs := hs.map hV) (fun i σ H1 => H1 = H ∧ ∃ x row, σ = [some (.ref a), some (.int (row : Nat)), some (.int (2 ^ i : Nat)), x] ∧ Sm.RowOf (hs.take i) row)
      ⟨rfl, none, 1, rfl, Sm.RowOf.nil⟩ (fun i σ H1 _ ⟨e, _⟩ => by rw [e]; exact hS) ?_ ?_⟩
    · rintro i x σ H1 hi ⟨rfl, y, row, rfl, R⟩
      obtain ⟨g, hg, rfl⟩ := hV_get hi
      have hil := (List.getElem?_eq_some_iff.mp hg).1
      have R2 := R.snoc g
      rw [len_take hg, ← take_get hg] at R2
      have lt : row < 2 ^ 2000 := by
        have := R.lt
        rw [len_take hg] at this
        exact Nat.lt_of_lt_of_le this (Nat.pow_le_pow_right (by decide) (by have := pow_le10 (show i ≤ 10 by omega); omega))
      have p10 := pow_le10 (show i ≤ 10 by omega)
      have fin : ∀ (row' : Nat), Sm.RowOf (hs.take (i + 1)) row' → ∀ v, tAsg (tOp (rI CMul fun i j => V.int (i * j)) (tC (V.int 2)) (tVar 2)) (gName 2) { nx := fun σ' H' => H' = H1 ∧ ∃ x row, σ' = [some (.ref a), some (.int (row : Nat)), some (.int (2 ^ (i + 1) : Nat)), x] ∧ Sm.RowOf (hs.take (i + 1)) row, rt := Q, bk := fun _ _ => False, ct := fun _ _ => False } [some (.ref a), some (.int (row' : Nat)), some (.int (2 ^ i : Nat)), v] H1 := fun row' hR v => by
        refine ⟨_, rfl, _, _, rfl, rfl, .inl ⟨by decide, by decide⟩, rfl, v, row', ?_, hR⟩
        show [some (V.ref a), some (V.int (row' : Nat)), some (V.int (2 * (2 ^ i : Nat))), v] = _
        rw [two_pow_int]
      rcases g with _ | _ | _
      · refine ⟨_, rfl, rfl, _, rfl, iteT ⟨_, rfl, _, rfl, _, rfl, row, 2 ^ i, rfl, rfl, ⟨lt, by omega⟩, row, _, rfl, rfl, trivial, ?_⟩⟩
        exact fin _ R2 _
      · refine ⟨_, rfl, rfl, _, rfl, iteF ⟨_, rfl, rfl, _, rfl, iteT ⟨_, rfl, _, rfl, row, 2 ^ i, rfl, rfl, ⟨lt, by omega⟩, ?_⟩⟩⟩
        exact fin _ R2 _
      · refine ⟨_, rfl, rfl, _, rfl, iteF ⟨_, rfl, rfl, _, rfl, iteF ?_⟩⟩
        exact fin _ R2 _
    · rintro σ H1 ⟨rfl, y, row, rfl, R⟩
      have el : (hs.map hV).length = hs.length := by simp
      rw [el, List.take_length] at R
      exact ⟨_, rfl, k row R⟩
end
theorem nL_get {l : List Nat} {i : Nat} {x : V} (h : (nL l)[i]? = some x) : ∃ n, l[i]? = some n ∧ x = .int (n : Nat) := by
  rw [List.getElem?_map] at h
  cases e : l[i]? with
  | none => rw [e] at h; cases h
  | some g => rw [e] at h; exact ⟨g, rfl, (Option.some.inj h).symm⟩
section
variable {P : Program} {w : World} {K : PySem.W.Frag} {mg : Str → Option Value} {base : Heap} {CO : Addr}
theorem scPs : FnScope ["holding", "places", "width", "value", "with_one", "place"] ["holding"] (defScope sPlaces) := ⟨rfl, rfl, rfl, by decide +kernel, rfl, by decide +kernel, by decide +kernel⟩
theorem blkPs : BlkOk ["holding", "places", "width", "value", "with_one", "place"] (defScope sPlaces) { kind := .function, names := [(".0", .local), ("place", .local), ("width", .free)], isGenerator := false, isCoroutine := false } [("place", 5)] := ⟨rfl, by decide +kernel, by decide +kernel, by decide +kernel, by decide +kernel⟩
theorem ok_places (D : DefOf K mg "failing_places" sPlaces ["holding"]) (T : TxtT K mg CO) : Pr P w K mg base CX0 1 "failing_places" ["holding"] (spPlaces K) := by
  obtain ⟨f, fd, F, b, m⟩ := D
  refine ⟨f, fd, F.kp, b, m, F.ok scPs (fun vs H Q E h => ?_) (fun cdv A outer s H vs Q E hr h => ?_)⟩
  · obtain ⟨a, hs, rfl, _⟩ := h
    rfl
  · obtain ⟨a, hs, rfl, hS, hL, k⟩ := h
    refine ⟨_, pss_cons (ps_set (i := 1) scPs.nd rfl (Or.inl rfl) (pe_lst (pa_cons pe_int pa_nil))) (pss_cons (ps_set (i := 2) scPs.nd rfl (Or.inr rfl) pe_int)
      (pss_cons (ps_for PassesOwn.never rfl (pi_tup (pv 0)) (pg_name (i := 3) scPs.nd rfl (Or.inl rfl))
        (pss_cons (ps_setLc (i := 4) (own := [("place", 5)]) rfl scPs.nd rfl rfl (sw_true rfl rfl rfl (by decide +kernel)) (pi_list (pv 1)) blkPs
            (fun _ _ _ _ _ => pg_name (i := 5) scPs.nd rfl (Or.inl rfl)) (fun _ _ _ _ _ => pts_nil) (fun _ _ _ _ _ => pe_op op_add (pv 5) (pv 2)))
        (pss_cons (ps_if (pt_cmpR op_isN (pv 3) pe_non (nomark _)) (pss_one (ps_set (i := 1) scPs.nd rfl (Or.inl rfl) (pe_op op_cat (pv 1) (pv 4))))
          (pss_one (ps_if (pt_cmpR op_eq (pv 3) pe_int (nomark _)) (pss_one (ps_set (i := 1) scPs.nd rfl (Or.inl rfl) (pv 4))) pss_nil)))
        (pss_one (ps_set (i := 2) scPs.nd rfl (Or.inr rfl) (pe_op op_mul pe_int (pv 2)))))))
      (pss_one (ps_ret (pv 1))))), ?_⟩
    have sz : sizeLine = 16777216 := sizeLine_eq
    refine ⟨by show 1 ≤ sizeLine; decide, fun l0 hl0 => ?_⟩
    have hT : ∀ H1, Same H H1 → SqT K H1 a (hs.map hV) := fun H1 sm => (Off.of (xs := []) sm).seqT (fun _ _ m => by cases m) hS
    refine ⟨_, rfl, a, rfl, ⟨_, hT _ (Same.upd hl0)⟩, for_tup (K := K) (a := a) (xs := hs.map hV) (fun i σ H1 => Same H H1 ∧ ∃ l ps x y, σ = [some (.ref a), some (.ref l), some (.int (2 ^ i : Nat)), x, y, none] ∧ H1 l = some (.lst (nL ps)) ∧ H l = none ∧ Sm.PlacesOf (hs.take i) ps)
      ⟨Same.upd hl0, l0, [0], none, none, rfl, upd_same, hl0, Sm.PlacesOf.nil⟩ (fun i σ H1 _ ⟨e, _⟩ => hT _ e) ?_ ?_⟩
    · rintro i x σ H1 hi ⟨sm, l, ps, y, y2, rfl, hl, hl0, R⟩
      obtain ⟨g, hg, rfl⟩ := hV_get hi
      have hil := (List.getElem?_eq_some_iff.mp hg).1
      have R2 := R.snoc g
      rw [len_take hg, ← take_get hg] at R2
      have p10 := pow_le10 (show i ≤ 10 by omega)
      have lps := R.len
      rw [len_take hg] at lps
      have sqp : ∀ H2, Same H1 H2 → SqL K H2 l (nL ps) := fun H2 s2 => SqL.of (s2 _ _ hl)
      refine ⟨_, rfl, l, rfl, ⟨_, SqL.of hl⟩, fun D hD => lc_list (K := K) (a := l) (xs := nL ps) (fun j H2 => Same H1 H2 ∧ H2 D = some (.lst (nL ((ps.take j).map (· + 2 ^ i))))) ⟨Same.upd hD, upd_same⟩ (fun j H2 _ ⟨s2, _⟩ => sqp H2 s2) ?_ ?_⟩
      · rintro j z H2 hj ⟨s2, hD2⟩
        obtain ⟨n, hn, rfl⟩ := nL_get hj
        have hjl := (List.getElem?_eq_some_iff.mp hn).1
        refine ⟨rfl, ⟨_, rfl, _, rfl, _, _, rfl, rfl, _, hD2, ?_, L2.Same.set s2 hD, ?_⟩⟩
        · simp; omega
        · rw [upd_same, take_get hn]
          simp
      · rintro H2 ⟨s2, hD2⟩
        have el : (nL ps).length = ps.length := by simp
        rw [el, List.take_length] at hD2
        have sm2 := sm.trans s2
        have hDH : H D = none := sm.free hD
        have fin : ∀ (H3 : Hp) (l' : Addr) (ps' : List Nat), Same H H3 → H3 l' = some (.lst (nL ps')) → H l' = none → Sm.PlacesOf (hs.take (i + 1)) ps' → ∀ v v2, tAsg (tOp (rI CMul fun i j => V.int (i * j)) (tC (V.int 2)) (tVar 2)) (gName 2) { nx := fun σ' H' => Same H H' ∧ ∃ l ps x y, σ' = [some (.ref a), some (.ref l), some (.int (2 ^ (i + 1) : Nat)), x, y, none] ∧ H' l = some (.lst (nL ps)) ∧ H l = none ∧ Sm.PlacesOf (hs.take (i + 1)) ps, rt := Q, bk := fun _ _ => False, ct := fun _ _ => False } [some (.ref a), some (.ref l'), some (.int (2 ^ i : Nat)), v, v2, none] H3 := fun H3 l' ps' s3 h3 n3 hR v v2 => by
          refine ⟨_, rfl, _, _, rfl, rfl, .inl ⟨by decide, by decide⟩, s3, l', ps', v, v2, ?_, h3, n3, hR⟩
          show [some (V.ref a), some (V.ref l'), some (V.int (2 * (2 ^ i : Nat))), v, v2, none] = _
          rw [two_pow_int]
        rcases g with _ | _ | _
        · refine ⟨_, rfl, rfl, _, rfl, iteT ⟨_, rfl, _, rfl, l, D, _, _, rfl, rfl, s2 _ _ hl, hD2, by simp; omega, fun p hp => ?_⟩⟩
          exact fin _ p (ps ++ ps.map (· + 2 ^ i)) (sm2.trans (Same.upd hp)) (by rw [upd_same, nL, nL, nL, List.map_append]) (sm2.free hp) R2 _ _
        · refine ⟨_, rfl, rfl, _, rfl, iteF ⟨_, rfl, rfl, _, rfl, iteT ⟨_, rfl, ?_⟩⟩⟩
          exact fin _ D _ sm2 hD2 hDH R2 _ _
        · refine ⟨_, rfl, rfl, _, rfl, iteF ⟨_, rfl, rfl, _, rfl, iteF ?_⟩⟩
          exact fin _ l ps sm2 (s2 _ _ hl) hl0 R2 _ _
    · rintro σ H1 ⟨sm, l, ps, y, y2, rfl, hl, hl0, R⟩
      have el : (hs.map hV).length = hs.length := by simp
      rw [el, List.take_length] at R
      exact ⟨_, rfl, k ps l H1 R hl hl0 sm⟩
theorem scHo : FnScope ["clause", "variables", "variable"] ["clause", "variables"] (defScope sHolding) := ⟨rfl, rfl, rfl, by decide +kernel, rfl, by decide +kernel, by decide +kernel⟩
theorem blkHo : BlkOk ["clause", "variables", "variable"] (defScope sHolding) { kind := .function, names := [(".0", .local), ("variable", .local), ("clause", .free)], isGenerator := false, isCoroutine := false } [("variable", 2)] := ⟨rfl, by decide +kernel, by decide +kernel, by decide +kernel, by decide +kernel⟩
def spHold (K : PySem.W.Frag) : Sp := fun vs H Q _ => ∃ (d a : Addr) (c : Ql66.Clause) (xs : List Nat), vs = [.ref d, .ref a] ∧ Rd H d (.dK (cV c)) ∧ SqL K H a (nL xs) ∧ xs.length ≤ 20 ∧
  ∀ (l : Addr) (H' : Hp), H' l = some (.tup ((Sm.hsOf c xs).map hV)) → H l = none → Same H H' → Q (.ref l) H'
theorem valV_hold (c : Ql66.Clause) (x : Nat) : (valV (cV c) (Sum.inl (x : Int))).getD .non = hV (Sm.holdV c x) := by
  induction c with
  | nil => rfl
  | cons l r ih =>
    unfold Sm.holdV
    rw [List.find?_cons]
    by_cases h : l.1 = x
    · have e1 : (l.1 == x) = true := by rw [h]; exact beq_self_eq_true x
      rw [e1]
      have : valV (cV (l :: r)) (Sum.inl (x : Int)) = some (.int (if l.2 = true then 1 else 0)) := by
        exact valV_pos (p := litP l) (r := cV r) (k := Sum.inl (x : Int)) (by show (Sum.inl (l.1 : Int) : Key) = _; rw [h])
      rw [this]
      obtain ⟨y, b⟩ := l
      cases b <;> rfl
    · have e1 : (l.1 == x) = false := beq_eq_false_iff_ne.mpr h
      rw [e1]
      have : valV (cV (l :: r)) (Sum.inl (x : Int)) = valV (cV r) (Sum.inl (x : Int)) := by
        exact valV_neg (p := litP l) (r := cV r) (k := Sum.inl (x : Int)) (by intro z; have z' : (Sum.inl (l.1 : Int) : Key) = Sum.inl (x : Int) := z; injection z' with z'; exact h (by omega))
      rw [this]
      exact ih
theorem rd_same {H H' : Hp} {d : Addr} {u : HO} (s : Same H H') (h : Rd H d u) : Rd H' d u := by
  rcases h with h | ⟨o, h⟩
  · exact .inl (s _ _ h)
  · exact .inr ⟨o, s _ _ h⟩
theorem ok_hold (D : DefOf K mg "holding_values" sHolding ["clause", "variables"]) (T : TxtT K mg CO) : Pr P w K mg base CX0 1 "holding_values" ["clause", "variables"] (spHold K) := by
  obtain ⟨f, fd, F, b, m⟩ := D
  refine ⟨f, fd, F.kp, b, m, F.ok scHo (fun vs H Q E h => ?_) (fun cdv A outer s H vs Q E hr h => ?_)⟩
  · obtain ⟨d, a, c, xs, rfl, _⟩ := h
    rfl
  · obtain ⟨d, a, c, xs, rfl, hd, hS, hL, k⟩ := h
    have hu := hu_of hr
    refine ⟨_, pss_one (ps_ret (pe_callTy call_tuple_of (by rfl) T.tuple (by rfl) (pa_cons (pe_lc (own := [("variable", 2)]) rfl scHo.nd (pi_list (pv 1)) blkHo
            (fun _ _ _ _ _ => pg_name (i := 2) scHo.nd rfl (Or.inl rfl)) (fun _ _ _ _ _ => pts_nil) (fun _ _ _ _ _ => pe_dget1 hu (pv 0) (pv 2) ⟨rfl, rfl, rfl, rfl⟩)) pa_nil))), ?_⟩
    have sz : sizeLine = 16777216 := sizeLine_eq
    refine ⟨_, rfl, a, rfl, ⟨_, hS⟩, fun D hD => lc_list (K := K) (a := a) (xs := nL xs) (fun j H2 => Same H H2 ∧ H2 D = some (.lst ((Sm.hsOf c (xs.take j)).map hV))) ⟨Same.upd hD, upd_same⟩ (fun j H2 _ ⟨s2, _⟩ => s2.seq hS) ?_ ?_⟩
    · rintro j z H2 hj ⟨s2, hD2⟩
      obtain ⟨n, hn, rfl⟩ := nL_get hj
      have hjl := (List.getElem?_eq_some_iff.mp hn).1
      have hd2 := rd_same s2 hd
      refine ⟨rfl, ⟨_, rfl, d, rfl, .inl ⟨_, hd2⟩, _, rfl, _, .inl ⟨_, Sum.inl (n : Int), hd2, rfl, rfl⟩, _, hD2, ?_, L2.Same.set s2 hD, ?_⟩⟩
      · simp; omega
      · rw [upd_same, take_get hn, valV_hold]
        simp
    · rintro H2 ⟨s2, hD2⟩
      have el : (nL xs).length = xs.length := by simp
      rw [el, List.take_length] at hD2
      refine ⟨D, _, rfl, .inl ⟨SqL.of hD2, fun l hl => ?_⟩⟩
      exact k l _ upd_same (s2.free hl) (s2.trans (Same.upd hl))
end
def MasksAt (H : Hp) (l : Addr) (ms : List (Nat × Nat)) : Prop := ∃ ts : List Addr, H l = some (.lst (ts.map V.ref)) ∧ Paired (fun t m => H t = some (.tup [.int (m.1 : Nat), .int (m.2 : Nat)])) ts ms
theorem MasksAt.same {H H' : Hp} {l : Addr} {ms : List (Nat × Nat)} (h : MasksAt H l ms) (s : Same H H') : MasksAt H' l ms := by
  obtain ⟨ts, h1, h2⟩ := h
  exact ⟨ts, s _ _ h1, Paired.mapP h2 fun t m q => s _ _ q⟩
def spMasks : Sp := fun vs H Q _ => vs = [] ∧ ∀ (l : Addr) (H' : Hp), MasksAt H' l Sm.masksOf → Same H H' → Q (.ref l) H'
def spOnes : Sp := fun vs H Q _ => ∃ (row : Nat) (l : Addr), vs = [.int (row : Nat), .ref l] ∧ MasksAt H l Sm.masksOf ∧ Q (.int (Sm.popOf row : Nat)) H
def maskI (j : Nat) : Nat × Nat := (2 ^ j, (2 ^ 1024 - 1) / (2 ^ 2 ^ j + 1))
theorem shl_one (n : Nat) : (1 <<< n : Nat) = 2 ^ n := by rw [Nat.shiftLeft_eq, Nat.one_mul]
theorem shl_sub (n : Nat) : V.int (((1 <<< n : Nat) : Int) - 1) = V.int ((2 ^ n - 1 : Nat) : Int) := by
  have := Nat.two_pow_pos n
  rw [shl_one]; congr 1; omega
theorem shl_add (n : Nat) : V.int (((1 <<< n : Nat) : Int) + 1) = V.int ((2 ^ n + 1 : Nat) : Int) := by
  rw [shl_one]; congr 1
theorem pow_two_lt {a b : Nat} (h : a < b) : 2 ^ a < 2 ^ b := Nat.pow_lt_pow_right (by decide) h
theorem paired_at {α β : Type} {R : α → β → Prop} {as : List α} {bs : List β} (h : Paired R as bs) : ∀ (i : Nat) b, bs[i]? = some b → ∃ a, as[i]? = some a ∧ R a b := by
  induction h with
  | nil => intro i b e; simp at e
  | cons r t ih =>
    intro i b e
    cases i with
    | zero => simp at e; subst e; exact ⟨_, rfl, r⟩
    | succ i => exact ih i b (by simpa using e)
theorem paired_of {α β : Type} {R : α → β → Prop} {as : List α} {bs : List β} (h : Paired R as bs) : ∀ (i : Nat) a, as[i]? = some a → ∃ b, bs[i]? = some b ∧ R a b := by
  induction h with
  | nil => intro i b e; simp at e
  | cons r t ih =>
    intro i b e
    cases i with
    | zero => simp at e; subst e; exact ⟨_, rfl, r⟩
    | succ i => exact ih i b (by simpa using e)
theorem refs_get {as : List Addr} {i : Nat} {x : V} (h : (as.map V.ref)[i]? = some x) : ∃ a, as[i]? = some a ∧ x = .ref a := by
  rw [List.getElem?_map] at h
  cases e : as[i]? with
  | none => rw [e] at h; cases h
  | some g => rw [e] at h; exact ⟨g, rfl, (Option.some.inj h).symm⟩
section
variable {P : Program} {w : World} {K : PySem.W.Frag} {mg : Str → Option Value} {base : Heap} {CO : Addr}
theorem scMk : FnScope ["masks", "width"] [] (defScope sMasks) := ⟨rfl, rfl, rfl, by decide +kernel, rfl, by decide +kernel, by decide +kernel⟩
theorem ok_masks (D : DefOf K mg "field_masks" sMasks []) (T : TxtT K mg CO) : Pr P w K mg base CX0 1 "field_masks" [] spMasks := by
  obtain ⟨tb, hb⟩ := T.bits
  obtain ⟨f, fd, F, b, m⟩ := D
  refine ⟨f, fd, F.kp, b, m, F.ok scMk (fun vs H Q E h => ?_) (fun cdv A outer s H vs Q E hr h => ?_)⟩
  · obtain ⟨rfl, _⟩ := h
    rfl
  · obtain ⟨rfl, k⟩ := h
    refine ⟨_, pss_cons (ps_set (i := 0) scMk.nd rfl (Or.inl rfl) (pe_lst pa_nil)) (pss_cons (ps_set (i := 1) scMk.nd rfl (Or.inl rfl) pe_int)
      (pss_cons (ps_while PassesOwn.never (pt_cmpR op_lt (pv 1) (pgI hb) (nomark _))
        (pss_cons (ps_expr (pe_bm PySem.F.plainAttrs_list PySem.F.slot_list_append PySem.F.type_list_append mt_append (pv 0) (pa_cons (pe_tup (pa_cons (pv 1) (pa_cons (pe_op op_divN (pe_op op_sub (pe_op op_shlN pe_int (pgI hb)) pe_int) (pe_op op_add (pe_op op_shlN pe_int (pv 1)) pe_int)) pa_nil))) pa_nil)))
        (pss_one (ps_set (i := 1) scMk.nd rfl (Or.inl rfl) (pe_op op_mul pe_int (pv 1))))))
      (pss_one (ps_ret (pv 0))))), ?_⟩
    have sz : sizeLine = 16777216 := sizeLine_eq
    refine ⟨Nat.zero_le _, fun l hl => ?_⟩
    refine ⟨fun mm σ H1 => ∃ (j : Nat) (ts : List Addr), mm = 10 - j ∧ j ≤ 10 ∧ σ = [some (.ref l), some (.int (2 ^ j : Nat))] ∧ H1 l = some (.lst (ts.map V.ref)) ∧ Paired (fun t m => H1 t = some (.tup [.int (m.1 : Nat), .int (m.2 : Nat)])) ts ((List.range j).map maskI) ∧ Same H H1,
      ⟨10, 0, [], rfl, Nat.zero_le _, rfl, upd_same, .nil, Same.upd hl⟩, ?_⟩
    rintro mm σ H1 ⟨j, ts, rfl, hj, rfl, h1, h2, sm⟩
    have lts : ts.length = j := by have := h2.length; simpa using this
    refine ⟨_, rfl, _, _, rfl, rfl, _, rfl, ifD (fun c => ?_) (fun c => ?_)⟩
    · have hj10 : j < 10 := by
        refine Nat.lt_of_le_of_ne hj fun z => ?_
        subst z; exact absurd c (by decide)
      have p10 : 2 ^ j ≤ 512 := Nat.pow_le_pow_right (n := 2) (j := 9) (by decide) (by omega)
      refine ⟨_, fun σ' H' q => q, ?_⟩
      refine ⟨_, rfl, .inl ⟨rfl, _, SqL.of h1⟩, _, rfl, 1, 1024, rfl, rfl, ⟨Nat.one_lt_two_pow (by decide), by decide⟩, _, _, rfl, rfl, _, rfl, 1, 2 ^ j, rfl, rfl, ⟨Nat.one_lt_two_pow (by decide), by omega⟩, _, _, rfl, rfl, 2 ^ 1024 - 1, 2 ^ 2 ^ j + 1, shl_sub 1024, shl_add (2 ^ j), ⟨Nat.succ_pos _, ?_⟩, ?_⟩
      · have := pow_two_lt (show 2 ^ j < 513 by omega)
        have h3 : 2 ^ 513 + 1 ≤ 2 ^ 2000 := by decide +kernel
        omega
      refine ⟨by show 2 ≤ sizeLine; decide, fun t ht => ⟨l, _, _, rfl, rfl, (Same.upd ht) _ _ h1, by rw [List.length_map]; omega, ?_⟩⟩
      have hlt : l ≠ t := ne_of_none h1 ht
      refine ⟨_, rfl, _, _, rfl, rfl, .inl ⟨by decide, by decide⟩, 10 - (j + 1), by omega, j + 1, ts ++ [t], rfl, by omega, ?_, ?_, ?_, ?_⟩
      · show [some (V.ref l), some (V.int (2 * (2 ^ j : Nat)))] = _
        rw [two_pow_int]
      · rw [upd_same, List.map_append]; rfl
      · rw [List.range_succ, List.map_append]
        refine Paired.snoc (Paired.mapP h2 fun t' m' q => ?_) ?_
        · rw [upd_ne (ne_of q h1 (by intro z; cases z)), upd_ne (ne_of_none q ht)]; exact q
        · rw [upd_ne hlt.symm, upd_same]; rfl
      · exact L2.Same.set (sm.trans (Same.upd ht)) hl
    · have hj10 : j = 10 := by
        refine Nat.le_antisymm hj (Nat.le_of_not_lt fun z => c ?_)
        have p10 : 2 ^ j ≤ 512 := Nat.pow_le_pow_right (n := 2) (j := 9) (by decide) (by omega)
        show ((2 ^ j : Nat) : Int) < 1024
        omega
      subst hj10
      exact ⟨_, rfl, k l H1 ⟨ts, h1, h2⟩ sm⟩
theorem scOe : FnScope ["row", "masks", "width", "mask"] ["row", "masks"] (defScope sOnes) := ⟨rfl, rfl, rfl, by decide +kernel, rfl, by decide +kernel, by decide +kernel⟩
theorem ok_ones (D : DefOf K mg "count_ones" sOnes ["row", "masks"]) (T : TxtT K mg CO) : Pr P w K mg base CX0 1 "count_ones" ["row", "masks"] spOnes := by
  obtain ⟨f, fd, F, b, m⟩ := D
  refine ⟨f, fd, F.kp, b, m, F.ok scOe (fun vs H Q E h => ?_) (fun cdv A outer s H vs Q E hr h => ?_)⟩
  · obtain ⟨row, l, rfl, _⟩ := h
    rfl
  · obtain ⟨row, l, rfl, ⟨ts, h1, h2⟩, k⟩ := h
    refine ⟨_, pss_cons (ps_for PassesOwn.never rfl (pi_list (pv 1)) (pg_tup rfl (pgs_cons (pg_name (i := 2) scOe.nd rfl (Or.inl rfl)) (pgs_cons (pg_name (i := 3) scOe.nd rfl (Or.inl rfl)) pgs_nil)))
      (pss_one (ps_set (i := 0) scOe.nd rfl (Or.inl rfl) (pe_op op_add (pe_op op_andN (pv 0) (pv 3)) (pe_op op_andN (pe_op op_shrN (pv 0) (pv 2)) (pv 3))))))
      (pss_one (ps_ret (pv 0))), ?_⟩
    refine ⟨_, rfl, l, rfl, ⟨_, SqL.of h1⟩, for_list (K := K) (a := l) (xs := ts.map V.ref) (fun i σ H1 => H1 = H ∧ ∃ x y, σ = [some (.int ((Sm.masksOf.take i).foldl (fun r m => Sm.popStep r m.1 m.2) row : Nat)), some (.ref l), x, y])
      ⟨rfl, none, none, rfl⟩ (fun i σ H1 _ ⟨e, _⟩ => by rw [e]; exact SqL.of h1) ?_ ?_⟩
    · rintro i x σ H1 hi ⟨rfl, y, z, rfl⟩
      obtain ⟨t, ht, rfl⟩ := refs_get hi
      obtain ⟨mk, hm, q⟩ := paired_of h2 i t ht
      refine ⟨t, _, rfl, .inl (.inl q), rfl, _, _, rfl, _, _, rfl, rfl, ?_⟩
      refine ⟨_, rfl, _, rfl, _, mk.2, rfl, rfl, trivial, _, rfl, _, rfl, _, mk.1, rfl, rfl, trivial, _, rfl, _, mk.2, rfl, rfl, trivial, _, _, rfl, rfl, rfl, some (.int (mk.1 : Nat)), some (.int (mk.2 : Nat)), ?_⟩
      rw [take_get hm, List.foldl_append]
      rfl
    · rintro σ H1 ⟨rfl, y, z, rfl⟩
      have el : (ts.map V.ref).length = Sm.masksOf.length := by rw [List.length_map]; exact h2.length
      rw [el, List.take_length]
      exact ⟨_, rfl, k⟩
end
def entP (e : Sm.Ent) : List KeyN × V := (e.1.map hK, .int (e.2 : Nat))
def eV (es : List Sm.Ent) : List (List KeyN × V) := es.map entP
theorem hK_inj {a b : Option Bool} (h : hK a = hK b) : a = b := by
  rcases a with _ | _ | _ <;> rcases b with _ | _ | _ <;> first | rfl | (exfalso; revert h; decide)
theorem hKs_inj : ∀ {a b : List (Option Bool)}, a.map hK = b.map hK → a = b
  | [], [], _ => rfl
  | [], _ :: _, h => by simp at h
  | _ :: _, [], h => by simp at h
  | x :: xs, y :: ys, h => by
    rw [List.map_cons, List.map_cons] at h
    injection h with h1 h2
    rw [hK_inj h1, hKs_inj h2]
theorem eV_none {es : List Sm.Ent} {hs : List (Option Bool)} (h : valV (eV es) (hs.map hK) = none) : hs ∉ es.map (·.1) := by
  intro m
  obtain ⟨e, he, rfl⟩ := List.mem_map.mp m
  exact valV_not h (List.mem_map.mpr ⟨entP e, List.mem_map.mpr ⟨e, he, rfl⟩, rfl⟩)
theorem eV_some : ∀ {es : List Sm.Ent} {hs : List (Option Bool)} {v : V}, valV (eV es) (hs.map hK) = some v → ∃ old : Nat, v = .int (old : Nat) ∧ (hs, old) ∈ es
  | [], _, _, h => by cases h
  | e :: r, hs, v, h => by
    by_cases c : e.1 = hs
    · have := valV_pos (p := entP e) (r := eV r) (k := hs.map hK) (by show e.1.map hK = _; rw [c])
      have h' : valV (entP e :: eV r) (hs.map hK) = some v := h
      rw [this] at h'
      refine ⟨e.2, (Option.some.inj h').symm, ?_⟩
      rw [← c]; simp
    · have := valV_neg (p := entP e) (r := eV r) (k := hs.map hK) (fun z => c (hKs_inj z))
      have h' : valV (entP e :: eV r) (hs.map hK) = some v := h
      rw [this] at h'
      obtain ⟨old, e1, e2⟩ := eV_some (es := r) h'
      exact ⟨old, e1, List.mem_cons_of_mem _ e2⟩
theorem eV_put_new {es : List Sm.Ent} {hs : List (Option Bool)} {n : Nat} (h : valV (eV es) (hs.map hK) = none) : putK (eV es) (hs.map hK) (.int (n : Nat)) = eV (es ++ [(hs, n)]) := by
  rw [putK_new _ h]
  unfold eV
  rw [List.map_append]; rfl
theorem eV_put_old {es : List Sm.Ent} {hs : List (Option Bool)} {n : Nat} {v : V} (h : valV (eV es) (hs.map hK) = some v) : putK (eV es) (hs.map hK) (.int (n : Nat)) = eV (es.map fun e => if e.1 = hs then (e.1, n) else e) := by
  unfold putK
  rw [valV_any, h]
  simp only [Option.isSome_some, if_true]
  unfold eV
  rw [List.map_map, List.map_map]
  refine List.map_congr_left fun e _ => ?_
  show (if e.1.map hK = hs.map hK then (e.1.map hK, V.int (n : Nat)) else entP e) = entP (if e.1 = hs then (e.1, n) else e)
  by_cases c : e.1 = hs
  · rw [if_pos (by rw [c]), if_pos c]; rfl
  · rw [if_neg (fun z => c (hKs_inj z)), if_neg c]
theorem cut_takeV (w : List V) (n : Nat) : cutV w none (some (n : Int)) = w.take n := by
  unfold cutV
  rw [HT.sIx_none, HT.sIx_nat, List.drop_zero, Nat.sub_zero, List.take_eq_take_iff]; omega
theorem cut_dropV (w : List V) (n : Nat) : cutV w (some (n : Int)) none = w.drop n := by
  unfold cutV
  rw [HT.sIx_none, HT.sIx_nat]
  rw [List.take_of_length_le (by rw [List.length_drop]; omega)]
  by_cases h : n ≤ w.length
  · rw [Nat.min_eq_left h]
  · rw [Nat.min_eq_right (by omega), List.drop_of_length_le (Nat.le_refl _), List.drop_of_length_le (by omega)]
theorem ordV_n (f : Ql66.Formula) : ordV f.order = nL (Sm.varsOf f) := by
  unfold ordV nL Sm.varsOf
  rw [List.map_map]; rfl
abbrev earlyOf (f : Ql66.Formula) : List Nat := (Sm.varsOf f).take 10
abbrev lateOf (f : Ql66.Formula) : List Nat := (Sm.varsOf f).drop 10
def spByLate (CF : Addr) : Sp := fun vs H Q _ => ∃ (p : Addr) (f : Ql66.Formula) (fb : Nat), vs = [.ref p] ∧ FmAt CF H p f fb ∧ Sm.FW f ∧
  ∀ (d : Addr) (es : List Sm.Ent) (H' : Hp), H' d = some (.dT (eV es)) → H d = none → Same H H' → Sm.EntsOf f.clauses (earlyOf f) (lateOf f) es → Q (.ref d) H'
def spRows (CF : Addr) : Sp := fun vs H Q _ => ∃ (p : Addr) (f : Ql66.Formula) (fb : Nat), vs = [.ref p] ∧ FmAt CF H p f fb ∧ Sm.FW f ∧
  ∀ (l : Addr) (rows : List Nat) (H' : Hp), H' l = some (.lst (nL rows)) → H l = none → Same H H' → Sm.Lev f f.size rows → Q (.ref l) H'
section
variable {P : Program} {w : World} {K : PySem.W.Frag} {mg : Str → Option Value} {base : Heap} {CO CF : Addr}
theorem scBy : FnScope ["formula", "early", "late", "by_late", "clause", "late_values", "row"] ["formula"] (defScope sByLate) := ⟨rfl, rfl, rfl, by decide +kernel, rfl, by decide +kernel, by decide +kernel⟩
theorem ok_byLate (D : DefOf K mg "failing_by_late" sByLate ["formula"]) (T : TxtT K mg CO) (TF : TxtF K mg CF) (GH : Pr P w K mg base CX0 1 "holding_values" ["clause", "variables"] (spHold K)) (GR : Pr P w K mg base CX0 1 "failing_row" ["holding"] (spRow K)) :
    Pr P w K mg base CX0 2 "failing_by_late" ["formula"] (spByLate CF) := by
  obtain ⟨te, he⟩ := T.early
  obtain ⟨fh, fdh, kh, bh, mh, GH⟩ := GH
  obtain ⟨fr, fdr, kr, br, mr, GR⟩ := GR
  obtain ⟨f, fd, F, b, m⟩ := D
  refine ⟨f, fd, F.kp, b, m, F.ok scBy (fun vs H Q E h => ?_) (fun cdv A outer s H vs Q E hr h => ?_)⟩
  · obtain ⟨p, f, fb, rfl, _⟩ := h
    rfl
  · obtain ⟨p, f, fb, rfl, Fm, W, k⟩ := h
    have hu := hu_of hr
    refine ⟨_, pss_cons (ps_set (i := 1) scBy.nd rfl (Or.inl rfl) (pe_slice sl_list (pe_fld (pv 0) rfl) po_none (po_some (pgI he))))
      (pss_cons (ps_set (i := 2) scBy.nd rfl (Or.inl rfl) (pe_slice sl_list (pe_fld (pv 0) rfl) (po_some (pgI he)) po_none))
      (pss_cons (ps_set (i := 3) scBy.nd rfl (Or.inl rfl) pe_dnewT)
      (pss_cons (ps_for PassesOwn.never rfl (pi_list (pe_fld (pv 0) rfl)) (pg_name (i := 4) scBy.nd rfl (Or.inl rfl))
        (pss_cons (ps_set (i := 5) scBy.nd rfl (Or.inl rfl) (pe_call GH hr rfl mh kh bh .nil pass0 (pa_cons (pv 4) (pa_cons (pv 2) pa_nil))))
        (pss_cons (ps_set (i := 6) scBy.nd rfl (Or.inl rfl) (pe_call GR hr rfl mr kr br .nil pass0 (pa_cons (pe_call GH hr rfl mh kh bh .nil pass0 (pa_cons (pv 4) (pa_cons (pv 1) pa_nil))) pa_nil)))
        (pss_one (ps_dput hu (pv 3) (pv 5) (pe_op op_orN (pe_dget2 hu (pv 3) (pv 5) pe_int ⟨rfl, rfl, rfl, rfl⟩) (pv 6)) rfl)))))
      (pss_one (ps_ret (pv 3)))))), ?_⟩
    obtain ⟨dx, lv, lk, lc, ds, h1, h2, h3, h4, h5⟩ := id Fm
    have hsz := W.sz
    have few := W.few
    have lvars : (Sm.varsOf f).length = f.size := by simp [Ql66.Formula.size]
    have sz : sizeLine = 16777216 := sizeLine_eq
    have eE : (nL (Sm.varsOf f)).take 10 = nL (earlyOf f) := by rw [nL, ← List.map_take]
    have eL : (nL (Sm.varsOf f)).drop 10 = nL (lateOf f) := by rw [nL, ← List.map_drop]
    refine ⟨_, rfl, p, CF, dx, _, _, rfl, h1, TF.cl, TF.nv, fF_vars _ _ _ _, _, rfl, lv, _, rfl, SqL.of h2, ?_⟩
    rw [ordV_n, show (10 : Int) = ((10 : Nat) : Int) from rfl, cut_takeV, eE]
    intro q1 hq1
    have s1 : Same H _ := Same.upd (o := .lst (nL (earlyOf f))) hq1
    refine ⟨_, rfl, p, CF, dx, _, _, rfl, s1 _ _ h1, TF.cl, TF.nv, fF_vars _ _ _ _, _, rfl, lv, _, rfl, SqL.of (s1 _ _ h2), ?_⟩
    rw [ordV_n, cut_dropV, eL]
    intro q2 hq2
    have s2 := s1.trans (Same.upd (o := .lst (nL (lateOf f))) hq2)
    intro d hd
    have s3 := s2.trans (Same.upd (o := .dT []) hd)
    have hdH : H d = none := s2.free hd
    generalize hH3 : upd (upd (upd H q1 (.lst (nL (earlyOf f)))) q2 (.lst (nL (lateOf f)))) d (.dT []) = H3 at s3 ⊢
    have n12 : q1 ≠ q2 := fun z => by subst z; rw [upd_same] at hq2; cases hq2
    have n1d : q1 ≠ d := fun z => by subst z; rw [upd_ne n12, upd_same] at hd; cases hd
    have n2d : q2 ≠ d := fun z => by subst z; rw [upd_same] at hd; cases hd
    have hE : H3 q1 = some (.lst (nL (earlyOf f))) := by rw [← hH3, upd_ne n1d, upd_ne n12, upd_same]
    have hLt : H3 q2 = some (.lst (nL (lateOf f))) := by rw [← hH3, upd_ne n2d, upd_same]
    have hD : H3 d = some (.dT (eV [])) := by rw [← hH3, upd_same]; rfl
    have lE : (earlyOf f).length ≤ 10 := by rw [List.length_take]; omega
    have lL : (lateOf f).length ≤ 10 := by rw [List.length_drop, lvars]; omega
    refine ⟨_, rfl, p, CF, dx, _, _, rfl, s3 _ _ h1, TF.cl, TF.nc, fF_clauses _ _ _ _, lc, rfl, ⟨_, SqL.of (s3 _ _ h4)⟩, for_list (K := K) (a := lc) (xs := ds.map V.ref) (fun i σ H4 => ∃ (es : List Sm.Ent) (x y z : Option V), σ = [some (.ref p), some (.ref q1), some (.ref q2), some (.ref d), x, y, z] ∧ Same H H4 ∧ H4 q1 = some (.lst (nL (earlyOf f))) ∧ H4 q2 = some (.lst (nL (lateOf f))) ∧ H4 d = some (.dT (eV es)) ∧ Sm.EntsOf (f.clauses.take i) (earlyOf f) (lateOf f) es)
      ⟨[], none, none, none, rfl, s3, hE, hLt, hD, Sm.EntsOf.nil _ _⟩ (fun i σ H4 _ ⟨_, _, _, _, _, s4, _⟩ => SqL.of (s4 _ _ h4)) ?_ ?_⟩
    · rintro i x σ H4 hi ⟨es, _, _, _, rfl, s4, e4, l4, d4, En⟩
      obtain ⟨dc, hdc, rfl⟩ := refs_get hi
      obtain ⟨c, hc, hcd⟩ := paired_of h5 i dc hdc
      have c4 := s4 _ _ hcd
      refine ⟨_, rfl, _, rfl, dc, q2, c, lateOf f, rfl, .inl c4, SqL.of l4, by omega, fun t1 H5 ht1 nt1 s5 => ?_⟩
      refine ⟨_, rfl, _, rfl, dc, q1, c, earlyOf f, rfl, .inl (s5 _ _ c4), SqL.of (s5 _ _ e4), by omega, fun t2 H6 ht2 nt2 s6 => ?_⟩
      refine ⟨t2, Sm.hsOf c (earlyOf f), rfl, .inl (.inl ht2), by simp; omega, fun row R => ?_⟩
      have d6 := s6 _ _ (s5 _ _ d4)
      have t6 := s6 _ _ ht1
      rw [← hKs_V] at t6
      have fewE := En.few
      have hil : i < f.clauses.length := (List.getElem?_eq_some_iff.mp hc).1
      have fin : ∀ (es' : List Sm.Ent), Sm.EntsOf (f.clauses.take (i + 1)) (earlyOf f) (lateOf f) es' → ∀ v1 v2 v3 : Option V, ∃ (es : List Sm.Ent) (x y z : Option V), [some (V.ref p), some (.ref q1), some (.ref q2), some (.ref d), v1, v2, v3] = [some (.ref p), some (.ref q1), some (.ref q2), some (.ref d), x, y, z] ∧ Same H (upd H6 d (.dT (eV es'))) ∧ (upd H6 d (.dT (eV es'))) q1 = some (.lst (nL (earlyOf f))) ∧ (upd H6 d (.dT (eV es'))) q2 = some (.lst (nL (lateOf f))) ∧ (upd H6 d (.dT (eV es'))) d = some (.dT (eV es)) ∧ Sm.EntsOf (f.clauses.take (i + 1)) (earlyOf f) (lateOf f) es := fun es' hE' v1 v2 v3 =>
        ⟨es', v1, v2, v3, rfl, L2.Same.set ((s4.trans s5).trans s6) hdH, by rw [upd_ne n1d]; exact s6 _ _ (s5 _ _ e4), by rw [upd_ne n2d]; exact s6 _ _ (s5 _ _ l4), upd_same, hE'⟩
      have lenE : (eV es).length < sizeLine := by
        have : (f.clauses.take i).length ≤ i := by rw [List.length_take]; omega
        unfold eV; rw [List.length_map]; omega
      have hg := DGet.t (k := (Sm.hsOf c (lateOf f)).map hK) d6 t6
      cases ev : valV (eV es) ((Sm.hsOf c (lateOf f)).map hK) with
      | none =>
        rw [ev] at hg
        refine ⟨_, rfl, d, rfl, .inr ⟨_, .inl d6⟩, _, rfl, _, hg, _, rfl, 0, row, rfl, rfl, trivial, _, rfl, _, rfl, d, _, rfl, DPut.t (k := (Sm.hsOf c (lateOf f)).map hK) d6 t6 lenE, ?_⟩
        rw [eV_put_new ev]
        refine fin _ ?_ _ _ _
        rw [take_get hc]
        exact En.add (eV_none ev) R
      | some v =>
        obtain ⟨old, rfl, hm⟩ := eV_some ev
        rw [ev] at hg
        refine ⟨_, rfl, d, rfl, .inr ⟨_, .inl d6⟩, _, rfl, _, hg, _, rfl, old, row, rfl, rfl, trivial, _, rfl, _, rfl, d, _, rfl, DPut.t (k := (Sm.hsOf c (lateOf f)).map hK) d6 t6 lenE, ?_⟩
        rw [eV_put_old ev]
        refine fin _ ?_ _ _ _
        rw [take_get hc]
        exact En.rep hm R
    · rintro σ H4 ⟨es, _, _, _, rfl, s4, e4, l4, d4, En⟩
      have el : (ds.map V.ref).length = f.clauses.length := by rw [List.length_map]; exact h5.length
      rw [el, List.take_length] at En
      exact ⟨_, rfl, k d es H4 d4 hdH s4 En⟩
end
theorem ixN_nat {n j : Nat} (h : j < n) : ixN n (j : Int) = some j := by
  unfold ixN
  rw [if_pos (by omega)]
  simp [h]
theorem nL_set (l : List Nat) (j n : Nat) : (nL l).set j (.int (n : Nat)) = nL (l.set j n) := by rw [nL, nL, List.map_set]
theorem nL_at {l : List Nat} {j : Nat} (h : j < l.length) : (nL l)[j]? = some (.int ((l.getD j 0 : Nat) : Int)) := by
  rw [nL, List.getElem?_map, List.getD_eq_getElem?_getD, List.getElem?_eq_getElem h]; rfl
theorem rep_zero (n : Nat) : (List.replicate n [V.int 0]).flatten = nL (List.replicate n 0) := by
  induction n with
  | zero => rfl
  | succ n ih => rw [List.replicate_succ, List.flatten_cons, ih]; rfl
section
variable {P : Program} {w : World} {K : PySem.W.Frag} {mg : Str → Option Value} {base : Heap} {CO CF : Addr}
theorem scRs : FnScope ["formula", "late", "rows", "late_values", "row", "place"] ["formula"] (defScope sRows) := ⟨rfl, rfl, rfl, by decide +kernel, rfl, by decide +kernel, by decide +kernel⟩
theorem ok_rows (D : DefOf K mg "failing_rows" sRows ["formula"]) (T : TxtT K mg CO) (TF : TxtF K mg CF) (GB : Pr P w K mg base CX0 2 "failing_by_late" ["formula"] (spByLate CF)) (GP : Pr P w K mg base CX0 1 "failing_places" ["holding"] (spPlaces K)) :
    Pr P w K mg base CX0 3 "failing_rows" ["formula"] (spRows CF) := by
  obtain ⟨te, he⟩ := T.early
  obtain ⟨fB, fdB, kB, bB, mB, GB⟩ := GB
  obtain ⟨fP, fdP, kP, bP, mP, GP⟩ := GP
  obtain ⟨f, fd, F, b, m⟩ := D
  refine ⟨f, fd, F.kp, b, m, F.ok scRs (fun vs H Q E h => ?_) (fun cdv A outer s H vs Q E hr h => ?_)⟩
  · obtain ⟨p, f, fb, rfl, _⟩ := h
    rfl
  · obtain ⟨p, f, fb, rfl, Fm, W, k⟩ := h
    have hr1 := hr.mono (show 1 ≤ 2 by decide)
    refine ⟨_, pss_cons (ps_set (i := 1) scRs.nd rfl (Or.inl rfl) (pe_slice sl_list (pe_fld (pv 0) rfl) (po_some (pgI he)) po_none))
      (pss_cons (ps_set (i := 2) scRs.nd rfl (Or.inl rfl) (pe_op op_rep (pe_lst (pa_cons pe_int pa_nil)) (pe_op op_shlN pe_int (pe_callB call_len_seq (by rfl) T.len PySem.boot_len (pa_cons (pv 1) pa_nil)))))
      (pss_cons (ps_for PassesOwn.never rfl (pi_itemsT (pe_lockV (pe_call GB hr rfl mB kB bB .nil pass0 (pa_cons (pv 0) pa_nil)))) (pg_tup rfl (pgs_cons (pg_name (i := 3) scRs.nd rfl (Or.inl rfl)) (pgs_cons (pg_name (i := 4) scRs.nd rfl (Or.inl rfl)) pgs_nil)))
        (pss_one (ps_for PassesOwn.never rfl (pi_list (pe_call GP hr1 rfl mP kP bP .nil pass0 (pa_cons (pv 3) pa_nil))) (pg_name (i := 5) scRs.nd rfl (Or.inl rfl))
          (pss_one (ps_asg (pe_op op_orN (pe_ix ix_list (pv 2) (pv 5) (fun _ _ => rfl)) (pv 4)) (pg_sub (pv 2) (pv 5) set_list))))))
      (pss_one (ps_ret (pv 2))))), ?_⟩
    obtain ⟨dx, lv, lk, lc, ds, h1, h2, h3, h4, h5⟩ := id Fm
    have hsz := W.sz
    have few := W.few
    have lvars : (Sm.varsOf f).length = f.size := by simp [Ql66.Formula.size]
    have sz : sizeLine = 16777216 := sizeLine_eq
    have eL : (nL (Sm.varsOf f)).drop 10 = nL (lateOf f) := by rw [nL, ← List.map_drop]
    have lL : (lateOf f).length ≤ 10 := by rw [List.length_drop, lvars]; omega
    have p10 := pow_le10 lL
    refine ⟨_, rfl, p, CF, dx, _, _, rfl, h1, TF.cl, TF.nv, fF_vars _ _ _ _, _, rfl, lv, _, rfl, SqL.of h2, ?_⟩
    rw [ordV_n, show (10 : Int) = ((10 : Nat) : Int) from rfl, cut_dropV, eL]
    intro q1 hq1
    have s1 : Same H _ := Same.upd (o := .lst (nL (lateOf f))) hq1
    refine ⟨by show 1 ≤ sizeLine; decide, fun z hz => ?_⟩
    have hq1' : (upd (upd H q1 (.lst (nL (lateOf f)))) z (.lst [V.int 0])) q1 = some (.lst (nL (lateOf f))) := (Same.upd hz) _ _ upd_same
    have ll : (nL (lateOf f)).length = (lateOf f).length := by simp
    refine ⟨_, rfl, q1, _, rfl, .inl (SqL.of hq1'), 1, (lateOf f).length, rfl, by rw [ll], ⟨Nat.one_lt_two_pow (by decide), by omega⟩, z, _, _, rfl, rfl, upd_same, ?_⟩
    rw [show (fun i j : Nat => i <<< j) 1 (lateOf f).length = 2 ^ (lateOf f).length from shl_one _]
    have h0 : (0 : Int) ≤ ((2 ^ (lateOf f).length : Nat) : Int) := Int.natCast_nonneg _
    have hle : ((2 ^ (lateOf f).length : Nat) : Int) ≤ 1024 := Int.ofNat_le.mpr p10
    refine ⟨Int.le_trans (by decide) h0, Int.lt_of_le_of_lt hle (by decide), by show 1 * _ ≤ _; rw [Nat.one_mul, Int.toNat_natCast, sz]; exact Nat.le_trans p10 (by decide), fun l hl => ?_⟩
    rw [show ((2 ^ (lateOf f).length : Nat) : Int).toNat = 2 ^ (lateOf f).length from rfl, rep_zero]
    have s3 := (s1.trans (Same.upd (o := .lst [V.int 0]) hz)).trans (Same.upd (o := .lst (nL (List.replicate (2 ^ (lateOf f).length) 0))) hl)
    have hlH : H l = none := (s1.trans (Same.upd (o := .lst [V.int 0]) hz)).free hl
    generalize hH3 : upd (upd (upd H q1 (.lst (nL (lateOf f)))) z (.lst [V.int 0])) l (.lst (nL (List.replicate (2 ^ (lateOf f).length) 0))) = H3 at s3 ⊢
    have hl3 : H3 l = some (.lst (nL (List.replicate (2 ^ (lateOf f).length) 0))) := by rw [← hH3, upd_same]
    refine ⟨_, rfl, p, f, fb, rfl, Fm.same s3, W, fun d es H4 d4 hd3 s4 En => ?_⟩
    refine ⟨d, _, rfl, d4, trivial, fun od => ⟨d, od, eV es, rfl, upd_same, ?_⟩⟩
    have hdH : H d = none := s3.free hd3
    have ld : l ≠ d := ne_of_none hl3 hd3
    have le : (eV es).length = es.length := by unfold eV; simp
    refine for_it (n := (eV es).length) (fun i σ H5 => ∃ (rows : List Nat) (x y u : Option V), σ = [some (.ref p), some (.ref q1), some (.ref l), x, y, u] ∧ Same H H5 ∧ H5 d = some (.frz od (.dT (eV es))) ∧ H5 l = some (.lst (nL rows)) ∧ Sm.FillOf (2 ^ (lateOf f).length) (es.take i) [] 0 rows)
      ⟨_, none, none, none, rfl, L2.Same.set (s3.trans s4) hdH, upd_same, by rw [upd_ne ld]; exact s4 _ _ hl3, Sm.FillOf.start _ _⟩ (fun i σ H5 hi ⟨_, _, _, _, _, _, h, _⟩ => ⟨h, hi⟩) (fun σ H5 ⟨_, _, _, _, _, _, h, _⟩ => ⟨h, Nat.le_refl _⟩) ?_ ?_
    · rintro i σ H5 x H6 hi ⟨rows, _, _, _, rfl, s5, d5, l5, Fl⟩ ⟨T', key, v, q, hkv, rfl, hT', hq, rfl⟩
      obtain ⟨e, hee, ekv⟩ : ∃ e, es[i]? = some e ∧ entP e = (key, v) := by
        unfold eV at hkv
        rw [List.getElem?_map] at hkv
        cases z : es[i]? with
        | none => rw [z] at hkv; cases hkv
        | some e => rw [z] at hkv; exact ⟨e, rfl, Option.some.inj hkv⟩
      cases ekv
      have elen := En.len e (List.mem_of_getElem? hee)
      have s6 := s5.trans (Same.upd (o := .tup [.ref q, .int (e.2 : Nat)]) hT')
      rw [hKs_V] at hq
      have hq6 : (upd H5 T' (.tup [.ref q, .int (e.2 : Nat)])) q = some (.tup (e.1.map hV)) := (Same.upd hT') _ _ hq
      have d6 : (upd H5 T' (.tup [.ref q, .int (e.2 : Nat)])) d = some (.frz od (.dT (eV es))) := (Same.upd hT') _ _ d5
      have l6 : (upd H5 T' (.tup [.ref q, .int (e.2 : Nat)])) l = some (.lst (nL rows)) := (Same.upd hT') _ _ l5
      refine ⟨T', _, rfl, .inl (.inl upd_same), rfl, _, _, rfl, _, _, rfl, rfl, ?_⟩
      generalize upd H5 T' (.tup [.ref q, .int (e.2 : Nat)]) = H6 at *
      refine ⟨_, rfl, q, e.1, rfl, .inl (.inl hq6), by omega, fun ps pl H7 Pl p7 hp0 s7 => ?_⟩
      have lps := Pl.len
      refine ⟨pl, rfl, ⟨_, SqL.of p7⟩, for_list (K := K) (a := pl) (xs := nL ps) (fun j σ H8 => ∃ (rows : List Nat) (u : Option V), σ = [some (.ref p), some (.ref q1), some (.ref l), some (.ref q), some (.int (e.2 : Nat)), u] ∧ Same H H8 ∧ H8 d = some (.frz od (.dT (eV es))) ∧ H8 l = some (.lst (nL rows)) ∧ H8 pl = some (.lst (nL ps)) ∧ Sm.FillOf (2 ^ (lateOf f).length) (es.take i) (ps.take j) e.2 rows)
        ⟨rows, _, rfl, s6.trans s7, s7 _ _ d6, s7 _ _ l6, p7, Fl.next⟩ (fun j σ H8 _ ⟨_, _, _, _, _, _, h, _⟩ => SqL.of h) ?_ ?_⟩
      · rintro j x σ H8 hj ⟨rows, _, rfl, s8, d8, l8, p8, Fl⟩
        obtain ⟨n, hn, rfl⟩ := nL_get hj
        have hnlt : n < 2 ^ (lateOf f).length := by
          have := (Pl.mem n).mp (List.mem_of_getElem? hn)
          rw [elen] at this
          exact this.1
        have hrl : n < rows.length := by rw [Fl.len]; exact hnlt
        have npl : pl ≠ l := fun z => by
          subst z
          rw [l6] at hp0; cases hp0
        refine ⟨_, rfl, _, rfl, l, _, _, _, rfl, rfl, SqL.of l8, at_of (j := n) rfl (nL_at hrl), _, rfl, _, e.2, rfl, rfl, trivial, _, rfl, _, rfl, l, _, _, n, rfl, rfl, l8, ixN_nat (by rw [List.length_map]; exact hrl), ?_⟩
        rw [nL_set]
        refine ⟨_, _, rfl, L2.Same.set s8 hlH, by rw [upd_ne ld.symm]; exact d8, upd_same, by rw [upd_ne npl]; exact p8, ?_⟩
        rw [take_get hn]
        exact Fl.put hnlt
      · rintro σ H8 ⟨rows, _, rfl, s8, d8, l8, p8, Fl⟩
        have el : (nL ps).length = ps.length := by simp
        rw [el, List.take_length] at Fl
        refine ⟨rows, _, _, _, rfl, s8, d8, l8, ?_⟩
        rw [take_get hee]
        exact Fl.done (by rw [elen]) Pl
    · rintro σ H5 ⟨rows, _, _, _, rfl, s5, d5, l5, Fl⟩
      rw [le, List.take_length] at Fl
      exact ⟨_, rfl, k l rows H5 l5 hlH s5 (Sm.RowsOf.lev W (Fl.rows En))⟩
end
def LevsAt (H : Hp) (l : Addr) (f : Ql66.Formula) : Prop := ∃ (as : List Addr) (rss : List (List Nat)), H l = some (.lst (as.map V.ref)) ∧ Paired (fun a rows => H a = some (.lst (nL rows))) as rss ∧ rss.length = f.size + 1 ∧ ∀ m rows, rss[m]? = some rows → Sm.Lev f m rows
theorem LevsAt.same {H H' : Hp} {l : Addr} {f : Ql66.Formula} (h : LevsAt H l f) (s : Same H H') : LevsAt H' l f := by
  obtain ⟨as, rss, h1, h2, h3, h4⟩ := h
  exact ⟨as, rss, s _ _ h1, Paired.mapP h2 fun a r q => s _ _ q, h3, h4⟩
def spLevels (CF : Addr) : Sp := fun vs H Q _ => ∃ (p : Addr) (f : Ql66.Formula) (fb : Nat), vs = [.ref p] ∧ FmAt CF H p f fb ∧ Sm.FW f ∧ ∀ (l : Addr) (H' : Hp), LevsAt H' l f → H l = none → Same H H' → Q (.ref l) H'
theorem paired_rev {α β : Type} {R : α → β → Prop} {as : List α} {bs : List β} (h : Paired R as bs) : Paired R as.reverse bs.reverse := by
  induction h with
  | nil => exact .nil
  | cons r t ih => rw [List.reverse_cons, List.reverse_cons]; exact Paired.snoc ih r
theorem paired_mapm {α β : Type} {F G : α → β → Prop} : ∀ {l₁ : List α} {l₂ : List β}, Paired F l₁ l₂ → (∀ a b, a ∈ l₁ → F a b → G a b) → Paired G l₁ l₂
  | _, _, .nil, _ => .nil
  | _, _, .cons r t, f => .cons (f _ _ (by simp) r) (paired_mapm t fun a b m q => f a b (by simp [m]) q)
structure LvSt (f : Ql66.Formula) (H H2 : Hp) (lev la : Addr) (as : List Addr) (rss : List (List Nat)) (rows : List Nat) (i : Nat) : Prop where
  hi : i ≤ f.size
  sm : Same H H2
  hl : H2 lev = some (.lst (as.map V.ref))
  pr : Paired (fun a rows => H2 a = some (.lst (nL rows))) as rss
  len : rss.length = i + 1
  all : ∀ j rows, rss[j]? = some rows → Sm.Lev f (f.size - j) rows
  ha : H2 la = some (.lst (nL rows))
  lv : Sm.Lev f (f.size - i) rows
  na : lev ∉ as
def LvInv (f : Ql66.Formula) (H : Hp) (p lev : Addr) (i : Nat) (σ : St) (H2 : Hp) : Prop := ∃ (as : List Addr) (rss : List (List Nat)) (la : Addr) (rows : List Nat) (x4 x5 : Option V), σ = [some (.ref p), some (.ref la), some (.ref lev), some (.int ((min (2 ^ (f.size - i)) 1024 : Nat) : Int)), x4, x5, none, none] ∧ LvSt f H H2 lev la as rss rows i
theorem LvSt.next {f : Ql66.Formula} {H H2 H4 : Hp} {lev la D : Addr} {as : List Addr} {rss : List (List Nat)} {rows rows' : List Nat} {i : Nat} (S : LvSt f H H2 lev la as rss rows i) (hlH : H lev = none) (hi : i < f.size) (s4 : Same H2 H4) (hDn : H2 D = none) (hD : H4 D = some (.lst (nL rows'))) (L : Sm.Lev f (f.size - (i + 1)) rows') :
    LvSt f H (upd H4 lev (.lst (as.map V.ref ++ [.ref D]))) lev D (as ++ [D]) (rss ++ [rows']) rows' (i + 1) := by
  have hDl : D ≠ lev := (ne_of_none S.hl hDn).symm
  refine ⟨hi, L2.Same.set (S.sm.trans s4) hlH, by rw [upd_same, List.map_append]; rfl, ?_, by simp [S.len], ?_, by rw [upd_ne hDl]; exact hD, L, by simp [S.na, Ne.symm hDl]⟩
  · refine Paired.snoc (paired_mapm S.pr fun a rows ha q => ?_) (by rw [upd_ne hDl]; exact hD)
    rw [upd_ne (show a ≠ lev from fun z => S.na (z ▸ ha))]; exact s4 _ _ q
  · intro j rw' e
    have hrl := S.len
    by_cases hj : j < rss.length
    · rw [List.getElem?_append_left hj] at e
      exact S.all j rw' e
    · rw [List.getElem?_append_right (by omega)] at e
      have : j - rss.length = 0 := by
        cases hz : j - rss.length with
        | zero => rfl
        | succ z => rw [hz] at e; simp at e
      rw [this] at e
      simp at e
      subst e
      have : f.size - j = f.size - (i + 1) := by omega
      rw [this]; exact L
theorem min_width (n : Nat) : (if (1024 : Int) < (((fun i j : Nat => i <<< j) 1 n : Nat) : Int) then (1024 : Int) else (((fun i j : Nat => i <<< j) 1 n : Nat) : Int)) = ((min (2 ^ n) 1024 : Nat) : Int) := by
  rw [show (fun i j : Nat => i <<< j) 1 n = 2 ^ n from shl_one n]
  generalize 2 ^ n = x
  split <;> omega
section
variable {P : Program} {w : World} {K : PySem.W.Frag} {mg : Str → Option Value} {base : Heap} {CO CF : Addr}
theorem scLe : FnScope ["formula", "rows", "levels", "width", "kind", "half", "low", "high"] ["formula"] (defScope sLevels) := ⟨rfl, rfl, rfl, by decide +kernel, rfl, by decide +kernel, by decide +kernel⟩
theorem blkLe : BlkOk ["formula", "rows", "levels", "width", "kind", "half", "low", "high"] (defScope sLevels) { kind := .function, names := [(".0", .local), ("low", .local), ("high", .local), ("failing_either_way", .globalImplicit), ("kind", .free)], isGenerator := false, isCoroutine := false } [("low", 6), ("high", 7)] := ⟨rfl, by decide +kernel, by decide +kernel, by decide +kernel, by decide +kernel⟩
theorem ok_levels (D : DefOf K mg "failing_levels" sLevels ["formula"]) (T : TxtT K mg CO) (TF : TxtF K mg CF) (GR : Pr P w K mg base CX0 3 "failing_rows" ["formula"] (spRows CF)) (GE : Pr P w K mg base CX0 1 "failing_either_way" ["kind", "with_zero", "with_one"] spEither) :
    Pr P w K mg base CX0 4 "failing_levels" ["formula"] (spLevels CF) := by
  obtain ⟨tb, hb⟩ := T.bits
  obtain ⟨fR, fdR, kR, bR, mR, GR⟩ := GR
  obtain ⟨fE, fdE, kE, bE, mE, GE⟩ := GE
  obtain ⟨f, fd, F, b, m⟩ := D
  refine ⟨f, fd, F.kp, b, m, F.ok scLe (fun vs H Q E h => ?_) (fun cdv A outer s H vs Q E hr h => ?_)⟩
  · obtain ⟨p, f, fb, rfl, _⟩ := h
    rfl
  · obtain ⟨p, f, fb, rfl, Fm, W, k⟩ := h
    have hr1 := hr.mono (show 1 ≤ 3 by decide)
    refine ⟨_, pss_cons (ps_set (i := 1) scLe.nd rfl (Or.inl rfl) (pe_call GR hr rfl mR kR bR .nil pass0 (pa_cons (pv 0) pa_nil)))
      (pss_cons (ps_set (i := 2) scLe.nd rfl (Or.inl rfl) (pe_lst (pa_cons (pv 1) pa_nil)))
      (pss_cons (ps_set (i := 3) scLe.nd rfl (Or.inl rfl) (pe_callB (call_min2 rfl) (by rfl) T.mn (by rfl) (pa_cons (pe_op op_shlN pe_int (pe_callB call_len_seq (by rfl) T.len PySem.boot_len (pa_cons (pe_fld (pv 0) rfl) pa_nil))) (pa_cons (pgI hb) pa_nil))))
      (pss_cons (ps_for PassesOwn.never rfl (pi_reversed (by rfl) T.rev (pa_cons (pe_fld (pv 0) rfl) pa_nil)) (pg_name (i := 4) scLe.nd rfl (Or.inr rfl))
        (pss_cons (ps_if (pt_cmpR op_gt (pe_callB call_len_seq (by rfl) T.len PySem.boot_len (pa_cons (pv 1) pa_nil)) pe_int (nomark _))
            (pss_cons (ps_set (i := 5) scLe.nd rfl (Or.inl rfl) (pe_op op_divN (pe_callB call_len_seq (by rfl) T.len PySem.boot_len (pa_cons (pv 1) pa_nil)) pe_int))
            (pss_one (ps_setLc (i := 1) (g := gTup K 2 (gCons (gName 6) (gCons (gName 7) gNil))) (own := [("low", 6), ("high", 7)]) rfl scLe.nd rfl rfl (sw_true rfl rfl rfl (by decide +kernel)) (pi_zip (by rfl) T.zip (pa_cons (pe_slice sl_list (pv 1) po_none (po_some (pv 5))) (pa_cons (pe_slice sl_list (pv 1) (po_some (pv 5)) po_none) pa_nil))) blkLe
              (fun _ _ _ _ _ => pg_tup rfl (pgs_cons (pg_name (i := 6) scLe.nd rfl (Or.inl rfl) (.inr rfl)) (pgs_cons (pg_name (i := 7) scLe.nd rfl (Or.inl rfl) (.inr rfl)) pgs_nil))) (fun _ _ _ _ _ => pts_nil) (fun _ _ _ _ _ => pe_call GE hr1 rfl mE kE bE .nil pass0 (pa_cons (pv 4) (pa_cons (pv 6) (pa_cons (pv 7) pa_nil)))))))
            (pss_cons (ps_set (i := 3) scLe.nd rfl (Or.inl rfl) (pe_op op_divN (pv 3) pe_int))
            (pss_one (ps_set (i := 1) scLe.nd rfl (Or.inl rfl) (pe_lst (pa_cons (pe_call GE hr1 rfl mE kE bE .nil pass0 (pa_cons (pv 4) (pa_cons (pe_op op_andN (pe_ix ix_list (pv 1) pe_int (fun _ _ => rfl)) (pe_op op_sub (pe_op op_shlN pe_int (pv 3)) pe_int)) (pa_cons (pe_op op_shrN (pe_ix ix_list (pv 1) pe_int (fun _ _ => rfl)) (pv 3)) pa_nil)))) pa_nil))))))
        (pss_one (ps_expr (pe_bm PySem.F.plainAttrs_list PySem.F.slot_list_append PySem.F.type_list_append mt_append (pv 2) (pa_cons (pv 1) pa_nil))))))
      (pss_one (ps_ret (pe_listRev rfl (by rfl) T.rev (by rfl) T.list (pa_cons (pv 2) pa_nil))))))), ?_⟩
    obtain ⟨dx, lv, lk, lc, ds, h1, h2, h3, h4, h5⟩ := id Fm
    have hsz := W.sz
    have sz : sizeLine = 16777216 := sizeLine_eq
    have lK : (ordK f.order).length = f.size := by rw [List.length_map]; rfl
    refine ⟨_, rfl, p, f, fb, rfl, Fm, W, fun l0 rows0 H1 hl0 nl0 s1 L0 => ?_⟩
    refine ⟨_, rfl, by show 1 ≤ sizeLine; decide, fun lev hlev => ?_⟩
    have s2 := s1.trans (Same.upd (o := .lst [.ref l0]) hlev)
    have hlevH : H lev = none := s1.free hlev
    refine ⟨_, rfl, p, CF, dx, _, _, rfl, s2 _ _ h1, TF.cl, TF.nk, fF_kinds _ _ _ _, lk, _, rfl, .inl (SqL.of (s2 _ _ h3)), 1, f.size, rfl, by rw [lK], ⟨Nat.one_lt_two_pow (by decide), by omega⟩, _, _, rfl, ?_⟩
    rw [min_width]
    refine ⟨_, rfl, p, CF, dx, _, _, rfl, s2 _ _ h1, TF.cl, TF.nk, fF_kinds _ _ _ _, lk, _, rfl, SqL.of (s2 _ _ h3), ?_⟩
    rw [lK]
    have l0lev : l0 ≠ lev := ne_of_none hl0 hlev
    refine for_it (n := f.size) (LvInv f H p lev) ⟨[l0], [rows0], l0, rows0, none, none, rfl, Nat.zero_le _, s2, upd_same, .cons ((Same.upd hlev) _ _ hl0) .nil, rfl, ?_, (Same.upd hlev) _ _ hl0, L0, by simp [Ne.symm l0lev]⟩ ?_ ?_ ?_ ?_
    · intro j rows e
      cases j with
      | zero => simp at e; subst e; exact L0
      | succ j => simp at e
    · rintro i σ H2 hi ⟨as, rss, la, rows, x4, x5, rfl, S⟩
      have hlt : f.size - 1 - i < f.order.length := by show _ < f.size; omega
      exact ⟨hi, _, _, SqL.of (S.sm _ _ h3), by rw [ordK, List.getElem?_map, List.getElem?_eq_getElem hlt]; rfl⟩
    · rintro σ H2 _
      exact Nat.le_refl _
    · rintro i σ H2' x H2 hi ⟨as, rss, la, rows, x4, x5, rfl, S⟩ ⟨rfl, hy⟩
      have hx := hy _ (SqL.of (S.sm _ _ h3))
      obtain ⟨⟨y, q⟩, hyq, rfl⟩ : ∃ yq : Nat × Bool, f.order[f.size - 1 - i]? = some yq ∧ x = .str (kd yq.2) := by
        rw [ordK, List.getElem?_map] at hx
        cases e : f.order[f.size - 1 - i]? with
        | none => rw [e] at hx; cases hx
        | some yq => rw [e] at hx; exact ⟨yq, rfl, (Option.some.inj hx).symm⟩
      have hm1 : f.size - i = (f.size - 1 - i) + 1 := by omega
      have hm2 : f.size - (i + 1) = f.size - 1 - i := by omega
      have L := S.lv
      rw [hm1] at L
      rw [hm1]
      generalize hmm : f.size - 1 - i = m at *
      have las : as.length = i + 1 := by rw [← S.len]; exact S.pr.length
      have lrows := L.len
      have lnL : (nL rows).length = rows.length := by simp
      have app : ∀ (H4 : Hp) (D : Addr) (rows' : List Nat) (v4 v5 : Option V), Same H2 H4 → H2 D = none → H4 D = some (.lst (nL rows')) → Sm.Lev f m rows' →
          tDrop (tBM K "list" (rAppend) (tVar 2) (tCons (tVar 1) tNil)) { nx := LvInv f H p lev (i + 1), rt := Q, bk := fun _ _ => False, ct := fun _ _ => False } [some (.ref p), some (.ref D), some (.ref lev), some (.int ((min (2 ^ m) 1024 : Nat) : Int)), v4, v5, none, none] H4 := fun H4 D rows' v4 v5 s4 hDn hD hL' => by
        refine ⟨_, rfl, .inl ⟨rfl, _, SqL.of (s4 _ _ S.hl)⟩, _, rfl, lev, _, _, rfl, rfl, s4 _ _ S.hl, by rw [List.length_map]; omega, ?_⟩
        exact ⟨_, _, D, rows', v4, v5, by rw [hm2], S.next hlevH hi s4 hDn hD (by rw [hm2]; exact hL')⟩
      refine ⟨_, rfl, la, _, rfl, .inl (SqL.of S.ha), _, _, rfl, rfl, _, rfl, ifD (fun c => ?_) (fun c => ?_)⟩
      · -- many rows
        have c' : 1 < rows.length := by
          have : (1 : Int) < ((nL rows).length : Nat) := c
          rw [lnL] at this; omega
        have hm10 : 10 ≤ m := by
          refine Nat.le_of_not_lt fun z => ?_
          rw [lrows, show m + 1 - 10 = 0 by omega] at c'
          simp at c'
        have hhalf : rows.length / 2 = 2 ^ (m - 10) := by
          rw [lrows, show m + 1 - 10 = (m - 10) + 1 by omega, Nat.pow_succ]; omega
        have p1024 : ∀ j, 10 ≤ j → min (2 ^ j) 1024 = 1024 := fun j hj => by
          have : 2 ^ 10 ≤ 2 ^ j := Nat.pow_le_pow_right (by decide) hj
          exact Nat.min_eq_right (by omega)
        refine ⟨_, rfl, la, _, rfl, .inl (SqL.of S.ha), (nL rows).length, 2, rfl, rfl, ⟨by decide, by decide +kernel⟩, ?_⟩
        rw [show (fun i j : Nat => i / j) (nL rows).length 2 = 2 ^ (m - 10) by rw [lnL]; exact hhalf]
        refine ⟨_, rfl, _, rfl, _, rfl, la, _, rfl, SqL.of S.ha, ?_⟩
        rw [cut_takeV]
        intro a1 ha1
        have t1 : Same H2 _ := Same.upd (o := .lst ((nL rows).take (2 ^ (m - 10)))) ha1
        refine ⟨_, rfl, _, rfl, _, rfl, la, _, rfl, SqL.of (t1 _ _ S.ha), ?_⟩
        rw [cut_dropV]
        intro a2 ha2
        have t2 := t1.trans (Same.upd (o := .lst ((nL rows).drop (2 ^ (m - 10)))) ha2)
        have ea1 : (upd (upd H2 a1 (.lst ((nL rows).take (2 ^ (m - 10))))) a2 (.lst ((nL rows).drop (2 ^ (m - 10))))) a1 = some (.lst (nL (rows.take (2 ^ (m - 10))))) := by
          rw [(Same.upd ha2) _ _ upd_same, nL, nL, List.map_take]
        have ea2 : (upd (upd H2 a1 (.lst ((nL rows).take (2 ^ (m - 10))))) a2 (.lst ((nL rows).drop (2 ^ (m - 10))))) a2 = some (.lst (nL (rows.drop (2 ^ (m - 10))))) := by
          rw [upd_same, nL, nL, List.map_drop]
        generalize upd (upd H2 a1 (.lst ((nL rows).take (2 ^ (m - 10))))) a2 (.lst ((nL rows).drop (2 ^ (m - 10)))) = H3 at *
        refine ⟨a1, a2, _, _, rfl, SqL.of ea1, SqL.of ea2, fun D hD => ?_⟩
        have hDn : H2 D = none := t2.free hD
        have hrl : rows.length = 2 ^ (m - 10) * 2 := by rw [lrows, show m + 1 - 10 = (m - 10) + 1 by omega, Nat.pow_succ]
        have lz : (List.zipWith (Sm.comb q) (rows.take (2 ^ (m - 10))) (rows.drop (2 ^ (m - 10)))).length = 2 ^ (m - 10) := by
          rw [List.length_zipWith, List.length_take, List.length_drop]; omega
        have psmall : 2 ^ (m - 10) ≤ 1024 := Sm.p10 (by have := hsz.2; omega)
        refine lc_it (n := 2 ^ (m - 10)) (fun j H5 => Same H3 H5 ∧ H5 D = some (.lst (nL ((List.zipWith (Sm.comb q) (rows.take (2 ^ (m - 10))) (rows.drop (2 ^ (m - 10)))).take j)))) ⟨Same.upd hD, upd_same⟩ ?_ ?_ ?_ ?_
        · rintro j H5 hj ⟨s5, _⟩
          have l1 : j < (rows.take (2 ^ (m - 10))).length := by rw [List.length_take]; omega
          have l2 : j < (rows.drop (2 ^ (m - 10))).length := by rw [List.length_drop]; omega
          exact ⟨_, _, _, _, SqL.of (s5 _ _ ea1), SqL.of (s5 _ _ ea2), nL_at l1, nL_at l2⟩
        · rintro H5 ⟨s5, _⟩
          refine ⟨_, _, SqL.of (s5 _ _ ea1), SqL.of (s5 _ _ ea2), .inl ?_⟩
          rw [List.length_map, List.length_take]; omega
        · rintro j H5 x H6 hj ⟨s5, hD5⟩ ⟨T', u, v, rfl, hT', rfl, hu, hv⟩
          have l1 : j < (rows.take (2 ^ (m - 10))).length := by rw [List.length_take]; omega
          have l2 : j < (rows.drop (2 ^ (m - 10))).length := by rw [List.length_drop]; omega
          have hu' := (hu _ (SqL.of (s5 _ _ ea1))).symm.trans (nL_at l1)
          have hv' := (hv _ (SqL.of (s5 _ _ ea2))).symm.trans (nL_at l2)
          cases hu'
          cases hv'
          have hD6 := (Same.upd (o := .tup [.int (((rows.take (2 ^ (m - 10))).getD j 0 : Nat) : Int), .int (((rows.drop (2 ^ (m - 10))).getD j 0 : Nat) : Int)]) hT') _ _ hD5
          have hg : (List.zipWith (Sm.comb q) (rows.take (2 ^ (m - 10))) (rows.drop (2 ^ (m - 10))))[j]? = some (Sm.comb q ((rows.take (2 ^ (m - 10))).getD j 0) ((rows.drop (2 ^ (m - 10))).getD j 0)) := by
            rw [List.getElem?_zipWith, List.getD_eq_getElem?_getD, List.getD_eq_getElem?_getD, List.getElem?_eq_getElem l1, List.getElem?_eq_getElem l2]; rfl
          refine ⟨T', _, rfl, .inl (.inl upd_same), rfl, _, _, rfl, _, _, rfl, rfl, rfl, ⟨_, rfl, _, rfl, _, rfl, q, _, _, rfl, _, hD6, ?_, L2.Same.set (s5.trans (Same.upd hT')) hD, ?_⟩⟩
          · rw [List.length_map, List.length_take, lz]; omega
          · rw [upd_same, take_get hg]
            simp
        · rintro H5 ⟨s5, hD5⟩
          rw [List.take_of_length_le (Nat.le_of_eq lz)] at hD5
          have := app H5 D _ (some (.str (kd q))) (some (.int (2 ^ (m - 10) : Nat))) (t2.trans s5) hDn hD5 (L.many hyq hm10)
          rw [p1024 m hm10] at this
          rw [p1024 (m + 1) (by omega)]
          exact this
      · -- one row
        have c' : rows.length ≤ 1 := by
          have : ¬ (1 : Int) < ((nL rows).length : Nat) := c
          rw [lnL] at this; omega
        have hm10 : m < 10 := by
          refine Nat.lt_of_not_le fun z => ?_
          rw [lrows, show m + 1 - 10 = (m - 10) + 1 by omega, Nat.pow_succ] at c'
          have := Nat.two_pow_pos (m - 10)
          omega
        have lr1 : rows.length = 1 := by rw [lrows, show m + 1 - 10 = 0 by omega, Nat.pow_zero]
        obtain ⟨row, rfl⟩ : ∃ row, rows = [row] := by
          match rows, lr1 with
          | [row], _ => exact ⟨row, rfl⟩
        have w1 : min (2 ^ (m + 1)) 1024 = 2 ^ (m + 1) := Nat.min_eq_left (Sm.p10 (by omega))
        have w2 : min (2 ^ m) 1024 = 2 ^ m := Nat.min_eq_left (Sm.p10 (by omega))
        have pm : 2 ^ m ≤ 1024 := Sm.p10 (by omega)
        refine ⟨_, rfl, min (2 ^ (m + 1)) 1024, 2, rfl, rfl, ⟨by decide, by decide +kernel⟩, ?_⟩
        rw [show (fun i j : Nat => i / j) (min (2 ^ (m + 1)) 1024) 2 = min (2 ^ m) 1024 from (by show min (2 ^ (m + 1)) 1024 / 2 = _; rw [w1, w2, Nat.pow_succ]; omega)]
        have hix : atI (nL [row]) 0 = some (.int (row : Nat)) := at_of (j := 0) rfl rfl
        refine ⟨_, rfl, _, rfl, la, _, _, _, rfl, rfl, SqL.of S.ha, hix, _, rfl, 1, min (2 ^ m) 1024, rfl, rfl, ⟨Nat.one_lt_two_pow (by decide), by omega⟩, _, _, rfl, rfl, row, 2 ^ min (2 ^ m) 1024 - 1, rfl, shl_sub _, trivial, _, rfl, la, _, _, _, rfl, rfl, SqL.of S.ha, hix, _, rfl, row, min (2 ^ m) 1024, rfl, rfl, trivial, q, _, _, rfl, by show 1 ≤ sizeLine; decide, fun D hD => ?_⟩
        refine app _ D [Sm.comb q (row &&& (2 ^ min (2 ^ m) 1024 - 1)) (row >>> min (2 ^ m) 1024)] (some (.str (kd q))) _ (Same.upd hD) hD upd_same ?_
        rw [w2]
        exact L.one hyq hm10
    · rintro σ H2 ⟨as, rss, la, rows, x4, x5, rfl, S⟩
      have hrl := S.len
      refine ⟨_, rfl, lev, _, rfl, SqL.of S.hl, fun q hq => k q _ ⟨as.reverse, rss.reverse, by rw [upd_same, List.map_reverse], ?_, by rw [List.length_reverse, hrl], ?_⟩ (S.sm.free hq) (S.sm.trans (Same.upd hq))⟩
      · exact paired_rev (Paired.mapP S.pr fun a r q' => (Same.upd hq) _ _ q')
      · intro m rows e
        have hlt := (List.getElem?_eq_some_iff.mp e).1
        rw [List.length_reverse, hrl] at hlt
        rw [List.getElem?_reverse (by omega), hrl] at e
        have := S.all _ _ e
        have e2 : f.size - (f.size + 1 - 1 - m) = m := by omega
        rw [e2] at this
        exact this
end
def oF (l : Addr) : List (Str × V) := putF "levels" (.ref l) []
theorem oF_lev (l : Addr) : (oF l).lookup ("levels" : Str) = some (.ref l) := by unfold oF; rw [lookup_putF, if_pos rfl]
theorem oF_no (l : Addr) {m : Str} (h : ¬ m = "levels") : (oF l).lookup m = none := by unfold oF; rw [lookup_putF, if_neg h]; rfl
def OutAt (CO : Addr) (H : Hp) (o : Addr) (f : Ql66.Formula) : Prop := ∃ dx l, H o = some (.ins CO dx (oF l)) ∧ LevsAt H l f
theorem OutAt.same {CO : Addr} {H H' : Hp} {o : Addr} {f : Ql66.Formula} (h : OutAt CO H o f) (s : Same H H') : OutAt CO H' o f := by
  obtain ⟨dx, l, h1, h2⟩ := h
  exact ⟨dx, l, s _ _ h1, h2.same s⟩
def spOut (CO CF : Addr) : Sp := fun vs H Q _ => ∃ (o dx p : Addr) (f : Ql66.Formula) (fb : Nat), vs = [.ref o, .ref p] ∧ H o = some (.ins CO dx []) ∧ FmAt CF H p f fb ∧ Sm.FW f ∧ ∀ H', OutAt CO H' o f → Off [o] H H' → Q .non H'
def spIsTrue (K : PySem.W.Frag) (CO : Addr) : Sp := fun vs H Q _ => ∃ (o a : Addr) (f : Ql66.Formula) (v : List Bool), vs = [.ref o, .ref a] ∧ OutAt CO H o f ∧ Sm.FW f ∧ SqL K H a (v.map fun b => V.int (b.toNat : Nat)) ∧ v.length ≤ f.size ∧ Q (.bl (f.true_ v)) H
def spCount (CO : Addr) : Sp := fun vs H Q _ => ∃ (o : Addr) (f : Ql66.Formula) (n : Nat), vs = [.ref o, .int (n : Nat)] ∧ OutAt CO H o f ∧ Sm.FW f ∧ n ≤ f.size ∧ ∀ H', Same H H' → Q (.int (f.ways n : Nat)) H'
theorem and_one (x k : Nat) : decide (V.int (((x >>> k) &&& 1 : Nat) : Int) = V.int 0) = !x.testBit k := by
  have e : x.testBit k = ((x >>> k) &&& 1 != 0) := by
    rw [Nat.testBit, Nat.and_comm]
  rw [e]
  generalize (x >>> k) &&& 1 = y
  by_cases h : y = 0
  · subst h; rfl
  · have h1 : (y != 0) = true := by simpa using h
    rw [h1]
    exact decide_eq_false (fun z => h (by have := int_eq z; omega))
theorem sum_nat (l : List Nat) : (l.map fun (n : Nat) => (n : Int)).sum = ((l.sum : Nat) : Int) := by
  induction l with
  | nil => rfl
  | cons x r ih => rw [List.map_cons, List.sum_cons, ih, List.sum_cons]; omega
theorem nL_ints (l : List Nat) : nL l = (l.map fun (n : Nat) => (n : Int)).map V.int := by rw [List.map_map]; rfl
theorem pops_cnt {f : Ql66.Formula} {m : Nat} {rows : List Nat} (L : Sm.Lev f m rows) : (rows.map Sm.popOf).sum = Sm.cnt (2 ^ m) fun n => !f.true_ (Sm.vals m n) := by
  rw [← L.cnt]
  congr 1
  refine List.map_congr_left fun r hr => ?_
  exact Sm.pop_eq (Nat.lt_of_lt_of_le (L.lt r hr) (Nat.pow_le_pow_right (by decide) (Nat.min_le_right _ _)))
section
variable {P : Program} {w : World} {K : PySem.W.Frag} {mg : Str → Option Value} {base : Heap} {CO CF : Addr}
theorem scOI : FnScope ["self", "formula"] ["self", "formula"] (defScope sOutInit) := ⟨rfl, rfl, rfl, by decide +kernel, rfl, by decide +kernel, by decide +kernel⟩
theorem ok_out (D : InitOf K CO "Outcomes.__init__" sOutInit ["self", "formula"]) (T : TxtT K mg CO) (GL : Pr P w K mg base CX0 4 "failing_levels" ["formula"] (spLevels CF)) : PrC P w K mg base CX0 5 CO ["self", "formula"] (spOut CO CF) := by
  obtain ⟨fL, fdL, kL, bL, mL, GL⟩ := GL
  obtain ⟨f, fd, F, b, M⟩ := D
  refine ⟨f, fd, M, b, F.ok scOI (fun vs H Q E h => ?_) (fun cdv A outer s H vs Q E hr h => ?_)⟩
  · obtain ⟨o, dx, p, f, fb, rfl, _⟩ := h
    rfl
  · obtain ⟨o, dx, p, f, fb, rfl, ho, Fm, W, k⟩ := h
    refine ⟨_, pss_one (ps_fld (pv 0) (pe_call GL hr rfl mL kL bL .nil pass0 (pa_cons (pv 1) pa_nil)) rfl), ?_⟩
    refine ⟨_, rfl, p, f, fb, rfl, Fm, W, fun l H' Lv hl s => ?_⟩
    refine ⟨_, rfl, o, CO, dx, _, rfl, s _ _ ho, T.cl, T.nl, by show 0 < 1000; decide, ?_⟩
    refine k _ ⟨dx, l, upd_same, ?_⟩ ((Off.of s).trans Off.upd)
    obtain ⟨as, rss, h1, h2, h3, h4⟩ := Lv
    have ho' := s _ _ ho
    exact ⟨as, rss, by rw [upd_ne (ne_of h1 ho' (by intro z; cases z))]; exact h1, Paired.mapP h2 fun a r q => by rw [upd_ne (ne_of q ho' (by intro z; cases z))]; exact q, h3, h4⟩
theorem scIT : FnScope ["self", "values", "place", "row"] ["self", "values"] (defScope sIsTrue) := ⟨rfl, rfl, rfl, by decide +kernel, rfl, by decide +kernel, by decide +kernel⟩
theorem ok_isTrue (D : MethOf K CO "is_true_of" "Outcomes.is_true_of" sIsTrue ["self", "values"]) (T : TxtT K mg CO) (GP : Pr P w K mg base CX0 1 "place_of" ["values"] (spPlace K)) : PrM P w K mg base CX0 2 CO "is_true_of" ["self", "values"] (spIsTrue K CO) := by
  obtain ⟨tb, hb⟩ := T.bits
  obtain ⟨fP, fdP, kP, bP, mP, GP⟩ := GP
  obtain ⟨f, fd, F, b, M⟩ := D
  refine ⟨f, fd, M, b, F.ok scIT (fun vs H Q E h => ?_) (fun cdv A outer s H vs Q E hr h => ?_)⟩
  · obtain ⟨o, a, f, v, rfl, _⟩ := h
    rfl
  · obtain ⟨o, a, f, v, rfl, ⟨dx, l, ho, as, rss, h1, h2, h3, h4⟩, W, hS, hv, k⟩ := h
    have hsz := W.sz
    refine ⟨_, pss_cons (ps_set (i := 2) scIT.nd rfl (Or.inl rfl) (pe_call GP hr rfl mP kP bP .nil pass0 (pa_cons (pv 1) pa_nil)))
      (pss_cons (ps_set (i := 3) scIT.nd rfl (Or.inl rfl) (pe_ix ix_list (pe_ix ix_list (pe_fld (pv 0) rfl) (pe_callB call_len_seq (by rfl) T.len PySem.boot_len (pa_cons (pv 1) pa_nil)) (fun _ _ => rfl)) (pe_op op_divN (pv 2) (pgI hb)) (fun _ _ => rfl)))
      (pss_one (ps_ret (pe_cmpR op_eq (pe_op op_andN (pe_op op_shrN (pv 3) (pe_op op_mod (pv 2) (pgI hb))) pe_int) pe_int (nomark _))))), ?_⟩
    have lv : (v.map fun b => V.int (b.toNat : Nat)).length = v.length := by simp
    obtain ⟨rows, hrows⟩ : ∃ rows, rss[v.length]? = some rows := ⟨rss[v.length], List.getElem?_eq_getElem (by omega)⟩
    have L := h4 _ _ hrows
    obtain ⟨la, hla, hra⟩ := paired_at h2 _ _ hrows
    have hlt := Sm.placeB_lt v
    have hrl := L.row hlt
    refine ⟨_, rfl, a, v, rfl, hS, by omega, ?_⟩
    refine ⟨_, rfl, o, CO, dx, _, _, rfl, ho, T.cl, T.nl, oF_lev l, _, rfl, a, _, rfl, .inl hS, l, _, _, _, rfl, rfl, SqL.of h1, at_of (j := v.length) (v := .ref la) (by rw [lv]) (by rw [List.getElem?_map, hla]; rfl), ?_⟩
    refine ⟨_, rfl, Sm.placeB v, 1024, rfl, rfl, ⟨by decide, by decide +kernel⟩, la, _, _, _, rfl, rfl, SqL.of hra, at_of (j := Sm.placeB v / 1024) rfl (nL_at hrl), ?_⟩
    refine ⟨_, rfl, _, rfl, _, _, rfl, rfl, (by show (0 : Int) < 1024; decide), _, Sm.placeB v % 1024, rfl, rfl, trivial, _, 1, rfl, rfl, trivial, rfl, ?_⟩
    rw [and_one]
    have := L.at
    unfold Sm.bitAt at this
    rw [this, Bool.not_not]
    exact k
theorem scCt : FnScope ["self", "how_many", "masks", "failing", "row"] ["self", "how_many"] (defScope sCount) := ⟨rfl, rfl, rfl, by decide +kernel, rfl, by decide +kernel, by decide +kernel⟩
theorem blkCt : BlkOk ["self", "how_many", "masks", "failing", "row"] (defScope sCount) { kind := .function, names := [(".0", .local), ("row", .local), ("count_ones", .globalImplicit), ("masks", .free)], isGenerator := false, isCoroutine := false } [("row", 4)] := ⟨rfl, by decide +kernel, by decide +kernel, by decide +kernel, by decide +kernel⟩
theorem ok_count (D : MethOf K CO "count_true" "Outcomes.count_true" sCount ["self", "how_many"]) (T : TxtT K mg CO) (GM : Pr P w K mg base CX0 1 "field_masks" [] spMasks) (GO : Pr P w K mg base CX0 1 "count_ones" ["row", "masks"] spOnes) : PrM P w K mg base CX0 2 CO "count_true" ["self", "how_many"] (spCount CO) := by
  obtain ⟨fM, fdM, kM, bM, mM, GM⟩ := GM
  obtain ⟨fO, fdO, kO, bO, mO, GO⟩ := GO
  obtain ⟨f, fd, F, b, M⟩ := D
  refine ⟨f, fd, M, b, F.ok scCt (fun vs H Q E h => ?_) (fun cdv A outer s H vs Q E hr h => ?_)⟩
  · obtain ⟨o, f, n, rfl, _⟩ := h
    rfl
  · obtain ⟨o, f, n, rfl, ⟨dx, l, ho, as, rss, h1, h2, h3, h4⟩, W, hn, k⟩ := h
    have hsz := W.sz
    refine ⟨_, pss_cons (ps_set (i := 2) scCt.nd rfl (Or.inr rfl) (pe_call0 GM hr rfl mM kM bM .nil pass0))
      (pss_cons (ps_set (i := 3) scCt.nd rfl (Or.inl rfl) (pe_callB (call_sum rfl) (by rfl) T.sum (by rfl) (pa_cons (pe_lc (own := [("row", 4)]) rfl scCt.nd (pi_list (pe_ix ix_list (pe_fld (pv 0) rfl) (pv 1) (fun _ _ => rfl))) blkCt
          (fun _ _ _ _ _ => pg_name (i := 4) scCt.nd rfl (Or.inl rfl)) (fun _ _ _ _ _ => pts_nil) (fun _ _ _ _ _ => pe_call GO hr rfl mO kO bO .nil pass0 (pa_cons (pv 4) (pa_cons (pv 2) pa_nil)))) pa_nil)))
      (pss_one (ps_ret (pe_op op_sub (pe_op op_shlN pe_int (pv 1)) (pv 3))))), ?_⟩
    obtain ⟨rows, hrows⟩ : ∃ rows, rss[n]? = some rows := ⟨rss[n], List.getElem?_eq_getElem (by omega)⟩
    have L := h4 _ _ hrows
    obtain ⟨la, hla, hra⟩ := paired_at h2 _ _ hrows
    have sz : sizeLine = 16777216 := sizeLine_eq
    have lr : rows.length ≤ 1024 := by rw [L.len]; exact Sm.p10 (by omega)
    refine ⟨rfl, fun ml H1 Ms s1 => ?_⟩
    refine ⟨_, rfl, o, CO, dx, _, _, rfl, s1 _ _ ho, T.cl, T.nl, oF_lev l, _, rfl, l, _, _, _, rfl, rfl, SqL.of (s1 _ _ h1), at_of (j := n) (v := .ref la) rfl (by rw [List.getElem?_map, hla]; rfl), la, rfl, ⟨_, SqL.of (s1 _ _ hra)⟩, fun D hD => lc_list (K := K) (a := la) (xs := nL rows) (fun j H2 => Same H1 H2 ∧ H2 D = some (.lst (nL ((rows.take j).map Sm.popOf)))) ⟨Same.upd hD, upd_same⟩ (fun j H2 _ ⟨s2, _⟩ => SqL.of (s2 _ _ (s1 _ _ hra))) ?_ ?_⟩
    · rintro j x H2 hj ⟨s2, hD2⟩
      obtain ⟨r, hr', rfl⟩ := nL_get hj
      have hjl := (List.getElem?_eq_some_iff.mp hr').1
      refine ⟨rfl, ⟨_, rfl, _, rfl, r, ml, rfl, Ms.same s2, _, hD2, ?_, L2.Same.set s2 hD, ?_⟩⟩
      · rw [List.length_map, List.length_map, List.length_take]; omega
      · rw [upd_same, take_get hr']
        simp
    · rintro H2 ⟨s2, hD2⟩
      have el : (nL rows).length = rows.length := by simp
      rw [el, List.take_length, nL_ints] at hD2
      refine ⟨D, _, rfl, SqL.of hD2, ?_⟩
      rw [sum_nat, pops_cnt L]
      refine ⟨_, rfl, 1, n, rfl, rfl, ⟨Nat.one_lt_two_pow (by decide), by omega⟩, _, rfl, _, _, rfl, rfl, ?_⟩
      have hc := Sm.cnt_le (2 ^ n) fun i => !f.true_ (Sm.vals n i)
      have e : (((fun i j : Nat => i <<< j) 1 n : Nat) : Int) - ((Sm.cnt (2 ^ n) fun i => !f.true_ (Sm.vals n i) : Nat) : Int) = ((f.ways n : Nat) : Int) := by
        rw [Sm.ways_cnt, show (fun i j : Nat => i <<< j) 1 n = 2 ^ n from shl_one n]
        generalize 2 ^ n = x at *
        omega
      show Q (.int (_ - _)) H2
      rw [e]
      exact k H2 (s1.trans s2)
end
abbrev sCheck : Stmt := top 23
abbrev sStep : Stmt := top 24
abbrev sNamed : Stmt := top 25
abbrev sDiffer : Stmt := top 26
abbrev sPut : Stmt := top 27
abbrev sKept : Stmt := top 28
structure TxtP (K : PySem.W.Frag) (mg : Str → Option Value) : Prop where
  steps : ∃ t, mg "MOST_STEPS" = some (.int 65536 t)
  two : ∃ t, mg "TWO_CLAUSES" = some (.str "r" t)
  one : ∃ t, mg "ONE_CLAUSE" = some (.str "u" t)
  some_ : ∃ t, mg "SOME" = some (.str "e" t)
  len : mg "len" = none
  rev : mg "reversed" = none
  list : mg "list" = none
  dict : mg "dict" = none
def sgn (b : Bool) : V := .int (if b = true then 1 else 0)
theorem valV_cV (c : Ql66.Clause) (x : Nat) : valV (cV c) (Sum.inl (x : Int)) = (Sm.holdV c x).map sgn := by
  induction c with
  | nil => rfl
  | cons l r ih =>
    unfold Sm.holdV
    rw [List.find?_cons]
    by_cases h : l.1 = x
    · have e1 : (l.1 == x) = true := by rw [h]; exact beq_self_eq_true x
      rw [e1]
      exact valV_pos (p := litP l) (r := cV r) (k := Sum.inl (x : Int)) (by show (Sum.inl (l.1 : Int) : Key) = _; rw [h])
    · have e1 : (l.1 == x) = false := beq_eq_false_iff_ne.mpr h
      rw [e1]
      exact (valV_neg (p := litP l) (r := cV r) (k := Sum.inl (x : Int)) (by intro z; have z' : (Sum.inl (l.1 : Int) : Key) = Sum.inl (x : Int) := z; injection z' with z'; exact h (by omega))).trans ih
theorem putK_cV (c : Ql66.Clause) (l : Ql66.Lit) : putK (cV c) (litP l).1 (litP l).2 = cV (Sm.putC c l) := by
  unfold putK Sm.putC
  have e : ((cV c).any fun kv => decide (kv.1 = (litP l).1)) = c.any fun y => y.1 == l.1 := by
    unfold cV
    rw [List.any_map]
    congr 1
    funext y
    show decide ((Sum.inl (y.1 : Int) : Key) = Sum.inl (l.1 : Int)) = (y.1 == l.1)
    rw [Bool.eq_iff_iff, decide_eq_true_iff, beq_iff_eq]
    constructor
    · intro h; injection h with h; omega
    · intro h; rw [h]
  rw [e]
  split
  · unfold cV
    rw [List.map_map, List.map_map]
    refine List.map_congr_left fun y _ => ?_
    show (if (litP y).1 = (litP l).1 then ((litP y).1, (litP l).2) else litP y) = litP (if y.1 = l.1 then l else y)
    by_cases h : y.1 = l.1
    · rw [if_pos h, if_pos (by show (Sum.inl (y.1 : Int) : Key) = Sum.inl (l.1 : Int); rw [h])]
      show (Sum.inl (y.1 : Int), (litP l).2) = litP l
      rw [h]; rfl
    · rw [if_neg h, if_neg (by intro z; have z' : (Sum.inl (y.1 : Int) : Key) = Sum.inl (l.1 : Int) := z; injection z' with z'; exact h (by omega))]
  · unfold cV; rw [List.map_append]; rfl
theorem mergeK_cV : ∀ (d c : Ql66.Clause), mergeK (cV c) (cV d) = cV (Sm.mergeC c d)
  | [], c => rfl
  | l :: r, c => by
    show mergeK (putK (cV c) (litP l).1 (litP l).2) (cV r) = cV (Sm.mergeC (Sm.putC c l) r)
    rw [putK_cV, mergeK_cV r]
theorem dropK_cV (c : Ql66.Clause) (x : Nat) : dropK (cV c) (Sum.inl (x : Int)) = cV (c.filter fun l => decide (l.1 ≠ x)) := by
  unfold dropK cV
  rw [List.filter_map]
  congr 1
  refine List.filter_congr fun l _ => ?_
  show decide ((Sum.inl (l.1 : Int) : Key) ≠ Sum.inl (x : Int)) = decide (l.1 ≠ x)
  rw [decide_eq_decide]
  constructor
  · intro h e; exact h (by rw [e])
  · intro h e; injection e with e; exact h (by omega)
def spNamed (CR CW : Addr) : Sp := fun vs H Q E => ∃ (p l lc : Addr) (as ds : List Addr) (ws : List (List Int)) (k : Nat), vs = [.ref p, .ref lc] ∧ ReaderAt CR H p l as ws k ∧ k ≤ ws.length ∧ GoodWs ws ∧ H lc = some (.lst (ds.map V.ref)) ∧ ds.length ≤ 900000 ∧
  (∀ (i : Nat) (d : Addr) (H' : Hp), Sm.numE ds.length ws k = .ok i → ds[i - 1]? = some d → ReaderAt CR H' p l as ws (k + 1) → Off [p] H H' → Q (.ref d) H') ∧
  (∀ e, Sm.numE ds.length ws k = .error e → Wrong CW [p] H E (Sm.errNo ws e))
def spDiffer : Sp := fun vs H Q _ => ∃ (x : Nat) (a b : Addr) (c d : Ql66.Clause), vs = [.int (x : Nat), .ref a, .ref b] ∧ H a = some (.dK (cV c)) ∧ H b = some (.dK (cV d)) ∧ (c.map (·.1)).Nodup ∧ (d.map (·.1)).Nodup ∧ c.length ≤ 1000 ∧
  ∀ H', Same H H' → Q (.bl (decide (Sm.unlikes c d = [x] ∧ Sm.holdV c x = some true))) H'
def spPut : Sp := fun vs H Q _ => ∃ (x : Nat) (a b : Addr) (c d : Ql66.Clause), vs = [.int (x : Nat), .ref a, .ref b] ∧ H a = some (.dK (cV c)) ∧ H b = some (.dK (cV d)) ∧ c.length ≤ 1000 ∧ d.length ≤ 1000 ∧ (d.map (·.1)).Nodup ∧ (c.map (·.1)).Nodup ∧ x ∈ d.map (·.1) ∧
  ∀ (p : Addr) (H' : Hp), H' p = some (.dK (cV ((Sm.mergeC c d).filter fun l => decide (l.1 ≠ x)))) → H p = none → Same H H' → Q (.ref p) H'
theorem sgn_ne (a b : Bool) : (!decide (sgn a = sgn b)) = (a != b) := by cases a <;> cases b <;> rfl
theorem sgn_one (b : Bool) : decide (sgn b = V.int 1) = b := by cases b <;> rfl
theorem unlikes_snoc (c d : Ql66.Clause) (l : Ql66.Lit) : Sm.unlikes (c ++ [l]) d = Sm.unlikes c d ++ (if d.contains (l.1, !l.2) = true then [l.1] else []) := by
  unfold Sm.unlikes
  rw [List.filter_append, List.map_append]
  congr 1
  rw [List.filter_cons]
  split <;> rfl
theorem cV_get {c : Ql66.Clause} {j : Nat} {k : Key} {v : V} (h : (cV c)[j]? = some (k, v)) : ∃ l, c[j]? = some l ∧ k = Sum.inl (l.1 : Int) ∧ v = sgn l.2 := by
  unfold cV at h
  rw [List.getElem?_map] at h
  cases e : c[j]? with
  | none => rw [e] at h; cases h
  | some l => rw [e] at h; cases h; exact ⟨l, rfl, rfl, rfl⟩
theorem nL_iL (l : List Nat) : nL l = iL (l.map fun (n : Nat) => (n : Int)) := by rw [iL, List.map_map]; rfl
theorem ints_one (l : List Nat) (x : Nat) : (l.map (fun (n : Nat) => (n : Int)) = [(x : Int)]) ↔ l = [x] := by
  constructor
  · intro h
    match l with
    | [] => simp at h
    | [y] => simp at h; have : y = x := by omega
             rw [this]
    | y :: z :: r => simp at h
  · rintro rfl; rfl
section
variable {P : Program} {w : World} {K : PySem.W.Frag} {mg : Str → Option Value} {base : Heap} {CW fW CR CF : Addr} {fdW : FuncData}
theorem scNm : FnScope ["reader", "clauses"] ["reader", "clauses"] (defScope sNamed) := ⟨rfl, rfl, rfl, by decide +kernel, rfl, by decide +kernel, by decide +kernel⟩
theorem ok_named (D : DefOf K mg "take_named" sNamed ["reader", "clauses"]) (T : TxtR K mg CW fW CR fdW) (GN : PrM P w K mg base (CXx P w) 3 CR "take_number" ["self", "least", "most"] (spNum CR CW)) : Pr P w K mg base (CXx P w) 4 "take_named" ["reader", "clauses"] (spNamed CR CW) := by
  obtain ⟨fN, fdN, mN, bN, GN⟩ := GN
  obtain ⟨f, fd, F, b, m⟩ := D
  refine ⟨f, fd, F.kp, b, m, F.okX scNm (fun vs H Q E h => ?_) (fun cdv A outer s H vs Q E hr h => ?_)⟩
  · obtain ⟨p, l, lc, as, ds, ws, k, rfl, _⟩ := h
    rfl
  · obtain ⟨p, l, lc, as, ds, ws, k, rfl, R, hk, gw, hc, hd, k1, k2⟩ := h
    refine ⟨_, pss_one (ps_ret (pe_ix ix_list (pv 1) (pe_op op_sub (pe_meth (pv 0) T.cl mN GN hr bN .nil passX (pa_cons pe_int (pa_cons (pe_callB call_len_seq (by rfl) T.tw.len PySem.boot_len (pa_cons (pv 1) pa_nil)) pa_nil))) pe_int) (fun _ _ => rfl))), ?_⟩
    obtain ⟨⟨dx, hp⟩, wd⟩ := id R
    have ll : (ds.map V.ref).length = ds.length := by simp
    refine ⟨_, rfl, _, rfl, p, dx, _, rfl, hp, rdF_no _ _ (by decide +kernel) (by decide +kernel), _, rfl, lc, _, rfl, .inl (SqL.of hc), p, l, as, ws, k, 1, ds.length, by rw [ll]; rfl, R, hk, gw, by omega, fun n H' en hn R' o' => ?_, fun no => ?_⟩
    · have hm := Sm.upTo_le en
      have lt : n - 1 < ds.length := by omega
      have hc' := o' _ _ hc (ins_not hp _ _ hc)
      refine ⟨_, _, rfl, rfl, lc, _, _, _, rfl, rfl, SqL.of hc', at_of (j := n - 1) (v := .ref ds[n - 1]) (by omega) (by rw [List.getElem?_map, List.getElem?_eq_getElem lt]; rfl), ?_⟩
      exact k1 n _ H' (Sm.numE_ok en hn) (List.getElem?_eq_getElem lt) R' o'
    · have W := k2 _ (Sm.numE_err no)
      rw [Sm.errNo_at hk] at W
      exact W
theorem scDf : FnScope ["variable", "one", "other", "unlike", "shared"] ["variable", "one", "other"] (defScope sDiffer) := ⟨rfl, rfl, rfl, by decide +kernel, rfl, by decide +kernel, by decide +kernel⟩
theorem blkDf : BlkOk ["variable", "one", "other", "unlike", "shared"] (defScope sDiffer) { kind := .function, names := [(".0", .local), ("shared", .local), ("one", .free), ("other", .free)], isGenerator := false, isCoroutine := false } [("shared", 4)] := ⟨rfl, by decide +kernel, by decide +kernel, by decide +kernel, by decide +kernel⟩
theorem ok_differ (D : DefOf K mg "differ_in" sDiffer ["variable", "one", "other"]) (T : TxtP K mg) : Pr P w K mg base CX0 1 "differ_in" ["variable", "one", "other"] spDiffer := by
  obtain ⟨f, fd, F, b, m⟩ := D
  refine ⟨f, fd, F.kp, b, m, F.ok scDf (fun vs H Q E h => ?_) (fun cdv A outer s H vs Q E hr h => ?_)⟩
  · obtain ⟨x, a, b, c, d, rfl, _⟩ := h
    rfl
  · obtain ⟨x, a, b, c, d, rfl, ha, hb, nc, nd, hL, k⟩ := h
    have hu := hu_of hr
    have hun := hr.units
    refine ⟨_, pss_cons (ps_lock (ps_setLc (i := 3) (own := [("shared", 4)]) rfl scDf.nd rfl rfl (sw_true rfl rfl rfl (by decide +kernel)) (pi_keys (pv 1)) blkDf
            (fun _ _ _ _ _ => pg_name (i := 4) scDf.nd rfl (Or.inl rfl)) (fun _ _ _ _ _ => pts_one (PW.pt (pw_and (pt_cmp (pc_din hu (pv 4) (pv 2)) (by with_unfolding_all rfl)) (pw_and1 (pt_cmpR op_ne (pe_dget hu (pv 1) (pv 4) (fun _ _ => rfl)) (pe_dget hu (pv 2) (pv 4) (fun _ _ => rfl)) (nomark _)))))) (fun _ _ _ _ _ => pv 4)))
      (pss_one (ps_ret (pe_and (pe_cmpR (op_eqD hun) (pv 3) (pe_lst (pa_cons (pv 0) pa_nil)) (nomark _)) (pe_one (pe_cmpR op_eq (pe_dget hu (pv 1) (pv 0) (fun _ _ => rfl)) pe_int (nomark _)))))), ?_⟩
    have sz : sizeLine = 16777216 := sizeLine_eq
    refine ⟨a, _, ha, trivial, fun od => ?_⟩
    have hbL : Rd (upd H a (.frz od (.dK (cV c)))) b (.dK (cV d)) := by
      by_cases e : b = a
      · subst e
        rw [ha] at hb
        have e2 : cV c = cV d := by injection hb with hb; injection hb
        exact .inr ⟨od, by rw [upd_same, e2]⟩
      · exact .inl (by rw [upd_ne e]; exact hb)
    have haL : Rd (upd H a (.frz od (.dK (cV c)))) a (.dK (cV c)) := .inr ⟨od, upd_same⟩
    have key : ∀ (H2 : Hp), Same (upd H a (.frz od (.dK (cV c)))) H2 → Same H (upd H2 a (.dK (cV c))) := fun H2 s2 b' u e => by
      by_cases z : b' = a
      · subst z; rw [ha] at e; cases e; exact upd_same
      · rw [upd_ne z]; exact s2 _ _ (by rw [upd_ne z]; exact e)
    generalize hHl : upd H a (.frz od (.dK (cV c))) = Hl at *
    have hal : Hl a = some (.frz od (.dK (cV c))) := by rw [← hHl, upd_same]
    refine ⟨_, rfl, a, od, rfl, .inl ⟨cV c, hal, fun D hD => ?_⟩⟩
    have lc : (cV c).length = c.length := by unfold cV; simp
    refine lc_it (n := (cV c).length) (fun j H2 => Same Hl H2 ∧ H2 D = some (.lst (nL (Sm.unlikes (c.take j) d)))) ⟨Same.upd hD, upd_same⟩ (fun j H2 hj ⟨s2, _⟩ => ⟨s2 _ _ hal, hj⟩) (fun H2 ⟨s2, _⟩ => ⟨s2 _ _ hal, Nat.le_refl _⟩) ?_ ?_
    · rintro j H2 x' H3 hj ⟨s2, hD2⟩ ⟨rfl, kk, vv, hkv, rfl⟩
      obtain ⟨l, hl, rfl, rfl⟩ := cV_get hkv
      have ra := rd_same s2 haL
      have rb := rd_same s2 hbL
      have hmem := List.mem_of_getElem? hl
      have e1 : valV (cV c) (Sum.inl (l.1 : Int)) = some (sgn l.2) := by rw [valV_cV, Sm.holdV_of nc hmem]; rfl
      have e2 := valV_cV d l.1
      have ut : Sm.unlikes (c.take (j + 1)) d = Sm.unlikes (c.take j) d ++ (if d.contains (l.1, !l.2) = true then [l.1] else []) := by rw [take_get hl, unlikes_snoc]
      have lu : (Sm.unlikes (c.take j) d).length ≤ 1000 := by
        unfold Sm.unlikes
        rw [List.length_map]
        refine Nat.le_trans (List.length_filter_le _ _) ?_
        rw [List.length_take]; omega
      refine ⟨rfl, _, rfl, _, rfl, b, _, rfl, .inl ⟨cV d, Sum.inl (l.1 : Int), rb, rfl, rfl⟩, _, rfl, ?_⟩
      rw [e2]
      cases hh : Sm.holdV d l.1 with
      | none =>
        have nt : ¬ (d.contains (l.1, !l.2) = true) := fun z => by
          have := Sm.holdV_of nd (Sm.contains_iff.mp z)
          rw [hh] at this; cases this
        refine iteF (iteF ⟨s2, ?_⟩)
        rw [ut, if_neg nt, List.append_nil]; exact hD2
      | some s' =>
        rw [hh] at e2
        have hdm := Sm.holdV_mem hh
        refine iteT ⟨_, rfl, _, rfl, a, _, rfl, .inl ⟨cV c, Sum.inl (l.1 : Int), ra, rfl, e1.symm⟩, _, rfl, _, rfl, b, _, rfl, .inl ⟨cV d, Sum.inl (l.1 : Int), rb, rfl, e2.symm⟩, rfl, _, rfl, ?_⟩
        rw [sgn_ne]
        refine ifB (fun t => ?_) (fun t => ?_)
        · have hin : d.contains (l.1, !l.2) = true := by
            rw [Sm.contains_iff]
            have : s' = !l.2 := by cases s' <;> cases hl2 : l.2 <;> simp_all
            rw [← this]; exact hdm
          refine ⟨_, rfl, _, hD2, by rw [List.length_map]; omega, L2.Same.set s2 hD, ?_⟩
          rw [upd_same, ut, if_pos hin]
          simp
          rfl
        · have hin : ¬ (d.contains (l.1, !l.2) = true) := fun z => by
            have := Sm.holdV_of nd (Sm.contains_iff.mp z)
            rw [hh] at this
            have := Option.some.inj this
            subst this
            cases hl2 : l.2 <;> rw [hl2] at t <;> cases t
          refine ⟨s2, ?_⟩
          rw [ut, if_neg hin, List.append_nil]; exact hD2
    · rintro H2 ⟨s2, hD2⟩
      rw [lc, List.take_length] at hD2
      have hDa : D ≠ a := (ne_of_none hal hD).symm
      refine ⟨s2 _ _ hal, ?_⟩
      have s4 := key H2 s2
      have hD4 : (upd H2 a (.dK (cV c))) D = some (.lst (nL (Sm.unlikes c d))) := by rw [upd_ne hDa]; exact hD2
      have ha4 : (upd H2 a (.dK (cV c))) a = some (.dK (cV c)) := upd_same
      generalize upd H2 a (.dK (cV c)) = H4 at *
      refine ⟨_, rfl, _, rfl, by show 1 ≤ sizeLine; decide, fun q hq => ?_⟩
      have s5 := s4.trans (Same.upd (o := .lst [.int (x : Nat)]) hq)
      have hD5 : (upd H4 q (.lst [.int (x : Nat)])) D = some (.lst (iL ((Sm.unlikes c d).map fun (n : Nat) => (n : Int)))) := by rw [← nL_iL]; exact (Same.upd hq) _ _ hD4
      have ha5 : (upd H4 q (.lst [.int (x : Nat)])) a = some (.dK (cV c)) := (Same.upd hq) _ _ ha4
      refine ⟨pdI ((Sm.unlikes c d).map fun (n : Nat) => (n : Int)), pdI [(x : Int)], dp_int (SqL.of hD5), dp_int (SqL.of upd_same), shaped_int _, shaped_int _, _, rfl, ?_⟩
      rw [eqv_int]
      refine ifD (fun e => ?_) (fun e => ?_)
      · have e' := (ints_one _ x).mp e
        have hx : x ∈ Sm.unlikes c d := by rw [e']; simp
        obtain ⟨l, hl, hlx⟩ : ∃ l, l ∈ c ∧ l.1 = x := by
          unfold Sm.unlikes at hx
          obtain ⟨l, hl, e⟩ := List.mem_map.mp hx
          exact ⟨l, (List.mem_filter.mp hl).1, e⟩
        have hh : Sm.holdV c x = some l.2 := Sm.holdV_of nc (by rw [← hlx]; exact hl)
        refine ⟨_, rfl, _, rfl, a, _, rfl, .inl ⟨cV c, Sum.inl (x : Int), .inl ha5, rfl, (show some (sgn l.2) = _ by rw [valV_cV, hh]; rfl)⟩, rfl, ?_⟩
        rw [sgn_one]
        have := k _ s5
        have ed : decide (Sm.unlikes c d = [x] ∧ Sm.holdV c x = some true) = l.2 := by
          rw [hh]
          cases hl2 : l.2 <;> simp [e']
        rw [ed] at this
        exact this
      · have := k _ s5
        have ed : decide (Sm.unlikes c d = [x] ∧ Sm.holdV c x = some true) = false := decide_eq_false fun z => e ((ints_one _ x).mpr z.1)
        rw [ed] at this
        exact this
end
def spKept (CF : Addr) : Sp := fun vs H Q _ => ∃ (pf d : Addr) (f : Ql66.Formula) (fb : Nat) (c : Ql66.Clause), vs = [.ref pf, .ref d] ∧ FmAt CF H pf f fb ∧ Sm.FW f ∧ H d = some (.dK (cV c)) ∧ (c.map (·.1)).Nodup ∧ (∀ l ∈ c, l.1 ∈ Sm.varsOf f) ∧
  ∀ (q : Addr) (ks : Ql66.Clause) (H' : Hp), Sm.KeptAt f c ks 0 → H' q = some (.dK (cV ks)) → H q = none → Same H H' → Q (.ref q) H'
theorem isEmpty_cV (c : Ql66.Clause) : (!(cV c).isEmpty) = decide (c ≠ []) := by cases c <;> rfl
theorem kept_len {f : Ql66.Formula} {c ks : Ql66.Clause} {j : Nat} (W : Sm.FW f) (hc : ∀ l ∈ c, l.1 ∈ Sm.varsOf f) (k : Sm.KeptAt f c ks j) : ks.length ≤ 20 := by
  have hsz := W.sz
  have := Sm.nodup_lt 21 (ks.map (·.1)) k.nd fun x hx => by
    obtain ⟨l, hl, rfl⟩ := List.mem_map.mp hx
    have := W.rg _ (hc l ((k.mem l).mp hl).1.1)
    omega
  by_cases h : ks.length ≤ 20
  · exact h
  · exfalso
    have l1 : ((ks.map (·.1)).map (fun n => n - 1)).length ≤ 20 := by
      refine Sm.nodup_lt 20 _ ?_ ?_
      · have nd := k.nd
        have rg : ∀ x ∈ ks.map (·.1), 1 ≤ x := fun x hx => by
          obtain ⟨l, hl, rfl⟩ := List.mem_map.mp hx
          exact (W.rg _ (hc l ((k.mem l).mp hl).1.1)).1
        generalize ks.map (·.1) = L at nd rg
        clear this h
        induction L with
        | nil => simp
        | cons y r ih =>
          rw [List.nodup_cons] at nd
          rw [List.map_cons, List.nodup_cons]
          refine ⟨fun m => nd.1 ?_, ih nd.2 fun x hx => rg x (by simp [hx])⟩
          obtain ⟨z, hz, e⟩ := List.mem_map.mp m
          have a := rg z (by simp [hz]); have b := rg y (by simp)
          have : z = y := by omega
          rw [← this]; exact hz
      · intro x hx
        obtain ⟨y, hy, rfl⟩ := List.mem_map.mp hx
        obtain ⟨l, hl, rfl⟩ := List.mem_map.mp hy
        have := W.rg _ (hc l ((k.mem l).mp hl).1.1)
        omega
    simp at l1
    omega
section
variable {P : Program} {w : World} {K : PySem.W.Frag} {mg : Str → Option Value} {base : Heap} {CW fW CR CF : Addr} {fdW : FuncData}
theorem scPt : FnScope ["variable", "one", "other", "both"] ["variable", "one", "other"] (defScope sPut) := ⟨rfl, rfl, rfl, by decide +kernel, rfl, by decide +kernel, by decide +kernel⟩
theorem ok_put (D : DefOf K mg "put_together" sPut ["variable", "one", "other"]) (T : TxtP K mg) : Pr P w K mg base CX0 1 "put_together" ["variable", "one", "other"] spPut := by
  obtain ⟨f, fd, F, b, m⟩ := D
  refine ⟨f, fd, F.kp, b, m, F.ok scPt (fun vs H Q E h => ?_) (fun cdv A outer s H vs Q E hr h => ?_)⟩
  · obtain ⟨x, a, b, c, d, rfl, _⟩ := h
    rfl
  · obtain ⟨x, a, b, c, d, rfl, ha, hb, lc, ld, nd, nc, hx, k⟩ := h
    have hu := hu_of hr
    refine ⟨_, pss_cons (ps_set (i := 3) scPt.nd rfl (Or.inl rfl) (pe_callTy call_dictD (by rfl) T.dict (by rfl) (pa_cons (pv 1) pa_nil)))
      (pss_cons (ps_expr (pe_bm PySem.F.plainAttrs_dict PySem.F.slot_dict_update PySem.F.type_dict_update mt_update (pv 3) (pa_cons (pv 2) pa_nil)))
      (pss_cons (ps_expr (pe_dpop1 (pv 3) (pv 0) ⟨rfl, rfl, rfl, rfl⟩))
      (pss_one (ps_ret (pv 3))))), ?_⟩
    have sz : sizeLine = 16777216 := sizeLine_eq
    have l1 : (cV c).length = c.length := by unfold cV; simp
    have l2 : (cV d).length = d.length := by unfold cV; simp
    refine ⟨_, rfl, a, _, rfl, .inl ha, fun p hp => ?_⟩
    have hpb : p ≠ b := (ne_of_none hb hp).symm
    refine ⟨_, rfl, .inr (.inr (.inl ⟨rfl, .inl ⟨_, upd_same⟩⟩)), _, rfl, p, b, cV c, cV d, rfl, rfl, hpb, upd_same, .inl ((Same.upd hp) _ _ hb), by omega, ?_⟩
    rw [mergeK_cV]
    have hxm : ∃ bb, Sm.holdV (Sm.mergeC c d) x = some bb := by
      obtain ⟨l, hl, e⟩ := List.mem_map.mp hx
      refine ⟨l.2, Sm.holdV_of (Sm.mergeC_nd d c nc) ?_⟩
      rw [← e]
      exact (Sm.mergeC_mem d c l nd).mpr (.inl hl)
    obtain ⟨bb, hbb⟩ := hxm
    refine ⟨_, rfl, p, rfl, .inl ⟨_, .inl upd_same⟩, _, rfl, _, Sum.inl (x : Int), sgn bb, upd_same, rfl, by rw [valV_cV, hbb]; rfl, ?_⟩
    rw [dropK_cV]
    exact ⟨_, rfl, k p _ upd_same hp (L2.Same.set (L2.Same.set (Same.upd hp) hp) hp)⟩
theorem scKe : FnScope ["formula", "clause", "kept", "variable"] ["formula", "clause"] (defScope sKept) := ⟨rfl, rfl, rfl, by decide +kernel, rfl, by decide +kernel, by decide +kernel⟩
theorem ok_kept (D : DefOf K mg "without_last_alls" sKept ["formula", "clause"]) (T : TxtP K mg) (TF : TxtF K mg CF) (GK : PrM P w K mg base CX0 1 CF "kind_of" ["self", "variable"] (spKind CF)) : Pr P w K mg base CX0 2 "without_last_alls" ["formula", "clause"] (spKept CF) := by
  obtain ⟨ts, hs⟩ := T.some_
  obtain ⟨fK, fdK, mK, bK, GK⟩ := GK
  obtain ⟨f, fd, F, b, m⟩ := D
  refine ⟨f, fd, F.kp, b, m, F.ok scKe (fun vs H Q E h => ?_) (fun cdv A outer s H vs Q E hr h => ?_)⟩
  · obtain ⟨pf, d, f, fb, c, rfl, _⟩ := h
    rfl
  · obtain ⟨pf, d, f, fb, c, rfl, Fm, W, hd, nc, hc, k⟩ := h
    have hu := hu_of hr
    refine ⟨_, pss_cons (ps_set (i := 2) scKe.nd rfl (Or.inl rfl) pe_dnewK)
      (pss_cons (ps_for PassesOwn.never rfl (pi_reversed (by rfl) T.rev (pa_cons (pe_fld (pv 0) rfl) pa_nil)) (pg_name (i := 3) scKe.nd rfl (Or.inl rfl))
        (pss_one (ps_if (PW.pt (pw_and (pt_cmp (pc_din hu (pv 3) (pv 1)) (by with_unfolding_all rfl)) (pw_and1 (PW.pt (pw_or (pt_truth (pv 2) (fun _ => rfl)) (pw_or1 (pt_cmpR op_eq (pe_meth (pv 0) TF.cl mK GK hr bK .nil pass0 (pa_cons (pv 3) pa_nil)) (pgS hs) (nomark _))))))))
          (pss_one (ps_dput hu (pv 2) (pv 3) (pe_dget hu (pv 1) (pv 3) (fun _ _ => rfl)) rfl)) pss_nil)))
      (pss_one (ps_ret (pv 2)))), ?_⟩
    obtain ⟨dx, lv, lk, lc, ds, h1, h2, h3, h4, h5⟩ := id Fm
    have sz : sizeLine = 16777216 := sizeLine_eq
    have lV : (ordV f.order).length = f.size := by rw [List.length_map]; rfl
    intro q hq
    have s1 : Same H (upd H q (.dK [])) := Same.upd hq
    refine ⟨_, rfl, pf, CF, dx, _, _, rfl, s1 _ _ h1, TF.cl, TF.nv, fF_vars _ _ _ _, lv, _, rfl, SqL.of (s1 _ _ h2), ?_⟩
    rw [lV]
    refine for_it (n := f.size) (fun i σ H2 => ∃ (ks : Ql66.Clause) (x : Option V), σ = [some (.ref pf), some (.ref d), some (.ref q), x] ∧ Same H H2 ∧ H2 q = some (.dK (cV ks)) ∧ Sm.KeptAt f c ks (f.size - i) ∧ i ≤ f.size) ⟨[], none, rfl, s1, upd_same, Sm.KeptAt.start W hc, Nat.zero_le _⟩ ?_ ?_ ?_ ?_
    · rintro i σ H2 hi ⟨ks, x, rfl, s2, _⟩
      have hlt : f.size - 1 - i < f.order.length := by show _ < f.size; omega
      exact ⟨hi, _, _, SqL.of (s2 _ _ h2), by rw [ordV, List.getElem?_map, List.getElem?_eq_getElem hlt]; rfl⟩
    · rintro σ H2 _
      exact Nat.le_refl _
    · rintro i σ H2 x H3 hi ⟨ks, _, rfl, s2, hq2, Kp, _⟩ ⟨rfl, hy⟩
      have hx := hy _ (SqL.of (s2 _ _ h2))
      obtain ⟨y, hyv, rfl⟩ : ∃ y, (Sm.varsOf f)[f.size - 1 - i]? = some y ∧ x = .int (y : Nat) := by
        rw [ordV_n] at hx
        exact nL_get hx
      have em : f.size - i = (f.size - 1 - i) + 1 := by omega
      rw [em] at Kp
      have St := Kp.step W nc hc hyv
      have em2 : f.size - (i + 1) = f.size - 1 - i := by omega
      have hmem := List.mem_of_getElem? hyv
      have hrg := W.rg y hmem
      have Fm2 := Fm.same s2
      have kl := kept_len W hc Kp
      have nq : q ≠ d := (ne_of_none hd hq).symm
      refine ⟨_, rfl, _, rfl, d, _, rfl, .inl ⟨cV c, Sum.inl (y : Int), .inl (s2 _ _ hd), rfl, rfl⟩, _, rfl, ?_⟩
      rw [valV_cV]
      unfold Sm.keptStep at St
      cases hh : Sm.holdV c y with
      | none =>
        rw [hh] at St
        exact iteF (iteF ⟨ks, _, rfl, s2, hq2, by rw [em2]; exact St, by omega⟩)
      | some bb =>
        rw [hh] at St
        have St' : Sm.KeptAt f c (if ks ≠ [] ∨ f.some_ y = true then ks ++ [(y, bb)] else ks) (f.size - 1 - i) := St
        have put : (ks ≠ [] ∨ f.some_ y = true) → sDPut (tVar 2) (tVar 3) (tDGet (tVar 1) (tVar 3)) { nx := fun σ' H' => ∃ (ks : Ql66.Clause) (x : Option V), σ' = [some (.ref pf), some (.ref d), some (.ref q), x] ∧ Same H H' ∧ H' q = some (.dK (cV ks)) ∧ Sm.KeptAt f c ks (f.size - (i + 1)) ∧ i + 1 ≤ f.size, rt := Q, bk := fun _ _ => False, ct := fun _ _ => False } [some (.ref pf), some (.ref d), some (.ref q), some (.int (y : Nat))] H3 := fun hq' => by
          rw [if_pos hq'] at St'
          have hnew : (ks.any fun z => z.1 == y) = false := by
            rw [List.any_eq_false]
            intro l hl e
            have e' : l.1 = y := by simpa using e
            have := ((Kp.mem l).mp hl).1.2
            rw [e', Sm.place_at W.nd hyv] at this
            omega
          refine ⟨_, rfl, _, rfl, d, _, rfl, .inl ⟨cV c, Sum.inl (y : Int), .inl (s2 _ _ hd), rfl, (show some (sgn bb) = _ by rw [valV_cV, hh]; rfl)⟩, _, rfl, _, rfl, q, _, rfl, DPut.k (k := Sum.inl (y : Int)) hq2 (by unfold cV; rw [List.length_map]; omega), ?_⟩
          have e3 : putK (cV ks) (Sum.inl (y : Int)) (sgn bb) = cV (ks ++ [(y, bb)]) := cV_put hnew
          rw [e3]
          exact ⟨_, _, rfl, L2.Same.set s2 hq, upd_same, by rw [em2]; exact St', by omega⟩
        refine iteT ⟨_, rfl, _, .inr (.inr ⟨_, hq2, rfl⟩), ?_⟩
        rw [isEmpty_cV]
        refine ifD (fun e => iteT (put (.inl e))) (fun e => ?_)
        refine ⟨_, rfl, pf, dx, _, rfl, s2 _ _ h1, fF_no _ _ _ _ (by decide +kernel) (by decide +kernel) (by decide +kernel) (by decide +kernel), _, rfl, pf, f, fb, y, rfl, Fm2, W, hrg.1, hrg.2, rfl, _, rfl, ?_⟩
        rw [kd_e]
        refine ifB (fun e2 => put (.inr e2)) (fun e2 => ?_)
        rw [if_neg (fun z => z.elim e (by rw [e2]; exact Bool.false_ne_true))] at St'
        exact ⟨ks, _, rfl, s2, hq2, by rw [em2]; exact St', by omega⟩
    · rintro σ H2 ⟨ks, _, rfl, s2, hq2, Kp, _⟩
      rw [Nat.sub_self] at Kp
      exact ⟨_, rfl, k q ks H2 Kp hq2 hq s2⟩
end
theorem vars_len {f : Ql66.Formula} {c : Ql66.Clause} (W : Sm.FW f) (nd : (c.map (·.1)).Nodup) (hc : ∀ l ∈ c, l.1 ∈ Sm.varsOf f) : c.length ≤ 1000 := by
  have := Sm.nodup_lt 21 (c.map (·.1)) nd fun x hx => by
    obtain ⟨l, hl, rfl⟩ := List.mem_map.mp hx
    have := W.rg _ (hc l hl)
    have := W.sz
    omega
  simp at this
  omega
def ClAt (f : Ql66.Formula) (H : Hp) (d : Addr) (c : Ql66.Clause) : Prop := ∃ c', H d = some (.dK (cV c')) ∧ Sm.Eqv c' c ∧ ∀ l ∈ c', l.1 ∈ Sm.varsOf f
structure ClsAt (f : Ql66.Formula) (H : Hp) (lc : Addr) (ds : List Addr) (cs : List Ql66.Clause) : Prop where
  hl : H lc = some (.lst (ds.map V.ref))
  pr : Paired (ClAt f H) ds cs
theorem ClAt.off {f : Ql66.Formula} {H H' : Hp} {d p dx CR : Addr} {fs : List (Str × V)} {c : Ql66.Clause} (h : ClAt f H d c) (hp : H p = some (.ins CR dx fs)) (o : Off [p] H H') : ClAt f H' d c := by
  obtain ⟨c', h1, h2, h3⟩ := h
  exact ⟨c', o _ _ h1 (fun m => by simp at m; subst m; rw [hp] at h1; cases h1), h2, h3⟩
theorem ClsAt.off {f : Ql66.Formula} {H H' : Hp} {lc p dx CR : Addr} {fs : List (Str × V)} {ds : List Addr} {cs : List Ql66.Clause} (h : ClsAt f H lc ds cs) (hp : H p = some (.ins CR dx fs)) (o : Off [p] H H') : ClsAt f H' lc ds cs :=
  ⟨o _ _ h.hl (ins_not hp _ _ h.hl), Paired.mapP h.pr fun d c q => q.off hp o⟩
theorem FmAt.off {CF CR : Addr} {H H' : Hp} {pf p dx : Addr} {fs : List (Str × V)} {f : Ql66.Formula} {fb : Nat} (h : FmAt CF H pf f fb) (hp : H p = some (.ins CR dx fs)) (np : pf ≠ p) (o : Off [p] H H') : FmAt CF H' pf f fb := by
  obtain ⟨dx', lv, lk, lc, ds, h1, h2, h3, h4, h5⟩ := h
  exact ⟨dx', lv, lk, lc, ds, o _ _ h1 (by simp [np]), o _ _ h2 (ins_not hp _ _ h2), o _ _ h3 (ins_not hp _ _ h3), o _ _ h4 (ins_not hp _ _ h4), Paired.mapP h5 fun d c q => o _ _ q (fun m => by simp at m; subst m; rw [hp] at q; cases q)⟩
theorem ReaderAt.same {CR : Addr} {H H' : Hp} {p l : Addr} {as : List Addr} {ws : List (List Int)} {k : Nat} (R : ReaderAt CR H p l as ws k) (ss : Same H H') : ReaderAt CR H' p l as ws k := by
  obtain ⟨⟨dx, h1⟩, wd⟩ := R
  exact ⟨⟨dx, ss _ _ h1⟩, wd.off (Off.of (xs := []) ss) (fun _ _ _ m => by cases m)⟩
def spStep (CR CW CF : Addr) : Sp := fun vs H Q E => ∃ (p l pf lc : Addr) (as ds : List Addr) (ws : List (List Int)) (k : Nat) (f : Ql66.Formula) (fb : Nat) (cs : List Ql66.Clause), vs = [.ref p, .ref pf, .ref lc] ∧ ReaderAt CR H p l as ws k ∧ k < ws.length ∧ GoodWs ws ∧ FmAt CF H pf f fb ∧ Sm.FW f ∧ pf ≠ p ∧ ClsAt f H lc ds cs ∧ cs.length ≤ 900000 ∧
  (∀ (c : Ql66.Clause) (k' : Nat) (d : Addr) (H' : Hp), Sm.stepE f cs ws k = .ok (c, k') → k < k' → k' ≤ ws.length → ReaderAt CR H' p l as ws k' → ClAt f H' d c → H d = none → Off [p] H H' → Q (.ref d) H') ∧
  (∀ e, Sm.stepE f cs ws k = .error e → Wrong CW [p] H E (Sm.errNo ws e))
theorem codes_r : codes ("r" : Str) = [114] := by decide +kernel
theorem codes_u : codes ("u" : Str) = [117] := by decide +kernel
theorem off_free {p : Addr} {H H' : Hp} (o : Off [p] H H') {d : Addr} (h : H' d = none) (n : ∀ u, H p = some u → d ≠ p) : H d = none := by
  cases e : H d with
  | none => rfl
  | some u =>
    have := o d u e (fun m => by simp at m; subst m; exact n u e rfl)
    rw [h] at this; cases this
section
variable {P : Program} {w : World} {K : PySem.W.Frag} {mg : Str → Option Value} {base : Heap} {CW fW CR CF : Addr} {fdW : FuncData}
theorem scSt : FnScope ["reader", "formula", "clauses", "one", "other", "variable"] ["reader", "formula", "clauses"] (defScope sStep) := ⟨rfl, rfl, rfl, by decide +kernel, rfl, by decide +kernel, by decide +kernel⟩
theorem ok_step (D : DefOf K mg "take_step" sStep ["reader", "formula", "clauses"]) (T : TxtR K mg CW fW CR fdW) (TP : TxtP K mg) (TF : TxtF K mg CF)
    (GO : PrM P w K mg base (CXx P w) 3 CR "take_one_of" ["self", "choices"] (spOne K CR CW)) (GN : PrM P w K mg base (CXx P w) 3 CR "take_number" ["self", "least", "most"] (spNum CR CW)) (GM : Pr P w K mg base (CXx P w) 4 "take_named" ["reader", "clauses"] (spNamed CR CW))
    (GI : PrM P w K mg base CX0 1 CF "kind_of" ["self", "variable"] (spKind CF)) (GD : Pr P w K mg base CX0 1 "differ_in" ["variable", "one", "other"] spDiffer) (GP : Pr P w K mg base CX0 1 "put_together" ["variable", "one", "other"] spPut) (GK : Pr P w K mg base CX0 2 "without_last_alls" ["formula", "clause"] (spKept CF)) :
    Pr P w K mg base (CXx P w) 6 "take_step" ["reader", "formula", "clauses"] (spStep CR CW CF) := by
  have GW : FnOk P w K mg base CX0 1 fW fdW ["self", "number"] (spX CW "number") := ok_wrong T.fw T.xc T.ve
  obtain ⟨t2, h2⟩ := TP.two
  obtain ⟨t1, h1⟩ := TP.one
  obtain ⟨ts, hs⟩ := TP.some_
  obtain ⟨fO, fdO, mO, bO, GO⟩ := GO
  obtain ⟨fN, fdN, mN, bN, GN⟩ := GN
  obtain ⟨fM, fdM, kM, bM, mM, GM⟩ := GM
  obtain ⟨fI, fdI, mI, bI, GI⟩ := GI
  obtain ⟨fD, fdD, kD, bD, mD, GD⟩ := GD
  obtain ⟨fP, fdP, kP, bP, mP, GP⟩ := GP
  obtain ⟨fK, fdK, kK, bK, mK, GK⟩ := GK
  obtain ⟨f, fd, F, b, m⟩ := D
  refine ⟨f, fd, F.kp, b, m, F.okX scSt (fun vs H Q E h => ?_) (fun cdv A outer s H vs Q E hr h => ?_)⟩
  · obtain ⟨p, l, pf, lc, as, ds, ws, k, f, fb, cs, rfl, _⟩ := h
    rfl
  · obtain ⟨p, l, pf, lc, as, ds, ws, k, f, fb, cs, rfl, R, hk, gw, Fm, W, np, Cl, hcs, k1, k2⟩ := h
    have hr1 := hr.mono (show 1 ≤ 5 by decide)
    have hr2 := hr.mono (show 2 ≤ 5 by decide)
    have hr3 := hr.mono (show 3 ≤ 5 by decide)
    have hr4 := hr.mono (show 4 ≤ 5 by decide)
    refine ⟨_, pss_cons (ps_if (pt_cmpR op_eq (pe_meth (pv 0) T.cl mO GO hr3 bO .nil passX (pa_cons (pe_tup (pa_cons (pgS h2) (pa_cons (pgS h1) pa_nil))) pa_nil)) (pgS h1) (nomark _))
        (pss_one (ps_ret (pe_call GK hr2 rfl mK kK bK .nil pass0 (pa_cons (pv 1) (pa_cons (pe_call GM hr4 rfl mM kM bM .nil passX (pa_cons (pv 0) (pa_cons (pv 2) pa_nil))) pa_nil))))) pss_nil)
      (pss_cons (ps_set (i := 3) scSt.nd rfl (Or.inl rfl) (pe_call GM hr4 rfl mM kM bM .nil passX (pa_cons (pv 0) (pa_cons (pv 2) pa_nil))))
      (pss_cons (ps_set (i := 4) scSt.nd rfl (Or.inl rfl) (pe_call GM hr4 rfl mM kM bM .nil passX (pa_cons (pv 0) (pa_cons (pv 2) pa_nil))))
      (pss_cons (ps_set (i := 5) scSt.nd rfl (Or.inl rfl) (pe_meth (pv 0) T.cl mN GN hr3 bN .nil passX (pa_cons pe_int (pa_cons (pe_callB call_len_seq (by rfl) T.tw.len PySem.boot_len (pa_cons (pe_fld (pv 1) rfl) pa_nil)) pa_nil))))
      (pss_cons (ps_if (PW.pt (pw_or (pt_cmpR op_ne (pe_meth (pv 1) TF.cl mI GI hr1 bI .nil pass0 (pa_cons (pv 5) pa_nil)) (pgS hs) (nomark _)) (pw_or1 (pt_not (pt_truth (pe_call GD hr1 rfl mD kD bD .nil pass0 (pa_cons (pv 5) (pa_cons (pv 3) (pa_cons (pv 4) pa_nil)))) (fun _ => rfl))))))
        (pss_one (ps_raiseC T.xc GW T.bw hr2 rfl T.mw rfl rfl raiseX (pa_cons (pe_fld (pv 0) rfl) pa_nil))) pss_nil)
      (pss_one (ps_ret (pe_call GP hr1 rfl mP kP bP .nil pass0 (pa_cons (pv 5) (pa_cons (pv 3) (pa_cons (pv 4) pa_nil)))))))))), ?_⟩
    have gf := gw.few
    obtain ⟨⟨dx, hp⟩, wd⟩ := id R
    have lds : ds.length = cs.length := Cl.pr.length
    have wr : ∀ {H2 : Hp} {e : Nat}, Sm.stepE f cs ws k = .error e → Off [p] H H2 → Wrong CW [p] H2 E (Sm.errNo ws e) := fun he oo => (k2 _ he).off oo
    refine ⟨_, rfl, p, dx, _, rfl, hp, rdF_no _ _ (by decide +kernel) (by decide +kernel), by show 2 ≤ sizeLine; decide, fun t ht => ?_⟩
    have s0 : Same H (upd H t (.tup [.str "r", .str "u"])) := Same.upd ht
    have gb := (gw.at k).1
    have q_r : codes ("r" : Str) = Sm.wordAt ws k ↔ Sm.oct (Sm.wordAt ws k) = Ql66.txt "r" := by
      rw [codes_r, is_lit (u := [114]) (by decide +kernel) (byts_of (by decide +kernel)) gb]; exact eq_comm
    have q_u : codes ("u" : Str) = Sm.wordAt ws k ↔ Sm.oct (Sm.wordAt ws k) = Ql66.txt "u" := by
      rw [codes_u, is_lit (u := [117]) (by decide +kernel) (byts_of (by decide +kernel)) gb]; exact eq_comm
    refine ⟨p, t, l, as, ["r", "u"], ws, k, rfl, .inl (.inl upd_same), by intro ch m; simp at m; rcases m with rfl | rfl <;> decide +kernel, R.same s0, Nat.le_of_lt hk, gw, fun ch H1 mem ec R1 o1 => ?_, fun no => ?_⟩
    rotate_left
    · have e0 : Sm.stepE f cs ws k = .error (k + 1) := by
        unfold Sm.stepE
        rw [if_neg (fun z => no "r" (by simp) (q_r.mpr z)), if_neg (fun z => no "u" (by simp) (q_u.mpr z))]
      have Wr := wr e0 (Off.of s0)
      have en : Sm.errNo ws (k + 1) = k + 1 := by unfold Sm.errNo; rw [if_neg (by omega)]
      rw [en] at Wr
      exact Wr
    have o1' : Off [p] H H1 := (Off.of s0).trans o1
    have Cl1 := Cl.off hp o1'
    have Fm1 := Fm.off hp np o1'
    simp at mem
    rcases mem with rfl | rfl
    · -- r
      have hr' := q_r.mp ec
      refine ⟨rfl, _, rfl, iteF ?_⟩
      have e0 : Sm.stepE f cs ws k = (Sm.numE cs.length ws (k + 1)).bind fun i => (Sm.numE cs.length ws (k + 2)).bind fun j => (Sm.numE f.size ws (k + 3)).bind fun v =>
          if Ql66.mayResolve f (Ql66.clauseAt cs i) (Ql66.clauseAt cs j) v = true then .ok (Ql66.resolvent (Ql66.clauseAt cs i) (Ql66.clauseAt cs j) v, k + 4) else .error (k + 4) := by
        unfold Sm.stepE; rw [if_pos hr']
      -- A
      refine ⟨_, rfl, _, rfl, p, l, lc, as, ds, ws, k + 1, rfl, R1, hk, gw, Cl1.hl, by omega, fun i d1 H2 ei hd1 R2 o2 => ?_, fun e ee => ?_⟩
      rotate_left
      · rw [lds] at ee
        rw [ee] at e0
        exact wr e0 o1'
      have o2' := o1'.trans o2
      rw [lds] at ei
      obtain ⟨i1, i2, hk1⟩ := Sm.numE_in ei
      rw [ei] at e0
      have e0 : Sm.stepE f cs ws k = (Sm.numE cs.length ws (k + 2)).bind fun j => (Sm.numE f.size ws (k + 3)).bind fun v =>
          if Ql66.mayResolve f (Ql66.clauseAt cs i) (Ql66.clauseAt cs j) v = true then .ok (Ql66.resolvent (Ql66.clauseAt cs i) (Ql66.clauseAt cs j) v, k + 4) else .error (k + 4) := e0
      obtain ⟨dx1, hp1⟩ := R1.ob
      have Cl2 := Cl1.off hp1 o2
      -- B
      refine ⟨_, rfl, _, rfl, p, l, lc, as, ds, ws, k + 2, rfl, R2, hk1, gw, Cl2.hl, by omega, fun j d2 H3 ej hd2 R3 o3 => ?_, fun e ee => ?_⟩
      rotate_left
      · rw [lds] at ee
        rw [ee] at e0
        exact wr e0 o2'
      have o3' := o2'.trans o3
      rw [lds] at ej
      obtain ⟨j1, j2, hk2⟩ := Sm.numE_in ej
      rw [ej] at e0
      have e0 : Sm.stepE f cs ws k = (Sm.numE f.size ws (k + 3)).bind fun v =>
          if Ql66.mayResolve f (Ql66.clauseAt cs i) (Ql66.clauseAt cs j) v = true then .ok (Ql66.resolvent (Ql66.clauseAt cs i) (Ql66.clauseAt cs j) v, k + 4) else .error (k + 4) := e0
      have Fm3 := Fm.off hp np o3'
      have Cl3 := Cl.off hp o3'
      obtain ⟨dx3, hp3⟩ := R3.ob
      obtain ⟨dxf, lv, lk, lcf, dsf, f1, f2, f3, f4, f5⟩ := id Fm3
      have lV : (ordV f.order).length = f.size := by rw [List.length_map]; rfl
      have hsz := W.sz
      -- X
      refine ⟨_, rfl, p, dx3, _, rfl, hp3, rdF_no _ _ (by decide +kernel) (by decide +kernel), _, rfl, pf, CF, dxf, _, _, rfl, f1, TF.cl, TF.nv, fF_vars _ _ _ _, lv, _, rfl, .inl (SqL.of f2), p, l, as, ws, k + 3, 1, f.size, by rw [lV]; rfl, R3, hk2, gw, by omega, fun v H4 ev hv R4 o4 => ?_, fun no => ?_⟩
      rotate_left
      · have ee := Sm.numE_err no
        rw [ee] at e0
        have Wr := wr e0 o3'
        rw [Sm.errNo_at hk2] at Wr
        exact Wr
      have o4' := o3'.trans o4
      have hv2 := Sm.upTo_le ev
      have ev' := Sm.numE_ok ev hv
      obtain ⟨_, _, hk3⟩ := Sm.numE_in ev'
      rw [ev'] at e0
      have e0 : Sm.stepE f cs ws k = if Ql66.mayResolve f (Ql66.clauseAt cs i) (Ql66.clauseAt cs j) v = true then .ok (Ql66.resolvent (Ql66.clauseAt cs i) (Ql66.clauseAt cs j) v, k + 4) else .error (k + 4) := e0
      have Fm4 := Fm.off hp np o4'
      have Cl4 := Cl.off hp o4'
      obtain ⟨dx4, hp4⟩ := R4.ob
      obtain ⟨dxg, lv', lk', lcg, dsg, g1, _⟩ := id Fm4
      obtain ⟨b1, hb1, c1, hc1, eq1, in1⟩ := paired_of Cl4.pr _ _ hd1
      obtain ⟨b2, hb2, c2, hc2, eq2, in2⟩ := paired_of Cl4.pr _ _ hd2
      have eb1 : b1 = Ql66.clauseAt cs i := by rw [Sm.clauseAt_get i1 i2] at hb1; exact (Option.some.inj hb1).symm
      have eb2 : b2 = Ql66.clauseAt cs j := by rw [Sm.clauseAt_get j1 j2] at hb2; exact (Option.some.inj hb2).symm
      subst eb1; subst eb2
      have len1 := vars_len W eq1.nd in1
      have len2 := vars_len W eq2.nd in2
      have may : Ql66.mayResolve f (Ql66.clauseAt cs i) (Ql66.clauseAt cs j) v = true ↔ f.some_ v = true ∧ (Sm.unlikes c1 c2 = [v] ∧ Sm.holdV c1 v = some true) := by
        rw [← Sm.may_eqv eq1 eq2, Sm.may_iff, Sm.unlikes_one eq1.nd]
      have wrX : ∀ {H5 : Hp}, ¬ Ql66.mayResolve f (Ql66.clauseAt cs i) (Ql66.clauseAt cs j) v = true → Same H4 H5 → Wrong CW [p] H5 E (k + 4) := fun no s5 => by
        rw [if_neg no] at e0
        have Wr := wr e0 (o4'.trans (Off.of s5))
        have en : Sm.errNo ws (k + 4) = k + 4 := by unfold Sm.errNo; rw [if_neg (by omega)]
        rw [en] at Wr
        exact Wr
      refine ⟨_, rfl, pf, dxg, _, rfl, g1, fF_no _ _ _ _ (by decide +kernel) (by decide +kernel) (by decide +kernel) (by decide +kernel), _, rfl, pf, f, fb, v, rfl, Fm4, W, hv, hv2, rfl, _, rfl, ?_⟩
      rw [show (!decide (V.str (kd (f.some_ v)) = V.str "e")) = !f.some_ v by rw [kd_e]]
      refine ifB (fun z => iteT ?_) (fun z => ?_)
      · have z' : ¬ f.some_ v = true := by simpa using z
        exact ⟨_, rfl, p, CR, dx4, _, _, rfl, hp4, T.cl, T.nt, rdF_taken _ _, _, rfl, by omega, by omega, wrong_of (m := ((k + 3 + 1 : Nat) : Int)) (wrX (fun q => z' (may.mp q).1) (Same.refl _)) (Off.of (Same.refl _)) rfl⟩
      · have z' : f.some_ v = true := by simpa using z
        refine ⟨_, rfl, _, rfl, _, rfl, v, d1, d2, c1, c2, rfl, hc1, hc2, eq1.nd, eq2.nd, len1, fun H5 s5 => ⟨_, rfl, ?_⟩⟩
        have hp5 := s5 _ _ hp4
        refine ifB (fun y => ?_) (fun y => ?_)
        · have y' : ¬ (Sm.unlikes c1 c2 = [v] ∧ Sm.holdV c1 v = some true) := fun q => by rw [decide_eq_true q] at y; cases y
          exact ⟨_, rfl, p, CR, dx4, _, _, rfl, hp5, T.cl, T.nt, rdF_taken _ _, _, rfl, by omega, by omega, wrong_of (m := ((k + 3 + 1 : Nat) : Int)) (wrX (fun q => y' (may.mp q).2) s5) (Off.of (Same.refl _)) rfl⟩
        · have y' : Sm.unlikes c1 c2 = [v] ∧ Sm.holdV c1 v = some true := by simpa using y
          have hmay := may.mpr ⟨z', y'⟩
          have hm2 := (Sm.unlikes_one eq1.nd).mp y'
          rw [if_pos hmay] at e0
          refine ⟨_, rfl, _, rfl, _, rfl, v, d1, d2, c1, c2, rfl, s5 _ _ hc1, s5 _ _ hc2, len1, len2, eq2.nd, eq1.nd, List.mem_map.mpr ⟨(v, false), hm2.2.1, rfl⟩, fun q H6 hq6 hq5 s6 => ?_⟩
          have s56 := s5.trans s6
          have hq4 : H4 q = none := s5.free hq5
          refine k1 _ (k + 4) q H6 e0 (by omega) hk3 (R4.same s56) ⟨_, hq6, Sm.merged_eqv eq1 eq2 hmay, fun l hl => ?_⟩ (off_free o4' hq4 fun u _ z => by subst z; rw [hp4] at hq4; cases hq4) (o4'.trans (Off.of s56))
          have hl' := (List.mem_filter.mp hl).1
          rcases (Sm.mergeC_mem c2 c1 l eq2.nd).mp hl' with h | h
          · exact in2 l h
          · exact in1 l h.1
    · -- u
      have hu' := q_u.mp ec
      have hnr : ¬ Sm.oct (Sm.wordAt ws k) = Ql66.txt "r" := by rw [hu']; decide +kernel
      refine ⟨rfl, _, rfl, iteT ?_⟩
      have e0 : Sm.stepE f cs ws k = (Sm.numE cs.length ws (k + 1)).bind fun i => .ok (Ql66.reduced f (Ql66.clauseAt cs i), k + 2) := by
        unfold Sm.stepE; rw [if_neg hnr, if_pos hu']
      refine ⟨_, rfl, _, rfl, _, rfl, p, l, lc, as, ds, ws, k + 1, rfl, R1, hk, gw, Cl1.hl, by omega, fun i d1 H2 ei hd1 R2 o2 => ?_, fun e ee => ?_⟩
      rotate_left
      · rw [lds] at ee
        rw [ee] at e0
        exact wr e0 o1'
      have o2' := o1'.trans o2
      rw [lds] at ei
      obtain ⟨i1, i2, hk1⟩ := Sm.numE_in ei
      rw [ei] at e0
      have e0 : Sm.stepE f cs ws k = .ok (Ql66.reduced f (Ql66.clauseAt cs i), k + 2) := e0
      have Fm2 := Fm.off hp np o2'
      have Cl2 := Cl.off hp o2'
      obtain ⟨dx2, hp2⟩ := R2.ob
      obtain ⟨b1, hb1, c1, hc1, eq1, in1⟩ := paired_of Cl2.pr _ _ hd1
      have eb1 : b1 = Ql66.clauseAt cs i := by rw [Sm.clauseAt_get i1 i2] at hb1; exact (Option.some.inj hb1).symm
      subst eb1
      refine ⟨pf, d1, f, fb, c1, rfl, Fm2, W, hc1, eq1.nd, in1, fun q ks H3 Kp hq3 hq2 s3 => ?_⟩
      refine k1 _ (k + 2) q H3 e0 (by omega) hk1 (R2.same s3) ⟨ks, hq3, Kp.done eq1, fun l hl => in1 l ((Kp.mem l).mp hl).1.1⟩ (off_free o2' hq2 fun u _ z => by subst z; rw [hp2] at hq2; cases hq2) (o2'.trans (Off.of s3))
end
def spCheck (K : PySem.W.Frag) (CW CF : Addr) : Sp := fun vs H Q E => ∃ (pf a : Addr) (f : Ql66.Formula) (fb : Nat) (t : List Int), vs = [.ref pf, .ref a] ∧ FmAt CF H pf f fb ∧ Sm.FW f ∧ SqL K H a (iL t) ∧ t.length ≤ 90000 ∧ Sm.Byts t ∧
  (Ql66.proof f 65536 false f.clauses (Sm.toksAt 0 (Sm.wordsOf t)) = .ok () → ∀ H', Same H H' → Q .non H') ∧
  (∀ e, Ql66.proof f 65536 false f.clauses (Sm.toksAt 0 (Sm.wordsOf t)) = .error e → Wrong CW [] H E (Sm.errNo (Sm.wordsOf t) e))
theorem paired_mapr {α β : Type} {F G : α → β → Prop} : ∀ {l₁ : List α} {l₂ : List β}, Paired F l₁ l₂ → (∀ a b, b ∈ l₂ → F a b → G a b) → Paired G l₁ l₂
  | _, _, .nil, _ => .nil
  | _, _, .cons r t, f => .cons (f _ _ (by simp) r) (paired_mapr t fun a b m q => f a b (by simp [m]) q)
theorem paired_last {α β : Type} {R : α → β → Prop} {as : List α} {bs : List β} (h : Paired R as bs) (ne : bs ≠ []) : ∃ as' a b, as = as' ++ [a] ∧ bs.getLast? = some b ∧ R a b := by
  have hl := h.length
  have h1 : bs.length - 1 < bs.length := by
    have : 0 < bs.length := List.length_pos_iff.mpr ne
    omega
  obtain ⟨a, ha, r⟩ := paired_at h (bs.length - 1) bs[bs.length - 1] (List.getElem?_eq_getElem h1)
  refine ⟨as.dropLast, a, bs[bs.length - 1], ?_, ?_, r⟩
  · have hne : as ≠ [] := by
      intro z; subst z; simp at hl; omega
    have h2 : as.length - 1 < as.length := by
      have : 0 < as.length := List.length_pos_iff.mpr hne
      omega
    have : as.getLast hne = a := by
      rw [List.getLast_eq_getElem]
      have ha' : as[as.length - 1]? = some a := by rw [hl]; exact ha
      rw [List.getElem?_eq_getElem h2] at ha'
      exact Option.some.inj ha'
    rw [← this]
    exact (List.dropLast_concat_getLast hne).symm
  · rw [List.getLast?_eq_getElem?, List.getElem?_eq_getElem h1]
structure CkSt (CR : Addr) (H H2 : Hp) (p l lc : Addr) (as ds : List Addr) (ws : List (List Int)) (k n : Nat) (f : Ql66.Formula) (cs : List Ql66.Clause) : Prop where
  rd : ReaderAt CR H2 p l as ws k
  hk : k ≤ ws.length
  cl : ClsAt f H2 lc ds cs
  sm : Same H H2
  hn : n ≤ 65536
  eq : Ql66.proof f 65536 false f.clauses (Sm.toksAt 0 ws) = Ql66.proof f (65536 - n) (decide (0 < n)) cs (Sm.toksAt k (ws.drop k))
  few : cs.length ≤ 1024 + k
  nc : n ≤ cs.length
section
variable {P : Program} {w : World} {K : PySem.W.Frag} {mg : Str → Option Value} {base : Heap} {CW fW CR CF : Addr} {fdW : FuncData}
theorem scCk : FnScope ["formula", "text", "reader", "clauses", "steps"] ["formula", "text"] (defScope sCheck) := ⟨rfl, rfl, rfl, by decide +kernel, rfl, by decide +kernel, by decide +kernel⟩
theorem ok_check (D : DefOf K mg "check_proof" sCheck ["formula", "text"]) (T : TxtR K mg CW fW CR fdW) (TP : TxtP K mg) (TF : TxtF K mg CF) (GR : PrC P w K mg base CX0 2 CR ["self", "text"] (spRd K CR)) (GS : Pr P w K mg base (CXx P w) 6 "take_step" ["reader", "formula", "clauses"] (spStep CR CW CF)) :
    Pr P w K mg base (CXx P w) 7 "check_proof" ["formula", "text"] (spCheck K CW CF) := by
  have GW : FnOk P w K mg base CX0 1 fW fdW ["self", "number"] (spX CW "number") := ok_wrong T.fw T.xc T.ve
  obtain ⟨fA, fdA, FA, bA, mA⟩ := T.ae
  have GA : FnOk P w K mg base CX0 1 fA fdA ["self"] (spAtEnd CR) := ok_atEnd FA T
  obtain ⟨tst, hst⟩ := TP.steps
  obtain ⟨fi, fdi, MR, bi, GR⟩ := GR
  obtain ⟨fS, fdS, kS, bS, mS, GS⟩ := GS
  obtain ⟨f, fd, F, b, m⟩ := D
  refine ⟨f, fd, F.kp, b, m, F.okX scCk (fun vs H Q E h => ?_) (fun cdv A outer s H vs Q E hr h => ?_)⟩
  · obtain ⟨pf, a, f, fb, t, rfl, _⟩ := h
    rfl
  · obtain ⟨pf, a, f, fb, t, rfl, Fm, W, hS, hL, hB, k1, k2⟩ := h
    have hr1 := hr.mono (show 1 ≤ 6 by decide)
    have hr2 := hr.mono (show 2 ≤ 6 by decide)
    have hr3 := hr.mono (show 3 ≤ 6 by decide)
    refine ⟨_, pss_cons (ps_set (i := 2) scCk.nd rfl (Or.inl rfl) (pe_make MR GR hr3 rfl T.mr bi .nil pass0 (pa_cons (pv 1) pa_nil)))
      (pss_cons (ps_set (i := 3) scCk.nd rfl (Or.inl rfl) (pe_callTy call_list_of (by rfl) TP.list (by rfl) (pa_cons (pe_fld (pv 0) rfl) pa_nil)))
      (pss_cons (ps_set (i := 4) scCk.nd rfl (Or.inl rfl) pe_int)
      (pss_cons (ps_while PassesOwn.leaving (pt_not (pt_truth (pe_meth0 (pv 2) T.cl mA GA hr1 bA .nil pass0) (fun _ => rfl)))
        (pss_cons (ps_if (pt_cmpR op_eq (pv 4) (pgI hst) (nomark _)) (pss_one (ps_raiseC T.xc GW T.bw hr2 rfl T.mw rfl rfl raiseX (pa_cons (pe_op op_add (pe_fld (pv 2) rfl) pe_int) pa_nil))) pss_nil)
        (pss_cons (ps_expr (pe_bm PySem.F.plainAttrs_list PySem.F.slot_list_append PySem.F.type_list_append mt_append (pv 3) (pa_cons (pe_call GS hr rfl mS kS bS .nil passX (pa_cons (pv 2) (pa_cons (pv 0) (pa_cons (pv 3) pa_nil)))) pa_nil)))
        (pss_one (ps_set (i := 4) scCk.nd rfl (Or.inl rfl) (pe_op op_add (pv 4) pe_int))))))
      (pss_one (ps_if (PW.pt (pw_or (pt_cmpR op_eq (pv 4) pe_int (nomark _)) (pw_or1 (pt_truth (pe_ix ix_list (pv 3) (pe_un un_neg pe_int) (fun _ _ => rfl)) (fun _ => rfl)))))
        (pss_one (ps_raiseC T.xc GW T.bw hr2 rfl T.mw rfl rfl raiseX (pa_cons (pe_op op_add (pe_fld (pv 2) rfl) pe_int) pa_nil))) pss_nil))))), ?_⟩
    have gw := goodWs_of hB hL
    generalize hws : Sm.wordsOf t = ws at k1 k2 gw
    have gf := gw.few
    have sz : sizeLine = 16777216 := sizeLine_eq
    obtain ⟨dx, lv, lk, lcf, ds, h1, h2, h3, h4, h5⟩ := id Fm
    refine ⟨_, rfl, fun p dp hp0 hdp0 nep => ⟨p, dp, a, t, rfl, upd_same, (made hp0 hdp0 nep).seq hS, by omega, fun l as H1 R1 o1 hl has => ⟨rfl, ?_⟩⟩⟩
    rw [hws] at R1
    have hnp : New [p] H := fun x m => by simp at m; subst m; exact hp0
    have s1 : Same H H1 := L2.Same.off (made hp0 hdp0 nep) o1 hnp
    have npf : pf ≠ p := ne_of_none h1 hp0
    refine ⟨_, rfl, pf, CF, dx, _, _, rfl, s1 _ _ h1, TF.cl, TF.nc, fF_clauses _ _ _ _, lcf, _, rfl, .inl (SqL.of (s1 _ _ h4)), fun lc hlc => ?_⟩
    have hlcH : H lc = none := s1.free hlc
    have s2 := s1.trans (Same.upd (o := .lst (ds.map V.ref)) hlc)
    obtain ⟨⟨dx1, hp1⟩, wl1, wp1⟩ := id R1
    have lcl : l ≠ lc := ne_of_none wl1 hlc
    have lca : lc ∉ as := fun mm => paired_mem wp1 lc mm hlc
    refine ⟨fun mm σ H2 => ∃ (k n : Nat) (ds : List Addr) (cs : List Ql66.Clause), mm = ws.length - k ∧ σ = [some (.ref pf), some (.ref a), some (.ref p), some (.ref lc), some (.int (n : Nat))] ∧ CkSt CR H H2 p l lc as ds ws k n f cs,
      ⟨_, 0, 0, ds, f.clauses, rfl, rfl, R1.same (Same.upd hlc), Nat.zero_le _, ⟨upd_same, paired_mapr h5 fun d c hc q => ⟨c, s2 _ _ q, Sm.Eqv.refl (W.cl c hc).1, (W.cl c hc).2⟩⟩, s2, by omega, rfl, by have := W.few; omega, Nat.zero_le _⟩, ?_⟩
    rintro mm σ H2 ⟨k, n, ds, cs, rfl, rfl, S⟩
    obtain ⟨⟨dx2, hp2⟩, wl2, wp2⟩ := id S.rd
    have lds : ds.length = cs.length := S.cl.pr.length
    have hk := S.hk
    have hn := S.hn
    have few := S.few
    refine ⟨_, rfl, p, dx2, _, rfl, hp2, rdF_no _ _ (by decide +kernel) (by decide +kernel), p, l, as, ws, k, rfl, S.rd, hk, _, rfl, ifB (fun c => ?_) (fun c => ?_)⟩
    · have hlt : k < ws.length := by simp at c; omega
      refine ⟨_, fun σ' H' q => q, ?_⟩
      refine ⟨_, rfl, rfl, _, rfl, ifD (fun e => ?_) (fun e => ?_)⟩
      · have e' : n = 65536 := by have := int_eq e; omega
        subst e'
        have eq := S.eq.trans (Sm.proof_full hlt)
        have Wr := (k2 _ eq).new (xs := [p]) S.sm hnp
        have en : Sm.errNo ws (k + 1) = k + 1 := by unfold Sm.errNo; rw [if_neg (by omega)]
        rw [en] at Wr
        exact ⟨_, rfl, p, CR, dx2, _, _, rfl, hp2, T.cl, T.nt, rdF_taken _ _, _, _, rfl, rfl, _, rfl, by omega, by omega, wrong_of (m := (k : Int) + 1) Wr (Off.of (Same.refl _)) (by omega)⟩
      · have e' : n < 65536 := by
          refine Nat.lt_of_le_of_ne hn fun z => e ?_
          subst z; rfl
        have eq := S.eq
        rw [show 65536 - n = (65536 - (n + 1)) + 1 by omega, Sm.proof_step hlt] at eq
        refine ⟨_, rfl, .inl ⟨rfl, _, SqL.of S.cl.hl⟩, _, rfl, _, rfl, _, rfl, p, l, pf, lc, as, ds, ws, k, f, fb, cs, rfl, S.rd, hlt, gw, Fm.same S.sm, W, npf, S.cl, by omega, fun c k' d H3 es lo hi R3 C3 hd3 o3 => ?_, fun e ee => ?_⟩
        · have Cl3 := S.cl.off hp2 o3
          have nlc : ∀ d' c', ClAt f H3 d' c' → d' ≠ lc := fun d' c' ⟨c'', q, _⟩ z => by subst z; rw [Cl3.hl] at q; cases q
          refine ⟨lc, _, _, rfl, rfl, Cl3.hl, by rw [List.length_map]; omega, ?_⟩
          refine ⟨_, rfl, _, _, rfl, rfl, ws.length - k', by omega, k', n + 1, ds ++ [d], cs ++ [c], rfl, rfl, ?_⟩
          obtain ⟨⟨dx3, hp3⟩, wl3, wp3⟩ := R3
          refine ⟨⟨⟨dx3, ?_⟩, ?_, paired_upd wp3 lca⟩, hi, ⟨?_, ?_⟩, L2.Same.set (L2.Same.off S.sm o3 hnp) hlcH, by omega, ?_, by simp; omega, by have := S.nc; simp; omega⟩
          · rw [upd_ne (ne_of hp3 Cl3.hl (by intro z; cases z))]; exact hp3
          · rw [upd_ne lcl]; exact wl3
          · rw [upd_same, List.map_append]; rfl
          · refine Paired.snoc (Paired.mapP Cl3.pr fun d' c' q => ?_) ?_
            · obtain ⟨c'', q1, q2⟩ := id q
              exact ⟨c'', by rw [upd_ne (nlc _ _ q)]; exact q1, q2⟩
            · obtain ⟨c'', q1, q2⟩ := id C3
              exact ⟨c'', by rw [upd_ne (nlc _ _ C3)]; exact q1, q2⟩
          · rw [es] at eq
            exact eq
        · rw [ee] at eq
          exact (k2 _ eq).new (xs := [p]) S.sm hnp
    · have hke : k = ws.length := by simpa using c
      have eq := S.eq.trans (Sm.proof_end (by omega))
      have wrE : ∀ {H3 : Hp}, ¬ (decide (0 < n) = true ∧ cs.getLast? = some []) → Same H2 H3 → Wrong CW [p] H3 E (k + 1) := fun no s3 => by
        rw [if_neg no] at eq
        have Wr := (k2 _ eq).new (xs := [p]) (S.sm.trans s3) hnp
        have en : Sm.errNo ws 0 = k + 1 := by unfold Sm.errNo; rw [if_pos rfl, hke]
        rw [en] at Wr
        exact Wr
      refine ⟨_, rfl, rfl, _, rfl, ifD (fun e => iteT ?_) (fun e => ?_)⟩
      · have e' : n = 0 := by have := int_eq e; omega
        exact ⟨_, rfl, p, CR, dx2, _, _, rfl, hp2, T.cl, T.nt, rdF_taken _ _, _, _, rfl, rfl, _, rfl, by omega, by omega, wrong_of (m := (k : Int) + 1) (wrE (fun q => by rw [e'] at q; exact absurd q.1 (by decide)) (Same.refl _)) (Off.of (Same.refl _)) (by omega)⟩
      · have e' : 0 < n := Nat.pos_of_ne_zero fun z => e (by rw [z]; rfl)
        have hcs : cs ≠ [] := by
          intro z
          have := S.nc
          rw [z] at this; simp at this; omega
        obtain ⟨ds', d, c0, rfl, hlast, c', hd, eqv, _⟩ := paired_last S.cl.pr hcs
        have hl2 := S.cl.hl
        rw [List.map_append] at hl2
        refine ⟨_, rfl, 1, rfl, lc, _, _, _, rfl, rfl, SqL.of hl2, atI_last _ _, _, .inr (.inr ⟨_, hd, rfl⟩), ?_⟩
        rw [isEmpty_cV]
        refine ifD (fun z => ?_) (fun z => ?_)
        · exact ⟨_, rfl, p, CR, dx2, _, _, rfl, hp2, T.cl, T.nt, rdF_taken _ _, _, _, rfl, rfl, _, rfl, by omega, by omega, wrong_of (m := (k : Int) + 1) (wrE (fun q => by rw [hlast] at q; exact z (eqv.nil.mpr (Option.some.inj q.2))) (Same.refl _)) (Off.of (Same.refl _)) (by omega)⟩
        · have z' : c' = [] := Classical.byContradiction z
          rw [if_pos ⟨decide_eq_true e', by rw [hlast, eqv.nil.mp z']⟩] at eq
          exact k1 eq H2 S.sm
end
abbrev sBookI : Stmt := inClass (top 53) 0
abbrev sReadT : Stmt := inClass (top 53) 1
abbrev sFind : Stmt := inClass (top 53) 2
abbrev sTell : Stmt := inClass (top 53) 3
abbrev sWays : Stmt := inClass (top 53) 4
abbrev sPlay : Stmt := inClass (top 53) 5
abbrev sFollow : Stmt := inClass (top 53) 6
abbrev sAnswers : Stmt := top 54
abbrev sRowAt : Stmt := top 55
abbrev sAnswerOf : Stmt := top 56
def bF (fv ov : V) : List (Str × V) := putF "outcomes" ov (putF "formula" fv [])
theorem n_fo : ¬ (("formula" : Str) = "outcomes") := by decide +kernel
section
variable (fv ov : V)
theorem bF_eq : bF fv ov = ([("formula", fv), ("outcomes", ov)] : List (Str × V)) := by
  show (if ("formula" : Str) = "outcomes" then [(("formula" : Str), ov)] else (("formula" : Str), fv) :: putF "outcomes" ov []) = _
  rw [if_neg n_fo]; rfl
theorem bF_form : (bF fv ov).lookup ("formula" : Str) = some fv := by unfold bF; rw [lookup_putF, if_neg n_fo, lookup_putF, if_pos rfl]
theorem bF_out : (bF fv ov).lookup ("outcomes" : Str) = some ov := by unfold bF; rw [lookup_putF, if_pos rfl]
theorem bF_no {m : Str} (h1 : ¬ m = "outcomes") (h2 : ¬ m = "formula") : (bF fv ov).lookup m = none := by unfold bF; rw [lookup_putF, if_neg h1, lookup_putF, if_neg h2]; rfl
theorem bF_putf (v : V) : putF "formula" v (bF fv ov) = bF v ov := by
  rw [bF_eq, bF_eq]
  show (if ("formula" : Str) = "formula" then _ else _) = _
  rw [if_pos rfl]
theorem bF_puto (v : V) : putF "outcomes" v (bF fv ov) = bF fv v := by
  rw [bF_eq, bF_eq]
  show (if ("formula" : Str) = "outcomes" then _ else _ :: (if ("outcomes" : Str) = "outcomes" then _ else _)) = _
  rw [if_neg n_fo, if_pos rfl]
theorem bF_len : (bF fv ov).length < 1000 := by rw [bF_eq]; show 2 < 1000; decide
end
theorem fF_bF {lv lk fb lc fv ov} (h : fF lv lk fb lc = bF fv ov) : False := by
  have := fF_clauses lv lk fb lc
  rw [h, bF_no _ _ (by decide +kernel) (by decide +kernel)] at this
  cases this
theorem oF_bF {l fv ov} (h : oF l = bF fv ov) : False := by
  have := oF_lev l
  rw [h, bF_no _ _ (by decide +kernel) (by decide +kernel)] at this
  cases this
def BookAt (CB CF CO : Addr) (H : Hp) (b : Addr) : Ql66.Abs → Prop
  | none => ∃ dx, H b = some (.ins CB dx (bF .non .non))
  | some x => ∃ dx pf ov, H b = some (.ins CB dx (bF (.ref pf) ov)) ∧ FmAt CF H pf x.1 x.2 ∧ Sm.FW x.1 ∧ x.2 ≤ x.1.size ∧ (ov = .non ∨ ∃ o, ov = .ref o ∧ OutAt CO H o x.1)
theorem FmAt.ne {CF CB : Addr} {H : Hp} {pf b dx : Addr} {fv ov : V} {f : Ql66.Formula} {fb : Nat} (h : FmAt CF H pf f fb) (hb : H b = some (.ins CB dx (bF fv ov))) : pf ≠ b := by
  rintro rfl
  obtain ⟨dx', lv, lk, lc, ds, h1, _⟩ := h
  rw [hb] at h1
  injection h1 with h1
  injection h1 with _ _ h1
  exact fF_bF h1.symm
theorem OutAt.ne {CO CB : Addr} {H : Hp} {o b dx : Addr} {fv ov : V} {f : Ql66.Formula} (h : OutAt CO H o f) (hb : H b = some (.ins CB dx (bF fv ov))) : o ≠ b := by
  rintro rfl
  obtain ⟨dx', l, h1, _⟩ := h
  rw [hb] at h1
  injection h1 with h1
  injection h1 with _ _ h1
  exact oF_bF h1.symm
theorem OutAt.off {CO CR : Addr} {H H' : Hp} {o p dx : Addr} {fs : List (Str × V)} {f : Ql66.Formula} (h : OutAt CO H o f) (hp : H p = some (.ins CR dx fs)) (np : o ≠ p) (e : Off [p] H H') : OutAt CO H' o f := by
  obtain ⟨dx', l, h1, as, rss, h2, h3, h4⟩ := h
  exact ⟨dx', l, e _ _ h1 (by simp [np]), as, rss, e _ _ h2 (ins_not hp _ _ h2), Paired.mapP h3 fun a r q => e _ _ q (ins_not hp _ _ q), h4⟩
theorem BookAt.same {CB CF CO : Addr} {H H' : Hp} {b : Addr} {s : Ql66.Abs} (h : BookAt CB CF CO H b s) (e : Same H H') : BookAt CB CF CO H' b s := by
  cases s with
  | none => obtain ⟨dx, h⟩ := h; exact ⟨dx, e _ _ h⟩
  | some x =>
    obtain ⟨dx, pf, ov, h1, h2, h3, h4, h5⟩ := h
    refine ⟨dx, pf, ov, e _ _ h1, h2.same e, h3, h4, ?_⟩
    rcases h5 with h5 | ⟨o, h5, h6⟩
    · exact .inl h5
    · exact .inr ⟨o, h5, h6.same e⟩
theorem BookAt.ob {CB CF CO : Addr} {H : Hp} {b : Addr} {s : Ql66.Abs} (h : BookAt CB CF CO H b s) : ∃ dx fv ov, H b = some (.ins CB dx (bF fv ov)) := by
  cases s with
  | none => obtain ⟨dx, h⟩ := h; exact ⟨dx, _, _, h⟩
  | some x => obtain ⟨dx, pf, ov, h1, _⟩ := h; exact ⟨dx, _, _, h1⟩
structure TxtB (K : PySem.W.Frag) (mg : Str → Option Value) (CB : Addr) : Prop where
  cl : Cls K CB
  nf : NoAttr K CB "formula"
  no : NoAttr K CB "outcomes"
  mb : mg "Book" = some (.ref CB)
  c0 : ∃ t, mg "QB_BEGIN" = some (.int 0 t)
  c1 : ∃ t, mg "QB_READ" = some (.int 1 t)
  c2 : ∃ t, mg "QB_TRUE" = some (.int 2 t)
  c3 : ∃ t, mg "QB_WAYS" = some (.int 3 t)
  c4 : ∃ t, mg "QB_PLAY" = some (.int 4 t)
  c5 : ∃ t, mg "QB_PROOF" = some (.int 5 t)
  nh : ∃ t, mg "NOTHING_HELD" = some (.int (-3) t)
  wv : ∃ t, mg "WRONG_VALUES" = some (.int (-2) t)
  some_ : ∃ t, mg "SOME" = some (.str "e" t)
  len : mg "len" = none
  all_ : mg "all" = none
section
variable (CB CF CO : Addr)
def spBi : Sp := fun vs H Q _ => ∃ (b dx : Addr), vs = [.ref b] ∧ H b = some (.ins CB dx []) ∧ ∀ H', BookAt CB CF CO H' b none → Off [b] H H' → Q .non H'
def spReadT (K : PySem.W.Frag) : Sp := fun vs H Q _ => ∃ (b a : Addr) (s : Ql66.Abs) (t : List Int), vs = [.ref b, .ref a] ∧ BookAt CB CF CO H b s ∧ SqL K H a (iL t) ∧ t.length ≤ 90000 ∧ Sm.Byts t ∧
  ∀ H', BookAt CB CF CO H' b (Sm.readRes s t).1 → Off [b] H H' → Q (.int ((Sm.readRes s t).2 : Nat)) H'
def spFind : Sp := fun vs H Q _ => ∃ (b : Addr) (x : Ql66.Formula × Nat), vs = [.ref b] ∧ BookAt CB CF CO H b (some x) ∧ ∀ (o : Addr) (H' : Hp), OutAt CO H' o x.1 → BookAt CB CF CO H' b (some x) → Off [b] H H' → Q (.ref o) H'
def spTell : Sp := fun vs H Q _ => ∃ (b : Addr) (x : Ql66.Formula × Nat), vs = [.ref b] ∧ BookAt CB CF CO H b (some x) ∧ ∀ H', BookAt CB CF CO H' b (some x) → Off [b] H H' → Q (.int (if x.1.true_ [] = true then 1 else 0)) H'
def spWays : Sp := fun vs H Q _ => ∃ (b : Addr) (x : Ql66.Formula × Nat), vs = [.ref b] ∧ BookAt CB CF CO H b (some x) ∧ ∀ H', BookAt CB CF CO H' b (some x) → Off [b] H H' → Q (.int (x.1.ways x.2 : Nat)) H'
def spFollow (K : PySem.W.Frag) : Sp := fun vs H Q _ => ∃ (b a : Addr) (x : Ql66.Formula × Nat) (t : List Int), vs = [.ref b, .ref a] ∧ BookAt CB CF CO H b (some x) ∧ SqL K H a (iL t) ∧ t.length ≤ 90000 ∧ Sm.Byts t ∧
  ∀ H', BookAt CB CF CO H' b (some x) → Off [b] H H' → Q (.int (Sm.proofRes x.1 t : Nat)) H'
end
section
variable {P : Program} {w : World} {K : PySem.W.Frag} {mg : Str → Option Value} {base : Heap} {CW fW CR CF CO CB : Addr} {fdW : FuncData}
theorem scBi : FnScope ["self"] ["self"] (defScope sBookI) := ⟨rfl, rfl, rfl, by decide +kernel, rfl, by decide +kernel, by decide +kernel⟩
theorem ok_bookI (D : InitOf K CB "Book.__init__" sBookI ["self"]) (TB : TxtB K mg CB) : PrC P w K mg base CX0 1 CB ["self"] (spBi CB CF CO) := by
  obtain ⟨f, fd, F, b, M⟩ := D
  refine ⟨f, fd, M, b, F.ok scBi (fun vs H Q E h => ?_) (fun cdv A outer s H vs Q E hr h => ?_)⟩
  · obtain ⟨b, dx, rfl, _⟩ := h
    rfl
  · obtain ⟨b, dx, rfl, hb, k⟩ := h
    refine ⟨_, pss_cons (ps_fld (pv 0) pe_non rfl) (pss_one (ps_fld (pv 0) pe_non rfl)), ?_⟩
    refine ⟨_, rfl, b, CB, dx, _, rfl, hb, TB.cl, TB.nf, by show 0 < 1000; decide, _, rfl, b, CB, dx, _, rfl, upd_same, TB.cl, TB.no, by show 1 < 1000; decide, ?_⟩
    exact k _ ⟨dx, upd_same⟩ (Off.upd.trans Off.upd)
theorem scRT : FnScope ["self", "text", "formula", "wrong"] ["self", "text"] (defScope sReadT) := ⟨rfl, rfl, rfl, by decide +kernel, rfl, by decide +kernel, by decide +kernel⟩
theorem ok_readT (D : MethOf K CB "read_text" "Book.read_text" sReadT ["self", "text"]) (T : TxtR K mg CW fW CR fdW) (TB : TxtB K mg CB) (GR : Pr P w K mg base (CXx P w) 6 "read_formula" ["text"] (spReadF K CW CF)) : PrM P w K mg base CX0 7 CB "read_text" ["self", "text"] (spReadT CB CF CO K) := by
  obtain ⟨fR, fdR, kR, bR, mR, GR⟩ := GR
  obtain ⟨f, fd, F, b, M⟩ := D
  refine ⟨f, fd, M, b, F.ok scRT (fun vs H Q E h => ?_) (fun cdv A outer s H vs Q E hr h => ?_)⟩
  · obtain ⟨b, a, s, t, rfl, _⟩ := h
    rfl
  · obtain ⟨b, a, s, t, rfl, B, hS, hL, hB, k⟩ := h
    refine ⟨_, pss_cons (ps_tryC (i := 2) (j := 3) T.xc GR hr rfl mR kR bR (fun _ => pa_cons (pv 1) pa_nil) rfl T.mw scRT.nd rfl rfl rfl rfl rfl rfl (fun _ => pss_one (ps_ret (pe_fldX T.xc (pv 3) rfl))))
      (pss_cons (ps_fld (pv 0) (pv 2) rfl) (pss_cons (ps_fld (pv 0) pe_non rfl) (pss_one (ps_ret pe_int)))), ?_⟩
    obtain ⟨dx, fv, ov, hb⟩ := B.ob
    unfold Sm.readRes at k
    refine ⟨_, rfl, a, t, rfl, hS, hL, hB, fun pf f fb H' hf W hfb hle Fm s' => ?_, fun e he dxe H' hx o => ?_⟩
    · rw [hf] at k
      have hb' := s' _ _ hb
      have npf := Fm.ne hb'
      refine ⟨_, rfl, _, rfl, b, CB, dx, _, rfl, hb', TB.cl, TB.nf, bF_len _ _, ?_⟩
      rw [bF_putf]
      refine ⟨_, rfl, b, CB, dx, _, rfl, upd_same, TB.cl, TB.no, bF_len _ _, ?_⟩
      rw [bF_puto]
      have o2 : Off [b] H' (upd (upd H' b (.ins CB dx (bF (.ref pf) ov))) b (.ins CB dx (bF (.ref pf) .non))) := Off.upd.trans Off.upd
      have Fm2 := Fm.off hb' npf o2
      exact k _ ⟨dx, pf, .non, upd_same, by rw [← hfb]; exact Fm2, W, by rw [← hfb]; exact hle, .inl rfl⟩ ((Off.of s').trans o2)
    · rw [he] at k
      have s' : Same H H' := fun b' u e' => o b' u e' (by simp)
      refine ⟨rfl, dxe, rfl, fun e' he' => ⟨_, rfl, e', dxe, _, rfl, he', hx, ?_⟩⟩
      exact k H' (B.same s') (Off.of s')
theorem scFd : FnScope ["self"] ["self"] (defScope sFind) := ⟨rfl, rfl, rfl, by decide +kernel, rfl, by decide +kernel, by decide +kernel⟩
theorem ok_find (D : MethOf K CB "find_outcomes" "Book.find_outcomes" sFind ["self"]) (TB : TxtB K mg CB) (TT : TxtT K mg CO) (GO : PrC P w K mg base CX0 5 CO ["self", "formula"] (spOut CO CF)) : PrM P w K mg base CX0 7 CB "find_outcomes" ["self"] (spFind CB CF CO) := by
  obtain ⟨fO, fdO, MO, bO, GO⟩ := GO
  obtain ⟨f, fd, F, b, M⟩ := D
  refine ⟨f, fd, M, b, F.ok scFd (fun vs H Q E h => ?_) (fun cdv A outer s H vs Q E hr h => ?_)⟩
  · obtain ⟨b, x, rfl, _⟩ := h
    rfl
  · obtain ⟨b, x, rfl, B, k⟩ := h
    refine ⟨_, pss_cons (ps_if (pt_cmpR op_isN (pe_fld (pv 0) rfl) pe_non (nomark _)) (pss_one (ps_fld (pv 0) (pe_make MO GO hr rfl TT.mo bO .nil pass0 (pa_cons (pe_fld (pv 0) rfl) pa_nil)) rfl)) pss_nil)
      (pss_one (ps_ret (pe_fld (pv 0) rfl))), ?_⟩
    obtain ⟨dx, pf, ov, hb, Fm, W, hle, hov⟩ := id B
    rcases hov with rfl | ⟨o, rfl, Ot⟩
    · refine ⟨_, rfl, b, CB, dx, _, _, rfl, hb, TB.cl, TB.no, bF_out _ _, rfl, _, rfl, iteT ?_⟩
      refine ⟨_, rfl, b, CB, dx, _, _, rfl, hb, TB.cl, TB.nf, bF_form _ _, fun o dxo ho hdo neo => ?_⟩
      have s1 := made (o := .own o) (o' := .ins CO dxo []) ho hdo neo
      refine ⟨o, dxo, pf, x.1, x.2, rfl, upd_same, Fm.same s1, W, fun H2 Ot2 o2 => ⟨rfl, ?_⟩⟩
      have s2 : Same H H2 := L2.Same.off s1 o2 fun z m => by simp at m; subst m; exact ho
      have hb2 := s2 _ _ hb
      refine ⟨_, rfl, b, CB, dx, _, rfl, hb2, TB.cl, TB.no, bF_len _ _, ?_⟩
      rw [bF_puto]
      refine ⟨_, rfl, b, CB, dx, _, _, rfl, upd_same, TB.cl, TB.no, bF_out _ _, ?_⟩
      have o3 : Off [b] H2 (upd H2 b (.ins CB dx (bF (.ref pf) (.ref o)))) := Off.upd
      have Ot3 := Ot2.off hb2 (Ot2.ne hb2) o3
      have Fm3 := (Fm.same s2).off hb2 ((Fm.same s2).ne hb2) o3
      exact k o _ Ot3 ⟨dx, pf, .ref o, upd_same, Fm3, W, hle, .inr ⟨o, rfl, Ot3⟩⟩ ((Off.of s2).trans o3)
    · refine ⟨_, rfl, b, CB, dx, _, _, rfl, hb, TB.cl, TB.no, bF_out _ _, rfl, _, rfl, iteF ?_⟩
      exact ⟨_, rfl, b, CB, dx, _, _, rfl, hb, TB.cl, TB.no, bF_out _ _, k o H Ot B (Off.of (Same.refl _))⟩
theorem scTl : FnScope ["self"] ["self"] (defScope sTell) := ⟨rfl, rfl, rfl, by decide +kernel, rfl, by decide +kernel, by decide +kernel⟩
theorem ok_tell (D : MethOf K CB "tell_truth" "Book.tell_truth" sTell ["self"]) (TB : TxtB K mg CB) (TT : TxtT K mg CO) (GF : PrM P w K mg base CX0 7 CB "find_outcomes" ["self"] (spFind CB CF CO)) (GI : PrM P w K mg base CX0 2 CO "is_true_of" ["self", "values"] (spIsTrue K CO)) : PrM P w K mg base CX0 8 CB "tell_truth" ["self"] (spTell CB CF CO) := by
  obtain ⟨fF', fdF, mF, bF', GF⟩ := GF
  obtain ⟨fI, fdI, mI, bI, GI⟩ := GI
  obtain ⟨f, fd, F, b, M⟩ := D
  refine ⟨f, fd, M, b, F.ok scTl (fun vs H Q E h => ?_) (fun cdv A outer s H vs Q E hr h => ?_)⟩
  · obtain ⟨b, x, rfl, _⟩ := h
    rfl
  · obtain ⟨b, x, rfl, B, k⟩ := h
    have hr2 := hr.mono (show 2 ≤ 7 by decide)
    refine ⟨_, pss_one (ps_ret (pe_ifExp (pt_truth (pe_meth (pe_meth0 (pv 0) TB.cl mF GF hr bF' .nil pass0) TT.cl mI GI hr2 bI .nil pass0 (pa_cons (pe_lst pa_nil) pa_nil)) (fun _ => rfl)) pe_int pe_int)), ?_⟩
    obtain ⟨dx, pf, ov, hb, Fm, W, hle, hov⟩ := id B
    refine ⟨_, rfl, b, dx, _, rfl, hb, bF_no _ _ (by decide +kernel) (by decide +kernel), b, x, rfl, B, fun o H2 Ot B2 o2 => ?_⟩
    obtain ⟨dxo, l, ho, Lv⟩ := id Ot
    refine ⟨o, dxo, _, rfl, ho, oF_no _ (by decide +kernel), Nat.zero_le _, fun q hq => ?_⟩
    have s3 : Same H2 (upd H2 q (.lst [])) := Same.upd hq
    refine ⟨o, q, x.1, [], rfl, Ot.same s3, W, SqL.of upd_same, Nat.zero_le _, _, rfl, ?_⟩
    have kk := k _ (B2.same s3) (o2.trans (Off.of s3))
    refine ifB (fun e => ?_) (fun e => ?_)
    · rw [if_pos e] at kk; exact kk
    · rw [if_neg (by rw [e]; exact Bool.false_ne_true)] at kk; exact kk
theorem scWy : FnScope ["self"] ["self"] (defScope sWays) := ⟨rfl, rfl, rfl, by decide +kernel, rfl, by decide +kernel, by decide +kernel⟩
theorem ok_ways (D : MethOf K CB "count_ways" "Book.count_ways" sWays ["self"]) (TB : TxtB K mg CB) (TT : TxtT K mg CO) (TF : TxtF K mg CF) (GF : PrM P w K mg base CX0 7 CB "find_outcomes" ["self"] (spFind CB CF CO)) (GC : PrM P w K mg base CX0 2 CO "count_true" ["self", "how_many"] (spCount CO)) : PrM P w K mg base CX0 8 CB "count_ways" ["self"] (spWays CB CF CO) := by
  obtain ⟨fF', fdF, mF, bF', GF⟩ := GF
  obtain ⟨fC, fdC, mC, bC, GC⟩ := GC
  obtain ⟨f, fd, F, b, M⟩ := D
  refine ⟨f, fd, M, b, F.ok scWy (fun vs H Q E h => ?_) (fun cdv A outer s H vs Q E hr h => ?_)⟩
  · obtain ⟨b, x, rfl, _⟩ := h
    rfl
  · obtain ⟨b, x, rfl, B, k⟩ := h
    have hr2 := hr.mono (show 2 ≤ 7 by decide)
    refine ⟨_, pss_one (ps_ret (pe_meth (pe_meth0 (pv 0) TB.cl mF GF hr bF' .nil pass0) TT.cl mC GC hr2 bC .nil pass0 (pa_cons (pe_fld (pe_fld (pv 0) rfl) rfl) pa_nil))), ?_⟩
    obtain ⟨dx, pf, ov, hb, Fm, W, hle, hov⟩ := id B
    refine ⟨_, rfl, b, dx, _, rfl, hb, bF_no _ _ (by decide +kernel) (by decide +kernel), b, x, rfl, B, fun o H2 Ot B2 o2 => ?_⟩
    obtain ⟨dxo, l, ho, Lv⟩ := id Ot
    obtain ⟨dx2, pf2, ov2, hb2, ⟨dxf, lv, lk, lc, ds, h1, _⟩, _⟩ := id B2
    refine ⟨o, dxo, _, rfl, ho, oF_no _ (by decide +kernel), _, rfl, b, CB, dx2, _, _, rfl, hb2, TB.cl, TB.nf, bF_form _ _, pf2, CF, dxf, _, _, rfl, h1, TF.cl, TF.nb, fF_first _ _ _ _, o, x.1, x.2, rfl, Ot, W, hle, fun H3 s3 => ?_⟩
    exact k H3 (B2.same s3) (o2.trans (Off.of s3))
theorem scFo : FnScope ["self", "text", "wrong"] ["self", "text"] (defScope sFollow) := ⟨rfl, rfl, rfl, by decide +kernel, rfl, by decide +kernel, by decide +kernel⟩
theorem ok_follow (D : MethOf K CB "follow_proof" "Book.follow_proof" sFollow ["self", "text"]) (T : TxtR K mg CW fW CR fdW) (TB : TxtB K mg CB) (GC : Pr P w K mg base (CXx P w) 7 "check_proof" ["formula", "text"] (spCheck K CW CF)) : PrM P w K mg base CX0 8 CB "follow_proof" ["self", "text"] (spFollow CB CF CO K) := by
  obtain ⟨fC, fdC, kC, bC, mC, GC⟩ := GC
  obtain ⟨f, fd, F, b, M⟩ := D
  refine ⟨f, fd, M, b, F.ok scFo (fun vs H Q E h => ?_) (fun cdv A outer s H vs Q E hr h => ?_)⟩
  · obtain ⟨b, a, x, t, rfl, _⟩ := h
    rfl
  · obtain ⟨b, a, x, t, rfl, B, hS, hL, hB, k⟩ := h
    refine ⟨_, pss_cons (ps_tryX (j := 2) (t := tCons (tFld K (tVar 0) "formula") (tCons (tVar 1) tNil)) T.xc GC hr rfl mC kC bC (fun _ => pa_cons (pe_fld (pv 0) rfl) (pa_cons (pv 1) pa_nil)) rfl T.mw scFo.nd rfl rfl rfl rfl (fun _ => pss_one (ps_ret (pe_fldX T.xc (pv 2) rfl))))
      (pss_one (ps_ret pe_int)), ?_⟩
    obtain ⟨dx, pf, ov, hb, Fm, W, hle, hov⟩ := id B
    unfold Sm.proofRes at k
    refine ⟨_, rfl, b, CB, dx, _, _, rfl, hb, TB.cl, TB.nf, bF_form _ _, _, rfl, pf, a, x.1, x.2, t, rfl, Fm, W, hS, hL, hB, fun ho H' s' => ?_, fun e he dxe H' hx o => ?_⟩
    · rw [ho] at k
      exact k H' (B.same s') (Off.of s')
    · rw [he] at k
      have s' : Same H H' := fun b' u e' => o b' u e' (by simp)
      exact ⟨rfl, dxe, rfl, fun e' he' => ⟨_, rfl, e', dxe, _, rfl, he', hx, k H' (B.same s') (Off.of s')⟩⟩
end
def spPlay (CB CF CO : Addr) : Sp := fun vs H Q _ => ∃ (b a : Addr) (x : Ql66.Formula × Nat) (ys : List Int), vs = [.ref b, .ref a] ∧ BookAt CB CF CO H b (some x) ∧ H a = some (.lst (iL ys)) ∧ ys.length ≤ 100000 ∧ (∀ y ∈ ys, 0 ≤ y) ∧
  ∀ H', BookAt CB CF CO H' b (some x) → Off [b] H H' → Q (.int (Sm.playRes x.1 ys)) H'
def b01 (y : Int) : Bool := decide (y = 0 ∨ y = 1)
theorem inV_01 (y : Int) : inV (.int y) [.int 0, .int 1] = b01 y := by
  unfold inV b01
  show (((0 : Int) == y) || (((1 : Int) == y) || false)) = _
  rw [Bool.eq_iff_iff]
  simp
  omega
theorem all_01 {ys : List Int} (h0 : ∀ y ∈ ys, 0 ≤ y) : (ys.map b01).all id = !(ys.any fun y => decide (1 < y)) := by
  induction ys with
  | nil => rfl
  | cons y r ih =>
    rw [List.map_cons, List.all_cons, List.any_cons, ih fun z hz => h0 z (by simp [hz])]
    have := h0 y (by simp)
    have e : id (b01 y) = !decide (1 < y) := by
      unfold b01
      rw [Bool.eq_iff_iff]
      simp
      omega
    rw [e, Bool.not_or]
theorem iL_bits {ys : List Int} (h0 : ∀ y ∈ ys, 0 ≤ y) (h : (ys.any fun y => decide (1 < y)) = false) : iL ys = (ys.map fun y => y == 1).map fun b => V.int (b.toNat : Nat) := by
  rw [iL, List.map_map]
  refine List.map_congr_left fun y hy => ?_
  have h1 := h0 y hy
  have h2 : ¬ (1 < y) := by
    have := List.any_eq_false.mp h y hy
    simpa using this
  have : y = 0 ∨ y = 1 := by omega
  rcases this with rfl | rfl <;> rfl
section
variable {P : Program} {w : World} {K : PySem.W.Frag} {mg : Str → Option Value} {base : Heap} {CW fW CR CF CO CB : Addr} {fdW : FuncData}
theorem scPy : FnScope ["self", "values", "value", "wanted"] ["self", "values"] (defScope sPlay) := ⟨rfl, rfl, rfl, by decide +kernel, rfl, by decide +kernel, by decide +kernel⟩
theorem blkPy : BlkOk ["self", "values", "value", "wanted"] (defScope sPlay) { kind := .function, names := [(".0", .local), ("value", .local)], isGenerator := false, isCoroutine := false } [("value", 2)] := ⟨rfl, by decide +kernel, by decide +kernel, by decide +kernel, by decide +kernel⟩
theorem ok_play (D : MethOf K CB "play_next" "Book.play_next" sPlay ["self", "values"]) (TB : TxtB K mg CB) (TT : TxtT K mg CO) (TF : TxtF K mg CF) (GF : PrM P w K mg base CX0 7 CB "find_outcomes" ["self"] (spFind CB CF CO)) (GI : PrM P w K mg base CX0 2 CO "is_true_of" ["self", "values"] (spIsTrue K CO)) : PrM P w K mg base CX0 8 CB "play_next" ["self", "values"] (spPlay CB CF CO) := by
  obtain ⟨twv, hwv⟩ := TB.wv
  obtain ⟨ts, hs⟩ := TB.some_
  obtain ⟨fF', fdF, mF, bF', GF⟩ := GF
  obtain ⟨fI, fdI, mI, bI, GI⟩ := GI
  obtain ⟨f, fd, F, b, M⟩ := D
  refine ⟨f, fd, M, b, F.ok scPy (fun vs H Q E h => ?_) (fun cdv A outer s H vs Q E hr h => ?_)⟩
  · obtain ⟨b, a, x, ys, rfl, _⟩ := h
    rfl
  · obtain ⟨b, a, x, ys, rfl, B, ha, hL, h0, k⟩ := h
    have hr2 := hr.mono (show 2 ≤ 7 by decide)
    refine ⟨_, pss_cons (ps_if (pt_cmpR op_ge (pe_callB call_len_seq (by rfl) TB.len PySem.boot_len (pa_cons (pv 1) pa_nil)) (pe_callB call_len_seq (by rfl) TB.len PySem.boot_len (pa_cons (pe_fld (pe_fld (pv 0) rfl) rfl) pa_nil)) (nomark _)) (pss_one (ps_ret (pgI hwv))) pss_nil)
      (pss_cons (ps_if (pt_not (pt_truth (pe_callB (call_all rfl) (by rfl) TB.all_ (by rfl) (pa_cons (pe_lc (own := [("value", 2)]) (te := tOp (rIn K false) (tVar 2) (tTup (tCons (tC (.int 0)) (tCons (tC (.int 1)) tNil)))) rfl scPy.nd (pi_list (pv 1)) blkPy
          (fun _ _ _ _ _ => pg_name (i := 2) scPy.nd rfl (Or.inl rfl)) (fun _ _ _ _ _ => pts_nil) (fun _ _ _ _ _ => pe_cmpR op_in_seq (pv 2) (pe_tup (pa_cons pe_int (pa_cons pe_int pa_nil))) (by with_unfolding_all rfl))) pa_nil)) (fun _ => rfl))) (pss_one (ps_ret (pgI hwv))) pss_nil)
      (pss_cons (ps_set (i := 3) scPy.nd rfl (Or.inl rfl) (pe_cmpR op_eq (pe_ix ix_list (pe_fld (pe_fld (pv 0) rfl) rfl) (pe_callB call_len_seq (by rfl) TB.len PySem.boot_len (pa_cons (pv 1) pa_nil)) (fun _ _ => rfl)) (pgS hs) (nomark _)))
      (pss_cons (ps_for PassesOwn.never rfl (pi_tup (pe_tup (pa_cons pe_int (pa_cons pe_int pa_nil)))) (pg_name (i := 2) scPy.nd rfl (Or.inl rfl))
        (pss_one (ps_if (pt_cmpR op_eq (pe_meth (pe_meth0 (pv 0) TB.cl mF GF hr bF' .nil pass0) TT.cl mI GI hr2 bI .nil pass0 (pa_cons (pe_op op_cat (pv 1) (pe_lst (pa_cons (pv 2) pa_nil))) pa_nil)) (pv 3) (nomark _)) (pss_one (ps_ret (pe_op op_add (pv 2) pe_int))) pss_nil)))
      (pss_one (ps_ret pe_int))))), ?_⟩
    have sz : sizeLine = 16777216 := sizeLine_eq
    obtain ⟨dx, pf, ov, hb, Fm, W, hle, hov⟩ := id B
    obtain ⟨dxf, lv, lk, lc, ds, f1, f2, f3, f4, f5⟩ := id Fm
    have hsz := W.sz
    have lV : (ordV x.1.order).length = x.1.size := by rw [List.length_map]; rfl
    have lY : (iL ys).length = ys.length := by simp
    have nab : a ∉ [b] := ins_not hb _ _ ha
    unfold Sm.playRes at k
    refine ⟨_, rfl, a, _, rfl, .inl (SqL.of ha), _, rfl, b, CB, dx, _, _, rfl, hb, TB.cl, TB.nf, bF_form _ _, pf, CF, dxf, _, _, rfl, f1, TF.cl, TF.nv, fF_vars _ _ _ _, lv, _, rfl, .inl (SqL.of f2), _, _, rfl, rfl, _, rfl, ifD (fun c => ?_) (fun c => ?_)⟩
    · have c' : x.1.size ≤ ys.length := by rw [lV, lY] at c; omega
      rw [if_pos (.inl c')] at k
      exact k H B (Off.of (Same.refl _))
    have c' : ys.length < x.1.size := by rw [lV, lY] at c; omega
    refine ⟨_, rfl, a, rfl, ⟨_, SqL.of ha⟩, fun D hD => lc_list (K := K) (a := a) (xs := iL ys) (fun j H2 => Same H H2 ∧ H2 D = some (.lst (((ys.take j).map b01).map V.bl))) ⟨Same.upd hD, upd_same⟩ (fun j H2 _ ⟨s2, _⟩ => SqL.of (s2 _ _ ha)) ?_ ?_⟩
    · rintro j z H2 hj ⟨s2, hD2⟩
      obtain ⟨y, hy, rfl⟩ := iL_get hj
      have hjl := (List.getElem?_eq_some_iff.mp hy).1
      refine ⟨rfl, ⟨_, rfl, by show 2 ≤ sizeLine; decide, fun t ht => ⟨t, _, rfl, .inr (.inl (.inl upd_same)), rfl, rfl, ?_⟩⟩⟩
      rw [if_neg Bool.false_ne_true, inV_01]
      refine ⟨_, (Same.upd ht) _ _ hD2, by simp; omega, L2.Same.set (s2.trans (Same.upd ht)) hD, ?_⟩
      rw [upd_same, take_get hy]
      simp
    rintro H2 ⟨s2, hD2⟩
    rw [lY, List.take_length] at hD2
    refine ⟨D, ys.map b01, rfl, SqL.of hD2, _, rfl, ?_⟩
    rw [all_01 h0]
    show if (!!(ys.any fun y => decide (1 < y))) = true then _ else _
    rw [Bool.not_not]
    have B2 := B.same s2
    refine ifB (fun e => ?_) (fun e => ?_)
    · rw [if_pos (.inr e)] at k
      exact k H2 B2 (Off.of s2)
    rw [if_neg (fun z => z.elim (by omega) (by rw [e]; exact Bool.false_ne_true))] at k
    have hbits := iL_bits h0 e
    have lv' : (ys.map fun y => y == 1).length = ys.length := by simp
    generalize hv : (ys.map fun y => y == 1) = v at *
    obtain ⟨⟨y0, q⟩, hq⟩ : ∃ yq, x.1.order[ys.length]? = some yq := ⟨_, List.getElem?_eq_getElem (by show _ < x.1.size; exact c')⟩
    have hplay : x.1.play v = if x.1.true_ (v ++ [false]) = q then 2 else if x.1.true_ (v ++ [true]) = q then 3 else 0 := by
      unfold Ql66.Formula.play
      rw [lv', List.getD_eq_getElem?_getD, hq]; rfl
    have hb2 := s2 _ _ hb
    refine ⟨_, rfl, b, CB, dx, _, _, rfl, hb2, TB.cl, TB.nf, bF_form _ _, pf, CF, dxf, _, _, rfl, s2 _ _ f1, TF.cl, TF.nk, fF_kinds _ _ _ _, _, rfl, a, _, rfl, .inl (SqL.of (s2 _ _ ha)), lk, _, _, _, rfl, rfl, SqL.of (s2 _ _ f3), at_of (j := ys.length) (v := .str (kd q)) (by rw [lY]) (by rw [ordK, List.getElem?_map, hq]; rfl), rfl, ?_⟩
    rw [kd_e]
    refine ⟨by show 2 ≤ sizeLine; decide, fun t ht => ⟨t, rfl, ⟨_, .inl (.inl upd_same)⟩, ?_⟩⟩
    have s3 := s2.trans (Same.upd (o := .tup [.int 0, .int 1]) ht)
    have ntb : t ∉ [b] := fun m => by simp at m; subst m; rw [hb2] at ht; cases ht
    refine for_tup (K := K) (a := t) (xs := [.int 0, .int 1]) (fun i σ H4 => ∃ v4, σ = [some (.ref b), some (.ref a), v4, some (.bl q)] ∧ BookAt CB CF CO H4 b (some x) ∧ Off [b] H H4 ∧ H4 t = some (.tup [.int 0, .int 1]) ∧ (0 < i → ¬ x.1.true_ (v ++ [false]) = q) ∧ (1 < i → ¬ x.1.true_ (v ++ [true]) = q))
      ⟨none, rfl, B.same s3, Off.of s3, upd_same, fun z => absurd z (by decide), fun z => absurd z (by decide)⟩ (fun i σ H4 _ ⟨_, _, _, _, h, _⟩ => .inl (.inl h)) ?_ ?_
    · rintro i y σ H4 hi ⟨v4, rfl, B4, o4, t4, no0, no1⟩
      obtain ⟨bb, rfl, hib⟩ : ∃ bb : Bool, y = .int (bb.toNat : Nat) ∧ i = bb.toNat := by
        match i, hi with
        | 0, hi => cases hi; exact ⟨false, rfl, rfl⟩
        | 1, hi => cases hi; exact ⟨true, rfl, rfl⟩
      obtain ⟨dx4, fv4, ov4, hb4⟩ := B4.ob
      have ha4 := o4 _ _ ha nab
      refine ⟨_, rfl, b, dx4, _, rfl, hb4, bF_no _ _ (by decide +kernel) (by decide +kernel), b, x, rfl, B4, fun o H5 Ot B5 o5 => ?_⟩
      obtain ⟨dxo, l, ho, Lv⟩ := id Ot
      have o45 := o4.trans o5
      have ha5 := o45 _ _ ha nab
      have t5 := o5 _ _ t4 ntb
      refine ⟨o, dxo, _, rfl, ho, oF_no _ (by decide +kernel), _, rfl, _, rfl, by show 1 ≤ sizeLine; decide, fun q1 hq1 => ⟨a, q1, _, _, rfl, rfl, (Same.upd hq1) _ _ ha5, upd_same, by simp; omega, fun p1 hp1 => ?_⟩⟩
      have s6 := (Same.upd (o := .lst [.int (bb.toNat : Nat)]) hq1).trans (Same.upd (o := .lst (iL ys ++ [.int (bb.toNat : Nat)])) hp1)
      refine ⟨o, p1, x.1, v ++ [bb], rfl, Ot.same s6, W, SqL.of (by rw [upd_same, hbits, List.map_append]; rfl), by rw [List.length_append, lv']; exact c', ?_⟩
      have B6 := B5.same s6
      have o6 := o45.trans (Off.of s6)
      have t6 := s6 _ _ t5
      refine ⟨_, rfl, rfl, _, rfl, ifD (fun e => ?_) (fun e => ?_)⟩
      · have e' : x.1.true_ (v ++ [bb]) = q := by injection e
        refine ⟨_, rfl, _, _, rfl, rfl, ?_⟩
        have kk := k _ B6 o6
        rw [hplay] at kk
        cases bb with
        | false => rw [if_pos e'] at kk; exact kk
        | true => rw [if_neg (no0 (by rw [hib]; decide)), if_pos e'] at kk; exact kk
      · have e' : ¬ x.1.true_ (v ++ [bb]) = q := fun z => e (by rw [z])
        refine ⟨_, rfl, B6, o6, t6, fun z => ?_, fun z => ?_⟩
        · cases bb with
          | false => exact e'
          | true => exact no0 (by rw [hib]; decide)
        · cases bb with
          | false => rw [hib] at z; exact absurd z (by decide)
          | true => exact e'
    · rintro σ H4 ⟨v4, rfl, B4, o4, t4, no0, no1⟩
      have kk := k _ B4 o4
      rw [hplay, if_neg (no0 (by decide)), if_neg (no1 (by decide))] at kk
      exact kk
end
theorem cut_mid (w : List V) (a n : Nat) : cutV w (some (a : Int)) (some ((a + n : Nat) : Int)) = (w.drop a).take n := by
  unfold cutV
  rw [HT.sIx_nat, HT.sIx_nat]
  by_cases h : a ≤ w.length
  · rw [Nat.min_eq_left h]
    by_cases h2 : a + n ≤ w.length
    · rw [Nat.min_eq_left h2]
      congr 1; omega
    · rw [Nat.min_eq_right (by omega), List.take_of_length_le (by rw [List.length_drop]; omega), List.take_of_length_le (by rw [List.length_drop]; omega)]
  · rw [Nat.min_eq_right (show w.length ≤ a by omega), Nat.min_eq_right (show w.length ≤ a + n by omega), List.drop_of_length_le (Nat.le_refl _), List.drop_of_length_le (show w.length ≤ a by omega), List.take_nil, List.take_nil]
def spRowAt (K : PySem.W.Frag) : Sp := fun vs H Q _ => ∃ (a : Addr) (ns : List Int) (k n : Nat), vs = [.ref a, .int (k : Nat)] ∧ SqL K H a (iL ns) ∧ ns[k]? = some (n : Int) ∧ ∀ (l : Addr) (H' : Hp), H' l = some (.lst (iL ((ns.drop (k + 1)).take n))) → H l = none → Same H H' → Q (.ref l) H'
def spAnsOf (CB CF CO : Addr) : Sp := fun vs H Q _ => ∃ (b a : Addr) (p : Int) (s : Ql66.Abs) (row : List Int), vs = [.ref b, .int p, .ref a] ∧ (0 ≤ p ∧ p ≤ 5) ∧ BookAt CB CF CO H b s ∧ (p = 0 → s = none) ∧ H a = some (.lst (iL row)) ∧ Sm.Byts row ∧ row.length ≤ 60000 ∧
  ∀ (l : Addr) (H' : Hp), H' l = some (.lst (iL (Sm.ansOf s p row).2)) → H l = none → BookAt CB CF CO H' b (Sm.ansOf s p row).1 → Off [b] H H' → Q (.ref l) H'
section
variable {P : Program} {w : World} {K : PySem.W.Frag} {mg : Str → Option Value} {base : Heap} {CF CO CB : Addr}
theorem scRA : FnScope ["calls", "at", "begin"] ["calls", "at"] (defScope sRowAt) := ⟨rfl, rfl, rfl, by decide +kernel, rfl, by decide +kernel, by decide +kernel⟩
theorem ok_rowAt (D : DefOf K mg "row_at" sRowAt ["calls", "at"]) : Pr P w K mg base CX0 1 "row_at" ["calls", "at"] (spRowAt K) := by
  obtain ⟨f, fd, F, b, m⟩ := D
  refine ⟨f, fd, F.kp, b, m, F.ok scRA (fun vs H Q E h => ?_) (fun cdv A outer s H vs Q E hr h => ?_)⟩
  · obtain ⟨a, ns, k, n, rfl, _⟩ := h
    rfl
  · obtain ⟨a, ns, k, n, rfl, hS, hn, kk⟩ := h
    refine ⟨_, pss_cons (ps_set (i := 2) scRA.nd rfl (Or.inl rfl) (pe_op op_add (pv 1) pe_int)) (pss_one (ps_ret (pe_slice sl_list (pv 0) (po_some (pv 2)) (po_some (pe_op op_add (pv 2) (pe_ix ix_list (pv 0) (pv 1) (fun _ _ => rfl))))))), ?_⟩
    refine ⟨_, rfl, _, _, rfl, rfl, _, rfl, _, rfl, _, rfl, _, rfl, _, rfl, _, rfl, a, _, _, _, rfl, rfl, hS, at_of (j := k) (v := .int (n : Nat)) rfl (by rw [iL, List.getElem?_map, hn]; rfl), _, _, rfl, rfl, _, rfl, a, _, rfl, hS, ?_⟩
    have e : cutV (iL ns) (some ((k : Int) + 1)) (some ((k : Int) + 1 + (n : Nat))) = iL ((ns.drop (k + 1)).take n) := by
      have := cut_mid (iL ns) (k + 1) n
      rw [show ((k : Int) + 1) = ((k + 1 : Nat) : Int) from rfl, show (((k + 1 : Nat) : Int) + (n : Nat)) = ((k + 1 + n : Nat) : Int) from rfl, this, iL, iL, List.map_take, List.map_drop]
    rw [e]
    exact fun l hl => kk l _ upd_same hl (Same.upd hl)
theorem scAO : FnScope ["book", "call", "row"] ["book", "call", "row"] (defScope sAnswerOf) := ⟨rfl, rfl, rfl, by decide +kernel, rfl, by decide +kernel, by decide +kernel⟩
theorem ok_answerOf (D : DefOf K mg "answer_of" sAnswerOf ["book", "call", "row"]) (TB : TxtB K mg CB) (GR : PrM P w K mg base CX0 7 CB "read_text" ["self", "text"] (spReadT CB CF CO K)) (GT : PrM P w K mg base CX0 8 CB "tell_truth" ["self"] (spTell CB CF CO)) (GY : PrM P w K mg base CX0 8 CB "count_ways" ["self"] (spWays CB CF CO))
    (GP : PrM P w K mg base CX0 8 CB "play_next" ["self", "values"] (spPlay CB CF CO)) (GF : PrM P w K mg base CX0 8 CB "follow_proof" ["self", "text"] (spFollow CB CF CO K)) : Pr P w K mg base CX0 9 "answer_of" ["book", "call", "row"] (spAnsOf CB CF CO) := by
  obtain ⟨t0, c0⟩ := TB.c0
  obtain ⟨t1, c1⟩ := TB.c1
  obtain ⟨t2, c2⟩ := TB.c2
  obtain ⟨t3, c3⟩ := TB.c3
  obtain ⟨t4, c4⟩ := TB.c4
  obtain ⟨t5, c5⟩ := TB.c5
  obtain ⟨tn, cn⟩ := TB.nh
  obtain ⟨fR, fdR, mR, bR, GR⟩ := GR
  obtain ⟨fT, fdT, mT, bT, GT⟩ := GT
  obtain ⟨fY, fdY, mY, bY, GY⟩ := GY
  obtain ⟨fP, fdP, mP, bP, GP⟩ := GP
  obtain ⟨fF', fdF, mF, bF', GF⟩ := GF
  obtain ⟨f, fd, F, b, m⟩ := D
  refine ⟨f, fd, F.kp, b, m, F.ok scAO (fun vs H Q E h => ?_) (fun cdv A outer s H vs Q E hr h => ?_)⟩
  · obtain ⟨b, a, p, s, row, rfl, _⟩ := h
    rfl
  · obtain ⟨b, a, p, s', row, rfl, hp, B, hs0, ha, hB, hL, k⟩ := h
    have hr7 := hr.mono (show 7 ≤ 8 by decide)
    refine ⟨_, pss_cons (ps_if (pt_cmpR op_eq (pv 1) (pgI c0) (nomark _)) (pss_one (ps_ret (pe_lst (pa_cons pe_int pa_nil)))) pss_nil)
      (pss_cons (ps_if (pt_cmpR op_eq (pv 1) (pgI c1) (nomark _)) (pss_one (ps_ret (pe_lst (pa_cons (pe_meth (pv 0) TB.cl mR GR hr7 bR .nil pass0 (pa_cons (pv 2) pa_nil)) pa_nil)))) pss_nil)
      (pss_cons (ps_if (pt_cmpR op_notIn_seq (pv 1) (pe_tup (pa_cons (pgI c2) (pa_cons (pgI c3) (pa_cons (pgI c4) (pa_cons (pgI c5) pa_nil))))) (by with_unfolding_all rfl)) (pss_one ps_never) pss_nil)
      (pss_cons (ps_if (pt_cmpR op_isN (pe_fld (pv 0) rfl) pe_non (nomark _)) (pss_one (ps_ret (pe_lst (pa_cons (pgI cn) pa_nil)))) pss_nil)
      (pss_cons (ps_if (pt_cmpR op_eq (pv 1) (pgI c2) (nomark _)) (pss_one (ps_ret (pe_lst (pa_cons (pe_meth0 (pv 0) TB.cl mT GT hr bT .nil pass0) pa_nil)))) pss_nil)
      (pss_cons (ps_if (pt_cmpR op_eq (pv 1) (pgI c3) (nomark _)) (pss_one (ps_ret (pe_lst (pa_cons pe_int (pa_cons (pe_meth0 (pv 0) TB.cl mY GY hr bY .nil pass0) pa_nil))))) pss_nil)
      (pss_cons (ps_if (pt_cmpR op_eq (pv 1) (pgI c4) (nomark _)) (pss_one (ps_ret (pe_lst (pa_cons (pe_meth (pv 0) TB.cl mP GP hr bP .nil pass0 (pa_cons (pv 2) pa_nil)) pa_nil)))) pss_nil)
      (pss_one (ps_ret (pe_lst (pa_cons (pe_meth (pv 0) TB.cl mF GF hr bF' .nil pass0 (pa_cons (pv 2) pa_nil)) pa_nil)))))))))), ?_⟩
    obtain ⟨dx, fv, ov, hb⟩ := B.ob
    have nab : a ∉ [b] := ins_not hb _ _ ha
    have free : ∀ {H2 : Hp} {l : Addr}, Off [b] H H2 → (∃ u, H2 b = some u) → H2 l = none → H l = none := fun {H2 l} o ⟨u, hu⟩ hl => off_free o hl fun _ _ z => by subst z; rw [hu] at hl; cases hl
    have bob : ∀ {H2 : Hp} {s2 : Ql66.Abs}, BookAt CB CF CO H2 b s2 → ∃ u, H2 b = some u := fun B2 => by obtain ⟨_, _, _, h⟩ := B2.ob; exact ⟨_, h⟩
    have nx : ∀ (m : Str), ¬ m = "outcomes" → ¬ m = "formula" → (bF fv ov).lookup m = none := fun m h1 h2 => bF_no _ _ h1 h2
    have hp6 : p = 0 ∨ p = 1 ∨ p = 2 ∨ p = 3 ∨ p = 4 ∨ p = 5 := by omega
    rcases hp6 with rfl | rfl | hp6
    · obtain rfl := hs0 rfl
      exact ⟨_, rfl, rfl, _, rfl, iteT ⟨by show 1 ≤ sizeLine; decide, fun l hl => k l _ upd_same hl (B.same (Same.upd hl)) (Off.of (Same.upd hl))⟩⟩
    · refine ⟨_, rfl, rfl, _, rfl, iteF ⟨_, rfl, rfl, _, rfl, iteT ?_⟩⟩
      refine ⟨_, rfl, b, dx, _, rfl, hb, nx _ (by decide +kernel) (by decide +kernel), _, rfl, b, a, s', row, rfl, B, SqL.of ha, by omega, hB, fun H2 B2 o2 => ?_⟩
      exact ⟨by show 1 ≤ sizeLine; decide, fun l hl => k l _ upd_same (free o2 (bob B2) hl) (B2.same (Same.upd hl)) (o2.trans (Off.of (Same.upd hl)))⟩
    have pre : ∀ {R : Prop} {Z : Hp → Prop}, True := fun {_ _} => trivial
    have notin : (!inV (.int p) [.int 2, .int 3, .int 4, .int 5]) = false := by
      rcases hp6 with rfl | rfl | rfl | rfl <;> rfl
    have ne0 : decide (V.int p = V.int 0) = false := decide_eq_false fun z => by have := int_eq z; omega
    have ne1 : decide (V.int p = V.int 1) = false := decide_eq_false fun z => by have := int_eq z; omega
    have q0 : ¬ p = 0 := by omega
    have q1 : ¬ p = 1 := by omega
    refine ⟨_, rfl, rfl, _, rfl, ?_⟩
    rw [ne0]
    refine iteF ⟨_, rfl, rfl, _, rfl, ?_⟩
    rw [ne1]
    refine iteF ⟨_, rfl, by show 4 ≤ sizeLine; decide, fun t ht => ⟨t, _, rfl, .inr (.inl (.inl upd_same)), rfl, rfl, _, rfl, ?_⟩⟩
    rw [if_pos rfl, notin]
    refine iteF ?_
    have s1 : Same H (upd H t (.tup [.int 2, .int 3, .int 4, .int 5])) := Same.upd ht
    have B1 := B.same s1
    have ha1 := s1 _ _ ha
    have hb1 := s1 _ _ hb
    have k : ∀ (l : Addr) (H' : Hp), H' l = some (.lst (iL (Sm.ansOf s' p row).2)) → (upd H t (.tup [.int 2, .int 3, .int 4, .int 5])) l = none → BookAt CB CF CO H' b (Sm.ansOf s' p row).1 → Off [b] (upd H t (.tup [.int 2, .int 3, .int 4, .int 5])) H' → Q (.ref l) H' := fun l H' h1 h2 h3 h4 => k l H' h1 (s1.free h2) h3 ((Off.of s1).trans h4)
    generalize upd H t (.tup [.int 2, .int 3, .int 4, .int 5]) = H1 at *
    have free : ∀ {H2 : Hp} {l : Addr}, Off [b] H1 H2 → (∃ u, H2 b = some u) → H2 l = none → H1 l = none := fun {H2 l} o ⟨u, hu⟩ hl => off_free o hl fun _ _ z => by subst z; rw [hu] at hl; cases hl
    cases s' with
    | none =>
      have e : Sm.ansOf none p row = (none, [-3]) := by rcases hp6 with rfl | rfl | rfl | rfl <;> rfl
      rw [e] at k
      obtain ⟨dx', hb'⟩ := id B1
      refine ⟨_, rfl, b, CB, dx', _, _, rfl, hb', TB.cl, TB.nf, bF_form _ _, rfl, _, rfl, iteT ?_⟩
      exact ⟨by show 1 ≤ sizeLine; decide, fun l hl => k l _ upd_same hl (B1.same (Same.upd hl)) (Off.of (Same.upd hl))⟩
    | some x =>
      obtain ⟨dx', pf, ov', hb', Fm, W, hle, hov⟩ := id B1
      have nx : ∀ (m : Str), ¬ m = "outcomes" → ¬ m = "formula" → (bF (.ref pf) ov').lookup m = none := fun m h1 h2 => bF_no _ _ h1 h2
      refine ⟨_, rfl, b, CB, dx', _, _, rfl, hb', TB.cl, TB.nf, bF_form _ _, rfl, _, rfl, iteF ?_⟩
      rcases hp6 with rfl | rfl | rfl | rfl
      · refine ⟨_, rfl, rfl, _, rfl, iteT ?_⟩
        refine ⟨_, rfl, b, dx', _, rfl, hb', nx _ (by decide +kernel) (by decide +kernel), b, x, rfl, B1, fun H2 B2 o2 => ?_⟩
        exact ⟨by show 1 ≤ sizeLine; decide, fun l hl => k l _ upd_same (free o2 (bob B2) hl) (B2.same (Same.upd hl)) (o2.trans (Off.of (Same.upd hl)))⟩
      · refine ⟨_, rfl, rfl, _, rfl, iteF ⟨_, rfl, rfl, _, rfl, iteT ?_⟩⟩
        refine ⟨_, rfl, b, dx', _, rfl, hb', nx _ (by decide +kernel) (by decide +kernel), b, x, rfl, B1, fun H2 B2 o2 => ?_⟩
        exact ⟨by show 2 ≤ sizeLine; decide, fun l hl => k l _ upd_same (free o2 (bob B2) hl) (B2.same (Same.upd hl)) (o2.trans (Off.of (Same.upd hl)))⟩
      · refine ⟨_, rfl, rfl, _, rfl, iteF ⟨_, rfl, rfl, _, rfl, iteF ⟨_, rfl, rfl, _, rfl, iteT ?_⟩⟩⟩
        refine ⟨_, rfl, b, dx', _, rfl, hb', nx _ (by decide +kernel) (by decide +kernel), _, rfl, b, a, x, row, rfl, B1, ha1, by omega, fun y hy => (hB y hy).1, fun H2 B2 o2 => ?_⟩
        exact ⟨by show 1 ≤ sizeLine; decide, fun l hl => k l _ upd_same (free o2 (bob B2) hl) (B2.same (Same.upd hl)) (o2.trans (Off.of (Same.upd hl)))⟩
      · refine ⟨_, rfl, rfl, _, rfl, iteF ⟨_, rfl, rfl, _, rfl, iteF ⟨_, rfl, rfl, _, rfl, iteF ?_⟩⟩⟩
        refine ⟨_, rfl, b, dx', _, rfl, hb', nx _ (by decide +kernel) (by decide +kernel), _, rfl, b, a, x, row, rfl, B1, SqL.of ha1, by omega, hB, fun H2 B2 o2 => ?_⟩
        exact ⟨by show 1 ≤ sizeLine; decide, fun l hl => k l _ upd_same (free o2 (bob B2) hl) (B2.same (Same.upd hl)) (o2.trans (Off.of (Same.upd hl)))⟩
end
end Sa
namespace L2
open PySem PySem.Spec PyProof.Rows
theorem spec_call {P : Program} {w : World} {K : PySem.W.Frag} {mg mb : Str → Option Value} {CX : CXT} {k : Nat} {fa a : Addr} {fd : FuncData} {x : Str} {sp : Sp} {s₁ : Shared} {vs : List Value} {ns ans : List Int}
    (KX : K.In s₁.heap) (hns : s₁.heap.Ns mainGlobals mg) (hb : s₁.heap.Ns builtinsNs mb) (hbb : ∀ x : Str, x ≠ "__name__" → mb x = bootBuiltins x) (hlim : s₁.heap.NoLimit) (hg : s₁.gens = #[])
    (ha : s₁.heap.get? a = some { cls := .type "list", data := .seq vs.toArray }) (hi : IntsAre vs ns) (hl : ns.length ≤ sizeLine) (hr : Room k callerA)
    (F : ∀ base : Heap, K.In base → base.Ns mainGlobals mg → FnOk P w K mg base CX k fa fd [x] sp) (hbind : ∀ (s : Shared) (u : Value), BindsTo s fd ⟨[u], []⟩ [(x, u)])
    (hsp : ∀ H : Hp, Only H → SqL K H a (ns.map V.int) → sp [.ref a] H (fun v H' => ∃ l, v = .ref l ∧ H' l = some (.lst (ans.map V.int))) fun _ _ _ => False)
    (hCX : ∀ H e s', CX [] H s₁ (fun _ _ _ => False) e s' → False) :
    codeAny (model P w) callerA (.call (.ref fa) ⟨[.ref a], []⟩) (fun r s' => (∃ (l : Addr) (its : List Value) (n : Nat), r = .ok (.ret (.ref l)) ∧ s'.heap.get? l = some { cls := .type "list", data := .seq its.toArray n } ∧ IntsAre its ans) ∧ OldK s₁.heap s'.heap ∧ s'.os = s₁.os ∧ AllBare s'.gens) s₁ := by
  have rv := vals_ints hi
  have lenV := hi.length
  have core : ∀ H : Hp, Only H → SqL K H a (ns.map V.int) → HOk P w H s₁.heap → (∀ b, H b ≠ none → b = a) → (H a ≠ none → K.lookup a = none) →
      codeAny (model P w) callerA (.call (.ref fa) ⟨[.ref a], []⟩) (fun r s' => (∃ (l : Addr) (its : List Value) (n : Nat), r = .ok (.ret (.ref l)) ∧ s'.heap.get? l = some { cls := .type "list", data := .seq its.toArray n } ∧ IntsAre its ans) ∧ OldK s₁.heap s'.heap ∧ s'.os = s₁.os ∧ AllBare s'.gens) s₁ := by
    intro H hO hS hok hA hK
    have base_of : ∀ {b : Addr} {o : Obj}, s₁.heap.get? b = some o → H b = none → (hidT s₁.heap H).get? b = some o := fun e n => hidT_get e n
    have noA : ∀ {b : Addr} {o : Obj} {es : Array DictEntry} {ep : Nat}, s₁.heap.get? b = some o → o.data = .dict es ep → H b = none := fun {b o es ep} e d => by
      cases q : H b with
      | none => rfl
      | some u =>
        have e' : b = a := hA b (by rw [q]; simp)
        subst e'
        rw [ha] at e; cases e
        have d' : Data.seq vs.toArray _ = Data.dict es ep := d
        cases d'
    have nsK : ∀ {b : Addr} {m : Str → Option Value}, s₁.heap.Ns b m → (hidT s₁.heap H).Ns b m := fun {b m} ⟨o, es, ep, e, d, r⟩ => ⟨o, es, ep, base_of e (noA e d), d, r⟩
    have hKb : K.In (hidT s₁.heap H) := fun b o e => base_of (KX b o e) (by
      cases q : H b with
      | none => rfl
      | some u =>
        have e' : b = a := hA b (by rw [q]; simp)
        subst e'
        rw [hK (by rw [q]; simp)] at e; cases e)
    have hM : Mod K mg (hidT s₁.heap H) := ⟨hKb, nsK hns, ⟨mb, nsK hb, hbb⟩, let ⟨mc, h1, h2⟩ := hlim; ⟨mc, nsK h1, h2⟩⟩
    have e0 : Env0 P w K mg (hidT s₁.heap H) callerA [] s₁ H := ⟨rfl, hM, fun b o e => of_hidT e, Nat.le_of_eq (hidT_size _ _), trivial, fun b hb => absurd (show b ∈ ([] : List Addr) from hb) (by simp), hok, .of_eq hg⟩
    refine codeAny_mono ((F _ hKb (nsK hns)).run callerA [] s₁ H ⟨[.ref a], []⟩ [.ref a] [.ref a] _ _ hr e0 (hbind s₁ (.ref a)) (.cons rfl .nil) (hsp H hO hS)) fun r s' h => ?_
    cases r with
    | error e => exact (hCX H e s' h).elim
    | ok fl =>
      cases fl with
      | next => exact False.elim h
      | brk => exact False.elim h
      | cont => exact False.elim h
      | ret u =>
        obtain ⟨v, H', os, bare, un, hok', r', l, ev, hl'⟩ := h
        subst ev
        obtain rfl : u = Value.ref l := r'
        obtain ⟨_, its, n, rv', hget⟩ := hok' l _ hl'
        refine ⟨⟨l, its, n, rfl, hget, intsAre_of rv'⟩, OldK.of_keep fun b o e => ?_, os, bare⟩
        cases q : H b with
        | none => exact un.keep b o e q (by intro z; exact absurd (show b ∈ ([] : List Addr) from z) (by simp)) (by simp)
        | some u =>
          rcases hO b with z | ⟨ob, xs, z⟩
          · rw [q] at z; cases z
          · have z2 := un.frzs b ob _ z
            obtain ⟨e1, _⟩ := hok b _ z
            obtain ⟨e2, _⟩ := hok' b _ z2
            rw [e] at e1; cases e1
            exact e2
  cases hk : K.lookup a with
  | some o =>
    have e := KX a o hk
    rw [ha] at e
    cases e
    refine core (fun _ => none) (fun _ => .inl rfl) (.inr ⟨_, vs.toArray, _, hk, rfl, rfl, rfl, by rw [List.size_toArray, lenV]; exact hl, by simpa using rv⟩) (fun b u z => by have z' : (none : Option HO) = some u := z; cases z') (fun b z => absurd rfl z) fun z => absurd rfl z
  | none =>
    refine core (fun b => if b = a then some (.frz { cls := .type "list", data := .seq vs.toArray } (.lst (ns.map V.int))) else none) (fun b => ?_) (.inl (.inr ⟨{ cls := .type "list", data := .seq vs.toArray }, if_pos rfl⟩)) (fun b u z => ?_) (fun b z => ?_) fun _ => hk
    · by_cases hb : b = a
      · exact .inr ⟨_, _, if_pos hb⟩
      · exact .inl (if_neg hb)
    · by_cases hb : b = a
      · have z' := (if_pos hb).symm.trans z
        cases z'
        subst hb
        exact ⟨ha, by rw [List.length_map]; exact hl, vs, _, rv, ha⟩
      · have z' := (if_neg hb).symm.trans z
        cases z'
    · by_cases hb : b = a
      · exact hb
      · exact absurd (if_neg hb) z
theorem readsAll_ints {h : Heap} {cl : Str → Option Addr} : ∀ {its : List Value} {ns : List Int}, IntsAre its ns → PySem.W.ReadsAllW [] cl h its (ns.map PySem.W.WData.int) []
  | _, _, .nil => .nil
  | _, _, .cons n t r => .cons (as := []) (bs := []) (.int n t) (readsAll_ints r)
end L2
namespace Sa
open PySem PySem.W L2
abbrev row : OpenSpec := PySem.Challenge.rw_someall_s01_answers
theorem said : row.wellSaid = true := by decide +kernel
def spAns (K : PySem.W.Frag) : Sp := fun vs H Q _ => ∃ (a : Addr) (ns : List Int), vs = [.ref a] ∧ SqL K H a (ns.map V.int) ∧ ns.length ≤ 60000 ∧ (∀ x ∈ ns, 0 ≤ x ∧ x ≤ 59000) ∧ PyQl66.answers_asked ns = true ∧
  ∀ (l : Addr) (H' : Hp), H' l = some (.lst ((PyQl66.answers ns).map V.int)) → Q (.ref l) H'
theorem row_args {args : List WData} (h : row.pre args = true) : ∃ ns : List Int, args = [.list (ns.map WData.int)] ∧ ns.length ≤ 60000 ∧ (∀ x ∈ ns, 0 ≤ x ∧ x ≤ 59000) ∧ PyQl66.answers_asked ns = true := by
  obtain ⟨a, hw, hq, e⟩ := (OpenSpec.pre_iff said args).mp h
  obtain ⟨ns, u⟩ : List Int × Unit := a
  have hq' : PyQl66.answers_asked ns = true := hq
  have e' : args = [.list (ns.map WData.int)] := e
  have hw' : ((Codec.inLen 0 60000 ns && ns.all (Codec.inInt 0 59000)) && true) = true := hw
  simp only [Bool.and_true, Bool.and_eq_true] at hw'
  refine ⟨ns, e', ?_, fun x hx => ?_, hq'⟩
  · have := hw'.1
    unfold Codec.inLen Codec.inNat at this
    simp at this; exact this
  · have := List.all_eq_true.mp hw'.2 x hx
    unfold Codec.inInt at this
    simp at this; exact this
theorem row_post {ns : List Int} (h : row.pre [.list (ns.map WData.int)] = true) : row.claim.post [.list (ns.map WData.int)] (.list ((PyQl66.answers ns).map WData.int)) [.list (ns.map WData.int)] = true := by
  obtain ⟨a, hw, hq, e⟩ := (OpenSpec.pre_iff said _).mp h
  obtain ⟨ms, u⟩ : List Int × Unit := a
  have e' : [WData.list (ns.map WData.int)] = [.list (ms.map WData.int)] := e
  have e2 : ns = ms := by
    injection e' with e1 _
    injection e1 with e1
    clear e h hw hq
    revert ms
    induction ns with
    | nil => intro ms e1; cases ms with
      | nil => rfl
      | cons _ _ => cases e1
    | cons x r ih => intro ms e1; cases ms with
      | nil => cases e1
      | cons y t =>
        rw [List.map_cons, List.map_cons] at e1
        injection e1 with a b
        injection a with a
        rw [a, ih t b]
  subst e2
  exact (OpenSpec.post_iff said (a := (ns, ())) hw _ _).mpr rfl
theorem walk {q : Program} {loose : List Str} {XP : (Str → Option Value) → Heap → Prop} {YP : World → Heap → Prop} {d : DefRec} {K : Params → PySem.W.Frag} {k : Nat} {CX : World → CXT} (hdf : d.params.defaults = []) (hr : Room k callerA)
    (hY : ∀ (w : World) (h : Heap), YP w h → (K w.params).In h)
    (F : ∀ (w : World) (mg : Str → Option Value) (fa : Addr) (h : Heap), (K w.params).In h → h.Ns mainGlobals mg → mg d.name = some (.ref fa) →
      ∃ fd : FuncData, (∀ (s : Shared) (u : Value), BindsTo s fd ⟨[u], []⟩ [("calls", u)]) ∧ ∀ base : Heap, (K w.params).In base → base.Ns mainGlobals mg → FnOk row.prog w (K w.params) mg base (CX w) k fa fd ["calls"] (spAns (K w.params)))
    (hCX : ∀ (w : World) (H : Hp) (s : Shared) (e : Value) (s' : Shared), CX w [] H s (fun _ _ _ => False) e s' → False) :
    WalkOS q loose XP YP row d [] (fun f vs => PySem.call f vs) := by
  intro w s₀ s₁ mg mb G Y fa o pm cd doc dV kV ho hd hcd hD hmg hg args vals as hpre hlay hrd hwl hlo
  obtain rfl : dV = .none := Dflts.none hD hdf
  obtain rfl : kV = .none := Dflts.noKw hD
  obtain ⟨ns, rfl, hlen, hrange, hask⟩ := row_args hpre
  obtain ⟨a, vs, rfl, hobj, hints⟩ : ∃ a vs, vals = [Value.ref a] ∧ s₁.heap.get? a = some { cls := .type "list", data := .seq vs.toArray } ∧ PyProof.Rows.IntsAre vs ns := by
    cases hwl with
    | cons w1 w2 =>
      cases w2
      cases w1 with
      | list ho hall => exact ⟨_, _, rfl, ho, Att.ints_of_wellAll ns _ hall⟩
  have KX := hY w _ Y
  obtain ⟨fd, hb, hF⟩ := F w mg fa _ KX G.T.g hmg
  have sz : sizeLine = 16777216 := sizeLine_eq
  refine enter_call (codeAny_mono (spec_call (ans := PyQl66.answers ns) KX G.T.g G.T.b G.T.builtins G.T.nolimit hg hobj hints (by omega) hr hF hb
    (fun H hO hS => ⟨a, ns, rfl, hS, hlen, hrange, hask, fun l H' h => ⟨l, rfl, h⟩⟩) fun H e s' => hCX w H s₁ e s') fun r s' hq => ?_)
  obtain ⟨⟨l, its, n, rfl, hget, hi⟩, h2, h3, h4⟩ := hq
  exact ⟨.inl ⟨.ref l, .list ((PyQl66.answers ns).map WData.int), _, rfl, fun _ => rfl, .list hget rfl rfl (by rw [show its.toArray.toList = its from rfl]; exact readsAll_ints hi), row_post hpre, fun z => (Bool.false_ne_true z).elim⟩, h2, h3, h4⟩
end Sa
namespace L2
open PySem
theorem xcls_mk {K : PySem.W.Frag} {C f N : Addr} {a nm q : Str} {bs : List Value} {sn : List Str} {sub : List Value} {ab : Bool} {col : Option Bool} {dd : Option Addr} {k0 k1 k2 k3 k5 : Option Value} {c : Value} {d : Option Addr} {es : Array DictEntry} {ep : Nat} {sl : Array (Option Value)}
    (l1 : K.lookup C = some (excClassObj nm q C N bs bmV true sn sub ab col dd k0 k1 k2 k3 k5 "ValueError.__new__")) (l2 : K.lookup N = some ⟨c, d, .dict es ep, sl⟩) (sk : strKeys es = true)
    (i1 : PySem.W.nsIn K N "__init__" = some (some (.ref f))) (i2 : PySem.W.nsIn K N "__getattribute__" = some none) (i3 : PySem.W.nsIn K N "__getattr__" = some none) (i4 : PySem.W.nsIn K N "__setattr__" = some none) (i5 : PySem.W.nsIn K N a = some none)
    (fn : PySem.W.isFn K (.ref f) = true) (kp : PySem.W.keepIn K (.ref C) = true) (lk : typeLookup (.type "ValueError") a = pure none) : XCls K C f a :=
  ⟨⟨nm, q, N, bs, sn, sub, ab, col, dd, k0, k1, k2, k3, k5, c, d, es, ep, sl, l1, l2, sk, i1, i2, i3, i4, i5⟩, fn, kp, lk⟩
end L2
namespace Sa
open PySem L2
theorem inV_rows (p : Int) : inV (.int p) [.int 1, .int 4, .int 5] = decide (p = 1 ∨ p = 4 ∨ p = 5) := by
  unfold inV
  show (((1 : Int) == p) || (((4 : Int) == p) || (((5 : Int) == p) || false))) = _
  rw [Bool.eq_iff_iff]
  simp
  omega
def isF : HO → Bool
  | .frz _ _ => true
  | _ => false
def Keep (H H' : Hp) : Prop := ∀ z v, H z = some v → isF v = false → H' z = some v
theorem FmAt.keep {CF : Addr} {H H' : Hp} {p : Addr} {f : Ql66.Formula} {fb : Nat} (h : FmAt CF H p f fb) (s : Keep H H') : FmAt CF H' p f fb := by
  obtain ⟨dx, lv, lk, lc, ds, h1, h2, h3, h4, h5⟩ := h
  exact ⟨dx, lv, lk, lc, ds, s _ _ h1 rfl, s _ _ h2 rfl, s _ _ h3 rfl, s _ _ h4 rfl, Paired.mapP h5 fun d c q => s _ _ q rfl⟩
theorem OutAt.keep {CO : Addr} {H H' : Hp} {o : Addr} {f : Ql66.Formula} (h : OutAt CO H o f) (s : Keep H H') : OutAt CO H' o f := by
  obtain ⟨dx, l, h1, as, rss, h2, h3, h4⟩ := h
  exact ⟨dx, l, s _ _ h1 rfl, as, rss, s _ _ h2 rfl, Paired.mapP h3 fun a r q => s _ _ q rfl, h4⟩
theorem BookAt.keep {CB CF CO : Addr} {H H' : Hp} {b : Addr} {st : Ql66.Abs} (h : BookAt CB CF CO H b st) (s : Keep H H') : BookAt CB CF CO H' b st := by
  cases st with
  | none => obtain ⟨dx, h⟩ := h; exact ⟨dx, s _ _ h rfl⟩
  | some x =>
    obtain ⟨dx, pf, ov, h1, h2, h3, h4, h5⟩ := h
    refine ⟨dx, pf, ov, s _ _ h1 rfl, h2.keep s, h3, h4, ?_⟩
    rcases h5 with h5 | ⟨o, h5, h6⟩
    · exact .inl h5
    · exact .inr ⟨o, h5, h6.keep s⟩
def Away (CB CF CO lg : Addr) (H : Hp) (b : Addr) (s : Ql66.Abs) : Prop := ∃ od u, BookAt CB CF CO (upd H lg (.frz od u)) b s
theorem keep_upd {H : Hp} {lg : Addr} {od : Obj} {u o : HO} : Keep (upd H lg (.frz od u)) (upd H lg o) := fun z v e n => by
  by_cases h : z = lg
  · subst h; rw [upd_same] at e; cases e; cases n
  · rw [upd_ne h] at e ⊢; exact e
theorem Away.any {CB CF CO lg : Addr} {H : Hp} {b : Addr} {s : Ql66.Abs} (h : Away CB CF CO lg H b s) (o : HO) : BookAt CB CF CO (upd H lg o) b s := by
  obtain ⟨od, u, h⟩ := h
  exact h.keep keep_upd
theorem upd_id {H : Hp} {lg : Addr} {o : HO} (h : H lg = some o) : upd H lg o = H := by
  funext z
  by_cases e : z = lg
  · subst e; rw [upd_same, h]
  · rw [upd_ne e]
theorem upd_upd {H : Hp} {lg : Addr} {o o' : HO} : upd (upd H lg o) lg o' = upd H lg o' := by
  funext z
  by_cases e : z = lg
  · subst e; rw [upd_same, upd_same]
  · rw [upd_ne e, upd_ne e, upd_ne e]
theorem Away.set {CB CF CO lg : Addr} {H : Hp} {b : Addr} {s : Ql66.Abs} {o : HO} (h : Away CB CF CO lg H b s) : Away CB CF CO lg (upd H lg o) b s := by
  obtain ⟨od, u, h⟩ := h
  exact ⟨od, u, by rw [upd_upd]; exact h⟩
theorem Away.of {CB CF CO lg : Addr} {H : Hp} {b : Addr} {s : Ql66.Abs} {od : Obj} {u : HO} (h : BookAt CB CF CO H b s) (hg : H lg = some (.frz od u)) : Away CB CF CO lg H b s := ⟨od, u, by rw [upd_id hg]; exact h⟩
theorem Away.same {CB CF CO lg : Addr} {H H' : Hp} {b : Addr} {s : Ql66.Abs} (h : Away CB CF CO lg H b s) (e : Same H H') : Away CB CF CO lg H' b s := by
  obtain ⟨od, u, h⟩ := h
  refine ⟨od, u, h.same fun z v q => ?_⟩
  by_cases z' : z = lg
  · subst z'; rw [upd_same] at q ⊢; exact q
  · rw [upd_ne z'] at q ⊢; exact e _ _ q
theorem Away.new {CB CF CO lg : Addr} {H : Hp} {b : Addr} {us : List V} (h : BookAt CB CF CO H b none) (hg : H lg = some (.lst us)) : Away CB CF CO lg H b none := by
  obtain ⟨dx, h⟩ := h
  refine ⟨{ cls := .none, data := .fields #[] }, .lst us, dx, ?_⟩
  rw [upd_ne (ne_of h hg (by intro z; cases z))]; exact h
section
variable {P : Program} {w : World} {K : PySem.W.Frag} {mg : Str → Option Value} {base : Heap} {CF CO CB : Addr}
theorem scAn : FnScope ["calls", "given", "book", "at", "call", "row", "answer"] ["calls"] (defScope sAnswers) := ⟨rfl, rfl, rfl, by decide +kernel, rfl, by decide +kernel, by decide +kernel⟩
theorem ok_answers {f : Addr} {fd : FuncData} (F : Fun K "answers" "answers" sAnswers f fd) (TB : TxtB K mg CB) (GB : PrC P w K mg base CX0 1 CB ["self"] (spBi CB CF CO)) (GR : Pr P w K mg base CX0 1 "row_at" ["calls", "at"] (spRowAt K)) (GA : Pr P w K mg base CX0 9 "answer_of" ["book", "call", "row"] (spAnsOf CB CF CO)) :
    FnOk P w K mg base CX0 10 f fd ["calls"] (spAns K) := by
  obtain ⟨t0, c0⟩ := TB.c0
  obtain ⟨t1, c1⟩ := TB.c1
  obtain ⟨t4, c4⟩ := TB.c4
  obtain ⟨t5, c5⟩ := TB.c5
  obtain ⟨fB, fdB, MB, bB, GB⟩ := GB
  obtain ⟨fR, fdR, kR, bR, mR, GR⟩ := GR
  obtain ⟨fA, fdA, kA, bA, mA, GA⟩ := GA
  refine F.ok scAn (fun vs H Q E h => ?_) (fun cdv A outer s H vs Q E hr h => ?_)
  · obtain ⟨a, ns, rfl, _⟩ := h
    rfl
  · obtain ⟨a, ns, rfl, hS, hL, hrg, hask, kk⟩ := h
    have hr1 := hr.mono (show 1 ≤ 9 by decide)
    have hr2 := hr.mono (show 2 ≤ 9 by decide)
    refine ⟨_, pss_cons (ps_set (i := 1) scAn.nd rfl (Or.inl rfl) (pe_lst pa_nil))
      (pss_cons (ps_set (i := 2) scAn.nd rfl (Or.inl rfl) (pe_make0 MB GB hr2 rfl TB.mb bB .nil pass0))
      (pss_cons (ps_set (i := 3) scAn.nd rfl (Or.inl rfl) pe_int)
      (pss_cons (ps_while PassesOwn.never (pt_cmpR op_lt (pv 3) (pe_callB call_len_seq (by rfl) TB.len PySem.boot_len (pa_cons (pv 0) pa_nil)) (nomark _))
        (pss_cons (ps_set (i := 4) scAn.nd rfl (Or.inl rfl) (pe_ix ix_list (pv 0) (pv 3) (fun _ _ => rfl)))
        (pss_cons (ps_set (i := 3) scAn.nd rfl (Or.inl rfl) (pe_op op_add (pv 3) pe_int))
        (pss_cons (ps_set (i := 5) scAn.nd rfl (Or.inl rfl) (pe_lst pa_nil))
        (pss_cons (ps_if (pt_cmpR op_in_seq (pv 4) (pe_tup (pa_cons (pgI c1) (pa_cons (pgI c4) (pa_cons (pgI c5) pa_nil)))) (by with_unfolding_all rfl))
            (pss_cons (ps_set (i := 5) scAn.nd rfl (Or.inl rfl) (pe_call GR hr1 rfl mR kR bR .nil pass0 (pa_cons (pv 0) (pa_cons (pv 3) pa_nil))))
            (pss_one (ps_set (i := 3) scAn.nd rfl (Or.inl rfl) (pe_op op_add (pe_op op_add (pv 3) pe_int) (pe_callB call_len_seq (by rfl) TB.len PySem.boot_len (pa_cons (pv 5) pa_nil)))))) pss_nil)
        (pss_cons (ps_if (pt_cmpR op_eq (pv 4) (pgI c0) (nomark _)) (pss_one (ps_set (i := 2) scAn.nd rfl (Or.inl rfl) (pe_make0 MB GB hr2 rfl TB.mb bB .nil pass0))) pss_nil)
        (pss_cons (ps_lock (ps_set (i := 6) scAn.nd rfl (Or.inl rfl) (pe_call GA hr rfl mA kA bA .nil pass0 (pa_cons (pv 2) (pa_cons (pv 4) (pa_cons (pv 5) pa_nil))))))
        (pss_cons (ps_expr (pe_bm PySem.F.plainAttrs_list PySem.F.slot_list_append PySem.F.type_list_append mt_append (pv 1) (pa_cons (pe_callB call_len_seq (by rfl) TB.len PySem.boot_len (pa_cons (pv 6) pa_nil)) pa_nil)))
        (pss_one (ps_expr (pe_bm PySem.F.plainAttrs_list PySem.F.slot_list_extend PySem.F.type_list_extend mt_extend (pv 1) (pa_cons (pv 6) pa_nil))))))))))))
      (pss_one (ps_ret (pv 1)))))), ?_⟩
    have sz : sizeLine = 16777216 := sizeLine_eq
    have lN : (ns.map V.int).length = ns.length := by simp
    refine ⟨Nat.zero_le _, fun lg hlg => ?_⟩
    have s0 : Same H (upd H lg (.lst [])) := Same.upd hlg
    intro b0 db0 hb0 hdb0 neb0
    have s1 := made (o := .own b0) (o' := .ins CB db0 []) hb0 hdb0 neb0
    refine ⟨b0, db0, rfl, upd_same, fun H1 B1 o1 => ⟨rfl, ?_⟩⟩
    have hb0H : H b0 = none := s0.free hb0
    have n1 : New [b0] (upd H lg (.lst [])) := fun x m => by simp at m; subst m; exact hb0
    have s1' : Same (upd H lg (.lst [])) H1 := L2.Same.off s1 o1 n1
    obtain ⟨cs0, W0⟩ := Sm.whole_start hask
    refine ⟨fun mm σ H2 => ∃ (k : Nat) (bk : Addr) (s : Ql66.Abs) (acc : List Int) (cs : List (List (List Int))) (x y z : Option V), mm = ns.length - k ∧ σ = [some (.ref a), some (.ref lg), some (.ref bk), some (.int (k : Nat)), x, y, z] ∧ Same H H2 ∧ H2 lg = some (.lst (iL acc)) ∧ H bk = none ∧ Away CB CF CO lg H2 bk s ∧ Sm.Whole ns k s acc cs ∧ k ≤ ns.length ∧ acc.length ≤ 3 * k,
      ⟨_, 0, b0, none, [], cs0, none, none, none, rfl, rfl, s0.trans s1', s1' _ _ upd_same, hb0H, Away.new B1 (s1' _ _ upd_same), W0, Nat.zero_le _, Nat.zero_le _⟩, ?_⟩
    rintro mm σ H2 ⟨k, bk, s, acc, cs, x, y, z, rfl, rfl, s2, hg2, hbk, B2, W, hk, hacc⟩
    have hS2 := s2.seq hS
    refine ⟨_, rfl, _, rfl, a, _, rfl, .inl hS2, _, _, rfl, rfl, _, rfl, ifD (fun c => ?_) (fun c => ?_)⟩
    · have hlt : k < ns.length := by rw [lN] at c; omega
      refine ⟨_, fun σ' H' q => q, ?_⟩
      obtain ⟨p, row, k', cs', hp, hp6, hB, hrl, hkk, hk', W', hrow⟩ := W.next hlt hL
      refine ⟨_, rfl, _, rfl, a, _, _, _, rfl, rfl, hS2, at_of (j := k) (v := .int p) rfl (by rw [List.getElem?_map, hp]; rfl), ?_⟩
      refine ⟨_, rfl, _, _, rfl, rfl, ?_⟩
      refine ⟨Nat.zero_le _, fun r0 hr0 => ?_⟩
      have s3 := s2.trans (Same.upd (o := .lst []) hr0)
      have alen := Sm.ansOf_len s p row
      -- what stands behind the row
      have rest : ∀ (H5 : Hp) (rw' : Addr), Same H2 H5 → H5 rw' = some (.lst (iL row)) → H rw' = none → rw' ≠ lg →
          tSeq (tIfS (tTest (tOp rEq (tVar 4) (tC (.int 0)))) (tAsg (tMake CB (spBi CB CF CO) [] E0 tNil) (gName 2)) tNext)
            (tSeq (tLock (tAsg (tCall (spAnsOf CB CF CO) [] E0 (tCons (tVar 2) (tCons (tVar 4) (tCons (tVar 5) tNil)))) (gName 6)))
              (tSeq (tDrop (tBM K "list" rAppend (tVar 1) (tCons (tCB (fun xs H Q => ∃ p ys, xs = [V.ref p] ∧ (SqL K H p ys ∨ SqT K H p ys) ∧ Q (V.int ↑ys.length) H) (tCons (tVar 6) tNil)) tNil)))
                (tDrop (tBM K "list" rExtend (tVar 1) (tCons (tVar 6) tNil)))))
            { nx := fun σ' H' => ∃ m', m' < ns.length - k ∧ ∃ (k : Nat) (bk : Addr) (s : Ql66.Abs) (acc : List Int) (cs : List (List (List Int))) (x y z : Option V), m' = ns.length - k ∧ σ' = [some (.ref a), some (.ref lg), some (.ref bk), some (.int (k : Nat)), x, y, z] ∧ Same H H' ∧ H' lg = some (.lst (iL acc)) ∧ H bk = none ∧ Away CB CF CO lg H' bk s ∧ Sm.Whole ns k s acc cs ∧ k ≤ ns.length ∧ acc.length ≤ 3 * k, rt := Q, bk := fun _ _ => False, ct := fun _ _ => False }
            [some (.ref a), some (.ref lg), some (.ref bk), some (.int (k' : Nat)), some (.int p), some (.ref rw'), z] H5 := fun H5 rw' s5 hrw hrwH nrwlg => by
        have sm5 := s2.trans s5
        have hg5 := s5 _ _ hg2
        have fin : ∀ (H6 : Hp) (bk' : Addr) (s' : Ql66.Abs), Same H5 H6 → H bk' = none → Away CB CF CO lg H6 bk' s' → (p = 0 → s' = none) → Sm.ansOf s' p row = Sm.ansOf s p row →
            tSeq (tLock (tAsg (tCall (spAnsOf CB CF CO) [] E0 (tCons (tVar 2) (tCons (tVar 4) (tCons (tVar 5) tNil)))) (gName 6)))
              (tSeq (tDrop (tBM K "list" rAppend (tVar 1) (tCons (tCB (fun xs H Q => ∃ p ys, xs = [V.ref p] ∧ (SqL K H p ys ∨ SqT K H p ys) ∧ Q (V.int ↑ys.length) H) (tCons (tVar 6) tNil)) tNil)))
                (tDrop (tBM K "list" rExtend (tVar 1) (tCons (tVar 6) tNil))))
            { nx := fun σ' H' => ∃ m', m' < ns.length - k ∧ ∃ (k : Nat) (bk : Addr) (s : Ql66.Abs) (acc : List Int) (cs : List (List (List Int))) (x y z : Option V), m' = ns.length - k ∧ σ' = [some (.ref a), some (.ref lg), some (.ref bk), some (.int (k : Nat)), x, y, z] ∧ Same H H' ∧ H' lg = some (.lst (iL acc)) ∧ H bk = none ∧ Away CB CF CO lg H' bk s ∧ Sm.Whole ns k s acc cs ∧ k ≤ ns.length ∧ acc.length ≤ 3 * k, rt := Q, bk := fun _ _ => False, ct := fun _ _ => False }
            [some (.ref a), some (.ref lg), some (.ref bk'), some (.int (k' : Nat)), some (.int p), some (.ref rw'), z] H6 := fun H6 bk' s' s6 hbk' B6 hp0 hans => by
          have hg6 := s6 _ _ hg5
          have hrw6 := s6 _ _ hrw
          refine ⟨lg, _, hg6, trivial, fun od => ?_⟩
          have Bl : BookAt CB CF CO (upd H6 lg (.frz od (.lst (iL acc)))) bk' s' := B6.any _
          have nrw : rw' ≠ lg := nrwlg
          have hrwl : (upd H6 lg (.frz od (.lst (iL acc)))) rw' = some (.lst (iL row)) := by rw [upd_ne nrw]; exact hrw6
          have hgl : (upd H6 lg (.frz od (.lst (iL acc)))) lg = some (.frz od (.lst (iL acc))) := upd_same
          have sml : ∀ z v, H z = some v → (upd H6 lg (.frz od (.lst (iL acc)))) z = some v := fun z v q => by
            rw [upd_ne (fun z' => by subst z'; rw [hlg] at q; cases q)]; exact (sm5.trans s6) _ _ q
          generalize upd H6 lg (.frz od (.lst (iL acc))) = Hl at *
          obtain ⟨dxb, fvb, ovb, hob⟩ := Bl.ob
          refine ⟨_, rfl, _, rfl, _, rfl, bk', rw', p, s', row, rfl, hp6, Bl, hp0, hrwl, hB, hrl, fun l H7 hl7 hl6 B7 o7 => ?_⟩
          rw [hans] at hl7 B7
          have nlb : lg ∉ [bk'] := fun m => by simp at m; subst m; rw [hob] at hgl; cases hgl
          have hg7 := o7 _ _ hgl nlb
          have sm7 : Same H H7 := fun z v q => o7 _ _ (sml z v q) fun m => by simp at m; subst m; rw [hbk'] at q; cases q
          have nlg : l ≠ lg := (ne_of_none hgl hl6).symm
          have Aw := Away.of B7 hg7
          refine ⟨hg7, ?_⟩
          have hl7' : (upd H7 lg (.lst (iL acc))) l = some (.lst (iL (Sm.ansOf s p row).2)) := by rw [upd_ne nlg]; exact hl7
          refine ⟨_, rfl, .inl ⟨rfl, _, SqL.of upd_same⟩, _, rfl, l, _, rfl, .inl (SqL.of hl7'), lg, _, _, rfl, rfl, upd_same, by rw [List.length_map]; omega, ?_⟩
          have hl8 : (upd (upd H7 lg (.lst (iL acc))) lg (.lst (iL acc ++ [.int ((iL (Sm.ansOf s p row).2).length : Nat)]))) l = some (.lst (iL (Sm.ansOf s p row).2)) := by rw [upd_ne nlg]; exact hl7'
          have hans_len : (iL (Sm.ansOf s p row).2).length = (Sm.ansOf s p row).2.length := by simp
          refine ⟨_, rfl, .inl ⟨rfl, _, SqL.of upd_same⟩, _, rfl, lg, l, _, _, rfl, rfl, upd_same, hl8, by simp; omega, ?_⟩
          refine ⟨_, by omega, k', bk', _, _, cs', _, _, _, rfl, rfl, L2.Same.set (L2.Same.set (L2.Same.set sm7 hlg) hlg) hlg, ?_, hbk', Aw.set.set.set, W', hk', by simp; omega⟩
          rw [upd_same, hans_len]
          simp [iL]
        refine ⟨_, rfl, rfl, _, rfl, ifD (fun e => ?_) (fun e => ?_)⟩
        · have e' : p = 0 := int_eq e
          intro b1 db1 hb1 hdb1 neb1
          have t1 := made (o := .own b1) (o' := .ins CB db1 []) hb1 hdb1 neb1
          refine ⟨b1, db1, rfl, upd_same, fun H6 B6 o6 => ⟨rfl, ?_⟩⟩
          have s6 : Same H5 H6 := L2.Same.off t1 o6 fun x m => by simp at m; subst m; exact hb1
          refine fin H6 b1 none s6 (sm5.free hb1) (Away.new B6 (s6 _ _ hg5)) (fun _ => rfl) ?_
          rw [e']; rfl
        · have e' : ¬ p = 0 := fun q => e (by rw [q])
          exact fin H5 bk s (Same.refl _) hbk (B2.same s5) (fun q => absurd q e') rfl
      refine ⟨_, rfl, by show 3 ≤ sizeLine; decide, fun t ht => ⟨t, _, rfl, .inr (.inl (.inl upd_same)), rfl, rfl, _, rfl, ?_⟩⟩
      have s4 := (Same.upd (o := .lst []) hr0).trans (Same.upd (o := .tup [.int 1, .int 4, .int 5]) ht)
      rw [if_neg Bool.false_ne_true, inV_rows]
      refine ifD (fun e => ?_) (fun e => ?_)
      · rw [if_pos e] at hrow
        obtain ⟨n, hn, er, ln, rfl⟩ := hrow
        refine ⟨_, rfl, _, rfl, a, ns, k + 1, n, rfl, (s2.trans s4).seq hS, hn, fun l H5 hl5 hl4 s5 => ?_⟩
        have s45 := s4.trans s5
        rw [← er] at hl5
        have lrow : (iL row).length = n := by simp [ln]
        refine ⟨_, rfl, _, _, rfl, rfl, _, rfl, l, _, rfl, .inl (SqL.of hl5), _, _, rfl, rfl, ?_⟩
        have := rest H5 l s45 hl5 ((s2.trans s4).free hl4) ((ne_of_none (s4 _ _ hg2) hl4).symm)
        have ek : ((k : Int) + 1 + 1 + ((iL row).length : Nat)) = ((k + 2 + n : Nat) : Int) := by rw [lrow]; omega
        rw [← ek] at this
        exact this
      · rw [if_neg e] at hrow
        obtain ⟨er, rfl⟩ := hrow
        have hr4 := (Same.upd (o := .tup [.int 1, .int 4, .int 5]) ht) r0 (.lst []) upd_same
        have := rest _ r0 s4 (by rw [er]; exact hr4) (s2.free hr0) ((ne_of_none hg2 hr0).symm)
        exact this
    · have hge : ns.length ≤ k := by rw [lN] at c; omega
      have := W.done hge
      refine ⟨_, rfl, kk lg H2 ?_⟩
      rw [this]; exact hg2
end
structure DefsF (K : PySem.W.Frag) (mg : Str → Option Value) (CF : Addr) : Prop where
  init : InitOf K CF "Formula.__init__" sFormula ["self"]
  kind : MethOf K CF "kind_of" "Formula.kind_of" sKindOf ["self", "variable"]
  read : DefOf K mg "read_formula" sReadF ["text"]
structure DefsP (K : PySem.W.Frag) (mg : Str → Option Value) : Prop where
  check : DefOf K mg "check_proof" sCheck ["formula", "text"]
  step : DefOf K mg "take_step" sStep ["reader", "formula", "clauses"]
  named : DefOf K mg "take_named" sNamed ["reader", "clauses"]
  differ : DefOf K mg "differ_in" sDiffer ["variable", "one", "other"]
  put : DefOf K mg "put_together" sPut ["variable", "one", "other"]
  kept : DefOf K mg "without_last_alls" sKept ["formula", "clause"]
structure DefsT (K : PySem.W.Frag) (mg : Str → Option Value) (CO : Addr) : Prop where
  init : InitOf K CO "Outcomes.__init__" sOutInit ["self", "formula"]
  isTrue : MethOf K CO "is_true_of" "Outcomes.is_true_of" sIsTrue ["self", "values"]
  count : MethOf K CO "count_true" "Outcomes.count_true" sCount ["self", "how_many"]
  place : DefOf K mg "place_of" sPlace ["values"]
  levels : DefOf K mg "failing_levels" sLevels ["formula"]
  masks : DefOf K mg "field_masks" sMasks []
  ones : DefOf K mg "count_ones" sOnes ["row", "masks"]
  either : DefOf K mg "failing_either_way" sEither ["kind", "with_zero", "with_one"]
  rows : DefOf K mg "failing_rows" sRows ["formula"]
  byLate : DefOf K mg "failing_by_late" sByLate ["formula"]
  hold : DefOf K mg "holding_values" sHolding ["clause", "variables"]
  row : DefOf K mg "failing_row" sRow ["holding"]
  places : DefOf K mg "failing_places" sPlaces ["holding"]
structure DefsB (K : PySem.W.Frag) (mg : Str → Option Value) (CB : Addr) : Prop where
  init : InitOf K CB "Book.__init__" sBookI ["self"]
  readT : MethOf K CB "read_text" "Book.read_text" sReadT ["self", "text"]
  find : MethOf K CB "find_outcomes" "Book.find_outcomes" sFind ["self"]
  tell : MethOf K CB "tell_truth" "Book.tell_truth" sTell ["self"]
  ways : MethOf K CB "count_ways" "Book.count_ways" sWays ["self"]
  play : MethOf K CB "play_next" "Book.play_next" sPlay ["self", "values"]
  follow : MethOf K CB "follow_proof" "Book.follow_proof" sFollow ["self", "text"]
  rowAt : DefOf K mg "row_at" sRowAt ["calls", "at"]
  answerOf : DefOf K mg "answer_of" sAnswerOf ["book", "call", "row"]
theorem all_ok {P : Program} {w : World} {K : PySem.W.Frag} {mg : Str → Option Value} {base : Heap} {CW fW CR CF CO CB : Addr} {fdW : FuncData} (T : TxtR K mg CW fW CR fdW) (TF : TxtF K mg CF) (TP : TxtP K mg) (TT : TxtT K mg CO) (TB : TxtB K mg CB)
    (DW : DefsW K mg CR) (DF : DefsF K mg CF) (DP : DefsP K mg) (DT : DefsT K mg CO) (DB : DefsB K mg CB) {f : Addr} {fd : FuncData} (F : Fun K "answers" "answers" sAnswers f fd) : FnOk P w K mg base CX0 10 f fd ["calls"] (spAns K) := by
  have kind : PrM P w K mg base CX0 1 CF "kind_of" ["self", "variable"] (spKind CF) := ok_kind DF.kind TF
  have readF : Pr P w K mg base (CXx P w) 6 "read_formula" ["text"] (spReadF K CW CF) := ok_readF T TF DW DF.init DF.read
  have num : PrM P w K mg base (CXx P w) 3 CR "take_number" ["self", "least", "most"] (spNum CR CW) := pr_num T DW
  have named : Pr P w K mg base (CXx P w) 4 "take_named" ["reader", "clauses"] (spNamed CR CW) := ok_named DP.named T num
  have differ : Pr P w K mg base CX0 1 "differ_in" ["variable", "one", "other"] spDiffer := ok_differ DP.differ TP
  have put : Pr P w K mg base CX0 1 "put_together" ["variable", "one", "other"] spPut := ok_put DP.put TP
  have kept : Pr P w K mg base CX0 2 "without_last_alls" ["formula", "clause"] (spKept CF) := ok_kept DP.kept TP TF kind
  have step : Pr P w K mg base (CXx P w) 6 "take_step" ["reader", "formula", "clauses"] (spStep CR CW CF) := ok_step DP.step T TP TF (pr_one T DW) num named kind differ put kept
  have check : Pr P w K mg base (CXx P w) 7 "check_proof" ["formula", "text"] (spCheck K CW CF) := ok_check DP.check T TP TF (pr_reader T DW) step
  have place : Pr P w K mg base CX0 1 "place_of" ["values"] (spPlace K) := ok_place DT.place TT
  have either : Pr P w K mg base CX0 1 "failing_either_way" ["kind", "with_zero", "with_one"] spEither := ok_either DT.either TT
  have row : Pr P w K mg base CX0 1 "failing_row" ["holding"] (spRow K) := ok_row DT.row TT
  have places : Pr P w K mg base CX0 1 "failing_places" ["holding"] (spPlaces K) := ok_places DT.places TT
  have hold : Pr P w K mg base CX0 1 "holding_values" ["clause", "variables"] (spHold K) := ok_hold DT.hold TT
  have byLate : Pr P w K mg base CX0 2 "failing_by_late" ["formula"] (spByLate CF) := ok_byLate DT.byLate TT TF hold row
  have rows : Pr P w K mg base CX0 3 "failing_rows" ["formula"] (spRows CF) := ok_rows DT.rows TT TF byLate places
  have levels : Pr P w K mg base CX0 4 "failing_levels" ["formula"] (spLevels CF) := ok_levels DT.levels TT TF rows either
  have out : PrC P w K mg base CX0 5 CO ["self", "formula"] (spOut CO CF) := ok_out DT.init TT levels
  have isTrue : PrM P w K mg base CX0 2 CO "is_true_of" ["self", "values"] (spIsTrue K CO) := ok_isTrue DT.isTrue TT place
  have count : PrM P w K mg base CX0 2 CO "count_true" ["self", "how_many"] (spCount CO) := ok_count DT.count TT (ok_masks DT.masks TT) (ok_ones DT.ones TT)
  have find : PrM P w K mg base CX0 7 CB "find_outcomes" ["self"] (spFind CB CF CO) := ok_find DB.find TB TT out
  have readT : PrM P w K mg base CX0 7 CB "read_text" ["self", "text"] (spReadT CB CF CO K) := ok_readT DB.readT T TB readF
  have tell : PrM P w K mg base CX0 8 CB "tell_truth" ["self"] (spTell CB CF CO) := ok_tell DB.tell TB TT find isTrue
  have ways : PrM P w K mg base CX0 8 CB "count_ways" ["self"] (spWays CB CF CO) := ok_ways DB.ways TB TT TF find count
  have play : PrM P w K mg base CX0 8 CB "play_next" ["self", "values"] (spPlay CB CF CO) := ok_play DB.play TB TT TF find isTrue
  have follow : PrM P w K mg base CX0 8 CB "follow_proof" ["self", "text"] (spFollow CB CF CO K) := ok_follow DB.follow T TB check
  have answerOf : Pr P w K mg base CX0 9 "answer_of" ["book", "call", "row"] (spAnsOf CB CF CO) := ok_answerOf DB.answerOf TB readT tell ways play follow
  exact ok_answers F TB (ok_bookI DB.init TB) (ok_rowAt DB.rowAt) answerOf
section
variable {K : PySem.W.Frag} {mg : Str → Option Value} {h : Heap}
theorem def_mk {name : Str} {st : Stmt} {ps : List Str} {f : Addr} {oc : Value} {od an : Option Addr} {osl : Array (Option Value)} {kV doc pm cdv ct : Value} (X : K.In h) (G : h.Ns mainGlobals mg) (a : PySem.W.nsIn K mainGlobals name = some (some (.ref f)))
    (l : K.lookup f = some ⟨oc, od, .func (PySem.W.fnOf name name (defArgs st) (defBody st) (defScope st) .none kV doc pm an cdv ct), osl⟩) (c : PySem.W.codeIn K cdv name = true) (k : PySem.W.keepIn K (.ref f) = true)
    (b : ∀ (kV doc pm : Value) (an : Option Addr) (cdv ct : Value) (us : List Value), us.length = ps.length → bindArgs (PySem.W.fnOf name name (defArgs st) (defBody st) (defScope st) .none kV doc pm an cdv ct) ⟨us, []⟩ = pure (ps.zip us)) : DefOf K mg name st ps :=
  ⟨f, _, fun_mk l c k, (fun_mk l c k).binds b, PySem.W.mg_of X G a⟩
theorem meth_mk {C : Addr} {name qual : Str} {st : Stmt} {ps : List Str} {f : Addr} {oc : Value} {od an : Option Addr} {osl : Array (Option Value)} {kV doc pm cdv ct : Value} (a : PySem.W.findIn K (.ref C) name = some (some (.ref f))) (i : PySem.W.isFn K (.ref f) = true)
    (l : K.lookup f = some ⟨oc, od, .func (PySem.W.fnOf name qual (defArgs st) (defBody st) (defScope st) .none kV doc pm an cdv ct), osl⟩) (c : PySem.W.codeIn K cdv qual = true) (k : PySem.W.keepIn K (.ref f) = true)
    (b : ∀ (kV doc pm : Value) (an : Option Addr) (cdv ct : Value) (us : List Value), us.length = ps.length → bindArgs (PySem.W.fnOf name qual (defArgs st) (defBody st) (defScope st) .none kV doc pm an cdv ct) ⟨us, []⟩ = pure (ps.zip us)) : MethOf K C name qual st ps :=
  ⟨f, _, fun_mk l c k, (fun_mk l c k).binds b, ⟨a, i, k⟩⟩
theorem init_mk {C : Addr} {qual : Str} {st : Stmt} {ps : List Str} {f : Addr} {oc : Value} {od an : Option Addr} {osl : Array (Option Value)} {kV doc pm cdv ct : Value} (a : PySem.W.findIn K (.ref C) "__init__" = some (some (.ref f))) (i : PySem.W.isFn K (.ref f) = true)
    (l : K.lookup f = some ⟨oc, od, .func (PySem.W.fnOf "__init__" qual (defArgs st) (defBody st) (defScope st) .none kV doc pm an cdv ct), osl⟩) (c : PySem.W.codeIn K cdv qual = true) (k : PySem.W.keepIn K (.ref f) = true) (mk : PySem.W.makesIn K C = true) (kc : PySem.W.keepIn K (.ref C) = true)
    (b : ∀ (kV doc pm : Value) (an : Option Addr) (cdv ct : Value) (us : List Value), us.length = ps.length → bindArgs (PySem.W.fnOf "__init__" qual (defArgs st) (defBody st) (defScope st) .none kV doc pm an cdv ct) ⟨us, []⟩ = pure (ps.zip us)) : InitOf K C qual st ps :=
  ⟨f, _, fun_mk l c k, (fun_mk l c k).binds b, ⟨mk, a, i, kc⟩⟩
theorem cls_mk {C : Addr} (pg : PySem.W.plainGet K C Str.empty = true) (hd : PySem.W.hasDictIn K C = true) (po : PySem.W.plainOver K C = true) (sa : PySem.W.findIn K (.ref C) "__setattr__" = some (some (.builtin "object.__setattr__"))) : Cls K C := ⟨pg, hd, po, sa⟩
theorem mg_none {x : Str} (X : K.In h) (G : h.Ns mainGlobals mg) (a : PySem.W.nsIn K mainGlobals x = some none) : mg x = none := PySem.W.mg_none_of X G a
theorem mg_int {x : Str} {i : Int} {t : Tok} (X : K.In h) (G : h.Ns mainGlobals mg) (a : PySem.W.nsIn K mainGlobals x = some (some (.int i t))) : ∃ t, mg x = some (.int i t) := ⟨t, PySem.W.mg_of X G a⟩
theorem mg_str {x z : Str} {t : Tok} (X : K.In h) (G : h.Ns mainGlobals mg) (a : PySem.W.nsIn K mainGlobals x = some (some (.str z t))) : ∃ t, mg x = some (.str z t) := ⟨t, PySem.W.mg_of X G a⟩
theorem gaps_mk {g : Addr} {og : Value} {dg : Option Addr} {ig : Array Value} {ng : Nat} {sg : Array (Option Value)} (X : K.In h) (G : h.Ns mainGlobals mg) (g1 : PySem.W.nsIn K mainGlobals "GAPS" = some (some (.ref g))) (g2 : K.lookup g = some ⟨og, dg, .seq ig ng, sg⟩) (g3 : og = .type "tuple") (g4 : dg = none)
    (g5 : ∃ t1 t2 t3 t4, ig.toList = [.int 32 t1, .int 9 t2, .int 10 t3, .int 13 t4]) : ∃ g, mg "GAPS" = some (.ref g) ∧ ∀ H : Hp, SqT K H g [.int 32, .int 9, .int 10, .int 13] := by
  obtain ⟨t1, t2, t3, t4, e⟩ := g5
  refine ⟨g, PySem.W.mg_of X G g1, fun H => .inr ⟨_, ig, ng, g2, g3, rfl, ?_, ?_⟩⟩
  · rw [← Array.length_toList, e]; show 4 ≤ sizeLine; decide
  · rw [e]; exact .cons ⟨_, rfl⟩ (.cons ⟨_, rfl⟩ (.cons ⟨_, rfl⟩ (.cons ⟨_, rfl⟩ .nil)))
theorem wrong_mk {C f N : Addr} {nm q : Str} {bs : List Value} {sn : List Str} {sub : List Value} {ab : Bool} {col : Option Bool} {dd : Option Addr} {k0 k1 k2 k3 k5 : Option Value} {c : Value} {d : Option Addr} {es : Array DictEntry} {ep : Nat} {sl : Array (Option Value)}
    {oc : Value} {od an : Option Addr} {osl : Array (Option Value)} {kV doc pm cdv ct : Value} (X : K.In h) (G : h.Ns mainGlobals mg)
    (a1 : PySem.W.nsIn K mainGlobals "WrongWord" = some (some (.ref C))) (l1 : K.lookup C = some (excClassObj nm q C N bs L2.bmV true sn sub ab col dd k0 k1 k2 k3 k5 "ValueError.__new__")) (l2 : K.lookup N = some ⟨c, d, .dict es ep, sl⟩) (sk : L2.strKeys es = true)
    (i1 : PySem.W.nsIn K N "__init__" = some (some (.ref f))) (i2 : PySem.W.nsIn K N "__getattribute__" = some none) (i3 : PySem.W.nsIn K N "__getattr__" = some none) (i4 : PySem.W.nsIn K N "__setattr__" = some none) (i5 : PySem.W.nsIn K N "number" = some none)
    (fn : PySem.W.isFn K (.ref f) = true) (kp : PySem.W.keepIn K (.ref C) = true)
    (l : K.lookup f = some ⟨oc, od, .func (PySem.W.fnOf "__init__" "WrongWord.__init__" (defArgs sWrong) (defBody sWrong) (defScope sWrong) .none kV doc pm an cdv ct), osl⟩) (cc : PySem.W.codeIn K cdv "WrongWord.__init__" = true) (kf : PySem.W.keepIn K (.ref f) = true) :
    ∃ CW fW fdW, XCls K CW fW "number" ∧ Fun K "__init__" "WrongWord.__init__" sWrong fW fdW ∧ Binds K fdW ["self", "number"] [] ∧ mg "WrongWord" = some (.ref CW) :=
  ⟨C, f, _, L2.xcls_mk l1 l2 sk i1 i2 i3 i4 i5 fn kp (by rw [typeLookup_type, builtinLookup_eq_fast]; kernel_rfl), fun_mk l cc kf, (fun_mk l cc kf).binds fun _ _ _ _ _ _ us hl => match us, hl with | [_, _], _ => rfl, PySem.W.mg_of X G a1⟩
theorem reader_mk {CR : Addr} (X : K.In h) (G : h.Ns mainGlobals mg) (a : PySem.W.nsIn K mainGlobals "Reader" = some (some (.ref CR))) (cl : Cls K CR) (nw : NoAttr K CR "words") (nt : NoAttr K CR "taken") (ae : MethOf K CR "is_at_end" "Reader.is_at_end" sAtEnd ["self"])
    (init : InitOf K CR "Reader.__init__" sReader ["self", "text"]) (coming : MethOf K CR "coming" "Reader.coming" sComing ["self"]) (one : MethOf K CR "take_one_of" "Reader.take_one_of" sOneOf ["self", "choices"]) (num : MethOf K CR "take_number" "Reader.take_number" sNumber ["self", "least", "most"])
    (lit : MethOf K CR "take_literal" "Reader.take_literal" sLiteral ["self", "most"]) (en : MethOf K CR "take_end" "Reader.take_end" sEnd ["self"]) :
    ∃ CR, mg "Reader" = some (.ref CR) ∧ Cls K CR ∧ NoAttr K CR "words" ∧ NoAttr K CR "taken" ∧ MethOf K CR "is_at_end" "Reader.is_at_end" sAtEnd ["self"] ∧ InitOf K CR "Reader.__init__" sReader ["self", "text"] ∧ MethOf K CR "coming" "Reader.coming" sComing ["self"] ∧ MethOf K CR "take_one_of" "Reader.take_one_of" sOneOf ["self", "choices"] ∧
      MethOf K CR "take_number" "Reader.take_number" sNumber ["self", "least", "most"] ∧ MethOf K CR "take_literal" "Reader.take_literal" sLiteral ["self", "most"] ∧ MethOf K CR "take_end" "Reader.take_end" sEnd ["self"] :=
  ⟨CR, PySem.W.mg_of X G a, cl, nw, nt, ae, init, coming, one, num, lit, en⟩
theorem formula_mk {CF : Addr} (X : K.In h) (G : h.Ns mainGlobals mg) (a : PySem.W.nsIn K mainGlobals "Formula" = some (some (.ref CF))) (cl : Cls K CF) (nv : NoAttr K CF "variables") (nk : NoAttr K CF "kinds") (nc : NoAttr K CF "clauses") (nb : NoAttr K CF "first_block")
    (init : InitOf K CF "Formula.__init__" sFormula ["self"]) (kind : MethOf K CF "kind_of" "Formula.kind_of" sKindOf ["self", "variable"]) :
    ∃ CF, mg "Formula" = some (.ref CF) ∧ Cls K CF ∧ NoAttr K CF "variables" ∧ NoAttr K CF "kinds" ∧ NoAttr K CF "clauses" ∧ NoAttr K CF "first_block" ∧ InitOf K CF "Formula.__init__" sFormula ["self"] ∧ MethOf K CF "kind_of" "Formula.kind_of" sKindOf ["self", "variable"] :=
  ⟨CF, PySem.W.mg_of X G a, cl, nv, nk, nc, nb, init, kind⟩
theorem outcomes_mk {CO : Addr} (X : K.In h) (G : h.Ns mainGlobals mg) (a : PySem.W.nsIn K mainGlobals "Outcomes" = some (some (.ref CO))) (cl : Cls K CO) (nl : NoAttr K CO "levels")
    (init : InitOf K CO "Outcomes.__init__" sOutInit ["self", "formula"]) (isT : MethOf K CO "is_true_of" "Outcomes.is_true_of" sIsTrue ["self", "values"]) (count : MethOf K CO "count_true" "Outcomes.count_true" sCount ["self", "how_many"]) :
    ∃ CO, mg "Outcomes" = some (.ref CO) ∧ Cls K CO ∧ NoAttr K CO "levels" ∧ InitOf K CO "Outcomes.__init__" sOutInit ["self", "formula"] ∧ MethOf K CO "is_true_of" "Outcomes.is_true_of" sIsTrue ["self", "values"] ∧ MethOf K CO "count_true" "Outcomes.count_true" sCount ["self", "how_many"] :=
  ⟨CO, PySem.W.mg_of X G a, cl, nl, init, isT, count⟩
theorem book_mk {CB : Addr} (X : K.In h) (G : h.Ns mainGlobals mg) (a : PySem.W.nsIn K mainGlobals "Book" = some (some (.ref CB))) (cl : Cls K CB) (nf : NoAttr K CB "formula") (no : NoAttr K CB "outcomes")
    (init : InitOf K CB "Book.__init__" sBookI ["self"]) (readT : MethOf K CB "read_text" "Book.read_text" sReadT ["self", "text"]) (find : MethOf K CB "find_outcomes" "Book.find_outcomes" sFind ["self"]) (tell : MethOf K CB "tell_truth" "Book.tell_truth" sTell ["self"])
    (ways : MethOf K CB "count_ways" "Book.count_ways" sWays ["self"]) (play : MethOf K CB "play_next" "Book.play_next" sPlay ["self", "values"]) (follow : MethOf K CB "follow_proof" "Book.follow_proof" sFollow ["self", "text"]) :
    ∃ CB, mg "Book" = some (.ref CB) ∧ Cls K CB ∧ NoAttr K CB "formula" ∧ NoAttr K CB "outcomes" ∧ InitOf K CB "Book.__init__" sBookI ["self"] ∧ MethOf K CB "read_text" "Book.read_text" sReadT ["self", "text"] ∧ MethOf K CB "find_outcomes" "Book.find_outcomes" sFind ["self"] ∧ MethOf K CB "tell_truth" "Book.tell_truth" sTell ["self"] ∧
      MethOf K CB "count_ways" "Book.count_ways" sWays ["self"] ∧ MethOf K CB "play_next" "Book.play_next" sPlay ["self", "values"] ∧ MethOf K CB "follow_proof" "Book.follow_proof" sFollow ["self", "text"] :=
  ⟨CB, PySem.W.mg_of X G a, cl, nf, no, init, readT, find, tell, ways, play, follow⟩
end
theorem fin_mk {K : PySem.W.Frag} {mg : Str → Option Value} {h : Heap} {w : World} {fa CW fW CR CF CO CB : Addr} {fdW : FuncData} (X : K.In h) (G : h.Ns mainGlobals mg) (hmg : mg "answers" = some (.ref fa)) (T : TxtR K mg CW fW CR fdW) (TF : TxtF K mg CF) (TP : TxtP K mg) (TT : TxtT K mg CO) (TB : TxtB K mg CB)
    (DW : DefsW K mg CR) (DF : DefsF K mg CF) (DP : DefsP K mg) (DT : DefsT K mg CO) (DB : DefsB K mg CB) (DA : DefOf K mg "answers" sAnswers ["calls"]) :
    ∃ fd : FuncData, (∀ (s : Shared) (u : Value), BindsTo s fd ⟨[u], []⟩ [("calls", u)]) ∧ ∀ base : Heap, K.In base → base.Ns mainGlobals mg → FnOk row.prog w K mg base CX0 10 fa fd ["calls"] (spAns K) := by
  obtain ⟨f, fd, F, _, m⟩ := DA
  rw [hmg] at m
  cases m
  refine ⟨fd, ?_, fun base _ _ => all_ok T TF TP TT TB DW DF DP DT DB F⟩
  obtain ⟨oc, od, kV, doc, pm, an, cdv, ct, osl, rfl, lk, hcd⟩ := F.ex
  exact fun s u => .of_eq rfl
def KOf {K : PySem.W.Frag} {h : Heap} (_ : K.In h) : PySem.W.Frag := K
end Sa
open PySem PySem.W PyProof.Rows
namespace PySem.W.Fast
def tw847200109171732289 := ()
def tw169920041828586662 := ()
def tw3703164325867053160 := ()
def tw12084511715569751146 := ()
def tw10463506778978934892 := ()
def tw8508872094094183118 := ()
def tw2717096305482475342 := ()
def tw1547673635933726833 := ()
def tw7592173887640760117 := ()
def tw13721351882635970358 := ()
def tw167320254171275639 := ()
def tw2053558953561182873 := ()
def tw4046695134347700732 := ()
def tw421669944146899740 := ()
def tw5407464923017877896 := ()
def tw895685597100742101 := ()
def tw5656759884252287982 := ()
def tw12401507683347513651 := ()
def tw11202767899553786070 := ()
def tw878758904669923232 := ()
def tw7840069015057174264 := ()
def tw14226392147332020743 := ()
def tw9940491581023343709 := ()
def tw3406335300833756437 := ()
def tw210333734660000257 := ()
def tw5328447970264736090 := ()
def tw10479342133940564699 := ()
def tw13268705695566615659 := ()
def tw10118468783376835284 := ()
def tw97890529547641216 := ()
def tw12130475688157820280 := ()
def tw4351253998223398900 := ()
def tw8369775737667924423 := ()
def tw12370041613918867479 := ()
def tw16535444329073560738 := ()
def tw6498033031990431710 := ()
def tw2678816452564829841 := ()
def tw16925586439560364696 := ()
def tw14647664353562906456 := ()
def tw9244089356087120357 := ()
def tw6817389590448005846 := ()
def tw9140692963305109617 := ()
def tw4748669428200047692 := ()
end PySem.W.Fast
set_option maxRecDepth 100000 in
set_option maxHeartbeats 0 in
theorem PySem.Challenge.cw_someall_s01_answers_holds : PySem.Challenge.rw_someall_s01_answers.Holds := by
  w_on; k_headS; (case hw => exact ⟨[.list [.int 0]], by decide +kernel, by decide +kernel⟩)
  k_fillS
  refine Sa.walk (k := 10) (CX := fun _ => L2.CX0) rfl ⟨rfl, by decide, by decide⟩ (fun w h Y => PySem.W.kIn_of Y) ?F ?C
  case C => exact fun _ _ _ _ _ z => z
  case F =>
    intro w mg fa h KX G hmg
    have hW : ∃ CW fW fdW, L2.XCls (Sa.KOf KX) CW fW "number" ∧ L2.Fun (Sa.KOf KX) "__init__" "WrongWord.__init__" Sa.sWrong fW fdW ∧ L2.Binds (Sa.KOf KX) fdW ["self", "number"] [] ∧ mg "WrongWord" = some (.ref CW) := by
      dsimp only [Sa.KOf]; refine' Sa.wrong_mk KX G ?a1 ?l1 ?l2 ?sk ?i1 ?i2 ?i3 ?i4 ?i5 ?fn ?kp ?l ?cc ?kf
      (case a1 => k_is)
      (case l1 => k_is)
      (case l2 => k_is)
      (case sk => first | k_is | rfl | decide +kernel)
      (case i1 => k_is)
      (case i2 => k_is)
      (case i3 => k_is)
      (case i4 => k_is)
      (case i5 => k_is)
      (case fn => k_is)
      (case kp => k_is)
      (case l => k_is)
      (case cc => k_is)
      (case kf => k_is)
    obtain ⟨CW, fW, fdW, wx, wf, wb, wm⟩ := hW
    have hR : ∃ CR, mg "Reader" = some (.ref CR) ∧ L2.Cls (Sa.KOf KX) CR ∧ L2.NoAttr (Sa.KOf KX) CR "words" ∧ L2.NoAttr (Sa.KOf KX) CR "taken" ∧ Sa.MethOf (Sa.KOf KX) CR "is_at_end" "Reader.is_at_end" Sa.sAtEnd ["self"] ∧ Sa.InitOf (Sa.KOf KX) CR "Reader.__init__" Sa.sReader ["self", "text"] ∧ Sa.MethOf (Sa.KOf KX) CR "coming" "Reader.coming" Sa.sComing ["self"] ∧ Sa.MethOf (Sa.KOf KX) CR "take_one_of" "Reader.take_one_of" Sa.sOneOf ["self", "choices"] ∧ Sa.MethOf (Sa.KOf KX) CR "take_number" "Reader.take_number" Sa.sNumber ["self", "least", "most"] ∧ Sa.MethOf (Sa.KOf KX) CR "take_literal" "Reader.take_literal" Sa.sLiteral ["self", "most"] ∧ Sa.MethOf (Sa.KOf KX) CR "take_end" "Reader.take_end" Sa.sEnd ["self"] := by
      dsimp only [Sa.KOf]; refine' Sa.reader_mk KX G ?a0 ?cl ?nw ?nt ?ae ?ini ?com ?one ?num ?lit ?en
      (case a0 => k_is)
      (case cl => (refine' Sa.cls_mk ?pg ?hd ?po ?sa; (case pg => k_is); (case hd => k_is); (case po => k_is); (case sa => k_is)))
      (case nw => (unfold L2.NoAttr; k_is))
      (case nt => (unfold L2.NoAttr; k_is))
      (case ae => (refine' Sa.meth_mk ?a ?i ?l ?c ?k ?b; (case a => k_is); (case i => k_is); (case l => k_is); (case c => k_is); (case k => k_is); (case b => exact fun _ _ _ _ _ _ us hl => match us, hl with | [_], _ => rfl)))
      (case ini => (refine' Sa.init_mk ?a ?i ?l ?c ?k ?mk ?kc ?b; (case a => k_is); (case i => k_is); (case l => k_is); (case c => k_is); (case k => k_is); (case mk => k_is); (case kc => k_is); (case b => exact fun _ _ _ _ _ _ us hl => match us, hl with | [_, _], _ => rfl)))
      (case com => (refine' Sa.meth_mk ?a ?i ?l ?c ?k ?b; (case a => k_is); (case i => k_is); (case l => k_is); (case c => k_is); (case k => k_is); (case b => exact fun _ _ _ _ _ _ us hl => match us, hl with | [_], _ => rfl)))
      (case one => (refine' Sa.meth_mk ?a ?i ?l ?c ?k ?b; (case a => k_is); (case i => k_is); (case l => k_is); (case c => k_is); (case k => k_is); (case b => exact fun _ _ _ _ _ _ us hl => match us, hl with | [_, _], _ => rfl)))
      (case num => (refine' Sa.meth_mk ?a ?i ?l ?c ?k ?b; (case a => k_is); (case i => k_is); (case l => k_is); (case c => k_is); (case k => k_is); (case b => exact fun _ _ _ _ _ _ us hl => match us, hl with | [_, _, _], _ => rfl)))
      (case lit => (refine' Sa.meth_mk ?a ?i ?l ?c ?k ?b; (case a => k_is); (case i => k_is); (case l => k_is); (case c => k_is); (case k => k_is); (case b => exact fun _ _ _ _ _ _ us hl => match us, hl with | [_, _], _ => rfl)))
      (case en => (refine' Sa.meth_mk ?a ?i ?l ?c ?k ?b; (case a => k_is); (case i => k_is); (case l => k_is); (case c => k_is); (case k => k_is); (case b => exact fun _ _ _ _ _ _ us hl => match us, hl with | [_], _ => rfl)))
    obtain ⟨CR, rm, rcl, rnw, rnt, rae, rini, rcom, rone, rnum, rlit, ren⟩ := hR
    have hF : ∃ CF, mg "Formula" = some (.ref CF) ∧ L2.Cls (Sa.KOf KX) CF ∧ L2.NoAttr (Sa.KOf KX) CF "variables" ∧ L2.NoAttr (Sa.KOf KX) CF "kinds" ∧ L2.NoAttr (Sa.KOf KX) CF "clauses" ∧ L2.NoAttr (Sa.KOf KX) CF "first_block" ∧ Sa.InitOf (Sa.KOf KX) CF "Formula.__init__" Sa.sFormula ["self"] ∧ Sa.MethOf (Sa.KOf KX) CF "kind_of" "Formula.kind_of" Sa.sKindOf ["self", "variable"] := by
      dsimp only [Sa.KOf]; refine' Sa.formula_mk KX G ?a0 ?cl ?nv ?nk ?nc ?nb ?ini ?kin
      (case a0 => k_is)
      (case cl => (refine' Sa.cls_mk ?pg ?hd ?po ?sa; (case pg => k_is); (case hd => k_is); (case po => k_is); (case sa => k_is)))
      (case nv => (unfold L2.NoAttr; k_is))
      (case nk => (unfold L2.NoAttr; k_is))
      (case nc => (unfold L2.NoAttr; k_is))
      (case nb => (unfold L2.NoAttr; k_is))
      (case ini => (refine' Sa.init_mk ?a ?i ?l ?c ?k ?mk ?kc ?b; (case a => k_is); (case i => k_is); (case l => k_is); (case c => k_is); (case k => k_is); (case mk => k_is); (case kc => k_is); (case b => exact fun _ _ _ _ _ _ us hl => match us, hl with | [_], _ => rfl)))
      (case kin => (refine' Sa.meth_mk ?a ?i ?l ?c ?k ?b; (case a => k_is); (case i => k_is); (case l => k_is); (case c => k_is); (case k => k_is); (case b => exact fun _ _ _ _ _ _ us hl => match us, hl with | [_, _], _ => rfl)))
    obtain ⟨CF, fm, fcl, fnv, fnk, fnc, fnb, fini, fkin⟩ := hF
    have hO : ∃ CO, mg "Outcomes" = some (.ref CO) ∧ L2.Cls (Sa.KOf KX) CO ∧ L2.NoAttr (Sa.KOf KX) CO "levels" ∧ Sa.InitOf (Sa.KOf KX) CO "Outcomes.__init__" Sa.sOutInit ["self", "formula"] ∧ Sa.MethOf (Sa.KOf KX) CO "is_true_of" "Outcomes.is_true_of" Sa.sIsTrue ["self", "values"] ∧ Sa.MethOf (Sa.KOf KX) CO "count_true" "Outcomes.count_true" Sa.sCount ["self", "how_many"] := by
      dsimp only [Sa.KOf]; refine' Sa.outcomes_mk KX G ?a0 ?cl ?nl ?ini ?ist ?cou
      (case a0 => k_is)
      (case cl => (refine' Sa.cls_mk ?pg ?hd ?po ?sa; (case pg => k_is); (case hd => k_is); (case po => k_is); (case sa => k_is)))
      (case nl => (unfold L2.NoAttr; k_is))
      (case ini => (refine' Sa.init_mk ?a ?i ?l ?c ?k ?mk ?kc ?b; (case a => k_is); (case i => k_is); (case l => k_is); (case c => k_is); (case k => k_is); (case mk => k_is); (case kc => k_is); (case b => exact fun _ _ _ _ _ _ us hl => match us, hl with | [_, _], _ => rfl)))
      (case ist => (refine' Sa.meth_mk ?a ?i ?l ?c ?k ?b; (case a => k_is); (case i => k_is); (case l => k_is); (case c => k_is); (case k => k_is); (case b => exact fun _ _ _ _ _ _ us hl => match us, hl with | [_, _], _ => rfl)))
      (case cou => (refine' Sa.meth_mk ?a ?i ?l ?c ?k ?b; (case a => k_is); (case i => k_is); (case l => k_is); (case c => k_is); (case k => k_is); (case b => exact fun _ _ _ _ _ _ us hl => match us, hl with | [_, _], _ => rfl)))
    obtain ⟨CO, om, ocl, onl, oini, oist, ocou⟩ := hO
    have hB : ∃ CB, mg "Book" = some (.ref CB) ∧ L2.Cls (Sa.KOf KX) CB ∧ L2.NoAttr (Sa.KOf KX) CB "formula" ∧ L2.NoAttr (Sa.KOf KX) CB "outcomes" ∧ Sa.InitOf (Sa.KOf KX) CB "Book.__init__" Sa.sBookI ["self"] ∧ Sa.MethOf (Sa.KOf KX) CB "read_text" "Book.read_text" Sa.sReadT ["self", "text"] ∧ Sa.MethOf (Sa.KOf KX) CB "find_outcomes" "Book.find_outcomes" Sa.sFind ["self"] ∧ Sa.MethOf (Sa.KOf KX) CB "tell_truth" "Book.tell_truth" Sa.sTell ["self"] ∧ Sa.MethOf (Sa.KOf KX) CB "count_ways" "Book.count_ways" Sa.sWays ["self"] ∧ Sa.MethOf (Sa.KOf KX) CB "play_next" "Book.play_next" Sa.sPlay ["self", "values"] ∧ Sa.MethOf (Sa.KOf KX) CB "follow_proof" "Book.follow_proof" Sa.sFollow ["self", "text"] := by
      dsimp only [Sa.KOf]; refine' Sa.book_mk KX G ?a0 ?cl ?nf ?no ?ini ?rea ?fin ?tel ?way ?pla ?fol
      (case a0 => k_is)
      (case cl => (refine' Sa.cls_mk ?pg ?hd ?po ?sa; (case pg => k_is); (case hd => k_is); (case po => k_is); (case sa => k_is)))
      (case nf => (unfold L2.NoAttr; k_is))
      (case no => (unfold L2.NoAttr; k_is))
      (case ini => (refine' Sa.init_mk ?a ?i ?l ?c ?k ?mk ?kc ?b; (case a => k_is); (case i => k_is); (case l => k_is); (case c => k_is); (case k => k_is); (case mk => k_is); (case kc => k_is); (case b => exact fun _ _ _ _ _ _ us hl => match us, hl with | [_], _ => rfl)))
      (case rea => (refine' Sa.meth_mk ?a ?i ?l ?c ?k ?b; (case a => k_is); (case i => k_is); (case l => k_is); (case c => k_is); (case k => k_is); (case b => exact fun _ _ _ _ _ _ us hl => match us, hl with | [_, _], _ => rfl)))
      (case fin => (refine' Sa.meth_mk ?a ?i ?l ?c ?k ?b; (case a => k_is); (case i => k_is); (case l => k_is); (case c => k_is); (case k => k_is); (case b => exact fun _ _ _ _ _ _ us hl => match us, hl with | [_], _ => rfl)))
      (case tel => (refine' Sa.meth_mk ?a ?i ?l ?c ?k ?b; (case a => k_is); (case i => k_is); (case l => k_is); (case c => k_is); (case k => k_is); (case b => exact fun _ _ _ _ _ _ us hl => match us, hl with | [_], _ => rfl)))
      (case way => (refine' Sa.meth_mk ?a ?i ?l ?c ?k ?b; (case a => k_is); (case i => k_is); (case l => k_is); (case c => k_is); (case k => k_is); (case b => exact fun _ _ _ _ _ _ us hl => match us, hl with | [_], _ => rfl)))
      (case pla => (refine' Sa.meth_mk ?a ?i ?l ?c ?k ?b; (case a => k_is); (case i => k_is); (case l => k_is); (case c => k_is); (case k => k_is); (case b => exact fun _ _ _ _ _ _ us hl => match us, hl with | [_, _], _ => rfl)))
      (case fol => (refine' Sa.meth_mk ?a ?i ?l ?c ?k ?b; (case a => k_is); (case i => k_is); (case l => k_is); (case c => k_is); (case k => k_is); (case b => exact fun _ _ _ _ _ _ us hl => match us, hl with | [_, _], _ => rfl)))
    obtain ⟨CB, bm, bcl, bnf, bno, bini, brea, bfin, btel, bway, bpla, bfol⟩ := hB
    have d_split_words : Sa.DefOf (Sa.KOf KX) mg "split_words" Sa.sSplit ["text"] := by dsimp only [Sa.KOf]; refine' Sa.def_mk KX G ?a ?l ?c ?k ?b; (case a => k_is); (case l => k_is); (case c => k_is); (case k => k_is); (case b => exact fun _ _ _ _ _ _ us hl => match us, hl with | [_], _ => rfl)
    have d_number_up_to : Sa.DefOf (Sa.KOf KX) mg "number_up_to" Sa.sUpTo ["word", "most"] := by dsimp only [Sa.KOf]; refine' Sa.def_mk KX G ?a ?l ?c ?k ?b; (case a => k_is); (case l => k_is); (case c => k_is); (case k => k_is); (case b => exact fun _ _ _ _ _ _ us hl => match us, hl with | [_, _], _ => rfl)
    have d_literal_up_to : Sa.DefOf (Sa.KOf KX) mg "literal_up_to" Sa.sLitUp ["word", "most"] := by dsimp only [Sa.KOf]; refine' Sa.def_mk KX G ?a ?l ?c ?k ?b; (case a => k_is); (case l => k_is); (case c => k_is); (case k => k_is); (case b => exact fun _ _ _ _ _ _ us hl => match us, hl with | [_, _], _ => rfl)
    have d_take_block : Sa.DefOf (Sa.KOf KX) mg "take_block" Sa.sBlock ["reader", "most", "formula"] := by dsimp only [Sa.KOf]; refine' Sa.def_mk KX G ?a ?l ?c ?k ?b; (case a => k_is); (case l => k_is); (case c => k_is); (case k => k_is); (case b => exact fun _ _ _ _ _ _ us hl => match us, hl with | [_, _, _], _ => rfl)
    have d_take_clause : Sa.DefOf (Sa.KOf KX) mg "take_clause" Sa.sClause ["reader", "most"] := by dsimp only [Sa.KOf]; refine' Sa.def_mk KX G ?a ?l ?c ?k ?b; (case a => k_is); (case l => k_is); (case c => k_is); (case k => k_is); (case b => exact fun _ _ _ _ _ _ us hl => match us, hl with | [_, _], _ => rfl)
    have d_read_formula : Sa.DefOf (Sa.KOf KX) mg "read_formula" Sa.sReadF ["text"] := by dsimp only [Sa.KOf]; refine' Sa.def_mk KX G ?a ?l ?c ?k ?b; (case a => k_is); (case l => k_is); (case c => k_is); (case k => k_is); (case b => exact fun _ _ _ _ _ _ us hl => match us, hl with | [_], _ => rfl)
    have d_check_proof : Sa.DefOf (Sa.KOf KX) mg "check_proof" Sa.sCheck ["formula", "text"] := by dsimp only [Sa.KOf]; refine' Sa.def_mk KX G ?a ?l ?c ?k ?b; (case a => k_is); (case l => k_is); (case c => k_is); (case k => k_is); (case b => exact fun _ _ _ _ _ _ us hl => match us, hl with | [_, _], _ => rfl)
    have d_take_step : Sa.DefOf (Sa.KOf KX) mg "take_step" Sa.sStep ["reader", "formula", "clauses"] := by dsimp only [Sa.KOf]; refine' Sa.def_mk KX G ?a ?l ?c ?k ?b; (case a => k_is); (case l => k_is); (case c => k_is); (case k => k_is); (case b => exact fun _ _ _ _ _ _ us hl => match us, hl with | [_, _, _], _ => rfl)
    have d_take_named : Sa.DefOf (Sa.KOf KX) mg "take_named" Sa.sNamed ["reader", "clauses"] := by dsimp only [Sa.KOf]; refine' Sa.def_mk KX G ?a ?l ?c ?k ?b; (case a => k_is); (case l => k_is); (case c => k_is); (case k => k_is); (case b => exact fun _ _ _ _ _ _ us hl => match us, hl with | [_, _], _ => rfl)
    have d_differ_in : Sa.DefOf (Sa.KOf KX) mg "differ_in" Sa.sDiffer ["variable", "one", "other"] := by dsimp only [Sa.KOf]; refine' Sa.def_mk KX G ?a ?l ?c ?k ?b; (case a => k_is); (case l => k_is); (case c => k_is); (case k => k_is); (case b => exact fun _ _ _ _ _ _ us hl => match us, hl with | [_, _, _], _ => rfl)
    have d_put_together : Sa.DefOf (Sa.KOf KX) mg "put_together" Sa.sPut ["variable", "one", "other"] := by dsimp only [Sa.KOf]; refine' Sa.def_mk KX G ?a ?l ?c ?k ?b; (case a => k_is); (case l => k_is); (case c => k_is); (case k => k_is); (case b => exact fun _ _ _ _ _ _ us hl => match us, hl with | [_, _, _], _ => rfl)
    have d_without_last_alls : Sa.DefOf (Sa.KOf KX) mg "without_last_alls" Sa.sKept ["formula", "clause"] := by dsimp only [Sa.KOf]; refine' Sa.def_mk KX G ?a ?l ?c ?k ?b; (case a => k_is); (case l => k_is); (case c => k_is); (case k => k_is); (case b => exact fun _ _ _ _ _ _ us hl => match us, hl with | [_, _], _ => rfl)
    have d_place_of : Sa.DefOf (Sa.KOf KX) mg "place_of" Sa.sPlace ["values"] := by dsimp only [Sa.KOf]; refine' Sa.def_mk KX G ?a ?l ?c ?k ?b; (case a => k_is); (case l => k_is); (case c => k_is); (case k => k_is); (case b => exact fun _ _ _ _ _ _ us hl => match us, hl with | [_], _ => rfl)
    have d_failing_levels : Sa.DefOf (Sa.KOf KX) mg "failing_levels" Sa.sLevels ["formula"] := by dsimp only [Sa.KOf]; refine' Sa.def_mk KX G ?a ?l ?c ?k ?b; (case a => k_is); (case l => k_is); (case c => k_is); (case k => k_is); (case b => exact fun _ _ _ _ _ _ us hl => match us, hl with | [_], _ => rfl)
    have d_field_masks : Sa.DefOf (Sa.KOf KX) mg "field_masks" Sa.sMasks [] := by dsimp only [Sa.KOf]; refine' Sa.def_mk KX G ?a ?l ?c ?k ?b; (case a => k_is); (case l => k_is); (case c => k_is); (case k => k_is); (case b => exact fun _ _ _ _ _ _ us hl => match us, hl with | [], _ => rfl)
    have d_count_ones : Sa.DefOf (Sa.KOf KX) mg "count_ones" Sa.sOnes ["row", "masks"] := by dsimp only [Sa.KOf]; refine' Sa.def_mk KX G ?a ?l ?c ?k ?b; (case a => k_is); (case l => k_is); (case c => k_is); (case k => k_is); (case b => exact fun _ _ _ _ _ _ us hl => match us, hl with | [_, _], _ => rfl)
    have d_failing_either_way : Sa.DefOf (Sa.KOf KX) mg "failing_either_way" Sa.sEither ["kind", "with_zero", "with_one"] := by dsimp only [Sa.KOf]; refine' Sa.def_mk KX G ?a ?l ?c ?k ?b; (case a => k_is); (case l => k_is); (case c => k_is); (case k => k_is); (case b => exact fun _ _ _ _ _ _ us hl => match us, hl with | [_, _, _], _ => rfl)
    have d_failing_rows : Sa.DefOf (Sa.KOf KX) mg "failing_rows" Sa.sRows ["formula"] := by dsimp only [Sa.KOf]; refine' Sa.def_mk KX G ?a ?l ?c ?k ?b; (case a => k_is); (case l => k_is); (case c => k_is); (case k => k_is); (case b => exact fun _ _ _ _ _ _ us hl => match us, hl with | [_], _ => rfl)
    have d_failing_by_late : Sa.DefOf (Sa.KOf KX) mg "failing_by_late" Sa.sByLate ["formula"] := by dsimp only [Sa.KOf]; refine' Sa.def_mk KX G ?a ?l ?c ?k ?b; (case a => k_is); (case l => k_is); (case c => k_is); (case k => k_is); (case b => exact fun _ _ _ _ _ _ us hl => match us, hl with | [_], _ => rfl)
    have d_holding_values : Sa.DefOf (Sa.KOf KX) mg "holding_values" Sa.sHolding ["clause", "variables"] := by dsimp only [Sa.KOf]; refine' Sa.def_mk KX G ?a ?l ?c ?k ?b; (case a => k_is); (case l => k_is); (case c => k_is); (case k => k_is); (case b => exact fun _ _ _ _ _ _ us hl => match us, hl with | [_, _], _ => rfl)
    have d_failing_row : Sa.DefOf (Sa.KOf KX) mg "failing_row" Sa.sRow ["holding"] := by dsimp only [Sa.KOf]; refine' Sa.def_mk KX G ?a ?l ?c ?k ?b; (case a => k_is); (case l => k_is); (case c => k_is); (case k => k_is); (case b => exact fun _ _ _ _ _ _ us hl => match us, hl with | [_], _ => rfl)
    have d_failing_places : Sa.DefOf (Sa.KOf KX) mg "failing_places" Sa.sPlaces ["holding"] := by dsimp only [Sa.KOf]; refine' Sa.def_mk KX G ?a ?l ?c ?k ?b; (case a => k_is); (case l => k_is); (case c => k_is); (case k => k_is); (case b => exact fun _ _ _ _ _ _ us hl => match us, hl with | [_], _ => rfl)
    have d_row_at : Sa.DefOf (Sa.KOf KX) mg "row_at" Sa.sRowAt ["calls", "at"] := by dsimp only [Sa.KOf]; refine' Sa.def_mk KX G ?a ?l ?c ?k ?b; (case a => k_is); (case l => k_is); (case c => k_is); (case k => k_is); (case b => exact fun _ _ _ _ _ _ us hl => match us, hl with | [_, _], _ => rfl)
    have d_answer_of : Sa.DefOf (Sa.KOf KX) mg "answer_of" Sa.sAnswerOf ["book", "call", "row"] := by dsimp only [Sa.KOf]; refine' Sa.def_mk KX G ?a ?l ?c ?k ?b; (case a => k_is); (case l => k_is); (case c => k_is); (case k => k_is); (case b => exact fun _ _ _ _ _ _ us hl => match us, hl with | [_, _, _], _ => rfl)
    have d_answers : Sa.DefOf (Sa.KOf KX) mg "answers" Sa.sAnswers ["calls"] := by dsimp only [Sa.KOf]; refine' Sa.def_mk KX G ?a ?l ?c ?k ?b; (case a => k_is); (case l => k_is); (case c => k_is); (case k => k_is); (case b => exact fun _ _ _ _ _ _ us hl => match us, hl with | [_], _ => rfl)
    have c_MINUS : ∃ t, mg "MINUS" = some (.int (45) t) := by refine' Sa.mg_int KX G ?a; (case a => k_is)
    have c_DIGIT_ZERO : ∃ t, mg "DIGIT_ZERO" = some (.int (48) t) := by refine' Sa.mg_int KX G ?a; (case a => k_is)
    have c_DIGIT_NINE : ∃ t, mg "DIGIT_NINE" = some (.int (57) t) := by refine' Sa.mg_int KX G ?a; (case a => k_is)
    have c_MOST_VARIABLES : ∃ t, mg "MOST_VARIABLES" = some (.int (20) t) := by refine' Sa.mg_int KX G ?a; (case a => k_is)
    have c_MOST_CLAUSES : ∃ t, mg "MOST_CLAUSES" = some (.int (1024) t) := by refine' Sa.mg_int KX G ?a; (case a => k_is)
    have c_MOST_STEPS : ∃ t, mg "MOST_STEPS" = some (.int (65536) t) := by refine' Sa.mg_int KX G ?a; (case a => k_is)
    have c_EARLY : ∃ t, mg "EARLY" = some (.int (10) t) := by refine' Sa.mg_int KX G ?a; (case a => k_is)
    have c_ROW_BITS : ∃ t, mg "ROW_BITS" = some (.int (1024) t) := by refine' Sa.mg_int KX G ?a; (case a => k_is)
    have c_QB_BEGIN : ∃ t, mg "QB_BEGIN" = some (.int (0) t) := by refine' Sa.mg_int KX G ?a; (case a => k_is)
    have c_QB_READ : ∃ t, mg "QB_READ" = some (.int (1) t) := by refine' Sa.mg_int KX G ?a; (case a => k_is)
    have c_QB_TRUE : ∃ t, mg "QB_TRUE" = some (.int (2) t) := by refine' Sa.mg_int KX G ?a; (case a => k_is)
    have c_QB_WAYS : ∃ t, mg "QB_WAYS" = some (.int (3) t) := by refine' Sa.mg_int KX G ?a; (case a => k_is)
    have c_QB_PLAY : ∃ t, mg "QB_PLAY" = some (.int (4) t) := by refine' Sa.mg_int KX G ?a; (case a => k_is)
    have c_QB_PROOF : ∃ t, mg "QB_PROOF" = some (.int (5) t) := by refine' Sa.mg_int KX G ?a; (case a => k_is)
    have c_NOTHING_HELD : ∃ t, mg "NOTHING_HELD" = some (.int (-3) t) := by refine' Sa.mg_int KX G ?a; (case a => k_is)
    have c_WRONG_VALUES : ∃ t, mg "WRONG_VALUES" = some (.int (-2) t) := by refine' Sa.mg_int KX G ?a; (case a => k_is)
    have c_SOME : ∃ t, mg "SOME" = some (.str "e" t) := by refine' Sa.mg_str KX G ?a; (case a => k_is)
    have c_ALL : ∃ t, mg "ALL" = some (.str "a" t) := by refine' Sa.mg_str KX G ?a; (case a => k_is)
    have c_TWO_CLAUSES : ∃ t, mg "TWO_CLAUSES" = some (.str "r" t) := by refine' Sa.mg_str KX G ?a; (case a => k_is)
    have c_ONE_CLAUSE : ∃ t, mg "ONE_CLAUSE" = some (.str "u" t) := by refine' Sa.mg_str KX G ?a; (case a => k_is)
    have n_len : mg "len" = none := by refine' Sa.mg_none KX G ?a; (case a => k_is)
    have n_ValueError : mg "ValueError" = none := by refine' Sa.mg_none KX G ?a; (case a => k_is)
    have n_ord : mg "ord" = none := by refine' Sa.mg_none KX G ?a; (case a => k_is)
    have n_abs : mg "abs" = none := by refine' Sa.mg_none KX G ?a; (case a => k_is)
    have n_reversed : mg "reversed" = none := by refine' Sa.mg_none KX G ?a; (case a => k_is)
    have n_min : mg "min" = none := by refine' Sa.mg_none KX G ?a; (case a => k_is)
    have n_zip : mg "zip" = none := by refine' Sa.mg_none KX G ?a; (case a => k_is)
    have n_list : mg "list" = none := by refine' Sa.mg_none KX G ?a; (case a => k_is)
    have n_tuple : mg "tuple" = none := by refine' Sa.mg_none KX G ?a; (case a => k_is)
    have n_sum : mg "sum" = none := by refine' Sa.mg_none KX G ?a; (case a => k_is)
    have n_dict : mg "dict" = none := by refine' Sa.mg_none KX G ?a; (case a => k_is)
    have n_all : mg "all" = none := by refine' Sa.mg_none KX G ?a; (case a => k_is)
    have gps : ∃ g, mg "GAPS" = some (.ref g) ∧ ∀ H : L2.Hp, L2.SqT (Sa.KOf KX) H g [.int 32, .int 9, .int 10, .int 13] := by dsimp only [Sa.KOf]; refine' Sa.gaps_mk KX G ?g1 ?g2 ?g3 ?g4 ?g5; (case g1 => k_is); (case g2 => k_is); (case g3 => rfl); (case g4 => rfl); (case g5 => exact ⟨_, _, _, _, rfl⟩)
    have T : Sa.TxtR (Sa.KOf KX) mg CW fW CR fdW := ⟨⟨gps, c_MINUS, c_DIGIT_ZERO, c_DIGIT_NINE, n_len⟩, wx, wf, wb, wm, n_ValueError, rcl, rnw, rnt, rm, n_ord, rae⟩
    have TF : Sa.TxtF (Sa.KOf KX) mg CF := ⟨fcl, fnv, fnk, fnc, fnb, fm, c_SOME, c_ALL, c_MOST_VARIABLES, c_MOST_CLAUSES⟩
    have TP : Sa.TxtP (Sa.KOf KX) mg := ⟨c_MOST_STEPS, c_TWO_CLAUSES, c_ONE_CLAUSE, c_SOME, n_len, n_reversed, n_list, n_dict⟩
    have TT : Sa.TxtT (Sa.KOf KX) mg CO := ⟨c_EARLY, c_ROW_BITS, c_SOME, n_len, n_reversed, n_min, n_zip, n_list, n_tuple, n_sum, ocl, onl, om⟩
    have TB : Sa.TxtB (Sa.KOf KX) mg CB := ⟨bcl, bnf, bno, bm, c_QB_BEGIN, c_QB_READ, c_QB_TRUE, c_QB_WAYS, c_QB_PLAY, c_QB_PROOF, c_NOTHING_HELD, c_WRONG_VALUES, c_SOME, n_len, n_all⟩
    have DW : Sa.DefsW (Sa.KOf KX) mg CR := ⟨d_split_words, d_number_up_to, d_literal_up_to, rini, rcom, rone, rnum, rlit, ren, d_take_block, d_take_clause, n_abs⟩
    have DF : Sa.DefsF (Sa.KOf KX) mg CF := ⟨fini, fkin, d_read_formula⟩
    have DP : Sa.DefsP (Sa.KOf KX) mg := ⟨d_check_proof, d_take_step, d_take_named, d_differ_in, d_put_together, d_without_last_alls⟩
    have DT : Sa.DefsT (Sa.KOf KX) mg CO := ⟨oini, oist, ocou, d_place_of, d_failing_levels, d_field_masks, d_count_ones, d_failing_either_way, d_failing_rows, d_failing_by_late, d_holding_values, d_failing_row, d_failing_places⟩
    have DB : Sa.DefsB (Sa.KOf KX) mg CB := ⟨bini, brea, bfin, btel, bway, bpla, bfol, d_row_at, d_answer_of⟩
    exact Sa.fin_mk KX G hmg T TF TP TT TB DW DF DP DT DB d_answers
