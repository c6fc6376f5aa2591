import PyProof.Rows.All
import Wide.All
import OpenK.AllK
import Wide.FinOn
import PyProof.EqAt
import PyProof.EqKinds
import PyProof.TupleCall
import KE.BitLaws
import KE.OsGo
import Open.SpecLaws
import PySem.Challenge.RW_genomereads_s11_genome
set_option Elab.async false
set_option linter.all false
set_option maxRecDepth 100000
/-! THE RUN OF THE TEXT'S TOP, seen by one look of the kernel over the quick twins. By pieces (k_headS as it stands) the states between the pieces and their twins make 41 MB of the compiled file, and it is then over the 64 MB that the house takes. -/
section
open PySem PySem.W PyProof.Rows
/-! the view of the text and the written part of its heap get names: PyTop.top.view_1, PyTop.top.heap_1 -/
local macro_rules
  | `(tactic| refine $e:term) => do
    if (e.raw.find? fun s => s.getId == `hl).isNone then Lean.Macro.throwUnsupported
    `(tactic| (refine' $e <;> exact False.elim (by assumption)))
set_option maxHeartbeats 0 in
theorem PyTop.top (F : False) : PySem.Challenge.rw_genomereads_s11_genome.Holds := by
  w_on; k_headS
end
namespace PyTop
open PySem PySem.W PyProof.Rows
theorem rfl_ends : @openEnds = @openEnds := rfl
theorem rfl_seen : @openSeen = @openSeen := rfl
theorem rfl_table : @treeTable = @treeTable := rfl
theorem rfl_text : PySem.Challenge.pw_genomereads_s11_genome = PySem.Challenge.pw_genomereads_s11_genome := rfl
set_option maxHeartbeats 0 in
lay_quick PySem.W.openEnds PySem.Challenge.pw_genomereads_s11_genome
name_quick q_ends for PySem.W.openEnds by PyTop.rfl_ends
name_quick q_seen for PySem.W.openSeen by PyTop.rfl_seen
name_quick q_table for PySem.treeTable by PyTop.rfl_table
name_quick q_text for PySem.Challenge.pw_genomereads_s11_genome by PyTop.rfl_text
noncomputable def top_xt : Shared → Bool := fun s => xlAt PyTop.top.view_1 [] s && recOk [] s
set_option maxHeartbeats 0 in
theorem top_seen (w : World) : (Fast.q_ends Fast.q_table Fast.q_text w 4724).map (fun s => Fast.q_seen PyTop.top.view_1 [] (importedModules Fast.q_text.main.body) top_xt true s) = some (openGood PyTop.top.view_1 []) := by kernel_rfl
set_option maxHeartbeats 0 in
theorem top_heap (w : World) : (Fast.q_ends Fast.q_table Fast.q_text w 4724).map (fun s => (PyTop.top.heap_1 w.params).map fun p => s.heap.get? p.1) = some ((PyTop.top.heap_1 w.params).map fun p => some p.2) := by kernel_rfl
theorem top_two {α β γ : Type} {x : Option α} {f : α → β} {g : α → γ} {a : β} {b : γ} (h1 : x.map f = some a) (h2 : x.map g = some b) : x.map (fun s => (f s, g s)) = some (a, b) := by
  cases x with
  | none => cases h1
  | some s => exact congrArg some (Prod.ext (Option.some.inj h1) (Option.some.inj h2))
theorem top_left (as : List Addr) (e : ∀ P, as = (PyTop.top.heap_1 P).map (·.1)) : LeftO PySem.Challenge.pw_genomereads_s11_genome PyTop.top.view_1 [] (fun s => xlAt PyTop.top.view_1 [] s && recOk [] s) (Hook.obs (kHook PyTop.top.heap_1 as e)) (Hook.val (kHook PyTop.top.heap_1 as e)) 4724 := by
  intro w
  refine top_two (g := fun s : Shared => as.map s.heap.get?) (b := (PyTop.top.heap_1 w.params).map fun p => some p.2) ?_ ?_
  · have h := top_seen w
    rewrite [← Fast.q_ends_eq, ← Fast.q_seen_eq, ← Fast.q_table_eq, ← Fast.q_text_eq] at h
    exact h
  · have h := top_heap w
    rewrite [← Fast.q_ends_eq, ← Fast.q_table_eq, ← Fast.q_text_eq] at h
    have z : (fun s : Shared => as.map s.heap.get?) = fun s => (PyTop.top.heap_1 w.params).map fun p => s.heap.get? p.1 := by
      funext s
      rewrite [e w.params, List.map_map]
      rfl
    rewrite [z]
    exact h
end PyTop
/-! THE HAND LAYER, for ints, bools, texts, own classes, lists, tuples, dicts, comprehensions, walks over dicts, enumerate, zip, reversed, texts, calls, loops. Paste it whole ahead of your own text; what your proof does not reach may be deleted. -/
namespace L2
open PySem PySem.Spec PyProof.Rows

/-- a key: an int or a str -/
abbrev Key := Sum Int Str
def keyIs : Key → Value → Bool
  | .inl k, v => Value.isInt k v
  | .inr x, v => Value.isStrOf x v
def keyH (w : World) : Key → Int
  | .inl k => hashInt k
  | .inr x => hashStr w x
theorem keyIs_shape : ∀ {k : Key} {v : Value}, keyIs k v = true → (∃ i t, k = Sum.inl i ∧ v = Value.int i t) ∨ (∃ x t, k = Sum.inr x ∧ v = Value.str x t)
  | .inl i, v, h => by
    obtain ⟨t, e⟩ := Value.isInt_shape (k := i) (v := v) h
    exact .inl ⟨i, t, rfl, e⟩
  | .inr x, v, h => by
    obtain ⟨t, e⟩ := Value.isStrOf_shape (x := x) (v := v) h
    exact .inr ⟨x, t, rfl, e⟩
theorem key_ll (a b : Int) : decide ((Sum.inl a : Key) = Sum.inl b) = (a == b) := by
  by_cases e : a = b
  · subst e; simp
  · have h : ¬ (Sum.inl a : Key) = Sum.inl b := fun q => e (Sum.inl.inj q)
    rw [decide_eq_false h]
    exact (beq_eq_false_iff_ne.mpr e).symm
theorem key_rr (a b : Str) : decide ((Sum.inr a : Key) = Sum.inr b) = decide (a = b) := by
  by_cases e : a = b
  · subst e; simp
  · have h : ¬ (Sum.inr a : Key) = Sum.inr b := fun q => e (Sum.inr.inj q)
    rw [decide_eq_false h, decide_eq_false e]
theorem key_lr (a : Int) (b : Str) : decide ((Sum.inl a : Key) = Sum.inr b) = false := decide_eq_false (fun q => nomatch q)
theorem key_rl (a : Str) (b : Int) : decide ((Sum.inr a : Key) = Sum.inl b) = false := decide_eq_false (fun q => nomatch q)

def mixKind (prog : Program) (w : World) : PySem.KeyKind prog w Key where
  is := keyIs
  hash := keyH w
  inj := fun v a b ha hb => by
    rcases keyIs_shape ha with ⟨i, t, rfl, rfl⟩ | ⟨x, t, rfl, rfl⟩
    · rcases keyIs_shape hb with ⟨j, u, rfl, e⟩ | ⟨y, u, rfl, e⟩
      · injection e with e1 _; rw [e1]
      · exact nomatch e
    · rcases keyIs_shape hb with ⟨j, u, rfl, e⟩ | ⟨y, u, rfl, e⟩
      · exact nomatch e
      · injection e with e1 _; rw [e1]
  byValue := fun k v h => by
    rcases keyIs_shape h with ⟨i, t, rfl, rfl⟩ | ⟨x, t, rfl, rfl⟩ <;> rfl
  pyHash := fun hv h => by
    rcases keyIs_shape hv with ⟨i, t, rfl, rfl⟩ | ⟨x, t, rfl, rfl⟩
    · exact wpAny_pyHash_int h
    · exact wpAny_pyHash_str h
  eqBool := fun hu hv h => by
    rcases keyIs_shape hu with ⟨i, t, rfl, rfl⟩ | ⟨x, t, rfl, rfl⟩
    · rcases keyIs_shape hv with ⟨j, u, rfl, rfl⟩ | ⟨y, u, rfl, rfl⟩
      · rw [key_ll] at h; exact wpAny_eqBool_int h
      · rw [key_lr] at h; exact SeqAt.EqAt.int_str i t y u _ _ _ _ h
    · rcases keyIs_shape hv with ⟨j, u, rfl, rfl⟩ | ⟨y, u, rfl, rfl⟩
      · rw [key_rl] at h; exact SeqAt.EqAt.str_int x t j u _ _ _ _ h
      · rw [key_rr] at h; exact wpAny_eqBool_str h
  «strs» := fun k x t v h => by
    rcases keyIs_shape h with ⟨i, u, rfl, e⟩ | ⟨y, u, rfl, e⟩
    · exact nomatch e
    · injection e with e1 _
      subst e1
      cases v <;> rfl

end L2

namespace L2
open PySem PySem.Spec PyProof.Rows

/-- a value, without the heap -/
inductive V where
  | non | bl (b : Bool) | int (i : Int) | str (x : Str) | byt (b : Array UInt8) | flt (b : UInt64) | ref (a : Addr) | ty (n : String)
  deriving DecidableEq

def RelV : V → Value → Prop
  | .non, u => u = Value.none
  | .bl b, u => u = Value.bool b
  | .int i, u => ∃ t, u = Value.int i t
  | .str x, u => ∃ t, u = Value.str x t
  | .byt b, u => ∃ t, u = Value.bytes b t
  | .flt b, u => ∃ t, u = Value.float b t
  | .ref a, u => u = Value.ref a
  | .ty n, u => u = Value.type n

abbrev Vals : List V → List Value → Prop := Paired RelV
theorem Vals.length {xs : List V} {us : List Value} (r : Vals xs us) : xs.length = us.length := Paired.length r
theorem Vals.get : ∀ {xs : List V} {us : List Value} {i : Nat} {x : V}, Vals xs us → xs[i]? = some x → ∃ u, us[i]? = some u ∧ RelV x u
  | _, _, _, _, .nil, e => by simp at e
  | _, _, 0, _, .cons r _, e => by simp at e; subst e; exact ⟨_, rfl, r⟩
  | _, _, i + 1, x, .cons _ t, e => by
    obtain ⟨u, h1, h2⟩ := Vals.get (i := i) (x := x) t (by simpa using e)
    exact ⟨u, by simpa using h1, h2⟩
theorem Vals.set {x : V} {u : Value} (r : RelV x u) : ∀ {xs : List V} {us : List Value} (i : Nat), Vals xs us → Vals (xs.set i x) (us.set i u)
  | _, _, _, .nil => .nil
  | _, _, 0, .cons _ t => .cons r t
  | _, _, i + 1, .cons q t => .cons q (Vals.set r i t)
theorem Vals.append : ∀ {xs ys : List V} {us ws : List Value}, Vals xs us → Vals ys ws → Vals (xs ++ ys) (us ++ ws)
  | _, _, _, _, .nil, s => s
  | _, _, _, _, .cons r t, s => .cons r (Vals.append t s)
theorem Vals.take : ∀ {xs : List V} {us : List Value} (n : Nat), Vals xs us → Vals (xs.take n) (us.take n)
  | _, _, 0, _ => .nil
  | _, _, _ + 1, .nil => .nil
  | _, _, n + 1, .cons r t => .cons r (Vals.take n t)
theorem Vals.drop : ∀ {xs : List V} {us : List Value} (n : Nat), Vals xs us → Vals (xs.drop n) (us.drop n)
  | _, _, 0, r => r
  | _, _, _ + 1, .nil => .nil
  | _, _, n + 1, .cons _ t => Vals.drop n t

def RelO : Option V → Option Value → Prop
  | some v, some u => RelV v u
  | none, none => True
  | _, _ => False
def KV {κ : Type} : List (κ × V) → List (κ × Value) → Prop := Paired fun (p : κ × V) (q : κ × Value) => p.1 = q.1 ∧ RelV p.2 q.2

/-- a key of a dict (00_mix): an int or a text -/
def kV : Key → V
  | .inl i => .int i
  | .inr x => .str x

/-- what stands at a tracked address -/
inductive HO where
  /-- a list -/
  | lst (xs : List V)
  /-- a tuple (never changes) -/
  | tup (xs : List V)
  /-- a dict whose keys are ints and texts; one whose keys are tuples of ints and texts (the empty one is both) -/
  | dK (kvs : List (Key × V)) | dT (kvs : List (List Key × V))
  /-- a set of ints: its members, its size -/
  | set (S : Int → Bool) (n : Nat)
  /-- an instance of the class at C, its dict at dx, its attributes -/
  | ins (C dx : Addr) (fs : List (Str × V))
  /-- the dict of the instance at x -/
  | own (x : Addr)
  /-- the dict of an exception -/
  | xd (fs : List (Str × V))
  /-- a bound method, f of x -/
  | met (f x : Addr)
  /-- a range object lo, lo + 1, .. below hi -/
  | rng (lo hi : Int)
  /-- a thing that is known to the object (the script; a dict while a loop walks it): read, never written while it is so -/
  | frz (o : Obj) (u : HO)
  /-- a code object's table -/
  | tbl (ps : Array Value)
  /-- any other thing, by what is true of its one object (a def of one's own: SetO a S n := HO.ext fun h => ..) -/
  | ext (φ : Heap → Prop)

abbrev Hp := Addr → Option HO
def upd (H : Hp) (a : Addr) (o : HO) : Hp := fun b => if b = a then some o else H b
theorem upd_same {H : Hp} {a : Addr} {o : HO} : upd H a o a = some o := by unfold upd; rw [if_pos rfl]
theorem upd_ne {H : Hp} {a b : Addr} {o : HO} (h : b ≠ a) : upd H a o b = H b := by unfold upd; rw [if_neg h]
theorem upd_upd {H : Hp} {a : Addr} {o u : HO} : upd (upd H a o) a u = upd H a u := by
  funext b; unfold upd; split <;> rfl
/-- two objects of different content stand apart -/
theorem ne_of {H : Hp} {a b : Addr} {o u : HO} (h : H a = some o) (h' : H b = some u) (d : o ≠ u) : a ≠ b := by
  intro e; subst e; rw [h] at h'; exact d (Option.some.inj h')
theorem ne_of_none {H : Hp} {a b : Addr} {o : HO} (h : H a = some o) (h' : H b = none) : a ≠ b := by
  intro e; subst e; rw [h] at h'; cases h'

section
variable (P : Program) (w : World)
def ObjOk (H : Hp) (h : Heap) (a : Addr) : HO → Prop
  | .lst xs => xs.length ≤ sizeLine ∧ ∃ (its : List Value) (n : Nat), Vals xs its ∧ h.get? a = some { cls := .type "list", data := .seq its.toArray n }
  | .tup xs => xs.length ≤ sizeLine ∧ ∃ its : List Value, Vals xs its ∧ IsTup h a its.toArray
  | .dK kvs => kvs.length ≤ sizeLine ∧ (a == sysModules) = false ∧ ∃ vs, KV kvs vs ∧ h.DictOf (mixKind P w) a vs
  | .dT kvs => kvs.length ≤ sizeLine ∧ (a == sysModules) = false ∧ ∃ xs : List (List Key × Addr × Value),
      Paired (fun (p : List Key × V) (q : List Key × Addr × Value) => p.1 = q.1 ∧ H q.2.1 = some (.tup (p.1.map kV)) ∧ RelV p.2 q.2.2) kvs xs ∧
      ∃ o es ep, h.get? a = some o ∧ o.ExactDict ∧ o.data = .dict es ep ∧ es.toList = xs.map (entryOfKey (tupleKind (mixKind P w))) ∧ (xs.map (·.1)).Nodup
  | .set S n => h.SetOf (intKind P w) a S n
  | .ins C dx fs => H dx = some (.own a) ∧ fs.length ≤ 1000 ∧ dx ≠ a ∧ h.get? a = some (PySem.W.instObj C dx) ∧
      ∃ mA, h.Ns1 dx mA ∧ (∀ f, RelO (fs.lookup f) (mA f)) ∧ PySem.Within mA (fs.map (·.1))
  | .own _ => ∃ o, h.get? a = some o
  | .xd fs => ∃ mA, h.Ns1 a mA ∧ ∀ f, RelO (fs.lookup f) (mA f)
  | .rng lo hi => ∃ t u v, h.get? a = some { cls := .type "range", data := .fields #[.int lo t, .int hi u, .int 1 v] }
  | .frz o u => h.get? a = some o ∧ ObjOk H h a u
  | .tbl ps => h.get? a = some { cls := .none, data := .fields ps }
  | .met f x => h.get? a = some (PySem.W.methodObj (.ref f) (.ref x))
  | .ext φ => φ h ∧ (∃ o, h.get? a = some o) ∧ ∀ h1 h2 : Heap, φ h1 → (∀ o, h1.get? a = some o → h2.get? a = some o) → φ h2
/-- the abstract heap is held -/
def HOk (H : Hp) (h : Heap) : Prop := ∀ a o, H a = some o → ObjOk P w H h a o
end

section
variable {P : Program} {w : World} {H H' : Hp} {h h' : Heap} {a : Addr} {o : HO}
theorem ObjOk.lt (x : ObjOk P w H h a o) : a < h.objs.size := by
  cases o with
  | lst xs => obtain ⟨_, _, _, _, e⟩ := x; exact Heap.lt_size e
  | tup xs => obtain ⟨_, _, _, p⟩ := x; exact p.lt
  | dK kvs => obtain ⟨_, _, _, _, o, _, _, e, _⟩ := x; exact Heap.lt_size e
  | dT kvs => obtain ⟨_, _, _, _, o, _, _, e, _⟩ := x; exact Heap.lt_size e
  | set S n => obtain ⟨o, _, _, _, e, _⟩ := x; exact Heap.lt_size e
  | ins C dx fs => obtain ⟨_, _, _, e, _⟩ := x; exact Heap.lt_size e
  | own y => obtain ⟨_, e⟩ := x; exact Heap.lt_size e
  | xd fs => obtain ⟨_, ⟨_, _, _, e, _⟩, _⟩ := x; exact Heap.lt_size e
  | rng lo hi => obtain ⟨_, _, _, e⟩ := x; exact Heap.lt_size e
  | frz ob u => obtain ⟨e, _⟩ := x; exact Heap.lt_size e
  | tbl ps => exact Heap.lt_size (show h.get? a = some _ from x)
  | met f y => exact Heap.lt_size (show h.get? a = some _ from x)
  | ext φ => obtain ⟨_, ⟨_, e⟩, _⟩ := x; exact Heap.lt_size e
theorem Paired.mapP {α β : Type} {F G : α → β → Prop} : ∀ {l₁ : List α} {l₂ : List β}, Paired F l₁ l₂ → (∀ a b, F a b → G a b) → Paired G l₁ l₂
  | _, _, .nil, _ => .nil
  | _, _, .cons r t, f => .cons (f _ _ r) (Paired.mapP t f)
/-- what an object's description leans on: its own object, its own dict, the tuples -/
theorem ObjOk.stay (x : ObjOk P w H h a o) (k : ∀ b u, (b = a ∨ H b = some (.own a)) → h.get? b = some u → h'.get? b = some u)
    (ho : ∀ b, H b = some (.own a) → H' b = some (.own a)) (ht : ∀ b xs, H b = some (.tup xs) → H' b = some (.tup xs)) : ObjOk P w H' h' a o := by
  induction o with
  | lst xs => obtain ⟨z, its, n, r, e⟩ := x; exact ⟨z, its, n, r, k _ _ (.inl rfl) e⟩
  | tup xs => obtain ⟨z, its, r, ob, e, c⟩ := x; exact ⟨z, its, r, ob, k _ _ (.inl rfl) e, c⟩
  | dK kvs => obtain ⟨z, y, vs, r, ob, es, ep, e, c⟩ := x; exact ⟨z, y, vs, r, ob, es, ep, k _ _ (.inl rfl) e, c⟩
  | dT kvs =>
    obtain ⟨z, y, xs, r, ob, es, ep, e, c⟩ := x
    exact ⟨z, y, xs, Paired.mapP r fun p q z => ⟨z.1, ht _ _ z.2.1, z.2.2⟩, ob, es, ep, k _ _ (.inl rfl) e, c⟩
  | set S n => obtain ⟨ob, es, ep, t, e, c⟩ := x; exact ⟨ob, es, ep, t, k _ _ (.inl rfl) e, c⟩
  | ins C dx fs =>
    obtain ⟨d, z, ne, e, mA, ⟨od, es, ep, e2, c⟩, r⟩ := x
    exact ⟨ho _ d, z, ne, k _ _ (.inl rfl) e, mA, ⟨od, es, ep, k _ _ (.inr d) e2, c⟩, r⟩
  | own y => obtain ⟨ob, e⟩ := x; exact ⟨ob, k _ _ (.inl rfl) e⟩
  | xd fs => obtain ⟨mA, ⟨od, es, ep, e, c⟩, r⟩ := x; exact ⟨mA, ⟨od, es, ep, k _ _ (.inl rfl) e, c⟩, r⟩
  | rng lo hi => obtain ⟨t, u, v, e⟩ := x; exact ⟨t, u, v, k _ _ (.inl rfl) e⟩
  | frz ob u ih => obtain ⟨e, q⟩ := x; exact ⟨k _ _ (.inl rfl) e, ih q⟩
  | tbl ps =>
    have e : h.get? a = some { cls := .none, data := .fields ps } := x
    show h'.get? a = some { cls := .none, data := .fields ps }
    exact k a _ (.inl rfl) e
  | met f y =>
    have e : h.get? a = some (PySem.W.methodObj (.ref f) (.ref y)) := x
    show h'.get? a = some (PySem.W.methodObj (.ref f) (.ref y))
    exact k a _ (.inl rfl) e
  | ext φ => obtain ⟨p, ⟨o, e⟩, st⟩ := x; exact ⟨st _ _ p fun o q => k _ _ (.inl rfl) q, ⟨o, k _ _ (.inl rfl) e⟩, st⟩
theorem HOk.lt (x : HOk P w H h) (e : H a = some o) : a < h.objs.size := (x a o e).lt
theorem HOk.fresh (x : HOk P w H h) (e : h.objs.size ≤ a) : H a = none := by
  cases q : H a with
  | none => rfl
  | some u => exact absurd (Nat.lt_of_lt_of_le (x.lt q) e) (Nat.lt_irrefl _)
/-- every object of the heap is kept -/
theorem HOk.kept (x : HOk P w H h) (k : ∀ b u, h.get? b = some u → h'.get? b = some u) : HOk P w H h' := fun a o e =>
  (x a o e).stay (fun b u _ q => k b u q) (fun _ q => q) fun _ _ q => q
/-- a new object is laid and tracked -/
theorem HOk.laid (x : HOk P w H h) (k : ∀ b u, h.get? b = some u → h'.get? b = some u) (hp : h.objs.size ≤ a) (new : ObjOk P w (upd H a o) h' a o) : HOk P w (upd H a o) h' := fun b u e => by
  have hn := x.fresh hp
  by_cases hb : b = a
  · subst hb; rw [upd_same] at e; cases e; exact new
  · rw [upd_ne hb] at e
    exact (x b u e).stay (fun c v _ q => k c v q) (fun c q => by rw [upd_ne (ne_of_none q hn)]; exact q) fun c xs q => by rw [upd_ne (ne_of_none q hn)]; exact q
end

/-- what may be read as u: it is u, or a known u -/
def Rd (H : Hp) (a : Addr) (u : HO) : Prop := H a = some u ∨ ∃ o, H a = some (.frz o u)
theorem Rd.ok {P : Program} {w : World} {H : Hp} {h : Heap} {a : Addr} {u : HO} (r : Rd H a u) (x : HOk P w H h) : ObjOk P w H h a u := by
  rcases r with r | ⟨o, r⟩
  · exact x a u r
  · obtain ⟨_, q⟩ := x a _ r
    exact q
/-- what may be written -/
def Mut : Option HO → Prop
  | some (.lst _) => True
  | some (.dK _) => True
  | some (.dT _) => True
  | some (.set _ _) => True
  | some (.ins _ _ _) => True
  | some (.ext _) => True
  | _ => False
section
variable {P : Program} {w : World} {H : Hp} {h h' : Heap} {x e : Addr} {o' : HO}
/-- the object at e is changed: x itself, or the dict of the instance x -/
theorem HOk.write (ok : HOk P w H h) (mu : Mut (H x)) (he : e = x ∨ H e = some (.own x)) (k : ∀ b u, b ≠ e → h.get? b = some u → h'.get? b = some u) (heo : ∃ u, h'.get? e = some u)
    (new : ObjOk P w (upd H x o') h' x o') : HOk P w (upd H x o') h' := fun b u q => by
  have nown : ∀ c y, H c = some (.own y) → c ≠ x := fun c y r z => by subst z; rw [r] at mu; exact mu
  have ntup : ∀ c xs, H c = some (.tup xs) → c ≠ x := fun c xs r z => by subst z; rw [r] at mu; exact mu
  by_cases hb : b = x
  · subst hb; rw [upd_same] at q; cases q; exact new
  · rw [upd_ne hb] at q
    by_cases hbe : b = e
    · have q' : H b = some (.own x) := by
        rcases he with z | z
        · exact absurd (hbe.trans z) hb
        · rw [hbe]; exact z
      rw [q] at q'; cases q'
      obtain ⟨v, hv⟩ := heo
      exact ⟨v, by rw [hbe]; exact hv⟩
    · refine (ok b u q).stay (fun c v hc r => k c v ?_ r) (fun c r => by rw [upd_ne (nown c b r)]; exact r) fun c xs r => by rw [upd_ne (ntup c xs r)]; exact r
      rcases hc with rfl | hc
      · exact hbe
      · rintro rfl
        rcases he with z | z
        · exact nown c b hc z
        · rw [hc] at z; cases z; exact hb rfl
end

/-! ### kept unless tracked; of the frames at fs (the callers') the slots may change (an exception that passes writes there); of the records at ex (iterators) nothing is said -/
structure Un (fs ex : List Addr) (H H' : Hp) (h h' : Heap) : Prop where
  keep : ∀ b o, h.get? b = some o → H b = none → b ∉ fs → b ∉ ex → h'.get? b = some o
  slot : ∀ b o, h.get? b = some o → H b = none → b ∈ fs → b ∉ ex → ∃ sl, h'.get? b = some { o with slots := sl }
  free : ∀ b o, h.get? b = some o → H b = none → b ∉ ex → H' b = none
  there : ∀ b o, h.get? b = some o → b ∉ ex → ∃ o', h'.get? b = some o'
  tups : ∀ b xs, H b = some (.tup xs) → H' b = some (.tup xs)
  frzs : ∀ b o u, H b = some (.frz o u) → H' b = some (.frz o u)
  tbls : ∀ b ps, H b = some (.tbl ps) → ∃ more, H' b = some (.tbl (ps ++ more))
section
variable {fs fs' ex ex' : List Addr} {H H1 H2 : Hp} {h h1 h2 h' : Heap} {a x e : Addr} {o : HO}
theorem Un.any (u : Un fs ex H H1 h h1) {b : Addr} {ob : Obj} (q : h.get? b = some ob) (n : H b = none) (hx : b ∉ ex) : ∃ sl, h1.get? b = some { ob with slots := sl } := by
  by_cases hb : b ∈ fs
  · exact u.slot b ob q n hb hx
  · exact ⟨ob.slots, u.keep b ob q n hb hx⟩
theorem Un.kept (k : ∀ b u, h.get? b = some u → h'.get? b = some u) : Un fs ex H H h h' :=
  ⟨fun b ob q _ _ _ => k b ob q, fun b ob q _ _ _ => ⟨ob.slots, k b ob q⟩, fun _ _ _ n _ => n, fun b ob q _ => ⟨ob, k b ob q⟩, fun _ _ q => q, fun _ _ _ q => q, fun _ ps q => ⟨#[], by rw [q]; simp⟩⟩
theorem Un.refl : Un fs ex H H h h := Un.kept fun _ _ q => q
theorem Un.laid (k : ∀ b u, h.get? b = some u → h'.get? b = some u) (hp : h.objs.size ≤ a) (hn : H a = none) : Un fs ex H (upd H a o) h h' where
  keep := fun b u q _ _ _ => k b u q
  slot := fun b u q _ _ _ => ⟨u.slots, k b u q⟩
  free := fun b u q n _ => by rw [upd_ne (Nat.ne_of_lt (Nat.lt_of_lt_of_le (Heap.lt_size q) hp))]; exact n
  there := fun b u q _ => ⟨u, k b u q⟩
  tups := fun b xs q => by rw [upd_ne (ne_of_none q hn)]; exact q
  frzs := fun b u xs q => by rw [upd_ne (ne_of_none q hn)]; exact q
  tbls := fun b ps q => ⟨#[], by rw [upd_ne (ne_of_none q hn), q]; simp⟩
theorem Un.write (mu : Mut (H x)) (he : e = x ∨ H e = some (.own x)) (k : ∀ b u, b ≠ e → h.get? b = some u → h'.get? b = some u) (heo : ∃ u, h'.get? e = some u) : Un fs ex H (upd H x o) h h' := by
  have hx : ∀ b, H b = none → b ≠ x := fun b n z => by subst z; rw [n] at mu; exact mu
  have hb : ∀ b, H b = none → b ≠ e := fun b n z => by
    subst z
    rcases he with r | r
    · exact hx b n r
    · rw [n] at r; cases r
  have hm : ∀ b u, H b = some u → ¬ Mut (some u) → b ≠ x := fun b u q nm z => by subst z; rw [q] at mu; exact nm mu
  refine ⟨fun b u q n _ _ => k b u (hb b n) q, fun b u q n _ _ => ⟨u.slots, k b u (hb b n) q⟩, fun b u q n _ => by rw [upd_ne (hx b n)]; exact n, fun b u q _ => ?_,
    fun b xs q => by rw [upd_ne (hm b _ q fun z => z)]; exact q, fun b u xs q => by rw [upd_ne (hm b _ q fun z => z)]; exact q, fun b ps q => ⟨#[], by rw [upd_ne (hm b _ q fun z => z), q]; simp⟩⟩
  by_cases hbe : b = e
  · subst hbe; exact heo
  · exact ⟨u, k b u hbe q⟩
end

/-! ### the heap without what is tracked -/
def trk (h : Heap) (H : Hp) : List Addr := (List.range h.objs.size).filter fun a => (H a).isSome
def hidT (h : Heap) (H : Hp) : Heap := PySem.W.hideAll h (trk h H)
theorem hidT_size (h : Heap) (H : Hp) : (hidT h H).objs.size = h.objs.size := PySem.W.hideAll_size _ _
theorem hidT_get {h : Heap} {H : Hp} {b : Addr} {o : Obj} (e : h.get? b = some o) (n : H b = none) : (hidT h H).get? b = some o :=
  PySem.W.hideAll_get _ e fun hm => by
    have q : (H b).isSome = true := (List.mem_filter.mp hm).2
    rw [n] at q; simp at q
theorem of_hidT {h : Heap} {H : Hp} {b : Addr} {o : Obj} (e : (hidT h H).get? b = some o) : h.get? b = some o ∧ H b = none := by
  have e' : h.get? b = some o := PySem.W.of_hideAll (trk h H) e
  refine ⟨e', ?_⟩
  cases q : H b with
  | none => rfl
  | some x =>
    have hm : b ∈ trk h H := List.mem_filter.mpr ⟨List.mem_range.mpr (Heap.lt_size e'), by simp [q]⟩
    have z : (hidT h H).get? b = none := PySem.W.hideAll_none (trk h H) hm
    rw [z] at e; cases e

/-! ### OpenK's ledger, filled with every new object but one -/
end L2

namespace L2
open PySem PySem.Spec PyProof.Rows

/-- the module's facts, over the base: the heap at the law's entry without what is tracked there -/
structure Mod (K : PySem.W.Frag) (mg : Str → Option Value) (base : Heap) : Prop where
  kin : K.In base
  glob : base.Ns mainGlobals mg
  blt : ∃ mb, base.Ns builtinsNs mb ∧ ∀ x : Str, x ≠ "__name__" → mb x = bootBuiltins x
  nolimit : base.NoLimit

/-- the context: a def's body (or a comprehension's block) running. base: fixed through the whole law; s₀, H₀: the entry; outer: the frames whose slots others may change (a def's callers); stack: all frames that run;
   ex: iterators that were made ahead of the entry and are walked here (a comprehension's); fn: the names whose cells were made at the entry (a def: all; a comprehension's block: its own); calm: not within an except suite; pn: pins that every state bears; xe: what is wanted of an exception that leaves the code -/
structure Cx where
  prog : Program
  w : World
  K : PySem.W.Frag
  mg : Str → Option Value
  base : Heap
  A : Around
  N : List Str
  s₀ : Shared
  H₀ : Hp
  env : Env
  outer : List Env
  stack : List Env
  ex : List Addr
  fn : Str → Bool
  calm : Bool
  pn : List (Addr × Obj)
  xe : Value → Shared → Prop
/-- the callers' frames -/
def frs (l : List Env) : List Addr := l.filterMap (·.frame)
abbrev Cx.fs (X : Cx) : List Addr := frs X.outer

def Vis (sc : Scope) (x : Str) : Prop := sc.names.lookup x = some .local ∨ sc.names.lookup x = some .cell ∨ sc.names.lookup x = some .free
def Loc (sc : Scope) (x : Str) : Prop := sc.names.lookup x = some .local ∨ sc.names.lookup x = some .cell
def Look (env : Env) (h : Heap) (m : Str → Option Value) (x : Str) (u : Value) : Prop :=
  (env.kindOf x = some .local ∧ m x = some u) ∨ ((env.kindOf x = some .cell ∨ env.kindOf x = some .free) ∧ ∃ c, env.cells.lookup x = some c ∧ h.IsCell c (some u))

structure Cx.Ok (X : Cx) : Prop where
  mod : Mod X.K X.mg X.base
  kind : X.env.scope.kind = .function
  glob : X.env.globals = mainGlobals
  blt : X.env.builtins = builtinsNs
  above : X.s₀.heap.objs.size ≤ X.env.locals
  inj : ∀ x y c, X.env.cells.lookup x = some c → X.env.cells.lookup y = some c → x = y
  has : ∀ x, (X.env.kindOf x = some .cell ∨ X.env.kindOf x = some .free) → ∃ c, X.env.cells.lookup x = some c
  cab : ∀ x c, X.fn x = true → X.env.cells.lookup x = some c → X.s₀.heap.objs.size ≤ c
  hd : X.calm = true → X.A.handled = none
  frames : X.A.frames = some X.stack
  stk : X.stack = X.outer ∨ (X.stack = X.env :: X.outer ∧ X.env.frame = some X.env.locals)
  exf : ∀ b ∈ X.ex, b ≠ X.env.locals ∧ ∀ x c, X.env.cells.lookup x = some c → c ≠ b
  bs : ∀ b o, X.base.get? b = some o → X.s₀.heap.get? b = some o ∧ X.H₀ b = none
  bsz : X.base.objs.size ≤ X.s₀.heap.objs.size
  noex : ∀ b o, X.base.get? b = some o → b ∉ X.ex
  exfs : ∀ b ∈ X.ex, b ∉ X.fs
  funs : X.s₀.heap.FunFrames X.base X.outer
  frf : ∀ b ∈ X.fs, X.H₀ b = none

structure Inv (X : Cx) (pins : List (Addr × Obj)) (σ : List (Option V)) (H : Hp) (s : Shared) : Prop where
  ok : X.Ok
  os : s.os = X.s₀.os
  bare : AllBare s.gens
  base : Un X.fs X.ex X.H₀ H X.s₀.heap s.heap
  loc : ∃ m, s.heap.Ns X.env.locals m ∧ ∀ (i : Nat) (x : Str) (v : V), X.N[i]? = some x → σ[i]? = some (some v) → Vis X.env.scope x → ∃ u, RelV v u ∧ Look X.env s.heap m x u
  cell : ∀ x c, X.env.cells.lookup x = some c → ∃ v, s.heap.IsCell c v
  free : H X.env.locals = none
  freeC : ∀ x c, X.env.cells.lookup x = some c → H c = none
  pin : ∀ p ∈ X.pn ++ pins, s.heap.get? p.1 = some p.2 ∧ H p.1 = none ∧ p.1 ≠ X.env.locals ∧ p.1 ∉ X.fs ∧ ∀ v, p.2.data ≠ .cell v
  hok : HOk X.prog X.w H s.heap
  len : σ.length = X.N.length

section
variable {X : Cx} {pins : List (Addr × Obj)} {σ : List (Option V)} {H H' : Hp} {s : Shared} {h' : Heap}

theorem Cx.Ok.nofr (ok : X.Ok) {b : Addr} {o : Obj} (e : X.base.get? b = some o) : b ∉ X.fs := fun hb => by
  have := (ok.funs.mem hb).1
  rw [e] at this; cases this
theorem Inv.bs (I : Inv X pins σ H s) : ∀ b o, X.base.get? b = some o → s.heap.get? b = some o ∧ H b = none := fun b o e =>
  ⟨I.base.keep b o (I.ok.bs b o e).1 (I.ok.bs b o e).2 (I.ok.nofr e) (I.ok.noex b o e), I.base.free b o (I.ok.bs b o e).1 (I.ok.bs b o e).2 (I.ok.noex b o e)⟩
theorem Inv.bk (I : Inv X pins σ H s) : ∀ b o, X.base.get? b = some o → s.heap.get? b = some o := fun b o e => (I.bs b o e).1
theorem Inv.mod (I : Inv X pins σ H s) : Mod X.K X.mg X.base := I.ok.mod
theorem Inv.kIn (I : Inv X pins σ H s) : X.K.In s.heap := I.ok.mod.kin.keeps I.bk
theorem Inv.lt (I : Inv X pins σ H s) : X.env.locals < s.heap.objs.size := let ⟨_, hn, _⟩ := I.loc; hn.lt
theorem Inv.sz (I : Inv X pins σ H s) : X.s₀.heap.objs.size ≤ s.heap.objs.size := Nat.le_trans I.ok.above (Nat.le_of_lt I.lt)
theorem Inv.nofs (I : Inv X pins σ H s) {a : Addr} (h : s.heap.objs.size ≤ a) : a ∉ X.fs := fun hb => by
  obtain ⟨_, o, ho, _⟩ := I.ok.funs.mem hb
  exact absurd (Nat.lt_of_lt_of_le (Heap.lt_size ho) (Nat.le_trans I.sz h)) (Nat.lt_irrefl _)
theorem Inv.cne (I : Inv X pins σ H s) : ∀ x c, X.env.cells.lookup x = some c → c ≠ X.env.locals := fun x c e z => by
  obtain ⟨v, o, ho, hd⟩ := I.cell x c e
  obtain ⟨m, ⟨o', es, ep, ho', hd', _⟩, _⟩ := I.loc
  rw [z, ho'] at ho; cases ho; rw [hd'] at hd; cases hd
theorem Inv.funs (I : Inv X pins σ H s) : s.heap.FunFrames X.base X.outer := by
  have all : ∀ (l : List Env), (∀ b ∈ frs l, b ∈ X.fs) → X.s₀.heap.FunFrames X.base l → s.heap.FunFrames X.base l := by
    intro l
    induction l with
    | nil => intro _ _; trivial
    | cons env r ih =>
      intro hs hl
      obtain ⟨hk, ⟨L, o, hf, hn, ho, hd⟩, hr⟩ := hl
      have hL : L ∈ X.fs := hs L (by unfold frs; rw [List.filterMap_cons, hf]; exact List.mem_cons_self)
      obtain ⟨sl, e⟩ := I.base.slot L o ho (I.ok.frf L hL) hL fun z => I.ok.exfs L z hL
      exact ⟨hk, ⟨L, _, hf, hn, e, hd⟩, ih (fun b hb => hs b (by unfold frs; rw [List.filterMap_cons, hf]; exact List.mem_cons_of_mem _ hb)) hr⟩
  exact all X.outer (fun _ hb => hb) I.ok.funs

/-- the frames that run, for a call -/
theorem Inv.stack (I : Inv X pins σ H s) : s.heap.FunFrames X.base X.stack := by
  rcases I.ok.stk with e | ⟨e, hf⟩
  · rw [e]; exact I.funs
  · rw [e]
    obtain ⟨m, hn, _⟩ := I.loc
    refine .cons (by rw [I.ok.kind]; decide) hf hn ?_ I.funs
    exact Heap.get?_none_of_le (Nat.le_trans I.ok.bsz I.ok.above)
theorem Inv.stkSub (I : Inv X pins σ H s) : ∀ b ∈ frs X.stack, b ∈ X.env.locals :: X.fs := fun b hb => by
  rcases I.ok.stk with e | ⟨e, hf⟩
  · rw [e] at hb; exact List.mem_cons_of_mem _ hb
  · rw [e] at hb
    unfold frs at hb
    rw [List.filterMap_cons, hf] at hb
    exact hb
theorem Inv.stkFree (I : Inv X pins σ H s) : ∀ b ∈ frs X.stack, H b = none := fun b hb => by
  rcases List.mem_cons.mp (I.stkSub b hb) with e | hb
  · rw [e]; exact I.free
  · obtain ⟨_, o, ho, _⟩ := I.ok.funs.mem hb
    exact I.base.free b o ho (I.ok.frf b hb) fun z => I.ok.exfs b z hb

/-- THE STEP: the untracked objects but the frame and the records at ch are kept (the callers' frames up to slots), the frame's map is kept, the new abstract heap is held -/
theorem Inv.step {g' : Array GenState} {t' : Nat} {d' : Drawn} {ch : List Addr} (I : Inv X pins σ H s)
    (hch : ∀ b ∈ ch, (b ∈ X.ex ∨ X.s₀.heap.objs.size ≤ b) ∧ b ≠ X.env.locals ∧ (∀ x c, X.env.cells.lookup x = some c → c ≠ b) ∧ ∀ p ∈ X.pn ++ pins, p.1 ≠ b)
    (keep : ∀ b o, b ≠ X.env.locals → b ∉ X.fs → b ∉ ch → s.heap.get? b = some o → H b = none → h'.get? b = some o)
    (slot : ∀ b o, b ≠ X.env.locals → b ∈ X.fs → b ∉ ch → s.heap.get? b = some o → H b = none → ∃ sl, h'.get? b = some { o with slots := sl }) (free : ∀ b o, b ∉ ch → s.heap.get? b = some o → H b = none → H' b = none)
    (there : ∀ b o, b ∉ ch → s.heap.get? b = some o → ∃ o', h'.get? b = some o')
    (tups : ∀ b xs, H b = some (.tup xs) → H' b = some (.tup xs)) (frzs : ∀ b o u, H b = some (.frz o u) → H' b = some (.frz o u)) (tbls : ∀ b ps, H b = some (.tbl ps) → ∃ more, H' b = some (.tbl (ps ++ more)))
    (ns : ∀ m, s.heap.Ns X.env.locals m → h'.Ns X.env.locals m) (hok : HOk X.prog X.w H' h') (hg : AllBare g') :
    Inv X pins σ H' { s with heap := h', gens := g', drawn := d', toks := t' } := by
  have neL : ∀ b o, X.s₀.heap.get? b = some o → b ≠ X.env.locals := fun b o e => Nat.ne_of_lt (Nat.lt_of_lt_of_le (Heap.lt_size e) I.ok.above)
  have neC : ∀ b o, X.s₀.heap.get? b = some o → b ∉ X.ex → b ∉ ch := fun b o e hx hb => by
    rcases (hch b hb).1 with z | z
    · exact hx z
    · exact absurd (Nat.lt_of_lt_of_le (Heap.lt_size e) z) (Nat.lt_irrefl _)
  have cellK : ∀ x c, X.env.cells.lookup x = some c → ∀ v, s.heap.IsCell c v → h'.IsCell c v := fun x c e v ⟨o, ho, hd⟩ => by
    have nch : c ∉ ch := fun z => (hch c z).2.2.1 x c e rfl
    by_cases hc : c ∈ X.fs
    · obtain ⟨sl, q⟩ := slot c o (I.cne x c e) hc nch ho (I.freeC x c e)
      exact ⟨_, q, hd⟩
    · exact ⟨o, keep c o (I.cne x c e) hc nch ho (I.freeC x c e), hd⟩
  refine ⟨I.ok, I.os, hg, ⟨fun b o e n hb hx => ?_, fun b o e n hb hx => ?_, fun b o e n hx => ?_, fun b o e hx => ?_, fun b xs e => tups b xs (I.base.tups b xs e), fun b o xs e => frzs b o xs (I.base.frzs b o xs e), fun b ps e => ?_⟩, ?_, fun x c e => ?_, ?_, fun x c e => ?_, fun p hp => ?_, hok, I.len⟩
  · exact keep b o (neL b o e) hb (neC b o e hx) (I.base.keep b o e n hb hx) (I.base.free b o e n hx)
  · obtain ⟨sl, e1⟩ := I.base.slot b o e n hb hx
    obtain ⟨sl', e2⟩ := slot b _ (neL b o e) hb (neC b o e hx) e1 (I.base.free b o e n hx)
    exact ⟨sl', e2⟩
  · obtain ⟨o', e1⟩ := I.base.there b o e hx
    exact free b o' (neC b o e hx) e1 (I.base.free b o e n hx)
  · obtain ⟨o', e1⟩ := I.base.there b o e hx
    exact there b o' (neC b o e hx) e1
  · obtain ⟨m1, e1⟩ := I.base.tbls b ps e
    obtain ⟨m2, e2⟩ := tbls b _ e1
    exact ⟨m1 ++ m2, by rw [e2, Array.append_assoc]⟩
  · obtain ⟨m, hn, hl⟩ := I.loc
    refine ⟨m, ns m hn, fun i x v e1 e2 e3 => ?_⟩
    obtain ⟨u, r, l⟩ := hl i x v e1 e2 e3
    refine ⟨u, r, ?_⟩
    rcases l with l | ⟨k, c, e, z⟩
    · exact .inl l
    · exact .inr ⟨k, c, e, cellK x c e _ z⟩
  · obtain ⟨v, z⟩ := I.cell x c e
    exact ⟨v, cellK x c e v z⟩
  · obtain ⟨m, ⟨o, _, _, ho, _⟩, _⟩ := I.loc
    exact free _ o (fun z => (hch _ z).2.1 rfl) ho I.free
  · obtain ⟨v, o, ho, hd⟩ := I.cell x c e
    exact free c o (fun z => (hch c z).2.2.1 x c e rfl) ho (I.freeC x c e)
  · obtain ⟨e, n, ne, nf, d⟩ := I.pin p hp
    have nch : p.1 ∉ ch := fun z => (hch p.1 z).2.2.2 p hp rfl
    exact ⟨keep p.1 p.2 ne nf nch e n, free p.1 p.2 nch e n, ne, nf, d⟩
/-- .. where the frame's own object is kept too -/
theorem Inv.un {t' : Nat} (I : Inv X pins σ H s) (u : Un X.fs [] H H' s.heap h') (hok : HOk X.prog X.w H' h') : Inv X pins σ H' { s with heap := h', toks := t' } := by
  obtain ⟨m, ⟨o, es, ep, ho, r⟩, _⟩ := id I.loc
  obtain ⟨sl, hL⟩ := u.any ho I.free (by simp)
  exact I.step (g' := s.gens) (d' := s.drawn) (ch := []) (fun _ z => nomatch z) (fun b o _ hb _ e n => u.keep b o e n hb (by simp)) (fun b o _ hb _ e n => u.slot b o e n hb (by simp)) (fun b o _ e n => u.free b o e n (by simp)) (fun b o _ e => u.there b o e (by simp)) u.tups u.frzs u.tbls (fun m' hm => by
    obtain ⟨o', es', ep', ho', r'⟩ := hm
    rw [ho] at ho'; cases ho'
    exact ⟨_, es', ep', hL, r'⟩) hok I.bare
/-- behind a call (or a comprehension's block): the slots of this frame may have changed too, the records at ch may have turned -/
theorem Inv.call {g' : Array GenState} {t' : Nat} {d' : Drawn} {ch : List Addr} (I : Inv X pins σ H s) (u : Un (frs X.stack) ch H H' s.heap h') (hok : HOk X.prog X.w H' h') (hg : AllBare g')
    (hch : ∀ b ∈ ch, (b ∈ X.ex ∨ X.s₀.heap.objs.size ≤ b) ∧ b ≠ X.env.locals ∧ (∀ x c, X.env.cells.lookup x = some c → c ≠ b) ∧ ∀ p ∈ X.pn ++ pins, p.1 ≠ b) :
    Inv X pins σ H' { s with heap := h', gens := g', drawn := d', toks := t' } := by
  obtain ⟨m, ⟨o, es, ep, ho, r⟩, _⟩ := id I.loc
  obtain ⟨sl, hL⟩ := u.any ho I.free fun z => (hch _ z).2.1 rfl
  exact I.step (ch := ch) hch (fun b o hL hb hc e n => u.keep b o e n (fun z => (List.mem_cons.mp (I.stkSub b z)).elim hL hb) hc) (fun b o _ _ hc e n => u.any e n hc) (fun b o hc e n => u.free b o e n hc) (fun b o hc e => u.there b o e hc) u.tups u.frzs u.tbls (fun m' hm => by
    obtain ⟨o', es', ep', ho', r'⟩ := hm
    rw [ho] at ho'; cases ho'
    exact ⟨_, es', ep', hL, r'⟩) hok hg
/-- an untracked record of ours (an iterator) has turned -/
theorem Inv.turned {t' : Nat} {it : Addr} (I : Inv X pins σ H s) (k : ∀ b o, b ≠ it → s.heap.get? b = some o → h'.get? b = some o) (hn : H it = none) (hL : it ≠ X.env.locals)
    (h1 : it ∈ X.ex ∨ X.s₀.heap.objs.size ≤ it) (h2 : ∀ x c, X.env.cells.lookup x = some c → c ≠ it) (h3 : ∀ p ∈ X.pn ++ pins, p.1 ≠ it) : Inv X pins σ H { s with heap := h', toks := t' } := by
  have nit : ∀ b u, H b = some u → b ≠ it := fun b u e z => by rw [z, hn] at e; cases e
  refine I.step (g' := s.gens) (d' := s.drawn) (ch := [it]) (fun b hb => ?_) (fun b o _ _ hc e _ => k b o (fun z => hc (by simp [z])) e) (fun b o _ _ hc e _ => ⟨o.slots, k b o (fun z => hc (by simp [z])) e⟩) (fun _ _ _ _ n => n)
    (fun b o hc e => ⟨o, k b o (fun z => hc (by simp [z])) e⟩) (fun _ _ e => e) (fun _ _ _ e => e) (fun b ps e => ⟨#[], by rw [e]; simp⟩) (fun m hm => ?_) (fun b u e => ?_) I.bare
  · have e : b = it := by simpa using hb
    subst e
    exact ⟨h1, hL, h2, h3⟩
  · obtain ⟨o, es, ep, ho, r⟩ := hm
    exact ⟨o, es, ep, k _ o (Ne.symm hL) ho, r⟩
  · refine (I.hok b u e).stay (fun c v hc q => k c v ?_ q) (fun _ q => q) fun _ _ q => q
    rcases hc with z | z
    · rw [z]; exact nit b u e
    · exact nit c _ z
theorem Inv.tok (I : Inv X pins σ H s) (t : Nat) : Inv X pins σ H { s with toks := t } := I.un (h' := s.heap) (t' := t) Un.refl I.hok
/-- all objects kept -/
theorem Inv.kept {t' : Nat} (I : Inv X pins σ H s) (k : ∀ b u, s.heap.get? b = some u → h'.get? b = some u) : Inv X pins σ H { s with heap := h', toks := t' } := I.un (Un.kept k) (I.hok.kept k)
/-- a new object laid and tracked -/
theorem Inv.laid {a : Addr} {o : HO} {t' : Nat} (I : Inv X pins σ H s) (k : ∀ b u, s.heap.get? b = some u → h'.get? b = some u) (hp : s.heap.objs.size ≤ a) (new : ObjOk X.prog X.w (upd H a o) h' a o) :
    Inv X pins σ (upd H a o) { s with heap := h', toks := t' } := I.un (Un.laid k hp (I.hok.fresh hp)) (I.hok.laid k hp new)
/-- an object written -/
theorem Inv.write {x e : Addr} {o : HO} {t' : Nat} (I : Inv X pins σ H s) (mu : Mut (H x)) (he : e = x ∨ H e = some (.own x)) (k : ∀ b u, b ≠ e → s.heap.get? b = some u → h'.get? b = some u) (heo : ∃ u, h'.get? e = some u)
    (new : ObjOk X.prog X.w (upd H x o) h' x o) : Inv X pins σ (upd H x o) { s with heap := h', toks := t' } := I.un (Un.write mu he k heo) (I.hok.write mu he k heo new)
/-- forgetting slots, pins -/
theorem Inv.weak {σ' : List (Option V)} (I : Inv X pins σ H s) (hl : σ'.length = σ.length) (w : ∀ (i : Nat) v, σ'[i]? = some (some v) → σ[i]? = some (some v)) : Inv X pins σ' H s :=
  ⟨I.ok, I.os, I.bare, I.base, let ⟨m, hn, hl'⟩ := I.loc; ⟨m, hn, fun i x v e1 e2 e3 => hl' i x v e1 (w i v e2) e3⟩, I.cell, I.free, I.freeC, I.pin, I.hok, hl.trans I.len⟩
theorem Inv.pins_of {pins' : List (Addr × Obj)} (I : Inv X pins σ H s) (h : ∀ p ∈ pins', s.heap.get? p.1 = some p.2 ∧ H p.1 = none ∧ p.1 ≠ X.env.locals ∧ p.1 ∉ X.fs ∧ ∀ v, p.2.data ≠ .cell v) : Inv X pins' σ H s :=
  ⟨I.ok, I.os, I.bare, I.base, I.loc, I.cell, I.free, I.freeC, fun p hp => (List.mem_append.mp hp).elim (fun z => I.pin p (List.mem_append_left _ z)) (h p), I.hok, I.len⟩

theorem nodup_ix {N : List Str} (hN : N.Nodup) {i j : Nat} {x : Str} (a : N[i]? = some x) (b : N[j]? = some x) : i = j := by
  obtain ⟨h1, e1⟩ := List.getElem?_eq_some_iff.mp a
  obtain ⟨h2, e2⟩ := List.getElem?_eq_some_iff.mp b
  exact (List.getElem_inj hN).mp (e1.trans e2.symm)

/-- a name is stored; what changed -/
theorem store_ok2 {M : Model} {A : Around} {E : Value → Shared → Prop} {i : Nat} {x : Str} {v : V} {u : Value} {Q : Unit → Shared → Prop} (I : Inv X pins σ H s) (hN : X.N.Nodup) (hi : X.N[i]? = some x) (hx : Loc X.env.scope x) (r : RelV v u)
    (h : ∀ s', Inv X pins (σ.set i (some v)) H s' → (∃ a, Heap.SameBut a s.heap s'.heap ∧ (a = X.env.locals ∨ X.env.cells.lookup x = some a)) → Q () s') (hf : X.fn x = true ∨ X.env.scope.names.lookup x = some .local := by first | exact .inl rfl | exact .inr rfl | assumption) : wpAny M A (storeName X.env x u) Q E s := by
  obtain ⟨m, hn, hl⟩ := id I.loc
  have hcls : (X.env.scope.kind == .class || (X.env.scope.kind == .module && X.env.locals != X.env.globals)) = false := by rw [I.ok.kind]; rfl
  have hiσ : i < σ.length := by rw [I.len]; exact (List.getElem?_eq_some_iff.mp hi).1
  have cne := I.cne
  have tracked : ∀ {a : Addr} {h' : Heap}, (∃ o, s.heap.get? a = some o ∧ H a = none) → Heap.SameBut a s.heap h' → HOk X.prog X.w H h' := fun {a h'} ha hs b ob e => by
    obtain ⟨_, _, hfree⟩ := ha
    refine (I.hok b ob e).stay (fun c w' hc q => (hs.2 c ?_).trans q) (fun _ q => q) fun _ _ q => q
    rintro rfl
    rcases hc with rfl | hc
    · rw [hfree] at e; cases e
    · rw [hfree] at hc; cases hc
  rcases hx with hk | hk
  · refine wpAny_storeName_local hk hn (fun h' hn' hs => ?_) hcls
    obtain ⟨oL, _, _, hoL, _⟩ := id hn
    refine h _ ⟨I.ok, I.os, I.bare, ⟨fun b o e n hb hx => ?_, fun b o e n hb hx => ?_, I.base.free, fun b o e hx => ?_, I.base.tups, I.base.frzs, I.base.tbls⟩, ⟨_, hn', fun j y v' e1 e2 e3 => ?_⟩, fun y c e => ?_, I.free, I.freeC, fun p hp => ?_, tracked ⟨oL, hoL, I.free⟩ hs, by simpa using I.len⟩ ⟨_, hs, .inl rfl⟩
    · exact (hs.2 b (Nat.ne_of_lt (Nat.lt_of_lt_of_le (Heap.lt_size e) I.ok.above))).trans (I.base.keep b o e n hb hx)
    · obtain ⟨sl, e1⟩ := I.base.slot b o e n hb hx
      exact ⟨sl, (hs.2 b (Nat.ne_of_lt (Nat.lt_of_lt_of_le (Heap.lt_size e) I.ok.above))).trans e1⟩
    · obtain ⟨o', e1⟩ := I.base.there b o e hx
      exact ⟨o', (hs.2 b (Nat.ne_of_lt (Nat.lt_of_lt_of_le (Heap.lt_size e) I.ok.above))).trans e1⟩
    · by_cases hj : j = i
      · subst hj
        rw [hi] at e1; cases e1
        rw [List.getElem?_set_self hiσ] at e2
        cases e2
        exact ⟨u, r, .inl ⟨hk, by simp⟩⟩
      · rw [List.getElem?_set_ne (Ne.symm hj)] at e2
        obtain ⟨u', r', q⟩ := hl j y v' e1 e2 e3
        refine ⟨u', r', ?_⟩
        rcases q with ⟨k, e⟩ | ⟨k, c, e, z⟩
        · refine .inl ⟨k, ?_⟩
          have : y ≠ x := fun e => hj (nodup_ix hN e1 (e ▸ hi))
          simp [this, e]
        · exact .inr ⟨k, c, e, z.sameBut hs (cne y c e)⟩
    · obtain ⟨w', z⟩ := I.cell y c e
      exact ⟨w', z.sameBut hs (cne y c e)⟩
    · obtain ⟨e, n, ne, nf, d⟩ := I.pin p hp
      exact ⟨(hs.2 p.1 ne).trans e, n, ne, nf, d⟩
  · have hfn : X.fn x = true := by
      rcases hf with z | z
      · exact z
      · rw [z] at hk; cases hk
    obtain ⟨c, hc⟩ := I.ok.has x (.inl hk)
    obtain ⟨w', z⟩ := I.cell x c hc
    refine wpAny_storeName_cell I.ok.kind hk hc z (fun h' hc' hs => ?_)
    obtain ⟨oc, hoc, hocd⟩ := id z
    refine h { s with heap := h' } ⟨I.ok, I.os, I.bare, ⟨fun b o e n hb hx => ?_, fun b o e n hb hx => ?_, I.base.free, fun b o e hx => ?_, I.base.tups, I.base.frzs, I.base.tbls⟩, ⟨m, hn.sameBut hs (Ne.symm (cne x c hc)), fun j y v' e1 e2 e3 => ?_⟩, fun y c' e => ?_, I.free, I.freeC, fun p hp => ?_, tracked ⟨oc, hoc, I.freeC x c hc⟩ hs, by simpa using I.len⟩ ⟨c, hs, .inr hc⟩
    · exact (hs.2 b (Nat.ne_of_lt (Nat.lt_of_lt_of_le (Heap.lt_size e) (I.ok.cab x c hfn hc)))).trans (I.base.keep b o e n hb hx)
    · obtain ⟨sl, e1⟩ := I.base.slot b o e n hb hx
      exact ⟨sl, (hs.2 b (Nat.ne_of_lt (Nat.lt_of_lt_of_le (Heap.lt_size e) (I.ok.cab x c hfn hc)))).trans e1⟩
    · obtain ⟨o', e1⟩ := I.base.there b o e hx
      exact ⟨o', (hs.2 b (Nat.ne_of_lt (Nat.lt_of_lt_of_le (Heap.lt_size e) (I.ok.cab x c hfn hc)))).trans e1⟩
    · by_cases hj : j = i
      · subst hj
        rw [hi] at e1; cases e1
        rw [List.getElem?_set_self hiσ] at e2
        cases e2
        exact ⟨u, r, .inr ⟨.inl hk, c, hc, hc'⟩⟩
      · rw [List.getElem?_set_ne (Ne.symm hj)] at e2
        obtain ⟨u', r', q⟩ := hl j y v' e1 e2 e3
        refine ⟨u', r', ?_⟩
        rcases q with q | ⟨k, c', e, z'⟩
        · exact .inl q
        · refine .inr ⟨k, c', e, z'.sameBut hs ?_⟩
          rintro rfl
          exact hj (nodup_ix hN e1 (I.ok.inj _ _ _ e hc ▸ hi))
    · by_cases hcc : c' = c
      · subst hcc; exact ⟨_, hc'⟩
      · obtain ⟨w2, z2⟩ := I.cell y c' e
        exact ⟨w2, z2.sameBut hs hcc⟩
    · obtain ⟨e, n, ne, nf, d⟩ := I.pin p hp
      refine ⟨(hs.2 p.1 ?_).trans e, n, ne, nf, d⟩
      intro q
      rw [q, hoc] at e
      have q' : oc = p.2 := Option.some.inj e
      exact d w' (by rw [← q']; exact hocd)
theorem store_ok {M : Model} {A : Around} {E : Value → Shared → Prop} {i : Nat} {x : Str} {v : V} {u : Value} {Q : Unit → Shared → Prop} (I : Inv X pins σ H s) (hN : X.N.Nodup) (hi : X.N[i]? = some x) (hx : Loc X.env.scope x) (r : RelV v u)
    (h : ∀ s', Inv X pins (σ.set i (some v)) H s' → Q () s') (hf : X.fn x = true ∨ X.env.scope.names.lookup x = some .local := by first | exact .inl rfl | exact .inr rfl | assumption) : wpAny M A (storeName X.env x u) Q E s :=
  store_ok2 I hN hi hx r (fun s' I' _ => h s' I') hf
/-- behind a call or a block, the state as it is -/
theorem Inv.call' {s' : Shared} {ch : List Addr} (I : Inv X pins σ H s) (ho : s'.os = s.os) (u : Un (frs X.stack) ch H H' s.heap s'.heap) (hok : HOk X.prog X.w H' s'.heap) (hg : AllBare s'.gens)
    (hch : ∀ b ∈ ch, (b ∈ X.ex ∨ X.s₀.heap.objs.size ≤ b) ∧ b ≠ X.env.locals ∧ (∀ x c, X.env.cells.lookup x = some c → c ≠ b) ∧ ∀ p ∈ X.pn ++ pins, p.1 ≠ b) : Inv X pins σ H' s' := by
  obtain ⟨h', g', d', t', o'⟩ := s'
  have e : o' = s.os := ho
  subst e
  exact I.call (g' := g') (t' := t') (d' := d') u hok hg hch
end

/-! ### the judgements -/
/-- an exception: its class, its own dict's address (where it has one), the abstract heap behind it -/
abbrev XK := Value → Option Addr → Hp → Prop
abbrev St := List (Option V)
abbrev VK := V → Hp → Prop
/-- an expression's reading; a test's; an argument list's -/
abbrev TE := St → Hp → VK → Prop
abbrev TT := St → Hp → (Bool → Hp → Prop) → Prop
abbrev TA := St → Hp → (List V → Hp → Prop) → Prop
/-- what is wanted behind a statement -/
structure Ends where
  nx : St → Hp → Prop
  rt : VK
  bk : St → Hp → Prop := fun _ _ => False
  ct : St → Hp → Prop := fun _ _ => False
abbrev TS := Ends → St → Hp → Prop

def EP (X : Cx) (pins : List (Addr × Obj)) (σ : St) (Q : VK) (u : Value) (s' : Shared) : Prop := ∃ v H', Inv X pins σ H' s' ∧ RelV v u ∧ Q v H'
def TP (X : Cx) (pins : List (Addr × Obj)) (σ : St) (Q : Bool → Hp → Prop) (b : Bool) (s' : Shared) : Prop := ∃ H', Inv X pins σ H' s' ∧ Q b H'
def AP (X : Cx) (pins : List (Addr × Obj)) (σ : St) (Q : List V → Hp → Prop) (us : List Value) (s' : Shared) : Prop := ∃ vs H', Inv X pins σ H' s' ∧ Vals vs us ∧ Q vs H'
def SP (X : Cx) (pins : List (Addr × Obj)) (D : Ends) (f : Flow) (s' : Shared) : Prop :=
  match f with
  | .next => ∃ σ' H', Inv X pins σ' H' s' ∧ D.nx σ' H'
  | .brk => ∃ σ' H', Inv X pins σ' H' s' ∧ D.bk σ' H'
  | .cont => ∃ σ' H', Inv X pins σ' H' s' ∧ D.ct σ' H'
  | .ret u => ∃ v σ' H', Inv X pins σ' H' s' ∧ RelV v u ∧ D.rt v H'

def PE (X : Cx) (e : Expr) (t : TE) : Prop :=
  ∀ (pins : List (Addr × Obj)) (s : Shared) (σ : St) (H : Hp) (Q : VK), Inv X pins σ H s → t σ H Q → wpAny (model X.prog X.w) X.A (eval e X.env) (EP X pins σ Q) X.xe s
def PT (X : Cx) (e : Expr) (t : TT) : Prop :=
  ∀ (pins : List (Addr × Obj)) (s : Shared) (σ : St) (H : Hp) (Q : Bool → Hp → Prop), Inv X pins σ H s → t σ H Q → wpAny (model X.prog X.w) X.A (isTrue e X.env (eval e X.env)) (TP X pins σ Q) X.xe s
/-- a test whatever its 'whole' is (and, or) -/
def PW (X : Cx) (e : Expr) (t : TT) : Prop :=
  ∀ (whole : Sem Value) (pins : List (Addr × Obj)) (s : Shared) (σ : St) (H : Hp) (Q : Bool → Hp → Prop), Inv X pins σ H s → t σ H Q → wpAny (model X.prog X.w) X.A (isTrue e X.env whole) (TP X pins σ Q) X.xe s
theorem PW.pt {X : Cx} {e : Expr} {t : TT} (h : PW X e t) : PT X e t := h _
/-- an argument list (no star), from the left -/
def PA (X : Cx) (es : List Expr) (t : TA) : Prop :=
  ∀ (pos : Pos) (pins : List (Addr × Obj)) (s : Shared) (σ : St) (H : Hp) (Q : List V → Hp → Prop), Inv X pins σ H s → t σ H Q → wpAny (model X.prog X.w) X.A (spliced (backTo pos (starEach es X.env))) (AP X pins σ Q) X.xe s
def PS (X : Cx) (st : Stmt) (t : TS) : Prop :=
  ∀ (pins : List (Addr × Obj)) (s : Shared) (σ : St) (H : Hp) (D : Ends), Inv X pins σ H s → t D σ H → wpAny (model X.prog X.w) X.A (exec st X.env) (SP X pins D) X.xe s
def PSs (X : Cx) (st : List Stmt) (t : TS) : Prop :=
  ∀ (pins : List (Addr × Obj)) (s : Shared) (σ : St) (H : Hp) (D : Ends), Inv X pins σ H s → t D σ H → wpAny (model X.prog X.w) X.A (execs st X.env) (SP X pins D) X.xe s
/-- weaken the end -/
theorem thn {α : Type} {t : Sem α} {Q Q' : α → Shared → Prop} {M : Model} {A : Around} {E : Value → Shared → Prop} {s : Shared} (h : wpAny M A t Q E s) (hQ : ∀ a s, Q a s → Q' a s) : wpAny M A t Q' E s := wpAny_mono h hQ fun _ _ x => x
end L2

namespace L2
open PySem PySem.Spec PyProof.Rows
section
variable {X : Cx}


/-! ### names and constants -/
def tVar (i : Nat) : TE := fun σ H Q => ∃ v, σ[i]? = some (some v) ∧ Q v H
def tC (v : V) : TE := fun _ H Q => Q v H
theorem pe_var {i : Nat} {x : Str} {pos : Pos} (hN : X.N[i]? = some x) (hv : Vis X.env.scope x) (hd : (x == ("__debug__" : Str)) = false := by decide) (hcd : (x == ("__classdict__" : Str)) = false := by decide) : PE X (.Name x pos) (tVar i) := by
  intro pins s σ H Q I h
  obtain ⟨v, e, h⟩ := h
  obtain ⟨m, hn, hl⟩ := I.loc
  obtain ⟨u, r, l⟩ := hl i x v hN e hv
  have fin : EP X pins σ Q u s := ⟨v, H, I, r, h⟩
  rcases l with ⟨hk, hm⟩ | ⟨hk, c, hc, hcell⟩
  · exact wpAny_Name (wpAny_loadName_local I.ok.kind hk hn hm fin) hd
  · rcases hk with hk | hk
    · exact wpAny_Name (wpAny_loadName_cell I.ok.kind hk hc hcell fin) hd
    · exact wpAny_Name (wpAny_loadName_free I.ok.kind hk hc hcell fin hcd) hd
theorem pe_int {i j pos} : PE X (.Constant (.int i) j pos) (tC (.int i)) := fun _ _ _ H _ I h => wpAny_Constant_int ⟨.int i, H, I.tok _, ⟨_, rfl⟩, h⟩
theorem pe_bl {b j pos} : PE X (.Constant (.bool b) j pos) (tC (.bl b)) := fun _ _ _ H _ I h => Constant_bool ⟨.bl b, H, I, rfl, h⟩

/-- a global name of the def -/
def Gl (X : Cx) (x : Str) : Prop := X.env.kindOf x = some .globalImplicit
theorem ld_glob {E : Value → Shared → Prop} {pins : List (Addr × Obj)} {s : Shared} {σ : St} {H : Hp} {x : Str} {u : Value} {pos : Pos} {Q : Value → Shared → Prop} (I : Inv X pins σ H s) (hg : Gl X x) (hm : X.mg x = some u) (h : Q u s)
    (hd : (x == ("__debug__" : Str)) = false := by decide) : wpAny (model X.prog X.w) X.A (eval (.Name x pos) X.env) Q E s :=
  Calls.Name_function_global I.ok.kind hg (Calls.loadGlobal_global (by rw [I.ok.glob]; exact I.mod.glob.keeps I.bk) hm h) hd
theorem ld_blt {E : Value → Shared → Prop} {pins : List (Addr × Obj)} {s : Shared} {σ : St} {H : Hp} {x : Str} {u : Value} {pos : Pos} {Q : Value → Shared → Prop} (I : Inv X pins σ H s) (hg : Gl X x) (hm : X.mg x = none) (hv : bootBuiltins x = some u) (h : Q u s)
    (hn : x ≠ "__name__" := by decide) (hd : (x == ("__debug__" : Str)) = false := by decide) : wpAny (model X.prog X.w) X.A (eval (.Name x pos) X.env) Q E s := by
  obtain ⟨mb, h1, h2⟩ := I.mod.blt
  exact Calls.Name_function_global I.ok.kind hg (Calls.loadGlobal_builtin (by rw [I.ok.glob]; exact I.mod.glob.keeps I.bk) hm (by rw [I.ok.blt]; exact h1.keeps I.bk) ((h2 x hn).trans hv) h) hd
/-- a module's constant, a class, a function, as a value -/
theorem pe_glob {x : Str} {v : V} {u : Value} {pos : Pos} (hg : Gl X x) (hm : X.mg x = some u) (r : RelV v u) (hd : (x == ("__debug__" : Str)) = false := by decide) : PE X (.Name x pos) (tC v) :=
  fun _ _ _ H _ I h => ld_glob I hg hm ⟨v, H, I, r, h⟩ hd

/-! ### arithmetic -/
variable {a b : Expr} {ta tb : TE} {pos : Pos}

/-! ### comparisons -/
/-- a comparison as a value, as a test -/
def tB (t : TE) : TT := fun σ H Q => t σ H fun x H1 => ∃ c, x = .bl c ∧ Q c H1
/-- an expression whose value is a bool, as a test -/
theorem pt_val {e : Expr} {t : TE} (h : PE X e t) (he : ∀ whole, isTrue e X.env whole = (do let v ← whole; standAt e.pos; holding [v] (truthy v)) := by intro _; rfl) : PT X e (tB t) := by
  intro pins s σ H Q I hw
  refine isTrue_plain (thn (h pins s σ H _ I hw) fun v s1 ⟨x, H1, I1, r1, q1⟩ => ?_) (he _)
  obtain ⟨d, rfl, q⟩ := q1
  cases r1
  exact wpAny_truthy_bool ⟨H1, I1, q⟩

/-! ### and, or, not -/
variable {tA tB' : TT} {rest : List Expr}
def tAnd (t u : TT) : TT := fun σ H Q => t σ H fun c H1 => if c = true then u σ H1 Q else Q false H1
def tOr (t u : TT) : TT := fun σ H Q => t σ H fun c H1 => if c = true then Q true H1 else u σ H1 Q
def tNot (t : TT) : TT := fun σ H Q => t σ H fun c H1 => Q (!c) H1
theorem pw_and1 (ha : PT X a tA) : PW X (.BoolOp .And [a] pos) tA := by
  intro wh pins s σ H Q I h
  refine isTrue_and (thn (ha pins s σ H Q I h) fun c s1 e => ?_)
  cases c with
  | true => exact isTrue_and_nil e
  | false => exact e
theorem pw_or1 (ha : PT X a tA) : PW X (.BoolOp .Or [a] pos) tA := by
  intro wh pins s σ H Q I h
  refine isTrue_or (thn (ha pins s σ H Q I h) fun c s1 e => ?_)
  cases c with
  | false => exact isTrue_or_nil e
  | true => exact e
theorem pw_and (ha : PT X a tA) (hb : PW X (.BoolOp .And (b :: rest) pos) tB') : PW X (.BoolOp .And (a :: b :: rest) pos) (tAnd tA tB') := by
  intro wh pins s σ H Q I h
  refine isTrue_and (thn (ha pins s σ H _ I h) fun c s1 ⟨H1, I1, q1⟩ => ?_)
  cases c with
  | true => exact hb wh pins s1 σ H1 Q I1 q1
  | false => exact ⟨H1, I1, q1⟩
theorem pw_or (ha : PT X a tA) (hb : PW X (.BoolOp .Or (b :: rest) pos) tB') : PW X (.BoolOp .Or (a :: b :: rest) pos) (tOr tA tB') := by
  intro wh pins s σ H Q I h
  refine isTrue_or (thn (ha pins s σ H _ I h) fun c s1 ⟨H1, I1, q1⟩ => ?_)
  cases c with
  | true => exact ⟨H1, I1, q1⟩
  | false => exact hb wh pins s1 σ H1 Q I1 q1
theorem pt_not (ha : PT X a tA) : PT X (.UnaryOp .Not a pos) (tNot tA) := by
  intro pins s σ H Q I h
  exact isTrue_not (ha pins s σ H (fun c H1 => Q (!c) H1) I h)
/-- .. as values (bools) -/
def tAndV (ta tb : TE) : TE := fun σ H Q => ta σ H fun x H1 => ∃ c, x = .bl c ∧ if c = true then tb σ H1 Q else Q (.bl false) H1
def tOrV (ta tb : TE) : TE := fun σ H Q => ta σ H fun x H1 => ∃ c, x = .bl c ∧ if c = true then Q (.bl true) H1 else tb σ H1 Q
theorem pe_one {op} {t : TE} (h : PE X a t) : PE X (.BoolOp op [a] pos) t := fun pins s σ H Q I hw => BoolOp_one (h pins s σ H Q I hw)
theorem pe_and (ha : PE X a ta) (hb : PE X (.BoolOp .And (b :: rest) pos) tb) : PE X (.BoolOp .And (a :: b :: rest) pos) (tAndV ta tb) := by
  intro pins s σ H Q I h
  refine BoolOp_and (thn (ha pins s σ H _ I h) fun v s1 ⟨x, H1, I1, r1, q1⟩ => ?_)
  obtain ⟨c, rfl, q1⟩ := q1
  cases r1
  refine wpAny_truthy_bool ?_
  cases c with
  | true => exact hb pins s1 σ H1 Q I1 q1
  | false => exact ⟨.bl false, H1, I1, rfl, q1⟩
theorem pe_or (ha : PE X a ta) (hb : PE X (.BoolOp .Or (b :: rest) pos) tb) : PE X (.BoolOp .Or (a :: b :: rest) pos) (tOrV ta tb) := by
  intro pins s σ H Q I h
  refine BoolOp_or (thn (ha pins s σ H _ I h) fun v s1 ⟨x, H1, I1, r1, q1⟩ => ?_)
  obtain ⟨c, rfl, q1⟩ := q1
  cases r1
  refine wpAny_truthy_bool ?_
  cases c with
  | false => exact hb pins s1 σ H1 Q I1 q1
  | true => exact ⟨.bl true, H1, I1, rfl, q1⟩
end
end L2

namespace L2
open PySem PySem.Spec PyProof.Rows

/-! ### a list, a tuple that is read: tracked, frozen, or an object of the module -/
def SqL (K : PySem.W.Frag) (H : Hp) (a : Addr) (xs : List V) : Prop :=
  Rd H a (.lst xs) ∨
    ∃ (o : Obj) (its : Array Value) (n : Nat), K.lookup a = some o ∧ o.cls = .type "list" ∧ o.dict = none ∧ o.data = .seq its n ∧ its.size ≤ sizeLine ∧ Vals xs its.toList
def SqT (K : PySem.W.Frag) (H : Hp) (a : Addr) (xs : List V) : Prop :=
  Rd H a (.tup xs) ∨
    ∃ (o : Obj) (its : Array Value) (n : Nat), K.lookup a = some o ∧ o.cls = .type "tuple" ∧ o.data = .seq its n ∧ its.size ≤ sizeLine ∧ Vals xs its.toList
def absV : Value → Option V
  | .none => some .non
  | .bool b => some (.bl b)
  | .int i _ => some (.int i)
  | .str x _ => some (.str x)
  | .bytes b _ => some (.byt b)
  | .float b _ => some (.flt b)
  | .ref a => some (.ref a)
  | .type n => some (.ty n)
  | _ => none
theorem RelV.abs {x : V} {u : Value} (r : RelV x u) : absV u = some x := by
  cases x with
  | non => cases r; rfl
  | bl _ => cases r; rfl
  | int _ => obtain ⟨t, rfl⟩ := r; rfl
  | str _ => obtain ⟨t, rfl⟩ := r; rfl
  | byt _ => obtain ⟨t, rfl⟩ := r; rfl
  | flt _ => obtain ⟨t, rfl⟩ := r; rfl
  | ref _ => cases r; rfl
  | ty _ => cases r; rfl
theorem RelV.inj {x y : V} {u : Value} (r : RelV x u) (q : RelV y u) : x = y := Option.some.inj (r.abs.symm.trans q.abs)
theorem Vals.inj : ∀ {xs ys : List V} {us : List Value}, Vals xs us → Vals ys us → xs = ys
  | _, _, _, .nil, .nil => rfl
  | _, _, _, .cons r t, .cons r' t' => by rw [r.inj r', Vals.inj t t']
section
variable {X : Cx} {pins : List (Addr × Obj)} {σ : St} {H : Hp} {s : Shared} {a : Addr} {xs ys : List V}
theorem SqL.of {K : PySem.W.Frag} (h : H a = some (.lst xs)) : SqL K H a xs := .inl (.inl h)
theorem SqT.of {K : PySem.W.Frag} (h : H a = some (.tup xs)) : SqT K H a xs := .inl (.inl h)
theorem Inv.list (I : Inv X pins σ H s) (h : SqL X.K H a xs) : ∃ its : List Value, Vals xs its ∧ PlainL s.heap a its.toArray ∧ xs.length ≤ sizeLine := by
  rcases h with h | ⟨o, its, n, hk, hc, hd, hs, hz, r⟩
  · obtain ⟨z, its, n, r, e⟩ := h.ok I.hok
    exact ⟨its, r, ⟨_, n, e, rfl, rfl, rfl⟩, z⟩
  · refine ⟨its.toList, r, ⟨o, n, I.kIn a o hk, hc, hd, by simpa using hs⟩, ?_⟩
    have e := r.length
    simp only [Array.length_toList] at e
    omega
theorem Inv.tuple (I : Inv X pins σ H s) (h : SqT X.K H a xs) : ∃ its : List Value, Vals xs its ∧ IsTup s.heap a its.toArray ∧ xs.length ≤ sizeLine := by
  rcases h with h | ⟨o, its, n, hk, hc, hs, hz, r⟩
  · obtain ⟨z, its, r, p⟩ := h.ok I.hok
    exact ⟨its, r, p, z⟩
  · refine ⟨its.toList, r, ⟨o, I.kIn a o hk, hc, n, by simpa using hs⟩, ?_⟩
    have e := r.length
    simp only [Array.length_toList] at e
    omega
theorem Inv.list_inj (I : Inv X pins σ H s) (h : SqL X.K H a xs) (h' : SqL X.K H a ys) : xs = ys := by
  obtain ⟨its, r, ⟨o, n, e, _, _, d⟩, _⟩ := I.list h
  obtain ⟨its', r', ⟨o', n', e', _, _, d'⟩, _⟩ := I.list h'
  rw [e] at e'; cases e'
  rw [d] at d'
  injection d' with d1 _
  have : its = its' := by simpa using congrArg Array.toList d1
  subst this
  exact r.inj r'
end

/-! ### another wish about exceptions -/
abbrev Cx.wish (X : Cx) (E : Value → Shared → Prop) : Cx := { X with xe := E }
/-- no exception leaves -/
abbrev Cx.nox (X : Cx) : Cx := X.wish fun _ _ => False
theorem Cx.Ok.wish {X : Cx} (ok : X.Ok) (E : Value → Shared → Prop) : (X.wish E).Ok :=
  ⟨ok.mod, ok.kind, ok.glob, ok.blt, ok.above, ok.inj, ok.has, ok.cab, ok.hd, ok.frames, ok.stk, ok.exf, ok.bs, ok.bsz, ok.noex, ok.exfs, ok.funs, ok.frf⟩
theorem Cx.Ok.unwish {X : Cx} {E : Value → Shared → Prop} (ok : (X.wish E).Ok) : X.Ok :=
  ⟨ok.mod, ok.kind, ok.glob, ok.blt, ok.above, ok.inj, ok.has, ok.cab, ok.hd, ok.frames, ok.stk, ok.exf, ok.bs, ok.bsz, ok.noex, ok.exfs, ok.funs, ok.frf⟩
section
variable {X : Cx} {pins : List (Addr × Obj)} {σ : St} {H : Hp} {s : Shared} {E : Value → Shared → Prop}
theorem Inv.wish (I : Inv X pins σ H s) (E : Value → Shared → Prop) : Inv (X.wish E) pins σ H s := ⟨I.ok.wish E, I.os, I.bare, I.base, I.loc, I.cell, I.free, I.freeC, I.pin, I.hok, I.len⟩
theorem Inv.unwish (I : Inv (X.wish E) pins σ H s) : Inv X pins σ H s := ⟨I.ok.unwish, I.os, I.bare, I.base, I.loc, I.cell, I.free, I.freeC, I.pin, I.hok, I.len⟩
theorem SP.unwish {D : Ends} {f : Flow} {s' : Shared} (h : SP (X.wish E) pins D f s') : SP X pins D f s' := by
  cases f with
  | next => obtain ⟨σ', H', I, q⟩ := h; exact ⟨σ', H', I.unwish, q⟩
  | brk => obtain ⟨σ', H', I, q⟩ := h; exact ⟨σ', H', I.unwish, q⟩
  | cont => obtain ⟨σ', H', I, q⟩ := h; exact ⟨σ', H', I.unwish, q⟩
  | ret u => obtain ⟨v, σ', H', I, r, q⟩ := h; exact ⟨v, σ', H', I.unwish, r, q⟩
theorem PSs.nox {st : List Stmt} {t : TS} (h : PSs X.nox st t) : PSs X st t := fun pins s σ H D I hw =>
  wpAny_mono (h pins s σ H D (I.wish _) hw) (fun _ _ q => q.unwish) fun _ _ z => False.elim z
end

/-! ### blocks and small statements -/
section
variable {X : Cx} {st : Stmt} {rest : List Stmt} {t u : TS} {e : Expr} {te : TE} {pos : Pos}
def tNext : TS := fun D σ H => D.nx σ H
def tSeq (t u : TS) : TS := fun D σ H => t { D with nx := u D } σ H
theorem pss_nil : PSs X [] tNext := fun _ _ σ H _ I h => wpAny_execs_nil ⟨σ, H, I, h⟩
theorem pss_cons (h1 : PS X st t) (h2 : PSs X rest u) : PSs X (st :: rest) (tSeq t u) := by
  intro pins s σ H D I h
  refine wpAny_execs_cons (thn (h1 pins s σ H { D with nx := u D } I h) fun f s1 q => ?_)
  cases f with
  | next =>
    obtain ⟨σ', H', I', q⟩ := q
    exact h2 pins s1 σ' H' D I' q
  | ret v => exact q
  | brk => exact q
  | cont => exact q
theorem pss_one (h1 : PS X st t) : PSs X [st] t := by
  intro pins s σ H D I h
  refine wpAny_execs_cons (thn (h1 pins s σ H D I h) fun f s1 q => ?_)
  cases f with
  | next => exact wpAny_execs_nil q
  | ret v => exact q
  | brk => exact q
  | cont => exact q
def tCont : TS := fun D σ H => D.ct σ H
theorem ps_continue : PS X (.Continue pos) tCont := fun _ _ σ H _ I h => wpAny_Continue ⟨σ, H, I, h⟩
/-- in a def's body nothing is shown -/
theorem Inv.quiet {pins : List (Addr × Obj)} {σ : St} {H : Hp} {s : Shared} (I : Inv X pins σ H s) : interactive X.env = false := by simp [interactive, I.ok.kind]
/-- an expression whose value is dropped -/
def tDrop (te : TE) : TS := fun D σ H => te σ H fun _ H1 => D.nx σ H1
theorem ps_expr (he : PE X e te) (hs : swapsWith e none pos.line X.env = pure false := by rfl) : PS X (.Expr e pos) (tDrop te) := by
  intro pins s σ H D I h
  exact wpAny_Expr_any (thn (he pins s σ H _ I h) fun v s1 ⟨x, H1, I1, r1, q1⟩ => ⟨σ, H1, I1, q1⟩) I.quiet hs
def tRet (te : TE) : TS := fun D σ H => te σ H D.rt
theorem ps_ret (he : PE X e te) : PS X (.Return (some e) pos) (tRet te) := by
  intro pins s σ H D I h
  exact wpAny_Return_some (thn (he pins s σ H _ I h) fun v s1 ⟨x, H1, I1, r1, q1⟩ => ⟨x, σ, H1, I1, r1, q1⟩)
def tIfS (c : TT) (t u : TS) : TS := fun D σ H => c σ H fun b H1 => if b = true then t D σ H1 else u D σ H1
theorem ps_if {c : Expr} {a b : List Stmt} {tc : TT} (hc : PT X c tc) (ha : PSs X a t) (hb : PSs X b u) : PS X (.If c a b pos) (tIfS tc t u) := by
  intro pins s σ H D I h
  refine wpAny_If (thn (hc pins s σ H _ I h) fun d s1 ⟨H1, I1, q1⟩ => ?_)
  cases d with
  | true => exact ha pins s1 σ H1 D I1 q1
  | false => exact hb pins s1 σ H1 D I1 q1
end

/-! ### targets -/
abbrev TG := V → St → Hp → (St → Hp → Prop) → Prop
abbrev TGs := List V → St → Hp → (St → Hp → Prop) → Prop
def PG (X : Cx) (target : Expr) (t : TG) : Prop :=
  ∀ (pins : List (Addr × Obj)) (s : Shared) (σ : St) (H : Hp) (v : V) (u : Value) (Q : St → Hp → Prop), Inv X pins σ H s → RelV v u → t v σ H Q →
    wpAny (model X.prog X.w) X.A (assign target X.env u) (fun _ s' => ∃ σ' H', Inv X pins σ' H' s' ∧ Q σ' H') X.xe s
/-- several targets, one after another -/
def PGs (X : Cx) (ts : List Expr) (t : TGs) : Prop :=
  ∀ (pins : List (Addr × Obj)) (s : Shared) (σ : St) (H : Hp) (vs : List V) (us : List Value) (Q : St → Hp → Prop), Inv X pins σ H s → Vals vs us → t vs σ H Q →
    wpAny (model X.prog X.w) X.A (assignInOrder ((assignEach ts X.env).map (·.2)) us) (fun _ s' => ∃ σ' H', Inv X pins σ' H' s' ∧ Q σ' H') X.xe s
/-- o[i] = v, by values -/
abbrev TSet := V → V → V → Hp → (Hp → Prop) → Prop
def PSet (X : Cx) (t : TSet) : Prop :=
  ∀ (pins : List (Addr × Obj)) (s : Shared) (σ : St) (H : Hp) (o i v : V) (ov iv u : Value) (Q : Hp → Prop), Inv X pins σ H s → RelV o ov → RelV i iv → RelV v u → t o i v H Q →
    wpAny (model X.prog X.w) X.A (setItem ov iv u) (fun _ s' => ∃ H', Inv X pins σ H' s' ∧ Q H') X.xe s
/-- a op= b, by values -/
abbrev TIp := V → V → Hp → VK → Prop
def PIp (X : Cx) (op : Operator) (t : TIp) : Prop :=
  ∀ (pins : List (Addr × Obj)) (s : Shared) (σ : St) (H : Hp) (x y : V) (v u : Value) (Q : VK), Inv X pins σ H s → RelV x v → RelV y u → t x y H Q →
    wpAny (model X.prog X.w) X.A (inplaceOp op v u) (EP X pins σ Q) X.xe s
section
variable {X : Cx} {pos : Pos}
def gName (i : Nat) : TG := fun v σ H Q => Q (σ.set i (some v)) H
theorem pg_name {i : Nat} {x : Str} (hN : X.N.Nodup) (hi : X.N[i]? = some x) (hx : Loc X.env.scope x) (hf : X.fn x = true ∨ X.env.scope.names.lookup x = some .local := by first | exact .inl rfl | exact .inr rfl | assumption) : PG X (.Name x pos) (gName i) := by
  intro pins s σ H v u Q I r h
  exact wpAny_assign_Name (store_ok I hN hi hx r (fun s' I' => ⟨_, H, I', h⟩) hf)
def gNil : TGs := fun vs σ H Q => vs = [] ∧ Q σ H
def gCons (t : TG) (u : TGs) : TGs := fun vs σ H Q => ∃ v r, vs = v :: r ∧ t v σ H fun σ' H' => u r σ' H' Q
theorem pgs_nil : PGs X [] gNil := by
  intro pins s σ H vs us Q I r h
  obtain ⟨e, h⟩ := h
  subst e
  cases r
  exact assignInOrder_nil ⟨σ, H, I, h⟩
theorem pgs_cons {e : Expr} {es : List Expr} {t : TG} {u : TGs} (h1 : PG X e t) (h2 : PGs X es u)
    (hs : (assignEach (e :: es) X.env).map (·.2) = assign e X.env :: (assignEach es X.env).map (·.2) := by rfl) : PGs X (e :: es) (gCons t u) := by
  intro pins s σ H vs us Q I r h
  obtain ⟨v, vr, e1, h⟩ := h
  subst e1
  cases r with
  | cons r rr =>
    rw [hs]
    refine assignInOrder_cons (thn (h1 pins s σ H _ _ _ I r h) fun _ s1 ⟨σ1, H1, I1, q1⟩ => ?_)
    exact h2 pins s1 σ1 H1 _ _ Q I1 rr q1
/-- (a, b, ..) = a tuple of that length -/
def gTup (K : PySem.W.Frag) (n : Nat) (t : TGs) : TG := fun v σ H Q => ∃ a xs, v = .ref a ∧ SqT K H a xs ∧ xs.length = n ∧ t xs σ H Q
theorem pg_tup {es : List Expr} {k : Nat} {t : TGs} {n : Nat} (hc : X.calm = true) (h : PGs X es t)
    (hn : (assignEach es X.env).length = n := by rfl) (hst : (assignEach es X.env).findIdx? (·.1) = none := by rfl) : PG X (.Tuple es k pos) (gTup X.K n t) := by
  intro pins s σ H v u Q I r hw
  obtain ⟨a, xs, e1, hq, hl, hw⟩ := hw
  subst e1
  cases r
  obtain ⟨its, rv, ht, hz⟩ := I.tuple hq
  refine assign_Tuple_tuple (I.ok.hd hc) ht (by simp [hn, ← hl, rv.length]) hst fun h' hx => ?_
  have I1 : Inv X pins σ H { s with heap := h' } := I.kept (t' := s.toks) fun b o e => hx b o (Nat.ne_of_lt (Heap.lt_size e)) e
  exact h pins _ σ H xs _ Q I1 (by simpa using rv) hw
/-- o[i] = .. -/
def gSub (to ti : TE) (t : TSet) : TG := fun v σ H Q => to σ H fun o H1 => ti σ H1 fun i H2 => t o i v H2 fun H3 => Q σ H3
theorem pg_sub {o i : Expr} {to ti : TE} {t : TSet} (ho : PE X o to) (hi : PE X i ti) (hs : PSet X t)
    (ha : ∀ v, assign (.Subscript o i pos) X.env v = (do
      let ov ← holding [v] (eval o X.env)
      let iv ← holding [v, ov] (eval i X.env)
      standAt pos
      holding [v, ov, iv] (setItem ov iv v)
      release [v, ov, iv] []) := by intro _; rfl) : PG X (.Subscript o i pos) (gSub to ti t) := by
  intro pins s σ H v u Q I r h
  rw [ha]
  refine wpAny_bind (wpAny_holding (thn (ho pins s σ H _ I h) fun ov s1 ⟨x, H1, I1, r1, q1⟩ => ?_))
  refine wpAny_bind (wpAny_holding (thn (hi pins s1 σ H1 _ I1 q1) fun iv s2 ⟨y, H2, I2, r2, q2⟩ => ?_))
  refine wpAny_bind (wpAny_standAt (wpAny_bind (wpAny_holding (thn (hs pins s2 σ H2 x y v ov iv u _ I2 r1 r2 r q2) fun _ s3 ⟨H3, I3, q3⟩ => ?_))))
  exact wpAny_release ⟨σ, H3, I3, q3⟩
/-- target = value -/
def tAsg (te : TE) (g : TG) : TS := fun D σ H => te σ H fun x H1 => g x σ H1 D.nx
theorem ps_asg {tg e : Expr} {te : TE} {g : TG} (he : PE X e te) (hg : PG X tg g) (hs : swapsWithSole [tg] e pos.line X.env = pure false := by rfl) (hw : swappedStores [tg] e X.env = pure none := by rfl)
    (h1 : (assignEach [tg] X.env).map (·.2) = [assign tg X.env] := by rfl) : PS X (.Assign [tg] e pos) (tAsg te g) := by
  intro pins s σ H D I h
  refine wpAny_Assign_stores (thn (he pins s σ H _ I h) fun v s1 ⟨x, H1, I1, r1, q1⟩ => ?_) hs hw
  rw [h1]
  exact thn (hg pins s1 σ H1 x v _ I1 r1 q1) fun _ s2 q => q
/-- name = value -/
theorem ps_set {i : Nat} {x : Str} {e : Expr} {te : TE} {pos' : Pos} (hN : X.N.Nodup) (hi : X.N[i]? = some x) (hx : Loc X.env.scope x) (he : PE X e te) (hs : swapsWith e (some (.Name x pos')) pos.line X.env = pure false := by rfl) (hf : X.fn x = true ∨ X.env.scope.names.lookup x = some .local := by first | exact .inl rfl | exact .inr rfl | assumption) :
    PS X (.Assign [.Name x pos'] e pos) (tAsg te (gName i)) := by
  intro pins s σ H D I h
  refine wpAny_Assign_Name (thn (he pins s σ H _ I h) fun v s1 ⟨y, H1, I1, r1, q1⟩ => ?_) hs
  exact store_ok I1 hN hi hx r1 (fun s2 I2 => ⟨_, H1, I2, q1⟩) hf
/-- name op= e -/
def tAug (i : Nat) (te : TE) (ti : TIp) : TS := fun D σ H => ∃ x, σ[i]? = some (some x) ∧ te σ H fun y H1 => ti x y H1 fun z H2 => D.nx (σ.set i (some z)) H2
theorem ps_aug {i : Nat} {x : Str} {e : Expr} {te : TE} {op : Operator} {ti : TIp} {pos' : Pos} (hN : X.N.Nodup) (hi : X.N[i]? = some x) (hx : Loc X.env.scope x) (he : PE X e te) (ho : PIp X op ti) (hf : X.fn x = true ∨ X.env.scope.names.lookup x = some .local := by first | exact .inl rfl | exact .inr rfl | assumption) :
    PS X (.AugAssign (.Name x pos') op e pos) (tAug i te ti) := by
  intro pins s σ H D I h
  obtain ⟨v, e1, h⟩ := h
  obtain ⟨m, hn, hl⟩ := I.loc
  have vis : Vis X.env.scope x := by rcases hx with k | k; exact .inl k; exact .inr (.inl k)
  obtain ⟨u, r, l⟩ := hl i x v hi e1 vis
  refine wpAny_AugAssign_Name ?_
  have go : wpAny (model X.prog X.w) X.A (eval e X.env) (fun w s₂ => wpAny (model X.prog X.w) X.A (inplaceOp op u w) (fun r s₃ => wpAny (model X.prog X.w) X.A (storeName X.env x r) (fun _ => SP X pins D .next) X.xe s₃) X.xe s₂) X.xe s := by
    refine thn (he pins s σ H _ I h) fun w s1 ⟨y, H1, I1, r1, q1⟩ => ?_
    refine thn (ho pins s1 σ H1 v y u w _ I1 r r1 q1) fun z s2 ⟨zv, H2, I2, r2, q2⟩ => ?_
    exact store_ok I2 hN hi hx r2 (fun s3 I3 => ⟨_, H2, I3, q2⟩) hf
  rcases l with ⟨hk, hm⟩ | ⟨hk, c, hc, hcell⟩
  · exact wpAny_loadName_local I.ok.kind hk hn hm go
  · rcases hk with hk | hk
    · exact wpAny_loadName_cell I.ok.kind hk hc hcell go
    · rcases hx with k | k
      · have : X.env.scope.names.lookup x = some .free := hk
        rw [k] at this; cases this
      · have : X.env.scope.names.lookup x = some .free := hk
        rw [k] at this; cases this
/-- ints -/
def ipI (f : Int → Int → Int) : TIp := fun x y H Q => ∃ i j, x = .int i ∧ y = .int j ∧ Q (.int (f i j)) H
theorem ip_add : PIp X .Add (ipI fun i j => i + j) := by
  intro pins s σ H x y v u Q I r1 r2 h
  obtain ⟨i, j, e1, e2, q⟩ := h
  subst e1; subst e2
  obtain ⟨t, rfl⟩ := r1
  obtain ⟨t', rfl⟩ := r2
  exact iadd_int ⟨.int _, H, I.tok _, ⟨_, rfl⟩, q⟩
theorem ip_sub : PIp X .Sub (ipI fun i j => i - j) := by
  intro pins s σ H x y v u Q I r1 r2 h
  obtain ⟨i, j, e1, e2, q⟩ := h
  subst e1; subst e2
  obtain ⟨t, rfl⟩ := r1
  obtain ⟨t', rfl⟩ := r2
  exact isub_int ⟨.int _, H, I.tok _, ⟨_, rfl⟩, q⟩
end

/-! ### while -/
section
variable {X : Cx} {pos : Pos}
/-- the invariant W with its measure -/
def tWhile (c : TT) (tb : TS) : TS := fun D σ H => ∃ W : Nat → St → Hp → Prop, (∃ m, W m σ H) ∧ ∀ m σ H, W m σ H →
  c σ H fun b H1 => if b = true then ∃ N : St → Hp → Prop, (∀ σ' H', N σ' H' → ∃ m', m' < m ∧ W m' σ' H') ∧ tb { D with nx := N, ct := N, bk := D.nx } σ H1 else D.nx σ H1
theorem ps_while {c : Expr} {body : List Stmt} {tc : TT} {tb : TS} (hp : PassesOwn (model X.prog X.w) X.A X.env X.xe) (hc : PT X c tc) (hb : PSs X body tb) : PS X (.While c body [] pos) (tWhile tc tb) := by
  intro pins s σ H D I h
  obtain ⟨W, ⟨m0, w0⟩, turn⟩ := h
  refine wpAny_While (codeAny_whileLoop (fun n s' => ∃ σ' H', Inv X pins σ' H' s' ∧ W n σ' H') ?_ m0 ⟨σ, H, I, w0⟩)
  rintro n s1 ⟨σ1, H1, I1, w1⟩
  refine wpAny_passesOwn hp (thn (hc pins s1 σ1 H1 _ I1 (turn n σ1 H1 w1)) fun b s2 ⟨H2, I2, q2⟩ => ?_)
  cases b with
  | true =>
    obtain ⟨N, hN, q2⟩ := q2
    rw [if_pos rfl]
    refine wpAny_passesOwn hp (thn (hb pins s2 σ1 H2 _ I2 q2) fun f s3 q3 => ?_)
    cases f with
    | next =>
      obtain ⟨σ3, H3, I3, n3⟩ := q3
      obtain ⟨m', hm, w3⟩ := hN σ3 H3 n3
      exact ⟨m', hm, σ3, H3, I3, w3⟩
    | cont =>
      obtain ⟨σ3, H3, I3, n3⟩ := q3
      obtain ⟨m', hm, w3⟩ := hN σ3 H3 n3
      exact ⟨m', hm, σ3, H3, I3, w3⟩
    | brk => exact q3
    | ret v => exact q3
  | false =>
    rw [if_neg Bool.false_ne_true]
    exact wpAny_execs_nil ⟨σ1, H2, I2, q2⟩
end

/-! ### what a loop or a comprehension walks -/
/-- at turn i: it yields x (the heap may grow), or it stops -/
structure It where
  go : Nat → Hp → Prop
  yld : Nat → Hp → V → Hp → Prop
  stop : Nat → Hp → Prop
/-- the iterator's own objects may turn: they are not the frame's, not pinned, younger than the entry (or a comprehension's own) -/
def FpOk (X : Cx) (pins : List (Addr × Obj)) (H : Hp) (b : Addr) : Prop :=
  H b = none ∧ b ≠ X.env.locals ∧ b ∉ X.fs ∧ (b ∈ X.ex ∨ X.s₀.heap.objs.size ≤ b) ∧ (∀ x c, X.env.cells.lookup x = some c → c ≠ b) ∧ ∀ p ∈ X.pn ++ pins, p.1 ≠ b
theorem Inv.fpOk {X : Cx} {pins : List (Addr × Obj)} {σ : St} {H H' : Hp} {s : Shared} {b : Addr} (I : Inv X pins σ H s) (hb : s.heap.objs.size ≤ b) (hn : H' b = none) : FpOk X pins H' b := by
  refine ⟨hn, Nat.ne_of_gt (Nat.lt_of_lt_of_le I.lt hb), I.nofs hb, .inr (Nat.le_trans I.sz hb), fun x c e z => ?_, fun p hp z => ?_⟩
  · obtain ⟨v, q⟩ := I.cell x c e
    exact absurd (Nat.lt_of_lt_of_le q.lt (by rw [z]; exact hb)) (Nat.lt_irrefl _)
  · exact absurd (Nat.lt_of_lt_of_le (Heap.lt_size (I.pin p hp).1) (by rw [z]; exact hb)) (Nat.lt_irrefl _)
structure Turn (P : Program) (w : World) (K : PySem.W.Frag) (tg : Expr) (J : It) (fp : List Addr) (it : Addr) (tn : Nat → Heap → Prop) : Prop where
  mem : it ∈ fp
  obj : ∀ i h, tn i h → ∀ b ∈ fp, ∃ o, h.get? b = some o ∧ ∀ v, o.data ≠ .cell v
  keep : ∀ i h h', tn i h → (∀ b ∈ fp, ∀ o, h.get? b = some o → h'.get? b = some o) → tn i h'
  item : ∀ (X : Cx), X.prog = P → X.w = w → X.K = K → X.calm = true → ∀ (i : Nat) (pins : List (Addr × Obj)) (s : Shared) (σ : St) (H : Hp) (E : Value → Shared → Prop), Inv X pins σ H s → (∀ b ∈ fp, FpOk X pins H b) → tn i s.heap → J.go i H →
    wpAny (model P w) X.A (pyNext (.ref it)) (fun r s1 => ∃ u, r = some u ∧
      wpAny (model P w) X.A (letOwnedTupleGo tg (.ref it) u) (fun _ s2 => ∃ x H', Inv X pins σ H' s2 ∧ RelV x u ∧ J.yld i H x H' ∧ tn (i + 1) s2.heap ∧ ∀ b ∈ fp, H' b = none) E s1) E s
  done : ∀ (X : Cx), X.prog = P → X.w = w → X.K = K → X.calm = true → ∀ (i : Nat) (pins : List (Addr × Obj)) (s : Shared) (σ : St) (H : Hp) (E : Value → Shared → Prop), Inv X pins σ H s → (∀ b ∈ fp, FpOk X pins H b) → tn i s.heap → J.stop i H →
    wpAny (model P w) X.A (pyNext (.ref it)) (fun r s1 => r = none ∧ Inv X pins σ H s1) E s
  self : ∀ (A : Around) (i : Nat) (s : Shared) (Q : Value → Shared → Prop) (E : Value → Shared → Prop), tn i s.heap → Q (.ref it) s → wpAny (model P w) A (pyIter (.ref it)) Q E s
abbrev TI := St → Hp → (It → Hp → Prop) → Prop
/-- an iterator has come -/
def PIE (X : Cx) (pins : List (Addr × Obj)) (σ : St) (tg : Expr) (R : It → Hp → Prop) (itv : Value) (s2 : Shared) : Prop :=
  ∃ (it : Addr) (fp : List Addr) (tn : Nat → Heap → Prop) (J : It) (H' : Hp), itv = .ref it ∧ Inv X pins σ H' s2 ∧ Turn X.prog X.w X.K tg J fp it tn ∧ tn 0 s2.heap ∧ (∀ b ∈ fp, FpOk X pins H' b) ∧ R J H'
def PI (X : Cx) (tg iter : Expr) (wi : TI) : Prop :=
  ∀ (pins : List (Addr × Obj)) (s : Shared) (σ : St) (H : Hp) (R : It → Hp → Prop), Inv X pins σ H s → wi σ H R →
    wpAny (model X.prog X.w) X.A (eval iter X.env) (fun v s1 => wpAny (model X.prog X.w) X.A (pyIter v) (PIE X pins σ tg R) X.xe s1) X.xe s

/-- the step ahead of the store is nothing for an iterator that keeps no tuple -/
theorem go_of {M : Model} {A : Around} {E : Value → Shared → Prop} {s : Shared} {tg : Expr} {it : Addr} {u : Value} {o : Obj} {n : String} {vs : Array Value} {Q : Unit → Shared → Prop} (ho : s.heap.get? it = some o) (hc : o.cls = .type n) (hd : o.data = .fields vs)
    (hn : ["enumerate", "zip", "dict_itemiterator", "dict_reverseitemiterator", "odict_iterator", "itertools.zip_longest", "itertools.pairwise"].contains n = false) (hQ : Q () s) : wpAny M A (letOwnedTupleGo tg (.ref it) u) Q E s := by
  unfold letOwnedTupleGo
  cases tg <;> first
    | exact wpAny_pure hQ
    | (cases u <;> first
        | exact wpAny_pure hQ
        | (refine wpAny_bind (wpAny_load ho ?_)
           rw [hc, hd]
           show wpAny M A (if (["enumerate", "zip", "dict_itemiterator", "dict_reverseitemiterator", "odict_iterator", "itertools.zip_longest", "itertools.pairwise"].contains n && vs[0]? == some (rawInt _)) = true then _ else _) Q E s
           rw [if_neg (by intro h; rw [hn, Bool.false_and] at h; cases h)]
           exact wpAny_pure hQ))

/-- the list at a, as it stands at each turn (a loop may append to it) -/
def Itl (K : PySem.W.Frag) (a : Addr) : It :=
  ⟨fun i H => ∃ xs x, SqL K H a xs ∧ xs[i]? = some x, fun i H x H' => H' = H ∧ ∀ xs, SqL K H a xs → xs[i]? = some x, fun i H => ∃ xs, SqL K H a xs ∧ xs.length ≤ i⟩
/-- lo, lo + 1, .. (n of them) -/
def Itr (lo : Int) (n : Nat) : It := ⟨fun i _ => i < n, fun i H x H' => H' = H ∧ x = .int (lo + i), fun i _ => n ≤ i⟩
theorem turn_list {P : Program} {w : World} {K : PySem.W.Frag} {tg : Expr} (a it : Addr) : Turn P w K tg (Itl K a) [it] it (fun i h => h.IsListIter it a i) where
  mem := by simp
  obj := fun i h st b hb => by
    have e : b = it := by simpa using hb
    subst e
    obtain ⟨o, e, c, d⟩ := st
    exact ⟨o, e, fun v z => by rw [d] at z; cases z⟩
  keep := fun i h h' st k => st.at fun o e => k it (by simp) o e
  item := by
    intro X hP hw hK hc i pins s σ H E I hf st hg
    subst hP hw hK
    obtain ⟨xs, x, hq, hx⟩ := hg
    obtain ⟨its, rv, p, hz⟩ := I.list hq
    obtain ⟨u, hu, ru⟩ := rv.get hx
    obtain ⟨f0, f1, f2, f3, f4, f5⟩ := hf it (by simp)
    refine wpAny_pyNext_list_item st p.isList (x := u) (by simpa using hu) fun h' st' sb => ?_
    have I1 : Inv X pins σ H { s with heap := h' } := I.turned (t' := s.toks) (fun b o hb e => (sb.2 b hb).trans e) f0 f1 f3 f4 f5
    obtain ⟨o, e, c, d⟩ := id st'
    exact ⟨u, rfl, go_of (s := { s with heap := h' }) e c d (by decide) ⟨x, H, I1, ru, ⟨rfl, fun ys hy => by rw [I.list_inj hy hq]; exact hx⟩, st', fun b hb => (hf b hb).1⟩⟩
  done := by
    intro X hP hw hK hc i pins s σ H E I hf st hg
    subst hP hw hK
    obtain ⟨xs, hq, hx⟩ := hg
    obtain ⟨its, rv, p, hz⟩ := I.list hq
    obtain ⟨f0, f1, f2, f3, f4, f5⟩ := hf it (by simp)
    have hl := rv.length
    exact wpAny_pyNext_list_end (I.ok.hd hc) st p.isList (by simp; omega) fun h' eb => ⟨rfl, I.turned (t' := s.toks) (fun b o hb e => eb b o hb e) f0 f1 f3 f4 f5⟩
  self := fun _ _ _ _ _ st h => wpAny_pyIter_listiter st h
theorem turn_range {P : Program} {w : World} {K : PySem.W.Frag} {tg : Expr} (it : Addr) (lo : Int) (n : Nat) : Turn P w K tg (Itr lo n) [it] it (fun i h => IsRangeIter h it (lo + (i : Nat) * 1) ((n : Int) - (i : Nat)) 1) where
  mem := by simp
  obj := fun i h st b hb => by
    have e : b = it := by simpa using hb
    subst e
    exact ⟨_, st, fun v z => by
      have z' : Data.fields _ = Data.cell v := z
      cases z'⟩
  keep := fun i h h' st k => k it (by simp) _ st
  item := by
    intro X hP hw hK hc i pins s σ H E I hf st hg
    subst hP hw hK
    obtain ⟨f0, f1, f2, f3, f4, f5⟩ := hf it (by simp)
    have W := Walks.range (prog := X.prog) (w := X.w) (I.ok.hd hc) it lo 1 n
    refine W.item i s _ _ hg st fun v h' tk hv st' kk => ?_
    obtain ⟨t, rfl⟩ := hv
    have I1 : Inv X pins σ H { s with heap := h', toks := tk } := I.turned (fun b o hb e => kk b o (by simpa using hb) e) f0 f1 f3 f4 f5
    refine ⟨_, rfl, go_of (s := { s with heap := h', toks := tk }) (n := "range_iterator") st' rfl rfl (by decide) ⟨.int (lo + i), H, I1, ⟨t, ?_⟩, ⟨rfl, rfl⟩, st', fun b hb => (hf b hb).1⟩⟩
    rw [Int.mul_one]
  done := by
    intro X hP hw hK hc i pins s σ H E I hf st hg
    subst hP hw hK
    obtain ⟨f0, f1, f2, f3, f4, f5⟩ := hf it (by simp)
    exact wpAny_pyNext_range_end (I.ok.hd hc) st (by have : n ≤ i := hg; omega) fun h' eb => ⟨rfl, I.turned (t' := s.toks) (fun b o hb e => eb b o hb e) f0 f1 f3 f4 f5⟩
  self := fun _ _ _ _ _ st h => wpAny_pyIter_rangeiter st h
end L2

namespace L2
open PySem PySem.Spec PyProof.Rows
section
variable {X : Cx} {tg : Expr}
def iList (K : PySem.W.Frag) (tl : TE) : TI := fun σ H R => tl σ H fun x H1 => ∃ a, x = .ref a ∧ (∃ xs, SqL K H1 a xs) ∧ R (Itl K a) H1
theorem pi_list {l : Expr} {tl : TE} (hl : PE X l tl) : PI X tg l (iList X.K tl) := by
  intro pins s σ H R I h
  refine thn (hl pins s σ H _ I h) fun v s1 ⟨x, H1, I1, r1, q1⟩ => ?_
  obtain ⟨a, e, ⟨xs, hq⟩, q⟩ := q1
  subst e
  cases r1
  obtain ⟨its, rv, p, hz⟩ := I1.list hq
  refine wpAny_pyIter_list p.isList ?_
  refine ⟨s1.heap.objs.size, [s1.heap.objs.size], _, _, H1, rfl, I1.kept (t' := s1.toks) fun b o e => Heap.get?_push_of_some _ e, turn_list a _, ⟨_, Heap.get?_push_size _ rfl, rfl, rfl⟩, fun b hb => ?_, q⟩
  have e : b = s1.heap.objs.size := by simpa using hb
  subst e
  exact I1.fpOk (Nat.le_refl _) (I1.hok.fresh (Nat.le_refl _))
/-- a range object just made, walked -/
theorem range_it {pins : List (Addr × Obj)} {σ : St} {H : Hp} {s : Shared} {R : It → Hp → Prop} {E : Value → Shared → Prop} {lo hi : Int} {t u v : Tok} {tk : Nat} (I : Inv X pins σ H s) (h1 : -(2 ^ 62) ≤ lo) (h2 : lo < 2 ^ 62) (h3 : -(2 ^ 62) ≤ hi) (h4 : hi < 2 ^ 62)
    (q : R (Itr lo (hi - lo).toNat) H) : wpAny (model X.prog X.w) X.A (pyIter (.ref s.heap.objs.size)) (PIE X pins σ tg R) E { s with heap := s.heap.push { cls := .type "range", data := .fields #[.int lo t, .int hi u, .int 1 v] }, toks := tk } := by
  refine wpAny_pyIter_range (IsRange.new ..) (small_one h1 h2 h3 h4) ?_
  have I1 : Inv X pins σ H { s with heap := s.heap.push { cls := .type "range", data := .fields #[.int lo t, .int hi u, .int 1 v] }, toks := tk } := I.kept fun b o e => Heap.get?_push_of_some _ e
  refine ⟨(s.heap.push { cls := .type "range", data := .fields #[.int lo t, .int hi u, .int 1 v] }).objs.size, [(s.heap.push { cls := .type "range", data := .fields #[.int lo t, .int hi u, .int 1 v] }).objs.size], _, _, H, rfl,
    I1.kept (t' := tk) fun b o e => Heap.get?_push_of_some _ e, turn_range _ lo (hi - lo).toNat, ?_, fun b hb => ?_, q⟩
  · have e1 : lo + ((0 : Nat) : Int) * 1 = lo := by simp
    have e2 : (((hi - lo).toNat : Nat) : Int) - ((0 : Nat) : Int) = Builtin.Range.rangeSize lo hi 1 := by rw [rangeSize_one]; split <;> omega
    show IsRangeIter _ _ (lo + ((0 : Nat) : Int) * 1) ((((hi - lo).toNat : Nat) : Int) - ((0 : Nat) : Int)) 1
    rw [e1, e2]
    exact Heap.get?_push_size _ rfl
  · have e : b = (s.heap.push { cls := .type "range", data := .fields #[.int lo t, .int hi u, .int 1 v] }).objs.size := by simpa using hb
    subst e
    exact I1.fpOk (Nat.le_refl _) (I1.hok.fresh (Nat.le_refl _))
def iRng1 (ta : TA) : TI := fun σ H R => ta σ H fun vs H1 => ∃ j : Int, vs = [.int j] ∧ -(2 ^ 62) ≤ j ∧ j < 2 ^ 62 ∧ R (Itr 0 j.toNat) H1
def iRng2 (ta : TA) : TI := fun σ H R => ta σ H fun vs H1 => ∃ i j : Int, vs = [.int i, .int j] ∧ (-(2 ^ 62) ≤ i ∧ i < 2 ^ 62 ∧ -(2 ^ 62) ≤ j ∧ j < 2 ^ 62) ∧ R (Itr i (j - i).toNat) H1
theorem pi_range1 {a : Expr} {ta : TA} {p pos : Pos} (hg : Gl X "range") (hm : X.mg "range" = none) (ha : PA X [a] ta) (hs : starEach [a] X.env = [(false, eval a X.env)] := by rfl) : PI X tg (.Call (.Name "range" p) [a] [] pos) (iRng1 ta) := by
  intro pins s σ H R I h
  refine Call_ (ld_blt I hg hm boot_range (PyProof.Rows.callWith_type1 (thn (ha pos pins s σ H _ I h) fun us s1 ⟨vs, H1, I1, r1, q1⟩ => ?_) hs rfl))
  obtain ⟨j, e, q1, q2, q⟩ := q1
  subst e
  cases r1 with
  | cons r rr =>
    cases rr
    obtain ⟨t, rfl⟩ := r
    exact call_range_1 (range_it I1 (by omega) (by omega) q1 q2 (by simpa using q))
theorem pi_range2 {a b : Expr} {ta : TA} {p pos : Pos} (hg : Gl X "range") (hm : X.mg "range" = none) (ha : PA X [a, b] ta) (hs : starEach [a, b] X.env = [(false, eval a X.env), (false, eval b X.env)] := by rfl) (hs2 : starEach [b] X.env = [(false, eval b X.env)] := by rfl) :
    PI X tg (.Call (.Name "range" p) [a, b] [] pos) (iRng2 ta) := by
  intro pins s σ H R I h
  refine Call_ (ld_blt I hg hm boot_range (PyProof.Rows.callWith_type1 (thn (ha pos pins s σ H _ I h) fun us s1 ⟨vs, H1, I1, r1, q1⟩ => ?_) (by rw [hs, hs2]) (by rw [hs2]; rfl)))
  obtain ⟨i, j, e, ⟨q1, q2, q3, q4⟩, q⟩ := q1
  subst e
  cases r1 with
  | cons r rr =>
    cases rr with
    | cons r' rr =>
      cases rr
      obtain ⟨t, rfl⟩ := r
      obtain ⟨t', rfl⟩ := r'
      exact call_range_2 (range_it I1 q1 q2 q3 q4 q)

/-! ### for -/
/-- W: the invariant by the turn and a measure; N: what the body is to reach -/
def tFor (wi : TI) (g : TG) (tb : TS) : TS := fun D σ H => wi σ H fun J H1 => ∃ W : Nat → Nat → St → Hp → Prop, (∃ m, W 0 m σ H1) ∧ ∀ i m σ H, W i m σ H →
  (J.stop i H ∧ D.nx σ H) ∨ (J.go i H ∧ ∃ N : St → Hp → Prop, (∀ σ' H', N σ' H' → ∃ m', m' < m ∧ W (i + 1) m' σ' H') ∧ ∀ x H', J.yld i H x H' → g x σ H' fun σ2 H2 => tb { D with nx := N, ct := N, bk := D.nx } σ2 H2)
/-- the records at fp as they stand -/
def pinsAt (fp : List Addr) (h : Heap) : List (Addr × Obj) := fp.filterMap fun b => (h.get? b).map fun o => (b, o)
theorem mem_pinsAt {fp : List Addr} {h : Heap} {b : Addr} {o : Obj} (hb : b ∈ fp) (e : h.get? b = some o) : (b, o) ∈ pinsAt fp h := List.mem_filterMap.mpr ⟨b, hb, by rw [e]; rfl⟩
theorem of_pinsAt {fp : List Addr} {h : Heap} {p : Addr × Obj} (hp : p ∈ pinsAt fp h) : p.1 ∈ fp ∧ h.get? p.1 = some p.2 := by
  obtain ⟨b, hb, e⟩ := List.mem_filterMap.mp hp
  cases q : h.get? b with
  | none => rw [q] at e; cases e
  | some o =>
    rw [q] at e
    have e' : (b, o) = p := Option.some.inj e
    subst e'
    exact ⟨hb, q⟩
theorem Inv.pinned {pins : List (Addr × Obj)} {σ : St} {H : Hp} {s : Shared} {fp : List Addr} (I : Inv X pins σ H s) (hf : ∀ b ∈ fp, FpOk X pins H b) (ho : ∀ b ∈ fp, ∃ o, s.heap.get? b = some o ∧ ∀ v, o.data ≠ .cell v) : Inv X (pins ++ pinsAt fp s.heap) σ H s :=
  I.pins_of fun p hp => (List.mem_append.mp hp).elim (fun z => I.pin p (List.mem_append_right _ z)) fun z => by
    obtain ⟨hb, e⟩ := of_pinsAt z
    obtain ⟨f0, f1, f2, _⟩ := hf p.1 hb
    obtain ⟨o, e', d⟩ := ho p.1 hb
    rw [e] at e'; cases e'
    exact ⟨e, f0, f1, f2, d⟩
theorem Inv.unpinned {pins pl : List (Addr × Obj)} {σ : St} {H : Hp} {s : Shared} (I : Inv X (pins ++ pl) σ H s) : Inv X pins σ H s := I.pins_of fun p hp => I.pin p (List.mem_append_right _ (List.mem_append_left _ hp))
theorem ps_for {iter : Expr} {body : List Stmt} {wi : TI} {g : TG} {tb : TS} {pos : Pos} (hp : PassesOwn (model X.prog X.w) X.A X.env X.xe) (hc : X.calm = true) (hi : PI X tg iter wi) (hg : PG X tg g) (hb : PSs X body tb)
    (hs : ∀ x, foldedSetIterable iter X.env x = pure x := by intro _; rfl) : PS X (.For tg iter body [] pos) (tFor wi g tb) := by
  intro pins s σ H D I h
  refine wpAny_For (thn (hi pins s σ H _ I h) fun v s1 h1 => thn h1 fun itv s2 h2 => ?_) hs
  obtain ⟨it, fp, tn, J, H2, e, I2, T, st2, f2, W, ⟨m0, w0⟩, turn⟩ := h2
  subst e
  -- what stays true of the iterator's objects through the loop
  have stat : ∀ {H' : Hp}, (∀ b ∈ fp, H' b = none) → ∀ b ∈ fp, FpOk X pins H' b := fun hn b hb => ⟨hn b hb, (f2 b hb).2⟩
  refine codeAny_forLoop_any (fun n s' => ∃ i σ' H', Inv X pins σ' H' s' ∧ tn i s'.heap ∧ (∀ b ∈ fp, H' b = none) ∧ W i n σ' H') ?_ m0 ⟨0, σ, H2, I2, st2, fun b hb => (f2 b hb).1, w0⟩
  rintro n s3 ⟨i, σ3, H3, I3, st3, fr3, w3⟩
  rcases turn i n σ3 H3 w3 with ⟨stop, qn⟩ | ⟨go, N, hN, step⟩
  · refine wpAny_passesOwn hp (thn (T.done X rfl rfl rfl hc i pins s3 σ3 H3 X.xe I3 (stat fr3) st3 stop) fun r s4 ⟨hr, I4⟩ => ?_)
    subst hr
    exact wpAny_execs_nil ⟨σ3, H3, I4, qn⟩
  · refine wpAny_passesOwn hp (thn (T.item X rfl rfl rfl hc i pins s3 σ3 H3 X.xe I3 (stat fr3) st3 go) fun r s4 ⟨u, hr, h4⟩ => ?_)
    subst hr
    refine wpAny_passesOwn hp (thn h4 fun _ s5 ⟨x, H5, I5, r5, y5, st5, fr5⟩ => ?_)
    have I5' := I5.pinned (stat fr5) (T.obj _ _ st5)
    refine wpAny_passesOwn hp (thn (hg _ s5 σ3 H5 x u _ I5' r5 (step x H5 y5)) fun _ s6 ⟨σ6, H6, I6, q6⟩ => ?_)
    refine wpAny_passesOwn hp (thn (hb _ s6 σ6 H6 _ I6 q6) fun f s7 q7 => ?_)
    have again : ∀ {σ7 : St} {H7 : Hp}, Inv X (pins ++ pinsAt fp s5.heap) σ7 H7 s7 → N σ7 H7 → ∃ m, m < n ∧ ∃ i σ' H', Inv X pins σ' H' s7 ∧ tn i s7.heap ∧ (∀ b ∈ fp, H' b = none) ∧ W i m σ' H' := fun {σ7 H7} I7 n7 => by
      obtain ⟨m', hm, w7⟩ := hN σ7 H7 n7
      refine ⟨m', hm, i + 1, σ7, H7, I7.unpinned, T.keep _ _ _ st5 fun b hb o e => (I7.pin (b, o) (List.mem_append_right _ (List.mem_append_right _ (mem_pinsAt hb e)))).1, fun b hb => ?_, w7⟩
      obtain ⟨o, e, d⟩ := T.obj _ _ st5 b hb
      exact (I7.pin (b, o) (List.mem_append_right _ (List.mem_append_right _ (mem_pinsAt hb e)))).2.1
    cases f with
    | next => obtain ⟨σ7, H7, I7, n7⟩ := q7; exact again I7 n7
    | cont => obtain ⟨σ7, H7, I7, n7⟩ := q7; exact again I7 n7
    | brk => obtain ⟨σ7, H7, I7, q7⟩ := q7; exact ⟨σ7, H7, I7.unpinned, q7⟩
    | ret v => obtain ⟨x7, σ7, H7, I7, r7, q7⟩ := q7; exact ⟨x7, σ7, H7, I7.unpinned, r7, q7⟩
end

/-! ### the forms one uses -/
/-- over a list that the body leaves as it is -/
theorem for_list {K : PySem.W.Frag} {a : Addr} {xs : List V} {g : TG} {tb : TS} {D : Ends} {σ : St} {H : Hp} (Pv : Nat → St → Hp → Prop) (h0 : Pv 0 σ H) (hl : ∀ i σ H, i ≤ xs.length → Pv i σ H → SqL K H a xs)
    (hs : ∀ i x σ H, xs[i]? = some x → Pv i σ H → g x σ H fun σ2 H2 => tb { D with nx := Pv (i + 1), ct := Pv (i + 1), bk := D.nx } σ2 H2) (hd : ∀ σ H, Pv xs.length σ H → D.nx σ H) :
    ∃ W : Nat → Nat → St → Hp → Prop, (∃ m, W 0 m σ H) ∧ ∀ i m σ H, W i m σ H →
      ((Itl K a).stop i H ∧ D.nx σ H) ∨ ((Itl K a).go i H ∧ ∃ N : St → Hp → Prop, (∀ σ' H', N σ' H' → ∃ m', m' < m ∧ W (i + 1) m' σ' H') ∧ ∀ x H', (Itl K a).yld i H x H' → g x σ H' fun σ2 H2 => tb { D with nx := N, ct := N, bk := D.nx } σ2 H2) := by
  refine ⟨fun i m σ H => m = xs.length - i ∧ i ≤ xs.length ∧ Pv i σ H, ⟨xs.length, by simp, Nat.zero_le _, h0⟩, ?_⟩
  rintro i m σ H ⟨rfl, hi, p⟩
  have q := hl i σ H hi p
  by_cases hlt : i < xs.length
  · refine .inr ⟨⟨xs, xs[i], q, by simp [hlt]⟩, Pv (i + 1), fun σ' H' p' => ⟨xs.length - (i + 1), by omega, rfl, hlt, p'⟩, fun x H' y => ?_⟩
    obtain ⟨e, y⟩ := y
    subst e
    exact hs i x σ _ (y xs q) p
  · have e : i = xs.length := by omega
    subst e
    exact .inl ⟨⟨xs, q, Nat.le_refl _⟩, hd σ H p⟩
theorem for_range {lo : Int} {n : Nat} {g : TG} {tb : TS} {D : Ends} {σ : St} {H : Hp} (Pv : Nat → St → Hp → Prop) (h0 : Pv 0 σ H)
    (hs : ∀ i σ H, i < n → Pv i σ H → g (.int (lo + i)) σ H fun σ2 H2 => tb { D with nx := Pv (i + 1), ct := Pv (i + 1), bk := D.nx } σ2 H2) (hd : ∀ σ H, Pv n σ H → D.nx σ H) :
    ∃ W : Nat → Nat → St → Hp → Prop, (∃ m, W 0 m σ H) ∧ ∀ i m σ H, W i m σ H →
      ((Itr lo n).stop i H ∧ D.nx σ H) ∨ ((Itr lo n).go i H ∧ ∃ N : St → Hp → Prop, (∀ σ' H', N σ' H' → ∃ m', m' < m ∧ W (i + 1) m' σ' H') ∧ ∀ x H', (Itr lo n).yld i H x H' → g x σ H' fun σ2 H2 => tb { D with nx := N, ct := N, bk := D.nx } σ2 H2) := by
  refine ⟨fun i m σ H => m = n - i ∧ i ≤ n ∧ Pv i σ H, ⟨n, by simp, Nat.zero_le _, h0⟩, ?_⟩
  rintro i m σ H ⟨rfl, hi, p⟩
  by_cases hlt : i < n
  · refine .inr ⟨hlt, Pv (i + 1), fun σ' H' p' => ⟨n - (i + 1), by omega, rfl, hlt, p'⟩, fun x H' y => ?_⟩
    obtain ⟨e, y⟩ := y
    subst e y
    exact hs i σ _ hlt p
  · have e : i = n := by omega
    subst e
    exact .inl ⟨Nat.le_refl _, hd σ H p⟩
end L2

namespace L2
open PySem PySem.Spec PyProof.Rows

abbrev R2 := V → V → Hp → VK → Prop
/-- a two-place operation on values: f is binaryOp op, inplaceOp op or compareOp op -/
def OpR (X : Cx) (f : Value → Value → Sem Value) (r : R2) : Prop :=
  ∀ (pins : List (Addr × Obj)) (s : Shared) (σ : St) (H : Hp) (x y : V) (v u : Value) (Q : VK), Inv X pins σ H s → RelV x v → RelV y u → r x y H Q →
    wpAny (model X.prog X.w) X.A (f v u) (EP X pins σ Q) X.xe s
/-- a one-place operation -/
def UnR (X : Cx) (f : Value → Sem Value) (r : V → Hp → VK → Prop) : Prop :=
  ∀ (pins : List (Addr × Obj)) (s : Shared) (σ : St) (H : Hp) (x : V) (v : Value) (Q : VK), Inv X pins σ H s → RelV x v → r x H Q →
    wpAny (model X.prog X.w) X.A (f v) (EP X pins σ Q) X.xe s
/-- a call of a value that is known (a builtin, a type) with values -/
def CallR (X : Cx) (f : Value) (r : List V → Hp → VK → Prop) : Prop :=
  ∀ (pins : List (Addr × Obj)) (s : Shared) (σ : St) (H : Hp) (xs : List V) (us : List Value) (Q : VK), Inv X pins σ H s → Vals xs us → r xs H Q →
    wpAny (model X.prog X.w) X.A (call f us) (EP X pins σ Q) X.xe s

def tOp (r : R2) (ta tb : TE) : TE := fun σ H Q => ta σ H fun x H1 => tb σ H1 fun y H2 => r x y H2 Q
def tUn (r : V → Hp → VK → Prop) (ta : TE) : TE := fun σ H Q => ta σ H fun x H1 => r x H1 Q
/-- ints in, under C, and a value out -/
def rI (C : Int → Int → Prop) (g : Int → Int → V) : R2 := fun x y H Q => ∃ i j, x = .int i ∧ y = .int j ∧ C i j ∧ Q (g i j) H
def rI0 (g : Int → Int → V) : R2 := fun x y H Q => ∃ i j, x = .int i ∧ y = .int j ∧ Q (g i j) H
def rU (g : Int → V) : V → Hp → VK → Prop := fun x H Q => ∃ i, x = .int i ∧ Q (g i) H

section
variable {X : Cx} {a b c : Expr} {ta tb tc : TE} {pos : Pos}

theorem binT (ha : PE X a ta) (hb : PE X b tb) {pins : List (Addr × Obj)} {s : Shared} {σ : St} {H : Hp} {R : V → V → Hp → Prop} (I : Inv X pins σ H s)
    (h : ta σ H fun x H1 => tb σ H1 fun y H2 => R x y H2) {Q : Value → Shared → Prop} {f : Value → Value → Sem Value}
    (hf : ∀ v u s2 x y H2, Inv X pins σ H2 s2 → RelV x v → RelV y u → R x y H2 → wpAny (model X.prog X.w) X.A (f v u) Q X.xe s2) :
    wpAny (model X.prog X.w) X.A (eval a X.env) (fun v s₁ => wpAny (model X.prog X.w) X.A (eval b X.env) (fun u s₂ => wpAny (model X.prog X.w) X.A (f v u) Q X.xe s₂) X.xe s₁) X.xe s := by
  refine thn (ha pins s σ H _ I h) fun v s1 ⟨x, H1, I1, r1, q1⟩ => ?_
  refine thn (hb pins s1 σ H1 _ I1 q1) fun u s2 ⟨y, H2, I2, r2, q2⟩ => ?_
  exact hf v u s2 x y H2 I2 r1 r2 q2

theorem pe_op {op : Operator} {r : R2} (ho : OpR X (binaryOp op) r) (ha : PE X a ta) (hb : PE X b tb) : PE X (.BinOp a op b pos) (tOp r ta tb) := by
  intro pins s σ H Q I h
  exact wpAny_BinOp (binT ha hb I h fun v u s2 x y H2 I2 rx ry q => ho pins s2 σ H2 x y v u Q I2 rx ry q)
theorem pe_un {op : UnaryOp} {r : V → Hp → VK → Prop} (ho : UnR X (unaryOp op) r) (ha : PE X a ta) : PE X (.UnaryOp op a pos) (tUn r ta) := by
  intro pins s σ H Q I h
  exact UnaryOp_ (thn (ha pins s σ H _ I h) fun v s1 ⟨x, H1, I1, r1, q1⟩ => ho pins s1 σ H1 x v Q I1 r1 q1)

/-! ### ints -/
theorem opI {f : Value → Value → Sem Value} {C : Int → Int → Prop} {g : Int → Int → Int}
    (rule : ∀ (i j : Int) (t u : Tok) (s : Shared) (Q : Value → Shared → Prop) (E : Value → Shared → Prop), C i j → Q (.int (g i j) s.toks) { s with toks := s.toks + 1 } → wpAny (model X.prog X.w) X.A (f (.int i t) (.int j u)) Q E s) :
    OpR X f (rI C fun i j => .int (g i j)) := by
  intro pins s σ H x y v u Q I rx ry h
  obtain ⟨i, j, rfl, rfl, hc, q⟩ := h
  obtain ⟨t, rfl⟩ := rx
  obtain ⟨t', rfl⟩ := ry
  exact rule i j t t' s _ _ hc ⟨.int (g i j), H, I.tok _, ⟨_, rfl⟩, q⟩
theorem opI0 {f : Value → Value → Sem Value} {g : Int → Int → Int}
    (rule : ∀ (i j : Int) (t u : Tok) (s : Shared) (Q : Value → Shared → Prop) (E : Value → Shared → Prop), Q (.int (g i j) s.toks) { s with toks := s.toks + 1 } → wpAny (model X.prog X.w) X.A (f (.int i t) (.int j u)) Q E s) :
    OpR X f (rI0 fun i j => .int (g i j)) := by
  intro pins s σ H x y v u Q I rx ry h
  obtain ⟨i, j, rfl, rfl, q⟩ := h
  obtain ⟨t, rfl⟩ := rx
  obtain ⟨t', rfl⟩ := ry
  exact rule i j t t' s _ _ ⟨.int (g i j), H, I.tok _, ⟨_, rfl⟩, q⟩
theorem opB0 {f : Value → Value → Sem Value} {g : Int → Int → Bool}
    (rule : ∀ (i j : Int) (t u : Tok) (s : Shared) (Q : Value → Shared → Prop) (E : Value → Shared → Prop), Q (.bool (g i j)) s → wpAny (model X.prog X.w) X.A (f (.int i t) (.int j u)) Q E s) :
    OpR X f (rI0 fun i j => .bl (g i j)) := by
  intro pins s σ H x y v u Q I rx ry h
  obtain ⟨i, j, rfl, rfl, q⟩ := h
  obtain ⟨t, rfl⟩ := rx
  obtain ⟨t', rfl⟩ := ry
  exact rule i j t t' s _ _ ⟨.bl (g i j), H, I, rfl, q⟩

def CDiv (i j : Int) : Prop := 0 < j ∧ j < 1073741824
def CPow (i j : Int) : Prop := 0 ≤ j ∧ j ≤ 1000000 ∧ i.natAbs < 2 ^ 64
def CMul (i j : Int) : Prop := (-(2 ^ 64) < i ∧ i < 2 ^ 64) ∨ (-(2 ^ 64) < j ∧ j < 2 ^ 64)
theorem CMul.ok {i j : Int} (h : CMul i j) : IntMulOk i j := by
  rcases h with ⟨h1, h2⟩ | ⟨h1, h2⟩
  · exact .of_left (intBits_le_64 h1 h2)
  · exact .of_right (intBits_le_64 h1 h2)
theorem two_pow_nn (k : Nat) : (0 : Int) ≤ 2 ^ k := by
  rw [two_pow_cast]
  exact Int.natCast_nonneg _

theorem op_add : OpR X (binaryOp .Add) (rI0 fun i j => .int (i + j)) := opI0 fun _ _ _ _ _ _ _ q => add_int q
theorem op_sub : OpR X (binaryOp .Sub) (rI0 fun i j => .int (i - j)) := opI0 fun _ _ _ _ _ _ _ q => sub_int q
theorem op_mul : OpR X (binaryOp .Mult) (rI CMul fun i j => .int (i * j)) := opI fun _ _ _ _ _ _ _ hc q => mul_int q hc.ok
/-- // by a positive divisor -/
theorem op_fdiv : OpR X (binaryOp .FloorDiv) (rI CDiv fun i j => .int (i / j)) := opI fun i j _ _ _ _ _ hc q => by
  have h1 : (0 : Int) < j := hc.1
  have h2 : j < 1073741824 := hc.2
  exact floordiv_int (by omega) (by rw [Int.fdiv_eq_ediv_of_nonneg i (by omega)]; exact q) (.inl (PyProof.noPylong_small (by omega)))
/-- % by a positive divisor of any size -/
theorem op_mod : OpR X (binaryOp .Mod) (rI (fun _ j => 0 < j) fun i j => .int (i % j)) := opI fun i j _ _ _ _ _ hc q => by
  have h1 : (0 : Int) < j := hc
  exact mod_int' (by omega) (by rw [Int.fmod_eq_emod_of_nonneg i (by omega)]; exact q)
theorem op_shl : OpR X (binaryOp .LShift) (rI CPow fun i j => .int (i * 2 ^ j.toNat)) := opI fun _ _ _ _ _ _ _ hc q => lshift_int_small hc.1 hc.2.1 hc.2.2 q
theorem op_shr : OpR X (binaryOp .RShift) (rI (fun _ j => 0 ≤ j) fun i j => .int (i / 2 ^ j.toNat)) := opI fun i j _ _ _ _ _ hc q =>
  rshift_int hc (by rw [Int.fdiv_eq_ediv_of_nonneg i (two_pow_nn _)]; exact q)
theorem op_and : OpR X (binaryOp .BitAnd) (rI0 fun i j => .int (Builtin.bitAnd i j)) := opI0 fun _ _ _ _ _ _ _ q => and_int q
theorem op_or : OpR X (binaryOp .BitOr) (rI0 fun i j => .int (Builtin.bitOr i j)) := opI0 fun _ _ _ _ _ _ _ q => or_int q
theorem op_xor : OpR X (binaryOp .BitXor) (rI0 fun i j => .int (Builtin.bitXor i j)) := opI0 fun _ _ _ _ _ _ _ q => xor_int q


theorem unI {f : Value → Sem Value} {g : Int → Int}
    (rule : ∀ (i : Int) (t : Tok) (s : Shared) (Q : Value → Shared → Prop) (E : Value → Shared → Prop), Q (.int (g i) s.toks) { s with toks := s.toks + 1 } → wpAny (model X.prog X.w) X.A (f (.int i t)) Q E s) :
    UnR X f (rU fun i => .int (g i)) := by
  intro pins s σ H x v Q I rx h
  obtain ⟨i, rfl, q⟩ := h
  obtain ⟨t, rfl⟩ := rx
  exact rule i t s _ _ ⟨.int (g i), H, I.tok _, ⟨_, rfl⟩, q⟩
theorem un_neg : UnR X (unaryOp .USub) (rU fun i => .int (-i)) := unI fun _ _ _ _ _ q => neg_int q
theorem un_inv : UnR X (unaryOp .Invert) (rU fun i => .int (Builtin.bitNot i)) := unI fun _ _ _ _ _ q => invert_int q

/-! ### bools among ints: n += (a < b) -/
end

/-! ### comparisons -/
/-- the scalars that == tells apart as data does -/
def scal : V → V → Bool
  | .non, .non => true | .non, .int _ => true | .int _, .non => true | .non, .bl _ => true | .bl _, .non => true | .non, .str _ => true | .str _, .non => true
  | .int _, .int _ => true | .bl _, .bl _ => true | .str _, .str _ => true | .byt _, .byt _ => true
  | .int _, .str _ => true | .str _, .int _ => true | .bl _, .str _ => true | .str _, .bl _ => true
  | _, _ => false
def rEq : R2 := fun x y H Q => scal x y = true ∧ Q (.bl (decide (x = y))) H
def rNe : R2 := fun x y H Q => scal x y = true ∧ Q (.bl (!decide (x = y))) H

theorem dec_int {i j : Int} : decide (V.int i = V.int j) = (i == j) := by
  rw [Bool.eq_iff_iff]
  simp
theorem dec_bl {i j : Bool} : decide (V.bl i = V.bl j) = (i == j) := by
  rw [Bool.eq_iff_iff]
  simp
theorem dec_str {i j : Str} : decide (V.str i = V.str j) = (i == j) := by
  rw [Bool.eq_iff_iff]
  simp
theorem dec_byt {i j : Array UInt8} : decide (V.byt i = V.byt j) = (i.toList == j.toList) := by
  rw [Bool.eq_iff_iff]
  cases i
  cases j
  simp

section
variable {X : Cx} {a b c : Expr} {ta tb tc : TE} {pos : Pos}
theorem fin_bl {pins : List (Addr × Obj)} {σ : St} {H : Hp} {s : Shared} {Q : VK} {k k' : Bool} (I : Inv X pins σ H s) (q : Q (.bl k) H) (e : k = k') : EP X pins σ Q (.bool k') s := by
  subst e
  exact ⟨.bl k, H, I, rfl, q⟩
theorem op_eq : OpR X (compareOp .Eq) rEq := by
  intro pins s σ H x y v u Q I rx ry h
  obtain ⟨hs, q⟩ := h
  cases x with
  | non =>
    cases rx
    cases y with
    | non => cases ry; exact PySem.EqNone.eq_none_none (fin_bl I q (by simp))
    | bl j => cases ry; exact PySem.EqNone.eq_none_bool (fin_bl I q (by simp))
    | int j => obtain ⟨t', rfl⟩ := ry; exact PySem.EqNone.eq_none_int (fin_bl I q (by simp))
    | str j => obtain ⟨t', rfl⟩ := ry; exact PySem.EqNone.eq_none_str (fin_bl I q (by simp))
    | _ => exact absurd (show false = true from hs) Bool.false_ne_true
  | bl i =>
    cases rx
    cases y with
    | non => cases ry; exact PySem.EqNone.eq_bool_none (fin_bl I q (by simp))
    | bl j => cases ry; exact eq_bool (fin_bl I q dec_bl)
    | str j => obtain ⟨t', rfl⟩ := ry; exact PySem.EqMixed.eq_bool_str (fin_bl I q (by simp))
    | _ => exact absurd (show false = true from hs) Bool.false_ne_true
  | int i =>
    obtain ⟨t, rfl⟩ := rx
    cases y with
    | non => cases ry; exact PySem.EqNone.eq_int_none (fin_bl I q (by simp))
    | int j => obtain ⟨t', rfl⟩ := ry; exact eq_int (fin_bl I q dec_int)
    | str j => obtain ⟨t', rfl⟩ := ry; exact PySem.EqMixed.eq_int_str (fin_bl I q (by simp))
    | _ => exact absurd (show false = true from hs) Bool.false_ne_true
  | str i =>
    obtain ⟨t, rfl⟩ := rx
    cases y with
    | non => cases ry; exact PySem.EqNone.eq_str_none (fin_bl I q (by simp))
    | bl j => cases ry; exact PySem.EqMixed.eq_str_bool (fin_bl I q (by simp))
    | int j => obtain ⟨t', rfl⟩ := ry; exact PySem.EqMixed.eq_str_int (fin_bl I q (by simp))
    | str j => obtain ⟨t', rfl⟩ := ry; exact eq_str (fin_bl I q dec_str)
    | _ => exact absurd (show false = true from hs) Bool.false_ne_true
  | byt i =>
    obtain ⟨t, rfl⟩ := rx
    cases y with
    | byt j => obtain ⟨t', rfl⟩ := ry; exact PySem.W.eq_bytes (fin_bl I q dec_byt)
    | _ => exact absurd (show false = true from hs) Bool.false_ne_true
  | _ => cases y <;> exact absurd (show false = true from hs) Bool.false_ne_true
theorem op_ne : OpR X (compareOp .NotEq) rNe := by
  intro pins s σ H x y v u Q I rx ry h
  obtain ⟨hs, q⟩ := h
  cases x with
  | non =>
    cases rx
    cases y with
    | non => cases ry; exact PySem.EqNone.ne_none_none (fin_bl I q (by simp))
    | bl j => cases ry; exact PySem.EqNone.ne_none_bool (fin_bl I q (by simp))
    | int j => obtain ⟨t', rfl⟩ := ry; exact PySem.EqNone.ne_none_int (fin_bl I q (by simp))
    | str j => obtain ⟨t', rfl⟩ := ry; exact PySem.EqNone.ne_none_str (fin_bl I q (by simp))
    | _ => exact absurd (show false = true from hs) Bool.false_ne_true
  | bl i =>
    cases rx
    cases y with
    | non => cases ry; exact PySem.EqNone.ne_bool_none (fin_bl I q (by simp))
    | bl j => cases ry; exact ne_bool (fin_bl I q (congrArg not dec_bl))
    | str j => obtain ⟨t', rfl⟩ := ry; exact PySem.EqMixed.ne_bool_str (fin_bl I q (by simp))
    | _ => exact absurd (show false = true from hs) Bool.false_ne_true
  | int i =>
    obtain ⟨t, rfl⟩ := rx
    cases y with
    | non => cases ry; exact PySem.EqNone.ne_int_none (fin_bl I q (by simp))
    | int j => obtain ⟨t', rfl⟩ := ry; exact ne_int (fin_bl I q (congrArg not dec_int))
    | str j => obtain ⟨t', rfl⟩ := ry; exact PySem.EqMixed.ne_int_str (fin_bl I q (by simp))
    | _ => exact absurd (show false = true from hs) Bool.false_ne_true
  | str i =>
    obtain ⟨t, rfl⟩ := rx
    cases y with
    | non => cases ry; exact PySem.EqNone.ne_str_none (fin_bl I q (by simp))
    | bl j => cases ry; exact PySem.EqMixed.ne_str_bool (fin_bl I q (by simp))
    | int j => obtain ⟨t', rfl⟩ := ry; exact PySem.EqMixed.ne_str_int (fin_bl I q (by simp))
    | str j => obtain ⟨t', rfl⟩ := ry; exact ne_str (fin_bl I q (congrArg not dec_str))
    | _ => exact absurd (show false = true from hs) Bool.false_ne_true
  | byt i =>
    obtain ⟨t, rfl⟩ := rx
    cases y with
    | byt j => obtain ⟨t', rfl⟩ := ry; exact PySem.W.ne_bytes (fin_bl I q (congrArg not dec_byt))
    | _ => exact absurd (show false = true from hs) Bool.false_ne_true
  | _ => cases y <;> exact absurd (show false = true from hs) Bool.false_ne_true

theorem op_lt : OpR X (compareOp .Lt) (rI0 fun i j => .bl (decide (i < j))) := opB0 fun _ _ _ _ _ _ _ q => lt_int q
theorem op_le : OpR X (compareOp .LtE) (rI0 fun i j => .bl (decide (i ≤ j))) := opB0 fun _ _ _ _ _ _ _ q => le_int q
theorem op_gt : OpR X (compareOp .Gt) (rI0 fun i j => .bl (decide (j < i))) := opB0 fun _ _ _ _ _ _ _ q => gt_int q




theorem nomark (b : Expr) {op : CmpOp} (h : op ≠ .In := by decide) (h2 : op ≠ .NotIn := by decide) : behindInMarks op b = false := by
  have e1 : (op == CmpOp.In) = false := by cases op <;> first | rfl | exact absurd rfl h
  have e2 : (op == CmpOp.NotIn) = false := by cases op <;> first | rfl | exact absurd rfl h2
  cases b <;> simp [behindInMarks, e1, e2]
/-- a comparison as a value; hm: nomark b, or (for in, not in) by with_unfolding_all rfl -/
theorem pe_cmpR {op : CmpOp} {r : R2} (ho : OpR X (compareOp op) r) (ha : PE X a ta) (hb : PE X b tb) (hm : behindInMarks op b = false) : PE X (.Compare a [op] [b] pos) (tOp r ta tb) := by
  intro pins s σ H Q I h
  exact wpAny_Compare1 (binT ha hb I h fun v u s2 x y H2 I2 rx ry q => ho pins s2 σ H2 x y v u Q I2 rx ry q) hm
/-- a reading of a value as a test -/
def tTest (t : TE) : TT := fun σ H Q => t σ H fun x H' => ∃ k, x = .bl k ∧ Q k H'
theorem pt_cmpR {op : CmpOp} {r : R2} (ho : OpR X (compareOp op) r) (ha : PE X a ta) (hb : PE X b tb) (hm : behindInMarks op b = false) : PT X (.Compare a [op] [b] pos) (tTest (tOp r ta tb)) := by
  intro pins s σ H Q I h
  refine wpAny_isTrue_Compare1 (thn (ha pins s σ H _ I h) fun v s1 ⟨x, H1, I1, r1, q1⟩ => thn (hb pins s1 σ H1 _ I1 q1) fun u s2 ⟨y, H2, I2, r2, q2⟩ =>
    thn (ho pins s2 σ H2 x y v u _ I2 r1 r2 q2) fun c s3 ⟨z, H3, I3, r3, k, e, q3⟩ => ?_) hm
  subst e
  cases r3
  exact wpAny_truthy_bool ⟨H3, I3, q3⟩

/-! ### truth -/
theorem line63 : (sizeLine : Nat) < 2 ^ 63 := by rw [sizeLine_eq]; decide

/-! ### strs and bytes -/


/-! ### scalar builtins, by CallR -/
theorem vals1 {x : V} {us : List Value} (r : Vals [x] us) : ∃ u, us = [u] ∧ RelV x u := by
  cases r with
  | cons r1 r2 => cases r2; exact ⟨_, rfl, r1⟩
theorem vals2 {x y : V} {us : List Value} (r : Vals [x, y] us) : ∃ u w', us = [u, w'] ∧ RelV x u ∧ RelV y w' := by
  cases r with
  | cons r1 r2 =>
    cases r2 with
    | cons r3 r4 => cases r4; exact ⟨_, _, rfl, r1, r3⟩
theorem call_min2 (hc : X.calm = true) : CallR X (.builtin "min") (fun xs H Q => ∃ i j, xs = [.int i, .int j] ∧ Q (.int (if j < i then j else i)) H) := by
  intro pins s σ H xs us Q I r h
  obtain ⟨i, j, rfl, q⟩ := h
  obtain ⟨u, w', rfl, ⟨t, rfl⟩, ⟨t', rfl⟩⟩ := vals2 r
  refine min_two_ints (I.ok.hd hc) fun h' tk k => ⟨_, H, I.kept k, ?_, q⟩
  by_cases hj : j < i
  · rw [if_pos hj, if_pos hj]; exact ⟨_, rfl⟩
  · rw [if_neg hj, if_neg hj]; exact ⟨_, rfl⟩
end
end L2

namespace L2
open PySem PySem.Spec PyProof.Rows

/-! ### an instance, its attributes a map -/
structure ObjM (h : Heap) (x dx C : Addr) (mA : Str → Option Value) : Prop where
  obj : h.get? x = some (PySem.W.instObj C dx)
  ns : h.Ns1 dx mA
  ne : dx ≠ x

theorem lookIn_ns {h : Heap} {dx : Addr} {mA : Str → Option Value} (n : h.Ns1 dx mA) : ∃ od, h.get? dx = some od ∧ ∀ name, PySem.W.lookIn name od = some (mA name) := by
  obtain ⟨o, es, ep, ho, hd, hk, _, hm⟩ := n
  refine ⟨o, ho, fun name => ?_⟩
  have e := hm name
  unfold nsFind findBy at e
  rw [← Array.find?_toList] at e
  unfold PySem.W.lookIn
  rw [hd]
  dsimp only
  split
  · rename_i y q
    rw [q] at e
    exact congrArg some e
  · rename_i q
    rw [q] at e
    have a : es.toList.any (·.refKey) = false := by
      rw [List.any_eq_false]
      intro y hy
      obtain ⟨z, t, hkey⟩ := hk y (Array.mem_toList_iff.mp hy)
      simp [DictEntry.refKey, hkey]
    have a' : ¬ es.toList.any (·.refKey) = true := by rw [a]; exact Bool.false_ne_true
    rw [if_neg a']
    exact congrArg some e

theorem ObjM.look {h : Heap} {x dx C : Addr} {mA : Str → Option Value} (I : ObjM h x dx C mA) : ∃ od, PySem.W.InstAt h x (PySem.W.instObj C dx) C (some od) ∧ ∀ name, PySem.W.lookIn name od = some (mA name) :=
  let ⟨od, ho, hl⟩ := lookIn_ns I.ns
  ⟨od, ⟨I.obj, rfl, rfl, ho⟩, hl⟩

section
variable {prog : Program} {w : World} {A : Around} {E : Value → Shared → Prop} {s : Shared} {K : PySem.W.Frag} {x dx C f : Addr} {mA : Str → Option Value} {name : Str} {v : Value}

theorem get_map {expr : Bool} {Q : Value → Shared → Prop} (X : K.In s.heap) (I : ObjM s.heap x dx C mA) (hg : PySem.W.plainGet K C name = true) (hh : PySem.W.hasDictIn K C = true)
    (ha : PySem.W.findIn K (.ref C) name = some none) (hv : mA name = some v) (hv' : PySem.W.handedIn v = true) (h : Q v { s with toks := s.toks + 1 }) :
    wpAny (model prog w) A (getAttr (.ref x) name expr) Q E s := by
  obtain ⟨od, J, hl⟩ := I.look
  exact PySem.W.get_value X J (PySem.W.plainGet_of hg).1 (PySem.W.findObj_own hh ha rfl (by rw [hl, hv])) hv' h


theorem get_meth {pl : Sem Bool} {Q : Value × List Value → Shared → Prop} (X : K.In s.heap) (I : ObjM s.heap x dx C mA) (hg : PySem.W.plainGet K C name = true)
    (hf : PySem.W.findIn K (.ref C) name = some (some (.ref f))) (ht : PySem.W.isFn K (.ref f) = true) (hv : mA name = none) (h : Q (.ref f, [.ref x]) s) :
    wpAny (model prog w) A (getMethod (.ref x) name pl) Q E s := by
  obtain ⟨od, J, hl⟩ := I.look
  exact PySem.W.method_fn X J (PySem.W.plainGet_of hg).1 (PySem.W.plainGet_of hg).2 hf (beq_iff_eq.mp ht) (by show (PySem.W.lookIn name od).map (·.isSome) = some false; rw [hl, hv]; rfl) h

theorem set_map {ns : List Str} {Q : Unit → Shared → Prop} (X : K.In s.heap) (I : ObjM s.heap x dx C mA)
    (hs : PySem.W.findIn K (.ref C) "__setattr__" = some (some (.builtin "object.__setattr__"))) (hp : PySem.W.plainOver K C = true) (ht : PySem.W.takerIn K C name = some none) (hh : PySem.W.hasDictIn K C = true)
    (hw : PySem.Within mA ns) (hsz : ns.length ≤ sizeLine)
    (h : ∀ h', ObjM h' x dx C (fun y => if y = name then some v else mA y) → Heap.SameBut dx s.heap h' → Q () { s with heap := h', toks := s.toks + 2 }) :
    wpAny (model prog w) A (setAttr (.ref x) name v) Q E s := by
  obtain ⟨od, J, hl⟩ := I.look
  refine PySem.W.set_plain X J hs (PySem.W.osa_open (s := { s with toks := s.toks + 1 }) (r := none) X J hp ht fun b => ?_)
  obtain ⟨cd, hc, hd'⟩ := PySem.W.any_some hh
  have hx : s.heap.get? x = some ⟨.ref C, some dx, .plain, #[]⟩ := I.obj
  refine wpAny_bind (wpAny_pure (wpAny_bind (wpAny_bind (wpAny_loadPart hx (wpAny_bind (PySem.W.Looks.here (s := { s with toks := s.toks + 1 }) (PySem.W.looks_clsIn X hc) ?_))))))
  rw [hd']
  refine wpAny_pure (a := some dx) (wpAny_bind (wpAny_pure (wpAny_bind ?_)))
  refine wpAny_nsSet1 (s := { s with toks := s.toks + 1 }) I.ns fun h' hn2 hs2 => ?_
  obtain ⟨oD, esD, epD, hoD, hdD, hcD⟩ := hn2.count (PySem.Within.cons name v hw)
  refine wpAny_bind (wpAny_lookBehind hoD (by rw [hdD]; exact pastItsLine_dict (Nat.le_trans hcD (by rw [List.length_cons]; omega))) ?_)
  exact wpAny_pure (h _ ⟨(hs2.2 _ (Ne.symm I.ne)).trans I.obj, hn2, I.ne⟩ hs2)

/-- C(..): the dict at the heap's end, the instance behind it; then its __init__ -/
theorem make_map {R : Result → Shared → Prop} {vs : List Value} {kw : List (Str × Value)} (X : K.In s.heap) (hm : PySem.W.makesIn K C = true)
    (hi : PySem.W.findIn K (.ref C) "__init__" = some (some (.ref f))) (hf : PySem.W.typeIn K (.ref f) = some (.type "function"))
    (h : codeAny (model prog w) (A.under (.builtin "type.__call__" ⟨.ref C :: vs, kw⟩)) (.call (.ref f) ⟨.ref (s.heap.objs.size + 1) :: vs, kw⟩) (PySem.W.InitBack (s.heap.objs.size + 1) R)
      { s with heap := (s.heap.push PySem.W.emptyDict).push (PySem.W.instObj C s.heap.objs.size) }) :
    codeAny (model prog w) A (.call (.ref C) ⟨vs, kw⟩) R s := by
  obtain ⟨hh, g, d, t, os⟩ := s
  exact PySem.W.make_core (PySem.W.makes_of X hm) (PySem.W.looks_findIn X hi) (fun self => PySem.W.bind_fn X self hf) (.inl rfl) h
end

/-! ### the attributes as a list of pairs -/
def putF (f : Str) (v : V) : List (Str × V) → List (Str × V)
  | [] => [(f, v)]
  | (g, x) :: r => if g = f then (g, v) :: r else (g, x) :: putF f v r
theorem lookup_putF (f g : Str) (v : V) : ∀ fs : List (Str × V), (putF f v fs).lookup g = if g = f then some v else fs.lookup g
  | [] => by
    show List.lookup g [(f, v)] = _
    by_cases h : g = f
    · have hb : (g == f) = true := beq_iff_eq.mpr h
      simp only [List.lookup, hb, if_pos h]
    · have hb : (g == f) = false := beq_eq_false_iff_ne.mpr h
      simp only [List.lookup, hb, if_neg h]
  | (k, x) :: r => by
    have ih := lookup_putF f g v r
    rw [show putF f v ((k, x) :: r) = (if k = f then (k, v) :: r else (k, x) :: putF f v r) from rfl]
    by_cases hk : k = f
    · rw [if_pos hk]
      by_cases h : g = k
      · have hb : (g == k) = true := beq_iff_eq.mpr h
        simp only [List.lookup, hb, if_pos (h.trans hk)]
      · have hb : (g == k) = false := beq_eq_false_iff_ne.mpr h
        simp only [List.lookup, hb, if_neg (fun e : g = f => h (e.trans hk.symm))]
    · rw [if_neg hk]
      by_cases h : g = k
      · have hb : (g == k) = true := beq_iff_eq.mpr h
        simp only [List.lookup, hb, if_neg (fun e : g = f => hk (h.symm.trans e))]
      · have hb : (g == k) = false := beq_eq_false_iff_ne.mpr h
        simp only [List.lookup, hb]
        exact ih
theorem keys_putF (f : Str) (v : V) : ∀ fs : List (Str × V), f ∈ (putF f v fs).map (·.1) ∧ ∀ g, g ∈ fs.map (·.1) → g ∈ (putF f v fs).map (·.1)
  | [] => ⟨by simp [putF], fun g h => by simp at h⟩
  | (k, x) :: r => by
    obtain ⟨i1, i2⟩ := keys_putF f v r
    rw [show putF f v ((k, x) :: r) = (if k = f then (k, v) :: r else (k, x) :: putF f v r) from rfl]
    by_cases hk : k = f
    · rw [if_pos hk]
      subst hk
      exact ⟨by simp, fun g h => by simpa using h⟩
    · rw [if_neg hk]
      refine ⟨?_, fun g h => ?_⟩
      · rw [List.map_cons]
        exact List.mem_cons_of_mem _ i1
      · rw [List.map_cons] at h ⊢
        rcases List.mem_cons.mp h with e | e
        · exact List.mem_cons.mpr (.inl e)
        · exact List.mem_cons_of_mem _ (i2 g e)
theorem length_putF (f : Str) (v : V) : ∀ fs : List (Str × V), (putF f v fs).length ≤ fs.length + 1
  | [] => by simp [putF]
  | (k, x) :: r => by
    have ih := length_putF f v r
    rw [show putF f v ((k, x) :: r) = (if k = f then (k, v) :: r else (k, x) :: putF f v r) from rfl]
    by_cases hk : k = f
    · rw [if_pos hk, List.length_cons, List.length_cons]; omega
    · rw [if_neg hk, List.length_cons, List.length_cons]; omega

theorem RelO.some_of {v : V} {o : Option Value} (r : RelO (some v) o) : ∃ u, o = some u ∧ RelV v u := by
  cases o with
  | none => exact (show False from r).elim
  | some u => exact ⟨u, rfl, r⟩
theorem RelO.none_of {o : Option Value} (r : RelO none o) : o = none := by
  cases o with
  | none => rfl
  | some u => exact (show False from r).elim
theorem handed_of {v : V} {u : Value} (r : RelV v u) : PySem.W.handedIn u = true := by
  cases v with
  | non => cases (show u = Value.none from r); rfl
  | bl b => cases (show u = Value.bool b from r); rfl
  | int i => obtain ⟨t, e⟩ := (show ∃ t, u = Value.int i t from r); cases e; rfl
  | str x => obtain ⟨t, e⟩ := (show ∃ t, u = Value.str x t from r); cases e; rfl
  | byt b => obtain ⟨t, e⟩ := (show ∃ t, u = Value.bytes b t from r); cases e; rfl
  | flt b => obtain ⟨t, e⟩ := (show ∃ t, u = Value.float b t from r); cases e; rfl
  | ref a => cases (show u = Value.ref a from r); rfl
  | ty n => cases (show u = Value.type n from r); rfl

section
variable {P : Program} {w : World} {H H' : Hp} {h h' : Heap} {a C dx : Addr} {fs fs' : List (Str × V)}
theorem ins_get (hok : HOk P w H h) (e : H a = some (.ins C dx fs)) : ∃ mA, ObjM h a dx C mA ∧ (∀ f, RelO (fs.lookup f) (mA f)) ∧ PySem.Within mA (fs.map (·.1)) ∧ fs.length ≤ 1000 ∧ H dx = some (.own a) := by
  obtain ⟨d, z, ne, ob, mA, n, r, q⟩ := (show ObjOk P w H h a (.ins C dx fs) from hok a _ e)
  exact ⟨mA, ⟨ob, n, ne⟩, r, q, z, d⟩
end

/-! ### what of the text a class must have -/
structure Cls (K : PySem.W.Frag) (C : Addr) : Prop where
  pg : PySem.W.plainGet K C Str.empty = true
  hd : PySem.W.hasDictIn K C = true
  po : PySem.W.plainOver K C = true
  sa : PySem.W.findIn K (.ref C) "__setattr__" = some (some (.builtin "object.__setattr__"))
theorem Cls.get {K : PySem.W.Frag} {C : Addr} (c : Cls K C) (f : Str) : PySem.W.plainGet K C f = true := c.pg
/-- no class of it has the name -/
def NoAttr (K : PySem.W.Frag) (C : Addr) (f : Str) : Prop := PySem.W.findIn K (.ref C) f = some none
theorem NoAttr.taker {K : PySem.W.Frag} {C : Addr} {f : Str} (n : NoAttr K C f) : PySem.W.takerIn K C f = some none := by
  unfold PySem.W.takerIn
  rw [show PySem.W.findIn K (.ref C) f = some none from n]
  rfl
/-- a method: a plain def of the class or of one above it -/
structure Meth (K : PySem.W.Frag) (C : Addr) (m : Str) (f : Addr) : Prop where
  at_ : PySem.W.findIn K (.ref C) m = some (some (.ref f))
  fn : PySem.W.isFn K (.ref f) = true
  kp : PySem.W.keepIn K (.ref f) = true

section
variable {X : Cx} {pins : List (Addr × Obj)} {σ : St} {H : Hp} {s : Shared} {a C dx : Addr} {fs : List (Str × V)} {f : Str} {v : V} {A : Around} {E : Value → Shared → Prop}

theorem getattr_ok {b : Bool} {Q : Value → Shared → Prop} (I : Inv X pins σ H s) (e : H a = some (.ins C dx fs)) (c : Cls X.K C) (n : NoAttr X.K C f) (l : fs.lookup f = some v)
    (h : ∀ u s', Inv X pins σ H s' → RelV v u → Q u s') : wpAny (model X.prog X.w) A (getAttr (.ref a) f b) Q E s := by
  obtain ⟨mA, O, r, _, _, _⟩ := ins_get I.hok e
  obtain ⟨u, hu, ru⟩ := RelO.some_of (v := v) (o := mA f) (by rw [← l]; exact r f)
  exact get_map I.kIn O (c.get f) c.hd n hu (handed_of ru) (h u _ (I.tok _) ru)


theorem getmeth_ok {m : Str} {g : Addr} {pl : Sem Bool} {Q : Value × List Value → Shared → Prop} (I : Inv X pins σ H s) (e : H a = some (.ins C dx fs)) (c : Cls X.K C) (k : Meth X.K C m g) (l : fs.lookup m = none)
    (h : Q (.ref g, [.ref a]) s) : wpAny (model X.prog X.w) A (getMethod (.ref a) m pl) Q E s := by
  obtain ⟨mA, O, r, _, _, _⟩ := ins_get I.hok e
  have hn : mA m = none := RelO.none_of (by rw [← l]; exact r m)
  exact get_meth I.kIn O (c.get m) k.at_ k.fn hn h

theorem setattr_ok {y : V} {u : Value} {Q : Unit → Shared → Prop} (I : Inv X pins σ H s) (e : H a = some (.ins C dx fs)) (c : Cls X.K C) (n : NoAttr X.K C f) (hl : fs.length < 1000) (ry : RelV y u)
    (h : ∀ s', Inv X pins σ (upd H a (.ins C dx (putF f y fs))) s' → Q () s') : wpAny (model X.prog X.w) A (setAttr (.ref a) f u) Q E s := by
  obtain ⟨mA, O, r, wi, _, ho⟩ := ins_get I.hok e
  have hz : (fs.map (·.1)).length ≤ sizeLine := by rw [List.length_map, sizeLine_eq]; omega
  refine set_map I.kIn O c.sa c.po n.taker c.hd wi hz fun h' O' sb => h _ ?_
  have hd : ∃ o, h'.get? dx = some o := let ⟨o, _, _, e', _⟩ := O'.ns; ⟨o, e'⟩
  refine I.write (x := a) (e := dx) (by rw [e]; exact True.intro) (.inr ho) (fun b q hb z => (sb.2 b hb).trans z) hd ?_
  refine ⟨by rw [upd_ne O.ne]; exact ho, ?_, O.ne, O'.obj, _, O'.ns, fun g => ?_, fun g hg => ?_⟩
  · have := length_putF f y fs; omega
  · show RelO ((putF f y fs).lookup g) (if g = f then some u else mA g)
    rw [lookup_putF]
    by_cases q : g = f
    · rw [if_pos q, if_pos q]; exact ry
    · rw [if_neg q, if_neg q]; exact r g
  · by_cases q : g = f
    · rw [q]; exact (keys_putF f y fs).1
    · refine (keys_putF f y fs).2 g (wi g fun z => hg ?_)
      show (if g = f then some u else mA g) = none
      rw [if_neg q]; exact z

/-- a new instance, tracked, without attributes -/
theorem Inv.made (I : Inv X pins σ H s) : Inv X pins σ (upd (upd H s.heap.objs.size (.own (s.heap.objs.size + 1))) (s.heap.objs.size + 1) (.ins C s.heap.objs.size []))
    { s with heap := (s.heap.push PySem.W.emptyDict).push (PySem.W.instObj C s.heap.objs.size) } := by
  have e1 : (s.heap.push PySem.W.emptyDict).get? s.heap.objs.size = some PySem.W.emptyDict := Heap.get?_push_size s.heap rfl
  have e2 : ((s.heap.push PySem.W.emptyDict).push (PySem.W.instObj C s.heap.objs.size)).get? (s.heap.objs.size + 1) = some (PySem.W.instObj C s.heap.objs.size) := by
    have := Heap.get?_push_size (s.heap.push PySem.W.emptyDict) (o := PySem.W.instObj C s.heap.objs.size) rfl
    rwa [Heap.size_push] at this
  have e3 : (s.heap.push PySem.W.emptyDict).Ns s.heap.objs.size (fun _ => none) := ⟨PySem.W.emptyDict, #[], _, e1, rfl, (fun e he => absurd he (by simp)), fun _ => rfl⟩
  have I1 := I.laid (a := s.heap.objs.size) (o := .own (s.heap.objs.size + 1)) (h' := s.heap.push PySem.W.emptyDict) (t' := s.toks) (fun b u q => Heap.get?_push_of_some _ q) (Nat.le_refl _) ⟨_, e1⟩
  refine I1.laid (a := s.heap.objs.size + 1) (o := .ins C s.heap.objs.size []) (t' := s.toks) (fun b u q => Heap.get?_push_of_some _ q) (Nat.le_of_eq (Heap.size_push _ _)) ?_
  have ne : s.heap.objs.size ≠ s.heap.objs.size + 1 := Nat.ne_of_lt (Nat.lt_succ_self _)
  refine ⟨by rw [upd_ne ne, upd_same], Nat.zero_le _, ne, e2, fun _ => none, (Heap.Ns1.of_empty e3).at fun o q => Heap.get?_push_of_some _ q, fun _ => True.intro, fun y hy => absurd rfl hy⟩

/-- e.f where nothing but the object is asked: through attributeBase (super) and the last hold -/
theorem attr_of {prog : Program} {w : World} {env : Env} {e : Expr} {f : Str} {pos : Pos} {s : Shared} {Q : Value → Shared → Prop} (hb : attributeBase e f env (eval e env) = eval e env)
    (h : wpAny (model prog w) A (eval e env) (fun o s₁ => wpAny (model prog w) A (getAttr o f true) Q E s₁) E s) : wpAny (model prog w) A (eval (.Attribute e f pos) env) Q E s :=
  Attribute_any_ h (by rw [arm_eval_Attribute, hb])
end

/-! ### readings and rules -/
/-- e.f, an attribute of the instance -/
def tFld (K : PySem.W.Frag) (ta : TE) (f : Str) : TE := fun σ H Q => ta σ H fun x H1 => ∃ a C dx fs v, x = .ref a ∧ H1 a = some (.ins C dx fs) ∧ Cls K C ∧ NoAttr K C f ∧ fs.lookup f = some v ∧ Q v H1
/-- e.f = value -/
def sFld (K : PySem.W.Frag) (ta tv : TE) (f : Str) : TS := fun D σ H => tv σ H fun y H1 => ta σ H1 fun x H2 => ∃ a C dx fs, x = .ref a ∧ H2 a = some (.ins C dx fs) ∧ Cls K C ∧ NoAttr K C f ∧ fs.length < 1000 ∧
  D.nx σ (upd H2 a (.ins C dx (putF f y fs)))

section
variable {X : Cx} {o e value : Expr} {f : Str} {pos pos' tpos : Pos} {ta tv : TE}
theorem pe_fld (he : PE X e ta) (hb : attributeBase e f X.env (eval e X.env) = eval e X.env) : PE X (.Attribute e f pos) (tFld X.K ta f) := by
  intro pins s σ H Q I h
  refine attr_of hb (thn (he pins s σ H _ I h) fun u s1 ⟨x, H1, I1, rx, a, C, dx, fs, v, ex, ea, c, n, l, q⟩ => ?_)
  subst ex
  obtain rfl : u = Value.ref a := rx
  exact getattr_ok I1 ea c n l fun u' s2 I2 ru => ⟨v, H1, I2, ru, q⟩
theorem ps_fld (ha : PE X o ta) (hv : PE X value tv) (hs : swapsWith value (some (.Attribute o f pos')) pos.line X.env = pure false) : PS X (.Assign [.Attribute o f pos'] value pos) (sFld X.K ta tv f) := by
  intro pins s σ H D I h
  refine plainObj_wpAny_Assign_Attribute (thn (hv pins s σ H _ I h) fun u s1 ⟨y, H1, I1, ry, q⟩ => thn (ha pins s1 σ H1 _ I1 q) fun ov s2 ⟨x, H2, I2, rx, a, C, dx, fs, ex, ea, c, n, l, q2⟩ => ?_) hs
  subst ex
  obtain rfl : ov = Value.ref a := rx
  exact setattr_ok I2 ea c n l ry fun s3 I3 => ⟨σ, _, I3, q2⟩

end

/-! ### isinstance -/
section
variable {X : Cx} {pins : List (Addr × Obj)} {σ : St} {H : Hp} {s : Shared} {A : Around} {E : Value → Shared → Prop} {Q : Value → Shared → Prop} {c : Value} {b : Bool}
end
end L2

namespace L2
open PySem PySem.Spec PyProof.Rows

/-! ### room -/
structure Room (k : Nat) (A : Around) : Prop where
  hd : A.handled = none
  dp : A.depth + 3 * k + 5 < recursionLimit
  un : A.units + 16 * k + 200 < cLine
theorem Room.mono {j k : Nat} {A : Around} (r : Room k A) (h : j ≤ k) : Room j A := ⟨r.hd, by have := r.dp; omega, by have := r.un; omega⟩
theorem Room.deeper {k : Nat} {A : Around} (r : Room (k + 1) A) (env : Env) : Room k (A.deeper env) :=
  ⟨r.hd, by have := r.dp; show A.depth + 1 + 3 * k + 5 < _; omega, by have := r.un; show A.units + 3 + 16 * k + 200 < _; omega⟩
theorem make_depth {A : Around} {C : Addr} {us : List Value} {kw : List (Str × Value)} : (A.under (.builtin "type.__call__" ⟨.ref C :: us, kw⟩)).depth = A.depth + 1 := by
  first | rfl | simp [Around.under, Code.weight, Code.isCreation, Code.isGuard, Code.isCaller, Code.frames, Code.isFrame, guardIds]
theorem make_units {A : Around} {C : Addr} {us : List Value} {kw : List (Str × Value)} : (A.under (.builtin "type.__call__" ⟨.ref C :: us, kw⟩)).units = A.units + 1 := by
  first | rfl | simp [Around.under, Code.cUnits, Code.frames, Code.isFrame]
theorem Room.make {k : Nat} {A : Around} (r : Room (k + 1) A) (C : Addr) (us : List Value) (kw : List (Str × Value)) : Room k (A.under (.builtin "type.__call__" ⟨.ref C :: us, kw⟩)) :=
  ⟨r.hd, by have := r.dp; rw [make_depth]; omega, by have := r.un; rw [make_units]; omega⟩
theorem Room.depth {k : Nat} {A : Around} (r : Room k A) : A.depth < recursionLimit := by have := r.dp; omega

/-! ### argument lists and displays -/
def tNil : TA := fun _ H Q => Q [] H
def tCons (ta : TE) (tr : TA) : TA := fun σ H Q => ta σ H fun x H1 => tr σ H1 fun xs H2 => Q (x :: xs) H2
section
variable {X : Cx} {e : Expr} {es : List Expr} {te : TE} {t : TA} {pos : Pos}
theorem pa_nil : PA X [] tNil := fun _ _ _ _ H Q I h => Calls.spliced_nil ⟨[], H, I, .nil, h⟩
theorem pa_cons (ha : PE X e te) (hr : PA X es t) (hs : starEach (e :: es) X.env = (false, eval e X.env) :: starEach es X.env := by rfl) : PA X (e :: es) (tCons te t) := by
  intro pos pins s σ H Q I h
  rw [hs]
  show wpAny _ _ (spliced ((false, eval e X.env) :: backTo pos (starEach es X.env))) _ _ s
  refine Calls.spliced_cons (thn (ha pins s σ H _ I h) fun u s1 ⟨x, H1, I1, r1, q1⟩ => ?_)
  exact thn (hr pos pins s1 σ H1 _ I1 q1) fun us s2 ⟨xs, H2, I2, r2, q2⟩ => ⟨x :: xs, H2, I2, .cons r1 r2, q2⟩

/-- a tuple, a list of written items -/
def tTup (t : TA) : TE := fun σ H Q => t σ H fun xs H1 => xs.length ≤ sizeLine ∧ ∀ p, H1 p = none → Q (.ref p) (upd H1 p (.tup xs))
def tLst (t : TA) : TE := fun σ H Q => t σ H fun xs H1 => xs.length ≤ sizeLine ∧ ∀ p, H1 p = none → Q (.ref p) (upd H1 p (.lst xs))
theorem pe_tup {x1} (h : PA X es t) : PE X (.Tuple es x1 pos) (tTup t) := by
  intro pins s σ H Q I hq
  refine wpAny_Tuple_spliced (thn (h pos pins s σ H _ I hq) fun us s1 ⟨xs, H1, I1, r, z, q⟩ => ⟨by rw [← r.length]; exact z, ?_⟩)
  have hf : H1 s1.heap.objs.size = none := I1.hok.fresh (Nat.le_refl _)
  refine ⟨.ref s1.heap.objs.size, upd H1 s1.heap.objs.size (.tup xs), I1.laid (t' := s1.toks) (fun b u e => Heap.get?_push_of_some _ e) (Nat.le_refl _) ?_, rfl, q _ hf⟩
  exact ⟨z, us, r, ⟨_, Heap.get?_push_size _ rfl, rfl, _, rfl⟩⟩
theorem pe_lst (h : PA X es t) : PE X (.List es pos) (tLst t) := by
  intro pins s σ H Q I hq
  refine wpAny_List_spliced (thn (h pos pins s σ H _ I hq) fun us s1 ⟨xs, H1, I1, r, z, q⟩ => ⟨by rw [← r.length]; exact z, ?_⟩)
  have hf : H1 s1.heap.objs.size = none := I1.hok.fresh (Nat.le_refl _)
  refine ⟨.ref s1.heap.objs.size, upd H1 s1.heap.objs.size (.lst xs), I1.laid (t' := s1.toks) (fun b u e => Heap.get?_push_of_some _ e) (Nat.le_refl _) ?_, rfl, q _ hf⟩
  exact ⟨z, us, 0, r, Heap.get?_push_size _ rfl⟩
end

/-! ### what a def promises -/
/-- a def's promise: the bound arguments in the parameters' order, the heap, the wanted end, the wanted exception -/
abbrev Sp := List V → Hp → VK → XK → Prop
/-- how an exception lies behind a call (file 08 gives it): the callers' frames, abstract heap and state ahead of the call, the wish, the exception, the state -/
abbrev CXT := List Env → Hp → Shared → XK → Value → Shared → Prop

/-- the state at a call -/
structure Env0 (P : Program) (w : World) (K : PySem.W.Frag) (mg : Str → Option Value) (base : Heap) (A : Around) (outer : List Env) (s : Shared) (H : Hp) : Prop where
  frames : A.frames = some outer
  mod : Mod K mg base
  bs : ∀ b o, base.get? b = some o → s.heap.get? b = some o ∧ H b = none
  bsz : base.objs.size ≤ s.heap.objs.size
  funs : s.heap.FunFrames base outer
  frf : ∀ b ∈ frs outer, H b = none
  hok : HOk P w H s.heap
  bare : AllBare s.gens
/-- a call's end -/
def CE (outer : List Env) (P : Program) (w : World) (H : Hp) (s : Shared) (Q : VK) (u : Value) (s' : Shared) : Prop :=
  ∃ v H', s'.os = s.os ∧ AllBare s'.gens ∧ Un (frs outer) [] H H' s.heap s'.heap ∧ HOk P w H' s'.heap ∧ RelV v u ∧ Q v H'
def CR (CX : CXT) (outer : List Env) (P : Program) (w : World) (H : Hp) (s : Shared) (Q : VK) (E : XK) (r : Result) (s' : Shared) : Prop :=
  match r with
  | .ok (.ret u) => CE outer P w H s Q u s'
  | .ok _ => False
  | .error e => CX outer H s E e s'
structure FnOk (P : Program) (w : World) (K : PySem.W.Frag) (mg : Str → Option Value) (base : Heap) (CX : CXT) (k : Nat) (f : Addr) (fd : FuncData) (ps : List Str) (sp : Sp) : Prop where
  len : ∀ vs H Q E, sp vs H Q E → vs.length = ps.length
  run : ∀ (A : Around) (outer : List Env) (s : Shared) (H : Hp) (args : Args) (us : List Value) (vs : List V) (Q : VK) (E : XK), Room k A → Env0 P w K mg base A outer s H → BindsTo s fd args (ps.zip us) → Vals vs us → sp vs H Q E →
    codeAny (model P w) A (.call (.ref f) args) (CR CX outer P w H s Q E) s

theorem Env0.make {P : Program} {w : World} {K : PySem.W.Frag} {mg : Str → Option Value} {base : Heap} {A : Around} {outer : List Env} {s : Shared} {H : Hp} (e : Env0 P w K mg base A outer s H) (C : Addr) (us : List Value) (kw : List (Str × Value)) :
    Env0 P w K mg base (A.under (.builtin "type.__call__" ⟨.ref C :: us, kw⟩)) outer s H := ⟨by first | exact e.frames | (simpa [Around.under, Code.envs, Code.isFrame, pushEnvs] using e.frames), e.mod, e.bs, e.bsz, e.funs, e.frf, e.hok, e.bare⟩

section
variable {X : Cx} {pins : List (Addr × Obj)} {σ : St} {H : Hp} {s s' : Shared}
/-- from a body: what a callee wants -/
theorem Inv.env0 (I : Inv X pins σ H s) : Env0 X.prog X.w X.K X.mg X.base X.A X.stack s H :=
  ⟨I.ok.frames, I.ok.mod, I.bs, Nat.le_trans I.ok.bsz I.sz, I.stack, I.stkFree, I.hok, I.bare⟩
/-- behind a call -/
theorem Inv.after {Q : VK} {u : Value} (I : Inv X pins σ H s) (h : CE X.stack X.prog X.w H s Q u s') : EP X pins σ Q u s' := by
  obtain ⟨v, H', os, bare, un, hok, r, q⟩ := h
  obtain ⟨hh, g, d, t, os'⟩ := s'
  obtain rfl : os' = s.os := os
  exact ⟨v, H', I.call (h' := hh) (g' := g) (d' := d) (t' := t) (ch := []) un hok bare (fun b z => absurd z (by simp)), r, q⟩
end

/-! ### calls -/
/-- f(..): the written arguments, then the defaults dvs; E: what is wanted of an exception -/
def tCall (sp : Sp) (dvs : List V) (E : XK) (t : TA) : TE := fun σ H Q => t σ H fun vs H1 => sp (vs ++ dvs) H1 Q E
/-- o.m(..) of an instance of the class at C -/
def tMeth (C : Addr) (m : Str) (sp : Sp) (dvs : List V) (E : XK) (ta : TE) (t : TA) : TE := fun σ H Q => ta σ H fun x H1 => ∃ a dx fs, x = .ref a ∧ H1 a = some (.ins C dx fs) ∧ fs.lookup m = none ∧
  t σ H1 fun vs H2 => sp (x :: (vs ++ dvs)) H2 Q E
/-- C(..): a new instance and its dict, then __init__ -/
def tMake (C : Addr) (sp : Sp) (dvs : List V) (E : XK) (t : TA) : TE := fun σ H Q => t σ H fun vs H1 => ∀ x dx, H1 x = none → H1 dx = none → dx ≠ x →
  sp (.ref x :: (vs ++ dvs)) (upd (upd H1 dx (.own x)) x (.ins C dx [])) (fun v H2 => v = .non ∧ Q (.ref x) H2) E

/-- how the parameters are bound: us the positional arguments, kw the keywords' values by name, ds the defaults that fill up -/
def Binds (K : PySem.W.Frag) (fd : FuncData) (ps : List Str) (ds : List Value) : Prop :=
  ∀ (s : Shared) (us : List Value), K.In s.heap → (us ++ ds).length = ps.length → BindsTo s fd ⟨us, []⟩ (ps.zip (us ++ ds))
/-- every parameter is given -/
theorem Binds.all {K : PySem.W.Frag} {fd : FuncData} {ps : List Str} (h : ∀ us : List Value, us.length = ps.length → bindArgs fd ⟨us, []⟩ = pure (ps.zip us)) : Binds K fd ps [] := fun s us _ hl => by
  rw [List.append_nil] at hl ⊢
  exact .of_eq (h us hl)

/-- an exception of a callee reaches what this body wants of exceptions -/
def Passes (CX : CXT) (X : Cx) (E : XK) : Prop := ∀ (pins : List (Addr × Obj)) (σ : St) (H : Hp) (s : Shared) (e : Value) (s' : Shared), Inv X pins σ H s → CX X.stack H s E e s' → X.xe e s'

section
variable {X : Cx} {CX : CXT} {k : Nat} {f C : Addr} {fd : FuncData} {ps : List Str} {sp : Sp} {dvs : List V} {ds : List Value} {E : XK} {x m : Str} {p pos apos : Pos} {e o : Expr} {es : List Expr} {ta : TE} {t : TA}

/-- the callee runs -/
theorem run_fn {pins : List (Addr × Obj)} {σ : St} {H : Hp} {s : Shared} {Q : VK} {us : List Value} {vs : List V} (F : FnOk X.prog X.w X.K X.mg X.base CX k f fd ps sp) (hr : Room k X.A) (hb : Binds X.K fd ps ds) (hd : Vals dvs ds) (hx : Passes CX X E)
    (I : Inv X pins σ H s) (r : Vals vs us) (h : sp (vs ++ dvs) H Q E) : wpAny (model X.prog X.w) X.A (call (.ref f) us) (EP X pins σ Q) X.xe s := by
  have r2 : Vals (vs ++ dvs) (us ++ ds) := r.append hd
  have hl : (us ++ ds).length = ps.length := by rw [← r2.length]; exact F.len _ _ _ _ h
  refine wpAny_call (codeAny_mono (F.run X.A X.stack s H ⟨us, []⟩ (us ++ ds) (vs ++ dvs) Q E hr I.env0 (hb s us I.kIn hl) r2 h) fun r s' hq => ?_)
  cases r with
  | error e => exact hx pins σ H s e s' I hq
  | ok fl =>
    cases fl with
    | ret u => exact I.after hq
    | next => exact False.elim hq
    | brk => exact False.elim hq
    | cont => exact False.elim hq

theorem pe_call (F : FnOk X.prog X.w X.K X.mg X.base CX k f fd ps sp) (hr : Room k X.A) (hg : Gl X x) (hm : X.mg x = some (.ref f)) (hk : PySem.W.keepIn X.K (.ref f) = true) (hb : Binds X.K fd ps ds) (hd : Vals dvs ds) (hx : Passes CX X E)
    (ha : PA X (e :: es) t) (hdb : (x == ("__debug__" : Str)) = false := by decide) (he : starEach (e :: es) X.env = (false, eval e X.env) :: starEach es X.env := by rfl) (hpl : (backTo pos (starEach es X.env)).any (·.1) = false := by rfl) :
    PE X (.Call (.Name x p) (e :: es) [] pos) (tCall sp dvs E t) := by
  intro pins s σ H Q I h
  refine wpAny_Call_Name_kw (ld_glob I hg hm ?_ hdb)
  refine PySem.W.callWith_K (h₀ := X.base) I.ok.mod.kin hk (thn (ha pos pins s σ H _ I h) fun us s1 ⟨vs, H1, I1, r, q⟩ => ⟨I1.kIn, ?_⟩) he hpl
  exact run_fn F hr hb hd hx I1 r q

/-- o.m(e, ..) -/
theorem pe_meth {pl : Sem Bool} (he : PE X o ta) (c : Cls X.K C) (hm : Meth X.K C m f) (F : FnOk X.prog X.w X.K X.mg X.base CX k f fd ps sp) (hr : Room k X.A) (hb : Binds X.K fd ps ds) (hd : Vals dvs ds) (hx : Passes CX X E) (ha : PA X (e :: es) t)
    (hst : starEach (e :: es) X.env = (false, eval e X.env) :: starEach es X.env := by rfl) (hpl : (backTo pos (starEach es X.env)).any (·.1) = false := by rfl)
    (ht : eval (.Call (.Attribute o m apos) (e :: es) [] pos) X.env = (do
      let ov ← eval o X.env
      standAt apos.atName
      let (f, first) ← holding [ov] (getMethod ov m pl)
      callWith pos f first (backTo pos (starEach (e :: es) X.env)) (backToKw pos (keywordEach [] X.env))) := by rfl) :
    PE X (.Call (.Attribute o m apos) (e :: es) [] pos) (tMeth C m sp dvs E ta t) := by
  intro pins s σ H Q I h
  refine PySem.W.methodCall_KW (pl := pl) (thn (he pins s σ H _ I h) fun u s1 ⟨x, H1, I1, rx, a, dx, fs, ex, ea, l, q⟩ => ?_) ht
  subst ex
  obtain rfl : u = Value.ref a := rx
  refine getmeth_ok I1 ea c hm l ?_
  refine PySem.W.callWith_K (first := [.ref a]) (h₀ := X.base) I.ok.mod.kin hm.kp (thn (ha pos pins s1 σ H1 _ I1 q) fun us s2 ⟨vs, H2, I2, r, q2⟩ => ⟨I2.kIn, ?_⟩) hst hpl
  exact run_fn (us := .ref a :: us) (vs := .ref a :: vs) F hr hb hd hx I2 (.cons rfl r) q2

/-- what a class must have to be made -/
structure Mk (K : PySem.W.Frag) (C f : Addr) : Prop where
  makes : PySem.W.makesIn K C = true
  init : PySem.W.findIn K (.ref C) "__init__" = some (some (.ref f))
  fn : PySem.W.isFn K (.ref f) = true
  kp : PySem.W.keepIn K (.ref C) = true

theorem run_make {pins : List (Addr × Obj)} {σ : St} {H : Hp} {s : Shared} {Q : VK} {us : List Value} {vs : List V} (M : Mk X.K C f) (F : FnOk X.prog X.w X.K X.mg X.base CX k f fd ps sp) (hr : Room (k + 1) X.A) (hb : Binds X.K fd ps ds) (hd : Vals dvs ds)
    (hx : Passes CX X E) (I : Inv X pins σ H s) (r : Vals vs us)
    (h : ∀ x dx, H x = none → H dx = none → dx ≠ x → sp (.ref x :: (vs ++ dvs)) (upd (upd H dx (.own x)) x (.ins C dx [])) (fun v H2 => v = .non ∧ Q (.ref x) H2) E) :
    wpAny (model X.prog X.w) X.A (call (.ref C) us) (EP X pins σ Q) X.xe s := by
  have hq := h (s.heap.objs.size + 1) s.heap.objs.size (I.hok.fresh (Nat.le_succ _)) (I.hok.fresh (Nat.le_refl _)) (Nat.ne_of_lt (Nat.lt_succ_self _))
  have I2 := Inv.made (C := C) I
  have r2 : Vals (V.ref (s.heap.objs.size + 1) :: (vs ++ dvs)) (Value.ref (s.heap.objs.size + 1) :: (us ++ ds)) := .cons rfl (r.append hd)
  have hl : (Value.ref (s.heap.objs.size + 1) :: us ++ ds).length = ps.length := by
    have e := r2.length
    rw [F.len _ _ _ _ hq] at e
    exact e.symm
  refine wpAny_call (make_map (f := f) I.kIn M.makes M.init (beq_iff_eq.mp M.fn) (codeAny_mono (F.run _ X.stack _ _ ⟨Value.ref (s.heap.objs.size + 1) :: us, []⟩ (Value.ref (s.heap.objs.size + 1) :: (us ++ ds)) _ _ E (hr.make C us [])
    (I2.env0.make C us []) (hb _ (Value.ref (s.heap.objs.size + 1) :: us) I2.kIn hl) r2 hq) fun r s' hq' => ?_))
  cases r with
  | error e => exact hx pins σ _ _ e s' I2 hq'
  | ok fl =>
    cases fl with
    | ret u =>
      obtain ⟨v, H', I3, rv, ev, q3⟩ := I2.after hq'
      subst ev
      exact ⟨rv, ⟨V.ref (s.heap.objs.size + 1), H', I3, rfl, q3⟩⟩
    | next => exact False.elim hq'
    | brk => exact False.elim hq'
    | cont => exact False.elim hq'
theorem pe_make (M : Mk X.K C f) (F : FnOk X.prog X.w X.K X.mg X.base CX k f fd ps sp) (hr : Room (k + 1) X.A) (hg : Gl X x) (hm : X.mg x = some (.ref C)) (hb : Binds X.K fd ps ds) (hd : Vals dvs ds) (hx : Passes CX X E)
    (ha : PA X (e :: es) t) (hdb : (x == ("__debug__" : Str)) = false := by decide) (he : starEach (e :: es) X.env = (false, eval e X.env) :: starEach es X.env := by rfl) (hpl : (backTo pos (starEach es X.env)).any (·.1) = false := by rfl) :
    PE X (.Call (.Name x p) (e :: es) [] pos) (tMake C sp dvs E t) := by
  intro pins s σ H Q I h
  refine wpAny_Call_Name_kw (ld_glob I hg hm ?_ hdb)
  refine PySem.W.callWith_K (h₀ := X.base) I.ok.mod.kin M.kp (thn (ha pos pins s σ H _ I h) fun us s1 ⟨vs, H1, I1, r, q⟩ => ⟨I1.kIn, ?_⟩) he hpl
  exact run_make M F hr hb hd hx I1 r q
end

/-! ### keywords -/
/-- the values of the keywords, from the left -/
def PK (X : Cx) (kws : List Keyword) (t : TA) : Prop :=
  ∀ (pos : Pos) (pins : List (Addr × Obj)) (s : Shared) (σ : St) (H : Hp) (Q : List V → Hp → Prop), Inv X pins σ H s → t σ H Q → wpAny (model X.prog X.w) X.A (evalAll ((backToKw pos (keywordEach kws X.env)).map (·.2))) (AP X pins σ Q) X.xe s
section
variable {X : Cx} {CX : CXT} {k : Nat} {f C : Addr} {fd : FuncData} {ps ks : List Str} {sp : Sp} {E : XK} {x m : Str} {p pos apos kpos : Pos} {e o : Expr} {es : List Expr} {kws : List Keyword} {te ta : TE} {t tk : TA} {nm : Option Str}
theorem pk_nil : PK X [] tNil := fun _ _ _ _ H Q I h => wpAny_evalAll_nil ⟨[], H, I, .nil, h⟩
theorem pk_cons (ha : PE X e te) (hr : PK X kws t) : PK X (⟨nm, e, kpos⟩ :: kws) (tCons te t) := by
  intro pos pins s σ H Q I h
  show wpAny _ _ (evalAll ((do let v ← eval e X.env; standAt pos; pure v) :: (backToKw pos (keywordEach kws X.env)).map (·.2))) _ _ s
  refine wpAny_evalAll_cons (wpAny_bind (thn (ha pins s σ H _ I h) fun u s1 ⟨x, H1, I1, r1, q1⟩ => wpAny_bind (wpAny_standAt (wpAny_pure ?_))))
  exact thn (hr pos pins s1 σ H1 _ I1 q1) fun us s2 ⟨xs, H2, I2, r2, q2⟩ => ⟨x :: xs, H2, I2, .cons r1 r2, q2⟩

variable {g : List Value → List Value → List Value} {gV : List V → List V → List V}
end

/-! ### a def's body keeps its promise -/
/-- names: the parameters first -/
structure FnScope (N P : List Str) (sc : Scope) : Prop where
  kind : sc.kind = .function
  co : sc.isCoroutine = false
  gen : sc.isGenerator = false
  nd : N.Nodup
  pre : N.take P.length = P
  par : ∀ x ∈ P, sc.names.lookup x = some .local ∨ sc.names.lookup x = some .cell
  nofree : ∀ y ∈ sc.names, y.2 ≠ .free

theorem bindL_out {kindOf : Str → Option NameKind} {x : Str} : ∀ {binds : List (Str × Value)} {m : Str → Option Value}, (∀ v, (x, v) ∉ binds) → bindL kindOf binds m x = m x
  | [], _, _ => rfl
  | (n, v) :: r, m, h => by
    unfold bindL
    rw [bindL_out fun w hw => h w (List.mem_cons_of_mem _ hw)]
    split
    · have : x ≠ n := by rintro rfl; exact h v List.mem_cons_self
      simp [this]
    · rfl
theorem bindC_out {kindOf : Str → Option NameKind} {x : Str} : ∀ {binds : List (Str × Value)} {m : Str → Option Value}, (∀ v, (x, v) ∉ binds) → bindC kindOf binds m x = m x
  | [], _, _ => rfl
  | (n, v) :: r, m, h => by
    unfold bindC
    rw [bindC_out fun w hw => h w (List.mem_cons_of_mem _ hw)]
    split
    · rfl
    · have : x ≠ n := by rintro rfl; exact h v List.mem_cons_self
      simp [this]
theorem bindL_get {kindOf : Str → Option NameKind} {x : Str} {v : Value} : ∀ {P : List Str} {vs : List Value} {i : Nat} {m : Str → Option Value}, P.Nodup → P[i]? = some x → vs[i]? = some v → kindOf x = some .local →
    bindL kindOf (P.zip vs) m x = some v
  | [], _, _, _, _, h, _, _ => by simp at h
  | _ :: _, [], _, _, _, _, h, _ => by simp at h
  | p :: P, w :: vs, 0, m, nd, h1, h2, hk => by
    simp at h1 h2; subst h1; subst h2
    show bindL kindOf ((p, w) :: P.zip vs) m p = _
    unfold bindL
    rw [bindL_out fun v hv => (List.nodup_cons.mp nd).1 (List.of_mem_zip hv).1, if_pos hk]
    simp
  | p :: P, w :: vs, i + 1, m, nd, h1, h2, hk => by
    show bindL kindOf ((p, w) :: P.zip vs) m x = _
    unfold bindL
    exact bindL_get (i := i) (List.nodup_cons.mp nd).2 (by simpa using h1) (by simpa using h2) hk
theorem bindC_get {kindOf : Str → Option NameKind} {x : Str} {v : Value} : ∀ {P : List Str} {vs : List Value} {i : Nat} {m : Str → Option Value}, P.Nodup → P[i]? = some x → vs[i]? = some v → kindOf x ≠ some .local →
    bindC kindOf (P.zip vs) m x = some v
  | [], _, _, _, _, h, _, _ => by simp at h
  | _ :: _, [], _, _, _, _, h, _ => by simp at h
  | p :: P, w :: vs, 0, m, nd, h1, h2, hk => by
    simp at h1 h2; subst h1; subst h2
    show bindC kindOf ((p, w) :: P.zip vs) m p = _
    unfold bindC
    rw [bindC_out fun v hv => (List.nodup_cons.mp nd).1 (List.of_mem_zip hv).1, if_neg hk]
    simp
  | p :: P, w :: vs, i + 1, m, nd, h1, h2, hk => by
    show bindC kindOf ((p, w) :: P.zip vs) m x = _
    unfold bindC
    exact bindC_get (i := i) (List.nodup_cons.mp nd).2 (by simpa using h1) (by simpa using h2) hk

/-- the names' values at the entry -/
def start (N : List Str) (vs : List V) : St := vs.map some ++ List.replicate (N.length - vs.length) none

/-- the context of a def's body, at its entry; an exception leaves the frame, then lies as CX says -/
def cxOf (CX : CXT) (P : Program) (w : World) (K : PySem.W.Frag) (mg : Str → Option Value) (base : Heap) (N : List Str) (qual : Str) (scope : Scope) (f : Addr) (cd : Value) (A : Around) (outer : List Env) (s : Shared) (H : Hp) (E : XK) : Cx where
  prog := P
  w := w
  K := K
  mg := mg
  base := base
  A := A.deeper (envOfC qual scope s.heap.objs.size f cd)
  N := N
  s₀ := s
  H₀ := H
  env := envOfC qual scope s.heap.objs.size f cd
  outer := outer
  stack := envOfC qual scope s.heap.objs.size f cd :: outer
  ex := []
  calm := true
  fn := fun _ => true
  pn := []
  xe := fun e s' => wpAny (model P w) (A.deeper (envOfC qual scope s.heap.objs.size f cd)) (leaving (envOfC qual scope s.heap.objs.size f cd) e) (fun _ s'' => CX outer H s E e s'') (fun e' s'' => CX outer H s E e' s'') s'

theorem cell_has {sc : Scope} {n : Nat} {x : Str} (h : sc.names.lookup x = some .cell) : ∃ c, (cellsFrom n sc.names []).lookup x = some c := by
  have q := PySem.W.cellsFrom_some sc.names n [] (.inl h)
  exact Option.isSome_iff_exists.mp q

theorem inv_start {CX : CXT} {P : Program} {w : World} {K : PySem.W.Frag} {mg : Str → Option Value} {base : Heap} {N ps : List Str} {qual : Str} {scope : Scope} {f : Addr} {cd : Value} {A : Around} {outer : List Env} {s s1 : Shared} {H : Hp} {E : XK} {us : List Value} {vs : List V}
    (S : FnScope N ps scope) (hd : A.handled = none) (e0 : Env0 P w K mg base A outer s H) (hl : vs.length = ps.length) (r : Vals vs us)
    (x : InCallC s s.heap.objs.size (bindL (envOfC qual scope s.heap.objs.size f cd).kindOf (ps.zip us) fun _ => none) (cellsFrom (s.heap.objs.size + 1) scope.names []) (bindC (envOfC qual scope s.heap.objs.size f cd).kindOf (ps.zip us) fun _ => none) s1) :
    Inv (cxOf CX P w K mg base N qual scope f cd A outer s H E) [] (start N vs) H s1 := by
  have hpl : ps.length ≤ N.length := by have := congrArg List.length S.pre; rw [List.length_take] at this; omega
  obtain ⟨h1, tk, rfl, hk⟩ := x.done
  have noA : ∀ b : Addr, b ∉ (cxOf CX P w K mg base N qual scope f cd A outer s H E).ex := fun b z => absurd (show b ∈ ([] : List Addr) from z) (by simp)
  refine ⟨⟨e0.mod, S.kind, rfl, rfl, Nat.le_refl _, fun y z c h1 h2 => ?_, fun y hy => ?_, fun y c _ h => ?_, fun _ => hd, Around.frames_deeper e0.frames, .inr ⟨rfl, rfl⟩, fun b z => absurd z (noA b), e0.bs, e0.bsz, fun b _ _ => noA b, fun b z => absurd z (noA b), e0.funs, e0.frf⟩,
    rfl, e0.bare, Un.kept hk, ⟨_, x.toInCall.ns, fun i y v h1 h2 h3 => ?_⟩, fun y c h => ⟨_, x.cell y c h⟩, e0.hok.fresh (Nat.le_refl _), fun y c h => ?_, fun p hp => absurd (show p ∈ ([] : List (Addr × Obj)) from hp) (by simp), e0.hok.kept hk, ?_⟩
  · exact name_of_addr x.apart (PySem.mem_of_lookup h1) (PySem.mem_of_lookup h2)
  · have hy : scope.names.lookup y = some .cell ∨ scope.names.lookup y = some .free := hy
    rcases hy with hy | hy
    · exact cell_has hy
    · exact absurd rfl (S.nofree _ (PySem.mem_of_lookup hy))
  · exact Nat.le_of_lt (x.above y c (PySem.mem_of_lookup h))
  · have hi : i < vs.length := by
      unfold start at h2
      by_cases hi : i < vs.length
      · exact hi
      · rw [List.getElem?_append_right (by simpa using hi)] at h2
        rw [List.getElem?_replicate] at h2
        split at h2 <;> cases h2
    have ha : vs[i]? = some v := by
      unfold start at h2
      rw [List.getElem?_append_left (by simpa using hi), List.getElem?_map] at h2
      cases e : vs[i]? with
      | none => rw [e] at h2; cases h2
      | some a => rw [e] at h2; cases h2; rfl
    obtain ⟨u, hu, rv⟩ := r.get ha
    have hp : ps[i]? = some y := by
      rw [← S.pre, List.getElem?_take_of_lt (by omega)]; exact h1
    have ndP : ps.Nodup := by rw [← S.pre]; exact S.nd.sublist (List.take_sublist _ _)
    refine ⟨u, rv, ?_⟩
    rcases S.par y (List.mem_of_getElem? hp) with k | k
    · exact .inl ⟨k, bindL_get ndP hp hu k⟩
    · obtain ⟨c, e⟩ := cell_has (n := s.heap.objs.size + 1) k
      refine .inr ⟨.inl k, c, e, ?_⟩
      have q := x.cell y c e
      rw [bindC_get ndP hp hu (by show scope.names.lookup y ≠ _; rw [k]; decide)] at q
      exact q
  · exact e0.hok.fresh (Nat.le_of_lt (x.above y c (PySem.mem_of_lookup h)))
  · unfold start
    show _ = N.length
    rw [List.length_append, List.length_map, List.length_replicate]
    omega

/-- THE RULE: a def (or a method) of the text, by its body. The body's reading t is chosen for each entry; it is run at the parameters' values -/
theorem fn_of {CX : CXT} {P : Program} {w : World} {K : PySem.W.Frag} {mg : Str → Option Value} {base : Heap} {k : Nat} {f : Addr} {name qual : Str} {params : Arguments} {body : List Stmt} {scope : Scope} {dV kV doc pm cdv ct oc : Value} {an od : Option Addr}
    {osl : Array (Option Value)} {N ps : List Str} {sp : Sp} (lk : K.lookup f = some ⟨oc, od, .func (PySem.W.fnOf name qual params body scope dV kV doc pm an cdv ct), osl⟩) (hcd : PySem.W.codeIn K cdv qual = true) (S : FnScope N ps scope)
    (len : ∀ vs H Q E, sp vs H Q E → vs.length = ps.length)
    (hbody : ∀ (A : Around) (outer : List Env) (s : Shared) (H : Hp) (vs : List V) (Q : VK) (E : XK), Room k (A.deeper (envOfC qual scope s.heap.objs.size f cdv)) → sp vs H Q E →
      ∃ t, PSs (cxOf CX P w K mg base N qual scope f cdv A outer s H E) body t ∧ t { nx := fun _ H' => Q .non H', rt := Q } (start N vs) H) :
    FnOk P w K mg base CX (k + 1) f (PySem.W.fnOf name qual params body scope dV kV doc pm an cdv ct) ps sp := by
  refine ⟨len, fun A outer s H args us vs Q E hr e0 hb r hsp => ?_⟩
  have hl := len _ _ _ _ hsp
  have KX : K.In s.heap := e0.mod.kin.keeps fun b o e => (e0.bs b o e).1
  have lim : s.heap.NoLimit := e0.mod.nolimit.keeps fun b o e => (e0.bs b o e).1
  have hkind : ∀ y ∈ ps.zip us, scope.names.lookup y.1 = some .local ∨ (scope.names.lookup y.1 = some .cell ∧ ((cellsFrom (s.heap.objs.size + 1) scope.names []).lookup y.1).isSome = true) := fun ⟨n, v⟩ hy => by
    rcases S.par n (List.of_mem_zip hy).1 with q | q
    · exact .inl q
    · exact .inr ⟨q, PySem.W.cellsFrom_some _ _ _ (.inl q)⟩
  refine codeAny_call_function hr.depth (KX _ _ lk) rfl S.co S.gen rfl (PySem.W.codeRec_of KX hcd) (hb _ _ _ _ ?_)
  refine wpAny_newFunctionEnv_cells S.kind hkind fun env he s1 x => ?_
  subst he
  refine ⟨lim.keeps x.toInCall.keep, codeAny_func ?_⟩
  obtain ⟨t, ht, hq⟩ := hbody A outer s H vs Q E (hr.deeper _) hsp
  have I : Inv (cxOf CX P w K mg base N qual scope f cdv A outer s H E) [] (start N vs) H s1 := inv_start S hr.hd e0 hl r x
  refine wpAny_mono (ht [] s1 (start N vs) H _ I hq) (fun fl s' hs => ?_) fun e s' hs => hs
  have fin : ∀ {σ' : St} {H' : Hp} {v : V} {u : Value}, Inv (cxOf CX P w K mg base N qual scope f cdv A outer s H E) [] σ' H' s' → RelV v u → Q v H' → CE outer P w H s Q u s' :=
    fun {σ' H' v u} J rv q => ⟨v, H', J.os, J.bare, J.base, J.hok, rv, q⟩
  cases fl with
  | ret u =>
    obtain ⟨v, σ', H', J, rv, q⟩ := hs
    exact fin J rv q
  | next =>
    obtain ⟨σ', H', J, q⟩ := hs
    exact fin (v := V.non) (u := Value.none) J rfl q
  | brk =>
    obtain ⟨_, _, _, q⟩ := hs
    exact False.elim q
  | cont =>
    obtain ⟨_, _, _, q⟩ := hs
    exact False.elim q
end L2

namespace L2
open PySem PySem.Spec PyProof.Rows
section
variable {X : Cx} {x : Str} {p pos : Pos} {e : Expr} {es : List Expr} {t : TA} {id T : String} {r : List V → Hp → VK → Prop}

def tCB (r : List V → Hp → VK → Prop) (t : TA) : TE := fun σ H Q => t σ H fun vs H1 => r vs H1 Q
/-- f(e, ..), f a built-in function -/
theorem pe_callB (hc : CallR X (.builtin id) r) (hg : Gl X x) (hm : X.mg x = none) (hv : bootBuiltins x = some (.builtin id)) (ha : PA X (e :: es) t) (hn : x ≠ "__name__" := by decide) (hdb : (x == ("__debug__" : Str)) = false := by decide)
    (he : starEach (e :: es) X.env = (false, eval e X.env) :: starEach es X.env := by rfl) (hpl : (backTo pos (starEach es X.env)).any (·.1) = false := by rfl) : PE X (.Call (.Name x p) (e :: es) [] pos) (tCB r t) := by
  intro pins s σ H Q I h
  refine wpAny_Call_Name_kw (ld_blt I hg hm hv ?_ hn hdb)
  exact PyProof.Rows.callWith_builtin1 (thn (ha pos pins s σ H _ I h) fun us s1 ⟨vs, H1, I1, r1, q1⟩ => hc pins s1 σ H1 vs us Q I1 r1 q1) he hpl
end
end L2

namespace HT
open PySem PyProof.Rows



section
open PySem.SeqAt
open PySem.AutoSeq1 (wpAny_loadPart')
open PySem.MeetsSeq PySem.MeetsSeq2 PySem.MeetsSeq3

end

section
variable {prog : Program} {w : World} {A : Around} {E : Value → Shared → Prop} {s : Shared}



/-! ### t[a:b], not the whole -/
/-- a slice's bound as a place among n (d where it is left out) -/
def sIx (n d : Nat) : Option Int → Nat
  | none => d
  | some v => if v < 0 then (v + (n : Int)).toNat else min v.toNat n
theorem sIx_none (n d : Nat) : sIx n d none = d := rfl
theorem sIx_nat (n d k : Nat) : sIx n d (some (k : Int)) = min k n := by
  show (if (k : Int) < 0 then ((k : Int) + (n : Int)).toNat else min (k : Int).toNat n) = min k n
  rw [if_neg (by omega), Int.toNat_natCast]

end
end HT

namespace L2
open PySem PySem.Spec PyProof.Rows

/-! ### the parts of a slice -/
abbrev TO := St → Hp → (Option Int → Hp → Prop) → Prop
/-- a slice's part (left out, or an int) -/
def PO (X : Cx) (e : Option Expr) (t : TO) : Prop :=
  ∀ (pins : List (Addr × Obj)) (s : Shared) (σ : St) (H : Hp) (Q : Option Int → Hp → Prop), Inv X pins σ H s → t σ H Q →
    wpAny (model X.prog X.w) X.A (evalPart e X.env) (fun u s' => ∃ o H', Inv X pins σ H' s' ∧ IsPart u o ∧ Q o H') X.xe s
def tNoPart : TO := fun _ H Q => Q none H
def tPart (t : TE) : TO := fun σ H Q => t σ H fun x H1 => ∃ i, x = .int i ∧ Q (some i) H1


section
variable {X : Cx} {e : Expr} {te : TE} {lo hi : Option Expr} {tl th : TO} {pos p2 : Pos}

theorem po_none : PO X none tNoPart := by
  intro pins s σ H Q I h
  rw [evalPart_none]
  exact wpAny_pure ⟨none, H, I, .none, h⟩
theorem po_some (h : PE X e te) : PO X (some e) (tPart te) := by
  intro pins s σ H Q I hw
  rw [evalPart_some]
  refine thn (h pins s σ H _ I hw) fun u s1 ⟨x, H1, I1, r1, q1⟩ => ?_
  obtain ⟨i, rfl, q⟩ := q1
  obtain ⟨t, rfl⟩ := r1
  exact ⟨some i, H1, I1, .int i t, q⟩

/-- what a slice of a value is, by values: the slice object stands at sl -/
def SlR (X : Cx) (r : V → Option Int → Option Int → Hp → VK → Prop) : Prop :=
  ∀ (pins : List (Addr × Obj)) (s : Shared) (σ : St) (H : Hp) (x : V) (v vl vu : Value) (lo hi : Option Int) (sl : Addr) (Q : VK), Inv X pins σ H s → RelV x v → s.heap.IsSliceOf sl vl vu .none → IsPart vl lo → IsPart vu hi → r x lo hi H Q →
    ∃ T id, typeLookup (.type T) "__getitem__" = pure (some (.builtin id)) ∧ s.TypeIs v T ∧ wpAny (model X.prog X.w) X.A (getItem v (.ref sl)) (EP X pins σ Q) X.xe s
def tSl (r : V → Option Int → Option Int → Hp → VK → Prop) (te : TE) (tl th : TO) : TE := fun σ H Q => te σ H fun x H1 => tl σ H1 fun l H2 => th σ H2 fun u H3 => r x l u H3 Q
/-- a[lo:hi], any a -/
theorem pe_slice {r : V → Option Int → Option Int → Hp → VK → Prop} (hr : SlR X r) (he : PE X e te) (hl : PO X lo tl) (hu : PO X hi th) : PE X (.Subscript e (.Slice lo hi none p2) pos) (tSl r te tl th) := by
  intro pins s σ H Q I h
  refine Subscript_ (thn (he pins s σ H _ I h) fun v s1 ⟨x, H1, I1, r1, q1⟩ => ?_)
  refine wpAny_Slice (thn (hl pins s1 σ H1 _ I1 q1) fun vl s2 ⟨l, H2, I2, pl, q2⟩ => thn (hu pins s2 σ H2 _ I2 q2) fun vu s3 ⟨u, H3, I3, pu, q3⟩ => ?_)
  rw [evalPart_none]
  refine wpAny_pure ?_
  have I4 : Inv X pins σ H3 { s3 with heap := s3.heap.push { cls := .type "slice", data := .fields #[vl, vu, .none] } } := I3.kept (t' := s3.toks) fun b ob q => Heap.get?_push_of_some _ q
  obtain ⟨T, id, hT, ht, hg⟩ := hr pins { s3 with heap := s3.heap.push { cls := .type "slice", data := .fields #[vl, vu, .none] } } σ H3 x v vl vu l u s3.heap.objs.size Q I4 r1 (Heap.IsSliceOf.new ..) pl pu q3
  show wpAny (model X.prog X.w) X.A (subscriptTail e (.Slice lo hi none p2) v (.ref s3.heap.objs.size)) (EP X pins σ Q) X.xe { s3 with heap := s3.heap.push { cls := .type "slice", data := .fields #[vl, vu, .none] } }
  exact tail_any (ops := [.ref s3.heap.objs.size, v]) ht hT hg (by with_unfolding_all rfl)

/-- the items of xs[lo:hi] -/
def cutV (xs : List V) (lo hi : Option Int) : List V := (xs.drop (HT.sIx xs.length 0 lo)).take (HT.sIx xs.length xs.length hi - HT.sIx xs.length 0 lo)
theorem cutV_length (xs : List V) (lo hi : Option Int) : (cutV xs lo hi).length ≤ xs.length := by
  unfold cutV
  rw [List.length_take, List.length_drop]
  omega

/-! ### t < u, t + u -/
end
end L2

namespace L2
open PySem PySem.Spec PyProof.Rows

/-! ### places -/
/-- the place that an index of any sign means -/
def ixN (n : Nat) (i : Int) : Option Nat := if 0 ≤ i then (if i < n then some i.toNat else none) else if -(n : Int) ≤ i then some (i + n).toNat else none
def atI {α : Type} (xs : List α) (i : Int) : Option α := (ixN xs.length i).bind fun j => xs[j]?
theorem ixN_seq {n : Nat} {i : Int} {j : Nat} (h : ixN n i = some j) : seqIndex? i n = some j ∧ j < n ∧ -(n : Int) ≤ i ∧ i < n := by
  unfold ixN at h
  by_cases h0 : 0 ≤ i
  · rw [if_pos h0] at h
    by_cases h1 : i < n
    · rw [if_pos h1] at h
      have e : i.toNat = j := Option.some.inj h
      exact ⟨by rw [seqIndex_of h0 h1, e], by omega, by omega, h1⟩
    · rw [if_neg h1] at h; cases h
  · rw [if_neg h0] at h
    by_cases h1 : -(n : Int) ≤ i
    · rw [if_pos h1] at h
      have e : (i + n).toNat = j := Option.some.inj h
      exact ⟨by rw [seqIndex_neg (by omega) h1, e], by omega, h1, by omega⟩
    · rw [if_neg h1] at h; cases h
theorem atI_get {α : Type} {xs : List α} {i : Int} {v : α} (h : atI xs i = some v) : ∃ j, seqIndex? i xs.length = some j ∧ xs[j]? = some v ∧ j < xs.length ∧ -(xs.length : Int) ≤ i ∧ i < xs.length := by
  unfold atI at h
  cases e : ixN xs.length i with
  | none => rw [e] at h; cases h
  | some j =>
    rw [e] at h
    obtain ⟨h1, h2, h3, h4⟩ := ixN_seq e
    exact ⟨j, h1, h, h2, h3, h4⟩
theorem atI_nat {α : Type} {xs : List α} {j : Nat} {v : α} (h : xs[j]? = some v) : atI xs (j : Int) = some v := by
  have hj : j < xs.length := (List.getElem?_eq_some_iff.mp h).1
  have e : ixN xs.length (j : Int) = some j := by
    unfold ixN
    rw [if_pos (by omega), if_pos (by omega)]; simp
  unfold atI; rw [e]; exact h
theorem atI_last {α : Type} (xs : List α) (v : α) : atI (xs ++ [v]) (-1) = some v := by
  have hl : (xs ++ [v]).length = xs.length + 1 := by simp
  have e : ixN (xs ++ [v]).length (-1) = some xs.length := by
    unfold ixN
    rw [hl, if_neg (by decide), if_pos (by omega)]
    congr 1
    omega
  unfold atI
  rw [e]
  show (xs ++ [v])[xs.length]? = some v
  simp

/-! ### what may be subscripted -/
/-- what stands as an index of a plain subscript -/
def PlainIx (b : Expr) : Prop := ∀ o i, subscripted b false o i = operate [o, i] (getItem o i)
/-- a subscript by values -/
def IxR (X : Cx) (r : R2) : Prop :=
  ∀ (value slice : Expr) (pins : List (Addr × Obj)) (s : Shared) (σ : St) (H : Hp) (x y : V) (v u : Value) (Q : VK), Inv X pins σ H s → RelV x v → RelV y u → r x y H Q →
    subscripted slice false v u = operate [v, u] (getItem v u) → wpAny (model X.prog X.w) X.A (subscriptTail value slice v u) (EP X pins σ Q) X.xe s
/-- a call of a builtin's method by values: the receiver, the arguments -/
def MtR (X : Cx) (id : String) (r : V → List V → Hp → VK → Prop) : Prop :=
  ∀ (pins : List (Addr × Obj)) (s : Shared) (σ : St) (H : Hp) (x : V) (xs : List V) (v : Value) (us : List Value) (Q : VK), Inv X pins σ H s → RelV x v → Vals xs us → r x xs H Q →
    wpAny (model X.prog X.w) X.A (call (.builtin id) (v :: us)) (EP X pins σ Q) X.xe s
section
variable {X : Cx} {a b : Expr} {ta tb : TE} {pos : Pos}
/-- a[b] -/
theorem pe_ix {r : R2} (hr : IxR X r) (ha : PE X a ta) (hb : PE X b tb) (hs : PlainIx b) : PE X (.Subscript a b pos) (tOp r ta tb) := by
  intro pins s σ H Q I h
  exact Subscript_ (binT ha hb I h fun v u s2 x y H2 I2 rx ry q => hr a b pins s2 σ H2 x y v u Q I2 rx ry q (hs _ _))

def rIxL (K : PySem.W.Frag) : R2 := fun x y H Q => ∃ p xs i v, x = .ref p ∧ y = .int i ∧ SqL K H p xs ∧ atI xs i = some v ∧ Q v H
def rIxT (K : PySem.W.Frag) : R2 := fun x y H Q => ∃ p xs i v, x = .ref p ∧ y = .int i ∧ SqT K H p xs ∧ atI xs i = some v ∧ Q v H
theorem ix_list : IxR X (rIxL X.K) := by
  intro value slice pins s σ H x y v u Q I rx ry h hs
  obtain ⟨p, xs, i, z, rfl, rfl, hq, he, q⟩ := h
  cases rx
  obtain ⟨t, rfl⟩ := ry
  obtain ⟨its, r, pl, hz⟩ := I.list hq
  obtain ⟨j, h1, h2, h3, h4, h5⟩ := atI_get he
  obtain ⟨w, ew, rw'⟩ := r.get h2
  have hl := r.length
  have hn := line63
  have fin : EP X pins σ Q w s := ⟨z, H, I, rw', q⟩
  by_cases h0 : 0 ≤ i
  · have hj : i.toNat = j := by
      rw [seqIndex_of h0 h5] at h1
      exact Option.some.inj h1
    exact item_listR pl.isList h0 (by omega) (by rw [hj]; simpa using ew) fin hs
  · have hj : (i + (its.toArray.size : Int)).toNat = j := by
      rw [seqIndex_neg (by omega) h4] at h1
      rw [List.size_toArray, ← hl]
      exact Option.some.inj h1
    exact subscriptTail_builtinR (x := w) pl.isList.typeIs slot_list_getitem.lookup
      (wpAny_getItem_list_neg (Q := fun r s' => r = w ∧ EP X pins σ Q r s') pl.isList (by omega) (by rw [List.size_toArray] <;> omega) (by omega) (by rw [hj]; simpa using ew) ⟨rfl, fin⟩) hs
theorem ix_tup : IxR X (rIxT X.K) := by
  intro value slice pins s σ H x y v u Q I rx ry h hs
  obtain ⟨p, xs, i, z, rfl, rfl, hq, he, q⟩ := h
  cases rx
  obtain ⟨t, rfl⟩ := ry
  obtain ⟨its, r, pl, hz⟩ := I.tuple hq
  obtain ⟨j, h1, h2, h3, h4, h5⟩ := atI_get he
  obtain ⟨w, ew, rw'⟩ := r.get h2
  have hl := r.length
  have hn := line63
  have fin : EP X pins σ Q w s := ⟨z, H, I, rw', q⟩
  exact subscriptTail_builtinR (x := w) pl.typeIs slot_tuple_getitem.lookup
    (getItem_tuple (j := j) (Q := fun r s' => r = w ∧ EP X pins σ Q r s') pl (by omega) (by omega) (by rw [List.size_toArray, ← hl]; exact h1) (by simpa using ew) ⟨rfl, fin⟩) hs

/-! ### xs[i] = v, any sign -/
/-- the list's object behind a store -/
theorem mapSeq_set (its : List Value) (n j : Nat) (u : Value) : Obj.mapSeq (·.setIfInBounds j u) { cls := .type "list", data := .seq its.toArray n } = { cls := .type "list", data := .seq (its.set j u).toArray n } := by
  simp [Obj.mapSeq]
theorem Inv.lst {pins : List (Addr × Obj)} {σ : St} {H : Hp} {s : Shared} {p : Addr} {xs : List V} (I : Inv X pins σ H s) (h : H p = some (.lst xs)) :
    ∃ (its : List Value) (n : Nat), Vals xs its ∧ s.heap.get? p = some { cls := .type "list", data := .seq its.toArray n } ∧ xs.length ≤ sizeLine := by
  obtain ⟨z, its, n, r, e⟩ := I.hok p _ h
  exact ⟨its, n, r, e, z⟩
/-- the list at p is written by an update of its object -/
theorem Inv.lstUpd {pins : List (Addr × Obj)} {σ : St} {H : Hp} {s : Shared} {p : Addr} {xs ys : List V} {its its' : List Value} {n n' : Nat} {f : Obj → Obj} (I : Inv X pins σ H s) (h : H p = some (.lst xs))
    (ho : s.heap.get? p = some { cls := .type "list", data := .seq its.toArray n }) (hf : f { cls := .type "list", data := .seq its.toArray n } = { cls := .type "list", data := .seq its'.toArray n' }) (r : Vals ys its') (hz : ys.length ≤ sizeLine) (t : Nat) :
    Inv X pins σ (upd H p (.lst ys)) { s with heap := s.heap.update p f, toks := t } := by
  have e : (s.heap.update p f).get? p = some { cls := .type "list", data := .seq its'.toArray n' } := by
    rw [Heap.get?_update_self f ho (by rw [hf] <;> rfl), hf]
  refine I.write (x := p) (e := p) (by rw [h]; trivial) (.inl rfl) (fun b u hb q => (Heap.get?_update_other _ _ (Ne.symm hb)).trans q) ⟨_, e⟩ ?_
  exact ⟨hz, its', n', r, e⟩
def rSetL : V → V → V → Hp → (Hp → Prop) → Prop := fun o i v H Q => ∃ p xs k j, o = .ref p ∧ i = .int k ∧ H p = some (.lst xs) ∧ ixN xs.length k = some j ∧ Q (upd H p (.lst (xs.set j v)))
theorem set_list : PSet X rSetL := by
  intro pins s σ H o i v ov iv u Q I ro ri rv h
  obtain ⟨p, xs, k, j, rfl, rfl, hp, hj, q⟩ := h
  cases ro
  obtain ⟨t, rfl⟩ := ri
  obtain ⟨its, n, r, ho, hz⟩ := I.lst hp
  obtain ⟨h1, h2, h3, h4⟩ := ixN_seq hj
  have hl := r.length
  have hn := line63
  have I' : Inv X pins σ (upd H p (.lst (xs.set j v))) { s with heap := s.heap.update p (Obj.mapSeq (·.setIfInBounds j u)) } :=
    I.lstUpd hp ho (mapSeq_set its n j u) (r.set rv j) (by rw [List.length_set]; exact hz) s.toks
  by_cases h0 : 0 ≤ k
  · have hk : k.toNat = j := by
      rw [seqIndex_of h0 h4] at h1
      exact Option.some.inj h1
    exact PySem.W.ki_setAt ho h0 (by omega) (by rw [List.size_toArray, ← hl]; exact h4) (by rw [hk]; exact ⟨_, I', q⟩)
  · have hk : (k + (its.toArray.size : Int)).toNat = j := by
      rw [seqIndex_neg (by omega) h3] at h1
      rw [List.size_toArray, ← hl]
      exact Option.some.inj h1
    exact PySem.W.ki_setBack ho (by omega) (by rw [List.size_toArray, ← hl]; exact h3) (by omega) (by rw [hk]; exact ⟨_, I', q⟩)

/-! ### slices -/
theorem slice_bounds (lo hi : Option Int) (n : Nat) : (sliceBounds lo hi none n).1 = ((HT.sIx n 0 lo : Nat) : Int) ∧ (sliceBounds lo hi none n).2.1 = ((HT.sIx n n hi : Nat) : Int) ∧ (sliceBounds lo hi none n).2.2 = 1 := by
  refine ⟨?_, ?_, rfl⟩
  · cases lo with
    | none => simp [sliceBounds, HT.sIx]
    | some i =>
      simp only [sliceBounds, HT.sIx, Option.getD_none, show (1 : Int) > 0 by decide, if_true]
      by_cases h : i < 0
      · simp only [h, if_true] <;> omega
      · simp only [h, if_false] <;> omega
  · cases hi with
    | none => simp [sliceBounds, HT.sIx]
    | some i =>
      simp only [sliceBounds, HT.sIx, Option.getD_none, show (1 : Int) > 0 by decide, if_true]
      by_cases h : i < 0
      · simp only [h, if_true] <;> omega
      · simp only [h, if_false] <;> omega
theorem slicePick_cut (its : List Value) (lo hi : Option Int) : slicePick its.toArray lo hi none = ((its.drop (HT.sIx its.length 0 lo)).take (HT.sIx its.length its.length hi - HT.sIx its.length 0 lo)).toArray := by
  obtain ⟨h1, h2, h3⟩ := slice_bounds lo hi its.toArray.size
  unfold slicePick
  rw [h1, h2, h3]
  simp only [sliceRange_one, pick_run, List.size_toArray] <;> rfl
/-- xs[lo:hi] of a list: a new list -/
def rSlL (K : PySem.W.Frag) : V → Option Int → Option Int → Hp → VK → Prop := fun x lo hi H Q => ∃ a xs, x = .ref a ∧ SqL K H a xs ∧ ∀ p, H p = none → Q (.ref p) (upd H p (.lst (cutV xs lo hi)))
theorem sl_list : SlR X (rSlL X.K) := by
  intro pins s σ H x v vl vu lo hi sl Q I rx hs pl pu h
  obtain ⟨a, xs, rfl, hx, q⟩ := h
  cases rx
  obtain ⟨its, r, ht, hz⟩ := I.list hx
  have hlen := r.length
  refine ⟨"list", _, slot_list_getitem.lookup, ht.isList.typeIs, ?_⟩
  refine wpAny_getItem_list_slice ht.isList hs pl pu .none (by simp) ?_ (by rw [List.size_toArray] <;> omega)
  rw [slicePick_cut, ← hlen]
  refine ⟨.ref s.heap.objs.size, _, I.laid (t' := s.toks) (o := .lst (cutV xs lo hi)) (fun b ob q => Heap.get?_push_of_some _ q) (Nat.le_refl _) ?_, rfl, q _ (I.hok.fresh (Nat.le_refl _))⟩
  exact ⟨Nat.le_trans (cutV_length xs lo hi) hz, _, 0, (r.drop (HT.sIx xs.length 0 lo)).take (HT.sIx xs.length xs.length hi - HT.sIx xs.length 0 lo), Heap.get?_push_size _ rfl⟩

/-! ### in, not in: flat items -/
def flatV : V → Bool
  | .non => true
  | .bl _ => true
  | .int _ => true
  | .str _ => true
  | _ => false
/-- == of flat values -/
def eqV : V → V → Bool
  | .non, .non => true
  | .bl a, .bl b => a == b
  | .bl a, .int b => (if a then 1 else 0) == b
  | .int a, .bl b => a == (if b then 1 else 0)
  | .int a, .int b => a == b
  | .str a, .str b => a == b
  | _, _ => false
theorem eqAt_V {A : Around} {s : Shared} {y x : V} {u v : Value} (ry : RelV y u) (rx : RelV x v) (fy : flatV y = true) (fx : flatV x = true) : SeqAt.EqAt A s u v (eqV y x) := by
  cases y with
  | non =>
    cases ry
    cases x with
    | non => cases rx; exact SeqAt.EqAt.same _
    | bl b => cases rx; exact SeqAt.EqAt.none_bool b
    | int b => obtain ⟨t, rfl⟩ := rx; exact SeqAt.EqAt.none_int b t
    | str b => obtain ⟨t, rfl⟩ := rx; exact SeqAt.EqAt.none_str b t
    | _ => exact absurd (show false = true from fx) Bool.false_ne_true
  | bl a =>
    cases ry
    cases x with
    | non => cases rx; exact SeqAt.EqAt.bool_none a
    | bl b => cases rx; exact SeqAt.EqAt.bool_bool a b
    | int b => obtain ⟨t, rfl⟩ := rx; exact SeqAt.EqAt.bool_int a b t
    | str b => obtain ⟨t, rfl⟩ := rx; exact SeqAt.EqAt.bool_str a b t
    | _ => exact absurd (show false = true from fx) Bool.false_ne_true
  | int a =>
    obtain ⟨t', rfl⟩ := ry
    cases x with
    | non => cases rx; exact SeqAt.EqAt.int_none a t'
    | bl b => cases rx; exact SeqAt.EqAt.int_bool a t' b
    | int b => obtain ⟨t, rfl⟩ := rx; exact SeqAt.EqAt.int_int a t' b t
    | str b => obtain ⟨t, rfl⟩ := rx; exact SeqAt.EqAt.int_str a t' b t
    | _ => exact absurd (show false = true from fx) Bool.false_ne_true
  | str a =>
    obtain ⟨t', rfl⟩ := ry
    cases x with
    | non => cases rx; exact SeqAt.EqAt.str_none a t'
    | bl b => cases rx; exact SeqAt.EqAt.str_bool a t' b
    | int b => obtain ⟨t, rfl⟩ := rx; exact SeqAt.EqAt.str_int a t' b t
    | str b => obtain ⟨t, rfl⟩ := rx; exact SeqAt.EqAt.str_str a t' b t
    | _ => exact absurd (show false = true from fx) Bool.false_ne_true
  | _ => exact absurd (show false = true from fy) Bool.false_ne_true
/-- the items' answers, read off the values (a value's own answer does not lean on its token) -/
def eqU (x : V) (u : Value) : Bool := match u with
  | .none => eqV .non x
  | .bool b => eqV (.bl b) x
  | .int i _ => eqV (.int i) x
  | .str z _ => eqV (.str z) x
  | _ => false
theorem eqU_of {x y : V} {u : Value} (r : RelV y u) (f : flatV y = true) : eqU x u = eqV y x := by
  cases y with
  | non => cases r; rfl
  | bl b => cases r; rfl
  | int i => obtain ⟨t, rfl⟩ := r; rfl
  | str z => obtain ⟨t, rfl⟩ := r; rfl
  | _ => exact absurd (show false = true from f) Bool.false_ne_true
theorem mem_eqAt {A : Around} {s : Shared} {x : V} {v : Value} (rx : RelV x v) (fx : flatV x = true) : ∀ {xs : List V} {us : List Value}, Vals xs us → xs.all flatV = true → ∀ u ∈ us, SeqAt.EqAt A s u v (eqU x u)
  | _, _, .nil, _ => fun u hu => by cases hu
  | y :: xs, u :: us, .cons r t, f => fun u' hu => by
    rw [List.all_cons, Bool.and_eq_true] at f
    rcases List.mem_cons.mp hu with rfl | hu
    · rw [eqU_of r f.1]; exact eqAt_V r rx f.1 fx
    · exact mem_eqAt rx fx t f.2 u' hu

/-! ### len, list(x), tuple(x) of any list or tuple that is read -/
theorem call_len_seq : CallR X (.builtin "len") (fun xs H Q => ∃ p ys, xs = [.ref p] ∧ (SqL X.K H p ys ∨ SqT X.K H p ys) ∧ Q (.int ys.length) H) := by
  intro pins s σ H xs us Q I r h
  obtain ⟨p, ys, rfl, hq, q⟩ := h
  obtain ⟨u, rfl, rx⟩ := vals1 r
  cases rx
  have hn := line63
  rcases hq with hq | hq
  · obtain ⟨its, r', pl, hz⟩ := I.list hq
    have hlen := r'.length
    exact Calls.call_len_list pl.isList (by simp only [List.size_toArray] <;> omega) ⟨.int ys.length, H, I.tok _, ⟨s.toks + 1, by rw [List.size_toArray, hlen]⟩, q⟩
  · obtain ⟨its, r', pl, hz⟩ := I.tuple hq
    have hlen := r'.length
    exact len_tuple pl (by simp only [List.size_toArray] <;> omega) ⟨.int ys.length, H, I.tok _, ⟨s.toks + 1, by rw [List.size_toArray, hlen]⟩, q⟩

/-! ### the call of a builtin's method: o.m(..) -/
/-- the value is of that builtin type -/
def tyV (K : PySem.W.Frag) (T : String) (x : V) (H : Hp) : Prop := match x with
  | .str _ => T = "str"
  | .int _ => T = "int"
  | .ref p => (T = "list" ∧ ∃ xs, SqL K H p xs) ∨ (T = "tuple" ∧ ∃ o, K.lookup p = some o ∧ o.cls = .type "tuple" ∧ o.dict = none) ∨
      (T = "dict" ∧ ((∃ kvs, H p = some (.dK kvs)) ∨ ∃ kvs, H p = some (.dT kvs))) ∨ (T = "set" ∧ ∃ S n, H p = some (.set S n))
  | _ => False
theorem tyV_is {pins : List (Addr × Obj)} {σ : St} {H : Hp} {s : Shared} {T : String} {x : V} {v : Value} (I : Inv X pins σ H s) (r : RelV x v) (ty : tyV X.K T x H) :
    s.TypeIs v T ∧ ∀ a, v = .ref a → ∃ ob, s.heap.get? a = some ob ∧ ob.dict = none := by
  cases x with
  | str z =>
    obtain ⟨t, rfl⟩ := r
    cases (show T = "str" from ty)
    exact ⟨typeIs_str s z t, fun _ e => nomatch e⟩
  | int i =>
    obtain ⟨t, rfl⟩ := r
    cases (show T = "int" from ty)
    exact ⟨typeIs_int s i t, fun _ e => nomatch e⟩
  | ref p =>
    cases r
    rcases ty with ⟨rfl, xs, hq⟩ | ⟨rfl, o, hk, hc, hd⟩ | ⟨rfl, hk⟩ | ⟨rfl, S, n, hk⟩
    · obtain ⟨its, _, pl, _⟩ := I.list hq
      refine ⟨pl.isList.typeIs, fun a e => ?_⟩
      cases e
      obtain ⟨o, n, e, c, hd, _⟩ := pl
      exact ⟨o, e, hd⟩
    · refine ⟨⟨o, I.kIn p o hk, hc⟩, fun a e => ?_⟩
      cases e
      exact ⟨o, I.kIn _ o hk, hd⟩
    · have z : ∃ o, s.heap.get? p = some o ∧ o.ExactDict := by
        rcases hk with ⟨kvs, hk⟩ | ⟨kvs, hk⟩
        · obtain ⟨_, _, _, _, o, _, _, e, ex, _⟩ := I.hok p _ hk
          exact ⟨o, e, ex⟩
        · obtain ⟨_, _, _, _, o, _, _, e, ex, _⟩ := I.hok p _ hk
          exact ⟨o, e, ex⟩
      obtain ⟨o, e, ex⟩ := z
      refine ⟨⟨o, e, ex.1⟩, fun a e2 => ?_⟩
      cases e2
      exact ⟨o, e, ex.2.1⟩
    · obtain ⟨o, _, _, _, e, ex, _⟩ := I.hok p _ hk
      refine ⟨⟨o, e, ex.1⟩, fun a e2 => ?_⟩
      cases e2
      exact ⟨o, e, ex.2.1⟩
  | _ => exact False.elim ty
def tBM (K : PySem.W.Frag) (T : String) (r : V → List V → Hp → VK → Prop) (to : TE) (t : TA) : TE := fun σ H Q => to σ H fun x H1 => tyV K T x H1 ∧ t σ H1 fun xs H2 => r x xs H2 Q
variable {o e : Expr} {es : List Expr} {to : TE} {t : TA} {name : Str} {apos cpos : Pos} {T id : String} {r : V → List V → Hp → VK → Prop}
theorem pe_bm (pa : PlainAttrs T) (slot : Slot T name id) (hty : typeOf (.builtin id) = pure (.type "method_descriptor")) (hm : MtR X id r) (ho : PE X o to) (ha : PA X (e :: es) t)
    (hbase : attributeBase o name X.env (eval o X.env) = eval o X.env := by rfl)
    (hfew : ((backTo cpos (starEach (e :: es) X.env)).all (fun x => !x.1) && (backToKw cpos (keywordEach [] X.env)).all (fun x => x.1.isSome)
      && decide ((e :: es).length + ([] : List Keyword).length + (if ([] : List Keyword).isEmpty then 0 else 1) < 30)) = true := by rfl)
    (hline : (apos.endLine == cpos.line) = true := by rfl) (hs : starEach (e :: es) X.env = (false, eval e X.env) :: starEach es X.env := by rfl) (hplain : (backTo cpos (starEach es X.env)).any (·.1) = false := by rfl) :
    PE X (.Call (.Attribute o name apos) (e :: es) [] cpos) (tBM X.K T r to t) := by
  intro pins s σ H Q I h
  refine wpAny_Call_method_late hbase hfew hline rfl (thn (ho pins s σ H _ I h) fun v s1 ⟨x, H1, I1, r1, ty, q1⟩ => ?_)
  obtain ⟨h1, h2⟩ := tyV_is I1 r1 ty
  refine ⟨T, id, pa, slot, hty, h1, h2, ?_⟩
  have hA := ha cpos pins s1 σ H1 _ I1 q1
  rw [hs] at hA ⊢
  refine Calls.callWith_builtin (by show (false || (backTo cpos (starEach es X.env)).any (·.1)) = false; rw [hplain] <;> rfl) (Calls.evalArgs_plain ?_)
  exact thn hA fun us s2 ⟨vs, H2, I2, r2, q2⟩ => hm pins s2 σ H2 x vs v us Q I2 r1 r2 q2
/- xs.append(e), list.index on a module's tuple .. are MtR facts of 06m -/
end
end L2

namespace L2
open PySem PySem.Spec PyProof.Rows

def MtM (X : Cx) (id : String) (r : V → List V → Hp → VK → Prop) : Prop :=
  ∀ (pins : List (Addr × Obj)) (s : Shared) (σ : St) (H : Hp) (x : V) (xs : List V) (v : Value) (us : List Value) (Q : VK), Inv X pins σ H s → RelV x v → Vals xs us → r x xs H Q →
    wpAny (model X.prog X.w) X.A (call (.builtin id) (v :: us)) (EP X pins σ Q) X.xe s

/-! ### lists of values -/
theorem Vals.one : ∀ {x : V} {us : List Value}, Vals [x] us → ∃ u, us = [u] ∧ RelV x u
  | _, _, .cons r .nil => ⟨_, rfl, r⟩
theorem Vals.reverse {xs : List V} {us : List Value} (h : Vals xs us) : Vals xs.reverse us.reverse := by
  induction h with
  | nil => exact .nil
  | cons r t ih => rw [List.reverse_cons, List.reverse_cons]; exact Vals.append ih (.cons r .nil)
theorem Vals.rep {xs : List V} {us : List Value} (h : Vals xs us) : ∀ k : Nat, Vals (List.replicate k xs).flatten (List.replicate k us).flatten
  | 0 => .nil
  | k + 1 => by
    rw [List.replicate_succ, List.replicate_succ, List.flatten_cons, List.flatten_cons]
    exact Vals.append h (Vals.rep h k)
theorem foldl_rep (its : List Value) : ∀ (k : Nat) (acc : List Value),
    List.foldl (fun x1 x2 => x1 ++ x2) acc.toArray (List.replicate k its.toArray) = (acc ++ (List.replicate k its).flatten).toArray
  | 0, acc => by simp
  | k + 1, acc => by
    have e : acc.toArray ++ its.toArray = (acc ++ its).toArray := by simp
    have e2 : (acc ++ its) ++ (List.replicate k its).flatten = acc ++ (List.replicate (k + 1) its).flatten := by
      rw [List.replicate_succ, List.flatten_cons, List.append_assoc]
    rw [← e2, ← foldl_rep its k (acc ++ its), ← e, List.replicate_succ, List.foldl_cons]

section
variable {X : Cx} {pins : List (Addr × Obj)} {σ : St} {H : Hp} {s : Shared} {l b : Addr} {xs ys zs : List V}

/-! ### the two steps: a tracked list is rewritten, a new list is laid -/
theorem Inv.lset {its its' : List Value} {n : Nat} {f : Array Value → Array Value} {t' : Nat} (I : Inv X pins σ H s) (hH : H l = some (.lst xs))
    (e : s.heap.get? l = some { cls := .type "list", data := .seq its.toArray n }) (hf : f its.toArray = its'.toArray) (hv : Vals ys its') (hz : ys.length ≤ sizeLine) :
    Inv X pins σ (upd H l (.lst ys)) { s with heap := s.heap.update l (Obj.mapSeq f), toks := t' } := by
  have q := PySem.IsL.update e f
  rw [hf] at q
  refine I.write (x := l) (e := l) (by rw [hH]; exact trivial) (.inl rfl) (fun b' u hb hu => (Heap.get?_update_other s.heap (Obj.mapSeq f) (Ne.symm hb)).trans hu) ⟨_, q⟩ ?_
  exact ⟨hz, its', _, hv, q⟩
theorem Inv.lnew {its : List Value} {t' : Nat} (I : Inv X pins σ H s) (hv : Vals ys its) (hz : ys.length ≤ sizeLine) :
    Inv X pins σ (upd H s.heap.objs.size (.lst ys)) { s with heap := s.heap.push { cls := .type "list", data := .seq its.toArray }, toks := t' } :=
  I.laid (fun _ _ q => Heap.get?_push_of_some _ q) (Nat.le_refl _) ⟨hz, its, 0, hv, Heap.get?_push_size _ rfl⟩
theorem Inv.fresh (I : Inv X pins σ H s) : H s.heap.objs.size = none := I.hok.fresh (Nat.le_refl _)
theorem Inv.lstM (I : Inv X pins σ H s) (hH : H l = some (.lst xs)) : xs.length ≤ sizeLine ∧ ∃ (its : List Value) (n : Nat), Vals xs its ∧ xs.length = its.length ∧ s.heap.get? l = some { cls := .type "list", data := .seq its.toArray n } := by
  obtain ⟨z, its, n, r, e⟩ := I.hok l _ hH
  exact ⟨z, its, n, r, r.length, e⟩

theorem notLongL {n : Nat} (h : n ≤ sizeLine) : Builtin.List.listTooLong n = false := by
  unfold Builtin.List.listTooLong
  exact decide_eq_false (by omega)
end

section
variable {X : Cx}

/-! ### methods -/
def rAppend : V → List V → Hp → VK → Prop := fun x vs H Q => ∃ l xs y, x = .ref l ∧ vs = [y] ∧ H l = some (.lst xs) ∧ xs.length < sizeLine ∧ Q .non (upd H l (.lst (xs ++ [y])))
theorem mt_append : MtM X "list.append" rAppend := by
  intro pins s σ H x vs v us Q I rx rv h
  obtain ⟨l, xs, y, rfl, rfl, hH, hz, q⟩ := h
  cases rx
  obtain ⟨u, rfl, ru⟩ := rv.one
  obtain ⟨z, its, n, r, hl, e⟩ := I.lstM hH
  refine call_meets F.slot_list_append ⟨_, e, rfl⟩ F.entry_list_append (F.args_list_append_2 _ _) (PySem.list_append l its.toArray n u (by rw [List.size_toArray]; omega)) ⟨e, ?_⟩
  refine ⟨.non, _, I.lset (its' := its ++ [u]) hH e (by simp) (r.append (.cons ru .nil)) ?_, rfl, q⟩
  rw [List.length_append, List.length_singleton]
  omega

def rExtend : V → List V → Hp → VK → Prop := fun x vs H Q => ∃ l b xs zs, x = .ref l ∧ vs = [.ref b] ∧ H l = some (.lst xs) ∧ H b = some (.lst zs) ∧ xs.length + zs.length ≤ sizeLine ∧ Q .non (upd H l (.lst (xs ++ zs)))
theorem mt_extend : MtM X "list.extend" rExtend := by
  intro pins s σ H x vs v us Q I rx rv h
  obtain ⟨l, b, xs, zs, rfl, rfl, hH, hB, hz, q⟩ := h
  cases rx
  obtain ⟨u, rfl, ru⟩ := rv.one
  cases ru
  obtain ⟨z, its, n, r, hl, e⟩ := I.lstM hH
  obtain ⟨z2, its2, n2, r2, hl2, e2⟩ := I.lstM hB
  have hsz : its.toArray.size + its2.toArray.size ≤ sizeLine := by rw [List.size_toArray, List.size_toArray]; omega
  have hlong : ¬ (!its.toArray.isEmpty && Builtin.List.listTooLong (its.toArray.size + its2.toArray.size)) = true := by
    rw [notLongL hsz, Bool.and_false]
    exact Bool.false_ne_true
  refine call_meets F.slot_list_extend ⟨_, e, rfl⟩ F.entry_list_extend (F.args_list_extend_2 _ _)
    (AutoSeq1.list_extend_list_list_0 l its.toArray n b its2.toArray n2 hlong (by rw [List.size_toArray]; omega) (by omega)) ⟨e, e2, ?_⟩
  refine ⟨.non, _, I.lset (its' := its ++ its2) hH e (by simp) (r.append r2) ?_, rfl, q⟩
  rw [List.length_append]
  omega





/-! ### list + list, list += list, list * int -/
def rCat : R2 := fun x y H Q => ∃ l b xs zs, x = .ref l ∧ y = .ref b ∧ H l = some (.lst xs) ∧ H b = some (.lst zs) ∧ xs.length + zs.length ≤ sizeLine ∧ ∀ p, H p = none → Q (.ref p) (upd H p (.lst (xs ++ zs)))
theorem op_cat : OpR X (binaryOp .Add) rCat := by
  intro pins s σ H x y v u Q I rx ry h
  obtain ⟨l, b, xs, zs, rfl, rfl, hH, hB, hz, q⟩ := h
  cases rx
  cases ry
  obtain ⟨z, its, n, r, hl, e⟩ := I.lstM hH
  obtain ⟨z2, its2, n2, r2, hl2, e2⟩ := I.lstM hB
  refine PySem.P.add_list e e2 ?_ (by rw [List.size_toArray, List.size_toArray]; omega)
  have ea : its.toArray ++ its2.toArray = (its ++ its2).toArray := by simp
  rw [ea]
  exact ⟨.ref _, _, I.lnew (t' := s.toks) (r.append r2) (by rw [List.length_append]; omega), rfl, q _ I.fresh⟩
/-- a list times an int (a negative one is nothing) -/
def rRep : R2 := fun x y H Q => ∃ l k xs, x = .ref l ∧ y = .int k ∧ H l = some (.lst xs) ∧ -(2 ^ 63) ≤ k ∧ k < 2 ^ 63 ∧ xs.length * k.toNat ≤ sizeLine ∧
  ∀ p, H p = none → Q (.ref p) (upd H p (.lst (List.replicate k.toNat xs).flatten))
theorem len_rep {α : Type} (xs : List α) (k : Nat) : (List.replicate k xs).flatten.length = k * xs.length := by
  induction k with
  | zero => simp
  | succ k ih => rw [List.replicate_succ, List.flatten_cons, List.length_append, ih, Nat.succ_mul, Nat.add_comm]
theorem op_rep : OpR X (binaryOp .Mult) rRep := by
  intro pins s σ H x y v u Q I rx ry h
  obtain ⟨l, k, xs, rfl, rfl, hH, h1, h2, hz, q⟩ := h
  cases rx
  obtain ⟨t, rfl⟩ := ry
  obtain ⟨z, its, n, r, hl, e⟩ := I.lstM hH
  have hlen : its.toArray.size * k.toNat ≤ sizeLine := by rw [List.size_toArray, ← hl]; exact hz
  have hcap : ¬ its.toArray.size * k.toNat > (2 ^ 63 - 1) / 8 := by
    have : (sizeLine : Nat) ≤ (2 ^ 63 - 1) / 8 := by decide
    omega
  have hfit : ¬ (!Builtin.List.listFitsIndex k) = true := by
    rw [fitsIndex_both h1 h2]
    exact Bool.false_ne_true
  have hlong : ¬ Builtin.List.listTooLong (its.toArray.size * k.toNat) = true := by
    rw [notLongL hlen]
    exact Bool.false_ne_true
  have hnew : List.foldl (fun x1 x2 => x1 ++ x2) #[] (List.replicate (if its.toArray.isEmpty = true then 0 else k.toNat) its.toArray) = (List.replicate k.toNat its).flatten.toArray := by
    have f0 : ∀ m : Nat, List.foldl (fun x1 x2 => x1 ++ x2) #[] (List.replicate m its.toArray) = (List.replicate m its).flatten.toArray := fun m => by
      have := foldl_rep its m []
      rw [List.nil_append] at this
      exact this
    rw [f0]
    cases its with
    | nil => simp
    | cons a r' => rw [if_neg (by simp)]
  refine wpAny_binaryOp_repeat_ref (T := "list") (U := "int") (by decide) ⟨_, e, rfl⟩ (fun s' => typeIs_int s' k t) noFill_list_mul F.fills_int_mul F.slot_int_rmul repeat_list F.slot_int_index.lookup
    (call_meets F.slot_int_rmul (typeIs_int s k t) F.entry_int_rmul (F.args_int_rmul_2 _ _) (int___rmul___int_list k t l its.toArray n)
      ⟨e, rfl, ⟨_, e, rfl⟩, call_meets F.slot_list_mul ⟨_, e, rfl⟩ F.entry_list_mul (F.args_list_mul_2 _ _) (AutoListH.list___mul___list_int_3 l its.toArray n k t hfit hcap hlong) ⟨e, ?_⟩⟩)
  rw [hnew]
  exact ⟨.ref _, _, I.lnew (t' := s.toks) (r.rep k.toNat) (by rw [len_rep, Nat.mul_comm]; exact hz), rfl, q _ I.fresh⟩

/-! ### del xs[i] -/
end

/-! ### xs[a:b] = ys -/
section
variable {prog : Program} {w : World} {A : Around} {E : Value → Shared → Prop} {s : Shared}
end

section
variable {X : Cx}
end
end L2

namespace L2
open PySem PySem.Spec PyProof.Rows

theorem Vals.ints : ∀ {ns : List Int} {us : List Value}, Vals (ns.map V.int) us → IntsAre us ns
  | [], us, h => by
    rw [List.map_nil] at h
    cases h
    exact IntsAre.nil
  | n :: ns, us, h => by
    rw [List.map_cons] at h
    cases h with
    | cons r t =>
      obtain ⟨k, rfl⟩ := r
      exact IntsAre.cons n k (Vals.ints t)
theorem Vals.ref1 {a : Addr} {us : List Value} (r : Vals [V.ref a] us) : us = [Value.ref a] := by
  cases r with
  | cons r t =>
    cases t
    cases r
    rfl

/-! ### the library's walks over a list of ints, kept objects alone -/
section
variable {prog : Program} {w : World} {A : Around} {E : Value → Shared → Prop} {s : Shared} {l : Addr} {its : List Value} {ns : List Int} {Q : Value → Shared → Prop}
theorem sum_raw (hh : A.handled = none) (hl : s.heap.IsList l its.toArray) (hi : IntsAre its ns)
    (h : ∀ h' tk t', (∀ b o, s.heap.get? b = some o → h'.get? b = some o) → Q (.int ns.sum t') { s with heap := h', toks := tk }) : wpAny (model prog w) A (call (.builtin "sum") [.ref l]) Q E s := by
  obtain ⟨xs, e⟩ := hi.allInts.items
  have hn : numsOf (intItems xs).toList = ns := by rw [← e]; exact hi.numsOf
  rw [nums_intItems] at hn
  rw [e] at hl
  refine PySem.sum_intListG hh hl fun h' tk t' hk => ?_
  have := h h' tk t' hk
  rw [preSum_eq, List.take_of_length_le (by simp), hn]; exact this
theorem max_raw (hh : A.handled = none) (hl : s.heap.IsList l its.toArray) (hi : IntsAre its ns) (hne : 0 < ns.length)
    (h : ∀ h' tk M t', (∀ b o, s.heap.get? b = some o → h'.get? b = some o) → M ∈ ns → (∀ a, a ∈ ns → a ≤ M) → Q (.int M t') { s with heap := h', toks := tk }) : wpAny (model prog w) A (call (.builtin "max") [.ref l]) Q E s := by
  obtain ⟨xs, e⟩ := hi.allInts.items
  have hn : numsOf (intItems xs).toList = ns := by rw [← e]; exact hi.numsOf
  rw [nums_intItems] at hn
  subst hn
  rw [e] at hl
  have hsz : 0 < xs.size := by simpa using hne
  refine PySem.max_intList hh hl hsz fun v h' tk hv hk => ?_
  obtain ⟨t, rfl⟩ := intItems_at hv
  obtain ⟨h1, h2⟩ := argBest_gt (numAt xs) (xs.size - 1)
  refine h h' tk _ t hk ?_ fun a ha => ?_
  · rw [numAt_eq]; exact PySem.getD_mem (by rw [List.length_map, Array.length_toList]; omega)
  · obtain ⟨j, hj, rfl⟩ := mem_getD ha
    rw [List.length_map, Array.length_toList] at hj
    rw [← numAt_eq]; exact h2 j (by omega)
theorem min_raw (hh : A.handled = none) (hl : s.heap.IsList l its.toArray) (hi : IntsAre its ns) (hne : 0 < ns.length)
    (h : ∀ h' tk M t', (∀ b o, s.heap.get? b = some o → h'.get? b = some o) → M ∈ ns → (∀ a, a ∈ ns → M ≤ a) → Q (.int M t') { s with heap := h', toks := tk }) : wpAny (model prog w) A (call (.builtin "min") [.ref l]) Q E s := by
  obtain ⟨xs, e⟩ := hi.allInts.items
  have hn : numsOf (intItems xs).toList = ns := by rw [← e]; exact hi.numsOf
  rw [nums_intItems] at hn
  subst hn
  rw [e] at hl
  have hsz : 0 < xs.size := by simpa using hne
  refine PySem.min_intList hh hl hsz fun v h' tk hv hk => ?_
  obtain ⟨t, rfl⟩ := intItems_at hv
  obtain ⟨h1, h2⟩ := argBest_lt (numAt xs) (xs.size - 1)
  refine h h' tk _ t hk ?_ fun a ha => ?_
  · rw [numAt_eq]; exact PySem.getD_mem (by rw [List.length_map, Array.length_toList]; omega)
  · obtain ⟨j, hj, rfl⟩ := mem_getD ha
    rw [List.length_map, Array.length_toList] at hj
    rw [← numAt_eq]; exact h2 j (by omega)
end

/-! ### the calls, by values (CallR of 03t; MtR of 06l) -/
section
variable {X : Cx}
/-- sum(xs) of a list of ints -/
def rSum (K : PySem.W.Frag) : List V → Hp → VK → Prop := fun vs H Q => ∃ (a : Addr) (ns : List Int), vs = [V.ref a] ∧ SqL K H a (ns.map V.int) ∧ Q (.int ns.sum) H
/-- max(xs), min(xs) of a list of ints -/
def rMax (K : PySem.W.Frag) : List V → Hp → VK → Prop := fun vs H Q => ∃ (a : Addr) (ns : List Int), vs = [V.ref a] ∧ SqL K H a (ns.map V.int) ∧ 0 < ns.length ∧ ∀ m, m ∈ ns → (∀ y, y ∈ ns → y ≤ m) → Q (.int m) H
def rMin (K : PySem.W.Frag) : List V → Hp → VK → Prop := fun vs H Q => ∃ (a : Addr) (ns : List Int), vs = [V.ref a] ∧ SqL K H a (ns.map V.int) ∧ 0 < ns.length ∧ ∀ m, m ∈ ns → (∀ y, y ∈ ns → m ≤ y) → Q (.int m) H
theorem cr_sum (hc : X.calm = true) : CallR X (.builtin "sum") (rSum X.K) := by
  intro pins s σ H vs us Q I r h
  obtain ⟨a, ns, rfl, hs, q⟩ := h
  obtain ⟨its, rv, hl, _⟩ := I.list hs
  rw [Vals.ref1 r]
  exact sum_raw (I.ok.hd hc) hl.isList rv.ints fun h' tk t' hk => ⟨.int _, H, I.kept hk, ⟨_, rfl⟩, q⟩
theorem cr_max (hc : X.calm = true) : CallR X (.builtin "max") (rMax X.K) := by
  intro pins s σ H vs us Q I r h
  obtain ⟨a, ns, rfl, hs, hne, q⟩ := h
  obtain ⟨its, rv, hl, _⟩ := I.list hs
  rw [Vals.ref1 r]
  exact max_raw (I.ok.hd hc) hl.isList rv.ints hne fun h' tk m t' hk h1 h2 => ⟨.int _, H, I.kept hk, ⟨_, rfl⟩, q m h1 h2⟩
theorem cr_min (hc : X.calm = true) : CallR X (.builtin "min") (rMin X.K) := by
  intro pins s σ H vs us Q I r h
  obtain ⟨a, ns, rfl, hs, hne, q⟩ := h
  obtain ⟨its, rv, hl, _⟩ := I.list hs
  rw [Vals.ref1 r]
  exact min_raw (I.ok.hd hc) hl.isList rv.ints hne fun h' tk m t' hk h1 h2 => ⟨.int _, H, I.kept hk, ⟨_, rfl⟩, q m h1 h2⟩

/-! sorted, sort (fewer than 64 items: the library's own bound) -/
end

/-! ### list.index, flat items -/
section
variable {X : Cx}
def rIndex (K : PySem.W.Frag) : V → List V → Hp → VK → Prop := fun x xs H Q => ∃ (a : Addr) (ys : List V) (y : V) (j : Nat) (z : V), x = V.ref a ∧ xs = [y] ∧ SqL K H a ys ∧ flatV y = true ∧ ys.all flatV = true ∧ ys[j]? = some z ∧ eqV z y = true ∧
  (∀ (m : Nat) (z' : V), m < j → ys[m]? = some z' → eqV z' y = false) ∧ Q (.int (j : Nat)) H
theorem flat_at {ys : List V} (f : ys.all flatV = true) {j : Nat} {z : V} (h : ys[j]? = some z) : flatV z = true := List.all_eq_true.mp f z (List.mem_of_getElem? h)
theorem mt_index : MtR X "list.index" (rIndex X.K) := by
  intro pins s σ H x xs v us Q I rx rxs h
  obtain ⟨a, ys, y, j, z, rfl, rfl, hs, fy, fys, hz, hzj, hno, q⟩ := h
  cases rx
  cases rxs with
  | cons ry rt =>
    rename_i uy ut
    cases rt
    obtain ⟨its, rv, ⟨⟨cls, dd, data, sl⟩, n, ho, hc, hdn, hd⟩, hlen⟩ := I.list hs
    simp only at hc hd
    subst hc hd
    obtain ⟨u, hu, ru⟩ := rv.get hz
    obtain ⟨hjl, hje⟩ := List.getElem?_eq_some_iff.mp hu
    have hvl := rv.length
    have hj : j < its.toArray.size := by simpa using hjl
    have hsl := sizeLine_eq
    refine call_meets PySem.F.slot_list_index ⟨_, ho, rfl⟩ PySem.F.entry_list_index (PySem.F.args_list_index_2 _ _)
      (SeqAt.list_indexAt a its.toArray n dd sl uy (eqU y) j hj (by omega) ?_ ?_) ⟨ho, fun u' hu' => mem_eqAt ry fy rv fys u' (by simpa using hu'), ?_⟩
    · have e1 : its.toArray[j] = u := by simpa using hje
      rw [e1, eqU_of ru (flat_at fys hz)]
      exact hzj
    · intro m hm hmj
      have hml : m < its.length := by simpa using hm
      have hmy : m < ys.length := by omega
      have hy' : ys[m]? = some ys[m] := List.getElem?_eq_getElem hmy
      obtain ⟨u2, hu2, ru2⟩ := rv.get hy'
      obtain ⟨_, hme⟩ := List.getElem?_eq_some_iff.mp hu2
      have e1 : its.toArray[m] = u2 := by simpa using hme
      rw [e1, eqU_of ru2 (flat_at fys hy')]
      exact hno m _ hmj hy'
    · exact ⟨.int (j : Nat), H, I.tok _, ⟨_, rfl⟩, q⟩
end

/-! ### type(x) of an own instance; is, is not of a module's class -/
section
variable {X : Cx}
end

/-! ### any(xs), all(xs) of a list of bools -/
section
variable {X : Cx}
end

/-! ### == and != of data at any depth: none, bools, ints, texts, lists, tuples -/
section
variable {X : Cx} {pins : List (Addr × Obj)} {σ : St} {H : Hp} {s : Shared}
end
section
variable {X : Cx}
end
end L2

namespace L2
open PySem PySem.Spec PyProof.Rows
abbrev CellAt (h : Heap) (c : Addr) (v : Option Value) : Prop := h.IsCell c v
def relS (scope sc : Scope) : Scope :=
  { scope with names := scope.names.map fun (n, k) => if (k == .free && sc.kind == .function && sc.names.lookup n == some .cell) then (n, .cell) else (n, k) }

def cloFrom (cells : List (Str × Addr)) : List (Str × NameKind) → List (Str × Addr) → List (Str × Addr)
  | [], acc => acc
  | (n, k) :: r, acc => if k == .free then cloFrom cells r ((n, (cells.lookup n).getD 0) :: acc) else cloFrom cells r acc

theorem closure_loop (env : Env) (f : Str × NameKind → List (Str × Addr) → Sem (ForInStep (List (Str × Addr))))
    (hf : ∀ n k c, f (n, k) c = if k == .free then (do let a ← cellOf env n; pure (.yield ((n, a) :: c))) else pure (.yield c)) :
    ∀ (names : List (Str × NameKind)) (acc : List (Str × Addr)), (∀ y ∈ names, y.2 = .free → ∃ c, env.cells.lookup y.1 = some c) → forIn names acc f = pure (cloFrom env.cells names acc)
  | [], acc, _ => by rw [List.forIn_nil]; rfl
  | (n, k) :: r, acc, h => by
    rw [List.forIn_cons, hf]
    have ih := fun acc => closure_loop env f hf r acc fun y hy => h y (List.mem_cons_of_mem _ hy)
    unfold cloFrom
    by_cases hk : (k == NameKind.free) = true
    · rw [if_pos hk, if_pos hk]
      obtain ⟨c, hc⟩ := h (n, k) List.mem_cons_self (by simpa using hk)
      have e : cellOf env n = pure c := by unfold cellOf; rw [hc]
      rw [e]
      have e2 : (env.cells.lookup n).getD 0 = c := by rw [hc]; rfl
      rw [e2]
      exact ih _
    · rw [if_neg hk, if_neg hk]
      exact ih _
theorem closure_ok {scope : Scope} {env : Env} (h : ∀ y ∈ scope.names, y.2 = .free → ∃ c, env.cells.lookup y.1 = some c) : closureFor scope env = pure (cloFrom env.cells scope.names []) := by
  simp only [closureFor]
  rw [closure_loop env _ (fun n k c => rfl) scope.names [] h]
  rfl

theorem mem_lookup {α : Type} : ∀ {l : List (Str × α)} {n : Str} {c : α}, (n, c) ∈ l → ∃ c', l.lookup n = some c'
  | (k, v) :: r, n, c, h => by
    rw [List.lookup_cons]
    cases hb : n == k with
    | true => exact ⟨_, rfl⟩
    | false =>
      rcases List.mem_cons.mp h with e | h
      · cases e; simp at hb
      · exact mem_lookup h

theorem cloFrom_mem {cells : List (Str × Addr)} : ∀ {names : List (Str × NameKind)} {acc : List (Str × Addr)} {n : Str} {c : Addr}, (n, c) ∈ cloFrom cells names acc → (n, c) ∈ acc ∨ ((n, .free) ∈ names ∧ c = (cells.lookup n).getD 0)
  | [], _, _, _, h => .inl h
  | (m, k) :: r, acc, n, c, h => by
    unfold cloFrom at h
    split at h
    · rename_i hk
      have hk : k = .free := by simpa using hk
      rcases cloFrom_mem h with h | ⟨h1, h2⟩
      · rcases List.mem_cons.mp h with e | h
        · cases e; exact .inr ⟨hk ▸ List.mem_cons_self, rfl⟩
        · exact .inl h
      · exact .inr ⟨List.mem_cons_of_mem _ h1, h2⟩
    · rcases cloFrom_mem h with h | ⟨h1, h2⟩
      · exact .inl h
      · exact .inr ⟨List.mem_cons_of_mem _ h1, h2⟩
theorem cloFrom_acc {cells : List (Str × Addr)} : ∀ {names : List (Str × NameKind)} {acc : List (Str × Addr)} {p : Str × Addr}, p ∈ acc → p ∈ cloFrom cells names acc
  | [], _, _, h => h
  | (m, k) :: r, acc, p, h => by
    unfold cloFrom
    split
    · exact cloFrom_acc (List.mem_cons_of_mem _ h)
    · exact cloFrom_acc h
theorem cloFrom_has {cells : List (Str × Addr)} : ∀ {names : List (Str × NameKind)} {acc : List (Str × Addr)} {n : Str}, (n, .free) ∈ names → (n, (cells.lookup n).getD 0) ∈ cloFrom cells names acc
  | (m, k) :: r, acc, n, h => by
    unfold cloFrom
    rcases List.mem_cons.mp h with e | h
    · cases e
      exact cloFrom_acc List.mem_cons_self
    · split
      · exact cloFrom_has h
      · exact cloFrom_has h

theorem cells_mem : ∀ {names : List (Str × NameKind)} {h : Heap} {acc : List (Str × Addr)} {x : Str} {c : Addr}, (x, c) ∈ cellsFrom h.objs.size names acc →
    (x, c) ∈ acc ∨ ((x, .cell) ∈ names ∧ h.objs.size ≤ c ∧ CellAt (pushCells h names) c none)
  | [], _, _, _, _, h => .inl h
  | (n, k) :: r, h, acc, x, c, hm => by
    unfold cellsFrom at hm
    unfold pushCells
    split at hm
    · rename_i hk
      rw [if_pos hk]
      have hk : k = .cell := by simpa using hk
      rw [← Heap.size_push h { cls := .type "cell", data := .cell none }] at hm
      rcases cells_mem hm with hm | ⟨h1, h2, h3⟩
      · rcases List.mem_cons.mp hm with e | hm
        · cases e
          exact .inr ⟨hk ▸ List.mem_cons_self, Nat.le_refl _, _, pushCells_keeps r _ _ _ (Heap.get?_push_size _ rfl), rfl⟩
        · exact .inl hm
      · rw [Heap.size_push] at h2
        exact .inr ⟨List.mem_cons_of_mem _ h1, Nat.le_of_succ_le h2, h3⟩
    · rename_i hk
      rw [if_neg hk]
      rcases cells_mem hm with hm | ⟨h1, h2, h3⟩
      · exact .inl hm
      · exact .inr ⟨List.mem_cons_of_mem _ h1, h2, h3⟩
theorem cells_acc : ∀ {names : List (Str × NameKind)} {n : Nat} {acc : List (Str × Addr)} {p : Str × Addr}, p ∈ acc → p ∈ cellsFrom n names acc
  | [], _, _, _, h => h
  | (m, k) :: r, n, acc, p, h => by
    unfold cellsFrom
    split
    · exact cells_acc (List.mem_cons_of_mem _ h)
    · exact cells_acc h
theorem cells_has : ∀ {names : List (Str × NameKind)} {n : Nat} {acc : List (Str × Addr)} {x : Str}, (x, .cell) ∈ names → ∃ c, (x, c) ∈ cellsFrom n names acc
  | (m, k) :: r, n, acc, x, h => by
    unfold cellsFrom
    rcases List.mem_cons.mp h with e | h
    · cases e
      exact ⟨n, cells_acc List.mem_cons_self⟩
    · split
      · exact cells_has h
      · exact cells_has h
theorem cells_inj : ∀ {names : List (Str × NameKind)} {h : Heap} {acc : List (Str × Addr)} {x y : Str} {c : Addr}, (∀ p ∈ acc, p.2 < h.objs.size) → (∀ x y c, (x, c) ∈ acc → (y, c) ∈ acc → x = y) →
    (x, c) ∈ cellsFrom h.objs.size names acc → (y, c) ∈ cellsFrom h.objs.size names acc → x = y
  | [], _, _, _, _, _, _, hi, h1, h2 => hi _ _ _ h1 h2
  | (n, k) :: r, h, acc, x, y, c, hl, hi, h1, h2 => by
    unfold cellsFrom at h1 h2
    split at h1
    · rename_i hk
      rw [if_pos hk] at h2
      rw [← Heap.size_push h { cls := .type "cell", data := .cell none }] at h1 h2
      refine cells_inj (h := h.push _) (fun p hp => ?_) (fun x y c a b => ?_) h1 h2
      · rw [Heap.size_push]
        rcases List.mem_cons.mp hp with rfl | hp
        · exact Nat.lt_succ_self _
        · exact Nat.lt_succ_of_lt (hl p hp)
      · rcases List.mem_cons.mp a with e | a <;> rcases List.mem_cons.mp b with e' | b
        · cases e; cases e'; rfl
        · cases e; exact absurd (hl _ b) (Nat.lt_irrefl _)
        · cases e'; exact absurd (hl _ a) (Nat.lt_irrefl _)
        · exact hi _ _ _ a b
    · rename_i hk
      rw [if_neg hk] at h2
      exact cells_inj hl hi h1 h2

theorem newEnv_comp {M : Model} {A : Around} {E : Value → Shared → Prop} {s : Shared} {scope : Scope} {globals : Addr} {closure : List (Str × Addr)} {qual : Str} {func : Option Addr} {code : Value} {around : Env} {builtins : Addr} {Q : Env → Shared → Prop}
    (h : Q (newEnv scope s.heap.objs.size globals (cellsFrom (s.heap.objs.size + 1) scope.names closure) qual func code (some around) builtins)
      { s with heap := pushCells (s.heap.push { cls := .type "dict", data := .dict #[] }) scope.names }) :
    wpAny M A (newFunctionEnv scope globals closure [] qual func code (some around) builtins) Q E s := by
  simp only [newFunctionEnv, Option.isSome_some, if_true]
  refine wpAny_bind (wpAny_alloc ?_)
  refine wpAny_bind (wpAny_layCells _ (fun n k c => rfl) scope.names closure _ _ ?_)
  rw [show ({ s with heap := s.heap.push { cls := .type "dict", data := .dict #[] } } : Shared).heap.objs.size = s.heap.objs.size + 1 from Heap.size_push ..]
  rw [List.forIn_nil]
  exact wpAny_bind (wpAny_pure (wpAny_pure h))

/-- every name of the written scope, in the scope that runs -/
theorem lookup_relS {sc : Scope} : ∀ {names : List (Str × NameKind)} {x : Str} {k : NameKind},
    (names.map fun (n, k) => if (k == NameKind.free && sc.kind == .function && sc.names.lookup n == some .cell) then (n, NameKind.cell) else (n, k)).lookup x = some k →
    ∃ k', names.lookup x = some k' ∧ (k = k' ∨ (k' = .free ∧ k = .cell))
  | [], _, _, h => by simp at h
  | (n, k₀) :: r, x, k, h => by
    have ih := @lookup_relS sc r x k
    have h' : List.lookup x ((if (k₀ == NameKind.free && sc.kind == .function && sc.names.lookup n == some .cell) = true then (n, NameKind.cell) else (n, k₀)) :: (r.map _)) = some k := h
    cases hx : x == n with
    | true =>
      simp only [List.lookup_cons, hx]
      by_cases hc : (k₀ == NameKind.free && sc.kind == .function && sc.names.lookup n == some .cell) = true
      · rw [if_pos hc] at h'
        simp only [List.lookup_cons, hx] at h'
        cases h'
        simp only [Bool.and_eq_true, beq_iff_eq] at hc
        exact ⟨k₀, rfl, .inr ⟨hc.1.1, rfl⟩⟩
      · rw [if_neg hc] at h'
        simp only [List.lookup_cons, hx] at h'
        cases h'
        exact ⟨_, rfl, .inl rfl⟩
    | false =>
      simp only [List.lookup_cons, hx]
      by_cases hc : (k₀ == NameKind.free && sc.kind == .function && sc.names.lookup n == some .cell) = true
      · rw [if_pos hc] at h'
        simp only [List.lookup_cons, hx] at h'
        exact ih h'
      · rw [if_neg hc] at h'
        simp only [List.lookup_cons, hx] at h'
        exact ih h'



/-- the names of a comprehension's block: its own (with their places in N), or captured -/
structure BlkOk (N : List Str) (sc scope : Scope) (own : List (Str × Nat)) : Prop where
  kind : scope.kind = .function
  uniq : ∀ y ∈ scope.names, scope.names.lookup y.1 = some y.2
  ix : ∀ p ∈ own, N[p.2]? = some p.1
  free : ∀ y ∈ scope.names, y.2 = .free → sc.names.lookup y.1 = some .cell ∨ sc.names.lookup y.1 = some .free
  own : ∀ y ∈ scope.names, y.2 = .local ∨ y.2 = .cell → y.1 ∈ own.map (·.1) ∨ y.1 ∉ N
/-- the slots of the block's own names forgotten -/
def wipe (σ : St) : List Nat → St
  | [] => σ
  | v :: vs => (wipe σ vs).set v none
theorem wipe_length (σ : St) : ∀ vs : List Nat, (wipe σ vs).length = σ.length
  | [] => rfl
  | v :: vs => by unfold wipe; rw [List.length_set, wipe_length σ vs]
theorem wipe_some {σ : St} {i : Nat} {x : V} : ∀ {vs : List Nat}, (wipe σ vs)[i]? = some (some x) → σ[i]? = some (some x) ∧ i ∉ vs
  | [], h => ⟨h, by simp⟩
  | v :: vs, h => by
    unfold wipe at h
    by_cases hi : v = i
    · subst hi
      by_cases hv : v < (wipe σ vs).length
      · rw [List.getElem?_set_self hv] at h; cases h
      · rw [List.getElem?_eq_none (by simpa using hv)] at h; cases h
    · rw [List.getElem?_set_ne hi] at h
      obtain ⟨h1, h2⟩ := wipe_some h
      exact ⟨h1, by simp only [List.mem_cons, not_or]; exact ⟨fun e => hi e.symm, h2⟩⟩

/-- the context of a block that starts at s, its iterator's objects at fp -/
abbrev Cx.blk (X : Cx) (s : Shared) (H : Hp) (scope : Scope) (cenv : Env) (fp : List Addr) : Cx := { X with s₀ := s, H₀ := H, env := cenv, outer := X.stack, ex := fp, fn := fun x => scope.names.lookup x == some .cell, pn := [], xe := fun _ _ => False }
section
variable {X : Cx} {pins : List (Addr × Obj)} {σ : St} {H : Hp} {s : Shared}
theorem block_start {scope : Scope} {own : List (Str × Nat)} {fp : List Addr} (I : Inv X pins σ H s) (ok : BlkOk X.N X.env.scope scope own) (hN : X.N.Nodup) (hfp : ∀ b ∈ fp, FpOk X pins H b ∧ b < s.heap.objs.size) :
    Inv (X.blk s H scope (compEnvC scope (cellsFrom (s.heap.objs.size + 1) scope.names (cloFrom X.env.cells scope.names [])) s.heap.objs.size X.env) fp) [] (wipe σ (own.map (·.2))) H { s with heap := pushCells (s.heap.push { cls := .type "dict", data := .dict #[] }) scope.names } := by
  have hfree : ∀ y ∈ scope.names, y.2 = .free → ∃ c, X.env.cells.lookup y.1 = some c := fun y hy e => by
    rcases ok.free y hy e with k | k
    · exact I.ok.has _ (.inl k)
    · exact I.ok.has _ (.inr k)
  generalize hcenv : compEnvC scope (cellsFrom (s.heap.objs.size + 1) scope.names (cloFrom X.env.cells scope.names [])) s.heap.objs.size X.env = cenv
  have kp : ∀ b o, s.heap.get? b = some o → (pushCells (s.heap.push { cls := .type "dict", data := .dict #[] }) scope.names).get? b = some o := fun b o e => pushCells_keeps _ _ _ _ (Heap.get?_push_of_some _ e)
  have hL : cenv.locals = s.heap.objs.size := by rw [← hcenv]; rfl
  have hcl : cenv.cells = cellsFrom (s.heap.objs.size + 1) scope.names (cloFrom X.env.cells scope.names []) := by rw [← hcenv]; rfl
  have hsc : cenv.scope = relS scope X.env.scope := by rw [← hcenv]; rfl
  rw [← Heap.size_push s.heap { cls := .type "dict", data := .dict #[] }] at hcl
  have cm : ∀ {y c}, (y, c) ∈ cloFrom X.env.cells scope.names [] → X.env.cells.lookup y = some c ∧ c < s.heap.objs.size := fun {y c} hm => by
    rcases cloFrom_mem hm with hm | ⟨h1, rfl⟩
    · cases hm
    · obtain ⟨c, hc⟩ := hfree _ h1 rfl
      rw [hc]
      obtain ⟨w, z⟩ := I.cell _ _ hc
      exact ⟨rfl, z.lt⟩
  have mem : ∀ {y c}, cenv.cells.lookup y = some c → (X.env.cells.lookup y = some c ∧ c < s.heap.objs.size) ∨ (s.heap.objs.size + 1 ≤ c ∧ CellAt (pushCells (s.heap.push { cls := .type "dict", data := .dict #[] }) scope.names) c none) := fun {y c} e => by
    rw [hcl] at e
    rcases cells_mem (PySem.mem_of_lookup e) with hm | ⟨_, h2, h3⟩
    · exact .inl (cm hm)
    · rw [Heap.size_push] at h2; exact .inr ⟨h2, h3⟩
  have look : ∀ {y}, scope.names.lookup y = some .free → ∃ c, cenv.cells.lookup y = some c ∧ X.env.cells.lookup y = some c := fun {y} hl => by
    have hy : (y, NameKind.free) ∈ scope.names := PySem.mem_of_lookup hl
    obtain ⟨c', e'⟩ := mem_lookup (cells_acc (names := scope.names) (n := (s.heap.push { cls := .type "dict", data := .dict #[] }).objs.size) (cloFrom_has (cells := X.env.cells) (acc := []) hy))
    rw [← hcl] at e'
    refine ⟨c', e', ?_⟩
    rw [hcl] at e'
    rcases cells_mem (PySem.mem_of_lookup e') with hm | ⟨h1, _, _⟩
    · exact (cm hm).1
    · have := ok.uniq _ h1
      rw [hl] at this; cases this
  have okB : (X.blk s H scope cenv fp).Ok := by
    refine ⟨I.ok.mod, by show cenv.scope.kind = _; rw [hsc]; exact ok.kind, by show cenv.globals = _; rw [← hcenv]; exact I.ok.glob, by show cenv.builtins = _; rw [← hcenv]; exact I.ok.blt, by show s.heap.objs.size ≤ cenv.locals; rw [hL]; exact Nat.le_refl _,
      fun y z c e1 e2 => ?_, fun y hy => ?_, fun y c z e => ?_, I.ok.hd, I.ok.frames, .inl rfl, fun b hb => ⟨?_, fun y c e z => ?_⟩, I.bs, Nat.le_trans I.ok.bsz I.sz, fun b o e hb => ?_, fun b hb z => ?_, I.stack, I.stkFree⟩
    · have e1 : cenv.cells.lookup y = some c := e1
      have e2 : cenv.cells.lookup z = some c := e2
      rw [hcl] at e1 e2
      refine cells_inj (fun p hp => ?_) (fun y z c a b => I.ok.inj y z c (cm a).1 (cm b).1) (PySem.mem_of_lookup e1) (PySem.mem_of_lookup e2)
      rw [Heap.size_push]
      exact Nat.lt_succ_of_lt (cm (y := p.1) (c := p.2) hp).2
    · show ∃ c, cenv.cells.lookup y = some c
      have key : ∀ k, cenv.kindOf y = some k → (k = .cell ∨ k = .free) → ∃ c, cenv.cells.lookup y = some c := fun k hk hk' => by
        unfold Env.kindOf at hk
        rw [hsc] at hk
        obtain ⟨k', e, r⟩ := lookup_relS hk
        have : k' = .cell ∨ k' = .free := by
          rcases r with rfl | ⟨rfl, _⟩
          · exact hk'
          · exact .inr rfl
        rcases this with rfl | rfl
        · obtain ⟨c, hm⟩ := cells_has (n := (s.heap.push { cls := .type "dict", data := .dict #[] }).objs.size) (acc := cloFrom X.env.cells scope.names []) (PySem.mem_of_lookup e)
          obtain ⟨c', e'⟩ := mem_lookup hm
          exact ⟨c', by rw [hcl]; exact e'⟩
        · obtain ⟨c, h1, _⟩ := look e
          exact ⟨c, h1⟩
      rcases hy with hy | hy
      · exact key _ hy (.inl rfl)
      · exact key _ hy (.inr rfl)
    · have z : (scope.names.lookup y == some NameKind.cell) = true := z
      have z : scope.names.lookup y = some .cell := by simpa using z
      have e : cenv.cells.lookup y = some c := e
      rw [hcl] at e
      rcases cells_mem (PySem.mem_of_lookup e) with hm | ⟨_, h2, _⟩
      · rcases cloFrom_mem hm with hm | ⟨h1, _⟩
        · cases hm
        · have q := ok.uniq _ h1
          rw [z] at q; cases q
      · rw [Heap.size_push] at h2
        exact Nat.le_of_succ_le h2
    · show b ≠ cenv.locals
      rw [hL]; exact Nat.ne_of_lt (hfp b hb).2
    · have e : cenv.cells.lookup y = some c := e
      rcases mem e with ⟨h1, _⟩ | ⟨h1, _⟩
      · exact (hfp b hb).1.2.2.2.2.1 y c h1 z
      · have h2 : s.heap.objs.size + 1 ≤ b := by rw [← z]; exact h1
        exact absurd (Nat.lt_of_lt_of_le (hfp b hb).2 (Nat.le_of_succ_le h2)) (Nat.lt_irrefl _)
    · rcases (hfp b hb).1.2.2.2.1 with z | z
      · exact I.ok.noex b o e z
      · exact absurd (Nat.lt_of_lt_of_le (Heap.lt_size e) (Nat.le_trans I.ok.bsz z)) (Nat.lt_irrefl _)
    · rcases List.mem_cons.mp (I.stkSub b z) with z | z
      · exact (hfp b hb).1.2.1 z
      · exact (hfp b hb).1.2.2.1 z
  refine ⟨okB, rfl, I.bare, Un.kept kp, ⟨fun _ => none, ?_, fun i y av e1 e2 e3 => ?_⟩, fun y c e => ?_, ?_, fun y c e => ?_, fun p hp => ?_, I.hok.kept kp, by rw [wipe_length]; exact I.len⟩
  · show Heap.Ns _ cenv.locals _
    rw [hL]
    exact Heap.Ns.keeps (Heap.Ns.new ..) fun b o e => pushCells_keeps _ _ _ _ e
  · obtain ⟨e2, hne⟩ := wipe_some e2
    have hfr : scope.names.lookup y = some .free ∧ (cenv.kindOf y = some .cell ∨ cenv.kindOf y = some .free) := by
      have key : ∀ k, cenv.scope.names.lookup y = some k → k = .local ∨ k = .cell ∨ k = .free → scope.names.lookup y = some .free ∧ (cenv.kindOf y = some .cell ∨ cenv.kindOf y = some .free) := fun k hk hk' => by
        have hk0 := hk
        rw [hsc] at hk
        obtain ⟨k', e, r⟩ := lookup_relS hk
        have no : ¬ (k' = .local ∨ k' = .cell) := fun hh => by
          rcases ok.own _ (PySem.mem_of_lookup e) hh with e' | e'
          · obtain ⟨p, hp, hpy⟩ := List.mem_map.mp e'
            have e3 := ok.ix p hp
            have : p.1 = y := hpy
            rw [this] at e3
            exact hne (List.mem_map.mpr ⟨p, hp, nodup_ix hN e3 e1⟩)
          · exact e' (List.mem_of_getElem? e1)
        rcases r with rfl | ⟨rfl, rfl⟩
        · rcases hk' with rfl | rfl | rfl
          · exact absurd (.inl rfl) no
          · exact absurd (.inr rfl) no
          · exact ⟨e, .inr hk0⟩
        · exact ⟨e, .inl hk0⟩
      have e3 : Vis cenv.scope y := e3
      rcases e3 with e3 | e3 | e3
      · exact key _ e3 (.inl rfl)
      · exact key _ e3 (.inr (.inl rfl))
      · exact key _ e3 (.inr (.inr rfl))
    obtain ⟨m, hn, hl⟩ := I.loc
    have hvis : Vis X.env.scope y := (ok.free _ (PySem.mem_of_lookup hfr.1) rfl).elim (fun k => .inr (.inl k)) (fun k => .inr (.inr k))
    obtain ⟨w, r, q⟩ := hl i y av e1 e2 hvis
    refine ⟨w, r, .inr ⟨hfr.2, ?_⟩⟩
    obtain ⟨c, h1, h2⟩ := look hfr.1
    rcases q with ⟨k, _⟩ | ⟨_, c', e', z⟩
    · have k : X.env.scope.names.lookup y = some .local := k
      rcases ok.free _ (PySem.mem_of_lookup hfr.1) rfl with k' | k' <;> rw [show X.env.scope.names.lookup y = _ from k'] at k <;> cases k
    · rw [h2] at e'; cases e'
      exact ⟨c, h1, z.keeps kp⟩
  · have e : cenv.cells.lookup y = some c := e
    rcases mem e with ⟨h1, _⟩ | ⟨_, z⟩
    · obtain ⟨w, z⟩ := I.cell y c h1
      exact ⟨w, z.keeps kp⟩
    · exact ⟨_, z⟩
  · show H cenv.locals = none
    rw [hL]; exact I.hok.fresh (Nat.le_refl _)
  · have e : cenv.cells.lookup y = some c := e
    rcases mem e with ⟨h1, _⟩ | ⟨h1, _⟩
    · exact I.freeC y c h1
    · exact I.hok.fresh (Nat.le_of_succ_le h1)
  · exact absurd (show p ∈ ([] : List (Addr × Obj)) ++ [] from hp) (by simp)

/-- an item appended to a tracked list -/
theorem app_ok {E : Value → Shared → Prop} {D : Addr} {xs : List V} {y : V} {v : Value} {Q : Value → Shared → Prop} (I : Inv X pins σ H s) (hD : H D = some (.lst xs)) (hz : xs.length < sizeLine) (r : RelV y v)
    (h : ∀ s', Inv X pins σ (upd H D (.lst (xs ++ [y]))) s' → Q .none s') : wpAny (model X.prog X.w) X.A (call (.builtin "list.append") [.ref D, v]) Q E s := by
  obtain ⟨hz', its, n, ri, e⟩ := I.hok D _ hD
  have hl := ri.length
  refine append_at (hsz := by rw [List.size_toArray]; omega) e fun h' sb ho' => ?_
  refine h { s with heap := h' } (I.write (t' := s.toks) (by rw [hD]; trivial) (.inl rfl) (fun b u hb q => (sb.2 b hb).trans q) ⟨_, ho'⟩ ⟨by rw [List.length_append]; exact hz, its ++ [v], n + 1, ri.append (.cons r .nil), ?_⟩)
  rw [ho']
  simp

/-- a clause's tests -/
def PTs (X : Cx) (ifs : List Expr) (t : TT) : Prop :=
  ∀ (pins : List (Addr × Obj)) (s : Shared) (σ : St) (H : Hp) (Q : Bool → Hp → Prop), Inv X pins σ H s → t σ H Q →
    wpAny (model X.prog X.w) X.A (forIn ifs true fun c r => if r = true then do let ok ← isTrue c X.env (eval c X.env); pure (ForInStep.yield ok) else pure (ForInStep.yield r)) (TP X pins σ Q) X.xe s
def tYes : TT := fun _ H Q => Q true H
theorem pts_nil : PTs X [] tYes := fun _ _ _ H _ I h => wpAny_tests_nil ⟨H, I, h⟩
theorem pts_one {c : Expr} {t : TT} (h : PT X c t) : PTs X [c] t := fun pins s σ H Q I hw => wpAny_tests_one (h pins s σ H Q I hw)
end

theorem thnF {α : Type} {t : Sem α} {Q Q' : α → Shared → Prop} {M : Model} {A : Around} {E : Value → Shared → Prop} {s : Shared} (h : wpAny M A t Q (fun _ _ => False) s) (hQ : ∀ a s, Q a s → Q' a s) : wpAny M A t Q' E s := wpAny_mono h hQ fun _ _ z => False.elim z

/-- the loop of a list comprehension's block, the target of any form (codeAny_compLoop_tests asks a target that no tuple goes to; statement and proof follow it, PyProof/CompMap.lean:41-61, with the step letOwnedTupleGo kept) -/
theorem compLoop_any {prog : Program} {w : World} {A : Around} {R : Result → Shared → Prop} {s : Shared} {elt target iter : Expr} {ifs : List Expr} {scope : Scope} {pos : Pos} {it acc : Value} {env : Env} (I : Nat → Shared → Prop)
    (turn : ∀ n s, I n s → wpAny (model prog w) A (pyNext it) (fun r s₁ => match r with
      | none => R (.ok .next) s₁
      | some v => wpAny (model prog w) A (letOwnedTupleGo target it v) (fun _ s₁' => wpAny (model prog w) A (assign target env v) (fun _ s₂ =>
          wpAny (model prog w) A (forIn ifs true fun c r => if r = true then do let ok ← isTrue c env (eval c env); pure (ForInStep.yield ok) else pure (ForInStep.yield r)) (fun ok s₃ =>
            if ok = true then wpAny (model prog w) A (eval elt env) (fun x s₄ =>
              wpAny (model prog w) A (call (.builtin "list.append") [acc, x]) (fun _ s₅ => ∃ m, m < n ∧ I m s₅) (notedBy (model prog w) A env fun e s' => R (.error e) s') s₄) (notedBy (model prog w) A env fun e s' => R (.error e) s') s₃
            else ∃ m, m < n ∧ I m s₃) (notedBy (model prog w) A env fun e s' => R (.error e) s') s₂) (notedBy (model prog w) A env fun e s' => R (.error e) s') s₁') (notedBy (model prog w) A env fun e s' => R (.error e) s') s₁) (notedBy (model prog w) A env fun e s' => R (.error e) s') s)
    (n : Nat) (h : I n s) :
    codeAny (model prog w) A (.compLoop (.ListComp elt [⟨target, iter, ifs, 0⟩] scope pos) 0 it acc env) R s := by
  refine codeAny_loop rfl I (fun n s hI => ?_) n h
  show wpAny _ A ((compTurn (.ListComp elt [⟨target, iter, ifs, 0⟩] scope pos) 0 it acc env).onRaise (fun x => do noteFrame x env; theTreesLotGoes x)) _ _ s
  refine wpAny_noted ?_
  rw [compTurn_list]
  refine wpAny_bind (wpAny_standAt (wpAny_bind (wpAny_mono (turn n s hI) (fun r s₁ h₁ => ?_) fun _ _ h' => h')))
  cases r with
  | none => exact wpAny_pure h₁
  | some v =>
    refine wpAny_bind (wpAny_mono h₁ (fun _ s₁' h₁' => ?_) fun _ _ h' => h')
    refine wpAny_bind (wpAny_mono h₁' (fun _ s₂ h₂ => wpAny_bind (wpAny_mono h₂ (fun ok s₃ h₃ => ?_) fun _ _ h' => h')) fun _ _ h' => h')
    cases ok with
    | false => exact wpAny_pure ⟨rfl, h₃⟩
    | true =>
      exact wpAny_bind (wpAny_bind (wpAny_mono h₃ (fun x s₄ h₄ => wpAny_bind (wpAny_mono h₄ (fun _ s₅ h₅ => wpAny_pure (wpAny_pure ⟨rfl, h₅⟩)) fun _ _ h' => h')) fun _ _ h' => h'))

section
variable {X : Cx}
/-- [elt for target in iter if ..]: D the new list; W by the turn and a measure, Nx what a turn is to reach -/
def tLc (wi : TI) (g : TG) (tt : TT) (te : TE) (vs : List Nat) : TE := fun σ H Q => wi σ H fun J H1 => ∀ D, H1 D = none → ∃ W : Nat → Nat → Hp → Prop, (∃ m, W 0 m (upd H1 D (.lst []))) ∧ ∀ i m H, W i m H →
  (J.stop i H ∧ Q (.ref D) H) ∨ (J.go i H ∧ ∃ Nx : Hp → Prop, (∀ H', Nx H' → ∃ m', m' < m ∧ W (i + 1) m' H') ∧ ∀ x H', J.yld i H x H' → g x (wipe σ vs) H' fun σ2 H2 => wipe σ2 vs = wipe σ vs ∧ tt σ2 H2 fun b H3 =>
    if b = true then te σ2 H3 fun y H4 => ∃ acc, H4 D = some (.lst acc) ∧ acc.length < sizeLine ∧ Nx (upd H4 D (.lst (acc ++ [y]))) else Nx H3)
theorem lc_core {pins : List (Addr × Obj)} {s : Shared} {σ : St} {H : Hp} {Q : VK} {elt tg iter : Expr} {ifs : List Expr} {scope : Scope} {own : List (Str × Nat)} {pos pos' : Pos} {wi : TI} {g : TG} {tt : TT} {te : TE} {use : Option (Value → Sem Unit)} {Qf : Value → Shared → Prop}
    (hc : X.calm = true) (hN : X.N.Nodup) (I : Inv X pins σ H s) (hi : PI X tg iter wi) (ok : BlkOk X.N X.env.scope scope own)
    (hg : ∀ (s : Shared) (H : Hp) (C : Addr) (cl : List (Str × Addr)) (fp : List Addr), PG (X.blk s H scope (compEnvC scope cl C X.env) fp) tg g) (ht : ∀ (s : Shared) (H : Hp) (C : Addr) (cl : List (Str × Addr)) (fp : List Addr), PTs (X.blk s H scope (compEnvC scope cl C X.env) fp) ifs tt)
    (he : ∀ (s : Shared) (H : Hp) (C : Addr) (cl : List (Str × Addr)) (fp : List Addr), PE (X.blk s H scope (compEnvC scope cl C X.env) fp) elt te) (hs : ∀ x, foldedSetIterable iter X.env x = pure x)
    (h : tLc wi g tt te (own.map (·.2)) σ H Q)
    (hRR : ∀ D C s' m H', Inv X pins σ H' s' → Q (.ref D) H' → s'.heap.Ns C m → FpOk X pins H' C → compPost (model X.prog X.w) X.A X.xe use Qf (.ref D) C (.ok .next) s') :
    wpAny (model X.prog X.w) X.A (comprehension (.ListComp elt [⟨tg, iter, ifs, 0⟩] scope pos) scope X.env pos' (newList []) false (eval iter X.env) use) Qf X.xe s := by
  have hfree : ∀ y ∈ scope.names, y.2 = .free → ∃ c, X.env.cells.lookup y.1 = some c := fun y hy e => by
    rcases ok.free y hy e with k | k
    · exact I.ok.has _ (.inl k)
    · exact I.ok.has _ (.inr k)
  refine wpAny_comprehension_free (use := use) rfl hs (closure_ok hfree) ok.kind (fun y hy e => by rw [ok.uniq y hy, e])
    (thn (hi pins s σ H _ I h) fun xv s1 hx => thn hx fun itv s2 h2 => ?_)
  obtain ⟨it, fp, tn, J, H2, e, I2, T, st2, f2, q⟩ := h2
  subst e
  refine wpAny_newObj_type (newEnv_comp ?_) (by show 0 ≤ sizeLine; decide)
  generalize hD : s2.heap.objs.size = D
  have hDn : H2 D = none := I2.hok.fresh (Nat.le_of_eq hD)
  obtain ⟨W, ⟨m0, w0⟩, turn⟩ := q D hDn
  -- the new list
  generalize hs3 : ({ s2 with heap := s2.heap.push { cls := .type "list", data := .seq ([] : List Value).toArray } } : Shared) = s3
  have I3 : Inv X pins σ (upd H2 D (.lst [])) s3 := by
    rw [← hs3]
    refine I2.laid (t' := s2.toks) (fun b o e => Heap.get?_push_of_some _ e) (Nat.le_of_eq hD) ⟨Nat.zero_le _, [], 0, .nil, ?_⟩
    rw [← hD]
    exact Heap.get?_push_size _ rfl
  have h3 : s3.heap = s2.heap.push { cls := .type "list", data := .seq ([] : List Value).toArray } := by rw [← hs3]
  have sz : ∀ b ∈ fp, b < s2.heap.objs.size := fun b hb => by
    obtain ⟨o, e, _⟩ := T.obj _ _ st2 b hb
    exact Heap.lt_size e
  have f3 : ∀ b ∈ fp, FpOk X pins (upd H2 D (.lst [])) b ∧ b < s3.heap.objs.size := fun b hb => by
    have hlt := sz b hb
    refine ⟨⟨?_, (f2 b hb).2⟩, by rw [h3, Heap.size_push]; exact Nat.lt_succ_of_lt hlt⟩
    rw [upd_ne (by rw [← hD]; exact Nat.ne_of_lt hlt)]
    exact (f2 b hb).1
  have st3 : tn 0 s3.heap := T.keep _ _ _ st2 fun b _ o e => by rw [h3]; exact Heap.get?_push_of_some _ e
  have I4 := block_start I3 ok hN f3
  have pg := hg s3 (upd H2 D (.lst [])) s3.heap.objs.size (cellsFrom (s3.heap.objs.size + 1) scope.names (cloFrom X.env.cells scope.names [])) fp
  have pt := ht s3 (upd H2 D (.lst [])) s3.heap.objs.size (cellsFrom (s3.heap.objs.size + 1) scope.names (cloFrom X.env.cells scope.names [])) fp
  have pe := he s3 (upd H2 D (.lst [])) s3.heap.objs.size (cellsFrom (s3.heap.objs.size + 1) scope.names (cloFrom X.env.cells scope.names [])) fp
  show codeAny _ _ (.compStart (.ListComp elt [⟨tg, iter, ifs, 0⟩] scope pos) 0 (.ref it) (.ref D) (compEnvC scope (cellsFrom (s3.heap.objs.size + 1) scope.names (cloFrom X.env.cells scope.names [])) s3.heap.objs.size X.env)) (compPost (model X.prog X.w) X.A X.xe use Qf (.ref D) s3.heap.objs.size) { s3 with heap := pushCells (s3.heap.push { cls := .type "dict", data := .dict #[] }) scope.names }
  have nfp : ∀ b ∈ fp, (upd H2 D (.lst [])) b = none := fun b hb => (f3 b hb).1.1
  generalize hce : compEnvC scope (cellsFrom (s3.heap.objs.size + 1) scope.names (cloFrom X.env.cells scope.names [])) s3.heap.objs.size X.env = ce at I4 pg pt pe ⊢
  have cL : ce.locals = s3.heap.objs.size := by subst hce; rfl
  generalize hH3 : upd H2 D (.lst []) = H3 at I3 I4 pg pt pe w0 nfp f3
  generalize hs4 : ({ s3 with heap := pushCells (s3.heap.push { cls := .type "dict", data := .dict #[] }) scope.names } : Shared) = s4 at I4 ⊢
  have st4 : tn 0 s4.heap := T.keep _ _ _ st3 fun b _ o e => by rw [← hs4]; exact pushCells_keeps _ _ _ _ (Heap.get?_push_of_some _ e)
  have stat : ∀ {σ' : St} {H' : Hp} {s' : Shared}, Inv (X.blk s3 H3 scope ce fp) [] σ' H' s' → (∀ b ∈ fp, H' b = none) → ∀ b ∈ fp, FpOk (X.blk s3 H3 scope ce fp) [] H' b := fun {σ' H' s'} I' hn b hb =>
    ⟨hn b hb, (I'.ok.exf b hb).1, I'.ok.exfs b hb, .inl hb, fun x c e => (I'.ok.exf b hb).2 x c e, fun p hp => absurd (show p ∈ ([] : List (Addr × Obj)) ++ [] from hp) (by simp)⟩
  have loop : codeAny (model X.prog X.w) X.A (.compLoop (.ListComp elt [⟨tg, iter, ifs, 0⟩] scope pos) 0 (.ref it) (.ref D) ce) (compPost (model X.prog X.w) X.A X.xe use Qf (.ref D) s3.heap.objs.size) s4 := by
    refine compLoop_any (fun n s' => ∃ i H', Inv (X.blk s3 H3 scope ce fp) [] (wipe σ (own.map (·.2))) H' s' ∧ tn i s'.heap ∧ (∀ b ∈ fp, H' b = none) ∧ W i n H') ?_ m0 ⟨0, H3, I4, st4, nfp, w0⟩
    rintro n s5 ⟨i, H5, I5, st5, n5, w5⟩
    rcases turn i n H5 w5 with ⟨stop, qq⟩ | ⟨go, Nx, hNx, step⟩
    · have td := T.done (X.blk s3 H3 scope ce fp) rfl rfl rfl hc i [] s5 _ H5 (fun _ _ => False) I5 (stat I5 n5) st5 stop
      refine thnF td fun r s6 ⟨hr, I6⟩ => ?_
      subst hr
      -- back in the def's context
      have I7 : Inv X pins σ H5 s6 := I3.call' (ch := fp) I6.os I6.base I6.hok I6.bare fun b hb => ⟨(f3 b hb).1.2.2.2.1, (f3 b hb).1.2.1, (f3 b hb).1.2.2.2.2.1, (f3 b hb).1.2.2.2.2.2⟩
      have nC : H5 s3.heap.objs.size = none := by
        have z : H5 ce.locals = none := I6.free
        rw [cL] at z
        exact z
      obtain ⟨m, hn, _⟩ := I6.loc
      have hn : s6.heap.Ns ce.locals m := hn
      rw [cL] at hn
      exact hRR D s3.heap.objs.size s6 m H5 I7 qq hn (I3.fpOk (Nat.le_refl _) nC)
    · have ti := T.item (X.blk s3 H3 scope ce fp) rfl rfl rfl hc i [] s5 _ H5 (fun _ _ => False) I5 (stat I5 n5) st5 go
      refine thnF ti fun r s6 ⟨u, hr, h6⟩ => ?_
      subst hr
      refine thnF h6 fun _ s7 ⟨x, H7, I7, r7, y7, st7, n7⟩ => ?_
      have I7' := I7.pinned (stat I7 n7) (T.obj _ _ st7)
      refine thnF (pg _ s7 _ H7 x u _ I7' r7 (step x H7 y7)) fun _ s8 ⟨σ8, H8, I8, hw8, q8⟩ => ?_
      refine thnF (pt _ s8 σ8 H8 _ I8 q8) fun b s9 ⟨H9, I9, q9⟩ => ?_
      -- the turn's end
      have fin : ∀ {s' : Shared} {H' : Hp}, Inv (X.blk s3 H3 scope ce fp) ([] ++ pinsAt fp s7.heap) σ8 H' s' → Nx H' → ∃ m, m < n ∧ ∃ i H', Inv (X.blk s3 H3 scope ce fp) [] (wipe σ (own.map (·.2))) H' s' ∧ tn i s'.heap ∧ (∀ b ∈ fp, H' b = none) ∧ W i m H' := fun {s' H'} I' nx => by
        obtain ⟨m', hm, w'⟩ := hNx H' nx
        have pin' : ∀ b ∈ fp, ∀ o, s7.heap.get? b = some o → s'.heap.get? b = some o ∧ H' b = none := fun b hb o e =>
          let z := I'.pin (b, o) (List.mem_append_right _ (List.mem_append_right _ (mem_pinsAt hb e)))
          ⟨z.1, z.2.1⟩
        have hl : (wipe σ (own.map (·.2))).length = σ8.length := by rw [← hw8, wipe_length]
        refine ⟨m', hm, i + 1, H', (I'.unpinned (pins := [])).weak hl (fun j v e => ?_), T.keep _ _ _ st7 fun b hb o e => (pin' b hb o e).1, fun b hb => ?_, w'⟩
        · rw [← hw8] at e
          exact (wipe_some e).1
        · obtain ⟨o, e, _⟩ := T.obj _ _ st7 b hb
          exact (pin' b hb o e).2
      cases b with
      | false =>
        simp only [Bool.false_eq_true, if_false] at q9 ⊢
        exact fin I9 q9
      | true =>
        simp only [if_true] at q9 ⊢
        refine thnF (pe _ s9 σ8 H9 _ I9 q9) fun z s10 ⟨yv, H10, I10, r10, acc, hD10, hz10, nx⟩ => ?_
        exact app_ok (X := X.blk s3 H3 scope ce fp) I10 hD10 hz10 r10 fun s11 I11 => fin I11 nx
  exact codeAny_compStart_list loop (T.self X.A 0 _ _ _ st4 loop)
/-- as a value -/
theorem pe_lc {elt tg iter : Expr} {ifs : List Expr} {scope : Scope} {own : List (Str × Nat)} {pos : Pos} {wi : TI} {g : TG} {tt : TT} {te : TE} (hc : X.calm = true) (hN : X.N.Nodup) (hi : PI X tg iter wi) (ok : BlkOk X.N X.env.scope scope own)
    (hg : ∀ (s : Shared) (H : Hp) (C : Addr) (cl : List (Str × Addr)) (fp : List Addr), PG (X.blk s H scope (compEnvC scope cl C X.env) fp) tg g) (ht : ∀ (s : Shared) (H : Hp) (C : Addr) (cl : List (Str × Addr)) (fp : List Addr), PTs (X.blk s H scope (compEnvC scope cl C X.env) fp) ifs tt)
    (he : ∀ (s : Shared) (H : Hp) (C : Addr) (cl : List (Str × Addr)) (fp : List Addr), PE (X.blk s H scope (compEnvC scope cl C X.env) fp) elt te) (hs : ∀ x, foldedSetIterable iter X.env x = pure x := by intro _; rfl) :
    PE X (.ListComp elt [⟨tg, iter, ifs, 0⟩] scope pos) (tLc wi g tt te (own.map (·.2))) := by
  intro pins s σ H Q I h
  rw [eval_ListComp]
  refine lc_core hc hN I hi ok hg ht he hs h fun D C s' m H' I' q hn f => ⟨m, hn, fun h'' sb => ?_⟩
  obtain ⟨f0, f1, f2, f3, f4, f5⟩ := f
  exact ⟨.ref D, H', I'.turned (t' := s'.toks) (fun b o hb e => (sb.2 b hb).trans e) f0 f1 f3 f4 f5, rfl, q⟩
/-- name = [..] on one line, the name a local -/
theorem ps_setLc {i : Nat} {y : Str} {py : Pos} {elt tg iter : Expr} {ifs : List Expr} {scope : Scope} {own : List (Str × Nat)} {pos spos : Pos} {wi : TI} {g : TG} {tt : TT} {te : TE} (hc : X.calm = true) (hN : X.N.Nodup) (hy : X.N[i]? = some y) (hyl : X.env.scope.names.lookup y = some .local)
    (hsw : swapsWith (.ListComp elt [⟨tg, iter, ifs, 0⟩] scope pos) (some (.Name y py)) spos.line X.env = pure true) (hi : PI X tg iter wi) (ok : BlkOk X.N X.env.scope scope own)
    (hg : ∀ (s : Shared) (H : Hp) (C : Addr) (cl : List (Str × Addr)) (fp : List Addr), PG (X.blk s H scope (compEnvC scope cl C X.env) fp) tg g) (ht : ∀ (s : Shared) (H : Hp) (C : Addr) (cl : List (Str × Addr)) (fp : List Addr), PTs (X.blk s H scope (compEnvC scope cl C X.env) fp) ifs tt)
    (he : ∀ (s : Shared) (H : Hp) (C : Addr) (cl : List (Str × Addr)) (fp : List Addr), PE (X.blk s H scope (compEnvC scope cl C X.env) fp) elt te) (hs : ∀ x, foldedSetIterable iter X.env x = pure x := by intro _; rfl) :
    PS X (.Assign [.Name y py] (.ListComp elt [⟨tg, iter, ifs, 0⟩] scope pos) spos) (tAsg (tLc wi g tt te (own.map (·.2))) (gName i)) := by
  intro pins s σ H D I h
  rw [exec_Assign_Name_used _ _ _ _ hsw]
  refine wpAny_bind (wpAny_standAt (wpAny_bind ?_))
  show wpAny _ X.A (do let _ ← comprehension (.ListComp elt [⟨tg, iter, ifs, 0⟩] scope pos) scope X.env (firstIterPos [⟨tg, iter, ifs, 0⟩] pos) (newList []) false (eval iter X.env) (some (assign (.Name y py) X.env))) _ _ s
  have h : tLc wi g tt te (own.map (·.2)) σ H (fun x H1 => gName i x σ H1 D.nx) := h
  refine wpAny_bind (thn (lc_core (Qf := fun _ s' => SP X pins D .next s') hc hN I hi ok hg ht he hs h fun L C s' m H' I' q hn f => ?_) fun _ s' hq => wpAny_pure (wpAny_pure hq))
  show wpAny _ _ (assign (.Name y py) X.env (.ref L)) _ _ _
  refine wpAny_assign_Name (store_ok2 (v := V.ref L) I' hN hy (.inl hyl) rfl (fun s2 I2 ⟨a, sb, ha⟩ => ?_) (.inr hyl))
  obtain ⟨f0, f1, f2, f3, f4, f5⟩ := f
  have haC : C ≠ a := by
    rcases ha with z | z
    · rw [z]; exact f1
    · exact fun e => f4 y a z e.symm
  refine ⟨m, hn.sameBut sb haC, fun h3 sb3 => ?_⟩
  exact ⟨_, H', I2.turned (t' := s2.toks) (fun b o hb e => (sb3.2 b hb).trans e) f0 f1 f3 f4 f5, q⟩
theorem sw_true {elt : Expr} {gs : List Comprehension} {scope : Scope} {pos py : Pos} {y : Str} {l : Nat} {env : Env} (hk : env.scope.kind = .function) (hy : env.scope.names.lookup y = some .local) (hl : (py.line == pos.line) = true)
    (ha : (scope.names.any fun (n, k) => n == y && (k == .local || k == .cell)) = false) : swapsWith (.ListComp elt gs scope pos) (some (.Name y py)) l env = pure true := by
  have ky : env.kindOf y = some .local := hy
  have hb : env.blockKind = .function := by unfold Env.blockKind; rw [hk]; rfl
  unfold swapsWith
  simp only [hb, ky, ha, Expr.pos, hl]
  rfl
end

/-! ### the forms one uses -/
/-- over a range: Pv by the turn and the heap (the new list at D within) -/
theorem lc_range {lo : Int} {n : Nat} {g : TG} {tt : TT} {te : TE} {vs : List Nat} {σ : St} {H1 : Hp} {D : Addr} {Qd : Hp → Prop} (Pv : Nat → Hp → Prop) (h0 : Pv 0 (upd H1 D (.lst [])))
    (hs : ∀ i H, i < n → Pv i H → g (.int (lo + i)) (wipe σ vs) H fun σ2 H2 => wipe σ2 vs = wipe σ vs ∧ tt σ2 H2 fun b H3 =>
      if b = true then te σ2 H3 fun y H4 => ∃ acc, H4 D = some (.lst acc) ∧ acc.length < sizeLine ∧ Pv (i + 1) (upd H4 D (.lst (acc ++ [y]))) else Pv (i + 1) H3) (hd : ∀ H, Pv n H → Qd H) :
    ∃ W : Nat → Nat → Hp → Prop, (∃ m, W 0 m (upd H1 D (.lst []))) ∧ ∀ i m H, W i m H →
      ((Itr lo n).stop i H ∧ Qd H) ∨ ((Itr lo n).go i H ∧ ∃ Nx : Hp → Prop, (∀ H', Nx H' → ∃ m', m' < m ∧ W (i + 1) m' H') ∧ ∀ x H', (Itr lo n).yld i H x H' → g x (wipe σ vs) H' fun σ2 H2 => wipe σ2 vs = wipe σ vs ∧ tt σ2 H2 fun b H3 =>
        if b = true then te σ2 H3 fun y H4 => ∃ acc, H4 D = some (.lst acc) ∧ acc.length < sizeLine ∧ Nx (upd H4 D (.lst (acc ++ [y]))) else Nx H3) := by
  refine ⟨fun i m H => m = n - i ∧ i ≤ n ∧ Pv i H, ⟨n, by simp, Nat.zero_le _, h0⟩, ?_⟩
  rintro i m H ⟨rfl, hi, p⟩
  by_cases hlt : i < n
  · refine .inr ⟨hlt, Pv (i + 1), fun H' p' => ⟨n - (i + 1), by omega, rfl, hlt, p'⟩, fun x H' y => ?_⟩
    obtain ⟨e, y⟩ := y
    subst e y
    exact hs i _ hlt p
  · have e : i = n := by omega
    subst e
    exact .inl ⟨Nat.le_refl _, hd H p⟩
/-- over a list that the block leaves as it is -/
theorem lc_list {K : PySem.W.Frag} {a : Addr} {xs : List V} {g : TG} {tt : TT} {te : TE} {vs : List Nat} {σ : St} {H1 : Hp} {D : Addr} {Qd : Hp → Prop} (Pv : Nat → Hp → Prop) (h0 : Pv 0 (upd H1 D (.lst []))) (hl : ∀ i H, i ≤ xs.length → Pv i H → SqL K H a xs)
    (hs : ∀ i x H, xs[i]? = some x → Pv i H → g x (wipe σ vs) H fun σ2 H2 => wipe σ2 vs = wipe σ vs ∧ tt σ2 H2 fun b H3 =>
      if b = true then te σ2 H3 fun y H4 => ∃ acc, H4 D = some (.lst acc) ∧ acc.length < sizeLine ∧ Pv (i + 1) (upd H4 D (.lst (acc ++ [y]))) else Pv (i + 1) H3) (hd : ∀ H, Pv xs.length H → Qd H) :
    ∃ W : Nat → Nat → Hp → Prop, (∃ m, W 0 m (upd H1 D (.lst []))) ∧ ∀ i m H, W i m H →
      ((Itl K a).stop i H ∧ Qd H) ∨ ((Itl K a).go i H ∧ ∃ Nx : Hp → Prop, (∀ H', Nx H' → ∃ m', m' < m ∧ W (i + 1) m' H') ∧ ∀ x H', (Itl K a).yld i H x H' → g x (wipe σ vs) H' fun σ2 H2 => wipe σ2 vs = wipe σ vs ∧ tt σ2 H2 fun b H3 =>
        if b = true then te σ2 H3 fun y H4 => ∃ acc, H4 D = some (.lst acc) ∧ acc.length < sizeLine ∧ Nx (upd H4 D (.lst (acc ++ [y]))) else Nx H3) := by
  refine ⟨fun i m H => m = xs.length - i ∧ i ≤ xs.length ∧ Pv i H, ⟨xs.length, by simp, Nat.zero_le _, h0⟩, ?_⟩
  rintro i m H ⟨rfl, hi, p⟩
  have q := hl i H hi p
  by_cases hlt : i < xs.length
  · refine .inr ⟨⟨xs, xs[i], q, by simp [hlt]⟩, Pv (i + 1), fun H' p' => ⟨xs.length - (i + 1), by omega, rfl, hlt, p'⟩, fun x H' y => ?_⟩
    obtain ⟨e, y⟩ := y
    subst e
    exact hs i x _ (y xs q) p
  · have e : i = xs.length := by omega
    subst e
    exact .inl ⟨⟨xs, q, Nat.le_refl _⟩, hd H p⟩
def blkC (N : List Str) (sc scope : Scope) (own : List (Str × Nat)) : Bool :=
  (match scope.kind with | .function => true | _ => false) && (scope.names.all fun y => decide (scope.names.lookup y.1 = some y.2)) && (own.all fun p => decide (N[p.2]? = some p.1)) &&
    (scope.names.all fun y => match y.2 with
      | .free => (match sc.names.lookup y.1 with | some .cell => true | some .free => true | _ => false)
      | .local => decide (y.1 ∈ own.map (·.1)) || decide (y.1 ∉ N)
      | .cell => decide (y.1 ∈ own.map (·.1)) || decide (y.1 ∉ N)
      | _ => true)
theorem blkOk_by {N : List Str} {sc scope : Scope} {own : List (Str × Nat)} (h : blkC N sc scope own = true) : BlkOk N sc scope own := by
  unfold blkC at h
  simp only [Bool.and_eq_true, List.all_eq_true, decide_eq_true_eq] at h
  obtain ⟨⟨⟨h1, h2⟩, h3⟩, h4⟩ := h
  refine ⟨?_, h2, h3, fun y hy e => ?_, fun y hy e => ?_⟩
  · split at h1
    · assumption
    · cases h1
  · have q := h4 y hy
    simp only [e] at q
    split at q <;> first | exact .inl (by assumption) | exact .inr (by assumption) | cases q
  · have q := h4 y hy
    rcases e with e | e <;> (simp only [e, Bool.or_eq_true, decide_eq_true_eq] at q; exact q)
end L2

namespace L2
open PySem PySem.Spec PyProof.Rows


section
variable {prog : Program} {w : World} {A : Around} {R : Result → Shared → Prop} {s : Shared} {elt t0 i0 t1 i1 : Expr} {ifs0 ifs1 : List Expr} {scope : Scope} {pos : Pos} {it acc : Value} {env : Env}
end

section
variable {X : Cx}
end
end L2

namespace L2
open PySem PySem.Spec PyProof.Rows

/-! ### lists of pairs as tables -/
section
variable {κ : Type} [DecidableEq κ]



end


/-! ### a tracked dict, its keys ints and texts or tuples of these -/


section
variable {P : Program} {w : World} {H : Hp} {h : Heap} {a : Addr}
end



section
variable {X : Cx} {pins : List (Addr × Obj)} {σ : St} {H : Hp} {s : Shared} {a : Addr} {y v : V} {u r : Value} {o : Option V} {A : Around} {E : Value → Shared → Prop}


end

section
variable {X : Cx} {pins : List (Addr × Obj)} {σ : St} {H : Hp} {s : Shared} {a : Addr} {kvs : List (Key × V)} {k : Key} {u : Value} {A : Around} {E : Value → Shared → Prop}
end


/-! ### readings and rules -/



section
variable {X : Cx} {o i e value : Expr} {pos pos' tpos : Pos} {td ty tv : TE}
end


/-! ### displays -/
section
variable {X : Cx} {pos : Pos}
end




/-! ### methods -/


section
variable {X : Cx} {pins : List (Addr × Obj)} {σ : St} {H : Hp} {s : Shared} {a : Addr} {y d : V} {u r : Value} {o : Option V} {A : Around} {E : Value → Shared → Prop}
end

section
variable {X : Cx} {o e f : Expr} {apos cpos : Pos} {td ty tx : TE}
end

/-! ### dict(d): a copy -/
section
variable {X : Cx} {pins : List (Addr × Obj)} {σ : St} {H : Hp} {s : Shared} {a : Addr} {kvs : List (Key × V)} {A : Around} {E : Value → Shared → Prop}
end


section
variable {X : Cx} {pins : List (Addr × Obj)} {σ : St} {H : Hp} {s : Shared} {a : Addr} {y : V} {u : Value} {A : Around} {E : Value → Shared → Prop}
end
end L2

namespace L2
open PySem PySem.Spec PyProof.Rows


section
variable {prog : Program} {w : World} {A : Around} {E : Value → Shared → Prop}


end

section
variable {X : Cx}
end
end L2

namespace L2
open PySem PySem.Spec PyProof.Rows

theorem boot_reversed5 : bootBuiltins "reversed" = some (.type "reversed") := by decide +kernel

section
variable {X : Cx} {pins : List (Addr × Obj)} {σ : St} {H : Hp} {s : Shared} {h' : Heap}
/-- several records of ours have turned -/
theorem Inv.turnedL {t' : Nat} {ch : List Addr} (I : Inv X pins σ H s) (k : ∀ b o, b ∉ ch → s.heap.get? b = some o → h'.get? b = some o) (hf : ∀ b ∈ ch, FpOk X pins H b) : Inv X pins σ H { s with heap := h', toks := t' } := by
  have nit : ∀ b u, H b = some u → b ∉ ch := fun b u e z => by
    have q := (hf b z).1
    rw [q] at e; cases e
  refine I.step (g' := s.gens) (d' := s.drawn) (ch := ch) (fun b hb => ⟨(hf b hb).2.2.2.1, (hf b hb).2.1, (hf b hb).2.2.2.2.1, (hf b hb).2.2.2.2.2⟩) (fun b o _ _ hc e _ => k b o hc e) (fun b o _ _ hc e _ => ⟨o.slots, k b o hc e⟩)
    (fun _ _ _ _ n => n) (fun b o hc e => ⟨o, k b o hc e⟩) (fun _ _ e => e) (fun _ _ _ e => e) (fun b ps e => ⟨#[], by rw [e]; simp⟩) (fun m hm => ?_) (fun b u e => ?_) I.bare
  · obtain ⟨o, es, ep, ho, r⟩ := hm
    exact ⟨o, es, ep, k _ o (fun z => (hf _ z).2.1 rfl) ho, r⟩
  · refine (I.hok b u e).stay (fun c v hc q => k c v ?_ q) (fun _ q => q) fun _ _ q => q
    rcases hc with z | z
    · rw [z]; exact nit b u e
    · exact nit c _ z
/-- .. and one new object is laid -/
theorem Inv.turnedNew {t' : Nat} {ch : List Addr} {T : Addr} {ob : HO} (I : Inv X pins σ H s) (k : ∀ b o, b ∉ ch → s.heap.get? b = some o → h'.get? b = some o) (hf : ∀ b ∈ ch, FpOk X pins H b) (hT : s.heap.objs.size ≤ T)
    (new : ObjOk X.prog X.w (upd H T ob) h' T ob) : Inv X pins σ (upd H T ob) { s with heap := h', toks := t' } := by
  have hn : H T = none := I.hok.fresh hT
  have nit : ∀ b u, H b = some u → b ∉ ch := fun b u e z => by
    have q := (hf b z).1
    rw [q] at e; cases e
  refine I.step (g' := s.gens) (d' := s.drawn) (ch := ch) (fun b hb => ⟨(hf b hb).2.2.2.1, (hf b hb).2.1, (hf b hb).2.2.2.2.1, (hf b hb).2.2.2.2.2⟩) (fun b o _ _ hc e _ => k b o hc e) (fun b o _ _ hc e _ => ⟨o.slots, k b o hc e⟩)
    (fun b o _ e n => ?_) (fun b o hc e => ⟨o, k b o hc e⟩) (fun b xs e => ?_) (fun b o u e => ?_) (fun b ps e => ⟨#[], ?_⟩) (fun m hm => ?_) (fun b u e => ?_) I.bare
  · rw [upd_ne (Nat.ne_of_lt (Nat.lt_of_lt_of_le (Heap.lt_size e) hT))]; exact n
  · rw [upd_ne (ne_of_none e hn)]; exact e
  · rw [upd_ne (ne_of_none e hn)]; exact e
  · rw [upd_ne (ne_of_none e hn), e]; simp
  · obtain ⟨o, es, ep, ho, r⟩ := hm
    exact ⟨o, es, ep, k _ o (fun z => (hf _ z).2.1 rfl) ho, r⟩
  · by_cases hb : b = T
    · subst hb
      rw [upd_same] at e
      cases e
      exact new
    · rw [upd_ne hb] at e
      refine (I.hok b u e).stay (fun c v hc q => k c v ?_ q) (fun c q => by rw [upd_ne (ne_of_none q hn)]; exact q) fun c xs q => by rw [upd_ne (ne_of_none q hn)]; exact q
      rcases hc with z | z
      · rw [z]; exact nit b u e
      · exact nit c _ z

/-! ### locking a thing while a statement runs -/
end
section
variable {X : Cx}

/-! ### one iterator just laid -/
end

/-! ### range with a step -/
section
variable {X : Cx} {tg : Expr}
end

/-! ### reversed(list) -/
section
variable {X : Cx} {tg : Expr}
end

/-! ### a str -/

/-! ### a dict's keys: any dict's entries -/
section
variable {prog : Program} {w : World} {A : Around} {E : Value → Shared → Prop} {s : Shared}
end

/-! ### a locked dict -/
section
variable {X : Cx} {pins : List (Addr × Obj)} {σ : St} {H : Hp} {s : Shared} {d : Addr} {o : Obj}
end

section
variable {P : Program} {w : World} {K : PySem.W.Frag} {tg : Expr} {d : Addr} {o : Obj} {es : Array DictEntry} {ep : Nat}
end

/-! ### for k in d, d.keys(), d.values(), d.items() -/
section
variable {X : Cx} {tg e : Expr} {td : TE} {apos cpos : Pos}
end

/-! ### enumerate(list) -/
/-- the list at a as it stands at each turn, each item in a new pair -/
def Ite (K : PySem.W.Frag) (a : Addr) : It :=
  ⟨fun i H => ∃ (xs : List V) (x : V), SqL K H a xs ∧ xs[i]? = some x, fun i H v H' => ∃ T x, v = .ref T ∧ H T = none ∧ H' = upd H T (.tup [.int (i : Nat), x]) ∧ ∀ xs, SqL K H a xs → xs[i]? = some x, fun i H => ∃ xs : List V, SqL K H a xs ∧ xs.length ≤ i⟩
theorem turn_enum {P : Program} {w : World} {K : PySem.W.Frag} {elts : List Expr} {kk : Nat} {tpos : Pos} (a e it : Addr) :
    Turn P w K (.Tuple elts kk tpos) (Ite K a) [e, it] e (fun i h => (∃ old, IsEnum h e it ((i : Nat) : Int) old) ∧ h.IsListIter it a i ∧ e ≠ it) where
  mem := by simp
  obj := fun i h st b hb => by
    obtain ⟨⟨old, he⟩, ⟨o, ho, hc, hd⟩, _⟩ := st
    have e' : b = e ∨ b = it := by simpa using hb
    rcases e' with z | z
    · rw [z]; exact ⟨_, he, fun v q => nomatch q⟩
    · rw [z]; exact ⟨o, ho, fun v q => by rw [hd] at q; cases q⟩
  keep := fun i h h' st k => let ⟨⟨old, he⟩, hi, hne⟩ := st; ⟨⟨old, k e (by simp) _ he⟩, hi.at fun o q => k it (by simp) o q, hne⟩
  item := by
    intro X hP hw hK hc i pins s σ H E I hf st hg
    subst hP hw hK
    obtain ⟨⟨old, he⟩, hit, hne⟩ := st
    obtain ⟨xs, x, hq, hx⟩ := hg
    obtain ⟨its, rv, p, hz⟩ := I.list hq
    obtain ⟨u, hu, ru⟩ := rv.get hx
    have hel : e < s.heap.objs.size := Heap.lt_size he
    have hil : it < s.heap.objs.size := by obtain ⟨_, q, _⟩ := hit; exact Heap.lt_size q
    refine wpAny_pyNext_enum_item he hit p.isList (x := u) (by simpa using hu) hne fun h' ho hit' hT hsz hk => ?_
    refine ⟨_, rfl, wpAny_letOwnedTupleGo_enum (s := { s with heap := h', toks := s.toks + 1 }) ho fun h'' he' sb => ?_⟩
    have hT2 : h''.get? s.heap.objs.size = some { cls := .type "tuple", data := .seq #[.int i s.toks, u] } := (sb.2 _ (Nat.ne_of_gt hel)).trans hT
    have new : ObjOk X.prog X.w (upd H s.heap.objs.size (.tup [.int (i : Nat), x])) h'' s.heap.objs.size (.tup [.int (i : Nat), x]) :=
      ⟨by show 2 ≤ sizeLine; decide, [.int i s.toks, u], .cons ⟨_, rfl⟩ (.cons ru .nil), ⟨_, hT2, rfl, _, rfl⟩⟩
    have I1 : Inv X pins σ (upd H s.heap.objs.size (.tup [.int (i : Nat), x])) { s with heap := h'', toks := s.toks + 1 } :=
      I.turnedNew (ch := [e, it]) (fun b ob hb q => (sb.2 b (fun z => hb (by simp [z]))).trans (hk b ob (fun z => hb (by simp [z])) (fun z => hb (by simp [z])) q)) hf (Nat.le_refl _) new
    refine ⟨.ref s.heap.objs.size, _, I1, rfl, ⟨_, x, rfl, I.hok.fresh (Nat.le_refl _), rfl, fun ys hy => by rw [I.list_inj hy hq]; exact hx⟩, ⟨⟨u, ?_⟩, hit'.at fun o q => (sb.2 it (Ne.symm hne)).trans q, hne⟩, fun b hb => ?_⟩
    · have e1 : ((i + 1 : Nat) : Int) = (i : Int) + 1 := by omega
      rw [e1]; exact he'
    · have hb' : b < s.heap.objs.size := by
        have e' : b = e ∨ b = it := by simpa using hb
        rcases e' with z | z
        · rw [z]; exact hel
        · rw [z]; exact hil
      rw [upd_ne (Nat.ne_of_lt hb')]
      exact (hf b hb).1
  done := by
    intro X hP hw hK hc i pins s σ H E I hf st hg
    subst hP hw hK
    obtain ⟨⟨old, he⟩, hit, hne⟩ := st
    obtain ⟨xs, hq, hx⟩ := hg
    obtain ⟨its, rv, p, hz⟩ := I.list hq
    obtain ⟨f0, f1, f2, f3, f4, f5⟩ := hf it (by simp)
    have hl := rv.length
    exact wpAny_pyNext_enum_end (I.ok.hd hc) he hit p.isList (by simp; omega) fun h' eb => ⟨rfl, I.turned (t' := s.toks) (fun b o hb q => eb b o hb q) f0 f1 f3 f4 f5⟩
  self := fun A i s Q E st h => let ⟨⟨_, he⟩, _⟩ := st; wpAny_pyIter_enum he h
def iEnum (K : PySem.W.Frag) (ta : TA) : TI := fun σ H R => ta σ H fun vs H1 => ∃ a xs, vs = [.ref a] ∧ SqL K H1 a xs ∧ R (Ite K a) H1
theorem pi_enum {X : Cx} {e : Expr} {ta : TA} {p pos tpos : Pos} {elts : List Expr} {kk : Nat} (hg : Gl X "enumerate") (hm : X.mg "enumerate" = none) (ha : PA X [e] ta) (hs : starEach [e] X.env = [(false, eval e X.env)] := by rfl) :
    PI X (.Tuple elts kk tpos) (.Call (.Name "enumerate" p) [e] [] pos) (iEnum X.K ta) := by
  intro pins s σ H R I h
  refine Call_ (ld_blt I hg hm boot_enumerate (PyProof.Rows.callWith_type1 (thn (ha pos pins s σ H _ I h) fun us s1 ⟨vs, H1, I1, r1, q1⟩ => ?_) hs rfl))
  obtain ⟨a, xs, ex, hq, q⟩ := q1
  subst ex
  cases r1 with
  | cons r rr =>
    cases rr
    cases r
    obtain ⟨its, rv, p', hz⟩ := I1.list hq
    refine call_enumerate_list p'.isList fun h' he hit hsz hk => wpAny_pyIter_enum he ?_
    have I2 : Inv X pins σ H1 { s1 with heap := h' } := I1.kept (t' := s1.toks) hk
    refine ⟨s1.heap.objs.size + 1, [s1.heap.objs.size + 1, s1.heap.objs.size], _, _, H1, rfl, I2, turn_enum a (s1.heap.objs.size + 1) s1.heap.objs.size, ⟨⟨.none, he⟩, hit, Nat.succ_ne_self _⟩, fun b hb => ?_, q⟩
    have e' : b = s1.heap.objs.size + 1 ∨ b = s1.heap.objs.size := by simpa using hb
    have hle : s1.heap.objs.size ≤ b := by
      rcases e' with z | z
      · rw [z]; exact Nat.le_add_right _ _
      · rw [z]; exact Nat.le_refl _
    exact I1.fpOk hle (I1.hok.fresh hle)
/-! ### zip(list, list) -/
theorem boot_zip5 : bootBuiltins "zip" = some (.type "zip") := by decide +kernel
end L2

section 
namespace Bits
open PySem PyProof.Rows








end Bits
end 

section 
namespace TL
open PySem PySem.Builtin PySem.Builtin.Str PySem.StrLaws


/-! ### the list functions -/




/-! ### the model's split and partition are these -/




/-! ### computing spl and par -/


/-! ### digits -/

/-! ### words: x.split() -/
end TL
end 

namespace L2
open PySem PySem.Spec PyProof.Rows




section
variable {X : Cx} {pins : List (Addr × Obj)} {σ : St} {H : Hp} {s : Shared} {Q : VK}
end

section
variable {X : Cx}





/-! ### of a text alone -/

/-! ### of a text and a text -/

end

section
variable {X : Cx} {o e : Expr} {to te : TE}

end
end L2

namespace L2
open PySem PySem.Spec PyProof.Rows

section
variable {X : Cx}
end

/-! ### slices of a text -/


end L2

namespace Att
open PySem PySem.W PySem.Calls PyProof.Rows

/-! ### the script -/



/-! ### the attachment: holds_open's last premise (the goal 'hc' behind k_head) from a wpAny of the law's body -/



/-! ### rules over ANY heap (no ledger) from facts about the written part K: the library's own take a ledger (News) for what they write -/
section
variable {prog : Program} {w : World} {A : Around} {E : Value → Shared → Prop} {s : Shared} {K : Frag}





/-! the whole heap as the ledger: makes every rule that writes through a ledger a rule over any heap -/

end
end Att

namespace L2
open PySem PySem.Spec PyProof.Rows



end L2

namespace L2
open PySem PySem.Spec PyProof.Rows


end L2

/- THE LAST THEOREM (shape; LID, My.* are yours):
   My.Adr: a structure of the addresses that your layer names (classes, functions); My.Txt K t: a structure (Prop) of the equations over K;
   My.txt_mk : {K} {implicit addresses ..} (e1 : nsIn K mainGlobals "law" = some (some (.ref f))) (e2 : K.lookup f = some ⟨oc, od, .func (fnOf "law" "law" params body scope dV kV doc pm an cdv ct), sl⟩) (e3 : codeIn K cdv "law" = true) .. : ∃ t, My.Txt K t

set_option maxRecDepth 100000 in
set_option maxHeartbeats 0 in
theorem PySem.Challenge.cw_LID_holds : PySem.Challenge.rw_LID.Holds := by
  w_on; o_law; k_head; (case hw => w_witness2)
  k_fill
  refine L2.walk_of (l := PySem.Challenge.rw_LID) (n := 63) (k := 40) (x := "script") (CX := fun w => ..) (sp := fun _ => My.sp_law) rfl (by decide) rfl ⟨rfl, by decide, by decide⟩ (fun w h Y => PySem.W.kIn_of Y) ?F ?S ?C
  case F =>
    intro w mg fa h KX G hmg
    have T : ∃ t, My.Txt (L2.KOf KX) t := by
      dsimp only [L2.KOf]                          -- K must stand as «<heap const> w.params» for k_is
      refine' My.txt_mk ?e1 ?e2 ?e3 ..
      (case e1 => PySem.W.k_is)                    -- in the order: a name -> its address -> its object -> its parts
      (case e2 => PySem.W.k_is)
      ..
    obtain ⟨t, T⟩ := T
    have e0 := hmg.symm.trans (PySem.W.mg_of KX G T.law)
    cases e0                                       -- fa is the law's own address
    exact ⟨_, fun s u => .of_eq rfl, fun base kb nb => My.law_fn T kb nb⟩     -- if «.of_eq rfl» comes too early: refine' ⟨_, ?b, fun base kb nb => My.law_fn T kb nb⟩; exact fun s u => .of_eq rfl
  case S => exact fun w H a ns hl hO hS => ..
  case C => exact ..
(the tactic k_is has no namespace: write k_is) -/

/-! SHORT WORDS over the layer: a def of the text, its body, what a loop and a test want. -/
namespace L2
open PySem PySem.Spec PyProof.Rows

/-! ### the text by places -/
/-- the j-th statement of a class's body -/
def inClass (s : Stmt) (j : Nat) : Stmt := match s with
  | .ClassDef _ _ _ body _ _ _ _ _ _ _ => body.getD j (.Pass ⟨0, 0, 0, 0⟩)
  | _ => .Pass ⟨0, 0, 0, 0⟩
def defArgs (s : Stmt) : Arguments := match s with
  | .FunctionDef _ a _ _ _ _ _ _ _ _ => a
  | _ => { posonlyargs := [], args := [], vararg := none, kwonlyargs := [], kw_defaults := [], kwarg := none, defaults := [] }
def defBody (s : Stmt) : List Stmt := match s with
  | .FunctionDef _ _ b _ _ _ _ _ _ _ => b
  | _ => []
def defScope (s : Stmt) : Scope := match s with
  | .FunctionDef _ _ _ _ _ _ sc _ _ _ => sc
  | _ => { kind := .function, names := [], isGenerator := false, isCoroutine := false }

/-! ### no exception leaves a def -/
abbrev CX0 : CXT := fun _ _ _ _ _ _ => False
abbrev E0 : XK := fun _ _ _ => False
theorem pass0 {X : Cx} : Passes CX0 X E0 := fun _ _ _ _ _ _ _ h => h.elim

/-! ### a def (or method) of the text as it stands behind the top -/
structure Fun (K : PySem.W.Frag) (x qual : Str) (st : Stmt) (f : Addr) (fd : FuncData) : Prop where
  ex : ∃ (oc : Value) (od : Option Addr) (kV doc pm : Value) (an : Option Addr) (cdv ct : Value) (osl : Array (Option Value)),
    fd = PySem.W.fnOf x qual (defArgs st) (defBody st) (defScope st) .none kV doc pm an cdv ct ∧ K.lookup f = some ⟨oc, od, .func fd, osl⟩ ∧ PySem.W.codeIn K cdv qual = true
  kp : PySem.W.keepIn K (.ref f) = true
section
variable {P : Program} {w : World} {K : PySem.W.Frag} {mg : Str → Option Value} {base : Heap}
/-- THE RULE for a def: its body as a term of rules, and the reading of that term -/
theorem Fun.ok {x qual : Str} {st : Stmt} {f : Addr} {fd : FuncData} {N ps : List Str} {k : Nat} {sp : Sp} (F : Fun K x qual st f fd) (S : FnScope N ps (defScope st)) (len : ∀ vs H Q E, sp vs H Q E → vs.length = ps.length)
    (hbody : ∀ (cdv : Value) (A : Around) (outer : List Env) (s : Shared) (H : Hp) (vs : List V) (Q : VK) (E : XK), Room k (A.deeper (envOfC qual (defScope st) s.heap.objs.size f cdv)) → sp vs H Q E →
      ∃ t, PSs (cxOf CX0 P w K mg base N qual (defScope st) f cdv A outer s H E).nox (defBody st) t ∧ t { nx := fun _ H' => Q .non H', rt := Q } (start N vs) H) : FnOk P w K mg base CX0 (k + 1) f fd ps sp := by
  obtain ⟨oc, od, kV, doc, pm, an, cdv, ct, osl, rfl, lk, hcd⟩ := F.ex
  refine fn_of lk hcd S len fun A outer s H vs Q E hr hsp => ?_
  obtain ⟨t, h, q⟩ := hbody cdv A outer s H vs Q E hr hsp
  exact ⟨t, h.nox, q⟩
/-- how its arguments bind (no defaults): h is «fun _ _ _ _ _ _ us hl => match us, hl with | [_, _], _ => rfl», one _ a parameter -/
theorem Fun.binds {x qual : Str} {st : Stmt} {f : Addr} {fd : FuncData} {ps : List Str} (F : Fun K x qual st f fd)
    (h : ∀ (kV doc pm : Value) (an : Option Addr) (cdv ct : Value) (us : List Value), us.length = ps.length → bindArgs (PySem.W.fnOf x qual (defArgs st) (defBody st) (defScope st) .none kV doc pm an cdv ct) ⟨us, []⟩ = pure (ps.zip us)) : Binds K fd ps [] := by
  obtain ⟨oc, od, kV, doc, pm, an, cdv, ct, osl, rfl, lk, hcd⟩ := F.ex
  exact .all (h kV doc pm an cdv ct)
theorem fun_mk {x qual : Str} {st : Stmt} {f : Addr} {oc : Value} {od an : Option Addr} {osl : Array (Option Value)} {kV doc pm cdv ct : Value} (l : K.lookup f = some ⟨oc, od, .func (PySem.W.fnOf x qual (defArgs st) (defBody st) (defScope st) .none kV doc pm an cdv ct), osl⟩)
    (c : PySem.W.codeIn K cdv qual = true) (k : PySem.W.keepIn K (.ref f) = true) : Fun K x qual st f (PySem.W.fnOf x qual (defArgs st) (defBody st) (defScope st) .none kV doc pm an cdv ct) := ⟨⟨oc, od, kV, doc, pm, an, cdv, ct, osl, rfl, l, c⟩, k⟩
end

/-! ### expressions in short: the name that stands in the i-th slot -/
section
variable {X : Cx}
theorem pv (i : Nat) {x : Str} {pos : Pos} (hN : X.N[i]? = some x := by rfl) (hv : Vis X.env.scope x := by first | exact Or.inl rfl | exact Or.inr (Or.inl rfl) | exact Or.inr (Or.inr rfl)) (hd : (x == ("__debug__" : Str)) = false := by decide)
    (hcd : (x == ("__classdict__" : Str)) = false := by decide) : PE X (.Name x pos) (tVar i) := pe_var hN hv hd hcd
end

/-! ### tests -/
theorem iteF {A B : Prop} (h : B) : if false = true then A else B := by
  rw [if_neg Bool.false_ne_true]
  exact h
theorem iteT {A B : Prop} (h : A) : if true = true then A else B := by
  rw [if_pos rfl]
  exact h
theorem ite2 {c A B : Prop} [Decidable c] (h1 : c → A) (h2 : ¬ c → B) : if c then A else B := by
  by_cases h : c
  · rw [if_pos h]
    exact h1 h
  · rw [if_neg h]
    exact h2 h

/-! ### heaps -/
/-- all that was tracked is as it was -/
def Same (H H' : Hp) : Prop := ∀ b o, H b = some o → H' b = some o
theorem Same.refl (H : Hp) : Same H H := fun _ _ h => h
theorem Same.trans {H H1 H2 : Hp} (a : Same H H1) (b : Same H1 H2) : Same H H2 := fun c o h => b c o (a c o h)
theorem Same.free {H H' : Hp} (e : Same H H') {l : Addr} (h : H' l = Option.none) : H l = Option.none := by
  cases q : H l with
  | none => rfl
  | some o =>
    rw [e l o q] at h
    cases h
theorem Same.seq {K : PySem.W.Frag} {H H' : Hp} {a : Addr} {xs : List V} (e : Same H H') (h : SqL K H a xs) : SqL K H' a xs := by
  rcases h with (h | ⟨o, h⟩) | h
  · exact .inl (.inl (e _ _ h))
  · exact .inl (.inr ⟨o, e _ _ h⟩)
  · exact .inr h

/-! ### a dict's pairs: keys that differ -/
section
variable {κ : Type} [DecidableEq κ]
end
/-! ### lists -/
theorem at_of {xs : List V} {z : Int} {j : Nat} {v : V} (e : z = (j : Int)) (h : xs[j]? = some v) : atI xs z = some v := by
  rw [e]
  exact atI_nat h
/-- a new instance and its __init__ leave all that was tracked as it was -/
theorem Same.made {H H1 : Hp} {x dx C : Addr} (nx : H x = Option.none) (nd : H dx = Option.none) (k : ∀ b o, (upd (upd H dx (.own x)) x (.ins C dx [])) b = some o → b ≠ x → H1 b = some o) : Same H H1 := fun b o e =>
  k b o (by rw [upd_ne (ne_of_none e nx), upd_ne (ne_of_none e nd)]; exact e) (ne_of_none e nx)
end L2

namespace Gr
open Sg42Neutral (bytesOf octets)

def Byt (l : List Int) : Prop := ∀ x ∈ l, 0 ≤ x ∧ x ≤ 255

/-- base i of packed bytes -/
def base (bs : List Int) (i : Nat) : Nat := (bs.getD (i / 4) 0).toNat / 4 ^ (i % 4) % 4
theorem base_lt (bs : List Int) (i : Nat) : base bs i < 4 := Nat.mod_lt _ (by decide)

theorem u8 {x : Int} (h : 0 ≤ x ∧ x ≤ 255) : (UInt8.ofNat x.toNat).toNat = x.toNat := by
  rw [UInt8.toNat_ofNat']
  exact Nat.mod_eq_of_lt (by omega)
theorem bytes_getD {bs : List Int} (hb : Byt bs) (k : Nat) : ((bytesOf bs).getD k 0).toNat = (bs.getD k 0).toNat := by
  unfold bytesOf
  rw [List.getD_eq_getElem?_getD, List.getD_eq_getElem?_getD, List.getElem?_map]
  cases e : bs[k]? with
  | none => rfl
  | some x =>
    show (UInt8.ofNat x.toNat).toNat = x.toNat
    exact u8 (hb x (List.mem_of_getElem? e))
theorem unpacked_eq {bs : List Int} (hb : Byt bs) (n : Nat) : Sg42.unpacked (bytesOf bs) n = (List.range n).map (base bs) := by
  unfold Sg42.unpacked
  refine List.map_congr_left fun i _ => ?_
  rw [bytes_getD hb]
  rfl

theorem len_iff {n : Int} : Sg42.length n = true ↔ 0 ≤ n ∧ n ≤ 65536 := by
  unfold Sg42.length Sg42.within Sg42.MOST
  simp

/-! ### unpack -/
def letterI (b : Nat) : Int := ((Sg42.letter b).toNat : Int)

/-! ### pack -/
theorem u8_eq {x : Int} (h : 0 ≤ x ∧ x ≤ 255) (k : Nat) (hk : k < 256) : (UInt8.ofNat x.toNat = UInt8.ofNat k) ↔ x = (k : Int) := by
  constructor
  · intro e
    have e2 := congrArg UInt8.toNat e
    rw [u8 h, UInt8.toNat_ofNat', Nat.mod_eq_of_lt (show k < 2 ^ 8 by omega)] at e2
    omega
  · intro e
    rw [e]; rfl


end Gr

namespace Gr
open Sg42Neutral (bytesOf octets)
/-- k bases from place f on -/
def seg (bs : List Int) (f k : Nat) : List Nat := (List.range k).map fun i => base bs (f + i)
theorem seg_len (bs : List Int) (f k : Nat) : (seg bs f k).length = k := by unfold seg; simp
theorem seg_succ (bs : List Int) (f k : Nat) : seg bs f (k + 1) = seg bs f k ++ [base bs (f + k)] := by
  unfold seg
  rw [List.range_succ, List.map_append]
  rfl
theorem seg_get (bs : List Int) {f k i : Nat} (h : i < k) : (seg bs f k)[i]? = some (base bs (f + i)) := by
  unfold seg
  rw [List.getElem?_map, List.getElem?_range h]
  rfl
theorem seg_lt (bs : List Int) (f k : Nat) : ∀ x ∈ seg bs f k, x < 4 := by
  intro x hx
  obtain ⟨i, _, rfl⟩ := List.mem_map.mp hx
  exact base_lt _ _
theorem unpacked_seg {bs : List Int} (hb : Byt bs) (n : Nat) : Sg42.unpacked (bytesOf bs) n = seg bs 0 n := by
  rw [unpacked_eq hb]
  unfold seg
  refine List.map_congr_left fun i _ => ?_
  rw [Nat.zero_add]
theorem seg_drop (bs : List Int) (f n i : Nat) : (seg bs f n).drop i = seg bs (f + i) (n - i) := by
  refine List.ext_getElem? fun j => ?_
  rw [List.getElem?_drop]
  by_cases h : i + j < n
  · rw [seg_get bs h, seg_get bs (show j < n - i by omega), Nat.add_assoc]
  · rw [List.getElem?_eq_none (by rw [seg_len]; omega), List.getElem?_eq_none (by rw [seg_len]; omega)]

/-! ### turn -/

/-! ### count -/
theorem range_iff {n f t : Int} : Sg42.range n f t = true ↔ 0 ≤ f ∧ f ≤ t ∧ t ≤ n := by
  unfold Sg42.range
  simp

/-! ### same -/

/-! ### counted answers -/
theorem within_iff {n lo hi : Int} : Sg42.within n lo hi = true ↔ lo ≤ n ∧ n ≤ hi := by
  unfold Sg42.within
  simp
theorem within_false {n lo hi : Int} : Sg42.within n lo hi = false ↔ ¬ (lo ≤ n ∧ n ≤ hi) := by
  rw [← within_iff]; simp

/-! ### words -/

/-! ### minimizers -/

/-! ### shared -/
end Gr

namespace Gr
end Gr

namespace Gr
theorem byt_of {l : List Int} (h : NeutralIO.bytes l = true) : Byt l := by
  intro x hx
  unfold NeutralIO.bytes at h
  have := List.all_eq_true.mp h x hx
  simpa using this
theorem row_of {l : List Int} (h : Sg42Neutral.row l = true) : Byt l ∧ l.length ≤ 65536 := by
  unfold Sg42Neutral.row at h
  rw [Bool.and_eq_true, decide_eq_true_eq] at h
  exact ⟨byt_of h.1, h.2⟩
theorem nwithin_iff {n lo hi : Int} : NeutralIO.within n lo hi = true ↔ lo ≤ n ∧ n ≤ hi := by
  unfold NeutralIO.within
  simp
theorem packed_of {l : List Int} {n most : Int} (h : Sg42Neutral.packed l n most = true) : Byt l ∧ l.length ≤ 65536 ∧ ((0 ≤ n ∧ n ≤ most) → l.length = (n.toNat + 3) / 4) := by
  unfold Sg42Neutral.packed at h
  rw [Bool.and_eq_true, Bool.and_eq_true, decide_eq_true_eq] at h
  obtain ⟨h1, _, h2⟩ := h
  obtain ⟨b, hl⟩ := row_of h1
  refine ⟨b, hl, fun hn => ?_⟩
  rw [if_pos (nwithin_iff.mpr hn)] at h2
  exact h2
end Gr

namespace Gr
open PySem
theorem shr_and {b : Int} {i : Nat} (h : 0 ≤ b ∧ b ≤ 255) : Builtin.bitAnd (b / 2 ^ (2 * ((i : Int) % 4)).toNat) 3 = ((b.toNat / 4 ^ (i % 4) % 4 : Nat) : Int) := by
  rw [PyProof.Rows.bitAnd_m2]
  have e1 : (2 * ((i : Int) % 4)).toNat = 2 * (i % 4) := by omega
  have e2 : ((b.toNat : Nat) : Int) = b := by omega
  have e3 : (((4 : Nat) ^ (i % 4) : Nat) : Int) = 2 ^ (2 * (i % 4)) := by
    rw [Int.natCast_pow, Int.pow_mul]
    rfl
  rw [e1, Int.natCast_emod, Int.natCast_ediv, e3, e2]
  rfl
theorem base_of {ns : List Int} {i : Nat} {b : Int} (h : ns[i / 4]? = some b) : base ns i = b.toNat / 4 ^ (i % 4) % 4 := by
  unfold base
  rw [List.getD_eq_getElem?_getD, h]
  rfl
end Gr

namespace Gr
open PySem
theorem parts2 (x y : Nat) : (x ^^^ y) / 2 = x / 2 ^^^ y / 2 ∧ (x &&& y) / 2 = x / 2 &&& y / 2 ∧ (x ||| y) / 2 = x / 2 ||| y / 2 := by
  refine ⟨?_, ?_, ?_⟩ <;> refine Nat.eq_of_testBit_eq fun i => ?_
  · rw [Nat.testBit_div_two, Nat.testBit_xor, Nat.testBit_xor, Nat.testBit_div_two, Nat.testBit_div_two]
  · rw [Nat.testBit_div_two, Nat.testBit_and, Nat.testBit_and, Nat.testBit_div_two, Nat.testBit_div_two]
  · rw [Nat.testBit_div_two, Nat.testBit_or, Nat.testBit_or, Nat.testBit_div_two, Nat.testBit_div_two]
theorem bit0 (x : Nat) : x % 2 = (x.testBit 0).toNat := by
  rw [Nat.testBit_zero]
  have : x % 2 = 0 ∨ x % 2 = 1 := by omega
  rcases this with h | h <;> simp [h]
theorem low2 (x y : Nat) : (x ^^^ y) % 2 + 2 * ((x &&& y) % 2) = x % 2 + y % 2 ∧ (x ||| y) % 2 + (x &&& y) % 2 = x % 2 + y % 2 := by
  rw [bit0 (x ^^^ y), bit0 (x &&& y), bit0 (x ||| y), bit0 x, bit0 y, Nat.testBit_xor, Nat.testBit_and, Nat.testBit_or]
  cases x.testBit 0 <;> cases y.testBit 0 <;> decide
theorem xor_and_add : ∀ x y : Nat, (x ^^^ y) + 2 * (x &&& y) = x + y ∧ (x ||| y) + (x &&& y) = x + y := by
  intro x
  induction x using Nat.strongRecOn with
  | ind x ih =>
    intro y
    by_cases h : x = 0
    · subst h; simp
    · obtain ⟨h1, h2⟩ := ih (x / 2) (by omega) (y / 2)
      obtain ⟨p1, p2, p3⟩ := parts2 x y
      obtain ⟨l1, l2⟩ := low2 x y
      rw [← p1, ← p2] at h1
      rw [← p3, ← p2] at h2
      omega
theorem xor_nat (a b : Nat) : Builtin.bitXor (a : Int) (b : Int) = ((a ^^^ b : Nat) : Int) := by
  rw [PyProof.Rows.bitXor_and, PyProof.Rows.bitAnd_pp (Int.natCast_nonneg _) (Int.natCast_nonneg _), Int.toNat_natCast, Int.toNat_natCast]
  have := (xor_and_add a b).1
  omega
theorem or_nat (a b : Nat) : Builtin.bitOr (a : Int) (b : Int) = ((a ||| b : Nat) : Int) := by
  rw [PyProof.Rows.bitOr_and, PyProof.Rows.bitAnd_pp (Int.natCast_nonneg _) (Int.natCast_nonneg _), Int.toNat_natCast, Int.toNat_natCast]
  have := (xor_and_add a b).2
  omega
theorem and_nat (a b : Nat) : Builtin.bitAnd (a : Int) (b : Int) = ((a &&& b : Nat) : Int) := by
  rw [PyProof.Rows.bitAnd_pp (Int.natCast_nonneg _) (Int.natCast_nonneg _), Int.toNat_natCast, Int.toNat_natCast]
end Gr

/-! THE BRIDGE: from a def's promise (the hand layer's FnOk) to the claim of a program against a Lean function. -/
namespace Br
open PySem PySem.Spec PyProof.Rows L2
open PySem.W (Codec OpenSpec WData)

/-- the arguments' kinds served: whole numbers, lists of these, lists of such lists -/
def small : Codec → Bool
  | .int _ _ => true
  | .list _ most c => decide (most ≤ 1048576) && small c
  | _ => false
/-- how an argument stands in the abstract heap -/
def Sees (K : PySem.W.Frag) (H : Hp) : (c : Codec) → c.denote → V → Prop
  | .int _ _ => fun z v => v = .int z
  | .list _ _ c => fun l v => ∃ a xs, v = .ref a ∧ SqL K H a xs ∧ Paired (fun y x => Sees K H c y x) l xs
  | _ => fun _ _ => False
def SeesAll (K : PySem.W.Frag) (H : Hp) : (cs : List Codec) → Codec.denoteAll cs → List V → Prop
  | [] => fun _ vs => vs = []
  | c :: cs => fun a vs => ∃ v r, vs = v :: r ∧ Sees K H c a.1 v ∧ SeesAll K H cs a.2 r

/-- every list of the heap that is no object of the module, known to the object -/
def Held (K : PySem.W.Frag) (h : Heap) (b : Addr) (vs : List Value) (xs : List V) : Prop :=
  K.lookup b = none ∧ h.get? b = some { cls := .type "list", data := .seq vs.toArray } ∧ Vals xs vs ∧ xs.length ≤ sizeLine
theorem Held.inj {K : PySem.W.Frag} {h : Heap} {b : Addr} {vs vs' : List Value} {xs xs' : List V} (x : Held K h b vs xs) (y : Held K h b vs' xs') : vs = vs' ∧ xs = xs' := by
  obtain ⟨_, e, r, _⟩ := x
  obtain ⟨_, e', r', _⟩ := y
  rw [e] at e'
  have q : (Data.seq vs.toArray : Data) = .seq vs'.toArray := congrArg Obj.data (Option.some.inj e')
  injection q with q1 _
  have z : vs = vs' := by simpa using congrArg Array.toList q1
  subst z
  exact ⟨rfl, r.inj r'⟩
open Classical in
noncomputable def hold (K : PySem.W.Frag) (h : Heap) : Hp := fun b =>
  if e : ∃ p : List Value × List V, Held K h b p.1 p.2 then some (.frz { cls := .type "list", data := .seq (Classical.choose e).1.toArray } (.lst (Classical.choose e).2)) else none
theorem hold_at {K : PySem.W.Frag} {h : Heap} {b : Addr} {vs : List Value} {xs : List V} (x : Held K h b vs xs) : hold K h b = some (.frz { cls := .type "list", data := .seq vs.toArray } (.lst xs)) := by
  have e : ∃ p : List Value × List V, Held K h b p.1 p.2 := ⟨(vs, xs), x⟩
  unfold hold
  rw [dif_pos e]
  obtain ⟨e1, e2⟩ := (Classical.choose_spec e).inj x
  rw [e1, e2]
theorem hold_of {K : PySem.W.Frag} {h : Heap} {b : Addr} {u : HO} (x : hold K h b = some u) : ∃ vs xs, u = .frz { cls := .type "list", data := .seq vs.toArray } (.lst xs) ∧ Held K h b vs xs := by
  unfold hold at x
  by_cases e : ∃ p : List Value × List V, Held K h b p.1 p.2
  · rw [dif_pos e] at x
    exact ⟨_, _, (Option.some.inj x).symm, Classical.choose_spec e⟩
  · rw [dif_neg e] at x
    cases x
theorem hold_sq {K : PySem.W.Frag} {h : Heap} {a : Addr} {vs : List Value} {xs : List V} (KX : K.In h) (e : h.get? a = some { cls := .type "list", data := .seq vs.toArray }) (r : Vals xs vs) (hz : xs.length ≤ sizeLine) : SqL K (hold K h) a xs := by
  cases hk : K.lookup a with
  | none => exact .inl (.inr ⟨_, hold_at ⟨hk, e, r, hz⟩⟩)
  | some o =>
    have e2 := KX a o hk
    rw [e] at e2
    cases e2
    exact .inr ⟨_, vs.toArray, _, hk, rfl, rfl, rfl, by rw [List.size_toArray, ← r.length]; exact hz, by simpa using r⟩
theorem sees_items {P : Params} {h : Heap} {K : PySem.W.Frag} {H : Hp} {c : Codec} (ih : ∀ (v : Value) (a : c.denote), c.within a = true → PySem.W.Well P h v (c.enc a) → ∃ x, RelV x v ∧ Sees K H c a x) :
    ∀ (l : List c.denote) (vs : List Value), l.all c.within = true → PySem.W.WellAll P h vs (l.map c.enc) → ∃ xs, Vals xs vs ∧ Paired (fun y x => Sees K H c y x) l xs
  | [], vs, _, w => by
    cases w
    exact ⟨[], .nil, .nil⟩
  | a :: l, vs, hw, w => by
    rw [List.all_cons, Bool.and_eq_true] at hw
    rw [List.map_cons] at w
    cases w with
    | cons w1 w2 =>
      obtain ⟨x, r, q⟩ := ih _ a hw.1 w1
      obtain ⟨xs, rs, qs⟩ := sees_items ih l _ hw.2 w2
      exact ⟨x :: xs, .cons r rs, .cons q qs⟩
theorem sees_of {P : Params} {h : Heap} {K : PySem.W.Frag} (KX : K.In h) : ∀ (c : Codec), small c = true → ∀ (v : Value) (a : c.denote), c.within a = true → PySem.W.Well P h v (c.enc a) → ∃ x, RelV x v ∧ Sees K (hold K h) c a x
  | .int lo hi, _, v, a, _, w => by
    have w' : PySem.W.Well P h v (WData.int a) := w
    cases w'
    exact ⟨.int a, ⟨_, rfl⟩, rfl⟩
  | .list least most c, hs, v, a, hw, w => by
    have hs' : (decide (most ≤ 1048576) && small c) = true := hs
    rw [Bool.and_eq_true, decide_eq_true_eq] at hs'
    have w' : PySem.W.Well P h v (WData.list (a.map c.enc)) := w
    have hw' : (Codec.inNat least most a.length && a.all c.within) = true := hw
    rw [Bool.and_eq_true] at hw'
    have hlen := Codec.inNat_iff.mp hw'.1
    cases w' with
    | list ho hall =>
      obtain ⟨xs, r, q⟩ := sees_items (fun v a => sees_of KX c hs'.2 v a) a _ hw'.2 hall
      have hl : xs.length ≤ sizeLine := by
        have e1 : a.length = xs.length := Paired.length q
        have e2 : sizeLine = 16777216 := by decide
        omega
      exact ⟨.ref _, rfl, _, xs, rfl, hold_sq KX ho r hl, q⟩
  | .unit, hs, _, _, _, _ => by cases hs
  | .bool, hs, _, _, _, _ => by cases hs
  | .nat _ _, hs, _, _, _, _ => by cases hs
  | .u8, hs, _, _, _, _ => by cases hs
  | .bytes _ _, hs, _, _, _, _ => by cases hs
  | .text _ _ _ _, hs, _, _, _, _ => by cases hs
  | .pair _ _, hs, _, _, _, _ => by cases hs
  | .triple _ _ _, hs, _, _, _, _ => by cases hs
  | .option _, hs, _, _, _, _ => by cases hs
theorem sees_all {P : Params} {h : Heap} {K : PySem.W.Frag} (KX : K.In h) : ∀ (cs : List Codec), cs.all small = true → ∀ (vs : List Value) (a : Codec.denoteAll cs), Codec.withinAll cs a = true → PySem.W.WellAll P h vs (Codec.encAll cs a) → ∃ xs, Vals xs vs ∧ SeesAll K (hold K h) cs a xs
  | [], _, vs, a, _, w => by
    have w' : PySem.W.WellAll P h vs [] := w
    cases w'
    exact ⟨[], .nil, rfl⟩
  | c :: cs, hs, vs, a, hw, w => by
    rw [List.all_cons, Bool.and_eq_true] at hs
    have w' : PySem.W.WellAll P h vs (c.enc a.1 :: Codec.encAll cs a.2) := w
    have hw' : (c.within a.1 && Codec.withinAll cs a.2) = true := hw
    rw [Bool.and_eq_true] at hw'
    cases w' with
    | cons w1 w2 =>
      obtain ⟨x, r, q⟩ := sees_of KX c hs.1 _ a.1 hw'.1 w1
      obtain ⟨xs, rs, qs⟩ := sees_all KX cs hs.2 _ a.2 hw'.2 w2
      exact ⟨x :: xs, .cons r rs, x, xs, rfl, q, qs⟩

theorem reads_ints {R : PySem.W.WRecords} {cl : Str → Option Addr} {h : Heap} : ∀ {ns : List Int} {its : List Value}, Vals (ns.map V.int) its → PySem.W.ReadsAllW R cl h its (ns.map WData.int) []
  | [], its, r => by
    cases r
    exact .nil
  | n :: ns, its, r => by
    rw [List.map_cons] at r
    cases r with
    | cons r1 r2 =>
      obtain ⟨t, rfl⟩ := r1
      exact PySem.W.ReadsAllW.cons (as := []) (bs := []) (.int _ _) (reads_ints r2)

/-- the wish of a call: a list of whole numbers -/
def Gives (ans : List Int) : VK := fun v H' => ∃ p, v = .ref p ∧ Rd H' p (.lst (ans.map V.int))

theorem spec_call {P : Program} {w : World} {K : PySem.W.Frag} {mg mb : Str → Option Value} {k : Nat} {fa : Addr} {fd : FuncData} {ps : List Str} {sp : Sp} {s₁ : Shared} {us : List Value} {xs : List V} {ans : List Int} {cl : Str → Option Addr}
    (KX : K.In s₁.heap) (hns : s₁.heap.Ns mainGlobals mg) (hb : s₁.heap.Ns builtinsNs mb) (hbb : ∀ x : Str, x ≠ "__name__" → mb x = bootBuiltins x) (hlim : s₁.heap.NoLimit) (hg : s₁.gens = #[]) (hr : Room k callerA)
    (F : ∀ base : Heap, K.In base → base.Ns mainGlobals mg → FnOk P w K mg base CX0 k fa fd ps sp) (hbind : BindsTo s₁ fd ⟨us, []⟩ (ps.zip us)) (hv : Vals xs us)
    (hsp : sp xs (hold K s₁.heap) (Gives ans) E0) :
    codeAny (model P w) callerA (.call (.ref fa) ⟨us, []⟩) (fun r s' => (∃ p as, r = .ok (.ret (.ref p)) ∧ PySem.W.ReadsW [] cl s'.heap (.ref p) (.list (ans.map WData.int)) as) ∧ OldK s₁.heap s'.heap ∧ s'.os = s₁.os ∧ AllBare s'.gens) s₁ := by
  generalize hH : hold K s₁.heap = H at hsp
  have hO : ∀ {b u}, H b = some u → ∃ vs xs, u = .frz { cls := .type "list", data := .seq vs.toArray } (.lst xs) ∧ Held K s₁.heap b vs xs := fun {b u} e => by
    rw [← hH] at e
    exact hold_of e
  have base_of : ∀ {b : Addr} {o : Obj}, s₁.heap.get? b = some o → H b = none → (hidT s₁.heap H).get? b = some o := fun e n => hidT_get e n
  have noA : ∀ {b : Addr} {o : Obj} {es : Array DictEntry} {ep : Nat}, s₁.heap.get? b = some o → o.data = .dict es ep → H b = none := fun {b o es ep} e d => by
    cases q : H b with
    | none => rfl
    | some u =>
      obtain ⟨vs, xs, _, _, e', _⟩ := hO q
      rw [e'] at e; cases e
      have d' : Data.seq vs.toArray _ = Data.dict es ep := d
      cases d'
  have nsK : ∀ {b : Addr} {m : Str → Option Value}, s₁.heap.Ns b m → (hidT s₁.heap H).Ns b m := fun {b m} ⟨o, es, ep, e, d, r⟩ => ⟨o, es, ep, base_of e (noA e d), d, r⟩
  have hKb : K.In (hidT s₁.heap H) := fun b o e => base_of (KX b o e) (by
    cases q : H b with
    | none => rfl
    | some u =>
      obtain ⟨vs, xs, _, k0, _⟩ := hO q
      rw [k0] at e; cases e)
  have hM : Mod K mg (hidT s₁.heap H) := ⟨hKb, nsK hns, ⟨mb, nsK hb, hbb⟩, let ⟨mc, h1, h2⟩ := hlim; ⟨mc, nsK h1, h2⟩⟩
  have hok : HOk P w H s₁.heap := fun b u e => by
    obtain ⟨vs, xs, rfl, _, e1, rv, hz⟩ := hO e
    exact ⟨e1, hz, vs, _, rv, e1⟩
  have e0 : Env0 P w K mg (hidT s₁.heap H) callerA [] s₁ H := ⟨rfl, hM, fun b o e => of_hidT e, Nat.le_of_eq (hidT_size _ _), trivial, fun b hb => absurd (show b ∈ ([] : List Addr) from hb) (by simp), hok, .of_eq hg⟩
  refine codeAny_mono ((F _ hKb (nsK hns)).run callerA [] s₁ H ⟨us, []⟩ us xs _ _ hr e0 hbind hv hsp) fun r s' h => ?_
  cases r with
  | error e => exact False.elim h
  | ok fl =>
    cases fl with
    | next => exact False.elim h
    | brk => exact False.elim h
    | cont => exact False.elim h
    | ret u =>
      obtain ⟨v, H', os, bare, un, hok', r', p, rfl, hp⟩ := h
      obtain rfl : u = Value.ref p := r'
      obtain ⟨_, its, n, rv, e1⟩ := hp.ok hok'
      refine ⟨⟨p, [p], rfl, .list e1 rfl rfl (reads_ints rv)⟩, OldK.of_keep fun b o e => ?_, os, bare⟩
      cases q : H b with
      | none => exact un.keep b o e q (by intro z; exact absurd (show b ∈ ([] : List Addr) from z) (by simp)) (by simp)
      | some u =>
        obtain ⟨vs, xs, rfl, _, e2, _⟩ := hO q
        have z2 := un.frzs b _ _ q
        obtain ⟨e3, _⟩ := hok' b _ z2
        rw [e2] at e; cases e
        exact e3

/-- the goal that k_headS leaves (case hc), from the promise of the function asked -/
theorem spec_walk {r : OpenSpec} {k : Nat} {q : Program} {loose : List Str} {XP : (Str → Option Value) → Heap → Prop} {YP : World → Heap → Prop} {d : DefRec} {K : Params → PySem.W.Frag} {ps : List Str} {sp : PySem.W.Frag → Sp} {ans : Codec.denoteAll r.args → List Int}
    (said : r.wellSaid = true) (hsm : r.args.all small = true) (hdf : d.params.defaults = []) (hr : Room k callerA)
    (hans : ∀ a, r.ret.enc (Codec.app r.args r.f a) = .list ((ans a).map WData.int))
    (hY : ∀ (w : World) (h : Heap), YP w h → (K w.params).In h)
    (F : ∀ (w : World) (mg : Str → Option Value) (fa : Addr) (h : Heap), (K w.params).In h → h.Ns mainGlobals mg → mg d.name = some (.ref fa) →
      ∃ fd : FuncData, Binds (K w.params) fd ps [] ∧ ∀ base : Heap, (K w.params).In base → base.Ns mainGlobals mg → FnOk r.prog w (K w.params) mg base CX0 k fa fd ps (sp (K w.params)))
    (hsp : ∀ (K : PySem.W.Frag) (H : Hp) (a : Codec.denoteAll r.args) (vs : List V), Codec.withinAll r.args a = true → Codec.app r.args r.asked a = true → SeesAll K H r.args a vs → sp K vs H (Gives (ans a)) E0) :
    PySem.W.WalkOS q loose XP YP r d [] (fun f vs => PySem.call f vs) := by
  intro w s₀ s₁ mg mb G Y fa o pm cd doc dV kV ho hd hcd hD hmg hg args vals as hpre hlay hrd hwl hlo
  obtain ⟨a, hwi, hask, rfl⟩ := (OpenSpec.pre_iff said args).mp hpre
  have KX := hY w _ Y
  obtain ⟨fd, hb, hF⟩ := F w mg fa _ KX G.T.g hmg
  obtain ⟨xs, rv, sees⟩ := sees_all KX r.args hsm vals a hwi hwl
  have S := hsp (K w.params) _ a xs hwi hask sees
  have hl : vals.length = ps.length := by
    rw [← rv.length]
    exact (hF _ KX G.T.g).len _ _ _ _ S
  have hbd : BindsTo s₁ fd ⟨vals, []⟩ (ps.zip vals) := by
    have := hb s₁ vals KX (by rw [List.append_nil]; exact hl)
    rw [List.append_nil] at this
    exact this
  refine PySem.W.enter_call (codeAny_mono (spec_call (cl := classAt s₀.heap) KX G.T.g G.T.b G.T.builtins G.T.nolimit hg hr hF hbd rv S) fun res s' hq => ?_)
  obtain ⟨⟨p, bs, rfl, rd⟩, h2, h3, h4⟩ := hq
  refine ⟨.inl ⟨.ref p, _, bs, rfl, PySem.W.osNone, rd, PySem.W.osPost ?_, fun z => absurd z Bool.false_ne_true⟩, h2, h3, h4⟩
  have := (OpenSpec.post_iff said hwi (.list ((ans a).map WData.int)) []).mpr (hans a).symm
  exact this
end Br

/-! WHAT THE LAYER LACKS: a table of whole numbers at the text's top; for over enumerate; standing promises. -/
namespace Br
open PySem PySem.Spec PyProof.Rows L2

/-! ### a dict of the module with whole numbers as keys -/
section
variable {X : Cx} {o i : Expr} {pos : Pos} {td ty : TE}
end

/-! ### for .. in enumerate(list), the list left as it is -/
theorem for_enum {K : PySem.W.Frag} {a : Addr} {xs : List V} {g : TG} {tb : TS} {D : Ends} {σ : L2.St} {H : Hp} (Pv : Nat → L2.St → Hp → Prop) (h0 : Pv 0 σ H) (hl : ∀ i σ H, i ≤ xs.length → Pv i σ H → SqL K H a xs)
    (hs : ∀ i x σ H T, xs[i]? = some x → Pv i σ H → H T = none → g (.ref T) σ (upd H T (.tup [.int (i : Nat), x])) fun σ2 H2 => tb { D with nx := Pv (i + 1), ct := Pv (i + 1), bk := D.nx } σ2 H2) (hd : ∀ σ H, Pv xs.length σ H → D.nx σ H) :
    ∃ W : Nat → Nat → L2.St → Hp → Prop, (∃ m, W 0 m σ H) ∧ ∀ i m σ H, W i m σ H →
      ((Ite K a).stop i H ∧ D.nx σ H) ∨ ((Ite K a).go i H ∧ ∃ N : L2.St → Hp → Prop, (∀ σ' H', N σ' H' → ∃ m', m' < m ∧ W (i + 1) m' σ' H') ∧ ∀ x H', (Ite K a).yld i H x H' → g x σ H' fun σ2 H2 => tb { D with nx := N, ct := N, bk := D.nx } σ2 H2) := by
  refine ⟨fun i m σ H => m = xs.length - i ∧ i ≤ xs.length ∧ Pv i σ H, ⟨xs.length, by simp, Nat.zero_le _, h0⟩, ?_⟩
  rintro i m σ H ⟨rfl, hi, p⟩
  have q := hl i σ H hi p
  by_cases hlt : i < xs.length
  · refine .inr ⟨⟨xs, xs[i], q, by simp [hlt]⟩, Pv (i + 1), fun σ' H' p' => ⟨xs.length - (i + 1), by omega, rfl, hlt, p'⟩, fun x H' y => ?_⟩
    obtain ⟨T, z, e, hT, e', y⟩ := y
    subst e e'
    exact hs i z σ H T (y xs q) p hT
  · have e : i = xs.length := by omega
    subst e
    exact .inl ⟨⟨xs, q, Nat.le_refl _⟩, hd σ H p⟩

/-! ### heaps that grow -/
theorem Same.upd_new {H : Hp} {p : Addr} {o : HO} (h : H p = none) : Same H (upd H p o) := fun b u e => by
  rw [upd_ne (ne_of_none e h)]
  exact e
theorem Same.upd2 {H H1 : Hp} {p : Addr} {o : HO} (s : Same H H1) (h : H p = none) : Same H (upd H1 p o) := fun b u e => by
  rw [upd_ne (ne_of_none e h)]
  exact s b u e
/-- the items of a list of whole numbers -/
theorem ints_get {ns : List Int} {i : Nat} {x : V} (h : (ns.map V.int)[i]? = some x) : ∃ z, ns[i]? = some z ∧ x = .int z := by
  rw [List.getElem?_map] at h
  cases e : ns[i]? with
  | none => rw [e] at h; cases h
  | some z => rw [e] at h; exact ⟨z, rfl, (Option.some.inj h).symm⟩
theorem get_ints {ns : List Int} {i : Nat} {z : Int} (h : ns[i]? = some z) : (ns.map V.int)[i]? = some (V.int z) := by
  rw [List.getElem?_map, h]
  rfl
/-- a request's list of whole numbers -/
theorem sees_ints {K : PySem.W.Frag} {H : Hp} {lo hi : Int} : ∀ {ns : List Int} {xs : List V}, Paired (fun (y : Int) x => Sees K H (.int lo hi) y x) ns xs → xs = ns.map V.int
  | _, _, .nil => rfl
  | _, _, .cons r t => by
    have r' := r
    rw [List.map_cons, ← sees_ints t]
    exact congrArg (· :: _) r'
theorem sees_list {K : PySem.W.Frag} {H : Hp} {least most : Nat} {lo hi : Int} {ns : List Int} {v : V} (h : Sees K H (.list least most (.int lo hi)) ns v) : ∃ a, v = .ref a ∧ SqL K H a (ns.map V.int) := by
  obtain ⟨a, xs, e, hq, r⟩ := h
  rw [sees_ints r] at hq
  exact ⟨a, e, hq⟩
end Br

/-! Loop forms that the layer lacks: a comprehension over reversed(list), over enumerate(list); for over zip(list, list). -/
namespace Br
open PySem PySem.Spec PyProof.Rows L2
/-- len(list), the rule's reading by K alone -/
def rLen (K : PySem.W.Frag) : List V → Hp → VK → Prop := fun xs H Q => ∃ p ys, xs = [V.ref p] ∧ (SqL K H p ys ∨ SqT K H p ys) ∧ Q (V.int ys.length) H
theorem call_len_K {X : Cx} : CallR X (.builtin "len") (rLen X.K) := call_len_seq
theorem lc_enum {K : PySem.W.Frag} {a : Addr} {xs : List V} {g : TG} {tt : TT} {te : TE} {vs : List Nat} {σ : L2.St} {H1 : Hp} {D : Addr} {Qd : Hp → Prop} (Pv : Nat → Hp → Prop) (h0 : Pv 0 (upd H1 D (.lst []))) (hl : ∀ i H, i ≤ xs.length → Pv i H → SqL K H a xs)
    (hs : ∀ i x H T, xs[i]? = some x → Pv i H → H T = none → g (.ref T) (wipe σ vs) (upd H T (.tup [.int (i : Nat), x])) fun σ2 H2 => wipe σ2 vs = wipe σ vs ∧ tt σ2 H2 fun b H3 =>
      if b = true then te σ2 H3 fun y H4 => ∃ acc, H4 D = some (.lst acc) ∧ acc.length < sizeLine ∧ Pv (i + 1) (upd H4 D (.lst (acc ++ [y]))) else Pv (i + 1) H3) (hd : ∀ H, Pv xs.length H → Qd H) :
    ∃ W : Nat → Nat → Hp → Prop, (∃ m, W 0 m (upd H1 D (.lst []))) ∧ ∀ i m H, W i m H →
      ((Ite K a).stop i H ∧ Qd H) ∨ ((Ite K a).go i H ∧ ∃ Nx : Hp → Prop, (∀ H', Nx H' → ∃ m', m' < m ∧ W (i + 1) m' H') ∧ ∀ x H', (Ite K a).yld i H x H' → g x (wipe σ vs) H' fun σ2 H2 => wipe σ2 vs = wipe σ vs ∧ tt σ2 H2 fun b H3 =>
        if b = true then te σ2 H3 fun y H4 => ∃ acc, H4 D = some (.lst acc) ∧ acc.length < sizeLine ∧ Nx (upd H4 D (.lst (acc ++ [y]))) else Nx H3) := by
  refine ⟨fun i m H => m = xs.length - i ∧ i ≤ xs.length ∧ Pv i H, ⟨xs.length, by simp, Nat.zero_le _, h0⟩, ?_⟩
  rintro i m H ⟨rfl, hi, p⟩
  have q := hl i H hi p
  by_cases hlt : i < xs.length
  · refine .inr ⟨⟨xs, xs[i], q, by simp [hlt]⟩, Pv (i + 1), fun H' p' => ⟨xs.length - (i + 1), by omega, rfl, hlt, p'⟩, fun x H' y => ?_⟩
    obtain ⟨T, z, e, hT, e', y⟩ := y
    subst e e'
    exact hs i z H T (y xs q) p hT
  · have e : i = xs.length := by omega
    subst e
    exact .inl ⟨⟨xs, q, Nat.le_refl _⟩, hd H p⟩
end Br

/-! Lists of counted numbers as values. -/
namespace Br
open PySem L2 Gr
def natV (l : List Nat) : List V := (l.map fun (n : Nat) => (n : Int)).map V.int
theorem natV_get {l : List Nat} {i x : Nat} (h : l[i]? = some x) : (natV l)[i]? = some (.int (x : Int)) := by
  unfold natV
  rw [List.getElem?_map, List.getElem?_map, h]
  rfl
theorem get_natV {l : List Nat} {i : Nat} {v : V} (h : (natV l)[i]? = some v) : ∃ x, l[i]? = some x ∧ v = .int ((x : Nat) : Int) := by
  unfold natV at h
  obtain ⟨z, hz, rfl⟩ := ints_get h
  rw [List.getElem?_map] at hz
  cases e : l[i]? with
  | none => rw [e] at hz; cases hz
  | some x => rw [e] at hz; exact ⟨x, rfl, congrArg V.int (Option.some.inj hz).symm⟩
theorem natV_len (l : List Nat) : (natV l).length = l.length := by unfold natV; simp
theorem natV_set (l : List Nat) (j x : Nat) : (natV l).set j (.int (x : Int)) = natV (l.set j x) := by
  unfold natV
  rw [List.map_set, List.map_set]
theorem natV_snoc (l : List Nat) (c : Nat) : natV l ++ [V.int (c : Int)] = natV (l ++ [c]) := by
  unfold natV
  rw [List.map_append, List.map_append]
  rfl
theorem zeros (k : Nat) : (List.replicate k [V.int 0]).flatten = natV (List.replicate k 0) := by
  induction k with
  | zero => rfl
  | succ k ih =>
    rw [List.replicate_succ, List.flatten_cons, ih]
    rfl
theorem sizeIs : sizeLine = 16777216 := by decide
/-- a list by place, of a place given as a whole number -/
theorem ixN_nat {n j : Nat} {z : Int} (e : z = (j : Int)) (h : j < n) : ixN n z = some j := by
  subst e
  unfold ixN
  rw [if_pos (by omega), if_pos (by omega)]
  congr 1
/-- xs[:m], xs[b:], xs[b:e] -/
theorem cut_take (xs : List V) {m : Int} (h : 0 ≤ m) : cutV xs none (some m) = xs.take m.toNat := by
  unfold cutV
  have e : m = ((m.toNat : Nat) : Int) := by omega
  rw [e, HT.sIx_nat, HT.sIx_none, List.drop_zero, Nat.sub_zero, Int.toNat_natCast]
  rw [List.take_eq_take_iff]
  omega
theorem cut_drop (xs : List V) {b : Int} (h : 0 ≤ b) : cutV xs (some b) none = xs.drop b.toNat := by
  unfold cutV
  have e : b = ((b.toNat : Nat) : Int) := by omega
  rw [e, HT.sIx_nat, HT.sIx_none, Int.toNat_natCast]
  by_cases hb : b.toNat ≤ xs.length
  · rw [Nat.min_eq_left hb, List.take_of_length_le (by rw [List.length_drop]; exact Nat.le_refl _)]
  · rw [Nat.min_eq_right (by omega), List.drop_eq_nil_of_le (Nat.le_refl _), List.drop_eq_nil_of_le (by omega), List.take_nil]
theorem cut_both (xs : List V) {b e : Int} (hb : 0 ≤ b) (he : b ≤ e) : cutV xs (some b) (some e) = (xs.drop b.toNat).take (e - b).toNat := by
  unfold cutV
  have e1 : b = ((b.toNat : Nat) : Int) := by omega
  have e2 : e = ((e.toNat : Nat) : Int) := by omega
  have e3 : (e - b).toNat = e.toNat - b.toNat := by omega
  rw [e3]
  rw [e1, e2, HT.sIx_nat, HT.sIx_nat, Int.toNat_natCast, Int.toNat_natCast]
  by_cases hb2 : b.toNat ≤ xs.length
  · rw [Nat.min_eq_left hb2, List.take_eq_take_iff, List.length_drop]
    omega
  · rw [List.drop_eq_nil_of_le (show xs.length ≤ min b.toNat xs.length by omega), List.drop_eq_nil_of_le (show xs.length ≤ b.toNat by omega), List.take_nil, List.take_nil]
theorem natV_take (l : List Nat) (k : Nat) : (natV l).take k = natV (l.take k) := by
  unfold natV
  rw [← List.map_take, ← List.map_take]
theorem natV_drop (l : List Nat) (k : Nat) : (natV l).drop k = natV (l.drop k) := by
  unfold natV
  rw [← List.map_drop, ← List.map_drop]
end Br

namespace Gr
def badQ (q : List Int) : Option Nat := q.findIdx? fun x => decide (x < 33 ∨ 126 < x)
theorem badQ_eq : ∀ {q : List Int}, Byt q → Sg42.badQuality (Sg42Neutral.bytesOf q) = badQ q := by
  intro q hb
  unfold Sg42.badQuality badQ Sg42Neutral.bytesOf
  rw [List.findIdx?_map]
  induction q with
  | nil => rfl
  | cons x r ih =>
    rw [List.findIdx?_cons, List.findIdx?_cons, ih fun y hy => hb y (List.mem_cons_of_mem _ hy)]
    have h := hb x List.mem_cons_self
    have e : (fun (c : UInt8) => decide (c < 33 ∨ 126 < c)) (UInt8.ofNat x.toNat) = decide (x < 33 ∨ 126 < x) := by
      have e1 : (UInt8.ofNat x.toNat < 33) ↔ x < 33 := by
        rw [UInt8.lt_iff_toNat_lt, u8 h]
        show x.toNat < 33 ↔ _
        omega
      have e2 : (126 < UInt8.ofNat x.toNat) ↔ 126 < x := by
        rw [UInt8.lt_iff_toNat_lt, u8 h]
        show 126 < x.toNat ↔ _
        omega
      simp only [e1, e2]
    show (if decide (UInt8.ofNat x.toNat < 33 ∨ 126 < UInt8.ofNat x.toNat) = true then _ else _) = _
    have e' : decide (UInt8.ofNat x.toNat < 33 ∨ 126 < UInt8.ofNat x.toNat) = decide (x < 33 ∨ 126 < x) := e
    rw [e']
end Gr

namespace Gr
open Sg42Neutral (bytesOf octets)
/-- the table of edits: i bases of a against j of b; z: what the first row holds -/
def tab (z : Nat → Nat) (a b : Nat → Nat) : Nat → Nat → Nat
  | i, 0 => i
  | 0, j + 1 => z (j + 1)
  | i + 1, j + 1 => min (min (tab z a b (i + 1) j + 1) (tab z a b i (j + 1) + 1)) (tab z a b i j + if b j = a i then 0 else 1)
  termination_by i j => i + j
theorem tab_i0 (z a b) (i : Nat) : tab z a b i 0 = i := by rw [tab]
theorem tab_0j (z a b) (j : Nat) : tab z a b 0 (j + 1) = z (j + 1) := by rw [tab]
theorem tab_ss (z a b) (i j : Nat) : tab z a b (i + 1) (j + 1) = min (min (tab z a b (i + 1) j + 1) (tab z a b i (j + 1) + 1)) (tab z a b i j + if b j = a i then 0 else 1) := by rw [tab]

theorem rowStep_eq (x : Nat) (old new : Nat → Nat) : ∀ (l : List Nat) (i : Nat), (∀ k y, l[k]? = some y → new (i + k + 1) = min (min (old (i + k + 1) + 1) (new (i + k) + 1)) (old (i + k) + if x = y then 0 else 1)) →
    Sg42.rowStep x (new i) (old i) ((List.range' (i + 1) l.length).map old) l = (List.range' (i + 1) l.length).map new
  | [], i, _ => rfl
  | y :: l, i, h => by
    have h0 := h 0 y rfl
    simp only [Nat.add_zero] at h0
    have ih := rowStep_eq x old new l (i + 1) fun k y' hk => by
      have := h (k + 1) y' (by simpa using hk)
      rw [show i + (k + 1) + 1 = i + 1 + k + 1 by omega, show i + (k + 1) = i + 1 + k by omega] at this
      exact this
    rw [List.length_cons, List.range'_succ, List.map_cons, List.map_cons]
    show (let c := min (min (old (i + 1) + 1) (new i + 1)) (old i + if x = y then 0 else 1)
      c :: Sg42.rowStep x c (old (i + 1)) ((List.range' (i + 1 + 1) l.length).map old) l) = _
    simp only [← h0]
    rw [ih]
theorem range_map_split (f : Nat → Nat) (n : Nat) : (List.range (n + 1)).map f = f 0 :: (List.range' 1 n).map f := by
  rw [List.range_eq_range', List.range'_succ]
  rfl
theorem column_eq (p : List Nat) (x first : Nat) (old new : Nat → Nat) (h0 : new 0 = first) (h : ∀ k y, p[k]? = some y → new (k + 1) = min (min (old (k + 1) + 1) (new k + 1)) (old k + if x = y then 0 else 1)) :
    Sg42.column p first ((List.range (p.length + 1)).map old) x = (List.range (p.length + 1)).map new := by
  unfold Sg42.column
  rw [range_map_split, range_map_split]
  show first :: Sg42.rowStep x first (old 0) ((List.range' 1 p.length).map old) p = _
  rw [← h0]
  have := rowStep_eq x old new p 0 fun k y hk => by
    have := h k y hk
    rw [Nat.zero_add]
    exact this
  rw [this]
theorem last_range (f : Nat → Nat) (n : Nat) : (((List.range (n + 1)).map f).getLast?).getD 0 = f n := by
  rw [List.range_succ, List.map_append]
  simp
theorem getD_of {l : List Nat} {k y : Nat} (h : l[k]? = some y) : l.getD k 0 = y := by
  rw [List.getD_eq_getElem?_getD, h]
  rfl
theorem tab_col (z : Nat → Nat) (p : List Nat) (b : Nat → Nat) (j x : Nat) (hx : b j = x) (first : Nat) (hf : first = z (j + 1)) :
    Sg42.column p first ((List.range (p.length + 1)).map fun i => tab z (p.getD · 0) b i j) x = (List.range (p.length + 1)).map fun i => tab z (p.getD · 0) b i (j + 1) := by
  refine column_eq p x first _ _ (by show tab z _ b 0 (j + 1) = first; rw [tab_0j, hf]) fun k y hk => ?_
  show tab z _ b (k + 1) (j + 1) = _
  rw [tab_ss, hx, getD_of hk]

/-! ### near -/
def nearT (g p : List Nat) (e : Nat) : Nat := tab (fun _ => 0) (p.getD · 0) (g.getD · 0) p.length e
theorem near_from (p g : List Nat) (k : Nat) : ∀ (l : List Nat) (j : Nat), l = g.drop j → j ≤ g.length →
    Sg42.nearFrom p k l j ((List.range (p.length + 1)).map fun i => tab (fun _ => 0) (p.getD · 0) (g.getD · 0) i j) = (List.range' (j + 1) l.length).filter fun e => decide (nearT g p e ≤ k)
  | [], j, hl, hj => rfl
  | y :: l, j, hl, hj => by
    have hlen := congrArg List.length hl
    rw [List.length_drop, List.length_cons] at hlen
    have hy : g[j]? = some y := by
      have := congrArg (fun l : List Nat => l[0]?) hl
      simp only [List.getElem?_drop, List.getElem?_cons_zero, Nat.add_zero] at this
      exact this.symm
    have ih := near_from p g k l (j + 1) (by rw [← List.drop_drop, ← hl]; rfl) (by omega)
    have ec := tab_col (fun _ => 0) p (g.getD · 0) j y (getD_of hy) 0 rfl
    show (let c := Sg42.column p 0 ((List.range (p.length + 1)).map fun i => tab (fun _ => 0) (p.getD · 0) (g.getD · 0) i j) y
      let rest := Sg42.nearFrom p k l (j + 1) c
      if (c.getLast?).getD 0 ≤ k then (j + 1) :: rest else rest) = _
    simp only [ec, ih, last_range]
    rw [List.length_cons, List.range'_succ, List.filter_cons]
    unfold nearT
    by_cases h : tab (fun _ => 0) (p.getD · 0) (g.getD · 0) p.length (j + 1) ≤ k
    · rw [if_pos h, if_pos (decide_eq_true h)]
    · rw [if_neg h, if_neg (by rw [decide_eq_false h]; decide)]
theorem near_eq (g p : List Nat) (k : Nat) : Sg42.near g p k = (List.range' 1 g.length).filter fun e => decide (nearT g p e ≤ k) := by
  unfold Sg42.near
  have e : List.range (p.length + 1) = (List.range (p.length + 1)).map fun i => tab (fun _ => 0) (p.getD · 0) (g.getD · 0) i 0 := by
    refine (List.ext_getElem (by simp) fun i h1 h2 => ?_)
    rw [List.getElem_map, tab_i0]
  rw [e, near_from p g k g 0 rfl (Nat.zero_le _)]
end Gr

namespace Gr
/-- how long two rows are the same from their beginnings on -/
def lcp : List Nat → List Nat → Nat
  | x :: a, y :: b => if x = y then lcp a b + 1 else 0
  | _, _ => 0
theorem lcp_le : ∀ a b : List Nat, lcp a b ≤ a.length ∧ lcp a b ≤ b.length
  | [], _ => ⟨Nat.zero_le _, Nat.zero_le _⟩
  | _ :: _, [] => ⟨Nat.zero_le _, Nat.zero_le _⟩
  | x :: a, y :: b => by
    have := lcp_le a b
    unfold lcp
    rw [List.length_cons, List.length_cons]
    split <;> omega
theorem take_lcp : ∀ {a b : List Nat} {n : Nat}, n ≤ a.length → n ≤ b.length → (a.take n = b.take n ↔ n ≤ lcp a b)
  | _, _, 0, _, _ => by simp
  | [], _, n + 1, h, _ => by simp at h
  | _ :: _, [], n + 1, _, h => by simp at h
  | x :: a, y :: b, n + 1, h1, h2 => by
    have ih := take_lcp (a := a) (b := b) (n := n) (by simpa using h1) (by simpa using h2)
    rw [List.take_succ_cons, List.take_succ_cons]
    unfold lcp
    by_cases e : x = y
    · subst e
      rw [if_pos rfl]
      constructor
      · intro z
        have := ih.mp (List.cons.inj z).2
        omega
      · intro z
        rw [ih.mpr (by omega)]
    · rw [if_neg e]
      constructor
      · intro z; exact absurd (List.cons.inj z).1 e
      · intro z; omega
theorem isAt_iff {g p : List Nat} {i : Nat} : Sg42.isAt g p i = true ↔ i + p.length ≤ g.length ∧ p.length ≤ lcp (g.drop i) p := by
  unfold Sg42.isAt
  rw [Bool.and_eq_true, decide_eq_true_eq, beq_iff_eq]
  constructor
  · rintro ⟨h1, h2⟩
    refine ⟨h2, (take_lcp (by rw [List.length_drop]; omega) (Nat.le_refl _)).mp ?_⟩
    rw [List.take_length]
    exact h1
  · rintro ⟨h1, h2⟩
    refine ⟨?_, h1⟩
    have := (take_lcp (a := g.drop i) (b := p) (n := p.length) (by rw [List.length_drop]; omega) (Nat.le_refl _)).mpr h2
    rw [List.take_length] at this
    exact this
theorem occurs_iff {g p : List Nat} {n : Nat} (hn : n ≤ p.length) : Sg42.occurs g (p.take n) = true ↔ n = 0 ∨ ∃ i, i < g.length ∧ n ≤ lcp (g.drop i) p := by
  have hl : (p.take n).length = n := by rw [List.length_take]; omega
  unfold Sg42.occurs
  rw [Bool.or_eq_true]
  constructor
  · rintro (h | h)
    · left
      have : p.take n = [] := by simpa using h
      rw [this] at hl
      exact hl.symm
    · right
      have hne : Sg42.places g (p.take n) ≠ [] := by simpa using h
      obtain ⟨i, hi⟩ := List.exists_mem_of_ne_nil _ hne
      unfold Sg42.places at hi
      rw [List.mem_filter, List.mem_range, isAt_iff, hl] at hi
      refine ⟨i, hi.1, ?_⟩
      obtain ⟨_, h1, h2⟩ := hi
      have e := (take_lcp (a := g.drop i) (b := p.take n) (n := n) (by rw [List.length_drop]; omega) (by omega)).mpr h2
      rw [List.take_take, Nat.min_self] at e
      exact (take_lcp (by rw [List.length_drop]; omega) hn).mp e
  · rintro (h | ⟨i, hi, h⟩)
    · left; subst h; simp
    · by_cases h0 : n = 0
      · left; subst h0; simp
      · right
        have hle := lcp_le (g.drop i) p
        rw [List.length_drop] at hle
        have e := (take_lcp (a := g.drop i) (b := p) (n := n) (by rw [List.length_drop]; omega) hn).mpr h
        have m : i ∈ Sg42.places g (p.take n) := by
          unfold Sg42.places
          rw [List.mem_filter, List.mem_range, isAt_iff, hl]
          refine ⟨hi, by omega, (take_lcp (by rw [List.length_drop]; omega) (by omega)).mp ?_⟩
          rw [List.take_take, Nat.min_self]
          exact e
        have : Sg42.places g (p.take n) ≠ [] := List.ne_nil_of_mem m
        simpa using this
theorem foldl_max_spec : ∀ (l : List Nat) (m : Nat), m ≤ l.foldl max m ∧ (∀ x ∈ l, x ≤ l.foldl max m) ∧ (l.foldl max m = m ∨ l.foldl max m ∈ l)
  | [], m => ⟨Nat.le_refl _, fun _ h => (nomatch h), .inl rfl⟩
  | x :: l, m => by
    obtain ⟨h1, h2, h3⟩ := foldl_max_spec l (max m x)
    rw [List.foldl_cons]
    refine ⟨by omega, fun y hy => ?_, ?_⟩
    · rcases List.mem_cons.mp hy with e | e
      · subst e; omega
      · exact h2 y e
    · rcases h3 with e | e
      · rw [e]
        by_cases c : x ≤ m
        · rw [Nat.max_eq_left c]; exact .inl rfl
        · rw [Nat.max_eq_right (by omega)]; exact .inr List.mem_cons_self
      · exact .inr (List.mem_cons_of_mem _ e)
/-- m is how long the longest beginning of p that stands in g is -/
structure Longest (g p : List Nat) (m : Nat) : Prop where
  ge : ∀ i, i < g.length → lcp (g.drop i) p ≤ m
  at_ : m = 0 ∨ ∃ i, i < g.length ∧ lcp (g.drop i) p = m
theorem Longest.unique {g p : List Nat} {m m' : Nat} (a : Longest g p m) (b : Longest g p m') : m = m' := by
  have h1 : m ≤ m' := by
    rcases a.at_ with e | ⟨i, hi, e⟩
    · omega
    · have := b.ge i hi; omega
  have h2 : m' ≤ m := by
    rcases b.at_ with e | ⟨i, hi, e⟩
    · omega
    · have := a.ge i hi; omega
  omega
theorem longest_is (g p : List Nat) : Longest g p (Sg42.longest g p) := by
  unfold Sg42.longest
  obtain ⟨h1, h2, h3⟩ := foldl_max_spec ((List.range (p.length + 1)).filter fun n => Sg42.occurs g (p.take n)) 0
  refine ⟨fun i hi => ?_, ?_⟩
  · refine h2 _ (List.mem_filter.mpr ⟨List.mem_range.mpr ?_, ?_⟩)
    · have := (lcp_le (g.drop i) p).2; omega
    · exact (occurs_iff (lcp_le _ _).2).mpr (.inr ⟨i, hi, Nat.le_refl _⟩)
  · rcases h3 with e | e
    · exact .inl e
    · obtain ⟨m1, m2⟩ := List.mem_filter.mp e
      have m1 := List.mem_range.mp m1
      rcases (occurs_iff (by omega)).mp m2 with z | ⟨i, hi, z⟩
      · exact .inl z
      · right
        refine ⟨i, hi, ?_⟩
        have := h2 (lcp (g.drop i) p) (List.mem_filter.mpr ⟨List.mem_range.mpr (by have := (lcp_le (g.drop i) p).2; omega), (occurs_iff (lcp_le _ _).2).mpr (.inr ⟨i, hi, Nat.le_refl _⟩)⟩)
        omega
theorem longest_eq {g p : List Nat} {m : Nat} (h : Longest g p m) : Sg42.longest g p = m := (longest_is g p).unique h
end Gr

namespace Gr
open Sg42 (Cell Scores edge score)
/-- one cell out of its three neighbours: left (same base of a), up, across -/
def cellOf (s : Scores) (x y : Nat) (left up diag : Cell) : Cell :=
  ⟨max (max 0 (diag.h + score s x y)) (max (max (left.h - s.gap - s.more) (left.d - s.more)) (max (up.h - s.gap - s.more) (up.i - s.more))),
    max (left.h - s.gap - s.more) (left.d - s.more), max (up.h - s.gap - s.more) (up.i - s.more)⟩
def cell (s : Scores) (a b : Nat → Nat) : Nat → Nat → Cell
  | _, 0 => edge
  | 0, _ + 1 => edge
  | i + 1, j + 1 => cellOf s (a i) (b j) (cell s a b (i + 1) j) (cell s a b i (j + 1)) (cell s a b i j)
  termination_by i j => i + j
theorem cell_i0 (s a b) (i : Nat) : cell s a b i 0 = edge := by rw [cell]
theorem cell_0j (s a b) (j : Nat) : cell s a b 0 j = edge := by
  cases j with
  | zero => rw [cell]
  | succ j => rw [cell]
theorem cell_ss (s a b) (i j : Nat) : cell s a b (i + 1) (j + 1) = cellOf s (a i) (b j) (cell s a b (i + 1) j) (cell s a b i (j + 1)) (cell s a b i j) := by rw [cell]
theorem cells_eq (s : Scores) (x : Nat) (old new : Nat → Cell) : ∀ (l : List Nat) (j : Nat), (∀ k y, l[k]? = some y → new (j + k + 1) = cellOf s x y (new (j + k)) (old (j + k + 1)) (old (j + k))) →
    Sg42.cells s x (new j) (old j) ((List.range' (j + 1) l.length).map old) l = (List.range' (j + 1) l.length).map new
  | [], j, _ => rfl
  | y :: l, j, h => by
    have h0 := h 0 y rfl
    simp only [Nat.add_zero] at h0
    have ih := cells_eq s x old new l (j + 1) fun k y' hk => by
      have := h (k + 1) y' (by simpa using hk)
      rw [show j + (k + 1) + 1 = j + 1 + k + 1 by omega, show j + (k + 1) = j + 1 + k by omega] at this
      exact this
    rw [List.length_cons, List.range'_succ, List.map_cons, List.map_cons]
    show cellOf s x y (new j) (old (j + 1)) (old j) :: Sg42.cells s x (cellOf s x y (new j) (old (j + 1)) (old j)) (old (j + 1)) ((List.range' (j + 1 + 1) l.length).map old) l = _
    rw [← h0, ih]
theorem range_split {α : Type} (f : Nat → α) (n : Nat) : (List.range (n + 1)).map f = f 0 :: (List.range' 1 n).map f := by
  rw [List.range_eq_range', List.range'_succ]
  rfl
def rowOf (s : Scores) (a b : List Nat) (i : Nat) : List Cell := (List.range (b.length + 1)).map fun j => cell s (a.getD · 0) (b.getD · 0) i j
theorem table_fold (s : Scores) (a b : List Nat) : ∀ (l : List Nat) (i : Nat), l = a.drop i → i ≤ a.length →
    l.foldl (fun (t : List (List Cell)) (x : Nat) => let old := t.headD []
      (edge :: Sg42.cells s x edge (old.headD edge) old.tail b) :: t) ((List.range (i + 1)).map (rowOf s a b)).reverse = ((List.range (a.length + 1)).map (rowOf s a b)).reverse
  | [], i, hl, hi => by
    have : i = a.length := by
      have := congrArg List.length hl
      rw [List.length_drop] at this
      simp at this
      omega
    rw [this]
    rfl
  | x :: l, i, hl, hi => by
    have hlen := congrArg List.length hl
    rw [List.length_drop, List.length_cons] at hlen
    have hx : a[i]? = some x := by
      have := congrArg (fun l : List Nat => l[0]?) hl
      simp only [List.getElem?_drop, List.getElem?_cons_zero, Nat.add_zero] at this
      exact this.symm
    rw [List.foldl_cons]
    have e1 : ((List.range (i + 1)).map (rowOf s a b)).reverse = rowOf s a b i :: ((List.range i).map (rowOf s a b)).reverse := by
      rw [List.range_succ, List.map_append, List.reverse_append]
      rfl
    have e2 : edge :: Sg42.cells s x edge ((rowOf s a b i).headD edge) (rowOf s a b i).tail b = rowOf s a b (i + 1) := by
      have r0 : rowOf s a b i = edge :: (List.range' 1 b.length).map fun j => cell s (a.getD · 0) (b.getD · 0) i j := by
        unfold rowOf
        rw [range_split, cell_i0]
      have r1 : rowOf s a b (i + 1) = edge :: (List.range' 1 b.length).map fun j => cell s (a.getD · 0) (b.getD · 0) (i + 1) j := by
        unfold rowOf
        rw [range_split, cell_i0]
      rw [r0, r1]
      show edge :: Sg42.cells s x edge edge ((List.range' 1 b.length).map fun j => cell s (a.getD · 0) (b.getD · 0) i j) b = _
      have q := cells_eq s x (fun j => cell s (a.getD · 0) (b.getD · 0) i j) (fun j => cell s (a.getD · 0) (b.getD · 0) (i + 1) j) b 0 fun k y hk => by
        show cell s _ _ (i + 1) (0 + k + 1) = _
        rw [cell_ss, getD_of hx, Nat.zero_add, getD_of hk]
      simp only [cell_i0, Nat.zero_add] at q
      rw [q]
    have e3 : ((List.range (i + 1 + 1)).map (rowOf s a b)).reverse = rowOf s a b (i + 1) :: ((List.range (i + 1)).map (rowOf s a b)).reverse := by
      rw [List.range_succ, List.map_append, List.reverse_append]
      rfl
    have step : (let old := (((List.range (i + 1)).map (rowOf s a b)).reverse).headD []
      (edge :: Sg42.cells s x edge (old.headD edge) old.tail b) :: ((List.range (i + 1)).map (rowOf s a b)).reverse) = ((List.range (i + 1 + 1)).map (rowOf s a b)).reverse := by
      rw [e3, ← e2]
      rw [e1]
      rfl
    rw [step]
    exact table_fold s a b l (i + 1) (by rw [← List.drop_drop, ← hl]; rfl) (by omega)
theorem table_eq (s : Scores) (a b : List Nat) : Sg42.table s a b = (List.range (a.length + 1)).map (rowOf s a b) := by
  unfold Sg42.table
  have e : [List.replicate (b.length + 1) edge] = ((List.range (0 + 1)).map (rowOf s a b)).reverse := by
    show _ = [rowOf s a b 0]
    congr 1
    unfold rowOf
    refine List.ext_getElem (by simp) fun i h1 h2 => ?_
    rw [List.getElem_map, cell_0j, List.getElem_replicate]
  rw [e, table_fold s a b a 0 rfl (Nat.zero_le _), List.reverse_reverse]
theorem cellAt_eq (s : Scores) (a b : List Nat) {i j : Nat} (hi : i ≤ a.length) (hj : j ≤ b.length) : Sg42.cellAt (Sg42.table s a b) i j = cell s (a.getD · 0) (b.getD · 0) i j := by
  unfold Sg42.cellAt
  rw [table_eq, List.getElem?_map, List.getElem?_range (by omega)]
  show (rowOf s a b i).getD j edge = _
  unfold rowOf
  rw [List.getD_eq_getElem?_getD, List.getElem?_map, List.getElem?_range (by omega)]
  rfl
theorem cell_nonneg (s a b) (i j : Nat) : 0 ≤ (cell s a b i j).h := by
  cases j with
  | zero => rw [cell_i0]; exact Int.le_refl 0
  | succ j =>
    cases i with
    | zero => rw [cell_0j]; exact Int.le_refl 0
    | succ i =>
      rw [cell_ss]
      unfold cellOf
      show 0 ≤ max (max 0 _) _
      omega
/-- the first of the greatest, strictly better each time -/
def firstMax {κ : Type} (val : κ → Int) (r : Int × κ) (k : κ) : Int × κ := if r.1 < val k then (val k, k) else r
/-- what a walk over the places in their order leaves: 0 and the start, or the first place of the greatest worth -/
structure FirstBest {κ : Type} (val : κ → Int) (l : List κ) (z : κ) (r : Int × κ) : Prop where
  or : (r = (0, z) ∧ ∀ k ∈ l, val k ≤ 0) ∨ (0 < r.1 ∧ r.1 = val r.2 ∧ ∃ p q, l = p ++ r.2 :: q ∧ (∀ k ∈ p, val k < r.1) ∧ ∀ k ∈ q, val k ≤ r.1)
theorem FirstBest.nil {κ : Type} (val : κ → Int) (z : κ) : FirstBest val [] z (0, z) := ⟨.inl ⟨rfl, fun _ h => nomatch h⟩⟩
theorem FirstBest.snoc {κ : Type} {val : κ → Int} {l : List κ} {z : κ} {r : Int × κ} (B : FirstBest val l z r) (k : κ) : FirstBest val (l ++ [k]) z (firstMax val r k) := by
  unfold firstMax
  by_cases h : r.1 < val k
  · rw [if_pos h]
    refine ⟨.inr ⟨?_, rfl, l, [], rfl, fun x hx => ?_, fun _ z => nomatch z⟩⟩
    · show 0 < val k
      rcases B.or with ⟨e, _⟩ | ⟨h1, _⟩
      · rw [e] at h; exact h
      · omega
    · show val x < val k
      rcases B.or with ⟨e, h1⟩ | ⟨h0, h1, p, q, e, hp, hq⟩
      · rw [e] at h
        have := h1 x hx
        have h' : (0 : Int) < val k := h
        omega
      · rw [e] at hx
        rcases List.mem_append.mp hx with m | m
        · have := hp x m; omega
        · rcases List.mem_cons.mp m with m | m
          · subst m; omega
          · have := hq x m; omega
  · rw [if_neg h]
    rcases B.or with ⟨e, h1⟩ | ⟨h0, h1, p, q, e, hp, hq⟩
    · refine ⟨.inl ⟨e, fun x hx => ?_⟩⟩
      rcases List.mem_append.mp hx with m | m
      · exact h1 x m
      · rw [List.mem_singleton.mp m]
        rw [e] at h
        have h' : ¬ (0 : Int) < val k := h
        omega
    · refine ⟨.inr ⟨h0, h1, p, q ++ [k], by rw [e]; simp, hp, fun x hx => ?_⟩⟩
      rcases List.mem_append.mp hx with m | m
      · exact hq x m
      · rw [List.mem_singleton.mp m]; omega
theorem FirstBest.fold {κ : Type} (val : κ → Int) (z : κ) : ∀ (l pre : List κ) (r : Int × κ), FirstBest val pre z r → FirstBest val (pre ++ l) z (l.foldl (firstMax val) r)
  | [], pre, r, B => by rw [List.append_nil]; exact B
  | k :: l, pre, r, B => by
    have := FirstBest.fold val z l (pre ++ [k]) _ (B.snoc k)
    rw [List.append_assoc] at this
    exact this
/-- the order in which ends are looked at: b's place first, then a's -/
def ends (n m : Nat) : List (Nat × Nat) := (List.range (m + 1)).flatMap fun j => (List.range (n + 1)).map fun i => (i, j)
theorem foldl_flatMap' {α β γ : Type} (f : γ → β → γ) (g : α → List β) : ∀ (l : List α) (r : γ), (l.flatMap g).foldl f r = l.foldl (fun r a => (g a).foldl f r) r
  | [], _ => rfl
  | a :: l, r => by
    rw [List.flatMap_cons, List.foldl_append, List.foldl_cons, foldl_flatMap' f g l]
theorem foldl_congr' {α γ : Type} {f g : γ → α → γ} : ∀ (l : List α) (r : γ), (∀ x ∈ l, ∀ r, f r x = g r x) → l.foldl f r = l.foldl g r
  | [], _, _ => rfl
  | a :: l, r, h => by
    rw [List.foldl_cons, List.foldl_cons, h a List.mem_cons_self, foldl_congr' l _ fun x hx => h x (List.mem_cons_of_mem _ hx)]
theorem best_eq (s : Scores) (a b : List Nat) : FirstBest (fun k : Nat × Nat => (cell s (a.getD · 0) (b.getD · 0) k.1 k.2).h) (ends a.length b.length) (0, 0) (Sg42.best (Sg42.table s a b) a.length b.length) := by
  have e : Sg42.best (Sg42.table s a b) a.length b.length = (ends a.length b.length).foldl (firstMax fun k : Nat × Nat => (cell s (a.getD · 0) (b.getD · 0) k.1 k.2).h) (0, 0, 0) := by
    unfold Sg42.best ends
    rw [foldl_flatMap']
    refine foldl_congr' _ _ fun j hj r => ?_
    rw [List.foldl_map]
    refine foldl_congr' _ _ fun i hi r => ?_
    have h1 := List.mem_range.mp hj
    have h2 := List.mem_range.mp hi
    rw [cellAt_eq s a b (by omega) (by omega)]
    unfold firstMax
    rfl
  rw [e]
  have := FirstBest.fold (fun k : Nat × Nat => (cell s (a.getD · 0) (b.getD · 0) k.1 k.2).h) (0, 0) (ends a.length b.length) [] _ (FirstBest.nil _ _)
  rw [List.nil_append] at this
  exact this
end Gr

namespace Gr
open Sg42 (Cell Scores edge score In)
section
variable (s : Scores) (a b : Nat → Nat)
/-- the way back over cells by places -/
def wb : Nat → In → Nat → Nat → List UInt8 → Nat × Nat × List UInt8
  | 0, _, i, j, w => (i, j, w)
  | f + 1, .h, i, j, w =>
    if (cell s a b i j).h = 0 ∨ i = 0 ∨ j = 0 then (i, j, w)
    else if (cell s a b i j).h = (cell s a b (i - 1) (j - 1)).h + score s (a (i - 1)) (b (j - 1)) then wb f .h (i - 1) (j - 1) (77 :: w)
    else if (cell s a b i j).h = (cell s a b i j).d then wb f .d i j w
    else wb f .i i j w
  | f + 1, .d, i, j, w => wb f (if (cell s a b i j).d = (cell s a b i (j - 1)).h - s.gap - s.more then .h else .d) i (j - 1) (68 :: w)
  | f + 1, .i, i, j, w => wb f (if (cell s a b i j).i = (cell s a b (i - 1) j).h - s.gap - s.more then .h else .i) (i - 1) j (73 :: w)
end
theorem wayBack_eq (s : Scores) (a b : List Nat) : ∀ (f : Nat) (st : In) (i j : Nat) (w : List UInt8), i ≤ a.length → j ≤ b.length →
    Sg42.wayBack s a b (Sg42.table s a b) f st i j w = wb s (a.getD · 0) (b.getD · 0) f st i j w
  | 0, _, _, _, _, _, _ => rfl
  | f + 1, .h, i, j, w, hi, hj => by
    have e1 := cellAt_eq s a b hi hj
    have e2 := cellAt_eq s a b (show i - 1 ≤ a.length by omega) (show j - 1 ≤ b.length by omega)
    show (if (Sg42.cellAt (Sg42.table s a b) i j).h = 0 ∨ i = 0 ∨ j = 0 then (i, j, w)
      else if (Sg42.cellAt (Sg42.table s a b) i j).h = (Sg42.cellAt (Sg42.table s a b) (i - 1) (j - 1)).h + score s (a.getD (i - 1) 0) (b.getD (j - 1) 0) then Sg42.wayBack s a b (Sg42.table s a b) f .h (i - 1) (j - 1) (77 :: w)
      else if (Sg42.cellAt (Sg42.table s a b) i j).h = (Sg42.cellAt (Sg42.table s a b) i j).d then Sg42.wayBack s a b (Sg42.table s a b) f .d i j w
      else Sg42.wayBack s a b (Sg42.table s a b) f .i i j w) = _
    rw [e1, e2, wayBack_eq s a b f .h (i - 1) (j - 1) _ (by omega) (by omega), wayBack_eq s a b f .d i j w hi hj, wayBack_eq s a b f .i i j w hi hj]
    rfl
  | f + 1, .d, i, j, w, hi, hj => by
    have e1 := cellAt_eq s a b hi hj
    have e2 := cellAt_eq s a b hi (show j - 1 ≤ b.length by omega)
    show Sg42.wayBack s a b (Sg42.table s a b) f (if (Sg42.cellAt (Sg42.table s a b) i j).d = (Sg42.cellAt (Sg42.table s a b) i (j - 1)).h - s.gap - s.more then .h else .d) i (j - 1) (68 :: w) = _
    rw [e1, e2, wayBack_eq s a b f _ i (j - 1) _ hi (by omega)]
    rfl
  | f + 1, .i, i, j, w, hi, hj => by
    have e1 := cellAt_eq s a b hi hj
    have e2 := cellAt_eq s a b (show i - 1 ≤ a.length by omega) hj
    show Sg42.wayBack s a b (Sg42.table s a b) f (if (Sg42.cellAt (Sg42.table s a b) i j).i = (Sg42.cellAt (Sg42.table s a b) (i - 1) j).h - s.gap - s.more then .h else .i) (i - 1) j (73 :: w) = _
    rw [e1, e2, wayBack_eq s a b f _ (i - 1) j _ (by omega) hj]
    rfl
section
variable {s : Scores} {a b : Nat → Nat}
/-- where a way back may stand -/
def Stands : In → Nat → Nat → Prop
  | .h, _, _ => True
  | .d, i, j => 1 ≤ i ∧ 1 ≤ j
  | .i, i, j => 1 ≤ i ∧ 1 ≤ j
def mu : In → Nat → Nat → Nat
  | .h, i, j => 2 * (i + j) + 1
  | .d, i, j => 2 * (i + j)
  | .i, i, j => 2 * (i + j)
theorem d_first (hg : s.gap ≤ 127) (i : Nat) : (cell s a b (i + 1) 1).d = (cell s a b (i + 1) 0).h - s.gap - s.more := by
  have e : cell s a b (i + 1) 1 = _ := cell_ss s a b i 0
  rw [e, cell_i0]
  unfold cellOf edge
  show max (0 - (s.gap : Int) - s.more) (Sg42.LOW - s.more) = 0 - (s.gap : Int) - s.more
  unfold Sg42.LOW
  omega
theorem i_first (hg : s.gap ≤ 127) (j : Nat) : (cell s a b 1 (j + 1)).i = (cell s a b 0 (j + 1)).h - s.gap - s.more := by
  have e : cell s a b 1 (j + 1) = _ := cell_ss s a b 0 j
  rw [e, cell_0j, cell_0j]
  unfold cellOf edge
  show max (0 - (s.gap : Int) - s.more) (Sg42.LOW - s.more) = 0 - (s.gap : Int) - s.more
  unfold Sg42.LOW
  omega
theorem stands_d (hg : s.gap ≤ 127) {i j : Nat} (h : Stands .d i j) : Stands (if (cell s a b i j).d = (cell s a b i (j - 1)).h - s.gap - s.more then .h else .d) i (j - 1) := by
  obtain ⟨h1, h2⟩ := h
  by_cases c : (cell s a b i j).d = (cell s a b i (j - 1)).h - s.gap - s.more
  · rw [if_pos c]; trivial
  · rw [if_neg c]
    refine ⟨h1, ?_⟩
    by_cases z : j = 1
    · subst z
      obtain ⟨i', rfl⟩ : ∃ i', i = i' + 1 := ⟨i - 1, by omega⟩
      exact absurd (d_first hg i') c
    · omega
theorem stands_i (hg : s.gap ≤ 127) {i j : Nat} (h : Stands .i i j) : Stands (if (cell s a b i j).i = (cell s a b (i - 1) j).h - s.gap - s.more then .h else .i) (i - 1) j := by
  obtain ⟨h1, h2⟩ := h
  by_cases c : (cell s a b i j).i = (cell s a b (i - 1) j).h - s.gap - s.more
  · rw [if_pos c]; trivial
  · rw [if_neg c]
    refine ⟨?_, h2⟩
    by_cases z : i = 1
    · subst z
      obtain ⟨j', rfl⟩ : ∃ j', j = j' + 1 := ⟨j - 1, by omega⟩
      exact absurd (i_first hg j') c
    · omega
theorem mu_d {i j : Nat} (h : Stands .d i j) (st : In) : mu st i (j - 1) < mu .d i j := by
  obtain ⟨h1, h2⟩ := h
  cases st <;> (unfold mu; simp only; omega)
theorem mu_i {i j : Nat} (h : Stands .i i j) (st : In) : mu st (i - 1) j < mu .i i j := by
  obtain ⟨h1, h2⟩ := h
  cases st <;> (unfold mu; simp only; omega)
/-- more fuel than is wanted changes nothing -/
theorem wb_fuel (hg : s.gap ≤ 127) : ∀ (f g : Nat) (st : In) (i j : Nat) (w : List UInt8), Stands st i j → mu st i j ≤ f → mu st i j ≤ g → wb s a b f st i j w = wb s a b g st i j w
  | 0, g, st, i, j, w, hs, hf, hg' => by
    cases st with
    | h => unfold mu at hf; simp only at hf; omega
    | d => obtain ⟨h1, h2⟩ := hs; unfold mu at hf; simp only at hf; omega
    | i => obtain ⟨h1, h2⟩ := hs; unfold mu at hf; simp only at hf; omega
  | f + 1, 0, st, i, j, w, hs, hf, hg' => by
    cases st with
    | h => unfold mu at hg'; simp only at hg'; omega
    | d => obtain ⟨h1, h2⟩ := hs; unfold mu at hg'; simp only at hg'; omega
    | i => obtain ⟨h1, h2⟩ := hs; unfold mu at hg'; simp only at hg'; omega
  | f + 1, g + 1, .h, i, j, w, hs, hf, hg' => by
    unfold wb
    by_cases c : (cell s a b i j).h = 0 ∨ i = 0 ∨ j = 0
    · rw [if_pos c, if_pos c]
    · rw [if_neg c, if_neg c]
      have hi : 1 ≤ i := by omega
      have hj : 1 ≤ j := by omega
      unfold mu at hf hg'
      simp only at hf hg'
      rw [wb_fuel hg f g .h (i - 1) (j - 1) (77 :: w) trivial (by unfold mu; simp only; omega) (by unfold mu; simp only; omega), wb_fuel hg f g .d i j w ⟨hi, hj⟩ (by unfold mu; simp only; omega) (by unfold mu; simp only; omega), wb_fuel hg f g .i i j w ⟨hi, hj⟩ (by unfold mu; simp only; omega) (by unfold mu; simp only; omega)]
  | f + 1, g + 1, .d, i, j, w, hs, hf, hg' => by
    unfold wb
    have m := mu_d hs (if (cell s a b i j).d = (cell s a b i (j - 1)).h - s.gap - s.more then In.h else In.d)
    exact wb_fuel hg f g _ i (j - 1) (68 :: w) (stands_d hg hs) (by omega) (by omega)
  | f + 1, g + 1, .i, i, j, w, hs, hf, hg' => by
    unfold wb
    have m := mu_i hs (if (cell s a b i j).i = (cell s a b (i - 1) j).h - s.gap - s.more then In.h else In.i)
    exact wb_fuel hg f g _ (i - 1) j (73 :: w) (stands_i hg hs) (by omega) (by omega)
/-- the way back, without fuel -/
def back (s : Scores) (a b : Nat → Nat) (st : In) (i j : Nat) (w : List UInt8) : Nat × Nat × List UInt8 := wb s a b (mu st i j) st i j w
theorem back_of (hg : s.gap ≤ 127) {f : Nat} {st : In} {i j : Nat} {w : List UInt8} (hs : Stands st i j) (hf : mu st i j ≤ f) : wb s a b f st i j w = back s a b st i j w := wb_fuel hg f _ st i j w hs hf (Nat.le_refl _)
theorem back_end {i j : Nat} {w : List UInt8} (c : (cell s a b i j).h = 0 ∨ i = 0 ∨ j = 0) : back s a b .h i j w = (i, j, w) := by
  unfold back mu
  show wb s a b (2 * (i + j) + 1) .h i j w = _
  unfold wb
  rw [if_pos c]
theorem back_h (hg : s.gap ≤ 127) {i j : Nat} {w : List UInt8} (c : ¬ ((cell s a b i j).h = 0 ∨ i = 0 ∨ j = 0)) : back s a b .h i j w =
    if (cell s a b i j).h = (cell s a b (i - 1) (j - 1)).h + score s (a (i - 1)) (b (j - 1)) then back s a b .h (i - 1) (j - 1) (77 :: w)
    else if (cell s a b i j).h = (cell s a b i j).d then back s a b .d i j w else back s a b .i i j w := by
  have hi : 1 ≤ i := by omega
  have hj : 1 ≤ j := by omega
  rw [← back_of hg (f := 2 * (i + j)) (st := .h) (i := i - 1) (j := j - 1) trivial (by unfold mu; simp only; omega), ← back_of hg (f := 2 * (i + j)) (st := .d) ⟨hi, hj⟩ (by unfold mu; simp only; omega), ← back_of hg (f := 2 * (i + j)) (st := .i) ⟨hi, hj⟩ (by unfold mu; simp only; omega)]
  unfold back mu
  show wb s a b (2 * (i + j) + 1) .h i j w = _
  conv => lhs; unfold wb
  rw [if_neg c]
theorem back_d (hg : s.gap ≤ 127) {i j : Nat} {w : List UInt8} (hs : Stands .d i j) : back s a b .d i j w = back s a b (if (cell s a b i j).d = (cell s a b i (j - 1)).h - s.gap - s.more then .h else .d) i (j - 1) (68 :: w) := by
  obtain ⟨f, e⟩ : ∃ f, mu .d i j = f + 1 := ⟨mu .d i j - 1, by obtain ⟨h1, h2⟩ := hs; unfold mu; simp only; omega⟩
  have m := mu_d hs (if (cell s a b i j).d = (cell s a b i (j - 1)).h - s.gap - s.more then In.h else In.d)
  rw [← back_of hg (f := f) (stands_d hg hs) (by omega)]
  unfold back
  rw [e]
  rfl
theorem back_i (hg : s.gap ≤ 127) {i j : Nat} {w : List UInt8} (hs : Stands .i i j) : back s a b .i i j w = back s a b (if (cell s a b i j).i = (cell s a b (i - 1) j).h - s.gap - s.more then .h else .i) (i - 1) j (73 :: w) := by
  obtain ⟨f, e⟩ : ∃ f, mu .i i j = f + 1 := ⟨mu .i i j - 1, by obtain ⟨h1, h2⟩ := hs; unfold mu; simp only; omega⟩
  have m := mu_i hs (if (cell s a b i j).i = (cell s a b (i - 1) j).h - s.gap - s.more then In.h else In.i)
  rw [← back_of hg (f := f) (stands_i hg hs) (by omega)]
  unfold back
  rw [e]
  rfl
end
theorem FirstBest.bound {κ : Type} {val : κ → Int} {l : List κ} {z : κ} {r : Int × κ} (B : FirstBest val l z r) : ∀ k ∈ l, val k ≤ r.1 := by
  intro k hk
  rcases B.or with ⟨e, h⟩ | ⟨h0, h1, p, q, e, hp, hq⟩
  · rw [e]; exact h k hk
  · rw [e] at hk
    rcases List.mem_append.mp hk with m | m
    · have := hp k m; omega
    · rcases List.mem_cons.mp m with m | m
      · rw [m]; omega
      · exact hq k m
theorem FirstBest.unique {κ : Type} {val : κ → Int} {l : List κ} {z : κ} {r r' : Int × κ} (B : FirstBest val l z r) (C : FirstBest val l z r') : r = r' := by
  rcases B.or with ⟨e, h⟩ | ⟨h0, h1, p, q, e, hp, hq⟩ <;> rcases C.or with ⟨e', h'⟩ | ⟨h0', h1', p', q', e', hp', hq'⟩
  · rw [e, e']
  · have := h r'.2 (by rw [e']; simp)
    omega
  · have := h' r.2 (by rw [e]; simp)
    omega
  · have b1 := B.bound r'.2 (by rw [e']; simp)
    have b2 := C.bound r.2 (by rw [e]; simp)
    have ev : r.1 = r'.1 := by omega
    have el : p ++ r.2 :: q = p' ++ r'.2 :: q' := e.symm.trans e'
    have key : p.length = p'.length := by
      rcases Nat.lt_trichotomy p.length p'.length with c | c | c
      · have m : r.2 ∈ p' := by
          have g := congrArg (fun l : List κ => l[p.length]?) el
          simp only [List.getElem?_append_right (Nat.le_refl _), Nat.sub_self, List.getElem?_cons_zero] at g
          rw [List.getElem?_append_left c] at g
          exact List.mem_of_getElem? g.symm
        have := hp' _ m
        omega
      · exact c
      · have m : r'.2 ∈ p := by
          have g := congrArg (fun l : List κ => l[p'.length]?) el
          simp only [List.getElem?_append_right (Nat.le_refl _), Nat.sub_self, List.getElem?_cons_zero] at g
          rw [List.getElem?_append_left c] at g
          exact List.mem_of_getElem? g
        have := hp _ m
        omega
    have e2 := (List.append_inj el key).2
    exact Prod.ext ev (List.cons.inj e2).1
theorem mem_ends {n m : Nat} {k : Nat × Nat} (h : k ∈ ends n m) : k.1 ≤ n ∧ k.2 ≤ m := by
  unfold ends at h
  obtain ⟨j, hj, h⟩ := List.mem_flatMap.mp h
  obtain ⟨i, hi, rfl⟩ := List.mem_map.mp h
  have h1 := List.mem_range.mp hj
  have h2 := List.mem_range.mp hi
  exact ⟨by show i ≤ n; omega, by show j ≤ m; omega⟩
/-- lay by places -/
theorem lay_eq {s : Scores} (hg : s.gap ≤ 127) (a b : List Nat) {r : Int × Nat × Nat} (B : FirstBest (fun k : Nat × Nat => (cell s (a.getD · 0) (b.getD · 0) k.1 k.2).h) (ends a.length b.length) (0, 0) r) :
    Sg42.lay s a b = if r.1 = 0 then ⟨0, 0, 0, 0, 0, []⟩ else
      ⟨r.1, (back s (a.getD · 0) (b.getD · 0) .h r.2.1 r.2.2 []).1, r.2.1, (back s (a.getD · 0) (b.getD · 0) .h r.2.1 r.2.2 []).2.1, r.2.2, (back s (a.getD · 0) (b.getD · 0) .h r.2.1 r.2.2 []).2.2⟩ := by
  have er : Sg42.best (Sg42.table s a b) a.length b.length = r := (best_eq s a b).unique B
  unfold Sg42.lay
  simp only [er]
  by_cases c : r.1 = 0
  · rw [if_pos c, if_pos c]
  · rw [if_neg c, if_neg c]
    have hb : r.2.1 ≤ a.length ∧ r.2.2 ≤ b.length := by
      rcases B.or with ⟨e, _⟩ | ⟨_, _, p, q, e, _⟩
      · rw [e] at c; exact absurd rfl c
      · exact mem_ends (k := r.2) (by rw [e]; simp)
    rw [wayBack_eq s a b _ .h r.2.1 r.2.2 [] hb.1 hb.2, back_of hg (f := 2 * (a.length + b.length) + 2) (st := .h) trivial (by unfold mu; simp only; omega)]
end Gr

namespace Gr
open Sg42Neutral (bytesOf octets)
open Sg42 (Desk Spot)
/-- a step's part, and what stands behind it -/
def partOf (x : Desk) (st : List Int) : List Int × Desk := match Sg42Neutral.stepOf st with
  | some c => ((Sg42.does x c).1.code :: (Sg42Neutral.ints (Sg42.does x c).1.nums ++ octets (Sg42.does x c).1.out), (Sg42.does x c).2)
  | none => ([], x)
theorem steps_cons (x : Desk) (st : List Int) (l : List (List Int)) : Sg42Neutral.steps x (st :: l) = (partOf x st).1 :: Sg42Neutral.steps (partOf x st).2 l := by
  conv => lhs; unfold Sg42Neutral.steps
  unfold partOf
  cases Sg42Neutral.stepOf st <;> rfl
def joined : List (List Int) → List Int
  | [] => []
  | a :: l => a ++ l.flatMap fun r => ((r.length : Nat) : Int) :: r
theorem joined_snoc (l : List (List Int)) (r : List Int) : joined (l ++ [r]) = if l = [] then r else joined l ++ (((r.length : Nat) : Int) :: r) := by
  cases l with
  | nil => simp [joined]
  | cons a l =>
    rw [if_neg (by simp)]
    show a ++ (l ++ [r]).flatMap _ = (a ++ l.flatMap _) ++ _
    rw [List.flatMap_append, ← List.append_assoc]
    congr 1
    simp
theorem genome_eq {bs : List Int} (hb : Byt bs) (n : Int) (l : List (List Int)) : PySg42.genome bs n l = joined (Sg42Neutral.steps (Sg42.deskOf (seg bs 0 n.toNat)) l) := by
  unfold PySg42.genome
  have e : Sg42Neutral.fields ([[20], bs, [n]] ++ l) = Sg42Neutral.steps (Sg42.deskOf (seg bs 0 n.toNat)) l := by
    show Sg42Neutral.steps (Sg42.deskOf (Sg42.unpacked (bytesOf bs) n.toNat)) l = _
    rw [unpacked_seg hb]
  unfold Sg42Neutral.f
  rw [e]
  cases Sg42Neutral.steps (Sg42.deskOf (seg bs 0 n.toNat)) l <;> rfl
theorem part_find (x : Desk) {b : List Int} (hb : Byt b) (m k : Int) : partOf x (1 :: m :: k :: b) =
    (if (1 ≤ m ∧ m ≤ 1024) ∧ 0 ≤ k ∧ k ≤ 65536 then ((Sg42.places x.genome (seg b 0 m.toNat)).length : Int) :: Sg42Neutral.ints ((Sg42.places x.genome (seg b 0 m.toNat)).take k.toNat) else [-1], x) := by
  unfold partOf
  show ((Sg42.does x (.find (bytesOf b) m k)).1.code :: _, (Sg42.does x (.find (bytesOf b) m k)).2) = _
  unfold Sg42.does
  by_cases h : (1 ≤ m ∧ m ≤ 1024) ∧ 0 ≤ k ∧ k ≤ 65536
  · simp only [within_iff.mpr h.1, len_iff.mpr h.2, if_pos h, unpacked_seg hb]
    show ((((Sg42.places x.genome (seg b 0 m.toNat)).length : Nat) : Int) :: (_ ++ []), x) = _
    rw [List.append_nil]
    rfl
  · have q : (Sg42.within m 1 1024 && Sg42.length k) = false := by
      rw [← Bool.not_eq_true]
      intro z
      simp only [Bool.and_eq_true, within_iff, len_iff] at z
      exact h z
    simp only [q, if_neg h]
    rfl
theorem part_longest (x : Desk) {b : List Int} (hb : Byt b) (m f : Int) : partOf x (2 :: m :: f :: b) =
    (if (1 ≤ m ∧ m ≤ 1024) ∧ 0 ≤ f ∧ f ≤ m then [(Sg42.longest x.genome (seg b f.toNat (m - f).toNat) : Int)] else [-1], x) := by
  unfold partOf
  show ((Sg42.does x (.longest (bytesOf b) m f)).1.code :: _, (Sg42.does x (.longest (bytesOf b) m f)).2) = _
  unfold Sg42.does
  by_cases h : (1 ≤ m ∧ m ≤ 1024) ∧ 0 ≤ f ∧ f ≤ m
  · have q : ¬ (Sg42.within m 1 1024 = false ∨ Sg42.within f 0 m = false) := by
      rw [within_iff.mpr h.1, within_iff.mpr h.2]
      simp
    have e : m.toNat - f.toNat = (m - f).toNat := by omega
    simp only [if_neg q, if_pos h, unpacked_seg hb, seg_drop, Nat.zero_add, e]
    rfl
  · have q : Sg42.within m 1 1024 = false ∨ Sg42.within f 0 m = false := by
      by_cases h1 : 1 ≤ m ∧ m ≤ 1024
      · exact .inr (within_false.mpr fun z => h ⟨h1, z⟩)
      · exact .inl (within_false.mpr h1)
    simp only [if_pos q, if_neg h]
    rfl
theorem part_near (x : Desk) {b : List Int} (hb : Byt b) (m k c : Int) : partOf x (3 :: m :: k :: c :: b) =
    (if (1 ≤ m ∧ m ≤ 512) ∧ (0 ≤ k ∧ k ≤ m) ∧ 0 ≤ c ∧ c ≤ 65536 then ((Sg42.near x.genome (seg b 0 m.toNat) k.toNat).length : Int) :: Sg42Neutral.ints ((Sg42.near x.genome (seg b 0 m.toNat) k.toNat).take c.toNat) else [-1], x) := by
  unfold partOf
  show ((Sg42.does x (.near (bytesOf b) m k c)).1.code :: _, (Sg42.does x (.near (bytesOf b) m k c)).2) = _
  unfold Sg42.does
  by_cases h : (1 ≤ m ∧ m ≤ 512) ∧ (0 ≤ k ∧ k ≤ m) ∧ 0 ≤ c ∧ c ≤ 65536
  · simp only [within_iff.mpr h.1, within_iff.mpr h.2.1, len_iff.mpr h.2.2, if_pos h, unpacked_seg hb]
    show ((((Sg42.near x.genome (seg b 0 m.toNat) k.toNat).length : Nat) : Int) :: (_ ++ []), x) = _
    rw [List.append_nil]
    rfl
  · have q : (Sg42.within m 1 512 && (Sg42.within k 0 m && Sg42.length c)) = false := by
      rw [← Bool.not_eq_true]
      intro z
      simp only [Bool.and_eq_true, within_iff, len_iff] at z
      exact h z
    simp only [q, if_neg h]
    rfl
theorem part_said (x : Desk) (f t : Int) : partOf x [6, f, t] =
    (if 0 ≤ f ∧ f ≤ t ∧ t ≤ x.genome.length then 0 :: octets (((x.spots.drop f.toNat).take (t - f).toNat).map Sg42.said) else [-1], x) := by
  unfold partOf
  show ((Sg42.does x (.consensus f t)).1.code :: _, (Sg42.does x (.consensus f t)).2) = _
  unfold Sg42.does
  by_cases h : 0 ≤ f ∧ f ≤ t ∧ t ≤ x.genome.length
  · simp only [range_iff.mpr h, if_pos h]
    rfl
  · have q : Sg42.range x.genome.length f t = false := by
      rw [← Bool.not_eq_true, range_iff]
      exact h
    simp only [q, if_neg h]
    rfl
def depths (x : Desk) (f t : Int) : List Nat := ((x.spots.drop f.toNat).take (t - f).toNat).map Sg42.depth
theorem part_depth (x : Desk) (f t : Int) : partOf x [7, f, t] =
    (if 0 ≤ f ∧ f < t ∧ t ≤ x.genome.length then [0, (((depths x f t).foldl min ((depths x f t).headD 0) : Nat) : Int), (((depths x f t).foldl max 0 : Nat) : Int)] else [-1], x) := by
  unfold partOf
  show ((Sg42.does x (.depth f t)).1.code :: _, (Sg42.does x (.depth f t)).2) = _
  unfold Sg42.does
  by_cases h : 0 ≤ f ∧ f < t ∧ t ≤ x.genome.length
  · have q : ¬ (Sg42.range x.genome.length f t = false ∨ f = t) := by
      rw [range_iff.mpr ⟨h.1, by omega, h.2.2⟩]
      simp
      omega
    simp only [if_neg q, if_pos h]
    rfl
  · have q : Sg42.range x.genome.length f t = false ∨ f = t := by
      by_cases e : f = t
      · exact .inr e
      · left
        rw [← Bool.not_eq_true, range_iff]
        omega
    simp only [if_pos q, if_neg h]
    rfl
/-- pile -/
def quals (q : List Int) : List Nat := q.map fun c => c.toNat - 33
theorem quals_eq {q : List Int} (hb : Byt q) : ((bytesOf q).map fun (c : UInt8) => c.toNat - 33) = quals q := by
  unfold bytesOf quals
  rw [List.map_map]
  refine List.map_congr_left fun c hc => ?_
  show (UInt8.ofNat c.toNat).toNat - 33 = _
  rw [u8 (hb c hc)]
theorem part_pile (x : Desk) {r q w : List Int} (hr : Byt r) (hq : Byt q) (n p k : Int) (hn : 0 ≤ n ∧ n ≤ 1024) (hk : 0 ≤ k ∧ k ≤ 4096) (lr : r.length = Sg42Neutral.q4 n) (lq : q.length = n.toNat) :
    partOf x (5 :: n :: p :: k :: (r ++ q ++ w)) = if (0 ≤ p ∧ p ≤ x.genome.length) ∧ badQ q = none then
      (match Sg42.walk (bytesOf w) ((seg r 0 n.toNat).zip (quals q)) p.toNat x.spots with
        | some s => ([0], { x with spots := s })
        | none => ([-1], x)) else ([-1], x) := by
  unfold partOf
  have e1 : (r ++ q ++ w).take (Sg42Neutral.q4 n) = r := by rw [← lr, List.append_assoc, List.take_left]
  have e2 : (r ++ q ++ w).drop (Sg42Neutral.q4 n) = q ++ w := by rw [← lr, List.append_assoc, List.drop_left]
  have es : Sg42Neutral.stepOf (5 :: n :: p :: k :: (r ++ q ++ w)) = some (.pile (bytesOf r) (bytesOf q) (bytesOf w) n p k) := by
    show some (Sg42.Call.pile (bytesOf ((r ++ q ++ w).take (Sg42Neutral.q4 n))) (bytesOf (((r ++ q ++ w).drop (Sg42Neutral.q4 n)).take n.toNat)) (bytesOf (((r ++ q ++ w).drop (Sg42Neutral.q4 n)).drop n.toNat)) n p k) = _
    rw [e1, e2, ← lq, List.take_left, List.drop_left]
  rw [es]
  show ((Sg42.does x (.pile (bytesOf r) (bytesOf q) (bytesOf w) n p k)).1.code :: _, (Sg42.does x (.pile (bytesOf r) (bytesOf q) (bytesOf w) n p k)).2) = _
  unfold Sg42.does
  simp only [badQ_eq hq, unpacked_seg hr, quals_eq hq]
  by_cases h : (0 ≤ p ∧ p ≤ x.genome.length) ∧ badQ q = none
  · have c : ¬ ((Sg42.within n 0 1024 && (Sg42.within k 0 4096 && Sg42.within p 0 x.genome.length)) = false ∨ (badQ q).isSome = true) := by
      rw [within_iff.mpr hn, within_iff.mpr hk, within_iff.mpr h.1, h.2]
      simp
    simp only [if_neg c, if_pos h]
    cases Sg42.walk (bytesOf w) ((seg r 0 n.toNat).zip (quals q)) p.toNat x.spots <;> rfl
  · have c : (Sg42.within n 0 1024 && (Sg42.within k 0 4096 && Sg42.within p 0 x.genome.length)) = false ∨ (badQ q).isSome = true := by
      by_cases h1 : 0 ≤ p ∧ p ≤ x.genome.length
      · right
        cases e : badQ q with
        | none => exact absurd ⟨h1, e⟩ h
        | some _ => rfl
      · left
        rw [within_iff.mpr hn, within_iff.mpr hk, within_false.mpr h1]
        rfl
    simp only [if_pos c, if_neg h]
    rfl
/-- lay -/
def layPart (y : Sg42.Laid) (most : Int) : List Int := if most < y.way.length then [-2] else (y.way.length : Int) :: ([(y.score.toNat : Int), (y.a0 : Int), (y.a1 : Int), (y.b0 : Int), (y.b1 : Int)] ++ octets y.way)
theorem part_lay (x : Desk) {a b : List Int} (ha : Byt a) (hb : Byt b) (n m s1 s2 s3 s4 most : Int) (hn : 0 ≤ n ∧ n ≤ 1024) (hm : 0 ≤ m ∧ m ≤ 1024) (la : a.length = Sg42Neutral.q4 n) :
    partOf x (4 :: n :: m :: s1 :: s2 :: s3 :: s4 :: most :: (a ++ b)) =
      (if (0 ≤ most ∧ most ≤ 65536) ∧ (0 ≤ s1 ∧ s1 ≤ 127) ∧ (0 ≤ s2 ∧ s2 ≤ 127) ∧ (0 ≤ s3 ∧ s3 ≤ 127) ∧ 0 ≤ s4 ∧ s4 ≤ 127 then layPart (Sg42.lay ⟨s1.toNat, s2.toNat, s3.toNat, s4.toNat⟩ (seg a 0 n.toNat) (seg b 0 m.toNat)) most else [-1], x) := by
  unfold partOf
  have e1 : (a ++ b).take (Sg42Neutral.q4 n) = a := by rw [← la, List.take_left]
  have e2 : (a ++ b).drop (Sg42Neutral.q4 n) = b := by rw [← la, List.drop_left]
  have es : Sg42Neutral.stepOf (4 :: n :: m :: s1 :: s2 :: s3 :: s4 :: most :: (a ++ b)) = some (.lay (bytesOf a) (bytesOf b) n m [s1, s2, s3, s4] most) := by
    show some (Sg42.Call.lay (bytesOf ((a ++ b).take (Sg42Neutral.q4 n))) (bytesOf ((a ++ b).drop (Sg42Neutral.q4 n))) n m [s1, s2, s3, s4] most) = _
    rw [e1, e2]
  rw [es]
  show ((Sg42.does x (.lay (bytesOf a) (bytesOf b) n m [s1, s2, s3, s4] most)).1.code :: _, (Sg42.does x (.lay (bytesOf a) (bytesOf b) n m [s1, s2, s3, s4] most)).2) = _
  unfold Sg42.does
  simp only [unpacked_seg ha, unpacked_seg hb]
  have q0 : (Sg42.within n 0 1024 && (Sg42.within m 0 1024 && (Sg42.length most && [s1, s2, s3, s4].all fun (z : Int) => Sg42.within z 0 127))) = true ↔
      ((0 ≤ most ∧ most ≤ 65536) ∧ (0 ≤ s1 ∧ s1 ≤ 127) ∧ (0 ≤ s2 ∧ s2 ≤ 127) ∧ (0 ≤ s3 ∧ s3 ≤ 127) ∧ 0 ≤ s4 ∧ s4 ≤ 127) := by
    simp only [Bool.and_eq_true, within_iff, len_iff, List.all_cons, List.all_nil, and_true]
    constructor
    · intro z
      exact ⟨z.2.2.1, z.2.2.2.1, z.2.2.2.2.1, z.2.2.2.2.2.1, z.2.2.2.2.2.2⟩
    · intro z
      exact ⟨hn, hm, z.1, z.2.1, z.2.2.1, z.2.2.2.1, z.2.2.2.2⟩
  by_cases h : (0 ≤ most ∧ most ≤ 65536) ∧ (0 ≤ s1 ∧ s1 ≤ 127) ∧ (0 ≤ s2 ∧ s2 ≤ 127) ∧ (0 ≤ s3 ∧ s3 ≤ 127) ∧ 0 ≤ s4 ∧ s4 ≤ 127
  · simp only [q0.mpr h, if_pos h]
    unfold layPart
    show ((if most < _ then Sg42.says (-2) else _).code :: _, x) = _
    by_cases c : most < ((Sg42.lay ⟨s1.toNat, s2.toNat, s3.toNat, s4.toNat⟩ (seg a 0 n.toNat) (seg b 0 m.toNat)).way.length : Int)
    · rw [if_pos c]
      have c' : most < ((Sg42.lay ⟨([s1, s2, s3, s4].getD 0 0).toNat, ([s1, s2, s3, s4].getD 1 0).toNat, ([s1, s2, s3, s4].getD 2 0).toNat, ([s1, s2, s3, s4].getD 3 0).toNat⟩ (seg a 0 n.toNat) (seg b 0 m.toNat)).way.length : Int) := c
      simp only [if_pos c', Bool.true_eq_false, if_false]
      rfl
    · rw [if_neg c]
      have c' : ¬ most < ((Sg42.lay ⟨([s1, s2, s3, s4].getD 0 0).toNat, ([s1, s2, s3, s4].getD 1 0).toNat, ([s1, s2, s3, s4].getD 2 0).toNat, ([s1, s2, s3, s4].getD 3 0).toNat⟩ (seg a 0 n.toNat) (seg b 0 m.toNat)).way.length : Int) := c
      simp only [if_neg c', Bool.true_eq_false, if_false]
      rfl
  · have q : (Sg42.within n 0 1024 && (Sg42.within m 0 1024 && (Sg42.length most && [s1, s2, s3, s4].all fun (z : Int) => Sg42.within z 0 127))) = false := by
      rw [← Bool.not_eq_true]
      exact fun z => h (q0.mp z)
    simp only [q, if_neg h]
    rfl
end Gr

namespace Gr
/-- the first byte that is no quality, else how many bytes there are -/
def otherAt (q : List Int) : Nat := (badQ q).getD q.length
theorem other_some {q : List Int} {t : Nat} {x : Int} (hx : q[t]? = some x) (h : x < 33 ∨ 126 < x) (hb : ∀ y ∈ q.take t, ¬ (y < 33 ∨ 126 < y)) : badQ q = some t := by
  unfold badQ
  obtain ⟨ht, hx'⟩ := List.getElem?_eq_some_iff.mp hx
  refine List.findIdx?_eq_some_iff_getElem.mpr ⟨ht, by rw [hx']; exact decide_eq_true h, fun j hj => ?_⟩
  have hj' : j < t := hj
  have m : q[j] ∈ q.take t := List.mem_take_iff_getElem.mpr ⟨j, by omega, rfl⟩
  have := hb _ m
  simpa using this
theorem other_none {q : List Int} (hb : ∀ y ∈ q, ¬ (y < 33 ∨ 126 < y)) : badQ q = none := by
  unfold badQ
  refine List.findIdx?_eq_none_iff.mpr fun x hx => ?_
  simpa using hb x hx
theorem other_lt {q : List Int} : otherAt q < q.length ↔ (badQ q).isSome = true := by
  unfold otherAt
  cases e : badQ q with
  | none => simp
  | some k =>
    unfold badQ at e
    obtain ⟨hk, _⟩ := List.findIdx?_eq_some_iff_getElem.mp e
    simpa using hk
end Gr
namespace Gr
end Gr

/-! Beginnings of a piece that end where a walk along a text is. -/
namespace Gr
/-- the piece's first k bases end u -/
def Suf (p u : List Nat) (k : Nat) : Prop := k ≤ p.length ∧ k ≤ u.length ∧ u.drop (u.length - k) = p.take k
theorem suf_0 (p u : List Nat) : Suf p u 0 := ⟨Nat.zero_le _, Nat.zero_le _, by simp⟩
theorem suf_succ {p u : List Nat} {k c : Nat} (hk : k < p.length) : Suf p (u ++ [c]) (k + 1) ↔ Suf p u k ∧ p[k]? = some c := by
  unfold Suf
  rw [List.length_append, List.length_singleton, show u.length + 1 - (k + 1) = u.length - k by omega]
  have et : p.take (k + 1) = p.take k ++ [p[k]] := by rw [List.take_add_one, List.getElem?_eq_getElem hk]; rfl
  rw [List.drop_append_of_le_length (by omega), et, List.getElem?_eq_getElem hk]
  constructor
  · rintro ⟨h1, h2, h3⟩
    obtain ⟨e1, e2⟩ := List.append_inj' h3 rfl
    exact ⟨⟨by omega, by omega, e1⟩, by simpa using e2.symm⟩
  · rintro ⟨⟨h1, h2, h3⟩, h4⟩
    refine ⟨by omega, by omega, ?_⟩
    rw [h3, Option.some.inj h4]
/-- what ends u within its last L bases, the piece's first L -/
theorem suf_in {p u : List Nat} {L k : Nat} (h : Suf p u L) (hk : k ≤ L) : Suf p u k ↔ Suf p (p.take L) k := by
  obtain ⟨h1, h2, h3⟩ := h
  unfold Suf
  have e : (p.take L).length = L := by rw [List.length_take]; omega
  have e2 : (p.take L).drop (L - k) = u.drop (u.length - k) := by
    rw [← h3, List.drop_drop]
    congr 1
    omega
  rw [e, e2]
  constructor
  · rintro ⟨a, b, c⟩
    exact ⟨a, hk, c⟩
  · rintro ⟨a, b, c⟩
    exact ⟨a, by omega, c⟩
/-- the longest of these, of cap bases at most -/
structure Bst (p u : List Nat) (cap L : Nat) : Prop where
  le : L ≤ cap
  suf : Suf p u L
  top : ∀ k, k ≤ cap → Suf p u k → k ≤ L
/-- the longest proper beginnings that end a beginning -/
def Fail (p sh : List Nat) : Prop := ∀ (i f : Nat), sh[i]? = some f → Bst p (p.take (i + 1)) i f
/-- the walk's state while a longer one is sought: l ends u, and none that is longer can be made longer by c -/
structure Seek (p u : List Nat) (cap c l : Nat) : Prop where
  le : l ≤ cap
  suf : Suf p u l
  no : ∀ k, k ≤ cap → l < k → Suf p u k → ¬ p[k]? = some c
theorem seek_0 {p u : List Nat} {cap c L : Nat} (b : Bst p u cap L) : Seek p u cap c L := ⟨b.le, b.suf, fun k h1 h2 h3 => absurd (b.top k h1 h3) (by omega)⟩
theorem seek_next {p u sh : List Nat} {cap c l f : Nat} (S : Seek p u cap c l) (F : Fail p sh) (hl : 0 < l) (hf : sh[l - 1]? = some f) (hno : ¬ p[l]? = some c) : Seek p u cap c f ∧ f < l := by
  have B := F (l - 1) f hf
  rw [show l - 1 + 1 = l by omega] at B
  have hle := B.le
  refine ⟨⟨by have := S.le; omega, (suf_in S.suf (by omega)).mpr B.suf, fun k h1 h2 h3 => ?_⟩, by omega⟩
  by_cases hk : l < k
  · exact S.no k h1 hk h3
  · by_cases e : k = l
    · rw [e]; exact hno
    · have := B.top k (by omega) ((suf_in S.suf (by omega)).mp h3)
      omega
theorem seek_hit {p u : List Nat} {cap c l : Nat} (S : Seek p u cap c l) (h : p[l]? = some c) : Bst p (u ++ [c]) (min (cap + 1) p.length) (l + 1) := by
  have hl : l < p.length := (List.getElem?_eq_some_iff.mp h).1
  refine ⟨by have := S.le; omega, (suf_succ hl).mpr ⟨S.suf, h⟩, fun k h1 h2 => ?_⟩
  cases k with
  | zero => omega
  | succ k =>
    have q := (suf_succ (by omega)).mp h2
    by_cases hk : l < k
    · exact absurd q.2 (S.no k (by omega) hk q.1)
    · omega
theorem seek_miss {p u : List Nat} {cap c : Nat} (S : Seek p u cap c 0) (h : ¬ p[0]? = some c) : Bst p (u ++ [c]) (min (cap + 1) p.length) 0 := by
  refine ⟨Nat.zero_le _, suf_0 _ _, fun k h1 h2 => ?_⟩
  cases k with
  | zero => omega
  | succ k =>
    have q := (suf_succ (by omega)).mp h2
    cases k with
    | zero => exact absurd q.2 h
    | succ k => exact absurd q.2 (S.no (k + 1) (by omega) (by omega) q.1)
theorem fail_snoc {p sh : List Nat} {f : Nat} (F : Fail p sh) (h : Bst p (p.take (sh.length + 1)) sh.length f) : Fail p (sh ++ [f]) := by
  intro i g hi
  by_cases hlt : i < sh.length
  · rw [List.getElem?_append_left hlt] at hi
    exact F i g hi
  · rw [List.getElem?_append_right (by omega)] at hi
    have e : i = sh.length := by
      have := (List.getElem?_eq_some_iff.mp hi).1
      simp at this
      omega
    subst e
    have : f = g := by simpa using hi
    rw [← this]
    exact h
theorem bst_1 (p : List Nat) : Bst p (p.take 1) 0 0 := ⟨Nat.le_refl _, suf_0 _ _, fun k h _ => h⟩
theorem bst_nil (p : List Nat) : Bst p [] p.length 0 := ⟨Nat.zero_le _, suf_0 _ _, fun k _ h => by have := h.2.1; simpa using this⟩
/-- the lengths along a text -/
def Lens (p g ls : List Nat) (t : Nat) : Prop := ls.length = t ∧ ∀ i r, ls[i]? = some r → Bst p (g.take (i + 1)) p.length r
theorem lens_snoc {p g ls : List Nat} {t r : Nat} (L : Lens p g ls t) (h : Bst p (g.take (t + 1)) p.length r) : Lens p g (ls ++ [r]) (t + 1) := by
  obtain ⟨h1, h2⟩ := L
  refine ⟨by rw [List.length_append, h1]; rfl, fun i q hi => ?_⟩
  by_cases hlt : i < ls.length
  · rw [List.getElem?_append_left hlt] at hi
    exact h2 i q hi
  · rw [List.getElem?_append_right (by omega)] at hi
    have e : i = t := by
      have := (List.getElem?_eq_some_iff.mp hi).1
      simp at this
      omega
    subst e
    have : r = q := by rw [h1] at hi; simpa using hi
    rw [← this]
    exact h
theorem suf_at {p g : List Nat} {i : Nat} (hi : i < g.length) : Suf p (g.take (i + 1)) p.length ↔ p.length ≤ i + 1 ∧ Sg42.isAt g p (i + 1 - p.length) = true := by
  have el : (g.take (i + 1)).length = i + 1 := by rw [List.length_take]; omega
  unfold Suf Sg42.isAt
  rw [el, Bool.and_eq_true, decide_eq_true_eq, beq_iff_eq, List.take_length]
  constructor
  · rintro ⟨_, h2, h3⟩
    refine ⟨h2, ?_, by omega⟩
    rw [List.drop_take] at h3
    rw [show i + 1 - (i + 1 - p.length) = p.length by omega] at h3
    exact h3
  · rintro ⟨h2, h3, h4⟩
    refine ⟨Nat.le_refl _, h2, ?_⟩
    rw [List.drop_take, show i + 1 - (i + 1 - p.length) = p.length by omega]
    exact h3
/-- the places told behind t lengths -/
def plK (g p : List Nat) (t : Nat) : List Nat := (List.range (t + 1 - p.length)).filter (Sg42.isAt g p)
theorem plK_step {g p : List Nat} {t r : Nat} (hp : 1 ≤ p.length) (ht : t < g.length) (B : Bst p (g.take (t + 1)) p.length r) : plK g p (t + 1) = if r = p.length then plK g p t ++ [t + 1 - p.length] else plK g p t := by
  have key : r = p.length ↔ p.length ≤ t + 1 ∧ Sg42.isAt g p (t + 1 - p.length) = true := by
    rw [← suf_at ht]
    constructor
    · intro e
      have := B.suf
      rw [e] at this
      exact this
    · intro h
      have h1 := B.top _ (Nat.le_refl _) h
      have h2 := B.le
      omega
  unfold plK
  by_cases hpt : p.length ≤ t + 1
  · rw [show t + 1 + 1 - p.length = (t + 1 - p.length) + 1 by omega, List.range_succ, List.filter_append]
    by_cases h : Sg42.isAt g p (t + 1 - p.length) = true
    · rw [if_pos (key.mpr ⟨hpt, h⟩)]
      simp [h]
    · rw [if_neg (fun e => h (key.mp e).2)]
      simp [h]
  · rw [if_neg (fun e => hpt (key.mp e).1), show t + 1 + 1 - p.length = 0 by omega, show t + 1 - p.length = 0 by omega]
theorem plK_0 {g p : List Nat} (hp : 1 ≤ p.length) : plK g p 0 = [] := by
  unfold plK
  rw [show 0 + 1 - p.length = 0 by omega]
  rfl
theorem plK_all {g p : List Nat} (hp : 1 ≤ p.length) : plK g p g.length = Sg42.places g p := by
  unfold plK Sg42.places
  have e : List.range g.length = List.range (g.length + 1 - p.length) ++ (List.range (g.length - (g.length + 1 - p.length))).map ((g.length + 1 - p.length) + ·) := by
    rw [← List.range_add]
    congr 1
    omega
  rw [e, List.filter_append]
  have z : ((List.range (g.length - (g.length + 1 - p.length))).map ((g.length + 1 - p.length) + ·)).filter (Sg42.isAt g p) = [] := by
    rw [List.filter_eq_nil_iff]
    intro i hi
    obtain ⟨j, hj, rfl⟩ := List.mem_map.mp hi
    have hj := List.mem_range.mp hj
    rw [isAt_iff]
    omega
  rw [z, List.append_nil]
theorem plK_len (g p : List Nat) (t : Nat) (hp : 1 ≤ p.length) : (plK g p t).length ≤ t := by
  unfold plK
  have := List.length_filter_le (Sg42.isAt g p) (List.range (t + 1 - p.length))
  rw [List.length_range] at this
  omega
theorem longest_lens {g p ls : List Nat} {M : Nat} (L : Lens p g ls g.length) (h0 : ls = [] → M = 0) (hM : ls ≠ [] → M ∈ ls ∧ ∀ z ∈ ls, z ≤ M) : Sg42.longest g p = M := by
  obtain ⟨h1, h2⟩ := L
  have ge : ∀ i, i < g.length → lcp (g.drop i) p ≤ M := fun i hi => by
    have hle := lcp_le (g.drop i) p
    rw [List.length_drop] at hle
    generalize hk : lcp (g.drop i) p = k at hle
    by_cases hk0 : k = 0
    · omega
    · have hne : ls ≠ [] := fun e => by rw [e] at h1; simp at h1; omega
      have ht : (g.drop i).take k = p.take k := (take_lcp (by rw [List.length_drop]; omega) (by omega)).mpr (by omega)
      have hj : i + k - 1 < ls.length := by omega
      have e := List.getElem?_eq_getElem hj
      have B := h2 (i + k - 1) _ e
      have s : Suf p (g.take (i + k - 1 + 1)) k := by
        refine ⟨by omega, by rw [List.length_take]; omega, ?_⟩
        rw [List.length_take, List.drop_take, show min (i + k - 1 + 1) g.length - k = i by omega, show i + k - 1 + 1 - i = k by omega]
        exact ht
      have := B.top k (by omega) s
      have := (hM hne).2 _ (List.getElem_mem hj)
      omega
  refine longest_eq ⟨ge, ?_⟩
  by_cases hne : ls = []
  · exact .inl (h0 hne)
  · obtain ⟨m1, m2⟩ := hM hne
    by_cases hM0 : M = 0
    · exact .inl hM0
    · right
      obtain ⟨j, hj⟩ := List.mem_iff_getElem?.mp m1
      have hjl := (List.getElem?_eq_some_iff.mp hj).1
      have B := h2 j M hj
      obtain ⟨s1, s2, s3⟩ := B.suf
      rw [List.length_take] at s2 s3
      rw [List.drop_take, show min (j + 1) g.length - M = j + 1 - M by omega, show j + 1 - (j + 1 - M) = M by omega] at s3
      refine ⟨j + 1 - M, by omega, ?_⟩
      have := (take_lcp (a := g.drop (j + 1 - M)) (b := p) (n := M) (by rw [List.length_drop]; omega) s1).mp s3
      have := ge (j + 1 - M) (by omega)
      omega
theorem longest_nil (g : List Nat) : Sg42.longest g [] = 0 := by
  refine longest_eq ⟨fun i _ => ?_, .inl rfl⟩
  have := (lcp_le (g.drop i) []).2
  simpa using this
end Gr

/-! Reads piled up: one list for all places. -/
namespace Gr
open Sg42 (Spot held walk)
/-- a place's counts and weights are four each -/
def Four (l : List Spot) : Prop := ∀ x ∈ l, x.counts.length = 4 ∧ x.weights.length = 4
def allC (l : List Spot) : List Nat := l.flatMap fun (x : Spot) => x.counts
def allW (l : List Spot) : List Nat := l.flatMap fun (x : Spot) => x.weights
def allG (l : List Spot) : List Nat := l.map fun (x : Spot) => x.gaps
section
variable {f : Spot → List Nat}
theorem fm_get : ∀ {l : List Spot} {i b : Nat} {x : Spot}, (∀ x ∈ l, (f x).length = 4) → l[i]? = some x → b < 4 → (l.flatMap f)[4 * i + b]? = (f x)[b]?
  | [], i, b, x, _, hx, _ => by simp at hx
  | y :: l, 0, b, x, h, hx, hb => by
    have e : y = x := by simpa using hx
    have hl := h y List.mem_cons_self
    rw [List.flatMap_cons, Nat.mul_zero, Nat.zero_add, List.getElem?_append_left (by omega), e]
  | y :: l, i + 1, b, x, h, hx, hb => by
    have hl := h y List.mem_cons_self
    rw [List.flatMap_cons, List.getElem?_append_right (by omega), hl, show 4 * (i + 1) + b - 4 = 4 * i + b by omega]
    exact fm_get (fun z hz => h z (List.mem_cons_of_mem _ hz)) (by simpa using hx) hb
theorem fm_cut : ∀ {l : List Spot} {i : Nat} {x : Spot}, (∀ x ∈ l, (f x).length = 4) → l[i]? = some x → ((l.flatMap f).drop (4 * i)).take 4 = f x
  | [], i, x, _, hx => by simp at hx
  | y :: l, 0, x, h, hx => by
    have e : y = x := by simpa using hx
    have hl := h y List.mem_cons_self
    rw [List.flatMap_cons, Nat.mul_zero, List.drop_zero, e, List.take_append_of_le_length (by rw [← e]; omega), List.take_of_length_le (by rw [← e]; omega)]
  | y :: l, i + 1, x, h, hx => by
    have hl := h y List.mem_cons_self
    rw [List.flatMap_cons, show 4 * (i + 1) = (f y).length + 4 * i by omega, List.drop_length_add_append]
    exact fm_cut (fun z hz => h z (List.mem_cons_of_mem _ hz)) (by simpa using hx)
theorem fm_set : ∀ {l : List Spot} {i b v : Nat} {x x' : Spot}, (∀ x ∈ l, (f x).length = 4) → l[i]? = some x → b < 4 → f x' = (f x).set b v → (l.flatMap f).set (4 * i + b) v = (l.set i x').flatMap f
  | [], i, b, v, x, x', _, hx, _, _ => by simp at hx
  | y :: l, 0, b, v, x, x', h, hx, hb, e => by
    have ey : y = x := by simpa using hx
    have hl := h y List.mem_cons_self
    rw [List.set_cons_zero, List.flatMap_cons, List.flatMap_cons, Nat.mul_zero, Nat.zero_add, List.set_append_left _ _ (by omega), e, ey]
  | y :: l, i + 1, b, v, x, x', h, hx, hb, e => by
    have hl := h y List.mem_cons_self
    rw [List.set_cons_succ, List.flatMap_cons, List.flatMap_cons, List.set_append_right _ _ (by omega), hl, show 4 * (i + 1) + b - 4 = 4 * i + b by omega]
    rw [fm_set (fun z hz => h z (List.mem_cons_of_mem _ hz)) (by simpa using hx) hb e]
theorem fm_keep {l : List Spot} {i : Nat} {x x' : Spot} (hx : l[i]? = some x) (e : f x' = f x) : (l.set i x').flatMap f = l.flatMap f := by
  induction l generalizing i with
  | nil => rfl
  | cons y l ih =>
    cases i with
    | zero =>
      have ey : y = x := by simpa using hx
      rw [List.set_cons_zero, List.flatMap_cons, List.flatMap_cons, e, ey]
    | succ i => rw [List.set_cons_succ, List.flatMap_cons, List.flatMap_cons, ih (by simpa using hx)]
end
theorem four_set {l : List Spot} (h : Four l) {i : Nat} {x : Spot} (hx : x.counts.length = 4 ∧ x.weights.length = 4) : Four (l.set i x) := fun y hy => by
  rcases List.mem_or_eq_of_mem_set hy with z | z
  · exact h y z
  · rw [z]; exact hx
/-- letters of a way -/
def okL (x : Int) : Prop := x = 77 ∨ x = 73 ∨ x = 68
instance (x : Int) : Decidable (okL x) := by unfold okL; infer_instance
theorem counts_le : ∀ w : List Int, w.count 77 + w.count 73 + w.count 68 ≤ w.length ∧ (w.count 77 + w.count 73 + w.count 68 = w.length ↔ ∀ x ∈ w, okL x)
  | [] => by simp
  | x :: w => by
    obtain ⟨h1, h2⟩ := counts_le w
    have e : ∀ k : Int, (x :: w).count k = w.count k + if x = k then 1 else 0 := fun k => by
      rw [List.count_cons]
      by_cases h : x = k
      · simp [h]
      · simp [h]
    rw [e, e, e, List.length_cons]
    by_cases hx : okL x
    · have : (if x = 77 then 1 else 0) + (if x = 73 then 1 else 0) + (if x = 68 then 1 else 0) = 1 := by
        rcases hx with r | r | r <;> subst r <;> decide
      refine ⟨by omega, ?_⟩
      constructor
      · intro z y hy
        rcases List.mem_cons.mp hy with q | q
        · rw [q]; exact hx
        · exact h2.mp (by omega) y q
      · intro z
        have := h2.mpr fun y hy => z y (List.mem_cons_of_mem _ hy)
        omega
    · have n1 : ¬ x = 77 := fun z => hx (.inl z)
      have n2 : ¬ x = 73 := fun z => hx (.inr (.inl z))
      have n3 : ¬ x = 68 := fun z => hx (.inr (.inr z))
      rw [if_neg n1, if_neg n2, if_neg n3]
      refine ⟨by omega, ?_⟩
      constructor
      · intro z; omega
      · intro z; exact absurd (z x List.mem_cons_self) hx
theorem walk_cons (c : UInt8) (w : List UInt8) (r : List (Nat × Nat)) (p : Nat) (s : List Spot) : walk (c :: w) r p s =
    if c = 77 then (match r, s[p]? with
      | (b, q) :: r, some x => walk w r (p + 1) (s.set p { x with counts := x.counts.set b (held (x.counts.getD b 0 + 1)), weights := x.weights.set b (held (x.weights.getD b 0 + q)) })
      | _, _ => none)
    else if c = 73 then (match r with
      | _ :: r => walk w r p s
      | [] => none)
    else if c = 68 then (match s[p]? with
      | some x => walk w r (p + 1) (s.set p { x with gaps := held (x.gaps + 1) })
      | none => none)
    else none := by
  conv => lhs; unfold Sg42.walk
  rfl
theorem byt_u8 {x : Int} (h : 0 ≤ x ∧ x ≤ 255) (k : Nat) (hk : k < 256) : (UInt8.ofNat x.toNat = UInt8.ofNat k) ↔ x = (k : Int) := u8_eq h k hk
section
variable {x : Int} {w : List Int} {r : List (Nat × Nat)} {p : Nat} {s : List Spot}
theorem walk_M (hx : x = 77) : walk (Sg42Neutral.bytesOf (x :: w)) r p s = match r, s[p]? with
      | (b, q) :: r, some x => walk (Sg42Neutral.bytesOf w) r (p + 1) (s.set p { x with counts := x.counts.set b (held (x.counts.getD b 0 + 1)), weights := x.weights.set b (held (x.weights.getD b 0 + q)) })
      | _, _ => none := by
  subst hx
  show walk (77 :: Sg42Neutral.bytesOf w) r p s = _
  rw [walk_cons, if_pos rfl]
theorem walk_I (hx : x = 73) : walk (Sg42Neutral.bytesOf (x :: w)) r p s = match r with
      | _ :: r => walk (Sg42Neutral.bytesOf w) r p s
      | [] => none := by
  subst hx
  show walk (73 :: Sg42Neutral.bytesOf w) r p s = _
  rw [walk_cons, if_neg (by decide), if_pos rfl]
theorem walk_D (hx : x = 68) : walk (Sg42Neutral.bytesOf (x :: w)) r p s = match s[p]? with
      | some x => walk (Sg42Neutral.bytesOf w) r (p + 1) (s.set p { x with gaps := held (x.gaps + 1) })
      | none => none := by
  subst hx
  show walk (68 :: Sg42Neutral.bytesOf w) r p s = _
  rw [walk_cons, if_neg (by decide), if_neg (by decide), if_pos rfl]
theorem walk_no (hb : 0 ≤ x ∧ x ≤ 255) (hx : ¬ okL x) : walk (Sg42Neutral.bytesOf (x :: w)) r p s = none := by
  show walk (UInt8.ofNat x.toNat :: Sg42Neutral.bytesOf w) r p s = _
  have n1 : ¬ UInt8.ofNat x.toNat = 77 := fun z => hx (.inl ((byt_u8 hb 77 (by decide)).mp z))
  have n2 : ¬ UInt8.ofNat x.toNat = 73 := fun z => hx (.inr (.inl ((byt_u8 hb 73 (by decide)).mp z)))
  have n3 : ¬ UInt8.ofNat x.toNat = 68 := fun z => hx (.inr (.inr ((byt_u8 hb 68 (by decide)).mp z)))
  rw [walk_cons, if_neg n1, if_neg n2, if_neg n3]
end
theorem walk_nil (r : List (Nat × Nat)) (p : Nat) (s : List Spot) : walk (Sg42Neutral.bytesOf []) r p s = if r = [] then some s else none := by
  show walk [] r p s = _
  cases r with
  | nil => rfl
  | cons y r => rfl
/-- a read fits -/
def Fits (w : List Int) (n p len : Nat) : Prop := (∀ x ∈ w, okL x) ∧ w.count 77 + w.count 73 = n ∧ p + w.count 77 + w.count 68 ≤ len
theorem walk_fits : ∀ {w : List Int} {r : List (Nat × Nat)} {p : Nat} {s : List Spot}, Byt w → p ≤ s.length → ((walk (Sg42Neutral.bytesOf w) r p s).isSome = true ↔ Fits w r.length p s.length)
  | [], r, p, s, _, hp => by
    rw [walk_nil]
    unfold Fits
    cases r with
    | nil => simp; omega
    | cons y r => simp
  | x :: w, r, p, s, hb, hp => by
    have hb' : Byt w := fun y hy => hb y (List.mem_cons_of_mem _ hy)
    have hx := hb x List.mem_cons_self
    have e : ∀ k : Int, (x :: w).count k = w.count k + if x = k then 1 else 0 := fun k => by
      rw [List.count_cons]
      by_cases h : x = k
      · simp [h]
      · simp [h]
    by_cases ho : okL x
    · have all : (∀ y ∈ x :: w, okL y) ↔ ∀ y ∈ w, okL y := ⟨fun z y hy => z y (List.mem_cons_of_mem _ hy), fun z y hy => by
        rcases List.mem_cons.mp hy with q | q
        · rw [q]; exact ho
        · exact z y q⟩
      unfold Fits
      rw [all, e, e, e]
      rcases ho with h | h | h
      · rw [walk_M h, if_pos h, if_neg (by omega), if_neg (by omega)]
        cases r with
        | nil => simp
        | cons y r =>
          obtain ⟨b, q⟩ := y
          by_cases hlt : p < s.length
          · rw [List.getElem?_eq_getElem hlt]
            show (walk _ r (p + 1) _).isSome = true ↔ _
            rw [walk_fits hb' (by rw [List.length_set]; omega)]
            unfold Fits
            rw [List.length_set, List.length_cons]
            constructor
            · rintro ⟨a1, a2, a3⟩; exact ⟨a1, by omega, by omega⟩
            · rintro ⟨a1, a2, a3⟩; exact ⟨a1, by omega, by omega⟩
          · rw [List.getElem?_eq_none (by omega)]
            simp
            omega
      · rw [walk_I h, if_neg (by omega), if_pos h, if_neg (by omega)]
        cases r with
        | nil => simp
        | cons y r =>
          show (walk _ r p s).isSome = true ↔ _
          rw [walk_fits hb' hp]
          unfold Fits
          rw [List.length_cons]
          constructor
          · rintro ⟨a1, a2, a3⟩; exact ⟨a1, by omega, by omega⟩
          · rintro ⟨a1, a2, a3⟩; exact ⟨a1, by omega, by omega⟩
      · rw [walk_D h, if_neg (by omega), if_neg (by omega), if_pos h]
        by_cases hlt : p < s.length
        · rw [List.getElem?_eq_getElem hlt]
          show (walk _ r (p + 1) _).isSome = true ↔ _
          rw [walk_fits hb' (by rw [List.length_set]; omega)]
          unfold Fits
          rw [List.length_set]
          constructor
          · rintro ⟨a1, a2, a3⟩; exact ⟨a1, by omega, by omega⟩
          · rintro ⟨a1, a2, a3⟩; exact ⟨a1, by omega, by omega⟩
        · rw [List.getElem?_eq_none (by omega)]
          simp
          omega
    · rw [walk_no hx ho]
      constructor
      · intro z; cases z
      · intro z; exact absurd (z.1 x List.mem_cons_self) ho
/-- a pile keeps how many places there are, and fours -/
theorem walk_four : ∀ {w : List Int} {r : List (Nat × Nat)} {p : Nat} {s s' : List Spot}, Byt w → Four s → walk (Sg42Neutral.bytesOf w) r p s = some s' → Four s' ∧ s'.length = s.length
  | [], r, p, s, s', _, h, e => by
    rw [walk_nil] at e
    split at e
    · cases e; exact ⟨h, rfl⟩
    · cases e
  | x :: w, r, p, s, s', hb, h, e => by
    have hb' : Byt w := fun y hy => hb y (List.mem_cons_of_mem _ hy)
    by_cases ho : okL x
    · rcases ho with q | q | q
      · rw [walk_M q] at e
        cases r with
        | nil => cases e
        | cons y r =>
          obtain ⟨b, qq⟩ := y
          cases ex : s[p]? with
          | none => rw [ex] at e; cases e
          | some z =>
            rw [ex] at e
            have hz := h z (List.mem_of_getElem? ex)
            obtain ⟨a1, a2⟩ := walk_four hb' (four_set h ⟨by rw [List.length_set]; exact hz.1, by rw [List.length_set]; exact hz.2⟩) e
            rw [List.length_set] at a2
            exact ⟨a1, a2⟩
      · rw [walk_I q] at e
        cases r with
        | nil => cases e
        | cons y r => exact walk_four hb' h e
      · rw [walk_D q] at e
        cases ex : s[p]? with
        | none => rw [ex] at e; cases e
        | some z =>
          rw [ex] at e
          have hz := h z (List.mem_of_getElem? ex)
          obtain ⟨a1, a2⟩ := walk_four hb' (four_set (x := { z with gaps := held (z.gaps + 1) }) h hz) e
          rw [List.length_set] at a2
          exact ⟨a1, a2⟩
    · rw [walk_no (hb x List.mem_cons_self) ho] at e
      cases e
theorem sum_cast : ∀ l : List Nat, (l.map fun (n : Nat) => (n : Int)).sum = ((l.sum : Nat) : Int)
  | [] => rfl
  | x :: l => by
    rw [List.map_cons, List.sum_cons, List.sum_cons, sum_cast l]
    omega
/-- what a place says, by its greatest weight -/
theorem said_eq {x : Spot} (h : x.weights.length = 4) {j m : Nat} (hj : x.weights[j]? = some m) (hm : ∀ y ∈ x.weights, y ≤ m) (hf : ∀ i y, i < j → x.weights[i]? = some y → y ≠ m) :
    ((Sg42.said x).toNat : Int) = if Sg42.depth x = 0 then 78 else if Sg42.depth x < 2 * x.gaps then 45 else letterI j := by
  have hmax : x.weights.foldl max 0 = m := by
    obtain ⟨a1, a2, a3⟩ := foldl_max_spec x.weights 0
    have b1 := a2 m (List.mem_of_getElem? hj)
    rcases a3 with e | e
    · omega
    · have := hm _ e; omega
  have hidx : (x.weights.findIdx? fun n => n == x.weights.foldl max 0) = some j := by
    rw [hmax]
    obtain ⟨hlt, he⟩ := List.getElem?_eq_some_iff.mp hj
    refine List.findIdx?_eq_some_iff_getElem.mpr ⟨hlt, by rw [he]; simp, fun i hi => ?_⟩
    have hi' : i < j := hi
    have := hf i _ hi' (List.getElem?_eq_getElem (by omega))
    simpa using this
  unfold Sg42.said
  rw [hidx]
  by_cases h1 : Sg42.depth x = 0
  · rw [if_pos h1, if_pos h1]; rfl
  · rw [if_neg h1, if_neg h1]
    by_cases h2 : Sg42.depth x < 2 * x.gaps
    · rw [if_pos h2, if_pos h2]; rfl
    · rw [if_neg h2, if_neg h2]; rfl
end Gr

/-! A column of the table of edits kept in bits: one base of the text moves it on. -/
namespace Gr
/-- the carry's way: X where a row is alike, R where it rises -/
def levB (X R : Nat) (c : Bool) : Nat → Bool
  | 0 => X.testBit 0 || c
  | i + 1 => X.testBit (i + 1) || (R.testBit i && levB X R c i)
theorem levB_half (X R : Nat) (c : Bool) : ∀ i, levB X R c (i + 1) = levB (X / 2) (R / 2) (R.testBit 0 && (X.testBit 0 || c)) i
  | 0 => by
    show (X.testBit 1 || (R.testBit 0 && (X.testBit 0 || c))) = ((X / 2).testBit 0 || _)
    rw [Nat.testBit_div_two]
  | i + 1 => by
    show (X.testBit (i + 1 + 1) || (R.testBit (i + 1) && levB X R c (i + 1))) = ((X / 2).testBit (i + 1) || ((R / 2).testBit i && levB (X / 2) (R / 2) _ i))
    rw [Nat.testBit_div_two, Nat.testBit_div_two, levB_half X R c i]
theorem sum_half (X R : Nat) (c : Bool) : ((X &&& R) + R + c.toNat) / 2 = ((X / 2) &&& (R / 2)) + R / 2 + (R.testBit 0 && (X.testBit 0 || c)).toNat ∧
    ((X &&& R) + R + c.toNat).testBit 0 = ((X.testBit 0 && R.testBit 0) ^^ R.testBit 0 ^^ c) := by
  have e := (parts2 X R).2.1
  have l : (X &&& R) % 2 = ((X &&& R).testBit 0).toNat := bit0 _
  have r : R % 2 = (R.testBit 0).toNat := bit0 _
  rw [Nat.testBit_and] at l
  have n : (((X &&& R) + R + c.toNat).testBit 0) = decide (((X &&& R) + R + c.toNat) % 2 = 1) := by rw [Nat.testBit_zero]
  rw [n]
  generalize hx : X.testBit 0 = bx at *
  generalize hr : R.testBit 0 = br at *
  generalize hs : (X &&& R) = s at *
  rw [← e]
  cases bx <;> cases br <;> cases c <;> simp at l r ⊢ <;> omega
theorem lev_bit : ∀ (i : Nat) (X R : Nat) (c : Bool), ((((X &&& R) + R + c.toNat).testBit i ^^ R.testBit i) || X.testBit i) = levB X R c i
  | 0, X, R, c => by
    rw [(sum_half X R c).2]
    show _ = (X.testBit 0 || c)
    cases X.testBit 0 <;> cases R.testBit 0 <;> cases c <;> rfl
  | i + 1, X, R, c => by
    rw [levB_half, ← lev_bit i, ← (sum_half X R c).1, Nat.testBit_div_two, Nat.testBit_div_two, Nat.testBit_div_two]

/-- the numbers of a step: L rows; R rising, F falling; m where alike; st: what the row above goes up by -/
def lv (X R : Nat) : Nat := (((X &&& R) + R) ^^^ R) ||| X
def nt (L y : Nat) : Nat := (2 ^ L - 1) - ((2 ^ L - 1) &&& y)
def aX (m : Nat) (st : Int) : Nat := if st < 0 then m ||| 1 else m
def aUp (L R F m : Nat) (st : Int) : Nat := F ||| nt L (lv (aX m st) R ||| R)
def aDn (R m : Nat) (st : Int) : Nat := R &&& lv (aX m st) R
def hUp (L R F m : Nat) (st : Int) : Nat := if 0 < st then (aUp L R F m st * 2 &&& (2 ^ L - 1)) ||| 1 else aUp L R F m st * 2 &&& (2 ^ L - 1)
def hDn (L R m : Nat) (st : Int) : Nat := if st < 0 then (aDn R m st * 2 &&& (2 ^ L - 1)) ||| 1 else aDn R m st * 2 &&& (2 ^ L - 1)
def aR (L R F m : Nat) (st : Int) : Nat := hDn L R m st ||| nt L ((m ||| F) ||| hUp L R F m st)
def aF (L R F m : Nat) (st : Int) : Nat := hUp L R F m st &&& (m ||| F)
def aRet (L R F m : Nat) (st : Int) : Int := if aUp L R F m st &&& 2 ^ (L - 1) ≠ 0 then 1 else if aDn R m st &&& 2 ^ (L - 1) ≠ 0 then -1 else 0

theorem nt_eq (L y : Nat) : nt L y = (2 ^ L - 1) ^^^ ((2 ^ L - 1) &&& y) := by
  unfold nt
  have h := (xor_and_add (2 ^ L - 1) ((2 ^ L - 1) &&& y)).1
  have e : (2 ^ L - 1) &&& ((2 ^ L - 1) &&& y) = (2 ^ L - 1) &&& y := by
    rw [← Nat.and_assoc, Nat.and_self]
  rw [e] at h
  omega
theorem nt_bit (L y i : Nat) : (nt L y).testBit i = (decide (i < L) && !y.testBit i) := by
  rw [nt_eq, Nat.testBit_xor, Nat.testBit_and, Nat.testBit_two_pow_sub_one]
  cases decide (i < L) <;> cases y.testBit i <;> rfl
theorem one_bit (i : Nat) : (1 : Nat).testBit (i + 1) = false := by
  rw [Nat.testBit_succ]
  exact Nat.zero_testBit _
theorem aX_0 (m : Nat) (st : Int) : (aX m st).testBit 0 = (m.testBit 0 || decide (st < 0)) := by
  unfold aX
  by_cases h : st < 0
  · rw [if_pos h, Nat.testBit_or, decide_eq_true h]
    rfl
  · rw [if_neg h, decide_eq_false h, Bool.or_false]
theorem aX_s (m : Nat) (st : Int) (i : Nat) : (aX m st).testBit (i + 1) = m.testBit (i + 1) := by
  unfold aX
  by_cases h : st < 0
  · rw [if_pos h, Nat.testBit_or, one_bit, Bool.or_false]
  · rw [if_neg h]
theorem lv_bit (X R i : Nat) : (lv X R).testBit i = levB X R false i := by
  unfold lv
  rw [Nat.testBit_or, Nat.testBit_xor, ← lev_bit]
  rfl
/-- what goes down above row i -/
def dnB (R m : Nat) (st : Int) : Nat → Bool
  | 0 => decide (st < 0)
  | i + 1 => (aDn R m st).testBit i
def upB (L R F m : Nat) (st : Int) : Nat → Bool
  | 0 => decide (0 < st)
  | i + 1 => (aUp L R F m st).testBit i
theorem lv_dn (R m : Nat) (st : Int) : ∀ i, (lv (aX m st) R).testBit i = (m.testBit i || dnB R m st i)
  | 0 => by
    rw [lv_bit]
    show ((aX m st).testBit 0 || false) = _
    rw [aX_0, Bool.or_false]
    rfl
  | i + 1 => by
    rw [lv_bit]
    show ((aX m st).testBit (i + 1) || (R.testBit i && levB (aX m st) R false i)) = _
    rw [aX_s, ← lv_bit]
    show _ = (m.testBit (i + 1) || (aDn R m st).testBit i)
    unfold aDn
    rw [Nat.testBit_and]
theorem dbl_0 (y L : Nat) : (y * 2 &&& (2 ^ L - 1)).testBit 0 = false := by
  rw [Nat.testBit_and, Nat.testBit_zero]
  have : ¬ y * 2 % 2 = 1 := by omega
  simp [this]
theorem dbl_s (y L i : Nat) : (y * 2 &&& (2 ^ L - 1)).testBit (i + 1) = (y.testBit i && decide (i + 1 < L)) := by
  rw [Nat.testBit_and, Nat.testBit_two_pow_sub_one, Nat.testBit_succ, Nat.mul_div_cancel _ (by decide : 0 < 2)]
theorem hUp_bit (L R F m : Nat) (st : Int) : ∀ i, i < L → (hUp L R F m st).testBit i = upB L R F m st i
  | 0, _ => by
    unfold hUp
    by_cases h : 0 < st
    · rw [if_pos h, Nat.testBit_or, dbl_0]
      show true = decide (0 < st)
      rw [decide_eq_true h]
    · rw [if_neg h, dbl_0]
      show false = decide (0 < st)
      rw [decide_eq_false h]
  | i + 1, hi => by
    unfold hUp
    by_cases h : 0 < st
    · rw [if_pos h, Nat.testBit_or, dbl_s, one_bit, decide_eq_true hi, Bool.and_true, Bool.or_false]
      rfl
    · rw [if_neg h, dbl_s, decide_eq_true hi, Bool.and_true]
      rfl
theorem hDn_bit (L R m : Nat) (st : Int) : ∀ i, i < L → (hDn L R m st).testBit i = dnB R m st i
  | 0, _ => by
    unfold hDn
    by_cases h : st < 0
    · rw [if_pos h, Nat.testBit_or, dbl_0]
      show true = decide (st < 0)
      rw [decide_eq_true h]
    · rw [if_neg h, dbl_0]
      show false = decide (st < 0)
      rw [decide_eq_false h]
  | i + 1, hi => by
    unfold hDn
    by_cases h : st < 0
    · rw [if_pos h, Nat.testBit_or, dbl_s, one_bit, decide_eq_true hi, Bool.and_true, Bool.or_false]
      rfl
    · rw [if_neg h, dbl_s, decide_eq_true hi, Bool.and_true]
      rfl
/-- a column D in bits -/
structure Col (L R F : Nat) (D : Nat → Nat) : Prop where
  r : R < 2 ^ L
  f : F < 2 ^ L
  rb : ∀ i, i < L → R.testBit i = decide (D (i + 1) = D i + 1)
  fb : ∀ i, i < L → F.testBit i = decide (D (i + 1) + 1 = D i)
  near : ∀ i, i < L → D (i + 1) ≤ D i + 1 ∧ D i ≤ D (i + 1) + 1
section
variable {L R F m x : Nat} {st : Int} {D D' c : Nat → Nat}
theorem row_facts (C : Col L R F D) (hm : ∀ i, i < L → m.testBit i = decide (x = c i)) (h0 : (D' 0 : Int) = D 0 + st) (hst : -1 ≤ st ∧ st ≤ 1)
    (hD : ∀ i, i < L → D' (i + 1) = min (min (D (i + 1) + 1) (D' i + 1)) (D i + if x = c i then 0 else 1)) :
    ∀ i, i ≤ L → upB L R F m st i = decide (D' i = D i + 1) ∧ dnB R m st i = decide (D' i + 1 = D i) ∧ D' i ≤ D i + 1 ∧ D i ≤ D' i + 1
  | 0, _ => by
    refine ⟨?_, ?_, by omega, by omega⟩
    · show decide (0 < st) = _
      rw [Bool.eq_iff_iff, decide_eq_true_eq, decide_eq_true_eq]
      omega
    · show decide (st < 0) = _
      rw [Bool.eq_iff_iff, decide_eq_true_eq, decide_eq_true_eq]
      omega
  | i + 1, hi => by
    obtain ⟨u, d, n1, n2⟩ := row_facts C hm h0 hst hD i (by omega)
    have hr := C.rb i (by omega)
    have hf := C.fb i (by omega)
    have hn := C.near i (by omega)
    have he := hm i (by omega)
    have hd := hD i (by omega)
    have lvd := lv_dn R m st i
    rw [he, d] at lvd
    refine ⟨?_, ?_, ?_⟩
    · show (aUp L R F m st).testBit i = _
      unfold aUp
      rw [Nat.testBit_or, nt_bit, Nat.testBit_or, lvd, hr, hf, decide_eq_true (show i < L by omega), Bool.true_and, Bool.eq_iff_iff]
      simp only [Bool.or_eq_true, Bool.not_eq_true', Bool.or_eq_false_iff, decide_eq_true_eq, decide_eq_false_iff_not]
      by_cases hx : x = c i
      · rw [if_pos hx] at hd
        simp only [hx, not_true, false_and, or_false]
        omega
      · rw [if_neg hx] at hd
        simp only [hx, not_false_iff, true_and]
        omega
    · show (aDn R m st).testBit i = _
      unfold aDn
      rw [Nat.testBit_and, lvd, hr, Bool.eq_iff_iff]
      simp only [Bool.and_eq_true, Bool.or_eq_true, decide_eq_true_eq]
      by_cases hx : x = c i
      · rw [if_pos hx] at hd
        simp only [hx, true_or, and_true]
        omega
      · rw [if_neg hx] at hd
        simp only [hx, false_or]
        omega
    · by_cases hx : x = c i
      · rw [if_pos hx] at hd
        omega
      · rw [if_neg hx] at hd
        omega
theorem hUp_lt (hL : 1 ≤ L) : hUp L R F m st < 2 ^ L := by
  have h1 : 1 < 2 ^ L := Nat.one_lt_two_pow (by omega)
  have h2 : aUp L R F m st * 2 &&& (2 ^ L - 1) < 2 ^ L := Nat.and_lt_two_pow _ (by omega)
  unfold hUp
  split
  · exact Nat.or_lt_two_pow h2 h1
  · exact h2
theorem hDn_lt (hL : 1 ≤ L) : hDn L R m st < 2 ^ L := by
  have h1 : 1 < 2 ^ L := Nat.one_lt_two_pow (by omega)
  have h2 : aDn R m st * 2 &&& (2 ^ L - 1) < 2 ^ L := Nat.and_lt_two_pow _ (by omega)
  unfold hDn
  split
  · exact Nat.or_lt_two_pow h2 h1
  · exact h2
theorem nt_lt (L y : Nat) : nt L y < 2 ^ L := by
  unfold nt
  have : 0 < 2 ^ L := Nat.two_pow_pos L
  omega
theorem col_step (C : Col L R F D) (hL : 1 ≤ L) (hm : ∀ i, i < L → m.testBit i = decide (x = c i)) (h0 : (D' 0 : Int) = D 0 + st) (hst : -1 ≤ st ∧ st ≤ 1)
    (hD : ∀ i, i < L → D' (i + 1) = min (min (D (i + 1) + 1) (D' i + 1)) (D i + if x = c i then 0 else 1)) :
    Col L (aR L R F m st) (aF L R F m st) D' ∧ (D' L : Int) = D L + aRet L R F m st ∧ -1 ≤ aRet L R F m st ∧ aRet L R F m st ≤ 1 := by
  have facts := row_facts C hm h0 hst hD
  refine ⟨⟨?_, ?_, fun i hi => ?_, fun i hi => ?_, fun i hi => ?_⟩, ?_⟩
  · unfold aR
    exact Nat.or_lt_two_pow (hDn_lt hL) (nt_lt _ _)
  · unfold aF
    exact Nat.lt_of_le_of_lt Nat.and_le_left (hUp_lt hL)
  · obtain ⟨u, d, n1, n2⟩ := facts i (by omega)
    have hf := C.fb i hi
    have hn := C.near i hi
    have he := hm i hi
    have hd := hD i hi
    unfold aR
    rw [Nat.testBit_or, hDn_bit L R m st i hi, nt_bit, Nat.testBit_or, Nat.testBit_or, hUp_bit L R F m st i hi, u, d, he, hf, decide_eq_true hi, Bool.true_and, Bool.eq_iff_iff]
    simp only [Bool.or_eq_true, Bool.not_eq_true', Bool.or_eq_false_iff, decide_eq_true_eq, decide_eq_false_iff_not]
    by_cases hx : x = c i
    · rw [if_pos hx] at hd
      simp only [hx, not_true, false_and, or_false]
      omega
    · rw [if_neg hx] at hd
      simp only [hx, not_false_iff, true_and]
      omega
  · obtain ⟨u, d, n1, n2⟩ := facts i (by omega)
    have hf := C.fb i hi
    have hn := C.near i hi
    have he := hm i hi
    have hd := hD i hi
    unfold aF
    rw [Nat.testBit_and, hUp_bit L R F m st i hi, Nat.testBit_or, u, he, hf, Bool.eq_iff_iff]
    simp only [Bool.and_eq_true, Bool.or_eq_true, decide_eq_true_eq]
    by_cases hx : x = c i
    · rw [if_pos hx] at hd
      simp only [hx, true_or, and_true]
      omega
    · rw [if_neg hx] at hd
      simp only [hx, false_or]
      omega
  · obtain ⟨u, d, n1, n2⟩ := facts i (by omega)
    have hn := C.near i hi
    have hd := hD i hi
    by_cases hx : x = c i
    · rw [if_pos hx] at hd
      omega
    · rw [if_neg hx] at hd
      omega
  · obtain ⟨u, d, n1, n2⟩ := facts L (Nat.le_refl _)
    obtain ⟨j, rfl⟩ : ∃ j, L = j + 1 := ⟨L - 1, by omega⟩
    have u' : (aUp (j + 1) R F m st).testBit j = decide (D' (j + 1) = D (j + 1) + 1) := u
    have d' : (aDn R m st).testBit j = decide (D' (j + 1) + 1 = D (j + 1)) := d
    have key : ∀ y : Nat, (y &&& 2 ^ (j + 1 - 1) ≠ 0) ↔ y.testBit j = true := fun y => by
      rw [Nat.add_sub_cancel]
      constructor
      · intro h
        cases e : y.testBit j with
        | true => rfl
        | false =>
          refine absurd (Nat.eq_of_testBit_eq fun i => ?_) h
          rw [Nat.testBit_and, Nat.testBit_two_pow, Nat.zero_testBit]
          by_cases q : j = i
          · subst q
            rw [e]
            rfl
          · rw [decide_eq_false q, Bool.and_false]
      · intro h e
        have z := congrArg (fun n => Nat.testBit n j) e
        simp only [Nat.testBit_and, Nat.testBit_two_pow, Nat.zero_testBit, h] at z
        simp at z
    unfold aRet
    by_cases h1 : aUp (j + 1) R F m st &&& 2 ^ (j + 1 - 1) ≠ 0
    · rw [if_pos h1]
      have := (key _).mp h1
      rw [u', decide_eq_true_eq] at this
      omega
    · rw [if_neg h1]
      have h1' : ¬ D' (j + 1) = D (j + 1) + 1 := fun e => h1 ((key _).mpr (by rw [u']; exact decide_eq_true e))
      by_cases h2 : aDn R m st &&& 2 ^ (j + 1 - 1) ≠ 0
      · rw [if_pos h2]
        have := (key _).mp h2
        rw [d', decide_eq_true_eq] at this
        omega
      · rw [if_neg h2]
        have h2' : ¬ D' (j + 1) + 1 = D (j + 1) := fun e => h2 ((key _).mpr (by rw [d']; exact decide_eq_true e))
        omega
end
theorem col_0 (L lo : Nat) : Col L (2 ^ L - 1) 0 (fun i => lo + i) := by
  have := Nat.two_pow_pos L
  refine ⟨by omega, this, fun i hi => ?_, fun i hi => ?_, fun i hi => by omega⟩
  · rw [Nat.testBit_two_pow_sub_one, decide_eq_true hi, decide_eq_true (by omega)]
  · rw [Nat.zero_testBit, decide_eq_false (by omega)]
/-- where a base stands -/
def mask : List Nat → Nat → Nat
  | [], _ => 0
  | c :: l, x => (if c = x then 1 else 0) + 2 * mask l x
theorem mask_bit : ∀ (l : List Nat) (x i : Nat), (mask l x).testBit i = decide (l[i]? = some x)
  | [], x, i => by
    rw [mask, Nat.zero_testBit]
    simp
  | c :: l, x, 0 => by
    rw [mask, Nat.testBit_zero]
    by_cases h : c = x
    · rw [if_pos h]
      simp [h]
    · rw [if_neg h]
      simp [h]
  | c :: l, x, i + 1 => by
    rw [mask, Nat.testBit_succ, show ((if c = x then 1 else 0) + 2 * mask l x) / 2 = mask l x by split <;> omega, mask_bit l x i]
    rfl
theorem mask_snoc (l : List Nat) (c x : Nat) : mask (l ++ [c]) x = if c = x then mask l x ||| 2 ^ l.length else mask l x := by
  refine Nat.eq_of_testBit_eq fun i => ?_
  rw [mask_bit]
  by_cases h : c = x
  · rw [if_pos h, Nat.testBit_or, mask_bit, Nat.testBit_two_pow]
    by_cases hi : i < l.length
    · rw [List.getElem?_append_left hi, decide_eq_false (show ¬ l.length = i by omega), Bool.or_false]
    · by_cases e : i = l.length
      · subst e
        simp [h]
      · rw [List.getElem?_append_right (by omega), List.getElem?_eq_none (show [c].length ≤ i - l.length by simp; omega), List.getElem?_eq_none (show l.length ≤ i by omega), decide_eq_false (show ¬ l.length = i by omega)]
        rfl
  · rw [if_neg h, mask_bit]
    by_cases hi : i < l.length
    · rw [List.getElem?_append_left hi]
    · by_cases e : i = l.length
      · subst e
        simp [h]
      · rw [List.getElem?_append_right (by omega), List.getElem?_eq_none (show [c].length ≤ i - l.length by simp; omega), List.getElem?_eq_none (show l.length ≤ i by omega)]
def masks (l : List Nat) : List Nat := [mask l 0, mask l 1, mask l 2, mask l 3]
theorem masks_get (l : List Nat) {x : Nat} (h : x < 4) : (masks l)[x]? = some (mask l x) := by
  match x, h with
  | 0, _ => rfl
  | 1, _ => rfl
  | 2, _ => rfl
  | 3, _ => rfl
theorem masks_snoc (l : List Nat) {c : Nat} (h : c < 4) : masks (l ++ [c]) = (masks l).set c (mask l c ||| 2 ^ l.length) := by
  unfold masks
  simp only [mask_snoc]
  match c, h with
  | 0, _ => rfl
  | 1, _ => rfl
  | 2, _ => rfl
  | 3, _ => rfl
end Gr

/-! Numbers of many bits; attributes as pairs; a test that merely changes a value. -/
namespace Br
open PySem PySem.Spec PyProof.Rows L2 Gr
theorem bits_le {i : Int} {k : Nat} (h : i.natAbs < 2 ^ k) : Builtin.Int.intBits i ≤ k := by
  unfold Builtin.Int.intBits
  by_cases e : i = 0
  · simp [e]
  · rw [if_neg (by simpa using e)]
    have : i.natAbs.log2 < k := (Nat.log2_lt (by omega)).mpr h
    omega
def CShl (i j : Int) : Prop := 0 ≤ j ∧ j ≤ 100000 ∧ i.natAbs < 2 ^ 1000
theorem op_shlB {X : Cx} : OpR X (binaryOp .LShift) (rI CShl fun i j => .int (i * 2 ^ j.toNat)) := opI fun _ _ _ _ _ _ _ hc q => lshift_int hc.1 (by
  have := bits_le hc.2.2
  have := hc.2.1
  omega) q
theorem not_mask (L y : Nat) : Builtin.bitAnd ((2 ^ L - 1 : Nat) : Int) (Builtin.bitNot (y : Int)) = ((nt L y : Nat) : Int) := by
  rw [PyProof.Rows.bitAnd_not, and_nat]
  unfold nt
  have : (2 ^ L - 1) &&& y ≤ 2 ^ L - 1 := Nat.and_le_left
  omega
theorem sh1 (y : Nat) : (y : Int) * 2 ^ (1 : Int).toNat = ((y * 2 : Nat) : Int) := by
  show (y : Int) * 2 = _
  omega
theorem or_one (y : Nat) : Builtin.bitOr (y : Int) 1 = ((y ||| 1 : Nat) : Int) := or_nat y 1
theorem pow_cast (L : Nat) : (1 : Int) * 2 ^ ((L : Int)).toNat = ((2 ^ L : Nat) : Int) := by
  rw [Int.one_mul, Int.toNat_natCast, Int.natCast_pow]
  rfl
theorem look_hit (k : Str) (v : V) (r : List (Str × V)) : ((k, v) :: r).lookup k = some v := by
  simp [List.lookup]
theorem look_miss {k x : Str} (h : ¬ x = k) (v : V) (r : List (Str × V)) : ((k, v) :: r).lookup x = r.lookup x := by
  have hb : (x == k) = false := beq_eq_false_iff_ne.mpr h
  simp only [List.lookup, hb]
theorem put_hit (k : Str) (v u : V) (r : List (Str × V)) : putF k v ((k, u) :: r) = (k, v) :: r := by
  show (if k = k then (k, v) :: r else _) = _
  rw [if_pos rfl]
theorem put_miss {k x : Str} (h : ¬ k = x) (v u : V) (r : List (Str × V)) : putF x v ((k, u) :: r) = (k, u) :: putF x v r := by
  show (if k = x then _ else (k, u) :: putF x v r) = _
  rw [if_neg h]
theorem put_nil (x : Str) (v : V) : putF x v [] = [(x, v)] := rfl
/-- two ways to one end -/
theorem if_either {c : Prop} [Decidable c] {A B G : Prop} (g : G) (h1 : c → G → A) (h2 : ¬ c → G → B) : if c then A else B := by
  by_cases h : c
  · rw [if_pos h]; exact h1 h g
  · rw [if_neg h]; exact h2 h g
end Br
namespace Br
open PySem PySem.Spec PyProof.Rows L2 Gr
end Br

/-! list.count of whole numbers; list(reversed(list)); max(list, default=..). -/
namespace Br
open PySem PySem.Spec PyProof.Rows L2
open Sem (wp)
section
variable {X : Cx}
def rCount (K : PySem.W.Frag) : V → List V → Hp → VK → Prop := fun x xs H Q => ∃ (a : Addr) (ns : List Int) (k : Int), x = V.ref a ∧ xs = [V.int k] ∧ SqL K H a (ns.map V.int) ∧ Q (.int ((ns.count k : Nat) : Int)) H
theorem mt_count1 : MtR X "list.count" (rCount X.K) := by
  intro pins s σ H x xs v us Q I rx rs h
  obtain ⟨a, ns, k, rfl, rfl, hq, q⟩ := h
  cases rx
  obtain ⟨u, rfl, ru⟩ := Vals.one rs
  obtain ⟨t, rfl⟩ := ru
  obtain ⟨its, r, p, hz⟩ := I.list hq
  exact count_list_ints p.isList (Vals.ints r) ⟨.int _, H, I.tok _, ⟨_, rfl⟩, q⟩
end
theorem lri_no_len : typeLookup (.type "list_reverseiterator") "__len__" = pure none := by rw [typeLookup_type, builtinLookup_eq_fast]; kernel_rfl
theorem lri_hint : typeLookup (.type "list_reverseiterator") "__length_hint__" = pure (some (.builtin "list_reverseiterator.__length_hint__")) := by rw [typeLookup_type, builtinLookup_eq_fast]; kernel_rfl
section
variable {prog : Program} {w : World} {A : Around} {E : Value → Shared → Prop} {s : Shared}
theorem hint_rev {I l : Addr} {i : Int} {Q : Bool → Shared → Prop} (hit : s.heap.IsRevIter I l i) (h : Q false s) : wpAny (model prog w) A (Builtin.List.listLengthHint (.ref I)) Q E s := by
  unfold Builtin.List.listLengthHint
  refine wpAny_bind (wpAny_specialOf hit.typeIs lri_no_len ?_)
  refine wpAny_bind (wpAny_specialOf hit.typeIs lri_hint ?_)
  generalize hid : ("list_reverseiterator.__length_hint__" : String) = id0
  wp_delta
  rw [show splitId id0 = some ("list_reverseiterator", "__length_hint__") from by subst hid; decide +kernel]
  subst hid
  refine wpAny_bind (wpAny_isInstance (T := "list_reverseiterator") (b := true) hit.typeIs (by rw [isSubtype_type]; kernel_rfl) ?_)
  refine wpAny_ite_split (fun hab => absurd hab (by decide)) (fun _ => ?_)
  refine wpAny_ite_split (fun _ => ?_) (fun hab => absurd (by decide +kernel) hab)
  refine wpAny_ite_split (fun hab => absurd hab (by decide +kernel)) (fun _ => ?_)
  exact wpAny_pure h
end
end Br
namespace Br
open PySem PySem.Spec PyProof.Rows L2
open Sem (wp)
section
variable {prog : Program} {w : World} {A : Around} {s : Shared} {R : Result → Shared → Prop}
theorem extend_rev {I l : Addr} {items : Array Value} (hh : A.handled = none) (hne : l ≠ I) (hit : s.heap.IsRevIter I l ((items.size : Int) - 1)) (hl : s.heap.IsList l items) (hlen : items.size ≤ sizeLine) (S : Addr) (res : Value) (c₀ : Nat) (hSI : S ≠ I) (hSl : S ≠ l)
    (hS : s.heap.get? S = some { cls := .type "list", data := .seq #[] c₀ })
    (hR : ∀ h' tk acc' c', (∀ b o, b ≠ S → b ≠ I → s.heap.get? b = some o → h'.get? b = some o) → h'.get? S = some { cls := .type "list", dict := none, data := .seq acc' c', slots := #[] } →
      ItemsOf (fun i v => items[items.size - 1 - i]? = some v) acc' items.size → R (.ok (.ret res)) { s with heap := h', toks := tk }) :
    wpAny (model prog w) A.in1 (Builtin.List.listExtendWith (.ref S) (.ref I) res)
      (fun fin s' => match fin with | .done f => R (.ok f) s' | .again c' => c'.quiet = true ∧ codeAny (model prog w) A c' R s') (fun e s' => R (.error e) s') s := by
  have W := (Walks.listRev (prog := prog) (w := w) (A := A.in1) hh I l hne items).toS
  have hSf : S ∉ [I, l] := by simp [hSI, hSl]
  unfold Builtin.List.listExtendWith
  refine wpAny_bind (wpAny_typeOf hit.typeIs ?_)
  have h1 : Builtin.List.listSameRef (.ref S) (.ref I) = false := by simp [Builtin.List.listSameRef, hSI]
  have h2 : (Value.type "list_reverseiterator" == Value.type "list") = false := by decide
  have h3 : (Value.type "list_reverseiterator" == Value.type "tuple") = false := by decide
  simp only [h1, h2, h3, Bool.or_false, Bool.false_eq_true, if_false]
  refine wpAny_bind (wpAny_pyIter_revIter hit ?_)
  refine wpAny_bind (wpAny_holding (hint_rev hit ?_))
  refine wpAny_ite_split (fun hab => absurd hab (by decide)) (fun _ => wpAny_pure ⟨plainId_quiet F.plain_extend_loop _, ?_⟩)
  refine codeAny_extend_loopS W hlen S hSf res items.size 0 _ #[] c₀ rfl (Nat.zero_le _) ⟨Nat.zero_le _, by simpa using hit, hl⟩ hS (ItemsOf.nil _) fun s' acc' c' hm hS' hacc => ?_
  rw [Moved.eq_with hm]
  refine hR s'.heap s'.toks acc' c' (fun b o hb hb2 e => hm.heap b o (fun hmem => ?_) e) hS' hacc
  rcases List.mem_cons.mp hmem with e' | hmem
  · exact hb e'
  · exact hb2 (List.mem_singleton.mp hmem)
theorem list_init_rev {I l : Addr} {items : Array Value} (hh : A.handled = none) (hne : l ≠ I) (hit : s.heap.IsRevIter I l ((items.size : Int) - 1)) (hl : s.heap.IsList l items) (hlen : items.size ≤ sizeLine) (S : Addr) (hSI : S ≠ I) (hSl : S ≠ l)
    (hS : s.heap.get? S = some { cls := .type "list", data := .seq #[] })
    (hR : ∀ h' tk acc' c', (∀ b o, b ≠ S → b ≠ I → s.heap.get? b = some o → h'.get? b = some o) → h'.get? S = some { cls := .type "list", dict := none, data := .seq acc' c', slots := #[] } →
      ItemsOf (fun i v => items[items.size - 1 - i]? = some v) acc' items.size → R (.ok (.ret .none)) { s with heap := h', toks := tk }) :
    wpAny (model prog w) A.in1 (Builtin.«list.__init__» ⟨[.ref S, .ref I], []⟩)
      (fun fin s' => match fin with | .done f => R (.ok f) s' | .again c' => c'.quiet = true ∧ codeAny (model prog w) A c' R s') (fun e s' => R (.error e) s') s := by
  show wpAny _ _ (do let old ← Builtin.List.listItems (.ref S); Builtin.List.listUpdate (.ref S) (fun _ => #[]); letGo old.toList.reverse; Builtin.List.listExtendWith (.ref S) (.ref I) .none) _ _ s
  refine wpAny_bind ?_
  unfold Builtin.List.listItems
  refine wpAny_bind (wpAny_seqItems hS rfl (wpAny_pure ?_))
  show wpAny _ _ (updateSeq S (fun _ => #[]) >>= fun _ => letGo (#[] : Array Value).toList.reverse >>= fun _ => Builtin.List.listExtendWith (.ref S) (.ref I) .none) _ _ s
  refine wpAny_bind (wpAny_updateSeq hS rfl ?_)
  have hS₂ := Heap.get?_update_self (Obj.mapSeq (fun _ => (#[] : Array Value))) hS rfl
  have oth : ∀ b o, b ≠ S → s.heap.get? b = some o → (s.heap.update S (Obj.mapSeq (fun _ => (#[] : Array Value)))).get? b = some o :=
    fun b o hb e => (Heap.get?_update_other _ _ (Ne.symm hb)).trans e
  refine wpAny_bind (wpAny_letGo ?_)
  refine extend_rev hh hne (hit.at fun o e => oth I o (Ne.symm hSI) e) (hl.at fun o e => oth l o (Ne.symm hSl) e) hlen S .none _ hSI hSl hS₂ fun h' tk acc' c' hk hS' hacc => ?_
  exact hR h' tk acc' c' (fun b o hb hb2 e => hk b o hb hb2 (oth b o hb e)) hS' hacc
end
theorem call_list_rev {prog : Program} {w : World} {A : Around} {E : Value → Shared → Prop} {s : Shared} {Q : Value → Shared → Prop} {I l : Addr} {items : Array Value} (hh : A.handled = none) (hne : l ≠ I) (hit : s.heap.IsRevIter I l ((items.size : Int) - 1)) (hl : s.heap.IsList l items) (hlen : items.size ≤ sizeLine)
    (hQ : ∀ h' tk acc' c', (∀ b o, b ≠ I → s.heap.get? b = some o → h'.get? b = some o) →
      h'.get? s.heap.objs.size = some { cls := .type "list", dict := none, data := .seq acc' c', slots := #[] } → ItemsOf (fun i v => items[items.size - 1 - i]? = some v) acc' items.size → Q (.ref s.heap.objs.size) { s with heap := h', toks := tk }) :
    wpAny (model prog w) A (call (.type "list") [.ref I]) Q E s := by
  refine callType_codes (Q₁ := fun obj s₁ => obj = .ref s.heap.objs.size ∧ s₁ = { s with heap := s.heap.push { cls := .type "list", data := .seq #[] } }) F.called_list (F.typeCall_list_1 _) F.entry_list_init
    (code_list_new _ ⟨rfl, rfl⟩) fun obj s₁ h₁ => ?_
  obtain ⟨rfl, rfl⟩ := h₁
  have hS : (s.heap.push { cls := .type "list", data := .seq #[] }).get? s.heap.objs.size = some { cls := .type "list", data := .seq #[] } := Heap.get?_push_size _ rfl
  have hI : s.heap.objs.size ≠ I := by obtain ⟨o, e, _⟩ := hit; exact Nat.ne_of_gt (Heap.lt_size e)
  have hL : s.heap.objs.size ≠ l := by obtain ⟨o, e, _⟩ := hl; exact Nat.ne_of_gt (Heap.lt_size e)
  refine ⟨⟨_, hS, rfl⟩, F.args_list_init_2 _ _, list_init_rev (A := A.in1) hh hne (hit.at fun o e => Heap.get?_push_of_some _ e) (hl.at fun o e => Heap.get?_push_of_some _ e) hlen _ hI hL hS fun h' tk acc' c' hk hS' hacc => ?_⟩
  exact ⟨rfl, hQ h' tk acc' c' (fun b o hb e => hk b o (Nat.ne_of_lt (Heap.lt_size e)) hb (Heap.get?_push_of_some _ e)) hS' hacc⟩
theorem items_rev {its : List Value} {acc : Array Value} (h : ItemsOf (fun i v => its.toArray[its.toArray.size - 1 - i]? = some v) acc its.toArray.size) : acc.toList = its.reverse := by
  obtain ⟨h1, h2⟩ := h
  refine List.ext_getElem? fun i => ?_
  by_cases hi : i < its.length
  · have hi' : i < acc.size := by rw [h1]; simpa using hi
    have e : acc[i]? = some acc[i] := Array.getElem?_eq_getElem hi'
    have := h2 i _ e
    rw [List.getElem?_reverse hi]
    simp at this
    rw [this]
    simp [hi']
  · rw [List.getElem?_eq_none (by simp [h1]; omega), List.getElem?_eq_none (by simp; omega)]
section
variable {X : Cx}
def tListRev (K : PySem.W.Frag) (te : TE) : TE := fun σ H Q => te σ H fun x H1 => ∃ a xs, x = .ref a ∧ SqL K H1 a xs ∧ ∀ l, H1 l = none → Q (.ref l) (upd H1 l (.lst xs.reverse))
theorem pe_listrev {e : Expr} {te : TE} {p1 p2 pos1 pos2 : Pos} (hcalm : X.calm = true) (hg1 : Gl X "list") (hm1 : X.mg "list" = none) (hg2 : Gl X "reversed") (hm2 : X.mg "reversed" = none) (he : PE X e te)
    (hs1 : starEach [.Call (.Name "reversed" p2) [e] [] pos2] X.env = [(false, eval (.Call (.Name "reversed" p2) [e] [] pos2) X.env)] := by rfl) (hs2 : starEach [e] X.env = [(false, eval e X.env)] := by rfl) :
    PE X (.Call (.Name "list" p1) [.Call (.Name "reversed" p2) [e] [] pos2] [] pos1) (tListRev X.K te) := by
  intro pins s σ H Q I h
  refine wpAny_Call_Name_kw (ld_blt I hg1 hm1 PyProof.Rows.boot_list ?_)
  refine PyProof.Rows.callWith_type1 ?_ hs1 rfl
  rw [hs1]
  show wpAny _ _ (spliced ((false, eval (.Call (.Name "reversed" p2) [e] [] pos2) X.env) :: [])) _ _ s
  refine Calls.spliced_cons ?_
  let Q' : List V → Hp → Prop := fun vs H1 => match vs with
    | [x] => ∃ a xs, x = .ref a ∧ SqL X.K H1 a xs ∧ ∀ l, H1 l = none → Q (.ref l) (upd H1 l (.lst xs.reverse))
    | _ => False
  have h' : tCons te tNil σ H Q' := h
  refine Call_ (ld_blt I hg2 hm2 boot_reversed5 (PyProof.Rows.callWith_type1 (thn ((pa_cons he pa_nil hs2) pos2 pins s σ H Q' I h') fun us s1 ⟨vs, H1, I1, r1, q1⟩ => ?_) hs2 rfl))
  obtain ⟨x, rfl⟩ : ∃ x, vs = [x] := by
    match vs, q1 with
    | [x], _ => exact ⟨x, rfl⟩
  obtain ⟨a, xs, e, hq, q⟩ := q1
  cases r1 with
  | cons r rr =>
    cases rr
    subst e
    cases r
    obtain ⟨its, rv, p', hz⟩ := I1.list hq
    have hlen := rv.length
    refine call_reversed_list p'.isList (Calls.spliced_nil ?_)
    have hit : (s1.heap.push (revObj a ((its.toArray.size : Int) - 1))).IsRevIter s1.heap.objs.size a ((its.toArray.size : Int) - 1) := ⟨_, Heap.get?_push_size _ rfl, rfl, rfl⟩
    have hne : a ≠ s1.heap.objs.size := Nat.ne_of_lt p'.lt
    have I2 : Inv X pins σ H1 { s1 with heap := s1.heap.push (revObj a ((its.toArray.size : Int) - 1)) } := I1.kept (t' := s1.toks) fun b ob e => Heap.get?_push_of_some _ e
    refine call_list_rev (I1.ok.hd hcalm) hne hit (p'.isList.at fun o e => Heap.get?_push_of_some _ e) (by simp only [List.size_toArray]; omega) fun h' tk acc' c' hk hS hacc => ?_
    have hv : Vals xs.reverse acc'.toList := by rw [items_rev hacc]; exact Vals.reverse rv
    refine ⟨.ref _, _, I2.turnedNew (t' := tk) (ch := [s1.heap.objs.size]) (T := (s1.heap.push (revObj a ((its.toArray.size : Int) - 1))).objs.size) (ob := .lst xs.reverse) (fun b o hb e => hk b o (fun z => hb (by simp [z])) e) (fun b hb => ?_) (Nat.le_refl _) ?_, rfl, q _ (I2.hok.fresh (Nat.le_refl _))⟩
    · have : b = s1.heap.objs.size := by simpa using hb
      rw [this]
      exact I1.fpOk (Nat.le_refl _) (I1.hok.fresh (Nat.le_refl _))
    · exact ⟨by rw [List.length_reverse]; exact hz, acc'.toList, c', hv, by simpa using hS⟩
end
end Br

/-! max(list, default=..). -/
namespace Br
open PySem PySem.Spec PyProof.Rows L2
open Sem (wp)
theorem args_max_dflt (a v : Value) : argsOk "max" ⟨[a], [(Str.ofString "default", v)]⟩ := by unfold argsOk; kernel_rfl
section
variable {prog : Program} {w : World} {A : Around} {R : Result → Shared → Prop} {I : Addr} {fp wr : List Addr} {n : Nat} {P : Nat → Value → Prop} {St : Nat → Heap → Prop}
theorem max_loopK (kw : List (Str × Value)) (W : Walks prog w A.in1 I fp wr n P St) (bt : Nat → Nat → Bool) (hcmp : CmpOf prog w A.in1 .Gt P bt) (S : Addr) (hSf : S ∉ fp) :
    ∀ (k j : Nat) (s : Shared) (vb : Value) (c : Nat), n - (j + 1) = k → j + 1 ≤ n → St (j + 1) s.heap → P (argBest bt j) vb →
    s.heap.get? S = some { cls := .type "list", dict := none, data := .seq #[vb, vb] c, slots := #[] } →
    (∀ v h' tk, P (argBest bt (n - 1)) v → (∀ b o, b ∉ wr → b ≠ S → s.heap.get? b = some o → h'.get? b = some o) → R (.ok (.ret v)) { s with heap := h', toks := tk }) →
    codeAny (model prog w) A (.builtin "max.loop" ⟨[.ref I, .none, .ref S], kw⟩) R s := by
  have hSw : S ∉ wr := fun h => hSf (W.sub _ h)
  have hname : (toString "max" ++ toString ".loop" : String) = "max.loop" := by decide
  intro k
  induction k with
  | zero =>
    intro j s vb c hk hj hst hPb hS hR
    have hin : j + 1 = n := by omega
    refine codeAny_builtin F.entry_max_loop ?_
    rw [Around.under_plainId F.plain_max_loop _]
    show wpAny _ A.in1 (seqItems? (.ref S) >>= _) _ _ s
    refine wpAny_bind (wpAny_seqItems hS rfl ?_)
    show wpAny _ A.in1 (tryCatch (pyNext (.ref I)) _ >>= _) _ _ s
    refine wpAny_bind (wpAny_tryCatch (W.done s _ _ (hin ▸ hst) fun h' tk hk' => ?_))
    have hS' := hk' S _ hSw hS
    show wpAny _ A.in1 (updateSeq S (fun _ => #[]) >>= _) _ _ _
    refine wpAny_bind ?_
    refine wpAny_updateSeq hS' rfl (wpAny_bind (wpAny_letGo (wpAny_pure ?_)))
    refine hR vb _ tk (by rw [← hin]; exact hPb) fun b o hbw hbS e => (Heap.get?_update_other _ _ (Ne.symm hbS)).trans (hk' b o hbw e)
  | succ k ih =>
    intro j s vb c hk hj hst hPb hS hR
    have hlt : j + 1 < n := by omega
    refine codeAny_builtin F.entry_max_loop ?_
    rw [Around.under_plainId F.plain_max_loop _]
    show wpAny _ A.in1 (seqItems? (.ref S) >>= _) _ _ s
    refine wpAny_bind (wpAny_seqItems hS rfl ?_)
    show wpAny _ A.in1 (tryCatch (pyNext (.ref I)) _ >>= _) _ _ s
    refine wpAny_bind (wpAny_tryCatch (W.item (j + 1) s _ _ hlt hst fun v h' tk hP hst' hk' => ?_))
    have hS' := hk' S _ hSw hS
    show wpAny _ A.in1 (tryCatch (holding [v, v] (richCompare .Gt v vb >>= _)) _ >>= _) _ _ _
    refine wpAny_bind (wpAny_tryCatch (wpAny_holding (wpAny_bind (hcmp (j + 1) (argBest bt j) v vb _ _ _ hP hPb ?_))))
    refine wpAny_bind (wpAny_holding (wpAny_truthy_bool ?_))
    refine wpAny_bind (wpAny_letGo (wpAny_pure ?_))
    cases hb : bt (j + 1) (argBest bt j) with
    | true =>
      simp only [if_true]
      refine wpAny_bind ?_
      refine wpAny_updateSeq hS' rfl (wpAny_bind (wpAny_letGo ?_))
      rw [hname]
      refine wpAny_pure ⟨plainId_quiet F.plain_max_loop _, ih (j + 1) _ v _ (by omega) hlt (W.frame _ _ _ hst' fun b hbf o e => ?_) (by simp only [argBest, hb, if_true]; exact hP) (Heap.get?_update_self _ hS' rfl)
        fun v' h'' tk'' hP' hk'' => ?_⟩
      · exact (Heap.get?_update_other _ _ (fun h : S = b => hSf (by rw [h]; exact hbf))).trans e
      · exact hR v' h'' tk'' hP' fun b o hbw hbS e => hk'' b o hbw hbS ((Heap.get?_update_other _ _ (Ne.symm hbS)).trans (hk' b o hbw e))
    | false =>
      simp only [Bool.false_eq_true, if_false]
      refine wpAny_bind (wpAny_letGo ?_)
      rw [hname]
      refine wpAny_pure ⟨plainId_quiet F.plain_max_loop _, ih (j + 1) _ vb c (by omega) hlt hst' (by simp only [argBest, hb, Bool.false_eq_true, if_false]; exact hPb) hS' fun v' h'' tk'' hP' hk'' => ?_⟩
      exact hR v' h'' tk'' hP' fun b o hbw hbS e => hk'' b o hbw hbS (hk' b o hbw e)
theorem max_firstK (kw : List (Str × Value)) (W : Walks prog w A.in1 I fp wr n P St) (bt : Nat → Nat → Bool) (hcmp : CmpOf prog w A.in1 .Gt P bt) (S : Addr) (hSf : S ∉ fp) (hn : 0 < n) {s : Shared} {c : Nat} (hst : St 0 s.heap)
    (hS : s.heap.get? S = some { cls := .type "list", dict := none, data := .seq #[] c, slots := #[] })
    (hR : ∀ v h' tk, P (argBest bt (n - 1)) v → (∀ b o, b ∉ wr → b ≠ S → s.heap.get? b = some o → h'.get? b = some o) → R (.ok (.ret v)) { s with heap := h', toks := tk }) :
    codeAny (model prog w) A (.builtin "max.loop" ⟨[.ref I, .none, .ref S], kw⟩) R s := by
  have hSw : S ∉ wr := fun h => hSf (W.sub _ h)
  have hname : (toString "max" ++ toString ".loop" : String) = "max.loop" := by decide
  refine codeAny_builtin F.entry_max_loop ?_
  rw [Around.under_plainId F.plain_max_loop _]
  show wpAny _ A.in1 (seqItems? (.ref S) >>= _) _ _ s
  refine wpAny_bind (wpAny_seqItems hS rfl ?_)
  show wpAny _ A.in1 (tryCatch (pyNext (.ref I)) _ >>= _) _ _ s
  refine wpAny_bind (wpAny_tryCatch (W.item 0 s _ _ hn hst fun v h' tk hP hst' hk' => ?_))
  have hS' := hk' S _ hSw hS
  show wpAny _ A.in1 (updateSeq S (fun _ => #[v, v]) >>= _) _ _ _
  refine wpAny_bind ?_
  refine wpAny_updateSeq hS' rfl ?_
  rw [hname]
  refine wpAny_pure ⟨plainId_quiet F.plain_max_loop _, max_loopK kw W bt hcmp S hSf _ 0 _ v _ rfl hn (W.frame _ _ _ hst' fun b hbf o e => ?_) hP (Heap.get?_update_self _ hS' rfl) fun v' h'' tk'' hP' hk'' => ?_⟩
  · exact (Heap.get?_update_other _ _ (fun h : S = b => hSf (by rw [h]; exact hbf))).trans e
  · exact hR v' h'' tk'' hP' fun b o hbw hbS e => hk'' b o hbw hbS ((Heap.get?_update_other _ _ (Ne.symm hbS)).trans (hk' b o hbw e))
theorem max_noneK (x : Str) (d : Value) (hn : n = 0) (W : Walks prog w A.in1 I fp wr n P St) (S : Addr) (hSf : S ∉ fp) {s : Shared} {c : Nat} (hst : St 0 s.heap)
    (hS : s.heap.get? S = some { cls := .type "list", dict := none, data := .seq #[] c, slots := #[] })
    (hR : ∀ h' tk, (∀ b o, b ∉ wr → b ≠ S → s.heap.get? b = some o → h'.get? b = some o) → R (.ok (.ret d)) { s with heap := h', toks := tk }) :
    codeAny (model prog w) A (.builtin "max.loop" ⟨[.ref I, .none, .ref S], [(x, d)]⟩) R s := by
  refine codeAny_builtin F.entry_max_loop ?_
  rw [Around.under_plainId F.plain_max_loop _]
  show wpAny _ A.in1 (seqItems? (.ref S) >>= _) _ _ s
  refine wpAny_bind (wpAny_seqItems hS rfl ?_)
  show wpAny _ A.in1 (tryCatch (pyNext (.ref I)) _ >>= _) _ _ s
  refine wpAny_bind (wpAny_tryCatch (W.done s _ _ (by rw [hn]; exact hst) fun h' tk hk' => ?_))
  refine wpAny_bind (wpAny_rule (wpAny_pure ?_))
  exact hR h' tk fun b o hbw _ e => hk' b o hbw e
end
section
variable {prog : Program} {w : World} {A : Around} {E : Value → Shared → Prop} {s : Shared}
theorem max_dflt {l : Addr} {its : List Value} {ns : List Int} {d : Value} {Q : Value → Shared → Prop} (hh : A.handled = none) (hl : s.heap.IsList l its.toArray) (hi : IntsAre its ns)
    (h0 : ns = [] → ∀ h' tk, (∀ b o, s.heap.get? b = some o → h'.get? b = some o) → Q d { s with heap := h', toks := tk })
    (h1 : ∀ h' tk M t', (∀ b o, s.heap.get? b = some o → h'.get? b = some o) → M ∈ ns → (∀ a, a ∈ ns → a ≤ M) → Q (.int M t') { s with heap := h', toks := tk }) : wpAny (model prog w) A (call (.builtin "max") [.ref l] [(Str.ofString "default", d)]) Q E s := by
  have hname : (toString "max" ++ toString ".loop" : String) = "max.loop" := by decide
  obtain ⟨xs, e⟩ := hi.allInts.items
  have hn : numsOf (intItems xs).toList = ns := by rw [← e]; exact hi.numsOf
  rw [nums_intItems] at hn
  subst hn
  rw [e] at hl
  refine PyProof.Rows.kmk_tree F.kind_max F.plain_max F.entry_max (args_max_dflt _ _) ?_
  show wpAny _ A.in1 (Builtin.Builtins.bindParams "max" ["key", "default"] 0 ⟨[], [(Str.ofString "default", d)]⟩ >>= _) _ _ s
  refine wpAny_bind (wpAny_of_eq (show Builtin.Builtins.bindParams "max" ["key", "default"] 0 ⟨[], [(Str.ofString "default", d)]⟩ = pure [none, some d] from rfl) ?_)
  refine wpAny_bind (wpAny_pure ?_)
  refine wpAny_bind (iter_intList hl fun s₂ e2 st hfp hlI => ?_)
  subst e2
  refine wpAny_bind (wpAny_newObj_type ?_)
  have W := Walks.list (prog := prog) (w := w) (A := A.in1) hh _ l hlI (intItems xs)
  rw [hname]
  refine wpAny_pure ⟨plainId_quiet F.plain_max_loop _, ?_⟩
  by_cases hz : 0 < xs.size
  · refine max_firstK _ W _ (CmpOf.ints_gt (numAt xs) (fun _ _ => intItems_at)) _ (fun hm => Nat.lt_irrefl _ (hfp _ hm)) (by simpa [intItems] using hz) (W.frame _ _ _ st fun b _ o e => Heap.get?_push_of_some _ e) (Heap.get?_push_size _ rfl) fun v h' tk hP hk => ?_
    have hv : (intItems xs)[argBest (fun i j => decide (numAt xs i > numAt xs j)) (xs.size - 1)]? = some v := by simpa [intItems] using hP
    obtain ⟨t, rfl⟩ := intItems_at hv
    obtain ⟨g1, g2⟩ := argBest_gt (numAt xs) (xs.size - 1)
    refine h1 h' tk _ t (old_kept fun b o hbw e => hk b o hbw (Nat.ne_of_lt (Heap.lt_size e)) (Heap.get?_push_of_some _ e)) ?_ fun a ha => ?_
    · rw [numAt_eq]; exact PySem.getD_mem (by rw [List.length_map, Array.length_toList]; omega)
    · obtain ⟨j, hj, rfl⟩ := mem_getD ha
      rw [List.length_map, Array.length_toList] at hj
      rw [← numAt_eq]; exact g2 j (by omega)
  · have hx : xs = #[] := Array.eq_empty_of_size_eq_zero (by omega)
    subst hx
    refine max_noneK _ d (by simp [intItems]) W _ (fun hm => Nat.lt_irrefl _ (hfp _ hm)) (W.frame _ _ _ st fun b _ o e => Heap.get?_push_of_some _ e) (Heap.get?_push_size _ rfl) fun h' tk hk => ?_
    exact h0 rfl h' tk (old_kept fun b o hbw e => hk b o hbw (Nat.ne_of_lt (Heap.lt_size e)) (Heap.get?_push_of_some _ e))
end
section
variable {X : Cx}
def tMaxD (K : PySem.W.Frag) (te td : TE) : TE := fun σ H Q => te σ H fun x H1 => td σ H1 fun y H2 => ∃ a ns d, x = .ref a ∧ y = .int d ∧ SqL K H2 a (ns.map V.int) ∧ (ns = [] → Q (.int d) H2) ∧ ∀ m, m ∈ ns → (∀ z, z ∈ ns → z ≤ m) → Q (.int m) H2
theorem pe_maxD {e f : Expr} {te td : TE} {p pos kpos : Pos} (hcalm : X.calm = true) (hg : Gl X "max") (hm : X.mg "max" = none) (he : PE X e te) (hd : PE X f td)
    (hs : starEach [e] X.env = [(false, eval e X.env)] := by rfl) : PE X (.Call (.Name "max" p) [e] [⟨some "default", f, kpos⟩] pos) (tMaxD X.K te td) := by
  intro pins s σ H Q I h
  refine wpAny_Call_Name_kw (ld_blt I hg hm PyProof.Rows.boot_max ?_)
  let Q2 : V → List V → Hp → Prop := fun x ys H2 => match ys with
    | [y] => ∃ a ns d, x = .ref a ∧ y = .int d ∧ SqL X.K H2 a (ns.map V.int) ∧ (ns = [] → Q (.int d) H2) ∧ ∀ m, m ∈ ns → (∀ z, z ∈ ns → z ≤ m) → Q (.int m) H2
    | _ => False
  let Q1 : List V → Hp → Prop := fun xs H1 => match xs with
    | [x] => tCons td tNil σ H1 (Q2 x)
    | _ => False
  have h' : tCons te tNil σ H Q1 := h
  refine PyProof.Rows.callWith_kw (thn ((pa_cons he pa_nil hs) pos pins s σ H Q1 I h') fun us s1 ⟨vs, H1, I1, r1, q1⟩ => ?_) (by rw [hs]; rfl) (by rw [hs]; rfl)
  obtain ⟨x, rfl⟩ : ∃ x, vs = [x] := by
    match vs, q1 with
    | [x], _ => exact ⟨x, rfl⟩
  have q1' : tCons td tNil σ H1 (Q2 x) := q1
  refine thn ((pk_cons (nm := some "default") (kpos := kpos) hd pk_nil) pos pins s1 σ H1 _ I1 q1') fun ws s2 ⟨zs, H2, I2, r2, q2⟩ => ?_
  obtain ⟨y, rfl⟩ : ∃ y, zs = [y] := by
    match zs, q2 with
    | [y], _ => exact ⟨y, rfl⟩
  obtain ⟨a, ns, d, rfl, rfl, hq, k0, k1⟩ := q2
  obtain ⟨u, rfl, ru⟩ := Vals.one r1
  obtain ⟨u2, rfl, ru2⟩ := Vals.one r2
  cases ru
  obtain ⟨t, rfl⟩ := ru2
  obtain ⟨its, rv, p', hz⟩ := I2.list hq
  show wpAny _ X.A (call (.builtin "max") [.ref a] [(Str.ofString "default", .int d t)]) _ _ _
  refine max_dflt (I2.ok.hd hcalm) p'.isList (Vals.ints rv) (fun e h'' tk hk => ⟨.int d, H2, I2.kept (t' := tk) hk, ⟨_, rfl⟩, k0 e⟩) fun h'' tk M t' hk hM hle => ⟨.int M, H2, I2.kept (t' := tk) hk, ⟨_, rfl⟩, k1 M hM hle⟩
end
end Br

/-! for .. in zip(list, list, list, list): the layer has two lists. -/
namespace Br
open PySem PySem.Spec PyProof.Rows L2
open Sem (wp)
theorem nn {a b : Nat} (h : a ≠ b) : @Ne Addr a b := h
theorem typeCall_zip_4 (a b c d : Value) : checkTypeCall "zip" ⟨[a, b, c, d], []⟩ = pure () := by kernel_rfl
theorem newCall_zip_4 (a b c d : Value) : checkBuiltinCall "zip.__new__" ⟨[.type "zip", a, b, c, d], []⟩ = pure () := by kernel_rfl
theorem args_object_init_5 (a b c d e : Value) : argsOk "object.__init__" ⟨[a, b, c, d, e], []⟩ := by
  unfold argsOk; rw [signature?_of (id := "object.__init__") (n := ['_', '_', 't', 'i', 'n', 'i', '_', '_']) (o := ['t', 'c', 'e', 'j', 'b', 'o']) (by kernel_rfl) F.owner_object]; kernel_rfl
abbrev IsQuad (h : Heap) (T : Addr) (a b c d : Value) : Prop := h.get? T = some { cls := .type "tuple", data := .seq #[a, b, c, d] }
section
variable {prog : Program} {w : World} {A : Around} {E : Value → Shared → Prop} {s : Shared}
theorem updateSeq_quad {T : Addr} {a b c d x : Value} {k : Nat} {Q : Unit → Shared → Prop} (hT : IsQuad s.heap T a b c d)
    (h : ∀ h', h'.get? T = some { cls := .type "tuple", data := .seq ((#[a, b, c, d] : Array Value).setIfInBounds k x) } → Heap.SameBut T s.heap h' → Q () { s with heap := h' }) :
    wpAny (model prog w) A (updateSeq T (·.setIfInBounds k x)) Q E s := by
  refine wpAny_updateSeq hT rfl (h _ ?_ (Heap.SameBut.update ..))
  rw [Heap.get?_update_self _ hT rfl]
  simp [Obj.mapSeq]
/-- the zip at N + 6, its iterators from N on, its tuples at N + 4 and N + 5, over four lists below N -/
structure Zp (h : Heap) (N l1 l2 l3 l4 : Nat) (i : Nat) (f0 : Value) : Prop where
  z : IsZip h (N + 6) (N + 4) (N + 5) f0
  ti : IsQuad h (N + 4) (.ref N) (.ref (N + 1)) (.ref (N + 2)) (.ref (N + 3))
  to : ∃ a b c d, IsQuad h (N + 5) a b c d
  h1 : h.IsListIter N l1 i
  h2 : h.IsListIter (N + 1) l2 i
  h3 : h.IsListIter (N + 2) l3 i
  h4 : h.IsListIter (N + 3) l4 i
set_option maxHeartbeats 8000000 in
theorem zip4_item {N l1 l2 l3 l4 : Nat} {i : Nat} {xs ys zs ws : Array Value} {x y u v : Value} {Q : Value → Shared → Prop} (b1 : l1 < N) (b2 : l2 < N) (b3 : l3 < N) (b4 : l4 < N) (Z : Zp s.heap N l1 l2 l3 l4 i .none)
    (g1 : s.heap.IsList l1 xs) (g2 : s.heap.IsList l2 ys) (g3 : s.heap.IsList l3 zs) (g4 : s.heap.IsList l4 ws) (hx : xs[i]? = some x) (hy : ys[i]? = some y) (hu : zs[i]? = some u) (hv : ws[i]? = some v)
    (hQ : ∀ h', Zp h' N l1 l2 l3 l4 (i + 1) (rawInt s.heap.objs.size) → IsQuad h' s.heap.objs.size x y u v → h'.objs.size = s.heap.objs.size + 1 →
      (∀ (c : Nat) o, (c < N ∨ N + 6 < c) → s.heap.get? c = some o → h'.get? c = some o) → Q (.ref s.heap.objs.size) { s with heap := h' }) :
    wpAny (model prog w) A (Builtin.«zip.__next__» ⟨[.ref (N + 6)], []⟩) (fun fin s' => ∃ v, fin = .done (.ret v) ∧ Q v s') E s := by
  obtain ⟨hz, hTI, ⟨a, b, c, d, hTO⟩, h1, h2, h3, h4⟩ := Z
  show wpAny _ _ (field (.ref (N + 6)) 2 >>= _) _ _ _
  refine wpAny_bind (wpAny_field hz rfl (x := .bool false) rfl ?_)
  show wpAny _ _ (field (.ref (N + 6)) 3 >>= _) _ _ _
  refine wpAny_bind (wpAny_field hz rfl (x := .ref (N + 4)) rfl ?_)
  refine wpAny_bind (wpAny_seqItems hTI rfl ?_)
  show wpAny _ _ (Builtin.SmallTypes.ownedTupleIsFree (.ref (N + 6)) >>= _) _ _ _
  refine wpAny_bind ?_
  unfold Builtin.SmallTypes.ownedTupleIsFree
  refine wpAny_bind (wpAny_field hz rfl (x := .none) rfl (wpAny_pure ?_))
  simp only [if_true]
  refine wpAny_bind (wpAny_rule ?_)
  refine wpAny_bind (wpAny_field hz rfl (x := .ref (N + 5)) rfl ?_)
  refine wpAny_bind (wpAny_setField_rec hz (by simp) fun h₁ hz₁ hs₁ => ?_)
  replace hz₁ : IsZip h₁ (N + 6) (N + 4) (N + 5) .ellipsis := hz₁
  refine wpAny_bind ?_
  simp only [List.zipIdx_cons, List.zipIdx_nil, List.forIn_cons, List.forIn_nil]
  have k₁ : ∀ (c : Nat) o, c ≠ N + 6 → s.heap.get? c = some o → h₁.get? c = some o := fun c o c1 e => hs₁.extBut _ _ c1 e
  -- the first
  refine wpAny_bind (wpAny_bind (wpAny_onRaise ?_))
  show wpAny _ _ (Builtin.SmallTypes.nextOf (.ref N) >>= _) _ _ _
  refine wpAny_bind (wpAny_nextOf_list_item (h1.at fun o e => k₁ _ o (by omega) e) (g1.at fun o e => k₁ _ o (by omega) e) hx fun h₂ h1₂ hs₂ => wpAny_pure ?_)
  have k₂ : ∀ (c : Nat) o, c ≠ N → h₁.get? c = some o → h₂.get? c = some o := fun c o c1 e => hs₂.extBut _ _ c1 e
  have hTO₂ : IsQuad h₂ (N + 5) a b c d := k₂ _ _ (by omega) (k₁ _ _ (by omega) hTO)
  refine wpAny_bind (wpAny_seqItems hTO₂ rfl ?_)
  refine wpAny_bind (updateSeq_quad hTO₂ fun h₃ hTO₃ hs₃ => ?_)
  replace hTO₃ : IsQuad h₃ (N + 5) x b c d := hTO₃
  refine wpAny_bind (wpAny_letGo (wpAny_pure ?_))
  have k₃ : ∀ (c : Nat) o, c ≠ N + 5 → h₂.get? c = some o → h₃.get? c = some o := fun c o c1 e => hs₃.extBut _ _ c1 e
  -- the second
  refine wpAny_bind (wpAny_bind (wpAny_onRaise ?_))
  show wpAny _ _ (Builtin.SmallTypes.nextOf (.ref (N + 1)) >>= _) _ _ _
  refine wpAny_bind (wpAny_nextOf_list_item (h2.at fun o e => k₃ _ o (by omega) (k₂ _ o (by omega) (k₁ _ o (by omega) e))) (g2.at fun o e => k₃ _ o (by omega) (k₂ _ o (by omega) (k₁ _ o (by omega) e))) hy fun h₄ h2₄ hs₄ => wpAny_pure ?_)
  have k₄ : ∀ (c : Nat) o, c ≠ N + 1 → h₃.get? c = some o → h₄.get? c = some o := fun c o c1 e => hs₄.extBut _ _ c1 e
  have hTO₄ : IsQuad h₄ (N + 5) x b c d := k₄ _ _ (by omega) hTO₃
  refine wpAny_bind (wpAny_seqItems hTO₄ rfl ?_)
  refine wpAny_bind (updateSeq_quad hTO₄ fun h₅ hTO₅ hs₅ => ?_)
  replace hTO₅ : IsQuad h₅ (N + 5) x y c d := hTO₅
  refine wpAny_bind (wpAny_letGo (wpAny_pure ?_))
  have k₅ : ∀ (c : Nat) o, c ≠ N + 5 → h₄.get? c = some o → h₅.get? c = some o := fun c o c1 e => hs₅.extBut _ _ c1 e
  have k15 : ∀ (c : Nat) o, c ≠ N + 6 → c ≠ N → c ≠ N + 1 → c ≠ N + 5 → s.heap.get? c = some o → h₅.get? c = some o := fun c o c1 c2 c3 c4 e => k₅ _ _ c4 (k₄ _ _ c3 (k₃ _ _ c4 (k₂ _ _ c2 (k₁ _ _ c1 e))))
  -- the third
  refine wpAny_bind (wpAny_bind (wpAny_onRaise ?_))
  show wpAny _ _ (Builtin.SmallTypes.nextOf (.ref (N + 2)) >>= _) _ _ _
  refine wpAny_bind (wpAny_nextOf_list_item (h3.at fun o e => k15 _ o (by omega) (by omega) (by omega) (by omega) e) (g3.at fun o e => k15 _ o (by omega) (by omega) (by omega) (by omega) e) hu fun h₆ h3₆ hs₆ => wpAny_pure ?_)
  have k₆ : ∀ (c : Nat) o, c ≠ N + 2 → h₅.get? c = some o → h₆.get? c = some o := fun c o c1 e => hs₆.extBut _ _ c1 e
  have hTO₆ : IsQuad h₆ (N + 5) x y c d := k₆ _ _ (by omega) hTO₅
  refine wpAny_bind (wpAny_seqItems hTO₆ rfl ?_)
  refine wpAny_bind (updateSeq_quad hTO₆ fun h₇ hTO₇ hs₇ => ?_)
  replace hTO₇ : IsQuad h₇ (N + 5) x y u d := hTO₇
  refine wpAny_bind (wpAny_letGo (wpAny_pure ?_))
  have k₇ : ∀ (c : Nat) o, c ≠ N + 5 → h₆.get? c = some o → h₇.get? c = some o := fun c o c1 e => hs₇.extBut _ _ c1 e
  have k17 : ∀ (c : Nat) o, c ≠ N + 6 → c ≠ N → c ≠ N + 1 → c ≠ N + 2 → c ≠ N + 5 → s.heap.get? c = some o → h₇.get? c = some o := fun c o c1 c2 c3 c4 c5 e => k₇ _ _ c5 (k₆ _ _ c4 (k15 _ _ c1 c2 c3 c5 e))
  -- the fourth
  refine wpAny_bind (wpAny_bind (wpAny_onRaise ?_))
  show wpAny _ _ (Builtin.SmallTypes.nextOf (.ref (N + 3)) >>= _) _ _ _
  refine wpAny_bind (wpAny_nextOf_list_item (h4.at fun o e => k17 _ o (by omega) (by omega) (by omega) (by omega) (by omega) e) (g4.at fun o e => k17 _ o (by omega) (by omega) (by omega) (by omega) (by omega) e) hv fun h₈ h4₈ hs₈ => wpAny_pure ?_)
  have k₈ : ∀ (c : Nat) o, c ≠ N + 3 → h₇.get? c = some o → h₈.get? c = some o := fun c o c1 e => hs₈.extBut _ _ c1 e
  have hTO₈ : IsQuad h₈ (N + 5) x y u d := k₈ _ _ (by omega) hTO₇
  refine wpAny_bind (wpAny_seqItems hTO₈ rfl ?_)
  refine wpAny_bind (updateSeq_quad hTO₈ fun h₉ hTO₉ hs₉ => ?_)
  replace hTO₉ : IsQuad h₉ (N + 5) x y u v := hTO₉
  refine wpAny_bind (wpAny_letGo (wpAny_pure (wpAny_pure ?_)))
  have k₉ : ∀ (c : Nat) o, c ≠ N + 5 → h₈.get? c = some o → h₉.get? c = some o := fun c o c1 e => hs₉.extBut _ _ c1 e
  have k19 : ∀ (c : Nat) o, c ≠ N + 6 → c ≠ N → c ≠ N + 1 → c ≠ N + 2 → c ≠ N + 3 → c ≠ N + 5 → s.heap.get? c = some o → h₉.get? c = some o := fun c o c1 c2 c3 c4 c5 c6 e => k₉ _ _ c6 (k₈ _ _ c5 (k17 _ _ c1 c2 c3 c4 c6 e))
  -- handed out
  refine wpAny_bind (wpAny_seqItems hTO₉ rfl ?_)
  refine wpAny_bind (wpAny_newTuple ?_)
  have hsz : h₉.objs.size = s.heap.objs.size := by rw [hs₉.1, hs₈.1, hs₇.1, hs₆.1, hs₅.1, hs₄.1, hs₃.1, hs₂.1, hs₁.1]
  have hz₉ : IsZip h₉ (N + 6) (N + 4) (N + 5) .ellipsis := k₉ _ _ (by omega) (k₈ _ _ (by omega) (k₇ _ _ (by omega) (k₆ _ _ (by omega) (k₅ _ _ (by omega) (k₄ _ _ (by omega) (k₃ _ _ (by omega) (k₂ _ _ (by omega) hz₁)))))))
  have hzlt : N + 6 < h₉.objs.size := Heap.lt_size hz₉
  show wpAny _ _ (Builtin.SmallTypes.ownedTupleHandOut (.ref (N + 6)) (.ref h₉.objs.size) >>= _) _ _ _
  refine wpAny_bind ?_
  unfold Builtin.SmallTypes.ownedTupleHandOut
  have hz' : IsZip (h₉.push { cls := .type "tuple", data := .seq #[x, y, u, v] }) (N + 6) (N + 4) (N + 5) .ellipsis := Heap.get?_push_of_some _ hz₉
  refine wpAny_bind (wpAny_setField_rec hz' (by simp) fun hA hzA hsA => ?_)
  replace hzA : IsZip hA (N + 6) (N + 4) (N + 5) (rawInt h₉.objs.size) := hzA
  refine wpAny_setField_rec hzA (by simp) fun hB hzB hsB => ?_
  replace hzB : IsZip hB (N + 6) (N + 4) (N + 5) (rawInt h₉.objs.size) := hzB
  have up : ∀ (c : Nat) o, c ≠ N + 6 → h₉.get? c = some o → hB.get? c = some o := fun c o c1 e => hsB.extBut _ _ c1 (hsA.extBut _ _ c1 (Heap.get?_push_of_some _ e))
  have hT : IsQuad hB h₉.objs.size x y u v := hsB.extBut _ _ (Nat.ne_of_gt hzlt) (hsA.extBut _ _ (Nat.ne_of_gt hzlt) (Heap.get?_push_size _ rfl))
  have hz8 : hB.objs.size = h₉.objs.size + 1 := by rw [hsB.1, hsA.1, Heap.size_push]
  rw [hsz] at hzB hT hz8
  refine wpAny_pure ⟨_, rfl, ?_⟩
  show Q (.ref h₉.objs.size) _
  rw [hsz]
  refine hQ hB ⟨hzB, up _ _ (by omega) (k19 _ _ (by omega) (by omega) (by omega) (by omega) (by omega) (by omega) hTI), ⟨x, y, u, v, up _ _ (by omega) hTO₉⟩, ?_, ?_, ?_, ?_⟩ hT hz8 fun (c : Nat) o hc e => up c o (by omega) (k19 c o (by omega) (by omega) (by omega) (by omega) (by omega) (by omega) e)
  · exact h1₂.at fun o e => up _ o (by omega) (k₉ _ _ (by omega) (k₈ _ _ (by omega) (k₇ _ _ (by omega) (k₆ _ _ (by omega) (k₅ _ _ (by omega) (k₄ _ _ (by omega) (k₃ _ _ (by omega) e)))))))
  · exact h2₄.at fun o e => up _ o (by omega) (k₉ _ _ (by omega) (k₈ _ _ (by omega) (k₇ _ _ (by omega) (k₆ _ _ (by omega) (k₅ _ _ (by omega) e)))))
  · exact h3₆.at fun o e => up _ o (by omega) (k₉ _ _ (by omega) (k₈ _ _ (by omega) (k₇ _ _ (by omega) e)))
  · exact h4₈.at fun o e => up _ o (by omega) (k₉ _ _ (by omega) e)
-- the first list is at its end
set_option maxHeartbeats 8000000 in
theorem zip4_end {N l1 l2 l3 l4 : Nat} {i : Nat} {xs : Array Value} {Q : Fin → Shared → Prop} (hh : A.handled = none) (b1 : l1 < N) (Z : Zp s.heap N l1 l2 l3 l4 i .none) (g1 : s.heap.IsList l1 xs) (hx : xs[i]? = none)
    (hE : ∀ h' e, (∀ (c : Nat) o, (c < N ∨ N + 6 < c) → s.heap.get? c = some o → h'.get? c = some o) → (∃ o, h'.get? e = some o ∧ o.cls = .type "StopIteration") → E (.ref e) { s with heap := h' }) :
    wpAny (model prog w) A (Builtin.«zip.__next__» ⟨[.ref (N + 6)], []⟩) Q E s := by
  obtain ⟨hz, hTI, ⟨a, b, c, d, hTO⟩, h1, h2, h3, h4⟩ := Z
  show wpAny _ _ (field (.ref (N + 6)) 2 >>= _) _ _ _
  refine wpAny_bind (wpAny_field hz rfl (x := .bool false) rfl ?_)
  show wpAny _ _ (field (.ref (N + 6)) 3 >>= _) _ _ _
  refine wpAny_bind (wpAny_field hz rfl (x := .ref (N + 4)) rfl ?_)
  refine wpAny_bind (wpAny_seqItems hTI rfl ?_)
  show wpAny _ _ (Builtin.SmallTypes.ownedTupleIsFree (.ref (N + 6)) >>= _) _ _ _
  refine wpAny_bind ?_
  unfold Builtin.SmallTypes.ownedTupleIsFree
  refine wpAny_bind (wpAny_field hz rfl (x := .none) rfl (wpAny_pure ?_))
  simp only [if_true]
  refine wpAny_bind (wpAny_rule ?_)
  refine wpAny_bind (wpAny_field hz rfl (x := .ref (N + 5)) rfl ?_)
  refine wpAny_bind (wpAny_setField_rec hz (by simp) fun h₁ hz₁ hs₁ => ?_)
  replace hz₁ : IsZip h₁ (N + 6) (N + 4) (N + 5) .ellipsis := hz₁
  refine wpAny_bind ?_
  simp only [List.zipIdx_cons, List.zipIdx_nil, List.forIn_cons, List.forIn_nil]
  have k₁ : ∀ (c : Nat) o, c ≠ N + 6 → s.heap.get? c = some o → h₁.get? c = some o := fun c o c1 e => hs₁.extBut _ _ c1 e
  refine wpAny_bind (wpAny_bind (wpAny_onRaise ?_))
  show wpAny _ _ (Builtin.SmallTypes.nextOf (.ref N) >>= _) _ _ _
  refine wpAny_bind (wpAny_nextOf_list_end hh (h1.at fun o e => k₁ _ o (by omega) e) (g1.at fun o e => k₁ _ o (by omega) e) hx fun h₂ e hs₂ he => ?_)
  obtain ⟨oe, hoe, hce⟩ := he
  have hz₂ : IsZip h₂ (N + 6) (N + 4) (N + 5) .ellipsis := hs₂ _ _ (nn (by omega)) hz₁
  have hez : e ≠ N + 6 := fun x => by subst x; rw [hz₂] at hoe; cases hoe; simp at hce
  exact wpAny_setField_rec hz₂ (by simp) fun h₃ _ hs₃ => hE h₃ e (fun (c : Nat) o hc x => hs₃.extBut _ _ (nn (by omega)) (hs₂ _ _ (nn (by omega)) (hs₁.extBut _ _ (nn (by omega)) x))) ⟨oe, hs₃.extBut _ _ hez hoe, hce⟩
theorem next_zip4_item {N l1 l2 l3 l4 : Nat} {i : Nat} {xs ys zs ws : Array Value} {x y u v : Value} {Q : Option Value → Shared → Prop} (b1 : l1 < N) (b2 : l2 < N) (b3 : l3 < N) (b4 : l4 < N) (Z : Zp s.heap N l1 l2 l3 l4 i .none)
    (g1 : s.heap.IsList l1 xs) (g2 : s.heap.IsList l2 ys) (g3 : s.heap.IsList l3 zs) (g4 : s.heap.IsList l4 ws) (hx : xs[i]? = some x) (hy : ys[i]? = some y) (hu : zs[i]? = some u) (hv : ws[i]? = some v)
    (hQ : ∀ h', Zp h' N l1 l2 l3 l4 (i + 1) (rawInt s.heap.objs.size) → IsQuad h' s.heap.objs.size x y u v → h'.objs.size = s.heap.objs.size + 1 →
      (∀ (c : Nat) o, (c < N ∨ N + 6 < c) → s.heap.get? c = some o → h'.get? c = some o) → Q (some (.ref s.heap.objs.size)) { s with heap := h' }) :
    wpAny (model prog w) A (pyNext (.ref (N + 6))) Q E s := by
  have hT : s.TypeIs (.ref (N + 6)) "zip" := ⟨_, Z.z, rfl⟩
  unfold pyNext
  exact wpAny_bind (wpAny_attempt (wpAny_callSpecial?_slot (name := Str.ofString "__next__") hT F.slot_zip_next
    (wpAny_call_entry F.slot_zip_next hT F.entry_zip_next
      (zip4_item b1 b2 b3 b4 Z g1 g2 g3 g4 hx hy hu hv fun h' a1 a2 a3 a4 => wpAny_pure (hQ h' a1 a2 a3 a4)) (F.args_zip_next_1 _))))
theorem next_zip4_end {N l1 l2 l3 l4 : Nat} {i : Nat} {xs : Array Value} {Q : Option Value → Shared → Prop} (hh : A.handled = none) (b1 : l1 < N) (Z : Zp s.heap N l1 l2 l3 l4 i .none) (g1 : s.heap.IsList l1 xs) (hx : xs[i]? = none)
    (hQ : ∀ h', (∀ (c : Nat) o, (c < N ∨ N + 6 < c) → s.heap.get? c = some o → h'.get? c = some o) → Q none { s with heap := h' }) : wpAny (model prog w) A (pyNext (.ref (N + 6))) Q E s := by
  have hT : s.TypeIs (.ref (N + 6)) "zip" := ⟨_, Z.z, rfl⟩
  unfold pyNext
  refine wpAny_bind (wpAny_attempt (wpAny_callSpecial?_slot (name := Str.ofString "__next__") hT F.slot_zip_next
    (wpAny_call_entry F.slot_zip_next hT F.entry_zip_next (zip4_end hh b1 Z g1 hx fun h' e hk he => ?_) (F.args_zip_next_1 _))))
  obtain ⟨o, ho, hc⟩ := he
  refine wpAny_bind (wpAny_isInstance (T := "StopIteration") (b := true) ⟨o, ho, hc⟩ isSubtype_stop ?_)
  exact wpAny_pure (hQ _ hk)
end
abbrev zq1 (h : Heap) (l : Addr) : Heap := h.push { cls := .type "list_iterator", data := .fields #[.ref l, .int 0 0] }
abbrev zq4 (h : Heap) (l1 l2 l3 l4 : Addr) : Heap := zq1 (zq1 (zq1 (zq1 h l1) l2) l3) l4
abbrev zq5 (h : Heap) (l1 l2 l3 l4 : Addr) : Heap := (zq4 h l1 l2 l3 l4).push { cls := .type "tuple", data := .seq #[.ref h.objs.size, .ref (zq1 h l1).objs.size, .ref (zq1 (zq1 h l1) l2).objs.size, .ref (zq1 (zq1 (zq1 h l1) l2) l3).objs.size] }
abbrev zq6 (h : Heap) (l1 l2 l3 l4 : Addr) : Heap := (zq5 h l1 l2 l3 l4).push { cls := .type "tuple", data := .seq #[.none, .none, .none, .none] }
abbrev zq7 (h : Heap) (l1 l2 l3 l4 : Addr) : Heap := (zq6 h l1 l2 l3 l4).push { cls := .type "zip", data := .fields #[.none, .bool false, .bool false, .ref (zq4 h l1 l2 l3 l4).objs.size, .ref (zq5 h l1 l2 l3 l4).objs.size] }
set_option maxHeartbeats 8000000 in
theorem meets_zip4 (l1 l2 l3 l4 : Addr) (xs ys zs ws : Array Value) :
    Meets (Builtin.«zip.__new__» ⟨[.type "zip", .ref l1, .ref l2, .ref l3, .ref l4], []⟩) (fun _ R s => s.heap.IsList l1 xs ∧ s.heap.IsList l2 ys ∧ s.heap.IsList l3 zs ∧ s.heap.IsList l4 ws ∧
      R (.ok (.ret (.ref (zq6 s.heap l1 l2 l3 l4).objs.size))) { s with heap := zq7 s.heap l1 l2 l3 l4 }) :=
  .of_wp fun prog w A R s h => by
    obtain ⟨hp, g, d, tk, os⟩ := s; obtain ⟨hl1, hl2, hl3, hl4, h⟩ := h
    have hsub := sub_zip
    have hL1 : Heap.IsList (Shared.heap ⟨hp, g, d, tk, os⟩) l1 xs := hl1
    have hL2 : Heap.IsList (Shared.heap ⟨zq1 hp l1, g, d, tk, os⟩) l2 ys := Heap.IsList.push hl2 _
    have hL3 : Heap.IsList (Shared.heap ⟨zq1 (zq1 hp l1) l2, g, d, tk, os⟩) l3 zs := Heap.IsList.push (Heap.IsList.push hl3 _) _
    have hL4 : Heap.IsList (Shared.heap ⟨zq1 (zq1 (zq1 hp l1) l2) l3, g, d, tk, os⟩) l4 ws := Heap.IsList.push (Heap.IsList.push (Heap.IsList.push hl4 _) _) _
    wp_walk using wpAny_pyIter_list hL1, wpAny_pyIter_list hL2, wpAny_pyIter_list hL3, wpAny_pyIter_list hL4
    exact ⟨_, rfl, h⟩
theorem call_zip_4 {prog : Program} {w : World} {A : Around} {E : Value → Shared → Prop} {s : Shared} {l1 l2 l3 l4 : Nat} {xs ys zs ws : Array Value} {Q : Value → Shared → Prop} (g1 : s.heap.IsList l1 xs) (g2 : s.heap.IsList l2 ys) (g3 : s.heap.IsList l3 zs) (g4 : s.heap.IsList l4 ws)
    (h : ∀ h', Zp h' s.heap.objs.size l1 l2 l3 l4 0 .none → (∀ (c : Nat) o, s.heap.get? c = some o → h'.get? c = some o) → Q (.ref (s.heap.objs.size + 6)) { s with heap := h' }) :
    wpAny (model prog w) A (call (.type "zip") [.ref l1, .ref l2, .ref l3, .ref l4]) Q E s := by
  refine callType_new F.called_zip (by decide) (typeCall_zip_4 _ _ _ _) (newCall_zip_4 _ _ _ _) (fun obj => args_object_init_5 obj _ _ _ _) F.entry_zip_new
    (meets_zip4 l1 l2 l3 l4 xs ys zs ws) ⟨g1, g2, g3, g4, ?_⟩
  have z1 : (zq1 s.heap l1).objs.size = s.heap.objs.size + 1 := Heap.size_push ..
  have z2 : (zq1 (zq1 s.heap l1) l2).objs.size = s.heap.objs.size + 2 := by rw [Heap.size_push, z1]
  have z3 : (zq1 (zq1 (zq1 s.heap l1) l2) l3).objs.size = s.heap.objs.size + 3 := by rw [Heap.size_push, z2]
  have z4 : (zq4 s.heap l1 l2 l3 l4).objs.size = s.heap.objs.size + 4 := by rw [Heap.size_push, z3]
  have z5 : (zq5 s.heap l1 l2 l3 l4).objs.size = s.heap.objs.size + 5 := by rw [Heap.size_push, z4]
  have z6 : (zq6 s.heap l1 l2 l3 l4).objs.size = s.heap.objs.size + 6 := by rw [Heap.size_push, z5]
  have up : ∀ (h : Heap) (o : Obj) {c : Nat} {u : Obj}, h.get? c = some u → (h.push o).get? c = some u := fun h o c u e => Heap.get?_push_of_some _ e
  have f7 : (zq7 s.heap l1 l2 l3 l4).get? (zq6 s.heap l1 l2 l3 l4).objs.size = some _ := Heap.get?_push_size _ rfl
  have f6 : (zq7 s.heap l1 l2 l3 l4).get? (zq5 s.heap l1 l2 l3 l4).objs.size = some _ := up _ _ (Heap.get?_push_size _ rfl)
  have f5 : (zq7 s.heap l1 l2 l3 l4).get? (zq4 s.heap l1 l2 l3 l4).objs.size = some _ := up _ _ (up _ _ (Heap.get?_push_size _ rfl))
  have f4 : (zq7 s.heap l1 l2 l3 l4).get? (zq1 (zq1 (zq1 s.heap l1) l2) l3).objs.size = some _ := up _ _ (up _ _ (up _ _ (Heap.get?_push_size _ rfl)))
  have f3 : (zq7 s.heap l1 l2 l3 l4).get? (zq1 (zq1 s.heap l1) l2).objs.size = some _ := up _ _ (up _ _ (up _ _ (up _ _ (Heap.get?_push_size _ rfl))))
  have f2 : (zq7 s.heap l1 l2 l3 l4).get? (zq1 s.heap l1).objs.size = some _ := up _ _ (up _ _ (up _ _ (up _ _ (up _ _ (Heap.get?_push_size _ rfl)))))
  have f1 : (zq7 s.heap l1 l2 l3 l4).get? s.heap.objs.size = some _ := up _ _ (up _ _ (up _ _ (up _ _ (up _ _ (up _ _ (Heap.get?_push_size _ rfl))))))
  show _ ∧ _
  rw [z4, z5, z6] at f7
  rw [z5] at f6
  rw [z4, z1, z2, z3] at f5
  rw [z3] at f4
  rw [z2] at f3
  rw [z1] at f2
  rw [z6]
  exact ⟨⟨_, f7, rfl⟩, h _ ⟨f7, f5, ⟨_, _, _, _, f6⟩, ⟨_, f1, rfl, rfl⟩, ⟨_, f2, rfl, rfl⟩, ⟨_, f3, rfl, rfl⟩, ⟨_, f4, rfl, rfl⟩⟩ fun c o x =>
    up _ _ (up _ _ (up _ _ (up _ _ (up _ _ (up _ _ (up _ _ x))))))⟩
/-- the four lists as they stand at each turn -/
def Itz4 (K : PySem.W.Frag) (a b c d : Addr) : It :=
  ⟨fun i H => ∃ (xs ys zs ws : List V) (x y z w : V), SqL K H a xs ∧ SqL K H b ys ∧ SqL K H c zs ∧ SqL K H d ws ∧ xs[i]? = some x ∧ ys[i]? = some y ∧ zs[i]? = some z ∧ ws[i]? = some w,
    fun i H v H' => ∃ T x y z w, v = .ref T ∧ H T = none ∧ H' = upd H T (.tup [x, y, z, w]) ∧ (∀ xs, SqL K H a xs → xs[i]? = some x) ∧ (∀ xs, SqL K H b xs → xs[i]? = some y) ∧ (∀ xs, SqL K H c xs → xs[i]? = some z) ∧ (∀ xs, SqL K H d xs → xs[i]? = some w),
    fun i H => ∃ xs : List V, SqL K H a xs ∧ xs.length ≤ i⟩
theorem turn_zip4 {P : Program} {w : World} {K : PySem.W.Frag} {elts : List Expr} {kk : Nat} {tpos : Pos} {a b c d N : Nat} (b1 : a < N) (b2 : b < N) (b3 : c < N) (b4 : d < N) :
    Turn P w K (.Tuple elts kk tpos) (Itz4 K a b c d) [N + 6, N + 4, N + 5, N, N + 1, N + 2, N + 3] (N + 6) (fun i h => Zp h N a b c d i .none) where
  mem := by simp
  obj := fun i h st (e : Nat) he => by
    obtain ⟨hz, hTI, ⟨x, y, z, u, hTO⟩, ⟨o1, e1, _, d1⟩, ⟨o2, e2, _, d2⟩, ⟨o3, e3, _, d3⟩, ⟨o4, e4, _, d4⟩⟩ := st
    have e' : e = N + 6 ∨ e = N + 4 ∨ e = N + 5 ∨ e = N ∨ e = N + 1 ∨ e = N + 2 ∨ e = N + 3 := by simpa using he
    rcases e' with q | q | q | q | q | q | q
    · rw [q]; exact ⟨_, hz, fun v q => nomatch q⟩
    · rw [q]; exact ⟨_, hTI, fun v q => nomatch q⟩
    · rw [q]; exact ⟨_, hTO, fun v q => nomatch q⟩
    · rw [q]; exact ⟨o1, e1, fun v q => by rw [d1] at q; cases q⟩
    · rw [q]; exact ⟨o2, e2, fun v q => by rw [d2] at q; cases q⟩
    · rw [q]; exact ⟨o3, e3, fun v q => by rw [d3] at q; cases q⟩
    · rw [q]; exact ⟨o4, e4, fun v q => by rw [d4] at q; cases q⟩
  keep := fun i h h' st k => by
    obtain ⟨hz, hTI, ⟨x, y, z, u, hTO⟩, h1, h2, h3, h4⟩ := st
    exact ⟨k _ (by simp) _ hz, k _ (by simp) _ hTI, ⟨x, y, z, u, k _ (by simp) _ hTO⟩, h1.at fun o q => k _ (by simp) o q, h2.at fun o q => k _ (by simp) o q, h3.at fun o q => k _ (by simp) o q, h4.at fun o q => k _ (by simp) o q⟩
  item := by
    intro X hP hw hK hc i pins s σ H E I hf st hg
    subst hP hw hK
    obtain ⟨xs, ys, zs, ws, x, y, z, w', hq1, hq2, hq3, hq4, hx, hy, hz, hw'⟩ := hg
    obtain ⟨its1, rv1, p1, _⟩ := I.list hq1
    obtain ⟨its2, rv2, p2, _⟩ := I.list hq2
    obtain ⟨its3, rv3, p3, _⟩ := I.list hq3
    obtain ⟨its4, rv4, p4, _⟩ := I.list hq4
    obtain ⟨u1, hu1, ru1⟩ := rv1.get hx
    obtain ⟨u2, hu2, ru2⟩ := rv2.get hy
    obtain ⟨u3, hu3, ru3⟩ := rv3.get hz
    obtain ⟨u4, hu4, ru4⟩ := rv4.get hw'
    have hzl : N + 6 < s.heap.objs.size := Heap.lt_size st.z
    refine next_zip4_item b1 b2 b3 b4 st p1.isList p2.isList p3.isList p4.isList (x := u1) (y := u2) (u := u3) (v := u4) (by simpa using hu1) (by simpa using hu2) (by simpa using hu3) (by simpa using hu4) fun h' Z' hT hsz hk => ?_
    refine ⟨_, rfl, wpAny_letOwnedTupleGo_zip (s := { s with heap := h' }) Z'.z fun h'' z'' sb => ?_⟩
    have hT2 : h''.get? s.heap.objs.size = some { cls := .type "tuple", data := .seq #[u1, u2, u3, u4] } := (sb.2 _ (Nat.ne_of_gt hzl)).trans hT
    have new : ObjOk X.prog X.w (upd H s.heap.objs.size (.tup [x, y, z, w'])) h'' s.heap.objs.size (.tup [x, y, z, w']) :=
      ⟨by show 4 ≤ sizeLine; decide, [u1, u2, u3, u4], .cons ru1 (.cons ru2 (.cons ru3 (.cons ru4 .nil))), ⟨_, hT2, rfl, _, rfl⟩⟩
    have I1 : Inv X pins σ (upd H s.heap.objs.size (.tup [x, y, z, w'])) { s with heap := h'' } :=
      I.turnedNew (t' := s.toks) (ch := [N + 6, N + 4, N + 5, N, N + 1, N + 2, N + 3]) (fun (c : Nat) o hb q => by
        have hb' : ¬ (c = N + 6 ∨ c = N + 4 ∨ c = N + 5 ∨ c = N ∨ c = N + 1 ∨ c = N + 2 ∨ c = N + 3) := by simpa using hb
        exact (sb.2 c (nn (by omega))).trans (hk c o (by omega) q)) hf (Nat.le_refl _) new
    refine ⟨.ref s.heap.objs.size, _, I1, rfl, ⟨_, x, y, z, w', rfl, I.hok.fresh (Nat.le_refl _), rfl, fun l hl => by rw [I.list_inj hl hq1]; exact hx, fun l hl => by rw [I.list_inj hl hq2]; exact hy, fun l hl => by rw [I.list_inj hl hq3]; exact hz, fun l hl => by rw [I.list_inj hl hq4]; exact hw'⟩, ?_, fun (c : Nat) hcm => ?_⟩
    · obtain ⟨hz', hTI', ⟨x', y', z', u', hTO'⟩, h1', h2', h3', h4'⟩ := Z'
      exact ⟨z'', (sb.2 _ (nn (by omega))).trans hTI', ⟨x', y', z', u', (sb.2 _ (nn (by omega))).trans hTO'⟩, h1'.at fun o q => (sb.2 _ (nn (by omega))).trans q, h2'.at fun o q => (sb.2 _ (nn (by omega))).trans q, h3'.at fun o q => (sb.2 _ (nn (by omega))).trans q, h4'.at fun o q => (sb.2 _ (nn (by omega))).trans q⟩
    · have hlt : c < s.heap.objs.size := by
        have e' : c = N + 6 ∨ c = N + 4 ∨ c = N + 5 ∨ c = N ∨ c = N + 1 ∨ c = N + 2 ∨ c = N + 3 := by simpa using hcm
        omega
      rw [upd_ne (Nat.ne_of_lt hlt)]
      exact (hf c hcm).1
  done := by
    intro X hP hw hK hc i pins s σ H E I hf st hg
    subst hP hw hK
    obtain ⟨xs, hq1, hend⟩ := hg
    obtain ⟨its1, rv1, p1, _⟩ := I.list hq1
    have l1 := rv1.length
    exact next_zip4_end (I.ok.hd hc) b1 st p1.isList (by simp; omega) fun h' hk => ⟨rfl, I.turnedL (t' := s.toks) (ch := [N + 6, N + 4, N + 5, N, N + 1, N + 2, N + 3]) (fun (c : Nat) o hb q => by
      have hb' : ¬ (c = N + 6 ∨ c = N + 4 ∨ c = N + 5 ∨ c = N ∨ c = N + 1 ∨ c = N + 2 ∨ c = N + 3) := by simpa using hb
      exact hk c o (by omega) q) hf⟩
  self := fun A i s Q E st h => wpAny_pyIter_zip st.z h
def iZip4 (K : PySem.W.Frag) (ta : TA) : TI := fun σ H R => ta σ H fun vs H1 => ∃ a b c d xs ys zs ws, vs = [.ref a, .ref b, .ref c, .ref d] ∧ SqL K H1 a xs ∧ SqL K H1 b ys ∧ SqL K H1 c zs ∧ SqL K H1 d ws ∧ R (Itz4 K a b c d) H1
theorem pi_zip4 {X : Cx} {e e2 e3 e4 : Expr} {ta : TA} {p pos tpos : Pos} {elts : List Expr} {kk : Nat} (hg : Gl X "zip") (hm : X.mg "zip" = none) (ha : PA X [e, e2, e3, e4] ta)
    (hs : starEach [e, e2, e3, e4] X.env = (false, eval e X.env) :: starEach [e2, e3, e4] X.env := by rfl) (hpl : (backTo pos (starEach [e2, e3, e4] X.env)).any (·.1) = false := by rfl) :
    PI X (.Tuple elts kk tpos) (.Call (.Name "zip" p) [e, e2, e3, e4] [] pos) (iZip4 X.K ta) := by
  intro pins s σ H R I h
  refine Call_ (ld_blt I hg hm boot_zip5 (PyProof.Rows.callWith_type1 (thn (ha pos pins s σ H _ I h) fun us s1 ⟨vs, H1, I1, r1, q1⟩ => ?_) hs hpl))
  obtain ⟨a, b, c, d, xs, ys, zs, ws, ex, hq1, hq2, hq3, hq4, q⟩ := q1
  subst ex
  cases r1 with
  | cons r rr =>
    cases rr with
    | cons r' rr =>
      cases rr with
      | cons r'' rr =>
        cases rr with
        | cons r3 rr =>
          cases rr
          cases r
          cases r'
          cases r''
          cases r3
          obtain ⟨its1, rv1, p1, _⟩ := I1.list hq1
          obtain ⟨its2, rv2, p2, _⟩ := I1.list hq2
          obtain ⟨its3, rv3, p3, _⟩ := I1.list hq3
          obtain ⟨its4, rv4, p4, _⟩ := I1.list hq4
          refine call_zip_4 p1.isList p2.isList p3.isList p4.isList fun h' Z hk => wpAny_pyIter_zip Z.z ?_
          have I2 : Inv X pins σ H1 { s1 with heap := h' } := I1.kept (t' := s1.toks) hk
          refine ⟨s1.heap.objs.size + 6, _, _, _, H1, rfl, I2, turn_zip4 p1.lt p2.lt p3.lt p4.lt, Z, fun (c : Nat) hcm => ?_, q⟩
          have e' : c = s1.heap.objs.size + 6 ∨ c = s1.heap.objs.size + 4 ∨ c = s1.heap.objs.size + 5 ∨ c = s1.heap.objs.size ∨ c = s1.heap.objs.size + 1 ∨ c = s1.heap.objs.size + 2 ∨ c = s1.heap.objs.size + 3 := by simpa using hcm
          have hle : s1.heap.objs.size ≤ c := by omega
          exact I1.fpOk hle (I1.hok.fresh hle)
/-- for .. in zip: the first list the shortest -/
theorem for_zip4 {K : PySem.W.Frag} {a b c d : Addr} {xs ys zs ws : List V} {g : TG} {tb : TS} {D : Ends} {σ : L2.St} {H : Hp} (Pv : Nat → L2.St → Hp → Prop) (l2 : xs.length ≤ ys.length) (l3 : xs.length ≤ zs.length) (l4 : xs.length ≤ ws.length) (h0 : Pv 0 σ H)
    (hl : ∀ i σ H, i ≤ xs.length → Pv i σ H → SqL K H a xs ∧ SqL K H b ys ∧ SqL K H c zs ∧ SqL K H d ws)
    (hs : ∀ i x y z w σ H T, xs[i]? = some x → ys[i]? = some y → zs[i]? = some z → ws[i]? = some w → Pv i σ H → H T = none → g (.ref T) σ (upd H T (.tup [x, y, z, w])) fun σ2 H2 => tb { D with nx := Pv (i + 1), ct := Pv (i + 1), bk := D.nx } σ2 H2) (hd : ∀ σ H, Pv xs.length σ H → D.nx σ H) :
    ∃ W : Nat → Nat → L2.St → Hp → Prop, (∃ m, W 0 m σ H) ∧ ∀ i m σ H, W i m σ H →
      ((Itz4 K a b c d).stop i H ∧ D.nx σ H) ∨ ((Itz4 K a b c d).go i H ∧ ∃ N : L2.St → Hp → Prop, (∀ σ' H', N σ' H' → ∃ m', m' < m ∧ W (i + 1) m' σ' H') ∧ ∀ x H', (Itz4 K a b c d).yld i H x H' → g x σ H' fun σ2 H2 => tb { D with nx := N, ct := N, bk := D.nx } σ2 H2) := by
  refine ⟨fun i m σ H => m = xs.length - i ∧ i ≤ xs.length ∧ Pv i σ H, ⟨xs.length, by simp, Nat.zero_le _, h0⟩, ?_⟩
  rintro i m σ H ⟨rfl, hi, p⟩
  obtain ⟨q1, q2, q3, q4⟩ := hl i σ H hi p
  by_cases hlt : i < xs.length
  · refine .inr ⟨⟨xs, ys, zs, ws, xs[i], ys[i], zs[i], ws[i], q1, q2, q3, q4, List.getElem?_eq_getElem _, List.getElem?_eq_getElem _, List.getElem?_eq_getElem _, List.getElem?_eq_getElem _⟩, Pv (i + 1), fun σ' H' p' => ⟨xs.length - (i + 1), by omega, rfl, hlt, p'⟩, fun x H' y => ?_⟩
    obtain ⟨T, x, y, z, w, e, hT, e', y1, y2, y3, y4⟩ := y
    subst e e'
    exact hs i x y z w σ H T (y1 xs q1) (y2 ys q2) (y3 zs q3) (y4 ws q4) p hT
  · have e : i = xs.length := by omega
    subst e
    exact .inl ⟨⟨xs, q1, Nat.le_refl _⟩, hd σ H p⟩
end Br

/-! Laying, as it is reckoned: rows of worths, ends found, the way back by whole rows. -/
namespace Gr
open Sg42 (Cell Scores edge score In)
section
variable {s : Scores} {a b : Nat → Nat}
/-- the greatest worth at a place -/
def hv (s : Scores) (a b : Nat → Nat) (i j : Nat) : Int := (cell s a b i j).h
/-- the row of D that ends there, one that is opened at worth 0 for none -/
def dv (s : Scores) (a b : Nat → Nat) (i j : Nat) : Int := if j = 0 then -(s.gap : Int) else (cell s a b i j).d
def iv (s : Scores) (a b : Nat → Nat) (i j : Nat) : Int := if i = 0 then -(s.gap : Int) else (cell s a b i j).i
theorem hv_nonneg (i j : Nat) : 0 ≤ hv s a b i j := cell_nonneg s a b i j
theorem hv_i0 (i : Nat) : hv s a b i 0 = 0 := by unfold hv; rw [cell_i0]; rfl
theorem hv_0j (j : Nat) : hv s a b 0 j = 0 := by unfold hv; rw [cell_0j]; rfl
theorem d_succ (i j : Nat) : (cell s a b (i + 1) (j + 1)).d = max (hv s a b (i + 1) j - s.gap - s.more) ((cell s a b (i + 1) j).d - s.more) := by rw [cell_ss]; rfl
theorem i_succ (i j : Nat) : (cell s a b (i + 1) (j + 1)).i = max (hv s a b i (j + 1) - s.gap - s.more) ((cell s a b i (j + 1)).i - s.more) := by rw [cell_ss]; rfl
theorem dv_step (hg : s.gap ≤ 127) (i j : Nat) : dv s a b (i + 1) (j + 1) = max (dv s a b (i + 1) j - s.more) (hv s a b (i + 1) j - (s.gap + s.more * 1)) := by
  unfold dv
  rw [if_neg (by omega)]
  cases j with
  | zero =>
    rw [if_pos rfl, d_first hg, show (cell s a b (i + 1) 0).h = hv s a b (i + 1) 0 from rfl, hv_i0]
    omega
  | succ j =>
    rw [if_neg (by omega), d_succ]
    omega
theorem iv_step (hg : s.gap ≤ 127) (i j : Nat) : iv s a b (i + 1) (j + 1) = max (iv s a b i (j + 1) - s.more) (hv s a b i (j + 1) - (s.gap + s.more * 1)) := by
  unfold iv
  rw [if_neg (by omega)]
  cases i with
  | zero =>
    rw [if_pos rfl, i_first hg, show (cell s a b 0 (j + 1)).h = hv s a b 0 (j + 1) from rfl, hv_0j]
    omega
  | succ i =>
    rw [if_neg (by omega), i_succ]
    omega
theorem hv_step (i j : Nat) : hv s a b (i + 1) (j + 1) = max (max 0 (hv s a b i j + score s (a i) (b j))) (max (dv s a b (i + 1) (j + 1)) (iv s a b (i + 1) (j + 1))) := by
  unfold dv iv
  rw [if_neg (by omega), if_neg (by omega), d_succ, i_succ]
  unfold hv
  rw [cell_ss]
  rfl
end
/-! a row's length, found backwards -/
section
variable {g e : Int} {Hs Ds : Nat → Int}
theorem seq_le (d1 : Ds 1 = Hs 0 - g - e) (ds : ∀ j, 1 ≤ j → Ds (j + 1) = max (Hs j - g - e) (Ds j - e)) : ∀ (L j : Nat), 1 ≤ L → L ≤ j → Hs (j - L) - (g + e * (L : Int)) ≤ Ds j
  | 0, _, h, _ => absurd h (by omega)
  | 1, j, _, h => by
    by_cases z : j = 1
    · subst z; rw [d1]; show Hs 0 - (g + e * 1) ≤ _; omega
    · obtain ⟨j', rfl⟩ : ∃ j', j = j' + 1 := ⟨j - 1, by omega⟩
      rw [ds j' (by omega)]
      show Hs j' - (g + e * 1) ≤ _
      omega
  | L + 2, j, _, h => by
    obtain ⟨j', rfl⟩ : ∃ j', j = j' + 1 := ⟨j - 1, by omega⟩
    have ih := seq_le d1 ds (L + 1) j' (by omega) (by omega)
    rw [ds j' (by omega), show j' + 1 - (L + 2) = j' - (L + 1) by omega]
    have : e * ((L + 2 : Nat) : Int) = e * ((L + 1 : Nat) : Int) + e := by
      rw [show ((L + 2 : Nat) : Int) = ((L + 1 : Nat) : Int) + 1 by omega, Int.mul_add, Int.mul_one]
    rw [this]
    omega
theorem seq_ex (d1 : Ds 1 = Hs 0 - g - e) (ds : ∀ j, 1 ≤ j → Ds (j + 1) = max (Hs j - g - e) (Ds j - e)) : ∀ (j : Nat), 1 ≤ j → ∃ L, 1 ≤ L ∧ L ≤ j ∧ Hs (j - L) - (g + e * (L : Int)) = Ds j
  | 0, h => absurd h (by omega)
  | 1, _ => ⟨1, by omega, by omega, by rw [d1]; show Hs 0 - (g + e * 1) = _; omega⟩
  | j + 2, _ => by
    obtain ⟨L, h1, h2, h3⟩ := seq_ex d1 ds (j + 1) (by omega)
    rw [ds (j + 1) (by omega)]
    by_cases c : Ds (j + 1) - e ≤ Hs (j + 1) - g - e
    · exact ⟨1, by omega, by omega, by show Hs (j + 1) - (g + e * 1) = _; omega⟩
    · refine ⟨L + 1, by omega, by omega, ?_⟩
      have : e * ((L + 1 : Nat) : Int) = e * ((L : Nat) : Int) + e := by
        rw [show ((L + 1 : Nat) : Int) = ((L : Nat) : Int) + 1 by omega, Int.mul_add, Int.mul_one]
      rw [this, show j + 2 - (L + 1) = j + 1 - L by omega]
      omega
theorem seq_back {β : Type} {c : UInt8} {Bd Bh : Nat → List UInt8 → β} (d1 : Ds 1 = Hs 0 - g - e) (ds : ∀ j, 1 ≤ j → Ds (j + 1) = max (Hs j - g - e) (Ds j - e))
    (bd : ∀ j w, 1 ≤ j → Bd j w = if Ds j = Hs (j - 1) - g - e then Bh (j - 1) (c :: w) else Bd (j - 1) (c :: w)) :
    ∀ (L j : Nat) (w : List UInt8), 1 ≤ L → L ≤ j → Hs (j - L) - (g + e * (L : Int)) = Ds j → (∀ l, 1 ≤ l → l < L → Hs (j - l) - (g + e * (l : Int)) ≠ Ds j) → Bd j w = Bh (j - L) (List.replicate L c ++ w)
  | 0, _, _, h, _, _, _ => absurd h (by omega)
  | 1, j, w, _, h, h1, _ => by
    have h1' : Hs (j - 1) - (g + e * 1) = Ds j := h1
    rw [bd j w h, if_pos (by omega)]
    rfl
  | L + 2, j, w, _, h, h1, h2 => by
    have n1 := h2 1 (by omega) (by omega)
    have n1' : Hs (j - 1) - (g + e * 1) ≠ Ds j := n1
    rw [bd j w (by omega), if_neg (by omega)]
    obtain ⟨j', rfl⟩ : ∃ j', j = j' + 1 := ⟨j - 1, by omega⟩
    have ed := ds j' (by omega)
    have n2 : Hs j' - (g + e * 1) ≠ Ds (j' + 1) := n1'
    have ed' : Ds j' = Ds (j' + 1) + e := by omega
    have mul : ∀ l : Nat, e * ((l + 1 : Nat) : Int) = e * (l : Int) + e := fun l => by
      rw [show ((l + 1 : Nat) : Int) = ((l : Nat) : Int) + 1 by omega, Int.mul_add, Int.mul_one]
    rw [show j' + 1 - (L + 2) = j' - (L + 1) by omega] at h1
    rw [mul (L + 1)] at h1
    have ih := seq_back d1 ds bd (L + 1) j' (c :: w) (by omega) (by omega) (by omega) fun l hl1 hl2 z => by
      have := h2 (l + 1) (by omega) (by omega)
      rw [mul l, show j' + 1 - (l + 1) = j' - l by omega] at this
      omega
    show Bd j' (c :: w) = _
    rw [ih, show j' + 1 - (L + 2) = j' - (L + 1) by omega, List.replicate_succ' (n := L + 1), List.append_assoc]
    rfl
end
/-- the shortest row, or 0 -/
def Least (f : Nat → Prop) (n L : Nat) : Prop := (L = 0 ∧ ∀ l, 1 ≤ l → l ≤ n → ¬ f l) ∨ (1 ≤ L ∧ L ≤ n ∧ f L ∧ ∀ l, 1 ≤ l → l < L → ¬ f l)
section
variable {s : Scores} {a b : Nat → Nat}
theorem row_d (hg : s.gap ≤ 127) {i j L : Nat} (hi : 1 ≤ i) (hj : 1 ≤ j) (hL : Least (fun L => hv s a b i (j - L) - (s.gap + s.more * (L : Int)) = hv s a b i j) j L) :
    (L = 0 ∧ hv s a b i j ≠ (cell s a b i j).d) ∨ (1 ≤ L ∧ L ≤ j ∧ hv s a b i j = (cell s a b i j).d ∧ ∀ w, back s a b .d i j w = back s a b .h i (j - L) (List.replicate L 68 ++ w)) := by
  obtain ⟨i', rfl⟩ : ∃ i', i = i' + 1 := ⟨i - 1, by omega⟩
  have d1 : (fun j => (cell s a b (i' + 1) j).d) 1 = hv s a b (i' + 1) 0 - s.gap - s.more := d_first hg i'
  have ds : ∀ j, 1 ≤ j → (fun j => (cell s a b (i' + 1) j).d) (j + 1) = max (hv s a b (i' + 1) j - s.gap - s.more) ((fun j => (cell s a b (i' + 1) j).d) j - s.more) := fun j _ => d_succ i' j
  have ge : (cell s a b (i' + 1) j).d ≤ hv s a b (i' + 1) j := by
    obtain ⟨j', rfl⟩ : ∃ j', j = j' + 1 := ⟨j - 1, by omega⟩
    rw [hv_step]
    unfold dv
    rw [if_neg (by omega)]
    omega
  rcases hL with ⟨rfl, h⟩ | ⟨h1, h2, h3, h4⟩
  · refine .inl ⟨rfl, fun e => ?_⟩
    obtain ⟨L, q1, q2, q3⟩ := seq_ex (g := s.gap) (e := s.more) (Ds := fun j => (cell s a b (i' + 1) j).d) (Hs := fun j => hv s a b (i' + 1) j) d1 ds j hj
    exact h L q1 q2 (q3.trans e.symm)
  · have le := seq_le (g := s.gap) (e := s.more) (Ds := fun j => (cell s a b (i' + 1) j).d) (Hs := fun j => hv s a b (i' + 1) j) d1 ds L j h1 h2
    have e : hv s a b (i' + 1) j = (cell s a b (i' + 1) j).d := by
      have le' : hv s a b (i' + 1) (j - L) - (s.gap + s.more * (L : Int)) ≤ (cell s a b (i' + 1) j).d := le
      omega
    refine .inr ⟨h1, h2, e, fun w => ?_⟩
    exact seq_back (g := s.gap) (e := s.more) (Ds := fun j => (cell s a b (i' + 1) j).d) (Hs := fun j => hv s a b (i' + 1) j) (Bd := fun j w => back s a b .d (i' + 1) j w) (Bh := fun j w => back s a b .h (i' + 1) j w) (c := 68) d1 ds (fun j w hj => by
      show back s a b .d (i' + 1) j w = _
      rw [back_d hg ⟨by omega, hj⟩]
      show back s a b (if (cell s a b (i' + 1) j).d = hv s a b (i' + 1) (j - 1) - s.gap - s.more then .h else .d) (i' + 1) (j - 1) (68 :: w) = _
      by_cases c : (cell s a b (i' + 1) j).d = hv s a b (i' + 1) (j - 1) - s.gap - s.more
      · rw [if_pos c, if_pos c]
      · rw [if_neg c, if_neg c]) L j w h1 h2 (h3.trans e) fun l q1 q2 z => h4 l q1 q2 (z.trans e.symm)
theorem row_i (hg : s.gap ≤ 127) {i j L : Nat} (hi : 1 ≤ i) (hj : 1 ≤ j) (hL : Least (fun L => hv s a b (i - L) j - (s.gap + s.more * (L : Int)) = hv s a b i j) i L) :
    (L = 0 ∧ hv s a b i j ≠ (cell s a b i j).i) ∨ (1 ≤ L ∧ L ≤ i ∧ hv s a b i j = (cell s a b i j).i ∧ ∀ w, back s a b .i i j w = back s a b .h (i - L) j (List.replicate L 73 ++ w)) := by
  obtain ⟨j', rfl⟩ : ∃ j', j = j' + 1 := ⟨j - 1, by omega⟩
  have d1 : (fun i => (cell s a b i (j' + 1)).i) 1 = hv s a b 0 (j' + 1) - s.gap - s.more := i_first hg j'
  have ds : ∀ i, 1 ≤ i → (fun i => (cell s a b i (j' + 1)).i) (i + 1) = max (hv s a b i (j' + 1) - s.gap - s.more) ((fun i => (cell s a b i (j' + 1)).i) i - s.more) := fun i _ => i_succ i j'
  have ge : (cell s a b i (j' + 1)).i ≤ hv s a b i (j' + 1) := by
    obtain ⟨i', rfl⟩ : ∃ i', i = i' + 1 := ⟨i - 1, by omega⟩
    rw [hv_step]
    unfold iv
    rw [if_neg (by omega)]
    omega
  rcases hL with ⟨rfl, h⟩ | ⟨h1, h2, h3, h4⟩
  · refine .inl ⟨rfl, fun e => ?_⟩
    obtain ⟨L, q1, q2, q3⟩ := seq_ex (g := s.gap) (e := s.more) (Ds := fun i => (cell s a b i (j' + 1)).i) (Hs := fun i => hv s a b i (j' + 1)) d1 ds i hi
    exact h L q1 q2 (q3.trans e.symm)
  · have le := seq_le (g := s.gap) (e := s.more) (Ds := fun i => (cell s a b i (j' + 1)).i) (Hs := fun i => hv s a b i (j' + 1)) d1 ds L i h1 h2
    have e : hv s a b i (j' + 1) = (cell s a b i (j' + 1)).i := by
      have le' : hv s a b (i - L) (j' + 1) - (s.gap + s.more * (L : Int)) ≤ (cell s a b i (j' + 1)).i := le
      omega
    refine .inr ⟨h1, h2, e, fun w => ?_⟩
    exact seq_back (g := s.gap) (e := s.more) (Ds := fun i => (cell s a b i (j' + 1)).i) (Hs := fun i => hv s a b i (j' + 1)) (Bd := fun i w => back s a b .i i (j' + 1) w) (Bh := fun i w => back s a b .h i (j' + 1) w) (c := 73) d1 ds (fun i w hi => by
      show back s a b .i i (j' + 1) w = _
      rw [back_i hg ⟨hi, by omega⟩]
      show back s a b (if (cell s a b i (j' + 1)).i = hv s a b (i - 1) (j' + 1) - s.gap - s.more then .h else .i) (i - 1) (j' + 1) (73 :: w) = _
      by_cases c : (cell s a b i (j' + 1)).i = hv s a b (i - 1) (j' + 1) - s.gap - s.more
      · rw [if_pos c, if_pos c]
      · rw [if_neg c, if_neg c]) L i w h1 h2 (h3.trans e) fun l q1 q2 z => h4 l q1 q2 (z.trans e.symm)
theorem back_hv (hg : s.gap ≤ 127) {i j : Nat} {w : List UInt8} (c : ¬ ((cell s a b i j).h = 0 ∨ i = 0 ∨ j = 0)) : back s a b .h i j w =
    if hv s a b i j = hv s a b (i - 1) (j - 1) + score s (a (i - 1)) (b (j - 1)) then back s a b .h (i - 1) (j - 1) (77 :: w)
    else if hv s a b i j = (cell s a b i j).d then back s a b .d i j w else back s a b .i i j w := back_h hg c
/-- one letter, or one row, of the way back -/
theorem step_m (hg : s.gap ≤ 127) {i j : Nat} (h0 : 0 < hv s a b i j) (e : hv s a b (i - 1) (j - 1) + score s (a (i - 1)) (b (j - 1)) = hv s a b i j) (w : List UInt8) : back s a b .h i j w = back s a b .h (i - 1) (j - 1) (77 :: w) := by
  have hi : i ≠ 0 := fun z => by rw [z, hv_0j] at h0; omega
  have hj : j ≠ 0 := fun z => by rw [z, hv_i0] at h0; omega
  have h0' : (cell s a b i j).h ≠ 0 := by
    have : 0 < (cell s a b i j).h := h0
    omega
  rw [back_hv hg (by omega), if_pos e.symm]
theorem step_d (hg : s.gap ≤ 127) {i j L : Nat} (h0 : 0 < hv s a b i j) (ne : hv s a b (i - 1) (j - 1) + score s (a (i - 1)) (b (j - 1)) ≠ hv s a b i j) (hL : Least (fun L => hv s a b i (j - L) - (s.gap + s.more * (L : Int)) = hv s a b i j) j L) (h1 : 0 < L) (w : List UInt8) :
    back s a b .h i j w = back s a b .h i (j - L) (List.replicate L 68 ++ w) := by
  have hi : i ≠ 0 := fun z => by rw [z, hv_0j] at h0; omega
  have hj : j ≠ 0 := fun z => by rw [z, hv_i0] at h0; omega
  have h0' : (cell s a b i j).h ≠ 0 := by
    have : 0 < (cell s a b i j).h := h0
    omega
  rcases row_d hg (by omega) (by omega) hL with ⟨z, _⟩ | ⟨_, _, e, q⟩
  · omega
  · rw [back_hv hg (by omega), if_neg (fun z => ne z.symm), if_pos e, q w]
theorem step_i (hg : s.gap ≤ 127) {i j L : Nat} (h0 : 0 < hv s a b i j) (ne : hv s a b (i - 1) (j - 1) + score s (a (i - 1)) (b (j - 1)) ≠ hv s a b i j) (hD : Least (fun L => hv s a b i (j - L) - (s.gap + s.more * (L : Int)) = hv s a b i j) j 0)
    (hL : Least (fun L => hv s a b (i - L) j - (s.gap + s.more * (L : Int)) = hv s a b i j) i L) (w : List UInt8) :
    1 ≤ L ∧ L ≤ i ∧ back s a b .h i j w = back s a b .h (i - L) j (List.replicate L 73 ++ w) := by
  have hi : i ≠ 0 := fun z => by rw [z, hv_0j] at h0; omega
  have hj : j ≠ 0 := fun z => by rw [z, hv_i0] at h0; omega
  have h0' : (cell s a b i j).h ≠ 0 := by
    have : 0 < (cell s a b i j).h := h0
    omega
  rcases row_d hg (by omega) (by omega) hD with ⟨_, nd⟩ | ⟨z, _⟩
  · obtain ⟨i', rfl⟩ : ∃ i', i = i' + 1 := ⟨i - 1, by omega⟩
    obtain ⟨j', rfl⟩ : ∃ j', j = j' + 1 := ⟨j - 1, by omega⟩
    have e := hv_step (s := s) (a := a) (b := b) i' j'
    have ne' : hv s a b i' j' + score s (a i') (b j') ≠ hv s a b (i' + 1) (j' + 1) := ne
    unfold dv iv at e
    rw [if_neg (by omega), if_neg (by omega)] at e
    have ei : hv s a b (i' + 1) (j' + 1) = (cell s a b (i' + 1) (j' + 1)).i := by omega
    rcases row_i hg (by omega) (by omega) hL with ⟨_, z⟩ | ⟨h1, h2, _, q⟩
    · exact absurd ei z
    · refine ⟨h1, h2, ?_⟩
      rw [back_hv hg (by omega), if_neg (fun z => ne z.symm), if_neg nd, q w]
  · omega
theorem back_zero {i j : Nat} (h : ¬ 0 < hv s a b i j) (w : List UInt8) : back s a b .h i j w = (i, j, w) := by
  refine back_end (.inl ?_)
  have := hv_nonneg (s := s) (a := a) (b := b) i j
  have e : hv s a b i j = (cell s a b i j).h := rfl
  omega
end
theorem FirstBest.more {κ : Type} {val : κ → Int} {l : List κ} {z : κ} {r : Int × κ} (B : FirstBest val l z r) {row : List κ} (h : ∀ k ∈ row, val k ≤ r.1) : FirstBest val (l ++ row) z r := by
  rcases B.or with ⟨e, h1⟩ | ⟨h0, h1, p, q, e, hp, hq⟩
  · refine ⟨.inl ⟨e, fun k hk => ?_⟩⟩
    rcases List.mem_append.mp hk with m | m
    · exact h1 k m
    · have := h k m; rw [e] at this; exact this
  · refine ⟨.inr ⟨h0, h1, p, q ++ row, by rw [e]; simp, hp, fun x hx => ?_⟩⟩
    rcases List.mem_append.mp hx with m | m
    · exact hq x m
    · exact h x m
theorem FirstBest.nonneg {κ : Type} {val : κ → Int} {l : List κ} {z : κ} {r : Int × κ} (B : FirstBest val l z r) : 0 ≤ r.1 := by
  rcases B.or with ⟨e, _⟩ | ⟨h0, _⟩
  · rw [e]; exact Int.le_refl 0
  · omega
theorem FirstBest.new {κ : Type} {val : κ → Int} {l : List κ} {z : κ} {r : Int × κ} (B : FirstBest val l z r) {p q : List κ} {k : κ} (h : r.1 < val k) (hp : ∀ x ∈ p, val x < val k) (hq : ∀ x ∈ q, val x ≤ val k) : FirstBest val (l ++ (p ++ k :: q)) z (val k, k) := by
  have n := B.nonneg
  refine ⟨.inr ⟨by show 0 < val k; omega, rfl, l ++ p, q, by rw [List.append_assoc], fun x hx => ?_, hq⟩⟩
  rcases List.mem_append.mp hx with m | m
  · have := B.bound x m
    show val x < val k
    omega
  · exact hp x m
theorem max_d {x y m : Int} (e : m = max x y) : (¬ x < y → x = m) ∧ (x < y → m = y) := by omega
theorem max_h {x d i m1 m2 m3 : Int} (h1 : m1 = max x d) (h2 : m2 = max m1 i) (e : m3 = max (max 0 x) (max d i)) : (¬ m2 < 0 → m2 = m3) ∧ (m2 < 0 → m3 = 0) := by omega
end Gr

/-! What a step looks like. -/
namespace Gr
open Sg42Neutral (bytesOf octets)
open Sg42 (Desk Spot)
def F1 (st : List Int) : Prop := ∃ m k b, st = 1 :: m :: k :: b ∧ Byt b ∧ b.length ≤ 65536 ∧ ((0 ≤ m ∧ m ≤ 1024) → b.length = (m.toNat + 3) / 4)
def F2 (st : List Int) : Prop := ∃ m k b, st = 2 :: m :: k :: b ∧ Byt b ∧ b.length ≤ 65536 ∧ ((0 ≤ m ∧ m ≤ 1024) → b.length = (m.toNat + 3) / 4)
def F3 (st : List Int) : Prop := ∃ m k x b, st = 3 :: m :: k :: x :: b ∧ Byt b ∧ b.length ≤ 65536 ∧ ((0 ≤ m ∧ m ≤ 512) → b.length = (m.toNat + 3) / 4)
def F4 (st : List Int) : Prop := ∃ n m s1 s2 s3 s4 k a b, st = 4 :: n :: m :: s1 :: s2 :: s3 :: s4 :: k :: (a ++ b) ∧ Byt a ∧ Byt b ∧ (0 ≤ n ∧ n ≤ 1024) ∧ (0 ≤ m ∧ m ≤ 1024) ∧ a.length = (n.toNat + 3) / 4 ∧ b.length = (m.toNat + 3) / 4
def F5 (st : List Int) : Prop := ∃ n p k r q w, st = 5 :: n :: p :: k :: (r ++ q ++ w) ∧ Byt r ∧ Byt q ∧ Byt w ∧ (0 ≤ n ∧ n ≤ 1024) ∧ (0 ≤ k ∧ k ≤ 4096) ∧ r.length = (n.toNat + 3) / 4 ∧ q.length = n.toNat ∧ w.length = k.toNat
def F6 (st : List Int) : Prop := ∃ f t, st = [6, f, t]
def F7 (st : List Int) : Prop := ∃ f t, st = [7, f, t]
theorem byt_take {l : List Int} (h : Byt l) (n : Nat) : Byt (l.take n) := fun x hx => h x (List.mem_of_mem_take hx)
theorem byt_drop {l : List Int} (h : Byt l) (n : Nat) : Byt (l.drop n) := fun x hx => h x (List.mem_of_mem_drop hx)
theorem right_of {st : List Int} (h : Sg42Neutral.stepRight st = true) : F1 st ∨ F2 st ∨ F3 st ∨ F4 st ∨ F5 st ∨ F6 st ∨ F7 st := by
  unfold Sg42Neutral.stepRight at h
  split at h
  · rename_i m k b
    rw [Bool.and_eq_true] at h
    obtain ⟨h1, h2, h3⟩ := packed_of h.2
    exact .inl ⟨m, k, b, rfl, h1, h2, h3⟩
  · rename_i m k b
    rw [Bool.and_eq_true] at h
    obtain ⟨h1, h2, h3⟩ := packed_of h.2
    exact .inr (.inl ⟨m, k, b, rfl, h1, h2, h3⟩)
  · rename_i m k x b
    rw [Bool.and_eq_true, Bool.and_eq_true] at h
    obtain ⟨h1, h2, h3⟩ := packed_of h.2.2
    exact .inr (.inr (.inl ⟨m, k, x, b, rfl, h1, h2, h3⟩))
  · rename_i n m s1 s2 s3 s4 k b
    rw [Bool.and_eq_true, Bool.and_eq_true, Bool.and_eq_true, Bool.and_eq_true, decide_eq_true_eq] at h
    obtain ⟨_, h1, h2, h3, h4⟩ := h
    obtain ⟨hb, _⟩ := row_of h1
    have e4 : b.length = (n.toNat + 3) / 4 + (m.toNat + 3) / 4 := h4
    refine .inr (.inr (.inr (.inl ⟨n, m, s1, s2, s3, s4, k, b.take ((n.toNat + 3) / 4), b.drop ((n.toNat + 3) / 4), by rw [List.take_append_drop], byt_take hb _, byt_drop hb _, nwithin_iff.mp h2, nwithin_iff.mp h3, ?_, ?_⟩)))
    · rw [List.length_take]; omega
    · rw [List.length_drop]; omega
  · rename_i n p k b
    rw [Bool.and_eq_true, Bool.and_eq_true, Bool.and_eq_true, Bool.and_eq_true, decide_eq_true_eq] at h
    obtain ⟨_, h1, h2, h3, h4⟩ := h
    obtain ⟨hb, _⟩ := row_of h1
    have e4 : b.length = (n.toNat + 3) / 4 + n.toNat + k.toNat := h4
    refine .inr (.inr (.inr (.inr (.inl ⟨n, p, k, b.take ((n.toNat + 3) / 4), (b.drop ((n.toNat + 3) / 4)).take n.toNat, (b.drop ((n.toNat + 3) / 4)).drop n.toNat, by rw [List.append_assoc, List.take_append_drop, List.take_append_drop], byt_take hb _, byt_take (byt_drop hb _) _, byt_drop (byt_drop hb _) _, nwithin_iff.mp h2, nwithin_iff.mp h3, ?_, ?_, ?_⟩))))
    · rw [List.length_take]; omega
    · rw [List.length_take, List.length_drop]; omega
    · rw [List.length_drop, List.length_drop]; omega
  · rename_i f t
    exact .inr (.inr (.inr (.inr (.inr (.inl ⟨f, t, rfl⟩)))))
  · rename_i f t
    exact .inr (.inr (.inr (.inr (.inr (.inr ⟨f, t, rfl⟩)))))
  · cases h
end Gr

namespace Py
open PySem L2 Br Gr
def top (i : Nat) : Stmt := PySem.Challenge.pw_genomereads_s11_genome.main.body.getD i (.Pass ⟨0, 0, 0, 0⟩)
abbrev s_Block_init : Stmt := inClass (top 1) 0
abbrev s_Block_advance : Stmt := inClass (top 1) 1
abbrev s_near_ends : Stmt := top 2
abbrev s_outside : Stmt := top 6
abbrev s_bytes_for : Stmt := top 9
abbrev s_base_at : Stmt := top 10
abbrev s_read_bases : Stmt := top 11
abbrev s_first_other_byte : Stmt := top 15
abbrev s_Scores_init : Stmt := inClass (top 20) 0
abbrev s_Scores_pair : Stmt := inClass (top 20) 1
abbrev s_Scores_row : Stmt := inClass (top 20) 2
abbrev s_worths_behind : Stmt := top 21
abbrev s_all_worths : Stmt := top 22
abbrev s_best_end : Stmt := top 23
abbrev s_length_of_d : Stmt := top 24
abbrev s_length_of_i : Stmt := top 25
abbrev s_way_back : Stmt := top 26
abbrev s_best_way : Stmt := top 27
abbrev s_length_behind : Stmt := top 29
abbrev s_shorter_beginnings : Stmt := top 30
abbrev s_beginnings_at : Stmt := top 31
abbrev s_places_of : Stmt := top 32
abbrev s_longest_beginning : Stmt := top 33
abbrev s_raised : Stmt := top 38
abbrev s_Reads_init : Stmt := inClass (top 39) 0
abbrev s_Reads_fits : Stmt := inClass (top 39) 1
abbrev s_Reads_pile : Stmt := inClass (top 39) 2
abbrev s_Reads_depth_at : Stmt := inClass (top 39) 3
abbrev s_Reads_said_at : Stmt := inClass (top 39) 4
abbrev s_Genome_init : Stmt := inClass (top 47) 0
abbrev s_Genome_make : Stmt := inClass (top 47) 1
abbrev s_Genome_find_places : Stmt := inClass (top 47) 2
abbrev s_Genome_find_longest : Stmt := inClass (top 47) 3
abbrev s_Genome_find_near : Stmt := inClass (top 47) 4
abbrev s_Genome_pile_read : Stmt := inClass (top 47) 5
abbrev s_Genome_tell_said : Stmt := inClass (top 47) 6
abbrev s_Genome_tell_depth : Stmt := inClass (top 47) 7
abbrev s_lay : Stmt := top 48
abbrev s_genome : Stmt := top 50
/-- where the text's own things stand -/
structure Adr where
  f_Block_init : Addr
  d_Block_init : FuncData
  f_Block_advance : Addr
  d_Block_advance : FuncData
  f_near_ends : Addr
  d_near_ends : FuncData
  f_outside : Addr
  d_outside : FuncData
  f_bytes_for : Addr
  d_bytes_for : FuncData
  f_base_at : Addr
  d_base_at : FuncData
  f_read_bases : Addr
  d_read_bases : FuncData
  f_first_other_byte : Addr
  d_first_other_byte : FuncData
  f_Scores_init : Addr
  d_Scores_init : FuncData
  f_Scores_pair : Addr
  d_Scores_pair : FuncData
  f_Scores_row : Addr
  d_Scores_row : FuncData
  f_worths_behind : Addr
  d_worths_behind : FuncData
  f_all_worths : Addr
  d_all_worths : FuncData
  f_best_end : Addr
  d_best_end : FuncData
  f_length_of_d : Addr
  d_length_of_d : FuncData
  f_length_of_i : Addr
  d_length_of_i : FuncData
  f_way_back : Addr
  d_way_back : FuncData
  f_best_way : Addr
  d_best_way : FuncData
  f_length_behind : Addr
  d_length_behind : FuncData
  f_shorter_beginnings : Addr
  d_shorter_beginnings : FuncData
  f_beginnings_at : Addr
  d_beginnings_at : FuncData
  f_places_of : Addr
  d_places_of : FuncData
  f_longest_beginning : Addr
  d_longest_beginning : FuncData
  f_raised : Addr
  d_raised : FuncData
  f_Reads_init : Addr
  d_Reads_init : FuncData
  f_Reads_fits : Addr
  d_Reads_fits : FuncData
  f_Reads_pile : Addr
  d_Reads_pile : FuncData
  f_Reads_depth_at : Addr
  d_Reads_depth_at : FuncData
  f_Reads_said_at : Addr
  d_Reads_said_at : FuncData
  f_Genome_init : Addr
  d_Genome_init : FuncData
  f_Genome_make : Addr
  d_Genome_make : FuncData
  f_Genome_find_places : Addr
  d_Genome_find_places : FuncData
  f_Genome_find_longest : Addr
  d_Genome_find_longest : FuncData
  f_Genome_find_near : Addr
  d_Genome_find_near : FuncData
  f_Genome_pile_read : Addr
  d_Genome_pile_read : FuncData
  f_Genome_tell_said : Addr
  d_Genome_tell_said : FuncData
  f_Genome_tell_depth : Addr
  d_Genome_tell_depth : FuncData
  f_lay : Addr
  d_lay : FuncData
  f_genome : Addr
  d_genome : FuncData
  C_Block : Addr
  C_Scores : Addr
  C_Reads : Addr
  C_Genome : Addr
  t_CAPITALS : Addr
/-- what the top has written -/
structure Txt (K : PySem.W.Frag) (mg : Str → Option Value) (a : Adr) : Prop where
  g_CAPITALS : mg "CAPITALS" = some (.ref a.t_CAPITALS)
  v_CAPITALS : ∀ H, SqT K H a.t_CAPITALS [.int 65, .int 67, .int 71, .int 84]
  c_GREATEST_BYTE : ∃ t, mg "GREATEST_BYTE" = some (.int 126 t)
  c_GREATEST_COUNT : ∃ t, mg "GREATEST_COUNT" = some (.int 65535 t)
  c_LEAST_BYTE : ∃ t, mg "LEAST_BYTE" = some (.int 33 t)
  c_LETTER_D : ∃ t, mg "LETTER_D" = some (.int 68 t)
  c_LETTER_I : ∃ t, mg "LETTER_I" = some (.int 73 t)
  c_LETTER_M : ∃ t, mg "LETTER_M" = some (.int 77 t)
  c_LETTER_N : ∃ t, mg "LETTER_N" = some (.int 78 t)
  c_LETTER_OVER : ∃ t, mg "LETTER_OVER" = some (.int 45 t)
  c_MOST_BASES : ∃ t, mg "MOST_BASES" = some (.int 65536 t)
  c_MOST_LAID : ∃ t, mg "MOST_LAID" = some (.int 1024 t)
  c_MOST_LETTERS : ∃ t, mg "MOST_LETTERS" = some (.int 4096 t)
  c_MOST_NEAR : ∃ t, mg "MOST_NEAR" = some (.int 512 t)
  c_MOST_READ : ∃ t, mg "MOST_READ" = some (.int 1024 t)
  c_MOST_SCORE : ∃ t, mg "MOST_SCORE" = some (.int 127 t)
  c_MOST_SOUGHT : ∃ t, mg "MOST_SOUGHT" = some (.int 1024 t)
  c_MOST_TOLD : ∃ t, mg "MOST_TOLD" = some (.int 65536 t)
  b_enumerate : mg "enumerate" = none
  b_len : mg "len" = none
  b_list : mg "list" = none
  b_max : mg "max" = none
  b_min : mg "min" = none
  b_range : mg "range" = none
  b_reversed : mg "reversed" = none
  b_sum : mg "sum" = none
  b_zip : mg "zip" = none
  F_Block_init : Fun K "__init__" "Block.__init__" s_Block_init a.f_Block_init a.d_Block_init
  B_Block_init : Binds K a.d_Block_init ["self", "codes"] []
  F_Block_advance : Fun K "advance" "Block.advance" s_Block_advance a.f_Block_advance a.d_Block_advance
  B_Block_advance : Binds K a.d_Block_advance ["self", "base", "step"] []
  m_Block_advance : Meth K a.C_Block "advance" a.f_Block_advance
  g_near_ends : mg "near_ends" = some (.ref a.f_near_ends)
  F_near_ends : Fun K "near_ends" "near_ends" s_near_ends a.f_near_ends a.d_near_ends
  B_near_ends : Binds K a.d_near_ends ["codes", "piece", "k"] []
  g_outside : mg "outside" = some (.ref a.f_outside)
  F_outside : Fun K "outside" "outside" s_outside a.f_outside a.d_outside
  B_outside : Binds K a.d_outside ["number", "least", "greatest"] []
  g_bytes_for : mg "bytes_for" = some (.ref a.f_bytes_for)
  F_bytes_for : Fun K "bytes_for" "bytes_for" s_bytes_for a.f_bytes_for a.d_bytes_for
  B_bytes_for : Binds K a.d_bytes_for ["n"] []
  g_base_at : mg "base_at" = some (.ref a.f_base_at)
  F_base_at : Fun K "base_at" "base_at" s_base_at a.f_base_at a.d_base_at
  B_base_at : Binds K a.d_base_at ["bases", "place"] []
  g_read_bases : mg "read_bases" = some (.ref a.f_read_bases)
  F_read_bases : Fun K "read_bases" "read_bases" s_read_bases a.f_read_bases a.d_read_bases
  B_read_bases : Binds K a.d_read_bases ["bases", "begin", "n"] []
  g_first_other_byte : mg "first_other_byte" = some (.ref a.f_first_other_byte)
  F_first_other_byte : Fun K "first_other_byte" "first_other_byte" s_first_other_byte a.f_first_other_byte a.d_first_other_byte
  B_first_other_byte : Binds K a.d_first_other_byte ["qualities"] []
  F_Scores_init : Fun K "__init__" "Scores.__init__" s_Scores_init a.f_Scores_init a.d_Scores_init
  B_Scores_init : Binds K a.d_Scores_init ["self", "alike", "unlike", "gap", "more"] []
  F_Scores_pair : Fun K "pair" "Scores.pair" s_Scores_pair a.f_Scores_pair a.d_Scores_pair
  B_Scores_pair : Binds K a.d_Scores_pair ["self", "x", "y"] []
  m_Scores_pair : Meth K a.C_Scores "pair" a.f_Scores_pair
  F_Scores_row : Fun K "row" "Scores.row" s_Scores_row a.f_Scores_row a.d_Scores_row
  B_Scores_row : Binds K a.d_Scores_row ["self", "length"] []
  m_Scores_row : Meth K a.C_Scores "row" a.f_Scores_row
  g_worths_behind : mg "worths_behind" = some (.ref a.f_worths_behind)
  F_worths_behind : Fun K "worths_behind" "worths_behind" s_worths_behind a.f_worths_behind a.d_worths_behind
  B_worths_behind : Binds K a.d_worths_behind ["before", "ends_in_d", "pairs", "scores"] []
  g_all_worths : mg "all_worths" = some (.ref a.f_all_worths)
  F_all_worths : Fun K "all_worths" "all_worths" s_all_worths a.f_all_worths a.d_all_worths
  B_all_worths : Binds K a.d_all_worths ["a", "b", "scores"] []
  g_best_end : mg "best_end" = some (.ref a.f_best_end)
  F_best_end : Fun K "best_end" "best_end" s_best_end a.f_best_end a.d_best_end
  B_best_end : Binds K a.d_best_end ["worths"] []
  g_length_of_d : mg "length_of_d" = some (.ref a.f_length_of_d)
  F_length_of_d : Fun K "length_of_d" "length_of_d" s_length_of_d a.f_length_of_d a.d_length_of_d
  B_length_of_d : Binds K a.d_length_of_d ["worths", "i", "j", "scores"] []
  g_length_of_i : mg "length_of_i" = some (.ref a.f_length_of_i)
  F_length_of_i : Fun K "length_of_i" "length_of_i" s_length_of_i a.f_length_of_i a.d_length_of_i
  B_length_of_i : Binds K a.d_length_of_i ["worths", "i", "j", "scores"] []
  g_way_back : mg "way_back" = some (.ref a.f_way_back)
  F_way_back : Fun K "way_back" "way_back" s_way_back a.f_way_back a.d_way_back
  B_way_back : Binds K a.d_way_back ["worths", "a", "b", "scores", "end"] []
  g_best_way : mg "best_way" = some (.ref a.f_best_way)
  F_best_way : Fun K "best_way" "best_way" s_best_way a.f_best_way a.d_best_way
  B_best_way : Binds K a.d_best_way ["a", "b", "scores"] []
  g_length_behind : mg "length_behind" = some (.ref a.f_length_behind)
  F_length_behind : Fun K "length_behind" "length_behind" s_length_behind a.f_length_behind a.d_length_behind
  B_length_behind : Binds K a.d_length_behind ["piece", "shorter", "length", "code"] []
  g_shorter_beginnings : mg "shorter_beginnings" = some (.ref a.f_shorter_beginnings)
  F_shorter_beginnings : Fun K "shorter_beginnings" "shorter_beginnings" s_shorter_beginnings a.f_shorter_beginnings a.d_shorter_beginnings
  B_shorter_beginnings : Binds K a.d_shorter_beginnings ["piece"] []
  g_beginnings_at : mg "beginnings_at" = some (.ref a.f_beginnings_at)
  F_beginnings_at : Fun K "beginnings_at" "beginnings_at" s_beginnings_at a.f_beginnings_at a.d_beginnings_at
  B_beginnings_at : Binds K a.d_beginnings_at ["codes", "piece"] []
  g_places_of : mg "places_of" = some (.ref a.f_places_of)
  F_places_of : Fun K "places_of" "places_of" s_places_of a.f_places_of a.d_places_of
  B_places_of : Binds K a.d_places_of ["codes", "piece"] []
  g_longest_beginning : mg "longest_beginning" = some (.ref a.f_longest_beginning)
  F_longest_beginning : Fun K "longest_beginning" "longest_beginning" s_longest_beginning a.f_longest_beginning a.d_longest_beginning
  B_longest_beginning : Binds K a.d_longest_beginning ["codes", "piece"] []
  g_raised : mg "raised" = some (.ref a.f_raised)
  F_raised : Fun K "raised" "raised" s_raised a.f_raised a.d_raised
  B_raised : Binds K a.d_raised ["number", "more"] []
  F_Reads_init : Fun K "__init__" "Reads.__init__" s_Reads_init a.f_Reads_init a.d_Reads_init
  B_Reads_init : Binds K a.d_Reads_init ["self", "length"] []
  F_Reads_fits : Fun K "fits" "Reads.fits" s_Reads_fits a.f_Reads_fits a.d_Reads_fits
  B_Reads_fits : Binds K a.d_Reads_fits ["self", "codes", "qualities", "way", "place"] []
  m_Reads_fits : Meth K a.C_Reads "fits" a.f_Reads_fits
  F_Reads_pile : Fun K "pile" "Reads.pile" s_Reads_pile a.f_Reads_pile a.d_Reads_pile
  B_Reads_pile : Binds K a.d_Reads_pile ["self", "codes", "qualities", "way", "place"] []
  m_Reads_pile : Meth K a.C_Reads "pile" a.f_Reads_pile
  F_Reads_depth_at : Fun K "depth_at" "Reads.depth_at" s_Reads_depth_at a.f_Reads_depth_at a.d_Reads_depth_at
  B_Reads_depth_at : Binds K a.d_Reads_depth_at ["self", "place"] []
  m_Reads_depth_at : Meth K a.C_Reads "depth_at" a.f_Reads_depth_at
  F_Reads_said_at : Fun K "said_at" "Reads.said_at" s_Reads_said_at a.f_Reads_said_at a.d_Reads_said_at
  B_Reads_said_at : Binds K a.d_Reads_said_at ["self", "place"] []
  m_Reads_said_at : Meth K a.C_Reads "said_at" a.f_Reads_said_at
  F_Genome_init : Fun K "__init__" "Genome.__init__" s_Genome_init a.f_Genome_init a.d_Genome_init
  B_Genome_init : Binds K a.d_Genome_init ["self", "codes"] []
  F_Genome_make : Fun K "make" "Genome.make" s_Genome_make a.f_Genome_make a.d_Genome_make
  B_Genome_make : Binds K a.d_Genome_make ["self", "step"] []
  m_Genome_make : Meth K a.C_Genome "make" a.f_Genome_make
  F_Genome_find_places : Fun K "find_places" "Genome.find_places" s_Genome_find_places a.f_Genome_find_places a.d_Genome_find_places
  B_Genome_find_places : Binds K a.d_Genome_find_places ["self", "step"] []
  m_Genome_find_places : Meth K a.C_Genome "find_places" a.f_Genome_find_places
  F_Genome_find_longest : Fun K "find_longest" "Genome.find_longest" s_Genome_find_longest a.f_Genome_find_longest a.d_Genome_find_longest
  B_Genome_find_longest : Binds K a.d_Genome_find_longest ["self", "step"] []
  m_Genome_find_longest : Meth K a.C_Genome "find_longest" a.f_Genome_find_longest
  F_Genome_find_near : Fun K "find_near" "Genome.find_near" s_Genome_find_near a.f_Genome_find_near a.d_Genome_find_near
  B_Genome_find_near : Binds K a.d_Genome_find_near ["self", "step"] []
  m_Genome_find_near : Meth K a.C_Genome "find_near" a.f_Genome_find_near
  F_Genome_pile_read : Fun K "pile_read" "Genome.pile_read" s_Genome_pile_read a.f_Genome_pile_read a.d_Genome_pile_read
  B_Genome_pile_read : Binds K a.d_Genome_pile_read ["self", "step"] []
  m_Genome_pile_read : Meth K a.C_Genome "pile_read" a.f_Genome_pile_read
  F_Genome_tell_said : Fun K "tell_said" "Genome.tell_said" s_Genome_tell_said a.f_Genome_tell_said a.d_Genome_tell_said
  B_Genome_tell_said : Binds K a.d_Genome_tell_said ["self", "step"] []
  m_Genome_tell_said : Meth K a.C_Genome "tell_said" a.f_Genome_tell_said
  F_Genome_tell_depth : Fun K "tell_depth" "Genome.tell_depth" s_Genome_tell_depth a.f_Genome_tell_depth a.d_Genome_tell_depth
  B_Genome_tell_depth : Binds K a.d_Genome_tell_depth ["self", "step"] []
  m_Genome_tell_depth : Meth K a.C_Genome "tell_depth" a.f_Genome_tell_depth
  g_lay : mg "lay" = some (.ref a.f_lay)
  F_lay : Fun K "lay" "lay" s_lay a.f_lay a.d_lay
  B_lay : Binds K a.d_lay ["step"] []
  g_genome : mg "genome" = some (.ref a.f_genome)
  F_genome : Fun K "genome" "genome" s_genome a.f_genome a.d_genome
  B_genome : Binds K a.d_genome ["bases", "n", "steps"] []
  g_Block : mg "Block" = some (.ref a.C_Block)
  cl_Block : Cls K a.C_Block
  M_Block : Mk K a.C_Block a.f_Block_init
  n_Block_falling : NoAttr K a.C_Block "falling"
  n_Block_full : NoAttr K a.C_Block "full"
  n_Block_last : NoAttr K a.C_Block "last"
  n_Block_places : NoAttr K a.C_Block "places"
  n_Block_rising : NoAttr K a.C_Block "rising"
  g_Scores : mg "Scores" = some (.ref a.C_Scores)
  cl_Scores : Cls K a.C_Scores
  M_Scores : Mk K a.C_Scores a.f_Scores_init
  n_Scores_alike : NoAttr K a.C_Scores "alike"
  n_Scores_gap : NoAttr K a.C_Scores "gap"
  n_Scores_more : NoAttr K a.C_Scores "more"
  n_Scores_unlike : NoAttr K a.C_Scores "unlike"
  g_Reads : mg "Reads" = some (.ref a.C_Reads)
  cl_Reads : Cls K a.C_Reads
  M_Reads : Mk K a.C_Reads a.f_Reads_init
  n_Reads_counts : NoAttr K a.C_Reads "counts"
  n_Reads_length : NoAttr K a.C_Reads "length"
  n_Reads_over : NoAttr K a.C_Reads "over"
  n_Reads_weights : NoAttr K a.C_Reads "weights"
  g_Genome : mg "Genome" = some (.ref a.C_Genome)
  cl_Genome : Cls K a.C_Genome
  M_Genome : Mk K a.C_Genome a.f_Genome_init
  n_Genome_codes : NoAttr K a.C_Genome "codes"
  n_Genome_reads : NoAttr K a.C_Genome "reads"
end Py

/-! outside. -/
namespace Py
open PySem L2 Br Gr
/-- outside: whether a number lies below the least or above the greatest -/
def sp_outside (K : PySem.W.Frag) : Sp := fun vs H Q _ => ∃ (n lo hi : Int), vs = [.int n, .int lo, .int hi] ∧ Q (.bl (decide (n < lo ∨ hi < n))) H
section
variable {P : Program} {w : World} {K : PySem.W.Frag} {mg : Str → Option Value} {bh : Heap} {a : Adr}
theorem sc_outside : FnScope ["number", "least", "greatest"] ["number", "least", "greatest"] (defScope s_outside) := ⟨rfl, rfl, rfl, by decide +kernel, rfl, by decide +kernel, by decide +kernel⟩
theorem ok_outside (T : Txt K mg a) : FnOk P w K mg bh CX0 1 a.f_outside a.d_outside ["number", "least", "greatest"] (sp_outside K) := by
  refine T.F_outside.ok sc_outside (fun vs H Q E h => ?_) (fun cdv A outer s H vs Q E hr h => ?_)
  · obtain ⟨n, lo, hi, rfl, _⟩ := h
    rfl
  · obtain ⟨n, lo, hi, rfl, k⟩ := h
    refine ⟨_, (pss_one (ps_ret (pe_or (pe_cmpR op_lt (pv 0) (pv 1) (nomark _)) (pe_one (pe_cmpR op_gt (pv 0) (pv 2) (nomark _)))))), ?_⟩
    refine ⟨_, rfl, _, rfl, _, _, rfl, rfl, _, rfl, ?_⟩
    refine ite2 (fun h => ?_) (fun h => ?_)
    · have e : decide (n < lo ∨ hi < n) = true := decide_eq_true (.inl (of_decide_eq_true h))
      rw [e] at k
      exact k
    · refine ⟨_, rfl, _, rfl, _, _, rfl, rfl, ?_⟩
      have h' : ¬ n < lo := fun z => h (decide_eq_true z)
      have e : decide (n < lo ∨ hi < n) = decide (hi < n) := by simp [h']
      rw [e] at k
      exact k
end
end Py

/-! What the small defs promise: base_at, read_bases. -/
namespace Py
open PySem L2 Br Gr
/-- base_at: base number place of packed bytes -/
def sp_base_at (K : PySem.W.Frag) : Sp := fun vs H Q _ => ∃ (p : Addr) (ns : List Int) (i : Nat), vs = [.ref p, .int i] ∧ SqL K H p (ns.map V.int) ∧ Byt ns ∧ i / 4 < ns.length ∧ Q (.int (base ns i)) H
/-- read_bases: n bases from begin on, as a new list -/
def sp_read_bases (K : PySem.W.Frag) : Sp := fun vs H Q _ => ∃ (p : Addr) (ns : List Int) (b n : Int), vs = [.ref p, .int b, .int n] ∧ SqL K H p (ns.map V.int) ∧ Byt ns ∧ 0 ≤ b ∧ 0 ≤ n ∧ n ≤ 65536 ∧ b ≤ 65536 ∧ (b + n).toNat ≤ 4 * ns.length ∧
  ∀ r H', Same H H' → H r = none → H' r = some (.lst (natV (seg ns b.toNat n.toNat))) → Q (.ref r) H'
section
variable {P : Program} {w : World} {K : PySem.W.Frag} {mg : Str → Option Value} {bh : Heap} {a : Adr}
theorem sc_base_at : FnScope ["bases", "place"] ["bases", "place"] (defScope s_base_at) := ⟨rfl, rfl, rfl, by decide +kernel, rfl, by decide +kernel, by decide +kernel⟩
theorem ok_base_at (T : Txt K mg a) : FnOk P w K mg bh CX0 1 a.f_base_at a.d_base_at ["bases", "place"] (sp_base_at K) := by
  refine T.F_base_at.ok sc_base_at (fun vs H Q E h => ?_) (fun cdv A outer s H vs Q E hr h => ?_)
  · obtain ⟨p, ns, i, rfl, _⟩ := h
    rfl
  · obtain ⟨p, ns, i, rfl, hq, hb, hi, k⟩ := h
    refine ⟨_, (pss_one (ps_ret (pe_op op_and (pe_op op_shr (pe_ix (r := rIxL K) ix_list (pv 0) (pe_op op_fdiv (pv 1) pe_int) (fun _ _ => rfl)) (pe_op op_mul pe_int (pe_op op_mod (pv 1) pe_int))) pe_int))), ?_⟩
    have hx : ns[i / 4]? = some ns[i / 4] := List.getElem?_eq_getElem hi
    have hb' := hb ns[i / 4] (List.getElem_mem hi)
    refine ⟨_, rfl, _, rfl, _, _, rfl, rfl, ⟨by decide, by decide⟩, p, _, _, _, rfl, rfl, hq, at_of (j := i / 4) (by show (i : Int) / 4 = _; omega) (get_ints hx), ?_⟩
    refine ⟨_, rfl, _, _, rfl, rfl, (by show (0 : Int) < 4; decide), _, _, rfl, rfl, .inl ⟨by decide, by decide⟩, _, _, rfl, rfl, (by show (0 : Int) ≤ 2 * ((i : Int) % 4); omega), _, _, rfl, rfl, ?_⟩
    have e := shr_and (i := i) hb'
    rw [← base_of hx] at e
    rw [← e] at k
    exact k
theorem sc_read_bases : FnScope ["bases", "begin", "n", "place"] ["bases", "begin", "n"] (defScope s_read_bases) := ⟨rfl, rfl, rfl, by decide +kernel, rfl, by decide +kernel, by decide +kernel⟩
theorem ok_read_bases (T : Txt K mg a) : FnOk P w K mg bh CX0 2 a.f_read_bases a.d_read_bases ["bases", "begin", "n"] (sp_read_bases K) := by
  refine T.F_read_bases.ok sc_read_bases (fun vs H Q E h => ?_) (fun cdv A outer s H vs Q E hr h => ?_)
  · obtain ⟨p, ns, b, n, rfl, _⟩ := h
    rfl
  · obtain ⟨p, ns, b, n, rfl, hq, hb, h0, h1, h2, h3, h4, k⟩ := h
    refine ⟨_, (pss_one (ps_ret (pe_lc (own := [("place", 3)]) rfl sc_read_bases.nd (pi_range2 rfl T.b_range (pa_cons (pv 1) (pa_cons (pe_op op_add (pv 1) (pv 2)) pa_nil))) (blkOk_by (N := ["bases", "begin", "n", "place"]) (sc := defScope s_read_bases) (by decide +kernel)) (fun _ _ _ _ _ => (pg_name (i := 3) sc_read_bases.nd rfl (Or.inl rfl))) (fun _ _ _ _ _ => pts_nil)
        (fun _ _ _ _ _ => (pe_call (ok_base_at T) (hr.mono (by decide)) rfl T.g_base_at T.F_base_at.kp T.B_base_at .nil pass0 (pa_cons (pv 0) (pa_cons (pv 3) pa_nil))))))), ?_⟩
    have hN : (b + n - b).toNat = n.toNat := by omega
    refine ⟨_, rfl, _, rfl, _, rfl, _, _, rfl, rfl, b, b + n, rfl, ⟨by omega, by omega, by omega, by omega⟩, fun D hD => lc_range (lo := b) (n := (b + n - b).toNat) (fun i H2 => Same H H2 ∧ H2 D = some (.lst (natV (seg ns b.toNat i)))) ⟨Br.Same.upd_new hD, by rw [upd_same]; rfl⟩ ?_ ?_⟩
    · rintro i H2 hi ⟨s2, hD2⟩
      refine ⟨rfl, ?_⟩
      refine ⟨_, rfl, _, rfl, p, ns, b.toNat + i, by rw [show b + (i : Int) = ((b.toNat + i : Nat) : Int) by omega]; rfl, s2.seq hq, hb, by omega, _, hD2, ?_, Br.Same.upd2 s2 hD, ?_⟩
      · rw [natV_len, seg_len, sizeIs]
        omega
      · rw [upd_same, natV_snoc, ← seg_succ]
    · rintro H2 ⟨s2, hD2⟩
      rw [hN] at hD2
      exact k D H2 s2 hD hD2
end
end Py

/-! bytes_for. -/
namespace Py
open PySem L2 Br Gr
def sp_bytes_for (K : PySem.W.Frag) : Sp := fun vs H Q _ => ∃ n : Int, vs = [.int n] ∧ Q (.int ((n + 3) / 4)) H
section
variable {P : Program} {w : World} {K : PySem.W.Frag} {mg : Str → Option Value} {bh : Heap} {a : Adr}
theorem sc_bytes_for : FnScope ["n"] ["n"] (defScope s_bytes_for) := ⟨rfl, rfl, rfl, by decide +kernel, rfl, by decide +kernel, by decide +kernel⟩
theorem ok_bytes_for (T : Txt K mg a) : FnOk P w K mg bh CX0 1 a.f_bytes_for a.d_bytes_for ["n"] (sp_bytes_for K) := by
  refine T.F_bytes_for.ok sc_bytes_for (fun vs H Q E h => ?_) (fun cdv A outer s H vs Q E hr h => ?_)
  · obtain ⟨n, rfl, _⟩ := h
    rfl
  · obtain ⟨n, rfl, k⟩ := h
    refine ⟨_, (pss_one (ps_ret (pe_op op_fdiv (pe_op op_add (pv 0) pe_int) pe_int))), ?_⟩
    exact ⟨_, rfl, _, _, rfl, rfl, _, _, rfl, rfl, ⟨by decide, by decide⟩, k⟩
end
end Py

/-! first_other_byte. -/
namespace Py
open PySem L2 Br Gr
def sp_first_other_byte (K : PySem.W.Frag) : Sp := fun vs H Q _ => ∃ (p : Addr) (qs : List Int), vs = [.ref p] ∧ SqL K H p (qs.map V.int) ∧ ∀ H', Same H H' → Q (.int (otherAt qs : Nat)) H'
section
variable {P : Program} {w : World} {K : PySem.W.Frag} {mg : Str → Option Value} {bh : Heap} {a : Adr}
theorem sc_first_other_byte : FnScope ["qualities", "place", "byte"] ["qualities"] (defScope s_first_other_byte) := ⟨rfl, rfl, rfl, by decide +kernel, rfl, by decide +kernel, by decide +kernel⟩
theorem ok_first_other_byte (T : Txt K mg a) : FnOk P w K mg bh CX0 1 a.f_first_other_byte a.d_first_other_byte ["qualities"] (sp_first_other_byte K) := by
  obtain ⟨_, h_GREATEST_BYTE⟩ := T.c_GREATEST_BYTE
  obtain ⟨_, h_LEAST_BYTE⟩ := T.c_LEAST_BYTE
  refine T.F_first_other_byte.ok sc_first_other_byte (fun vs H Q E h => ?_) (fun cdv A outer s H vs Q E hr h => ?_)
  · obtain ⟨p, qs, rfl, _⟩ := h
    rfl
  · obtain ⟨p, qs, rfl, hq, k⟩ := h
    refine ⟨_, (pss_cons (ps_for PassesOwn.never rfl (pi_enum rfl T.b_enumerate (pa_cons (pv 0) pa_nil)) (pg_tup rfl (pgs_cons (pg_name (i := 1) sc_first_other_byte.nd rfl (Or.inl rfl)) (pgs_cons (pg_name (i := 2) sc_first_other_byte.nd rfl (Or.inl rfl)) pgs_nil)))
        (pss_one (ps_if (PW.pt (pw_or (pt_cmpR op_lt (pv 2) (pe_glob (v := .int 33) rfl h_LEAST_BYTE ⟨_, rfl⟩) (nomark _)) (pw_or1 (pt_cmpR op_gt (pv 2) (pe_glob (v := .int 126) rfl h_GREATEST_BYTE ⟨_, rfl⟩) (nomark _))))) (pss_one (ps_ret (pv 1))) pss_nil)))
      (pss_one (ps_ret (pe_callB (call_len_seq) (by rfl) T.b_len PySem.boot_len (pa_cons (pv 0) pa_nil))))), ?_⟩
    refine ⟨_, rfl, p, _, rfl, hq, for_enum (K := K) (a := p) (xs := qs.map V.int) (fun t σ H2 => ∃ v1 v2, σ = [some (.ref p), v1, v2] ∧ Same H H2 ∧ ∀ y ∈ qs.take t, ¬ (y < 33 ∨ 126 < y))
      ⟨none, none, rfl, Same.refl _, fun y hy => by simp at hy⟩ (fun t σ H2 _ ⟨_, _, _, s2, _⟩ => s2.seq hq) ?_ ?_⟩
    · rintro t x σ H2 T0 hx ⟨v1, v2, rfl, s2, hok⟩ hT
      obtain ⟨z, hz, rfl⟩ := ints_get hx
      have s3 : Same H (upd H2 T0 (.tup [.int (t : Nat), .int z])) := Br.Same.upd2 s2 (s2.free hT)
      have bad : (z < 33 ∨ 126 < z) → Q (.int (t : Nat)) (upd H2 T0 (.tup [.int (t : Nat), .int z])) := fun h => by
        have := k _ s3
        unfold otherAt at this
        rw [other_some hz h hok] at this
        exact this
      refine ⟨T0, _, rfl, SqT.of upd_same, rfl, _, _, rfl, _, _, rfl, rfl, ?_⟩
      refine ⟨_, rfl, _, _, rfl, rfl, _, rfl, ite2 (fun h => iteT ?_) (fun h1 => ?_)⟩
      · exact ⟨_, rfl, bad (.inl (of_decide_eq_true h))⟩
      refine ⟨_, rfl, _, _, rfl, rfl, _, rfl, ite2 (fun h => ?_) (fun h2 => ?_)⟩
      · exact ⟨_, rfl, bad (.inr (of_decide_eq_true h))⟩
      · have h1' : ¬ z < 33 := fun e => h1 (decide_eq_true e)
        have h2' : ¬ 126 < z := fun e => h2 (decide_eq_true e)
        refine ⟨_, _, rfl, s3, fun y hy => ?_⟩
        rw [List.take_add_one, hz] at hy
        rcases List.mem_append.mp hy with m | m
        · exact hok y m
        · have : y = z := by simpa using m
          omega
    · rintro σ H2 ⟨v1, v2, rfl, s2, hok⟩
      rw [List.length_map, List.take_length] at hok
      refine ⟨_, rfl, p, _, rfl, .inl (s2.seq hq), ?_⟩
      have := k _ s2
      unfold otherAt at this
      rw [other_none hok] at this
      rw [List.length_map]
      exact this
end
end Py

/-! Block: a column of the table of edits kept in bits. -/
namespace Py
open PySem L2 Br Gr
/-- a block's attributes -/
def bf (L R F : Nat) (pl : Addr) : List (Str × V) := [("full", .int ((2 ^ L - 1 : Nat) : Int)), ("last", .int ((2 ^ (L - 1) : Nat) : Int)), ("rising", .int (R : Int)), ("falling", .int (F : Int)), ("places", .ref pl)]
theorem bf_full (L R F : Nat) (pl : Addr) : (bf L R F pl).lookup ("full" : Str) = some (.int ((2 ^ L - 1 : Nat) : Int)) := look_hit _ _ _
theorem bf_last (L R F : Nat) (pl : Addr) : (bf L R F pl).lookup ("last" : Str) = some (.int ((2 ^ (L - 1) : Nat) : Int)) := by
  unfold bf
  rw [look_miss (by decide +kernel), look_hit]
theorem bf_rising (L R F : Nat) (pl : Addr) : (bf L R F pl).lookup ("rising" : Str) = some (.int (R : Int)) := by
  unfold bf
  rw [look_miss (by decide +kernel), look_miss (by decide +kernel), look_hit]
theorem bf_falling (L R F : Nat) (pl : Addr) : (bf L R F pl).lookup ("falling" : Str) = some (.int (F : Int)) := by
  unfold bf
  rw [look_miss (by decide +kernel), look_miss (by decide +kernel), look_miss (by decide +kernel), look_hit]
theorem bf_places (L R F : Nat) (pl : Addr) : (bf L R F pl).lookup ("places" : Str) = some (.ref pl) := by
  unfold bf
  rw [look_miss (by decide +kernel), look_miss (by decide +kernel), look_miss (by decide +kernel), look_miss (by decide +kernel), look_hit]
theorem bf_advance (L R F : Nat) (pl : Addr) : (bf L R F pl).lookup ("advance" : Str) = none := by
  unfold bf
  rw [look_miss (by decide +kernel), look_miss (by decide +kernel), look_miss (by decide +kernel), look_miss (by decide +kernel), look_miss (by decide +kernel)]
  rfl
theorem bf_put_rising (L R F R' : Nat) (pl : Addr) : putF "rising" (.int (R' : Int)) (bf L R F pl) = bf L R' F pl := by
  unfold bf
  rw [put_miss (by decide +kernel), put_miss (by decide +kernel), put_hit]
theorem bf_put_falling (L R F F' : Nat) (pl : Addr) : putF "falling" (.int (F' : Int)) (bf L R F pl) = bf L R F' pl := by
  unfold bf
  rw [put_miss (by decide +kernel), put_miss (by decide +kernel), put_miss (by decide +kernel), put_hit]
section
variable {P : Program} {w : World} {K : PySem.W.Frag} {mg : Str → Option Value} {bh : Heap} {a : Adr}
/-- Block(codes) -/
def sp_Block_init (C : Addr) (K : PySem.W.Frag) : Sp := fun vs H Q _ => ∃ (p dx q : Addr) (cs : List Nat), vs = [.ref p, .ref q] ∧ H p = some (.ins C dx []) ∧ SqL K H q (natV cs) ∧ 1 ≤ cs.length ∧ cs.length ≤ 512 ∧ (∀ x ∈ cs, x < 4) ∧
  ∀ (H' : Hp) (pl : Addr), (∀ b o, H b = some o → b ≠ p → H' b = some o) → H pl = none → H' p = some (.ins C dx (bf cs.length (2 ^ cs.length - 1) 0 pl)) → H' pl = some (.lst (natV (masks cs))) → Q .non H'
/-- advance(base, step) -/
def sp_Block_advance (C : Addr) (K : PySem.W.Frag) : Sp := fun vs H Q _ => ∃ (p dx pl : Addr) (L R F m x : Nat) (st : Int) (ps : List Nat), vs = [.ref p, .int x, .int st] ∧ H p = some (.ins C dx (bf L R F pl)) ∧ H pl = some (.lst (natV ps)) ∧ ps[x]? = some m ∧
  1 ≤ L ∧ L ≤ 512 ∧ R < 2 ^ L ∧ F < 2 ^ L ∧ Q (.int (aRet L R F m st)) (upd H p (.ins C dx (bf L (aR L R F m st) (aF L R F m st) pl)))
theorem sc_Block_init : FnScope ["self", "codes", "place", "code"] ["self", "codes"] (defScope s_Block_init) := ⟨rfl, rfl, rfl, by decide +kernel, rfl, by decide +kernel, by decide +kernel⟩
theorem ok_Block_init (T : Txt K mg a) : FnOk P w K mg bh CX0 1 a.f_Block_init a.d_Block_init ["self", "codes"] (sp_Block_init a.C_Block K) := by
  refine T.F_Block_init.ok sc_Block_init (fun vs H Q E h => ?_) (fun cdv A outer s H vs Q E hr h => ?_)
  · obtain ⟨p, dx, q, cs, rfl, _⟩ := h
    rfl
  · obtain ⟨p, dx, q, cs, rfl, hp, hq, hl1, hl2, hc, k⟩ := h
    refine ⟨_, (pss_cons (ps_fld (pv 0) (pe_op op_sub (pe_op op_shl pe_int (pe_callB (call_len_seq) (by rfl) T.b_len PySem.boot_len (pa_cons (pv 1) pa_nil))) pe_int) rfl)
      (pss_cons (ps_fld (pv 0) (pe_op op_shl pe_int (pe_op op_sub (pe_callB (call_len_seq) (by rfl) T.b_len PySem.boot_len (pa_cons (pv 1) pa_nil)) pe_int)) rfl)
      (pss_cons (ps_fld (pv 0) (pe_fld (pv 0) rfl) rfl)
      (pss_cons (ps_fld (pv 0) pe_int rfl)
      (pss_cons (ps_fld (pv 0) (pe_lst (pa_cons pe_int (pa_cons pe_int (pa_cons pe_int (pa_cons pe_int pa_nil))))) rfl)
      (pss_one (ps_for PassesOwn.never rfl (pi_enum rfl T.b_enumerate (pa_cons (pv 1) pa_nil)) (pg_tup rfl (pgs_cons (pg_name (i := 2) sc_Block_init.nd rfl (Or.inl rfl)) (pgs_cons (pg_name (i := 3) sc_Block_init.nd rfl (Or.inl rfl)) pgs_nil)))
        (pss_one (ps_asg (pe_op op_or (pe_ix (r := rIxL K) ix_list (pe_fld (pv 0) rfl) (pv 3) (fun _ _ => rfl)) (pe_op op_shl pe_int (pv 2))) (pg_sub (pe_fld (pv 0) rfl) (pv 3) set_list)))))))))), ?_⟩
    have hsz := sizeIs
    have hqp : ∀ fs, SqL K (upd H p (.ins a.C_Block dx fs)) q (natV cs) := fun fs => by
      rcases hq with (h | ⟨o, h⟩) | h
      · exact .inl (.inl (by rw [upd_ne (ne_of h hp (by intro z; cases z))]; exact h))
      · exact .inl (.inr ⟨o, by rw [upd_ne (ne_of h hp (by intro z; cases z))]; exact h⟩)
      · exact .inr h
    have hl : (natV cs).length = cs.length := natV_len cs
    refine ⟨_, rfl, q, _, rfl, .inl hq, _, _, rfl, rfl, ⟨by omega, by omega, by decide⟩, _, _, rfl, rfl, _, rfl, p, a.C_Block, dx, _, rfl, hp, T.cl_Block, T.n_Block_full, by show 0 < 1000; decide, ?_⟩
    rw [hl, put_nil]
    dsimp only
    rw [pow_cast]
    have e1 : ((2 ^ cs.length : Nat) : Int) - 1 = ((2 ^ cs.length - 1 : Nat) : Int) := by
      have := Nat.two_pow_pos cs.length
      omega
    rw [e1]
    refine ⟨_, rfl, q, _, rfl, .inl (hqp _), _, _, rfl, rfl, _, _, rfl, rfl, ⟨by omega, by omega, by decide⟩, _, rfl, p, a.C_Block, dx, _, rfl, upd_same, T.cl_Block, T.n_Block_last, by show 1 < 1000; decide, ?_⟩
    rw [hl, upd_upd, put_miss (by decide +kernel), put_nil]
    dsimp only
    rw [show ((cs.length : Nat) : Int) - 1 = ((cs.length - 1 : Nat) : Int) by omega, pow_cast]
    refine ⟨_, rfl, p, a.C_Block, dx, _, _, rfl, upd_same, T.cl_Block, T.n_Block_full, look_hit _ _ _, _, rfl, p, a.C_Block, dx, _, rfl, upd_same, T.cl_Block, T.n_Block_rising, by show 2 < 1000; decide, ?_⟩
    rw [upd_upd, put_miss (by decide +kernel), put_miss (by decide +kernel), put_nil]
    refine ⟨_, rfl, p, a.C_Block, dx, _, rfl, upd_same, T.cl_Block, T.n_Block_falling, by show 3 < 1000; decide, ?_⟩
    rw [upd_upd, put_miss (by decide +kernel), put_miss (by decide +kernel), put_miss (by decide +kernel), put_nil]
    refine ⟨by show 4 ≤ sizeLine; decide, fun pl hpl => ?_⟩
    have hplp : pl ≠ p := fun e => by
      rw [e, upd_same] at hpl
      cases hpl
    have hplH : H pl = none := by
      rw [upd_ne hplp] at hpl
      exact hpl
    refine ⟨_, rfl, p, a.C_Block, dx, _, rfl, by rw [upd_ne hplp.symm]; exact upd_same, T.cl_Block, T.n_Block_places, by show 4 < 1000; decide, ?_⟩
    rw [put_miss (by decide +kernel), put_miss (by decide +kernel), put_miss (by decide +kernel), put_miss (by decide +kernel), put_nil]
    have fr0 : ∀ b o, H b = some o → b ≠ p → upd (upd (upd H p (.ins a.C_Block dx [("full", .int ((2 ^ cs.length - 1 : Nat) : Int)), ("last", .int ((2 ^ (cs.length - 1) : Nat) : Int)), ("rising", .int ((2 ^ cs.length - 1 : Nat) : Int)), ("falling", .int 0)])) pl (.lst (natV (masks [])))) p (.ins a.C_Block dx (bf cs.length (2 ^ cs.length - 1) 0 pl)) b = some o := fun b o e hb => by
      rw [upd_ne hb, upd_ne (ne_of_none e hplH), upd_ne hb]
      exact e
    have hq0 : ∀ H2, (∀ b o, H b = some o → b ≠ p → H2 b = some o) → SqL K H2 q (natV cs) := fun H2 fr => by
      rcases hq with (h | ⟨o, h⟩) | h
      · exact .inl (.inl (fr _ _ h (ne_of h hp (by intro z; cases z))))
      · exact .inl (.inr ⟨o, fr _ _ h (ne_of h hp (by intro z; cases z))⟩)
      · exact .inr h
    refine ⟨_, rfl, q, _, rfl, hq0 _ fr0, for_enum (K := K) (a := q) (xs := natV cs) (fun t σ H2 => ∃ v2 v3, σ = [some (.ref p), some (.ref q), v2, v3] ∧ (∀ b o, H b = some o → b ≠ p → H2 b = some o) ∧ H2 p = some (.ins a.C_Block dx (bf cs.length (2 ^ cs.length - 1) 0 pl)) ∧ H2 pl = some (.lst (natV (masks (cs.take t)))))
      ⟨none, none, rfl, fr0, upd_same, by rw [upd_ne hplp, upd_same]; rfl⟩ (fun t σ H2 _ ⟨_, _, _, fr, _⟩ => hq0 H2 fr) ?_ ?_⟩
    · rintro t x σ H2 T0 hx ⟨v2, v3, rfl, fr, g2, g3⟩ hT
      obtain ⟨c, hc0, rfl⟩ := get_natV hx
      have ht : t < cs.length := (List.getElem?_eq_some_iff.mp hc0).1
      have hc4 : c < 4 := hc c (List.mem_of_getElem? hc0)
      have htl : (cs.take t).length = t := by rw [List.length_take]; omega
      have g2' : upd H2 T0 (.tup [.int (t : Nat), .int ((c : Nat) : Int)]) p = some (.ins a.C_Block dx (bf cs.length (2 ^ cs.length - 1) 0 pl)) := by
        rw [upd_ne (ne_of_none g2 hT)]; exact g2
      have g3' : upd H2 T0 (.tup [.int (t : Nat), .int ((c : Nat) : Int)]) pl = some (.lst (natV (masks (cs.take t)))) := by
        rw [upd_ne (ne_of_none g3 hT)]; exact g3
      refine ⟨T0, _, rfl, SqT.of upd_same, rfl, _, _, rfl, _, _, rfl, rfl, ?_⟩
      refine ⟨_, rfl, p, a.C_Block, dx, _, _, rfl, g2', T.cl_Block, T.n_Block_places, bf_places _ _ _ _, _, rfl, pl, _, _, _, rfl, rfl, SqL.of g3', at_of rfl (natV_get (masks_get _ hc4)), _, rfl, _, _, rfl, rfl, ⟨by omega, by omega, by decide⟩, _, _, rfl, rfl, ?_⟩
      refine ⟨_, rfl, p, a.C_Block, dx, _, _, rfl, g2', T.cl_Block, T.n_Block_places, bf_places _ _ _ _, _, rfl, pl, _, _, c, rfl, rfl, g3', ixN_nat rfl (by rw [natV_len]; exact hc4), ?_⟩
      refine ⟨_, _, rfl, fun b o e hb => ?_, ?_, ?_⟩
      · rw [upd_ne (ne_of_none e hplH), upd_ne (ne_of_none (fr b o e hb) hT)]
        exact fr b o e hb
      · rw [upd_ne hplp.symm]
        exact g2'
      · rw [upd_same]
        dsimp only
        rw [pow_cast, or_nat, natV_set, List.take_add_one, hc0]
        show _ = some (HO.lst (natV (masks (cs.take t ++ [c]))))
        rw [masks_snoc _ hc4, htl]
    · rintro σ H2 ⟨v2, v3, rfl, fr, g2, g3⟩
      rw [hl, List.take_length] at g3
      exact k H2 pl fr hplH g2 g3
theorem sc_Block_advance : FnScope ["self", "base", "step", "alike", "kept", "level", "up", "down", "above_up", "above_down"] ["self", "base", "step"] (defScope s_Block_advance) := ⟨rfl, rfl, rfl, by decide +kernel, rfl, by decide +kernel, by decide +kernel⟩
set_option maxHeartbeats 8000000 in
theorem ok_Block_advance (T : Txt K mg a) : FnOk P w K mg bh CX0 1 a.f_Block_advance a.d_Block_advance ["self", "base", "step"] (sp_Block_advance a.C_Block K) := by
  refine T.F_Block_advance.ok sc_Block_advance (fun vs H Q E h => ?_) (fun cdv A outer s H vs Q E hr h => ?_)
  · obtain ⟨p, dx, pl, L, R, F, m, x, st, ps, rfl, _⟩ := h
    rfl
  · obtain ⟨p, dx, pl, L, R, F, m, x, st, ps, rfl, hp, hpl, hm, hL1, hL2, hR, hF, k⟩ := h
    refine ⟨_, (pss_cons (ps_set (i := 3) sc_Block_advance.nd rfl (Or.inl rfl) (pe_ix (r := rIxL K) ix_list (pe_fld (pv 0) rfl) (pv 1) (fun _ _ => rfl)))
      (pss_cons (ps_set (i := 4) sc_Block_advance.nd rfl (Or.inl rfl) (pe_op op_or (pv 3) (pe_fld (pv 0) rfl)))
      (pss_cons (ps_if (pt_cmpR op_lt (pv 2) pe_int (nomark _)) (pss_one (ps_set (i := 3) sc_Block_advance.nd rfl (Or.inl rfl) (pe_op op_or (pv 3) pe_int))) pss_nil)
      (pss_cons (ps_set (i := 5) sc_Block_advance.nd rfl (Or.inl rfl) (pe_op op_or (pe_op op_xor (pe_op op_add (pe_op op_and (pv 3) (pe_fld (pv 0) rfl)) (pe_fld (pv 0) rfl)) (pe_fld (pv 0) rfl)) (pv 3)))
      (pss_cons (ps_set (i := 6) sc_Block_advance.nd rfl (Or.inl rfl) (pe_op op_or (pe_fld (pv 0) rfl) (pe_op op_and (pe_fld (pv 0) rfl) (pe_un un_inv (pe_op op_or (pv 5) (pe_fld (pv 0) rfl))))))
      (pss_cons (ps_set (i := 7) sc_Block_advance.nd rfl (Or.inl rfl) (pe_op op_and (pe_fld (pv 0) rfl) (pv 5)))
      (pss_cons (ps_set (i := 8) sc_Block_advance.nd rfl (Or.inl rfl) (pe_op op_and (pe_op op_shlB (pv 6) pe_int) (pe_fld (pv 0) rfl)))
      (pss_cons (ps_set (i := 9) sc_Block_advance.nd rfl (Or.inl rfl) (pe_op op_and (pe_op op_shlB (pv 7) pe_int) (pe_fld (pv 0) rfl)))
      (pss_cons (ps_if (pt_cmpR op_gt (pv 2) pe_int (nomark _)) (pss_one (ps_set (i := 8) sc_Block_advance.nd rfl (Or.inl rfl) (pe_op op_or (pv 8) pe_int))) pss_nil)
      (pss_cons (ps_if (pt_cmpR op_lt (pv 2) pe_int (nomark _)) (pss_one (ps_set (i := 9) sc_Block_advance.nd rfl (Or.inl rfl) (pe_op op_or (pv 9) pe_int))) pss_nil)
      (pss_cons (ps_fld (pv 0) (pe_op op_or (pv 9) (pe_op op_and (pe_fld (pv 0) rfl) (pe_un un_inv (pe_op op_or (pv 4) (pv 8))))) rfl)
      (pss_cons (ps_fld (pv 0) (pe_op op_and (pv 8) (pv 4)) rfl)
      (pss_cons (ps_if (pt_cmpR op_ne (pe_op op_and (pv 6) (pe_fld (pv 0) rfl)) pe_int (nomark _)) (pss_one (ps_ret pe_int)) pss_nil)
      (pss_cons (ps_if (pt_cmpR op_ne (pe_op op_and (pv 7) (pe_fld (pv 0) rfl)) pe_int (nomark _)) (pss_one (ps_ret (pe_un un_neg pe_int))) pss_nil)
      (pss_one (ps_ret pe_int)))))))))))))))), ?_⟩
    have h1000 : (2 : Nat) ^ L < 2 ^ 1000 := Nat.pow_lt_pow_right (by decide) (by omega)
    have hup : aUp L R F m st < 2 ^ L := by
      unfold aUp
      exact Nat.or_lt_two_pow hF (nt_lt _ _)
    have hdn : aDn R m st < 2 ^ L := by
      unfold aDn
      exact Nat.lt_of_le_of_lt Nat.and_le_left hR
    -- alike, kept
    refine ⟨_, rfl, p, a.C_Block, dx, _, _, rfl, hp, T.cl_Block, T.n_Block_places, bf_places _ _ _ _, _, rfl, pl, _, _, _, rfl, rfl, SqL.of hpl, at_of rfl (natV_get hm), ?_⟩
    refine ⟨_, rfl, _, rfl, p, a.C_Block, dx, _, _, rfl, hp, T.cl_Block, T.n_Block_falling, bf_falling _ _ _ _, _, _, rfl, rfl, ?_⟩
    dsimp only
    rw [or_nat]
    -- if step < 0: alike = alike | 1
    refine ⟨_, rfl, _, _, rfl, rfl, _, rfl, ?_⟩
    refine if_either (G := ?G1) ?g1 (fun h g => ?a1) (fun h g => ?b1)
    case a1 =>
      have h' : st < 0 := of_decide_eq_true h
      refine ⟨_, rfl, _, _, rfl, rfl, ?_⟩
      dsimp only
      rw [show V.int (Builtin.bitOr ((m : Nat) : Int) 1) = V.int ((aX m st : Nat) : Int) by rw [or_one]; unfold aX; rw [if_pos h']]
      exact g
    case b1 =>
      have h' : ¬ st < 0 := fun z => h (decide_eq_true z)
      rw [show aX m st = m by unfold aX; rw [if_neg h']] at g
      exact g
    -- level, up, down
    refine ⟨_, rfl, _, rfl, p, a.C_Block, dx, _, _, rfl, hp, T.cl_Block, T.n_Block_rising, bf_rising _ _ _ _, _, _, rfl, rfl, _, rfl, p, a.C_Block, dx, _, _, rfl, hp, T.cl_Block, T.n_Block_rising, bf_rising _ _ _ _, _, _, rfl, rfl, _, rfl, p, a.C_Block, dx, _, _, rfl, hp, T.cl_Block, T.n_Block_rising, bf_rising _ _ _ _, _, _, rfl, rfl, _, rfl, _, _, rfl, rfl, ?_⟩
    dsimp only
    rw [show V.int (Builtin.bitOr (Builtin.bitXor (Builtin.bitAnd ((aX m st : Nat) : Int) ((R : Nat) : Int) + ((R : Nat) : Int)) ((R : Nat) : Int)) ((aX m st : Nat) : Int)) = V.int ((lv (aX m st) R : Nat) : Int) by
      rw [and_nat, ← Int.natCast_add, xor_nat, or_nat]; rfl]
    refine ⟨_, rfl, p, a.C_Block, dx, _, _, rfl, hp, T.cl_Block, T.n_Block_falling, bf_falling _ _ _ _, _, rfl, p, a.C_Block, dx, _, _, rfl, hp, T.cl_Block, T.n_Block_full, bf_full _ _ _ _, _, rfl, _, rfl, p, a.C_Block, dx, _, _, rfl, hp, T.cl_Block, T.n_Block_rising, bf_rising _ _ _ _, _, _, rfl, rfl, _, rfl, _, _, rfl, rfl, _, _, rfl, rfl, ?_⟩
    dsimp only
    rw [show V.int (Builtin.bitOr ((F : Nat) : Int) (Builtin.bitAnd ((2 ^ L - 1 : Nat) : Int) (Builtin.bitNot (Builtin.bitOr ((lv (aX m st) R : Nat) : Int) ((R : Nat) : Int))))) = V.int ((aUp L R F m st : Nat) : Int) by
      rw [or_nat, not_mask, or_nat]; rfl]
    refine ⟨_, rfl, p, a.C_Block, dx, _, _, rfl, hp, T.cl_Block, T.n_Block_rising, bf_rising _ _ _ _, _, rfl, _, _, rfl, rfl, ?_⟩
    dsimp only
    rw [show V.int (Builtin.bitAnd ((R : Nat) : Int) ((lv (aX m st) R : Nat) : Int)) = V.int ((aDn R m st : Nat) : Int) by rw [and_nat]; rfl]
    -- above_up, above_down
    refine ⟨_, rfl, _, _, rfl, rfl, ⟨by omega, by omega, by show (aUp L R F m st : Int).natAbs < _; rw [Int.natAbs_natCast]; exact Nat.lt_trans ‹_› h1000⟩, _, rfl, p, a.C_Block, dx, _, _, rfl, hp, T.cl_Block, T.n_Block_full, bf_full _ _ _ _, _, _, rfl, rfl, ?_⟩
    dsimp only
    rw [sh1, and_nat]
    refine ⟨_, rfl, _, _, rfl, rfl, ⟨by omega, by omega, by show (aDn R m st : Int).natAbs < _; rw [Int.natAbs_natCast]; exact Nat.lt_trans ‹_› h1000⟩, _, rfl, p, a.C_Block, dx, _, _, rfl, hp, T.cl_Block, T.n_Block_full, bf_full _ _ _ _, _, _, rfl, rfl, ?_⟩
    dsimp only
    rw [sh1, and_nat]
    refine ⟨_, rfl, _, _, rfl, rfl, _, rfl, ?_⟩
    refine if_either (G := ?G2) ?g2 (fun h g => ?a2) (fun h g => ?b2)
    case a2 =>
      have h' : 0 < st := of_decide_eq_true h
      refine ⟨_, rfl, _, _, rfl, rfl, ?_⟩
      dsimp only
      rw [show V.int (Builtin.bitOr ((aUp L R F m st * 2 &&& (2 ^ L - 1) : Nat) : Int) 1) = V.int ((hUp L R F m st : Nat) : Int) by rw [or_one]; unfold hUp; rw [if_pos h']]
      exact g
    case b2 =>
      have h' : ¬ 0 < st := fun z => h (decide_eq_true z)
      rw [show hUp L R F m st = aUp L R F m st * 2 &&& (2 ^ L - 1) by unfold hUp; rw [if_neg h']] at g
      exact g
    refine ⟨_, rfl, _, _, rfl, rfl, _, rfl, ?_⟩
    refine if_either (G := ?G3) ?g3 (fun h g => ?a3) (fun h g => ?b3)
    case a3 =>
      have h' : st < 0 := of_decide_eq_true h
      refine ⟨_, rfl, _, _, rfl, rfl, ?_⟩
      dsimp only
      rw [show V.int (Builtin.bitOr ((aDn R m st * 2 &&& (2 ^ L - 1) : Nat) : Int) 1) = V.int ((hDn L R m st : Nat) : Int) by rw [or_one]; unfold hDn; rw [if_pos h']]
      exact g
    case b3 =>
      have h' : ¬ st < 0 := fun z => h (decide_eq_true z)
      rw [show hDn L R m st = aDn R m st * 2 &&& (2 ^ L - 1) by unfold hDn; rw [if_neg h']] at g
      exact g
    -- self.rising, self.falling
    refine ⟨_, rfl, _, rfl, p, a.C_Block, dx, _, _, rfl, hp, T.cl_Block, T.n_Block_full, bf_full _ _ _ _, _, rfl, _, rfl, _, _, rfl, rfl, _, rfl, _, _, rfl, rfl, _, _, rfl, rfl, _, rfl, p, a.C_Block, dx, _, rfl, hp, T.cl_Block, T.n_Block_rising, by show 5 < 1000; decide, ?_⟩
    dsimp only
    rw [show V.int (Builtin.bitOr ((hDn L R m st : Nat) : Int) (Builtin.bitAnd ((2 ^ L - 1 : Nat) : Int) (Builtin.bitNot (Builtin.bitOr ((m ||| F : Nat) : Int) ((hUp L R F m st : Nat) : Int))))) = V.int ((aR L R F m st : Nat) : Int) by
      rw [or_nat, not_mask, or_nat]; rfl, bf_put_rising]
    refine ⟨_, rfl, _, rfl, _, _, rfl, rfl, _, rfl, p, a.C_Block, dx, _, rfl, upd_same, T.cl_Block, T.n_Block_falling, by show 5 < 1000; decide, ?_⟩
    dsimp only
    rw [show V.int (Builtin.bitAnd ((hUp L R F m st : Nat) : Int) ((m ||| F : Nat) : Int)) = V.int ((aF L R F m st : Nat) : Int) by rw [and_nat]; rfl, bf_put_falling, upd_upd]
    have tst : ∀ y z : Nat, ((!decide (V.int (Builtin.bitAnd (y : Int) (z : Int)) = V.int 0)) = true) ↔ y &&& z ≠ 0 := fun y z => by
      rw [and_nat, Bool.not_eq_true', decide_eq_false_iff_not]
      exact ⟨fun h e => h (by rw [e]; rfl), fun h e => h (by have := V.int.inj e; omega)⟩
    unfold aRet at k
    refine ⟨_, rfl, _, rfl, p, a.C_Block, dx, _, _, rfl, upd_same, T.cl_Block, T.n_Block_last, bf_last _ _ _ _, _, _, rfl, rfl, rfl, _, rfl, ?_⟩
    refine ite2 (fun h => ?_) (fun h => ?_)
    · rw [if_pos ((tst _ _).mp h)] at k
      exact k
    · rw [if_neg (fun z => h ((tst _ _).mpr z))] at k
      refine ⟨_, rfl, _, rfl, p, a.C_Block, dx, _, _, rfl, upd_same, T.cl_Block, T.n_Block_last, bf_last _ _ _ _, _, _, rfl, rfl, rfl, _, rfl, ?_⟩
      refine ite2 (fun h2 => ?_) (fun h2 => ?_)
      · rw [if_pos ((tst _ _).mp h2)] at k
        exact ⟨_, rfl, k⟩
      · rw [if_neg (fun z => h2 ((tst _ _).mpr z))] at k
        exact k
end
end Py

/-! near_ends. -/
namespace Py
open PySem L2 Br Gr
def sp_near_ends (K : PySem.W.Frag) : Sp := fun vs H Q _ => ∃ (g p : Addr) (gs ps : List Nat) (k : Int), vs = [.ref g, .ref p, .int k] ∧ SqL K H g (natV gs) ∧ SqL K H p (natV ps) ∧ 1 ≤ ps.length ∧ ps.length ≤ 512 ∧ gs.length ≤ 65536 ∧ (∀ x ∈ gs, x < 4) ∧ (∀ x ∈ ps, x < 4) ∧ 0 ≤ k ∧
  ∀ r H', Same H H' → H r = none → H' r = some (.lst (natV (Sg42.near gs ps k.toNat))) → Q (.ref r) H'
/-- the ends told behind t bases -/
def neT (gs ps : List Nat) (k t : Nat) : List Nat := (List.range' 1 t).filter fun e => decide (nearT gs ps e ≤ k)
theorem neT_step (gs ps : List Nat) (k t : Nat) : neT gs ps k (t + 1) = if nearT gs ps (t + 1) ≤ k then neT gs ps k t ++ [t + 1] else neT gs ps k t := by
  unfold neT
  rw [List.range'_concat, List.filter_append]
  by_cases h : nearT gs ps (t + 1) ≤ k
  · rw [if_pos h]
    congr 1
    rw [show 1 + 1 * t = t + 1 by omega]
    simp [h]
  · rw [if_neg h, show 1 + 1 * t = t + 1 by omega]
    simp [h]
theorem neT_len (gs ps : List Nat) (k t : Nat) : (neT gs ps k t).length ≤ t := by
  unfold neT
  have := List.length_filter_le (fun e => decide (nearT gs ps e ≤ k)) (List.range' 1 t)
  rw [List.length_range'] at this
  exact this
section
variable {P : Program} {w : World} {K : PySem.W.Frag} {mg : Str → Option Value} {bh : Heap} {a : Adr}
theorem sc_near_ends : FnScope ["codes", "piece", "k", "block", "fewest", "ends", "place", "base"] ["codes", "piece", "k"] (defScope s_near_ends) := ⟨rfl, rfl, rfl, by decide +kernel, rfl, by decide +kernel, by decide +kernel⟩
set_option maxHeartbeats 2000000 in
theorem ok_near_ends (T : Txt K mg a) : FnOk P w K mg bh CX0 3 a.f_near_ends a.d_near_ends ["codes", "piece", "k"] (sp_near_ends K) := by
  refine T.F_near_ends.ok sc_near_ends (fun vs H Q E h => ?_) (fun cdv A outer s H vs Q E hr h => ?_)
  · obtain ⟨g, p, gs, ps, k, rfl, _⟩ := h
    rfl
  · obtain ⟨g, p, gs, ps, k, rfl, hg, hp, hp1, hp2, hgl, hg4, hp4, hk, kk⟩ := h
    refine ⟨_, (pss_cons (ps_set (i := 3) sc_near_ends.nd rfl (Or.inl rfl) (pe_make T.M_Block (ok_Block_init T) (hr.mono (by decide)) rfl T.g_Block T.B_Block_init .nil pass0 (pa_cons (pv 1) pa_nil)))
      (pss_cons (ps_set (i := 4) sc_near_ends.nd rfl (Or.inl rfl) (pe_callB (call_len_seq) (by rfl) T.b_len PySem.boot_len (pa_cons (pv 1) pa_nil)))
      (pss_cons (ps_set (i := 5) sc_near_ends.nd rfl (Or.inl rfl) (pe_lst pa_nil))
      (pss_cons (ps_for PassesOwn.never rfl (pi_enum rfl T.b_enumerate (pa_cons (pv 0) pa_nil)) (pg_tup rfl (pgs_cons (pg_name (i := 6) sc_near_ends.nd rfl (Or.inl rfl)) (pgs_cons (pg_name (i := 7) sc_near_ends.nd rfl (Or.inl rfl)) pgs_nil)))
        (pss_cons (ps_aug (i := 4) sc_near_ends.nd rfl (Or.inl rfl) (pe_meth (pl := _) (pv 3) T.cl_Block T.m_Block_advance (ok_Block_advance T) (hr.mono (by decide)) T.B_Block_advance .nil pass0 (pa_cons (pv 7) (pa_cons pe_int pa_nil))) ip_add)
      (pss_one (ps_if (pt_cmpR op_le (pv 4) (pv 2) (nomark _)) (pss_one (ps_expr (pe_bm PySem.F.plainAttrs_list PySem.F.slot_list_append PySem.F.type_list_append mt_append (pv 5) (pa_cons (pe_op op_add (pv 6) pe_int) pa_nil)))) pss_nil))))
      (pss_one (ps_ret (pv 5))))))), ?_⟩
    refine ⟨_, rfl, ?_⟩
    intro x dx nx ndx nex
    have s0 : Same H (upd (upd H dx (.own x)) x (.ins a.C_Block dx [])) := fun b o e => by
      rw [upd_ne (ne_of_none e nx), upd_ne (ne_of_none e ndx)]
      exact e
    refine ⟨x, dx, p, ps, rfl, upd_same, s0.seq hp, hp1, hp2, hp4, fun H1 pl fr hpl g1 g2 => ⟨rfl, ?_⟩⟩
    have s1 : Same H H1 := Same.made nx ndx fr
    have plH : H pl = none := s0.free hpl
    refine ⟨_, rfl, p, _, rfl, .inl (s1.seq hp), ?_⟩
    rw [natV_len]
    refine ⟨Nat.zero_le _, fun l hl => ?_⟩
    have hxl : x ≠ l := ne_of_none g1 hl
    have hpll : pl ≠ l := ne_of_none g2 hl
    have lH : H l = none := s1.free hl
    have s2 : Same H (upd H1 l (.lst [])) := Br.Same.upd2 s1 lH
    have top : ∀ j, tab (fun _ => 0) (ps.getD · 0) (gs.getD · 0) 0 j = 0 := fun j => by
      cases j with
      | zero => exact tab_i0 _ _ _ 0
      | succ j => exact tab_0j _ _ _ j
    refine ⟨_, rfl, g, _, rfl, s2.seq hg, for_enum (K := K) (a := g) (xs := natV gs)
      (fun t σ H2 => ∃ v6 v7 R F, σ = [some (.ref g), some (.ref p), some (.int k), some (.ref x), some (.int (nearT gs ps t : Nat)), some (.ref l), v6, v7] ∧ Same H H2 ∧ H2 x = some (.ins a.C_Block dx (bf ps.length R F pl)) ∧ H2 pl = some (.lst (natV (masks ps))) ∧ H2 l = some (.lst (natV (neT gs ps k.toNat t))) ∧
        Col ps.length R F (fun r => tab (fun _ => 0) (ps.getD · 0) (gs.getD · 0) r t))
      ⟨none, none, _, _, by unfold nearT; rw [tab_i0]; rfl, s2, by rw [upd_ne hxl]; exact g1, by rw [upd_ne hpll]; exact g2, by rw [upd_same]; rfl, ?_⟩ (fun t σ H2 _ ⟨_, _, _, _, _, s3, _⟩ => s3.seq hg) ?_ ?_⟩
    · have e : (fun r => tab (fun _ => 0) (ps.getD · 0) (gs.getD · 0) r 0) = fun r => 0 + r := by
        funext r
        rw [tab_i0, Nat.zero_add]
      rw [e]
      exact col_0 _ 0
    · rintro t v σ H2 T0 hv ⟨v6, v7, R, F, rfl, s3, g3, g4, g5, col⟩ hT
      obtain ⟨c, hc, rfl⟩ := get_natV hv
      have ht : t < gs.length := (List.getElem?_eq_some_iff.mp hc).1
      have ec : gs.getD t 0 = c := by rw [List.getD_eq_getElem?_getD, hc]; rfl
      have hc4 : c < 4 := hg4 c (List.mem_of_getElem? hc)
      have s4 : Same H (upd H2 T0 (.tup [.int (t : Nat), .int ((c : Nat) : Int)])) := Br.Same.upd2 s3 (s3.free hT)
      have g3' : upd H2 T0 (.tup [.int (t : Nat), .int ((c : Nat) : Int)]) x = some (.ins a.C_Block dx (bf ps.length R F pl)) := by rw [upd_ne (ne_of_none g3 hT)]; exact g3
      have g4' : upd H2 T0 (.tup [.int (t : Nat), .int ((c : Nat) : Int)]) pl = some (.lst (natV (masks ps))) := by rw [upd_ne (ne_of_none g4 hT)]; exact g4
      have g5' : upd H2 T0 (.tup [.int (t : Nat), .int ((c : Nat) : Int)]) l = some (.lst (natV (neT gs ps k.toNat t))) := by rw [upd_ne (ne_of_none g5 hT)]; exact g5
      have hms : ∀ i, i < ps.length → (mask ps c).testBit i = decide (c = ps.getD i 0) := fun i hi => by
        rw [mask_bit, List.getD_eq_getElem?_getD, List.getElem?_eq_getElem hi]
        by_cases e : c = ps[i]
        · rw [← e]
          simp
        · have e2 : ¬ some ps[i] = some c := fun z => e (Option.some.inj z).symm
          rw [decide_eq_false e2]
          exact (decide_eq_false e).symm
      obtain ⟨col', ret, r1, r2⟩ := col_step (st := 0) (D' := fun r => tab (fun _ => 0) (ps.getD · 0) (gs.getD · 0) r (t + 1)) (c := fun i => ps.getD i 0) col hp1 hms (by show ((tab _ _ _ 0 (t + 1) : Nat) : Int) = (tab _ _ _ 0 t : Nat) + 0; rw [top, top]; omega) (by omega) (fun i hi => by
        show tab _ _ _ (i + 1) (t + 1) = _
        rw [tab_ss, ec])
      have ret' : ((nearT gs ps (t + 1) : Nat) : Int) = (nearT gs ps t : Nat) + aRet ps.length R F (mask ps c) 0 := ret
      refine ⟨T0, _, rfl, SqT.of upd_same, rfl, _, _, rfl, _, _, rfl, rfl, ?_⟩
      refine ⟨_, rfl, _, rfl, x, dx, _, rfl, g3', bf_advance _ _ _ _, _, rfl, x, dx, pl, ps.length, R, F, mask ps c, c, 0, masks ps, rfl, g3', g4', masks_get _ hc4, hp1, hp2, col.r, col.f, ?_⟩
      refine ⟨_, _, rfl, rfl, ?_⟩
      dsimp only
      rw [← ret']
      have nl := neT_step gs ps k.toNat t
      have lnx : l ≠ x := hxl.symm
      have nxH : H x = none := nx
      have s5 : Same H (upd (upd H2 T0 (.tup [.int (t : Nat), .int ((c : Nat) : Int)])) x (.ins a.C_Block dx (bf ps.length (aR ps.length R F (mask ps c) 0) (aF ps.length R F (mask ps c) 0) pl))) := Br.Same.upd2 s4 nxH
      have g6 : upd (upd H2 T0 (.tup [.int (t : Nat), .int ((c : Nat) : Int)])) x (.ins a.C_Block dx (bf ps.length (aR ps.length R F (mask ps c) 0) (aF ps.length R F (mask ps c) 0) pl)) l = some (.lst (natV (neT gs ps k.toNat t))) := by rw [upd_ne lnx]; exact g5'
      have g7 : upd (upd H2 T0 (.tup [.int (t : Nat), .int ((c : Nat) : Int)])) x (.ins a.C_Block dx (bf ps.length (aR ps.length R F (mask ps c) 0) (aF ps.length R F (mask ps c) 0) pl)) pl = some (.lst (natV (masks ps))) := by
        rw [upd_ne (ne_of g4' g3' (by intro z; cases z))]; exact g4'
      have g8 : upd (upd H2 T0 (.tup [.int (t : Nat), .int ((c : Nat) : Int)])) x (.ins a.C_Block dx (bf ps.length (aR ps.length R F (mask ps c) 0) (aF ps.length R F (mask ps c) 0) pl)) x = _ := upd_same
      generalize upd (upd H2 T0 (.tup [.int (t : Nat), .int ((c : Nat) : Int)])) x (.ins a.C_Block dx (bf ps.length (aR ps.length R F (mask ps c) 0) (aF ps.length R F (mask ps c) 0) pl)) = H5 at s5 g6 g7 g8
      refine ⟨_, rfl, _, rfl, _, _, rfl, rfl, _, rfl, ite2 (fun h => ?_) (fun h => ?_)⟩
      · have h' : ((nearT gs ps (t + 1) : Nat) : Int) ≤ k := of_decide_eq_true h
        rw [if_pos (by omega)] at nl
        have hnl := neT_len gs ps k.toNat t
        refine ⟨_, rfl, .inl ⟨rfl, _, SqL.of g6⟩, _, rfl, _, _, rfl, rfl, l, _, _, rfl, rfl, g6, by rw [natV_len, sizeIs]; omega, _, _, _, _, rfl, Br.Same.upd2 s5 lH, by rw [upd_ne hxl]; exact g8, by rw [upd_ne hpll]; exact g7, ?_, col'⟩
        rw [upd_same, nl, ← natV_snoc]
        rfl
      · have h' : ¬ ((nearT gs ps (t + 1) : Nat) : Int) ≤ k := fun z => h (decide_eq_true z)
        rw [if_neg (by omega)] at nl
        exact ⟨_, _, _, _, rfl, s5, g8, g7, by rw [nl]; exact g6, col'⟩
    · rintro σ H2 ⟨v6, v7, R, F, rfl, s3, g3, g4, g5, col⟩
      rw [natV_len] at g5
      refine ⟨_, rfl, kk l H2 s3 lH ?_⟩
      rw [g5, near_eq]
      rfl
end
end Py

/-! Pieces: where one stands, and its longest beginning. -/
namespace Py
open PySem L2 Br Gr
def sp_length_behind (K : PySem.W.Frag) : Sp := fun vs H Q _ => ∃ (p q : Addr) (ps sh u : List Nat) (cap l c : Nat), vs = [.ref p, .ref q, .int l, .int c] ∧ SqL K H p (natV ps) ∧ SqL K H q (natV sh) ∧ 1 ≤ ps.length ∧ Fail ps sh ∧ l ≤ sh.length ∧ Bst ps u cap l ∧
  ∀ r : Nat, Bst ps (u ++ [c]) (min (cap + 1) ps.length) r → Q (.int r) H
def sp_shorter_beginnings (K : PySem.W.Frag) : Sp := fun vs H Q _ => ∃ (p : Addr) (ps : List Nat), vs = [.ref p] ∧ SqL K H p (natV ps) ∧ 1 ≤ ps.length ∧ ps.length ≤ 65536 ∧
  ∀ r H' sh, Same H H' → H r = none → H' r = some (.lst (natV sh)) → sh.length = ps.length → Fail ps sh → Q (.ref r) H'
def sp_beginnings_at (K : PySem.W.Frag) : Sp := fun vs H Q _ => ∃ (g p : Addr) (gs ps : List Nat), vs = [.ref g, .ref p] ∧ SqL K H g (natV gs) ∧ SqL K H p (natV ps) ∧ 1 ≤ ps.length ∧ ps.length ≤ 65536 ∧ gs.length ≤ 65536 ∧
  ∀ r H' ls, Same H H' → H r = none → H' r = some (.lst (natV ls)) → Lens ps gs ls gs.length → Q (.ref r) H'
def sp_places_of (K : PySem.W.Frag) : Sp := fun vs H Q _ => ∃ (g p : Addr) (gs ps : List Nat), vs = [.ref g, .ref p] ∧ SqL K H g (natV gs) ∧ SqL K H p (natV ps) ∧ 1 ≤ ps.length ∧ ps.length ≤ 65536 ∧ gs.length ≤ 65536 ∧
  ∀ r H', Same H H' → H r = none → H' r = some (.lst (natV (Sg42.places gs ps))) → Q (.ref r) H'
def sp_longest_beginning (K : PySem.W.Frag) : Sp := fun vs H Q _ => ∃ (g p : Addr) (gs ps : List Nat), vs = [.ref g, .ref p] ∧ SqL K H g (natV gs) ∧ SqL K H p (natV ps) ∧ ps.length ≤ 65536 ∧ gs.length ≤ 65536 ∧
  ∀ H', Same H H' → Q (.int (Sg42.longest gs ps : Nat)) H'
section
variable {P : Program} {w : World} {K : PySem.W.Frag} {mg : Str → Option Value} {bh : Heap} {a : Adr}
theorem sc_length_behind : FnScope ["piece", "shorter", "length", "code"] ["piece", "shorter", "length", "code"] (defScope s_length_behind) := ⟨rfl, rfl, rfl, by decide +kernel, rfl, by decide +kernel, by decide +kernel⟩
theorem ok_length_behind (T : Txt K mg a) : FnOk P w K mg bh CX0 1 a.f_length_behind a.d_length_behind ["piece", "shorter", "length", "code"] (sp_length_behind K) := by
  refine T.F_length_behind.ok sc_length_behind (fun vs H Q E h => ?_) (fun cdv A outer s H vs Q E hr h => ?_)
  · obtain ⟨p, q, ps, sh, u, cap, l, c, rfl, _⟩ := h
    rfl
  · obtain ⟨p, q, ps, sh, u, cap, l0, c, rfl, hp, hq, hp1, F, hl0, B, k⟩ := h
    refine ⟨_, (pss_cons (ps_while PassesOwn.never (PW.pt (pw_and (pt_cmpR op_gt (pv 2) pe_int (nomark _)) (pw_and1 (PW.pt (pw_or (pt_cmpR op_eq (pv 2) (pe_callB (call_len_seq) (by rfl) T.b_len PySem.boot_len (pa_cons (pv 0) pa_nil)) (nomark _)) (pw_or1 (pt_cmpR op_ne (pe_ix (r := rIxL K) ix_list (pv 0) (pv 2) (fun _ _ => rfl)) (pv 3) (nomark _))))))))
        (pss_one (ps_set (i := 2) sc_length_behind.nd rfl (Or.inl rfl) (pe_ix (r := rIxL K) ix_list (pv 1) (pe_op op_sub (pv 2) pe_int) (fun _ _ => rfl)))))
      (pss_cons (ps_if (pt_cmpR op_eq (pe_ix (r := rIxL K) ix_list (pv 0) (pv 2) (fun _ _ => rfl)) (pv 3) (nomark _)) (pss_one (ps_ret (pe_op op_add (pv 2) pe_int))) pss_nil)
      (pss_one (ps_ret pe_int)))), ?_⟩
    refine ⟨fun m σ H4 => ∃ l : Nat, m = l ∧ σ = [some (.ref p), some (.ref q), some (.int (l : Int)), some (.int (c : Int))] ∧ H4 = H ∧ Seek ps u cap c l ∧ l ≤ sh.length, ⟨l0, l0, rfl, rfl, rfl, seek_0 B, hl0⟩, ?_⟩
    rintro m σ H4 ⟨l, rfl, rfl, rfl, S, hl⟩
    have step : 0 < m → ¬ ps[m]? = some c → ∃ f, sh[m - 1]? = some f ∧ Seek ps u cap c f ∧ f < m := fun h0 hno => by
      have e : sh[m - 1]? = some sh[m - 1] := List.getElem?_eq_getElem (by omega)
      obtain ⟨S', h'⟩ := seek_next S F h0 e hno
      exact ⟨_, e, S', h'⟩
    have hmp := S.suf.1
    refine ⟨_, rfl, _, _, rfl, rfl, _, rfl, ite2 (fun h => ?_) (fun h => iteF ?_)⟩
    · have h0 : (0 : Int) < (m : Int) := of_decide_eq_true h
      refine ⟨_, rfl, _, rfl, p, _, rfl, .inl hp, rfl, _, rfl, ite2 (fun h2 => iteT ?_) (fun h2 => ?_)⟩
      · have h2' : ((m : Nat) : Int) = (((natV ps).length : Nat) : Int) := V.int.inj (of_decide_eq_true h2)
        rw [natV_len] at h2'
        obtain ⟨f, e, S', hf⟩ := step (by omega) (by rw [List.getElem?_eq_none (by omega)]; exact fun z => nomatch z)
        refine ⟨fun σ' H' => ∃ m', m' < m ∧ _, fun σ' H' q => q, ?_⟩
        exact ⟨_, rfl, _, rfl, _, _, rfl, rfl, q, _, _, _, rfl, rfl, hq, at_of (j := m - 1) (by show (m : Int) - 1 = _; omega) (natV_get e), f, hf, f, rfl, rfl, rfl, S', by omega⟩
      · have h2' : ¬ m = ps.length := fun e => h2 (decide_eq_true (by rw [natV_len, e]))
        have hm : m < ps.length := by omega
        have em : ps[m]? = some ps[m] := List.getElem?_eq_getElem hm
        refine ⟨_, rfl, _, rfl, p, _, _, _, rfl, rfl, hp, at_of rfl (natV_get em), _, rfl, rfl, _, rfl, ite2 (fun h3 => ?_) (fun h3 => ?_)⟩
        · have h3' : ¬ ps[m] = c := fun e => by
            rw [e] at h3
            simp at h3
          obtain ⟨f, e, S', hf⟩ := step (by omega) (by rw [em]; exact fun z => h3' (Option.some.inj z))
          refine ⟨fun σ' H' => ∃ m', m' < m ∧ _, fun σ' H' q => q, ?_⟩
          exact ⟨_, rfl, _, rfl, _, _, rfl, rfl, q, _, _, _, rfl, rfl, hq, at_of (j := m - 1) (by show (m : Int) - 1 = _; omega) (natV_get e), f, hf, f, rfl, rfl, rfl, S', by omega⟩
        · have h3' : ps[m] = c := by
            cases e : decide (V.int ((ps[m] : Nat) : Int) = V.int ((c : Nat) : Int)) with
            | true =>
              have := V.int.inj (of_decide_eq_true e)
              omega
            | false => rw [e] at h3; exact absurd rfl h3
          have hit : ps[m]? = some c := by rw [em, h3']
          refine ⟨_, rfl, _, rfl, p, _, _, _, rfl, rfl, hp, at_of rfl (natV_get hit), _, rfl, rfl, _, rfl, ite2 (fun h4 => ?_) (fun h4 => absurd (decide_eq_true rfl) h4)⟩
          exact ⟨_, rfl, _, _, rfl, rfl, k (m + 1) (seek_hit S hit)⟩
    · have h0 : ¬ (0 : Int) < (m : Int) := fun z => h (decide_eq_true z)
      have hm0 : m = 0 := by omega
      subst hm0
      have e0 : ps[0]? = some ps[0] := List.getElem?_eq_getElem (by omega)
      refine ⟨_, rfl, _, rfl, p, _, _, _, rfl, rfl, hp, at_of rfl (natV_get e0), _, rfl, rfl, _, rfl, ite2 (fun h4 => ?_) (fun h4 => ?_)⟩
      · have h4' := V.int.inj (of_decide_eq_true h4)
        exact ⟨_, rfl, _, _, rfl, rfl, k 1 (seek_hit S (by rw [e0]; congr 1; omega))⟩
      · exact k 0 (seek_miss S (by rw [e0]; exact fun z => h4 (decide_eq_true (by rw [Option.some.inj z]))))
theorem sc_shorter_beginnings : FnScope ["piece", "shorter", "code"] ["piece"] (defScope s_shorter_beginnings) := ⟨rfl, rfl, rfl, by decide +kernel, rfl, by decide +kernel, by decide +kernel⟩
theorem ok_shorter_beginnings (T : Txt K mg a) : FnOk P w K mg bh CX0 2 a.f_shorter_beginnings a.d_shorter_beginnings ["piece"] (sp_shorter_beginnings K) := by
  refine T.F_shorter_beginnings.ok sc_shorter_beginnings (fun vs H Q E h => ?_) (fun cdv A outer s H vs Q E hr h => ?_)
  · obtain ⟨p, ps, rfl, _⟩ := h
    rfl
  · obtain ⟨p, ps, rfl, hp, hp1, hpl, k⟩ := h
    refine ⟨_, (pss_cons (ps_set (i := 1) sc_shorter_beginnings.nd rfl (Or.inl rfl) (pe_lst (pa_cons pe_int pa_nil)))
      (pss_cons (ps_for PassesOwn.never rfl (pi_list (pe_slice (r := rSlL K) sl_list (pv 0) (po_some pe_int) po_none)) (pg_name (i := 2) sc_shorter_beginnings.nd rfl (Or.inl rfl))
        (pss_one (ps_expr (pe_bm PySem.F.plainAttrs_list PySem.F.slot_list_append PySem.F.type_list_append mt_append (pv 1) (pa_cons (pe_call (ok_length_behind T) (hr.mono (by decide)) rfl T.g_length_behind T.F_length_behind.kp T.B_length_behind .nil pass0 (pa_cons (pv 0) (pa_cons (pv 1) (pa_cons (pe_ix (r := rIxL K) ix_list (pv 1) (pe_un un_neg pe_int) (fun _ _ => rfl)) (pa_cons (pv 2) pa_nil))))) pa_nil)))))
      (pss_one (ps_ret (pv 1))))), ?_⟩
    refine ⟨by show 1 ≤ sizeLine; decide, fun l hl => ?_⟩
    have s0 : Same H (upd H l (.lst (natV [0]))) := Br.Same.upd_new hl
    refine ⟨_, rfl, _, rfl, p, _, rfl, s0.seq hp, fun sl hsl => ?_⟩
    rw [cut_drop _ (by omega), natV_drop]
    have s1 : Same H (upd (upd H l (.lst (natV [0]))) sl (.lst (natV (ps.drop 1)))) := Br.Same.upd2 s0 (s0.free hsl)
    have hls : l ≠ sl := fun e => by
      rw [← e, upd_same] at hsl
      cases hsl
    refine ⟨sl, rfl, ⟨_, SqL.of upd_same⟩, for_list (K := K) (a := sl) (xs := natV (ps.drop 1)) (fun t σ H2 => ∃ v2 sh, σ = [some (.ref p), some (.ref l), v2] ∧ Same H H2 ∧ H2 sl = some (.lst (natV (ps.drop 1))) ∧ H2 l = some (.lst (natV sh)) ∧ sh.length = t + 1 ∧ Fail ps sh)
      ⟨none, [0], rfl, s1, upd_same, by rw [upd_ne hls, upd_same]; rfl, rfl, ?_⟩ (fun t σ H2 _ ⟨_, _, _, _, g, _⟩ => SqL.of g) ?_ ?_⟩
    · intro i f hi
      cases i with
      | zero =>
        have : f = 0 := by simpa using hi.symm
        rw [this]
        exact bst_1 ps
      | succ i => simp at hi
    · rintro t x σ H2 hx ⟨v2, sh, rfl, s2, g1, g2, hsl2, F⟩
      obtain ⟨c, hc, rfl⟩ := get_natV hx
      rw [List.getElem?_drop] at hc
      have ht : 1 + t < ps.length := (List.getElem?_eq_some_iff.mp hc).1
      have hne : sh ≠ [] := fun e => by rw [e] at hsl2; simp at hsl2
      obtain ⟨s', f, es⟩ : ∃ s' f, sh = s' ++ [f] := ⟨_, _, (List.dropLast_concat_getLast hne).symm⟩
      have hs' : s'.length = t := by
        rw [es] at hsl2
        simp at hsl2
        exact hsl2
      have ef : sh[t]? = some f := by rw [es, ← hs']; simp
      have B := F t f ef
      have eI : atI (natV sh) (-1) = some (V.int ((f : Nat) : Int)) := by
        rw [es, ← natV_snoc]
        exact atI_last _ _
      have hle := B.le
      refine ⟨_, rfl, .inl ⟨rfl, _, SqL.of g2⟩, _, rfl, _, rfl, _, rfl, _, rfl, l, _, _, _, rfl, rfl, SqL.of g2, eI, _, rfl, p, l, ps, sh, ps.take (t + 1), t, f, c, rfl, s2.seq hp, SqL.of g2, hp1, F, by omega, B, fun r Br' => ?_⟩
      have et : ps.take (t + 1) ++ [c] = ps.take (t + 1 + 1) := by
        rw [List.take_add_one (i := t + 1), show t + 1 = 1 + t by omega, hc]
        rfl
      rw [et, show min (t + 1) ps.length = sh.length by omega, ← hsl2] at Br'
      refine ⟨l, _, _, rfl, rfl, g2, by rw [natV_len, sizeIs]; omega, some (.int (c : Nat)), sh ++ [r], rfl, Br.Same.upd2 s2 hl, by rw [upd_ne hls.symm]; exact g1, by rw [upd_same, natV_snoc], by rw [List.length_append, hsl2]; rfl, fail_snoc F Br'⟩
    · rintro σ H2 ⟨v2, sh, rfl, s2, g1, g2, hsl2, F⟩
      rw [natV_len, List.length_drop] at hsl2
      exact ⟨_, rfl, k l H2 sh s2 hl g2 (by omega) F⟩
theorem sc_beginnings_at : FnScope ["codes", "piece", "shorter", "lengths", "length", "code"] ["codes", "piece"] (defScope s_beginnings_at) := ⟨rfl, rfl, rfl, by decide +kernel, rfl, by decide +kernel, by decide +kernel⟩
theorem ok_beginnings_at (T : Txt K mg a) : FnOk P w K mg bh CX0 3 a.f_beginnings_at a.d_beginnings_at ["codes", "piece"] (sp_beginnings_at K) := by
  refine T.F_beginnings_at.ok sc_beginnings_at (fun vs H Q E h => ?_) (fun cdv A outer s H vs Q E hr h => ?_)
  · obtain ⟨g, p, gs, ps, rfl, _⟩ := h
    rfl
  · obtain ⟨g, p, gs, ps, rfl, hg, hp, hp1, hpl, hgl, k⟩ := h
    refine ⟨_, (pss_cons (ps_set (i := 2) sc_beginnings_at.nd rfl (Or.inl rfl) (pe_call (ok_shorter_beginnings T) (hr.mono (by decide)) rfl T.g_shorter_beginnings T.F_shorter_beginnings.kp T.B_shorter_beginnings .nil pass0 (pa_cons (pv 1) pa_nil)))
      (pss_cons (ps_set (i := 3) sc_beginnings_at.nd rfl (Or.inl rfl) (pe_lst pa_nil))
      (pss_cons (ps_set (i := 4) sc_beginnings_at.nd rfl (Or.inl rfl) pe_int)
      (pss_cons (ps_for PassesOwn.never rfl (pi_list (pv 0)) (pg_name (i := 5) sc_beginnings_at.nd rfl (Or.inl rfl))
        (pss_cons (ps_set (i := 4) sc_beginnings_at.nd rfl (Or.inl rfl) (pe_call (ok_length_behind T) (hr.mono (by decide)) rfl T.g_length_behind T.F_length_behind.kp T.B_length_behind .nil pass0 (pa_cons (pv 1) (pa_cons (pv 2) (pa_cons (pv 4) (pa_cons (pv 5) pa_nil))))))
      (pss_one (ps_expr (pe_bm PySem.F.plainAttrs_list PySem.F.slot_list_append PySem.F.type_list_append mt_append (pv 3) (pa_cons (pv 4) pa_nil))))))
      (pss_one (ps_ret (pv 3))))))), ?_⟩
    refine ⟨_, rfl, p, ps, rfl, hp, hp1, hpl, fun q H1 sh s1 f1 g1 hshl F => ?_⟩
    refine ⟨Nat.zero_le _, fun l hl => ?_⟩
    have s2 : Same H1 (upd H1 l (.lst [])) := Br.Same.upd_new hl
    have hlH : H l = none := s1.free hl
    have gl : (natV gs).length = gs.length := natV_len gs
    refine ⟨_, rfl, g, rfl, ⟨_, s2.seq (s1.seq hg)⟩, for_list (K := K) (a := g) (xs := natV gs) (fun t σ H2 => ∃ v5 ls lb, σ = [some (.ref g), some (.ref p), some (.ref q), some (.ref l), some (.int ((lb : Nat) : Int)), v5] ∧ Same H1 H2 ∧ H2 l = some (.lst (natV ls)) ∧ Lens ps gs ls t ∧ Bst ps (gs.take t) ps.length lb)
      ⟨none, [], 0, rfl, s2, upd_same, ⟨rfl, fun i r h => by simp at h⟩, by rw [List.take_zero]; exact bst_nil ps⟩ (fun t σ H2 _ ⟨_, _, _, _, s3, _⟩ => s3.seq (s1.seq hg)) ?_ ?_⟩
    · rintro t x σ H2 hx ⟨v5, ls, lb, rfl, s3, g3, L, B⟩
      obtain ⟨c, hc, rfl⟩ := get_natV hx
      have ht : t < gs.length := (List.getElem?_eq_some_iff.mp hc).1
      have hll := L.1
      refine ⟨_, rfl, _, rfl, _, rfl, _, rfl, p, q, ps, sh, gs.take t, ps.length, lb, c, rfl, s3.seq (s1.seq hp), SqL.of (s3 _ _ g1), hp1, F, by have := B.le; omega, B, fun r Br' => ?_⟩
      have et : gs.take t ++ [c] = gs.take (t + 1) := by rw [List.take_add_one, hc]; rfl
      rw [et, Nat.min_eq_right (by omega)] at Br'
      refine ⟨_, rfl, .inl ⟨rfl, _, SqL.of g3⟩, _, rfl, l, _, _, rfl, rfl, g3, by rw [natV_len, sizeIs]; omega, some (.int (c : Nat)), ls ++ [r], r, rfl, Br.Same.upd2 s3 hl, by rw [upd_same, natV_snoc], lens_snoc L Br', Br'⟩
    · rintro σ H2 ⟨v5, ls, lb, rfl, s3, g3, L, B⟩
      rw [gl] at L
      exact ⟨_, rfl, k l H2 ls (s1.trans s3) hlH g3 L⟩
theorem sc_places_of : FnScope ["codes", "piece", "lengths", "place", "length"] ["codes", "piece"] (defScope s_places_of) := ⟨rfl, rfl, rfl, by decide +kernel, rfl, by decide +kernel, by decide +kernel⟩
theorem ok_places_of (T : Txt K mg a) : FnOk P w K mg bh CX0 4 a.f_places_of a.d_places_of ["codes", "piece"] (sp_places_of K) := by
  refine T.F_places_of.ok sc_places_of (fun vs H Q E h => ?_) (fun cdv A outer s H vs Q E hr h => ?_)
  · obtain ⟨g, p, gs, ps, rfl, _⟩ := h
    rfl
  · obtain ⟨g, p, gs, ps, rfl, hg, hp, hp1, hpl, hgl, k⟩ := h
    refine ⟨_, (pss_cons (ps_set (i := 2) sc_places_of.nd rfl (Or.inl rfl) (pe_call (ok_beginnings_at T) (hr.mono (by decide)) rfl T.g_beginnings_at T.F_beginnings_at.kp T.B_beginnings_at .nil pass0 (pa_cons (pv 0) (pa_cons (pv 1) pa_nil))))
      (pss_one (ps_ret (pe_lc (own := [("place", 3), ("length", 4)]) rfl sc_places_of.nd (pi_enum rfl T.b_enumerate (pa_cons (pv 2) pa_nil)) (blkOk_by (N := ["codes", "piece", "lengths", "place", "length"]) (sc := defScope s_places_of) (by decide +kernel)) (fun _ _ _ _ _ => (show PG _ _ (gTup K 2 _) from pg_tup rfl (pgs_cons (pg_name (i := 3) sc_places_of.nd rfl (Or.inl rfl)) (pgs_cons (pg_name (i := 4) sc_places_of.nd rfl (Or.inl rfl)) pgs_nil)))) (fun _ _ _ _ _ => pts_one (pt_cmpR op_eq (pv 4) (pe_callB (r := rLen K) (call_len_K) (by rfl) T.b_len PySem.boot_len (pa_cons (pv 1) pa_nil)) (nomark _)))
        (fun _ _ _ _ _ => (pe_op op_add (pe_op op_sub (pv 3) (pe_callB (r := rLen K) (call_len_K) (by rfl) T.b_len PySem.boot_len (pa_cons (pv 1) pa_nil))) pe_int)))))), ?_⟩
    refine ⟨_, rfl, _, rfl, g, p, gs, ps, rfl, hg, hp, hp1, hpl, hgl, fun q H1 ls s1 f1 g1 L => ?_⟩
    have hll : (natV ls).length = gs.length := by rw [natV_len, L.1]
    refine ⟨_, rfl, q, _, rfl, SqL.of g1, fun D hD => lc_enum (K := K) (a := q) (xs := natV ls) (fun i H2 => Same H1 H2 ∧ H2 D = some (.lst (natV (plK gs ps i)))) ⟨Br.Same.upd_new hD, by rw [upd_same, plK_0 hp1]; rfl⟩ (fun i H2 _ h2 => h2.1.seq (SqL.of g1)) ?_ ?_⟩
    · rintro i x H2 T0 hx ⟨s2, hD2⟩ hT
      obtain ⟨r, hr', rfl⟩ := get_natV hx
      have hi : i < gs.length := by
        have := (List.getElem?_eq_some_iff.mp hr').1
        rw [L.1] at this
        exact this
      have B := L.2 i r hr'
      have st := plK_step hp1 hi B
      have hDT : D ≠ T0 := ne_of_none hD2 hT
      have s3 : Same H1 (upd H2 T0 (.tup [.int (i : Nat), .int ((r : Nat) : Int)])) := Br.Same.upd2 s2 (s2.free hT)
      have hD3 : upd H2 T0 (.tup [.int (i : Nat), .int ((r : Nat) : Int)]) D = some (.lst (natV (plK gs ps i))) := by rw [upd_ne hDT]; exact hD2
      refine ⟨T0, _, rfl, SqT.of upd_same, rfl, _, _, rfl, _, _, rfl, rfl, rfl, ?_⟩
      refine ⟨_, rfl, _, rfl, p, _, rfl, .inl (s3.seq (s1.seq hp)), rfl, _, rfl, ite2 (fun h => ?_) (fun h => ?_)⟩
      · have h' := V.int.inj (of_decide_eq_true h)
        rw [natV_len] at h'
        have hrp : r = ps.length := by omega
        rw [if_pos hrp] at st
        have hle : ps.length ≤ i + 1 := by
          have := B.suf.2.1
          rw [List.length_take] at this
          omega
        have hpk := plK_len gs ps i hp1
        refine ⟨_, rfl, _, rfl, p, _, rfl, .inl (s3.seq (s1.seq hp)), _, _, rfl, rfl, _, _, rfl, rfl, _, hD3, by rw [natV_len, sizeIs]; omega, Br.Same.upd2 s3 hD, ?_⟩
        rw [upd_same, st, ← natV_snoc]
        dsimp only
        rw [natV_len, show ((i : Nat) : Int) - ((ps.length : Nat) : Int) + 1 = ((i + 1 - ps.length : Nat) : Int) by omega]
      · have hrp : ¬ r = ps.length := fun e => h (decide_eq_true (by rw [natV_len, e]))
        rw [if_neg hrp] at st
        exact ⟨s3, by rw [st]; exact hD3⟩
    · rintro H2 ⟨s2, hD2⟩
      rw [hll, plK_all hp1] at hD2
      exact k D H2 (s1.trans s2) (s1.free hD) hD2
theorem sc_longest_beginning : FnScope ["codes", "piece"] ["codes", "piece"] (defScope s_longest_beginning) := ⟨rfl, rfl, rfl, by decide +kernel, rfl, by decide +kernel, by decide +kernel⟩
theorem ok_longest_beginning (T : Txt K mg a) : FnOk P w K mg bh CX0 4 a.f_longest_beginning a.d_longest_beginning ["codes", "piece"] (sp_longest_beginning K) := by
  refine T.F_longest_beginning.ok sc_longest_beginning (fun vs H Q E h => ?_) (fun cdv A outer s H vs Q E hr h => ?_)
  · obtain ⟨g, p, gs, ps, rfl, _⟩ := h
    rfl
  · obtain ⟨g, p, gs, ps, rfl, hg, hp, hpl, hgl, k⟩ := h
    refine ⟨_, (pss_cons (ps_if (pt_cmpR op_eq (pe_callB (call_len_seq) (by rfl) T.b_len PySem.boot_len (pa_cons (pv 1) pa_nil)) pe_int (nomark _)) (pss_one (ps_ret pe_int)) pss_nil)
      (pss_one (ps_ret (pe_maxD rfl rfl T.b_max (pe_call (ok_beginnings_at T) (hr.mono (by decide)) rfl T.g_beginnings_at T.F_beginnings_at.kp T.B_beginnings_at .nil pass0 (pa_cons (pv 0) (pa_cons (pv 1) pa_nil))) pe_int)))), ?_⟩
    refine ⟨_, rfl, p, _, rfl, .inl hp, rfl, _, rfl, ite2 (fun h => ?_) (fun h => ?_)⟩
    · have h' := V.int.inj (of_decide_eq_true h)
      rw [natV_len] at h'
      have e : ps = [] := List.length_eq_zero_iff.mp (by omega)
      subst e
      have := k H (Same.refl _)
      rw [longest_nil] at this
      exact this
    · have h' : ¬ ps.length = 0 := fun e => h (decide_eq_true (by rw [natV_len, e]; rfl))
      refine ⟨_, rfl, _, rfl, g, p, gs, ps, rfl, hg, hp, by omega, hpl, hgl, fun q H1 ls s1 f1 g1 L => ?_⟩
      have kk := k H1 s1
      refine ⟨q, ls.map fun (n : Nat) => (n : Int), 0, rfl, rfl, SqL.of g1, fun e => ?_, fun m hm hle => ?_⟩
      · have e' : ls = [] := by simpa using e
        rw [longest_lens (M := 0) L (fun _ => rfl) (fun z => absurd e' z)] at kk
        exact kk
      · obtain ⟨M, hM, rfl⟩ := List.mem_map.mp hm
        rw [longest_lens (M := M) L (fun e => by rw [e] at hM; simp at hM) (fun _ => ⟨hM, fun z hz => by have := hle _ (List.mem_map_of_mem hz); omega⟩)] at kk
        exact kk
end
end Py

/-! Reads piled up. -/
namespace Py
open PySem L2 Br Gr
open Sg42 (Spot)
def rf (n : Nat) (cA wA oA : Addr) : List (Str × V) := [("length", .int (n : Int)), ("counts", .ref cA), ("weights", .ref wA), ("over", .ref oA)]
section
variable (n : Nat) (cA wA oA : Addr)
theorem rf_length : (rf n cA wA oA).lookup ("length" : Str) = some (.int (n : Int)) := look_hit _ _ _
theorem rf_counts : (rf n cA wA oA).lookup ("counts" : Str) = some (.ref cA) := by
  unfold rf
  rw [look_miss (by decide +kernel), look_hit]
theorem rf_weights : (rf n cA wA oA).lookup ("weights" : Str) = some (.ref wA) := by
  unfold rf
  rw [look_miss (by decide +kernel), look_miss (by decide +kernel), look_hit]
theorem rf_over : (rf n cA wA oA).lookup ("over" : Str) = some (.ref oA) := by
  unfold rf
  rw [look_miss (by decide +kernel), look_miss (by decide +kernel), look_miss (by decide +kernel), look_hit]
theorem rf_no {m : Str} (h1 : ¬ m = "length") (h2 : ¬ m = "counts") (h3 : ¬ m = "weights") (h4 : ¬ m = "over") : (rf n cA wA oA).lookup m = none := by
  unfold rf
  rw [look_miss h1, look_miss h2, look_miss h3, look_miss h4]
  rfl
end
/-- a Reads of these places stands at p -/
structure ReadsAt (C : Addr) (H : Hp) (p dx cA wA oA : Addr) (sp : List Spot) : Prop where
  ob : H p = some (.ins C dx (rf sp.length cA wA oA))
  c : H cA = some (.lst (natV (allC sp)))
  w : H wA = some (.lst (natV (allW sp)))
  o : H oA = some (.lst (natV (allG sp)))
  cw : cA ≠ wA
  co : cA ≠ oA
  wo : wA ≠ oA
  four : Four sp
theorem ReadsAt.same {C : Addr} {H H' : Hp} {p dx cA wA oA : Addr} {sp : List Spot} (R : ReadsAt C H p dx cA wA oA sp) (s : Same H H') : ReadsAt C H' p dx cA wA oA sp := ⟨s _ _ R.ob, s _ _ R.c, s _ _ R.w, s _ _ R.o, R.cw, R.co, R.wo, R.four⟩
def sp_raised (K : PySem.W.Frag) : Sp := fun vs H Q _ => ∃ (x y : Nat), vs = [.int x, .int y] ∧ Q (.int (Sg42.held (x + y) : Nat)) H
def sp_Reads_init (C : Addr) (K : PySem.W.Frag) : Sp := fun vs H Q _ => ∃ (p dx : Addr) (n : Nat), vs = [.ref p, .int n] ∧ H p = some (.ins C dx []) ∧ n ≤ 65536 ∧
  ∀ (H' : Hp) (cA wA oA : Addr), (∀ b o, H b = some o → b ≠ p → H' b = some o) → H cA = none → H wA = none → H oA = none → ReadsAt C H' p dx cA wA oA (List.replicate n Sg42.blank) → Q .non H'
def sp_Reads_fits (C : Addr) (K : PySem.W.Frag) : Sp := fun vs H Q _ => ∃ (p dx cA wA oA qc qq qw : Addr) (sp : List Spot) (cs : List Nat) (qs ws : List Int) (i : Nat), vs = [.ref p, .ref qc, .ref qq, .ref qw, .int i] ∧ ReadsAt C H p dx cA wA oA sp ∧
  SqL K H qc (natV cs) ∧ SqL K H qq (qs.map V.int) ∧ SqL K H qw (ws.map V.int) ∧ ∀ (H' : Hp) (b : Bool), Same H H' → (b = true ↔ (badQ qs = none ∧ Fits ws cs.length i sp.length)) → Q (.bl b) H'
def sp_Reads_pile (C : Addr) (K : PySem.W.Frag) : Sp := fun vs H Q _ => ∃ (p dx cA wA oA qc qq qw : Addr) (sp sp' : List Spot) (cs : List Nat) (qs ws : List Int) (i : Nat), vs = [.ref p, .ref qc, .ref qq, .ref qw, .int i] ∧ ReadsAt C H p dx cA wA oA sp ∧
  H qc = some (.lst (natV cs)) ∧ H qq = some (.lst (qs.map V.int)) ∧ H qw = some (.lst (ws.map V.int)) ∧ (∀ q ∈ [qc, qq, qw], q ≠ cA ∧ q ≠ wA ∧ q ≠ oA) ∧ (∀ x ∈ cs, x < 4) ∧ cs.length = qs.length ∧ badQ qs = none ∧ Byt ws ∧ sp.length ≤ 65536 ∧
  Sg42.walk (Sg42Neutral.bytesOf ws) (cs.zip (quals qs)) i sp = some sp' ∧
  ∀ H' : Hp, (∀ b o, H b = some o → b ≠ cA → b ≠ wA → b ≠ oA → H' b = some o) → ReadsAt C H' p dx cA wA oA sp' → Q .non H'
def sp_Reads_depth_at (C : Addr) (K : PySem.W.Frag) : Sp := fun vs H Q _ => ∃ (p dx cA wA oA : Addr) (sp : List Spot) (i : Nat) (x : Spot), vs = [.ref p, .int i] ∧ ReadsAt C H p dx cA wA oA sp ∧ sp[i]? = some x ∧ sp.length ≤ 65536 ∧
  ∀ H', Same H H' → Q (.int (Sg42.depth x : Nat)) H'
def sp_Reads_said_at (C : Addr) (K : PySem.W.Frag) : Sp := fun vs H Q _ => ∃ (p dx cA wA oA : Addr) (sp : List Spot) (i : Nat) (x : Spot), vs = [.ref p, .int i] ∧ ReadsAt C H p dx cA wA oA sp ∧ sp[i]? = some x ∧ sp.length ≤ 65536 ∧
  ∀ H', Same H H' → Q (.int ((Sg42.said x).toNat : Nat)) H'
theorem blank_four (n : Nat) : Four (List.replicate n Sg42.blank) := fun x hx => by
  rw [(List.mem_replicate.mp hx).2]
  exact ⟨rfl, rfl⟩
theorem blank_fm {f : Spot → List Nat} (hf : f Sg42.blank = [0, 0, 0, 0]) : ∀ n, (List.replicate n Sg42.blank).flatMap f = List.replicate (4 * n) 0
  | 0 => rfl
  | n + 1 => by
    rw [List.replicate_succ, List.flatMap_cons, hf, blank_fm hf n, show 4 * (n + 1) = 4 * n + 1 + 1 + 1 + 1 by omega]
    rfl
theorem blank_g (n : Nat) : allG (List.replicate n Sg42.blank) = List.replicate n 0 := by
  unfold allG
  rw [List.map_replicate]
  rfl
section
variable {P : Program} {w : World} {K : PySem.W.Frag} {mg : Str → Option Value} {bh : Heap} {a : Adr}
theorem sc_raised : FnScope ["number", "more"] ["number", "more"] (defScope s_raised) := ⟨rfl, rfl, rfl, by decide +kernel, rfl, by decide +kernel, by decide +kernel⟩
theorem ok_raised (T : Txt K mg a) : FnOk P w K mg bh CX0 1 a.f_raised a.d_raised ["number", "more"] (sp_raised K) := by
  obtain ⟨_, h_GREATEST_COUNT⟩ := T.c_GREATEST_COUNT
  refine T.F_raised.ok sc_raised (fun vs H Q E h => ?_) (fun cdv A outer s H vs Q E hr h => ?_)
  · obtain ⟨x, y, rfl, _⟩ := h
    rfl
  · obtain ⟨x, y, rfl, k⟩ := h
    refine ⟨_, (pss_one (ps_ret (pe_callB (call_min2 rfl) (by rfl) T.b_min PyProof.Rows.boot_min (pa_cons (pe_op op_add (pv 0) (pv 1)) (pa_cons (pe_glob (v := .int 65535) rfl h_GREATEST_COUNT ⟨_, rfl⟩) pa_nil))))), ?_⟩
    refine ⟨_, rfl, _, rfl, _, _, rfl, rfl, _, _, rfl, ?_⟩
    have e : (if (65535 : Int) < ((x : Nat) : Int) + ((y : Nat) : Int) then (65535 : Int) else ((x : Nat) : Int) + ((y : Nat) : Int)) = ((Sg42.held (x + y) : Nat) : Int) := by
      unfold Sg42.held
      split <;> omega
    rw [← e] at k
    exact k
theorem sc_Reads_init : FnScope ["self", "length"] ["self", "length"] (defScope s_Reads_init) := ⟨rfl, rfl, rfl, by decide +kernel, rfl, by decide +kernel, by decide +kernel⟩
theorem ok_Reads_init (T : Txt K mg a) : FnOk P w K mg bh CX0 1 a.f_Reads_init a.d_Reads_init ["self", "length"] (sp_Reads_init a.C_Reads K) := by
  refine T.F_Reads_init.ok sc_Reads_init (fun vs H Q E h => ?_) (fun cdv A outer s H vs Q E hr h => ?_)
  · obtain ⟨p, dx, n, rfl, _⟩ := h
    rfl
  · obtain ⟨p, dx, n, rfl, hp, hn, k⟩ := h
    refine ⟨_, (pss_cons (ps_fld (pv 0) (pv 1) rfl)
      (pss_cons (ps_fld (pv 0) (pe_op op_rep (pe_lst (pa_cons pe_int pa_nil)) (pe_op op_mul pe_int (pv 1))) rfl)
      (pss_cons (ps_fld (pv 0) (pe_op op_rep (pe_lst (pa_cons pe_int pa_nil)) (pe_op op_mul pe_int (pv 1))) rfl)
      (pss_one (ps_fld (pv 0) (pe_op op_rep (pe_lst (pa_cons pe_int pa_nil)) (pv 1)) rfl))))), ?_⟩
    have hsz := sizeIs
    refine ⟨_, rfl, _, rfl, p, a.C_Reads, dx, _, rfl, hp, T.cl_Reads, T.n_Reads_length, by show 0 < 1000; decide, ?_⟩
    rw [put_nil]
    have g0 : upd H p (.ins a.C_Reads dx [("length", .int (n : Int))]) p = some (.ins a.C_Reads dx [("length", .int (n : Int))]) := upd_same
    have fr0 : ∀ b o, H b = some o → b ≠ p → upd H p (.ins a.C_Reads dx [("length", .int (n : Int))]) b = some o := fun b o e hb => by rw [upd_ne hb]; exact e
    generalize upd H p (.ins a.C_Reads dx [("length", .int (n : Int))]) = H0 at g0 fr0
    have e4 : (4 * ((n : Nat) : Int)).toNat = 4 * n := by omega
    have free : ∀ {H1 : Hp} {x : Addr}, (∀ b o, H b = some o → b ≠ p → H1 b = some o) → (∃ u, H1 p = some u) → H1 x = none → H x = none := fun {H1 x} fr hp1 hx => by
      cases e : H x with
      | none => rfl
      | some o =>
        by_cases hxp : x = p
        · obtain ⟨u, hu⟩ := hp1
          rw [hxp, hu] at hx
          cases hx
        · rw [fr x o e hxp] at hx
          cases hx
    -- counts
    refine ⟨by show 1 ≤ sizeLine; decide, fun l1 hl1 => ?_⟩
    refine ⟨_, rfl, _, _, rfl, rfl, .inl ⟨by decide, by decide⟩, l1, _, _, rfl, rfl, upd_same, by omega, by omega, by show 1 * _ ≤ _; omega, fun cA hcA => ?_⟩
    rw [e4, zeros]
    have hcA0 : H0 cA = none := (Br.Same.upd_new hl1).free hcA
    have np1 : p ≠ l1 := ne_of_none g0 hl1
    have npc : p ≠ cA := ne_of_none g0 hcA0
    have g1 : upd (upd H0 l1 (.lst [V.int 0])) cA (.lst (natV (List.replicate (4 * n) 0))) p = some (.ins a.C_Reads dx [("length", .int (n : Int))]) := by rw [upd_ne npc, upd_ne np1]; exact g0
    refine ⟨_, rfl, p, a.C_Reads, dx, _, rfl, g1, T.cl_Reads, T.n_Reads_counts, by show 1 < 1000; decide, ?_⟩
    rw [put_miss (by decide +kernel), put_nil]
    have g2 : upd (upd (upd H0 l1 (.lst [V.int 0])) cA (.lst (natV (List.replicate (4 * n) 0)))) p (.ins a.C_Reads dx [("length", .int (n : Int)), ("counts", .ref cA)]) p = some (.ins a.C_Reads dx [("length", .int (n : Int)), ("counts", .ref cA)]) := upd_same
    have c2 : upd (upd (upd H0 l1 (.lst [V.int 0])) cA (.lst (natV (List.replicate (4 * n) 0)))) p (.ins a.C_Reads dx [("length", .int (n : Int)), ("counts", .ref cA)]) cA = some (.lst (natV (List.replicate (4 * n) 0))) := by rw [upd_ne npc.symm, upd_same]
    have fr2 : ∀ b o, H b = some o → b ≠ p → upd (upd (upd H0 l1 (.lst [V.int 0])) cA (.lst (natV (List.replicate (4 * n) 0)))) p (.ins a.C_Reads dx [("length", .int (n : Int)), ("counts", .ref cA)]) b = some o := fun b o e hb => by
      have e0 := fr0 b o e hb
      rw [upd_ne hb, upd_ne (ne_of_none e0 hcA0), upd_ne (ne_of_none e0 hl1)]
      exact e0
    have cH : H cA = none := free fr0 ⟨_, g0⟩ hcA0
    generalize upd (upd (upd H0 l1 (.lst [V.int 0])) cA (.lst (natV (List.replicate (4 * n) 0)))) p (.ins a.C_Reads dx [("length", .int (n : Int)), ("counts", .ref cA)]) = H2 at g2 c2 fr2
    -- weights
    refine ⟨by show 1 ≤ sizeLine; decide, fun l2 hl2 => ?_⟩
    refine ⟨_, rfl, _, _, rfl, rfl, .inl ⟨by decide, by decide⟩, l2, _, _, rfl, rfl, upd_same, by omega, by omega, by show 1 * _ ≤ _; omega, fun wA hwA => ?_⟩
    rw [e4, zeros]
    have hwA0 : H2 wA = none := (Br.Same.upd_new hl2).free hwA
    have np2 : p ≠ l2 := ne_of_none g2 hl2
    have npw : p ≠ wA := ne_of_none g2 hwA0
    have ncw : cA ≠ wA := ne_of_none c2 hwA0
    have nc2 : cA ≠ l2 := ne_of_none c2 hl2
    have g3 : upd (upd H2 l2 (.lst [V.int 0])) wA (.lst (natV (List.replicate (4 * n) 0))) p = some (.ins a.C_Reads dx [("length", .int (n : Int)), ("counts", .ref cA)]) := by rw [upd_ne npw, upd_ne np2]; exact g2
    refine ⟨_, rfl, p, a.C_Reads, dx, _, rfl, g3, T.cl_Reads, T.n_Reads_weights, by show 2 < 1000; decide, ?_⟩
    rw [put_miss (by decide +kernel), put_miss (by decide +kernel), put_nil]
    have g4 : upd (upd (upd H2 l2 (.lst [V.int 0])) wA (.lst (natV (List.replicate (4 * n) 0)))) p (.ins a.C_Reads dx [("length", .int (n : Int)), ("counts", .ref cA), ("weights", .ref wA)]) p = some (.ins a.C_Reads dx [("length", .int (n : Int)), ("counts", .ref cA), ("weights", .ref wA)]) := upd_same
    have c4 : upd (upd (upd H2 l2 (.lst [V.int 0])) wA (.lst (natV (List.replicate (4 * n) 0)))) p (.ins a.C_Reads dx [("length", .int (n : Int)), ("counts", .ref cA), ("weights", .ref wA)]) cA = some (.lst (natV (List.replicate (4 * n) 0))) := by rw [upd_ne npc.symm, upd_ne ncw, upd_ne nc2]; exact c2
    have w4 : upd (upd (upd H2 l2 (.lst [V.int 0])) wA (.lst (natV (List.replicate (4 * n) 0)))) p (.ins a.C_Reads dx [("length", .int (n : Int)), ("counts", .ref cA), ("weights", .ref wA)]) wA = some (.lst (natV (List.replicate (4 * n) 0))) := by rw [upd_ne npw.symm, upd_same]
    have fr4 : ∀ b o, H b = some o → b ≠ p → upd (upd (upd H2 l2 (.lst [V.int 0])) wA (.lst (natV (List.replicate (4 * n) 0)))) p (.ins a.C_Reads dx [("length", .int (n : Int)), ("counts", .ref cA), ("weights", .ref wA)]) b = some o := fun b o e hb => by
      have e0 := fr2 b o e hb
      rw [upd_ne hb, upd_ne (ne_of_none e0 hwA0), upd_ne (ne_of_none e0 hl2)]
      exact e0
    have wH : H wA = none := free fr2 ⟨_, g2⟩ hwA0
    generalize upd (upd (upd H2 l2 (.lst [V.int 0])) wA (.lst (natV (List.replicate (4 * n) 0)))) p (.ins a.C_Reads dx [("length", .int (n : Int)), ("counts", .ref cA), ("weights", .ref wA)]) = H4 at g4 c4 w4 fr4
    -- over
    refine ⟨by show 1 ≤ sizeLine; decide, fun l3 hl3 => ?_⟩
    refine ⟨_, rfl, l3, _, _, rfl, rfl, upd_same, by omega, by omega, by show 1 * _ ≤ _; omega, fun oA hoA => ?_⟩
    rw [Int.toNat_natCast, zeros]
    have hoA0 : H4 oA = none := (Br.Same.upd_new hl3).free hoA
    have np3 : p ≠ l3 := ne_of_none g4 hl3
    have npo : p ≠ oA := ne_of_none g4 hoA0
    have nco : cA ≠ oA := ne_of_none c4 hoA0
    have nwo : wA ≠ oA := ne_of_none w4 hoA0
    have nc3 : cA ≠ l3 := ne_of_none c4 hl3
    have nw3 : wA ≠ l3 := ne_of_none w4 hl3
    have g5 : upd (upd H4 l3 (.lst [V.int 0])) oA (.lst (natV (List.replicate n 0))) p = some (.ins a.C_Reads dx [("length", .int (n : Int)), ("counts", .ref cA), ("weights", .ref wA)]) := by rw [upd_ne npo, upd_ne np3]; exact g4
    refine ⟨_, rfl, p, a.C_Reads, dx, _, rfl, g5, T.cl_Reads, T.n_Reads_over, by show 3 < 1000; decide, ?_⟩
    rw [put_miss (by decide +kernel), put_miss (by decide +kernel), put_miss (by decide +kernel), put_nil]
    refine k _ cA wA oA (fun b o e hb => ?_) cH wH (free fr4 ⟨_, g4⟩ hoA0) ⟨?_, ?_, ?_, ?_, ncw, nco, nwo, blank_four n⟩
    · have e0 := fr4 b o e hb
      rw [upd_ne hb, upd_ne (ne_of_none e0 hoA0), upd_ne (ne_of_none e0 hl3)]
      exact e0
    · rw [upd_same, List.length_replicate]
      rfl
    · rw [upd_ne npc.symm, upd_ne nco, upd_ne nc3, c4]
      unfold allC
      rw [blank_fm rfl]
    · rw [upd_ne npw.symm, upd_ne nwo, upd_ne nw3, w4]
      unfold allW
      rw [blank_fm rfl]
    · rw [upd_ne npo.symm, upd_same, blank_g]
theorem sc_Reads_fits : FnScope ["self", "codes", "qualities", "way", "place", "taken", "walked"] ["self", "codes", "qualities", "way", "place"] (defScope s_Reads_fits) := ⟨rfl, rfl, rfl, by decide +kernel, rfl, by decide +kernel, by decide +kernel⟩
theorem ok_Reads_fits (T : Txt K mg a) : FnOk P w K mg bh CX0 2 a.f_Reads_fits a.d_Reads_fits ["self", "codes", "qualities", "way", "place"] (sp_Reads_fits a.C_Reads K) := by
  obtain ⟨_, h_LETTER_D⟩ := T.c_LETTER_D
  obtain ⟨_, h_LETTER_I⟩ := T.c_LETTER_I
  obtain ⟨_, h_LETTER_M⟩ := T.c_LETTER_M
  refine T.F_Reads_fits.ok sc_Reads_fits (fun vs H Q E h => ?_) (fun cdv A outer s H vs Q E hr h => ?_)
  · obtain ⟨p, dx, cA, wA, oA, qc, qq, qw, sp, cs, qs, ws, i, rfl, _⟩ := h
    rfl
  · obtain ⟨p, dx, cA, wA, oA, qc, qq, qw, sp, cs, qs, ws, i, rfl, R, hc, hq, hw, k⟩ := h
    refine ⟨_, (pss_cons (ps_set (i := 5) sc_Reads_fits.nd rfl (Or.inl rfl) (pe_op op_add (pe_bm PySem.F.plainAttrs_list PySem.F.slot_list_count PySem.F.type_list_count mt_count1 (pv 3) (pa_cons (pe_glob (v := .int 77) rfl h_LETTER_M ⟨_, rfl⟩) pa_nil)) (pe_bm PySem.F.plainAttrs_list PySem.F.slot_list_count PySem.F.type_list_count mt_count1 (pv 3) (pa_cons (pe_glob (v := .int 73) rfl h_LETTER_I ⟨_, rfl⟩) pa_nil))))
      (pss_cons (ps_set (i := 6) sc_Reads_fits.nd rfl (Or.inl rfl) (pe_op op_add (pe_bm PySem.F.plainAttrs_list PySem.F.slot_list_count PySem.F.type_list_count mt_count1 (pv 3) (pa_cons (pe_glob (v := .int 77) rfl h_LETTER_M ⟨_, rfl⟩) pa_nil)) (pe_bm PySem.F.plainAttrs_list PySem.F.slot_list_count PySem.F.type_list_count mt_count1 (pv 3) (pa_cons (pe_glob (v := .int 68) rfl h_LETTER_D ⟨_, rfl⟩) pa_nil))))
      (pss_cons (ps_if (PW.pt (pw_or (pt_cmpR op_lt (pe_op op_add (pv 5) (pe_bm PySem.F.plainAttrs_list PySem.F.slot_list_count PySem.F.type_list_count mt_count1 (pv 3) (pa_cons (pe_glob (v := .int 68) rfl h_LETTER_D ⟨_, rfl⟩) pa_nil))) (pe_callB (call_len_seq) (by rfl) T.b_len PySem.boot_len (pa_cons (pv 3) pa_nil)) (nomark _)) (pw_or1 (pt_cmpR op_lt (pe_call (ok_first_other_byte T) (hr.mono (by decide)) rfl T.g_first_other_byte T.F_first_other_byte.kp T.B_first_other_byte .nil pass0 (pa_cons (pv 2) pa_nil)) (pe_callB (call_len_seq) (by rfl) T.b_len PySem.boot_len (pa_cons (pv 2) pa_nil)) (nomark _))))) (pss_one (ps_ret pe_bl)) pss_nil)
      (pss_one (ps_ret (pe_and (pe_cmpR op_eq (pv 5) (pe_callB (call_len_seq) (by rfl) T.b_len PySem.boot_len (pa_cons (pv 1) pa_nil)) (nomark _)) (pe_one (pe_cmpR op_le (pe_op op_add (pv 4) (pv 6)) (pe_fld (pv 0) rfl) (nomark _))))))))), ?_⟩
    obtain ⟨cl1, cl2⟩ := counts_le ws
    refine ⟨_, rfl, .inl ⟨rfl, _, hw⟩, qw, ws, 77, rfl, rfl, hw, _, rfl, .inl ⟨rfl, _, hw⟩, qw, ws, 73, rfl, rfl, hw, _, _, rfl, rfl, ?_⟩
    refine ⟨_, rfl, .inl ⟨rfl, _, hw⟩, qw, ws, 77, rfl, rfl, hw, _, rfl, .inl ⟨rfl, _, hw⟩, qw, ws, 68, rfl, rfl, hw, _, _, rfl, rfl, ?_⟩
    refine ⟨_, rfl, _, rfl, .inl ⟨rfl, _, hw⟩, qw, ws, 68, rfl, rfl, hw, _, _, rfl, rfl, _, rfl, qw, _, rfl, .inl hw, _, _, rfl, rfl, _, rfl, ite2 (fun h => iteT ?_) (fun h => ?_)⟩
    · have h' := of_decide_eq_true h
      rw [List.length_map] at h'
      refine k H false (Same.refl _) ⟨fun z => (nomatch z), fun z => ?_⟩
      have := cl2.mpr z.2.1
      omega
    have h' : ¬ ((ws.count 77 : Nat) : Int) + ((ws.count 73 : Nat) : Int) + ((ws.count 68 : Nat) : Int) < (((ws.map V.int).length : Nat) : Int) := fun z => h (decide_eq_true z)
    rw [List.length_map] at h'
    have hall := cl2.mp (by omega)
    refine ⟨_, rfl, qq, qs, rfl, hq, fun H1 s1 => ?_⟩
    refine ⟨_, rfl, qq, _, rfl, .inl (s1.seq hq), _, _, rfl, rfl, _, rfl, ite2 (fun h2 => ?_) (fun h2 => ?_)⟩
    · have h2' : ((otherAt qs : Nat) : Int) < (((qs.map V.int).length : Nat) : Int) := of_decide_eq_true h2
      rw [List.length_map] at h2'
      refine k H1 false s1 ⟨fun z => (nomatch z), fun z => ?_⟩
      have := other_lt.mp (show otherAt qs < qs.length by omega)
      rw [z.1] at this
      cases this
    have h2' : ¬ ((otherAt qs : Nat) : Int) < (((qs.map V.int).length : Nat) : Int) := fun z => h2 (decide_eq_true z)
    rw [List.length_map] at h2'
    have hbq : badQ qs = none := by
      cases e : badQ qs with
      | none => rfl
      | some j => exact absurd (other_lt.mpr (by rw [e]; rfl)) (by omega)
    refine ⟨_, rfl, _, rfl, qc, _, rfl, .inl (s1.seq hc), rfl, _, rfl, ite2 (fun h3 => ?_) (fun h3 => ?_)⟩
    · have h3' : ((ws.count 77 : Nat) : Int) + ((ws.count 73 : Nat) : Int) = (((natV cs).length : Nat) : Int) := V.int.inj (of_decide_eq_true h3)
      rw [natV_len] at h3'
      refine ⟨_, rfl, _, rfl, _, _, rfl, rfl, _, rfl, p, a.C_Reads, dx, _, _, rfl, s1 _ _ R.ob, T.cl_Reads, T.n_Reads_length, rf_length _ _ _ _, _, _, rfl, rfl, ?_⟩
      refine k H1 _ s1 ?_
      show decide (((i : Nat) : Int) + (((ws.count 77 : Nat) : Int) + ((ws.count 68 : Nat) : Int)) ≤ ((sp.length : Nat) : Int)) = true ↔ _
      rw [decide_eq_true_eq]
      constructor
      · intro z; exact ⟨hbq, hall, by omega, by omega⟩
      · rintro ⟨_, _, _, z⟩; omega
    · refine k H1 false s1 ⟨fun z => (nomatch z), fun z => ?_⟩
      refine absurd (decide_eq_true ?_) h3
      have := z.2.2.1
      rw [natV_len, ← this, Int.natCast_add]
theorem sc_Reads_pile : FnScope ["self", "codes", "qualities", "way", "place", "taken", "letter", "spot"] ["self", "codes", "qualities", "way", "place"] (defScope s_Reads_pile) := ⟨rfl, rfl, rfl, by decide +kernel, rfl, by decide +kernel, by decide +kernel⟩
theorem drop_cons {α : Type} {l : List α} {t : Nat} {y : α} {r : List α} (h : l.drop t = y :: r) : l[t]? = some y ∧ l.drop (t + 1) = r := by
  have h1 : l[t]? = (l.drop t)[0]? := by rw [List.getElem?_drop]; rfl
  refine ⟨by rw [h1, h]; rfl, ?_⟩
  rw [← List.drop_drop, h]
  rfl
theorem g_keep {l : List Spot} {i : Nat} {x x' : Spot} (hx : l[i]? = some x) (e : x'.gaps = x.gaps) : allG (l.set i x') = allG l := by
  unfold allG
  refine List.ext_getElem? fun n => ?_
  rw [List.getElem?_map, List.getElem?_map, List.getElem?_set]
  by_cases h : i = n
  · subst h
    rw [if_pos rfl, if_pos (List.getElem?_eq_some_iff.mp hx).1, hx]
    show some x'.gaps = some x.gaps
    rw [e]
  · rw [if_neg h]
set_option maxHeartbeats 8000000 in
theorem ok_Reads_pile (T : Txt K mg a) : FnOk P w K mg bh CX0 2 a.f_Reads_pile a.d_Reads_pile ["self", "codes", "qualities", "way", "place"] (sp_Reads_pile a.C_Reads K) := by
  obtain ⟨_, h_LEAST_BYTE⟩ := T.c_LEAST_BYTE
  obtain ⟨_, h_LETTER_D⟩ := T.c_LETTER_D
  obtain ⟨_, h_LETTER_I⟩ := T.c_LETTER_I
  obtain ⟨_, h_LETTER_M⟩ := T.c_LETTER_M
  refine T.F_Reads_pile.ok sc_Reads_pile (fun vs H Q E h => ?_) (fun cdv A outer s H vs Q E hr h => ?_)
  · obtain ⟨p, dx, cA, wA, oA, qc, qq, qw, sp, sp', cs, qs, ws, i, rfl, _⟩ := h
    rfl
  · obtain ⟨p, dx, cA, wA, oA, qc, qq, qw, sp, sp', cs, qs, ws, i, rfl, R, hc, hq, hw, hne, hc4, hlen, hbq, hby, hsz, hwalk, k⟩ := h
    refine ⟨_, (pss_cons (ps_set (i := 5) sc_Reads_pile.nd rfl (Or.inl rfl) pe_int)
      (pss_one (ps_for PassesOwn.never rfl (pi_list (pv 3)) (pg_name (i := 6) sc_Reads_pile.nd rfl (Or.inl rfl))
        (pss_cons (ps_if (pt_cmpR op_eq (pv 6) (pe_glob (v := .int 77) rfl h_LETTER_M ⟨_, rfl⟩) (nomark _)) (pss_cons (ps_set (i := 7) sc_Reads_pile.nd rfl (Or.inl rfl) (pe_op op_add (pe_op op_mul pe_int (pv 4)) (pe_ix (r := rIxL K) ix_list (pv 1) (pv 5) (fun _ _ => rfl))))
      (pss_cons (ps_asg (pe_call (ok_raised T) (hr.mono (by decide)) rfl T.g_raised T.F_raised.kp T.B_raised .nil pass0 (pa_cons (pe_ix (r := rIxL K) ix_list (pe_fld (pv 0) rfl) (pv 7) (fun _ _ => rfl)) (pa_cons pe_int pa_nil))) (pg_sub (pe_fld (pv 0) rfl) (pv 7) set_list))
      (pss_one (ps_asg (pe_call (ok_raised T) (hr.mono (by decide)) rfl T.g_raised T.F_raised.kp T.B_raised .nil pass0 (pa_cons (pe_ix (r := rIxL K) ix_list (pe_fld (pv 0) rfl) (pv 7) (fun _ _ => rfl)) (pa_cons (pe_op op_sub (pe_ix (r := rIxL K) ix_list (pv 2) (pv 5) (fun _ _ => rfl)) (pe_glob (v := .int 33) rfl h_LEAST_BYTE ⟨_, rfl⟩)) pa_nil))) (pg_sub (pe_fld (pv 0) rfl) (pv 7) set_list))))) pss_nil)
      (pss_cons (ps_if (pt_cmpR op_eq (pv 6) (pe_glob (v := .int 68) rfl h_LETTER_D ⟨_, rfl⟩) (nomark _)) (pss_one (ps_asg (pe_call (ok_raised T) (hr.mono (by decide)) rfl T.g_raised T.F_raised.kp T.B_raised .nil pass0 (pa_cons (pe_ix (r := rIxL K) ix_list (pe_fld (pv 0) rfl) (pv 4) (fun _ _ => rfl)) (pa_cons pe_int pa_nil))) (pg_sub (pe_fld (pv 0) rfl) (pv 4) set_list))) pss_nil)
      (pss_cons (ps_if (pt_cmpR op_ne (pv 6) (pe_glob (v := .int 68) rfl h_LETTER_D ⟨_, rfl⟩) (nomark _)) (pss_one (ps_aug (i := 5) sc_Reads_pile.nd rfl (Or.inl rfl) pe_int ip_add)) pss_nil)
      (pss_one (ps_if (pt_cmpR op_ne (pv 6) (pe_glob (v := .int 73) rfl h_LETTER_I ⟨_, rfl⟩) (nomark _)) (pss_one (ps_aug (i := 4) sc_Reads_pile.nd rfl (Or.inl rfl) pe_int ip_add)) pss_nil)))))))), ?_⟩
    have hcn := hne qc (by simp)
    have hqn := hne qq (by simp)
    have hwn := hne qw (by simp)
    have pn : ∀ {H2 : Hp} {sp1}, ReadsAt a.C_Reads H2 p dx cA wA oA sp1 → p ≠ cA ∧ p ≠ wA ∧ p ≠ oA := fun {H2 sp1} R1 => by
      refine ⟨fun e => ?_, fun e => ?_, fun e => ?_⟩
      · have := R1.ob; rw [e, R1.c] at this; cases this
      · have := R1.ob; rw [e, R1.w] at this; cases this
      · have := R1.ob; rw [e, R1.o] at this; cases this
    refine ⟨_, rfl, qw, rfl, ⟨_, SqL.of hw⟩, for_list (K := K) (a := qw) (xs := ws.map V.int) (fun i' σ H2 => ∃ (v6 v7 : Option V) (sp1 : List Spot) (t pl : Nat), σ = [some (.ref p), some (.ref qc), some (.ref qq), some (.ref qw), some (.int pl), some (.int t), v6, v7] ∧ (∀ b o, H b = some o → b ≠ cA → b ≠ wA → b ≠ oA → H2 b = some o) ∧ ReadsAt a.C_Reads H2 p dx cA wA oA sp1 ∧ sp1.length = sp.length ∧ Sg42.walk (Sg42Neutral.bytesOf (ws.drop i')) ((cs.zip (quals qs)).drop t) pl sp1 = some sp')
      ⟨none, none, sp, 0, i, rfl, fun b o e _ _ _ => e, R, rfl, hwalk⟩ (fun i' σ H2 _ ⟨_, _, _, _, _, _, fr, _⟩ => SqL.of (fr _ _ hw hwn.1 hwn.2.1 hwn.2.2)) ?_ ?_⟩
    · rintro i' x σ H2 hx ⟨v6, v7, sp1, t, pl, rfl, fr, R1, hl1, hw1⟩
      rw [List.getElem?_map] at hx
      obtain ⟨z, hz, rfl⟩ := Option.map_eq_some_iff.mp hx
      obtain ⟨hil, hiz⟩ := List.getElem?_eq_some_iff.mp hz
      rw [List.drop_eq_getElem_cons hil, hiz] at hw1
      have hzb : 0 ≤ z ∧ z ≤ 255 := hby z (List.mem_of_getElem? hz)
      have pn1 := pn R1
      by_cases hok : okL z
      · rcases hok with e | e | e
        · -- M
          rw [walk_M e] at hw1
          subst e
          cases hr1 : (cs.zip (quals qs)).drop t with
          | nil => rw [hr1] at hw1; cases hw1
          | cons bq r' =>
          obtain ⟨b, q⟩ := bq
          cases hx1 : sp1[pl]? with
          | none => rw [hr1, hx1] at hw1; cases hw1
          | some x =>
          rw [hr1, hx1] at hw1
          dsimp only at hw1
          obtain ⟨hg, hd⟩ := drop_cons hr1
          obtain ⟨hcb, hqb⟩ := List.getElem?_zip_eq_some.mp hg
          have hqb' : (qs[t]?).map (fun c => c.toNat - 33) = some q := by
            have := hqb
            unfold quals at this
            rw [List.getElem?_map] at this
            exact this
          obtain ⟨y, hy, rfl⟩ := Option.map_eq_some_iff.mp hqb'
          have hy33 : 33 ≤ y := by
            have hh := List.findIdx?_eq_none_iff.mp (show qs.findIdx? (fun x => decide (x < 33 ∨ 126 < x)) = none from hbq) y (List.mem_of_getElem? hy)
            have := of_decide_eq_false hh
            omega
          have hb4 := hc4 b (List.mem_of_getElem? hcb)
          have hf4 := R1.four x (List.mem_of_getElem? hx1)
          have hpl := (List.getElem?_eq_some_iff.mp hx1).1
          obtain ⟨c0, hc0⟩ : ∃ c0, x.counts[b]? = some c0 := ⟨_, List.getElem?_eq_getElem (by omega)⟩
          obtain ⟨w0, hw0⟩ : ∃ w0, x.weights[b]? = some w0 := ⟨_, List.getElem?_eq_getElem (by omega)⟩
          have gC : (allC sp1)[4 * pl + b]? = some c0 := by
            unfold allC
            rw [fm_get (fun x hx => (R1.four x hx).1) hx1 hb4]
            exact hc0
          have gW : (allW sp1)[4 * pl + b]? = some w0 := by
            unfold allW
            rw [fm_get (fun x hx => (R1.four x hx).2) hx1 hb4]
            exact hw0
          rw [List.getD_eq_getElem?_getD, List.getD_eq_getElem?_getD, hc0, hw0] at hw1
          simp only [Option.getD_some] at hw1
          refine ⟨_, rfl, rfl, _, rfl, iteT ?_⟩
          refine ⟨_, rfl, _, _, rfl, rfl, .inl ⟨by decide, by decide⟩, _, rfl, _, rfl, qc, _, _, _, rfl, rfl, SqL.of (fr _ _ hc hcn.1 hcn.2.1 hcn.2.2), at_of rfl (natV_get hcb), _, _, rfl, rfl, ?_⟩
          dsimp only
          rw [show (4 : Int) * ((pl : Nat) : Int) + ((b : Nat) : Int) = ((4 * pl + b : Nat) : Int) by omega]
          refine ⟨_, rfl, p, a.C_Reads, dx, _, _, rfl, R1.ob, T.cl_Reads, T.n_Reads_counts, rf_counts _ _ _ _, _, rfl, cA, _, _, _, rfl, rfl, SqL.of R1.c, at_of rfl (natV_get gC), c0, 1, rfl, ?_⟩
          refine ⟨_, rfl, p, a.C_Reads, dx, _, _, rfl, R1.ob, T.cl_Reads, T.n_Reads_counts, rf_counts _ _ _ _, _, rfl, cA, _, _, 4 * pl + b, rfl, rfl, R1.c, ixN_nat rfl (by rw [natV_len]; exact (List.getElem?_eq_some_iff.mp gC).1), ?_⟩
          have ob1 : upd H2 cA (.lst ((natV (allC sp1)).set (4 * pl + b) (V.int (Sg42.held (c0 + 1) : Nat)))) p = some (.ins a.C_Reads dx (rf sp1.length cA wA oA)) := by rw [upd_ne pn1.1]; exact R1.ob
          have ow1 : upd H2 cA (.lst ((natV (allC sp1)).set (4 * pl + b) (V.int (Sg42.held (c0 + 1) : Nat)))) wA = some (.lst (natV (allW sp1))) := by rw [upd_ne R1.cw.symm]; exact R1.w
          have oq1 : upd H2 cA (.lst ((natV (allC sp1)).set (4 * pl + b) (V.int (Sg42.held (c0 + 1) : Nat)))) qq = some (.lst (qs.map V.int)) := by rw [upd_ne hqn.1]; exact fr _ _ hq hqn.1 hqn.2.1 hqn.2.2
          refine ⟨_, rfl, p, a.C_Reads, dx, _, _, rfl, ob1, T.cl_Reads, T.n_Reads_weights, rf_weights _ _ _ _, _, rfl, wA, _, _, _, rfl, rfl, SqL.of ow1, at_of rfl (natV_get gW), _, rfl, _, rfl, qq, _, _, _, rfl, rfl, SqL.of oq1, at_of rfl (by rw [List.getElem?_map, hy]; rfl), _, _, rfl, rfl, w0, y.toNat - 33, ?_, ?_⟩
          · show [V.int ((w0 : Nat) : Int), V.int (y - 33)] = _
            rw [show y - 33 = ((y.toNat - 33 : Nat) : Int) by omega]
          refine ⟨_, rfl, p, a.C_Reads, dx, _, _, rfl, ob1, T.cl_Reads, T.n_Reads_weights, rf_weights _ _ _ _, _, rfl, wA, _, _, 4 * pl + b, rfl, rfl, ow1, ixN_nat rfl (by rw [natV_len]; exact (List.getElem?_eq_some_iff.mp gW).1), ?_⟩
          refine ⟨_, rfl, rfl, _, rfl, iteF ?_⟩
          refine ⟨_, rfl, rfl, _, rfl, iteT ?_⟩
          refine ⟨_, rfl, _, _, rfl, rfl, ?_⟩
          refine ⟨_, rfl, rfl, _, rfl, iteT ?_⟩
          refine ⟨_, rfl, _, _, rfl, rfl, ?_⟩
          rw [hd.symm] at hw1
          refine ⟨_, _, _, t + 1, pl + 1, rfl, fun b' o e h1 h2 h3 => ?_, ⟨?_, ?_, ?_, ?_, R1.cw, R1.co, R1.wo, four_set R1.four ?_⟩, by rw [List.length_set]; exact hl1, hw1⟩
          · rw [upd_ne h2, upd_ne h1]; exact fr _ _ e h1 h2 h3
          · rw [upd_ne pn1.2.1, List.length_set]; exact ob1
          · rw [upd_ne R1.cw, upd_same, natV_set]
            unfold allC
            rw [fm_set (x' := ⟨x.counts.set b (Sg42.held (c0 + 1)), x.weights.set b (Sg42.held (w0 + (y.toNat - 33))), x.gaps⟩) (fun x hx => (R1.four x hx).1) hx1 hb4 rfl]
          · rw [upd_same, natV_set]
            unfold allW
            rw [fm_set (x' := ⟨x.counts.set b (Sg42.held (c0 + 1)), x.weights.set b (Sg42.held (w0 + (y.toNat - 33))), x.gaps⟩) (fun x hx => (R1.four x hx).2) hx1 hb4 rfl]
          · rw [upd_ne R1.wo.symm, upd_ne R1.co.symm, R1.o, g_keep (x' := ⟨x.counts.set b (Sg42.held (c0 + 1)), x.weights.set b (Sg42.held (w0 + (y.toNat - 33))), x.gaps⟩) hx1 rfl]
          · dsimp only
            rw [List.length_set, List.length_set]; exact hf4
        · -- I
          rw [walk_I e] at hw1
          subst e
          cases hr1 : (cs.zip (quals qs)).drop t with
          | nil => rw [hr1] at hw1; cases hw1
          | cons bq r' =>
          rw [hr1] at hw1
          dsimp only at hw1
          obtain ⟨hg, hd⟩ := drop_cons hr1
          rw [hd.symm] at hw1
          refine ⟨_, rfl, rfl, _, rfl, iteF ?_⟩
          refine ⟨_, rfl, rfl, _, rfl, iteF ?_⟩
          refine ⟨_, rfl, rfl, _, rfl, iteT ?_⟩
          refine ⟨_, rfl, _, _, rfl, rfl, ?_⟩
          refine ⟨_, rfl, rfl, _, rfl, iteF ?_⟩
          exact ⟨_, _, sp1, t + 1, pl, rfl, fr, R1, hl1, hw1⟩
        · -- D
          rw [walk_D e] at hw1
          subst e
          cases hx1 : sp1[pl]? with
          | none => rw [hx1] at hw1; cases hw1
          | some x =>
          rw [hx1] at hw1
          dsimp only at hw1
          have hf4 := R1.four x (List.mem_of_getElem? hx1)
          have eg : (allG sp1)[pl]? = some x.gaps := by
            unfold allG
            rw [List.getElem?_map, hx1]
            rfl
          refine ⟨_, rfl, rfl, _, rfl, iteF ?_⟩
          refine ⟨_, rfl, rfl, _, rfl, iteT ?_⟩
          refine ⟨_, rfl, p, a.C_Reads, dx, _, _, rfl, R1.ob, T.cl_Reads, T.n_Reads_over, rf_over _ _ _ _, _, rfl, oA, _, _, _, rfl, rfl, SqL.of R1.o, at_of rfl (natV_get eg), x.gaps, 1, rfl, ?_⟩
          refine ⟨_, rfl, p, a.C_Reads, dx, _, _, rfl, R1.ob, T.cl_Reads, T.n_Reads_over, rf_over _ _ _ _, _, rfl, oA, _, _, pl, rfl, rfl, R1.o, ixN_nat rfl (by rw [natV_len]; exact (List.getElem?_eq_some_iff.mp eg).1), ?_⟩
          refine ⟨_, rfl, rfl, _, rfl, iteF ?_⟩
          refine ⟨_, rfl, rfl, _, rfl, iteT ?_⟩
          refine ⟨_, rfl, _, _, rfl, rfl, ?_⟩
          refine ⟨_, _, sp1.set pl { x with gaps := Sg42.held (x.gaps + 1) }, t, pl + 1, rfl, fun b' o e h1 h2 h3 => ?_, ⟨?_, ?_, ?_, ?_, R1.cw, R1.co, R1.wo, four_set R1.four hf4⟩, by rw [List.length_set]; exact hl1, hw1⟩
          · rw [upd_ne h3]; exact fr _ _ e h1 h2 h3
          · rw [upd_ne pn1.2.2, List.length_set]; exact R1.ob
          · rw [upd_ne R1.co, R1.c]
            unfold allC
            rw [fm_keep (x' := { x with gaps := Sg42.held (x.gaps + 1) }) hx1 rfl]
          · rw [upd_ne R1.wo, R1.w]
            unfold allW
            rw [fm_keep (x' := { x with gaps := Sg42.held (x.gaps + 1) }) hx1 rfl]
          · rw [upd_same, natV_set]
            unfold allG
            rw [List.map_set]
      · rw [walk_no hzb hok] at hw1
        cases hw1
    · rintro σ H2 ⟨v6, v7, sp1, t, pl, rfl, fr, R1, hl1, hw1⟩
      rw [List.length_map, List.drop_length, walk_nil] at hw1
      split at hw1
      · cases hw1
        exact k H2 fr R1
      · cases hw1
theorem sc_Reads_depth_at : FnScope ["self", "place"] ["self", "place"] (defScope s_Reads_depth_at) := ⟨rfl, rfl, rfl, by decide +kernel, rfl, by decide +kernel, by decide +kernel⟩
theorem cut_four {sp : List Spot} {f : Spot → List Nat} (hf : ∀ x ∈ sp, (f x).length = 4) {i : Nat} {x : Spot} (hx : sp[i]? = some x) : cutV (natV (sp.flatMap f)) (some (4 * ((i : Nat) : Int))) (some (4 * ((i : Nat) : Int) + 4)) = natV (f x) := by
  rw [cut_both _ (by omega) (by omega), natV_drop, natV_take, show (4 * ((i : Nat) : Int)).toNat = 4 * i by omega, show (4 * ((i : Nat) : Int) + 4 - 4 * ((i : Nat) : Int)).toNat = 4 by omega, fm_cut hf hx]
theorem ok_Reads_depth_at (T : Txt K mg a) : FnOk P w K mg bh CX0 1 a.f_Reads_depth_at a.d_Reads_depth_at ["self", "place"] (sp_Reads_depth_at a.C_Reads K) := by
  refine T.F_Reads_depth_at.ok sc_Reads_depth_at (fun vs H Q E h => ?_) (fun cdv A outer s H vs Q E hr h => ?_)
  · obtain ⟨p, dx, cA, wA, oA, sp, i, x, rfl, _⟩ := h
    rfl
  · obtain ⟨p, dx, cA, wA, oA, sp, i, x, rfl, R, hx, hl, k⟩ := h
    refine ⟨_, (pss_one (ps_ret (pe_op op_add (pe_callB (cr_sum rfl) (by rfl) T.b_sum PyProof.Rows.boot_sum (pa_cons (pe_slice (r := rSlL K) sl_list (pe_fld (pv 0) rfl) (po_some (pe_op op_mul pe_int (pv 1))) (po_some (pe_op op_add (pe_op op_mul pe_int (pv 1)) pe_int))) pa_nil)) (pe_ix (r := rIxL K) ix_list (pe_fld (pv 0) rfl) (pv 1) (fun _ _ => rfl))))), ?_⟩
    refine ⟨_, rfl, p, a.C_Reads, dx, _, _, rfl, R.ob, T.cl_Reads, T.n_Reads_counts, rf_counts _ _ _ _, _, rfl, _, _, rfl, rfl, .inl ⟨by decide, by decide⟩, _, rfl, _, rfl, _, _, rfl, rfl, .inl ⟨by decide, by decide⟩, _, _, rfl, rfl, _, rfl, cA, _, rfl, SqL.of R.c, fun q hq => ?_⟩
    have ec := cut_four (f := fun x : Spot => x.counts) (fun x hx => (R.four x hx).1) hx
    have ec' : cutV (natV (allC sp)) (some (4 * ((i : Nat) : Int))) (some (4 * ((i : Nat) : Int) + 4)) = natV x.counts := ec
    rw [ec']
    have s1 : Same H (upd H q (.lst (natV x.counts))) := Br.Same.upd_new hq
    have R1 := R.same s1
    have eg : (allG sp)[i]? = some x.gaps := by
      unfold allG
      rw [List.getElem?_map, hx]
      rfl
    refine ⟨q, x.counts.map fun (n : Nat) => (n : Int), rfl, SqL.of upd_same, _, rfl, p, a.C_Reads, dx, _, _, rfl, R1.ob, T.cl_Reads, T.n_Reads_over, rf_over _ _ _ _, _, rfl, oA, _, _, _, rfl, rfl, SqL.of R1.o, at_of rfl (natV_get eg), _, _, rfl, rfl, ?_⟩
    dsimp only
    rw [sum_cast, ← Int.natCast_add]
    exact k _ s1
theorem sc_Reads_said_at : FnScope ["self", "place", "depth", "weights"] ["self", "place"] (defScope s_Reads_said_at) := ⟨rfl, rfl, rfl, by decide +kernel, rfl, by decide +kernel, by decide +kernel⟩
theorem flat_nat (l : List Nat) : (natV l).all flatV = true := by
  rw [List.all_eq_true]
  intro v hv
  obtain ⟨j, hj⟩ := List.mem_iff_getElem?.mp hv
  obtain ⟨x, _, rfl⟩ := get_natV hj
  rfl
theorem capital {b : Nat} (h : b < 4) : ([.int 65, .int 67, .int 71, .int 84] : List V)[b]? = some (V.int (letterI b)) := by
  match b, h with
  | 0, _ => rfl
  | 1, _ => rfl
  | 2, _ => rfl
  | 3, _ => rfl
theorem ok_Reads_said_at (T : Txt K mg a) : FnOk P w K mg bh CX0 2 a.f_Reads_said_at a.d_Reads_said_at ["self", "place"] (sp_Reads_said_at a.C_Reads K) := by
  obtain ⟨_, h_LETTER_N⟩ := T.c_LETTER_N
  obtain ⟨_, h_LETTER_OVER⟩ := T.c_LETTER_OVER
  refine T.F_Reads_said_at.ok sc_Reads_said_at (fun vs H Q E h => ?_) (fun cdv A outer s H vs Q E hr h => ?_)
  · obtain ⟨p, dx, cA, wA, oA, sp, i, x, rfl, _⟩ := h
    rfl
  · obtain ⟨p, dx, cA, wA, oA, sp, i, x, rfl, R, hx, hl, k⟩ := h
    refine ⟨_, (pss_cons (ps_set (i := 2) sc_Reads_said_at.nd rfl (Or.inl rfl) (pe_meth (pl := _) (pv 0) T.cl_Reads T.m_Reads_depth_at (ok_Reads_depth_at T) (hr.mono (by decide)) T.B_Reads_depth_at .nil pass0 (pa_cons (pv 1) pa_nil)))
      (pss_cons (ps_if (pt_cmpR op_eq (pv 2) pe_int (nomark _)) (pss_one (ps_ret (pe_glob (v := .int 78) rfl h_LETTER_N ⟨_, rfl⟩))) pss_nil)
      (pss_cons (ps_if (pt_cmpR op_gt (pe_op op_mul pe_int (pe_ix (r := rIxL K) ix_list (pe_fld (pv 0) rfl) (pv 1) (fun _ _ => rfl))) (pv 2) (nomark _)) (pss_one (ps_ret (pe_glob (v := .int 45) rfl h_LETTER_OVER ⟨_, rfl⟩))) pss_nil)
      (pss_cons (ps_set (i := 3) sc_Reads_said_at.nd rfl (Or.inl rfl) (pe_slice (r := rSlL K) sl_list (pe_fld (pv 0) rfl) (po_some (pe_op op_mul pe_int (pv 1))) (po_some (pe_op op_add (pe_op op_mul pe_int (pv 1)) pe_int))))
      (pss_one (ps_ret (pe_ix (r := rIxT K) ix_tup (pe_glob (v := .ref a.t_CAPITALS) rfl T.g_CAPITALS rfl) (pe_bm PySem.F.plainAttrs_list PySem.F.slot_list_index PySem.F.type_list_index mt_index (pv 3) (pa_cons (pe_callB (cr_max rfl) (by rfl) T.b_max PyProof.Rows.boot_max (pa_cons (pv 3) pa_nil)) pa_nil)) (fun _ _ => rfl)))))))), ?_⟩
    have h4 := (R.four x (List.mem_of_getElem? hx)).2
    -- the greatest weight's first place
    obtain ⟨j, m, hj, hm, hf⟩ : ∃ j m, x.weights[j]? = some m ∧ (∀ y ∈ x.weights, y ≤ m) ∧ ∀ i y, i < j → x.weights[i]? = some y → y ≠ m := by
      obtain ⟨a1, a2, a3⟩ := foldl_max_spec x.weights 0
      have hmem : x.weights.foldl max 0 ∈ x.weights := by
        rcases a3 with e | e
        · have h0 : x.weights[0]? = some x.weights[0] := List.getElem?_eq_getElem (by omega)
          have := a2 _ (List.mem_of_getElem? h0)
          rw [show x.weights.foldl max 0 = x.weights[0] by omega]
          exact List.mem_of_getElem? h0
        · exact e
      cases e : x.weights.findIdx? fun n => n == x.weights.foldl max 0 with
      | none =>
        have := List.findIdx?_eq_none_iff.mp e _ hmem
        simp at this
      | some j =>
        obtain ⟨hk, he, hff⟩ := List.findIdx?_eq_some_iff_getElem.mp e
        have he' : x.weights[j] = x.weights.foldl max 0 := by simpa using he
        refine ⟨j, _, List.getElem?_eq_getElem hk, fun y hy => by rw [he']; exact a2 y hy, fun i y hi hy => ?_⟩
        obtain ⟨hil, hiy⟩ := List.getElem?_eq_some_iff.mp hy
        have := hff i hi
        rw [he', ← hiy]
        simpa using this
    have hjl := (List.getElem?_eq_some_iff.mp hj).1
    have said := said_eq h4 hj hm hf
    refine ⟨_, rfl, p, dx, _, rfl, R.ob, rf_no _ _ _ _ (by decide +kernel) (by decide +kernel) (by decide +kernel) (by decide +kernel), _, rfl, p, dx, cA, wA, oA, sp, i, x, rfl, R, hx, hl, fun H1 s1 => ?_⟩
    have R1 := R.same s1
    have kk := k H1 s1
    rw [show (((Sg42.said x).toNat : Nat) : Int) = _ from said] at kk
    refine ⟨_, rfl, rfl, _, rfl, ite2 (fun h => ?_) (fun h => ?_)⟩
    · have h' := V.int.inj (of_decide_eq_true h)
      rw [if_pos (by omega)] at kk
      exact kk
    have h' : ¬ Sg42.depth x = 0 := fun e => h (decide_eq_true (by rw [e]; rfl))
    rw [if_neg h'] at kk
    have eg : (allG sp)[i]? = some x.gaps := by
      unfold allG
      rw [List.getElem?_map, hx]
      rfl
    refine ⟨_, rfl, p, a.C_Reads, dx, _, _, rfl, R1.ob, T.cl_Reads, T.n_Reads_over, rf_over _ _ _ _, _, rfl, oA, _, _, _, rfl, rfl, SqL.of R1.o, at_of rfl (natV_get eg), _, _, rfl, rfl, .inl ⟨by decide, by decide⟩, _, rfl, _, _, rfl, rfl, _, rfl, ite2 (fun h2 => ?_) (fun h2 => ?_)⟩
    · have h2' : ((Sg42.depth x : Nat) : Int) < 2 * ((x.gaps : Nat) : Int) := of_decide_eq_true h2
      rw [if_pos (by omega)] at kk
      exact kk
    have h2' : ¬ ((Sg42.depth x : Nat) : Int) < 2 * ((x.gaps : Nat) : Int) := fun z => h2 (decide_eq_true z)
    rw [if_neg (by omega)] at kk
    refine ⟨_, rfl, p, a.C_Reads, dx, _, _, rfl, R1.ob, T.cl_Reads, T.n_Reads_weights, rf_weights _ _ _ _, _, rfl, _, _, rfl, rfl, .inl ⟨by decide, by decide⟩, _, rfl, _, rfl, _, _, rfl, rfl, .inl ⟨by decide, by decide⟩, _, _, rfl, rfl, _, rfl, wA, _, rfl, SqL.of R1.w, fun q hq => ?_⟩
    have ec : cutV (natV (allW sp)) (some (4 * ((i : Nat) : Int))) (some (4 * ((i : Nat) : Int) + 4)) = natV x.weights := cut_four (f := fun x : Spot => x.weights) (fun x hx => (R.four x hx).2) hx
    rw [ec]
    have s2 : Same H (upd H1 q (.lst (natV x.weights))) := Br.Same.upd2 s1 (s1.free hq)
    have kk2 := k _ s2
    rw [show (((Sg42.said x).toNat : Nat) : Int) = _ from said, if_neg h', if_neg (by omega)] at kk2
    refine ⟨_, rfl, .inl ⟨rfl, _, SqL.of upd_same⟩, _, rfl, q, x.weights.map fun (n : Nat) => (n : Int), rfl, SqL.of upd_same, by rw [List.length_map]; omega, fun M hM hle => ?_⟩
    have eM : M = ((m : Nat) : Int) := by
      obtain ⟨M', hM', rfl⟩ := List.mem_map.mp hM
      have b1 := hm M' hM'
      have b2 := hle _ (List.mem_map_of_mem (List.mem_of_getElem? hj))
      have : (M' : Int) = (m : Int) := by
        have b2' : ((m : Nat) : Int) ≤ ((M' : Nat) : Int) := b2
        omega
      exact this
    subst eM
    refine ⟨q, natV x.weights, V.int ((m : Nat) : Int), j, V.int ((m : Nat) : Int), rfl, rfl, SqL.of upd_same, rfl, flat_nat _, natV_get hj, by show (decide _ : Bool) = true; simp, ?_, ?_⟩
    · intro i' z hi' hz
      obtain ⟨y', hy', rfl⟩ := get_natV hz
      have hne := hf i' y' hi' hy'
      show (decide (((y' : Nat) : Int) = ((m : Nat) : Int)) : Bool) = false
      exact decide_eq_false fun e => hne (by omega)
    · exact ⟨a.t_CAPITALS, _, _, _, rfl, rfl, T.v_CAPITALS _, at_of rfl (capital (by omega)), kk2⟩
end
end Py

/-! Scores; the worths behind a row of worths. -/
namespace Py
open PySem L2 Br Gr
open Sg42 (Scores score)
def sf (s : Scores) : List (Str × V) := [("alike", .int (s.alike : Int)), ("unlike", .int (s.unlike : Int)), ("gap", .int (s.gap : Int)), ("more", .int (s.more : Int))]
section
variable (s : Scores)
theorem sf_alike : (sf s).lookup ("alike" : Str) = some (.int (s.alike : Int)) := look_hit _ _ _
theorem sf_unlike : (sf s).lookup ("unlike" : Str) = some (.int (s.unlike : Int)) := by
  unfold sf
  rw [look_miss (by decide +kernel), look_hit]
theorem sf_gap : (sf s).lookup ("gap" : Str) = some (.int (s.gap : Int)) := by
  unfold sf
  rw [look_miss (by decide +kernel), look_miss (by decide +kernel), look_hit]
theorem sf_more : (sf s).lookup ("more" : Str) = some (.int (s.more : Int)) := by
  unfold sf
  rw [look_miss (by decide +kernel), look_miss (by decide +kernel), look_miss (by decide +kernel), look_hit]
theorem sf_no {m : Str} (h1 : ¬ m = "alike") (h2 : ¬ m = "unlike") (h3 : ¬ m = "gap") (h4 : ¬ m = "more") : (sf s).lookup m = none := by
  unfold sf
  rw [look_miss h1, look_miss h2, look_miss h3, look_miss h4]
  rfl
theorem sf_row : (sf s).lookup ("row" : Str) = none := sf_no s (by decide +kernel) (by decide +kernel) (by decide +kernel) (by decide +kernel)
theorem sf_pair : (sf s).lookup ("pair" : Str) = none := sf_no s (by decide +kernel) (by decide +kernel) (by decide +kernel) (by decide +kernel)
end
def hrow (s : Scores) (A B : Nat → Nat) (n j : Nat) : List V := (List.range (n + 1)).map fun i => V.int (hv s A B i j)
def drow (s : Scores) (A B : Nat → Nat) (n j : Nat) : List V := (List.range n).map fun i => V.int (dv s A B (i + 1) j)
def prow (s : Scores) (A : Nat → Nat) (n y : Nat) : List V := (List.range n).map fun i => V.int (score s (A i) y)
theorem hrow_len (s A B) (n j : Nat) : (hrow s A B n j).length = n + 1 := by unfold hrow; simp
theorem drow_len (s A B) (n j : Nat) : (drow s A B n j).length = n := by unfold drow; simp
theorem prow_len (s A) (n y : Nat) : (prow s A n y).length = n := by unfold prow; simp
theorem hrow_get (s A B) {n i : Nat} (j : Nat) (h : i ≤ n) : (hrow s A B n j)[i]? = some (V.int (hv s A B i j)) := by
  unfold hrow
  rw [List.getElem?_map, List.getElem?_range (by omega)]
  rfl
theorem drow_get (s A B) {n i : Nat} (j : Nat) (h : i < n) : (drow s A B n j)[i]? = some (V.int (dv s A B (i + 1) j)) := by
  unfold drow
  rw [List.getElem?_map, List.getElem?_range h]
  rfl
theorem prow_get (s A) {n i : Nat} (y : Nat) (h : i < n) : (prow s A n y)[i]? = some (V.int (score s (A i) y)) := by
  unfold prow
  rw [List.getElem?_map, List.getElem?_range h]
  rfl
theorem hrow_succ (s A B) (n j : Nat) : hrow s A B (n + 1) j = hrow s A B n j ++ [V.int (hv s A B (n + 1) j)] := by
  unfold hrow
  rw [List.range_succ, List.map_append]
  rfl
theorem drow_succ (s A B) (n j : Nat) : drow s A B (n + 1) j = drow s A B n j ++ [V.int (dv s A B (n + 1) j)] := by
  unfold drow
  rw [List.range_succ, List.map_append]
  rfl
theorem prow_succ (s A) (n y : Nat) : prow s A (n + 1) y = prow s A n y ++ [V.int (score s (A n) y)] := by
  unfold prow
  rw [List.range_succ, List.map_append]
  rfl
def sp_Scores_init (C : Addr) (K : PySem.W.Frag) : Sp := fun vs H Q _ => ∃ (p dx : Addr) (s : Scores), vs = [.ref p, .int (s.alike : Int), .int (s.unlike : Int), .int (s.gap : Int), .int (s.more : Int)] ∧ H p = some (.ins C dx []) ∧
  ∀ H' : Hp, (∀ b o, H b = some o → b ≠ p → H' b = some o) → H' p = some (.ins C dx (sf s)) → Q .non H'
def sp_Scores_pair (C : Addr) (K : PySem.W.Frag) : Sp := fun vs H Q _ => ∃ (p dx : Addr) (s : Scores) (x y : Nat), vs = [.ref p, .int x, .int y] ∧ H p = some (.ins C dx (sf s)) ∧ Q (.int (score s x y)) H
def sp_Scores_row (C : Addr) (K : PySem.W.Frag) : Sp := fun vs H Q _ => ∃ (p dx : Addr) (s : Scores) (L : Nat), vs = [.ref p, .int L] ∧ H p = some (.ins C dx (sf s)) ∧ s.more ≤ 127 ∧ Q (.int (s.gap + s.more * (L : Int))) H
def sp_worths_behind (C : Addr) (K : PySem.W.Frag) : Sp := fun vs H Q _ => ∃ (bA eA pA p dx : Addr) (s : Scores) (A B : Nat → Nat) (n j : Nat), vs = [.ref bA, .ref eA, .ref pA, .ref p] ∧ H p = some (.ins C dx (sf s)) ∧ SqL K H bA (hrow s A B n j) ∧ SqL K H eA (drow s A B n j) ∧ SqL K H pA (prow s A n (B j)) ∧ s.gap ≤ 127 ∧ s.more ≤ 127 ∧ n ≤ 1024 ∧
  ∀ (t wA dA : Addr) (H' : Hp), Same H H' → H wA = none → H dA = none → H' t = some (.tup [.ref wA, .ref dA]) → H' wA = some (.lst (hrow s A B n (j + 1))) → H' dA = some (.lst (drow s A B n (j + 1))) → Q (.ref t) H'
section
variable {P : Program} {w : World} {K : PySem.W.Frag} {mg : Str → Option Value} {bh : Heap} {a : Adr}
theorem sc_Scores_init : FnScope ["self", "alike", "unlike", "gap", "more"] ["self", "alike", "unlike", "gap", "more"] (defScope s_Scores_init) := ⟨rfl, rfl, rfl, by decide +kernel, rfl, by decide +kernel, by decide +kernel⟩
theorem ok_Scores_init (T : Txt K mg a) : FnOk P w K mg bh CX0 1 a.f_Scores_init a.d_Scores_init ["self", "alike", "unlike", "gap", "more"] (sp_Scores_init a.C_Scores K) := by
  refine T.F_Scores_init.ok sc_Scores_init (fun vs H Q E h => ?_) (fun cdv A outer s H vs Q E hr h => ?_)
  · obtain ⟨p, dx, s, rfl, _⟩ := h
    rfl
  · obtain ⟨p, dx, s, rfl, hp, k⟩ := h
    refine ⟨_, (pss_cons (ps_fld (pv 0) (pv 1) rfl)
      (pss_cons (ps_fld (pv 0) (pv 2) rfl)
      (pss_cons (ps_fld (pv 0) (pv 3) rfl)
      (pss_one (ps_fld (pv 0) (pv 4) rfl))))), ?_⟩
    refine ⟨_, rfl, _, rfl, p, a.C_Scores, dx, _, rfl, hp, T.cl_Scores, T.n_Scores_alike, by show 0 < 1000; decide, ?_⟩
    rw [put_nil]
    refine ⟨_, rfl, _, rfl, p, a.C_Scores, dx, _, rfl, upd_same, T.cl_Scores, T.n_Scores_unlike, by show 1 < 1000; decide, ?_⟩
    rw [upd_upd, put_miss (by decide +kernel), put_nil]
    refine ⟨_, rfl, _, rfl, p, a.C_Scores, dx, _, rfl, upd_same, T.cl_Scores, T.n_Scores_gap, by show 2 < 1000; decide, ?_⟩
    rw [upd_upd, put_miss (by decide +kernel), put_miss (by decide +kernel), put_nil]
    refine ⟨_, rfl, _, rfl, p, a.C_Scores, dx, _, rfl, upd_same, T.cl_Scores, T.n_Scores_more, by show 3 < 1000; decide, ?_⟩
    rw [upd_upd, put_miss (by decide +kernel), put_miss (by decide +kernel), put_miss (by decide +kernel), put_nil]
    exact k _ (fun b o e hb => by rw [upd_ne hb]; exact e) upd_same
theorem sc_Scores_pair : FnScope ["self", "x", "y"] ["self", "x", "y"] (defScope s_Scores_pair) := ⟨rfl, rfl, rfl, by decide +kernel, rfl, by decide +kernel, by decide +kernel⟩
theorem ok_Scores_pair (T : Txt K mg a) : FnOk P w K mg bh CX0 1 a.f_Scores_pair a.d_Scores_pair ["self", "x", "y"] (sp_Scores_pair a.C_Scores K) := by
  refine T.F_Scores_pair.ok sc_Scores_pair (fun vs H Q E h => ?_) (fun cdv A outer s H vs Q E hr h => ?_)
  · obtain ⟨p, dx, s, x, y, rfl, _⟩ := h
    rfl
  · obtain ⟨p, dx, s, x, y, rfl, hp, k⟩ := h
    refine ⟨_, (pss_cons (ps_if (pt_cmpR op_eq (pv 1) (pv 2) (nomark _)) (pss_one (ps_ret (pe_fld (pv 0) rfl))) pss_nil)
      (pss_one (ps_ret (pe_un un_neg (pe_fld (pv 0) rfl))))), ?_⟩
    unfold score at k
    refine ⟨_, rfl, _, rfl, rfl, _, rfl, ite2 (fun h => ?_) (fun h => ?_)⟩
    · have h' := V.int.inj (of_decide_eq_true h)
      rw [if_pos (by omega)] at k
      exact ⟨_, rfl, p, a.C_Scores, dx, _, _, rfl, hp, T.cl_Scores, T.n_Scores_alike, sf_alike s, k⟩
    · have h' : ¬ x = y := fun e => h (decide_eq_true (by rw [e]))
      rw [if_neg h'] at k
      exact ⟨_, rfl, p, a.C_Scores, dx, _, _, rfl, hp, T.cl_Scores, T.n_Scores_unlike, sf_unlike s, _, rfl, k⟩
theorem sc_Scores_row : FnScope ["self", "length"] ["self", "length"] (defScope s_Scores_row) := ⟨rfl, rfl, rfl, by decide +kernel, rfl, by decide +kernel, by decide +kernel⟩
theorem ok_Scores_row (T : Txt K mg a) : FnOk P w K mg bh CX0 1 a.f_Scores_row a.d_Scores_row ["self", "length"] (sp_Scores_row a.C_Scores K) := by
  refine T.F_Scores_row.ok sc_Scores_row (fun vs H Q E h => ?_) (fun cdv A outer s H vs Q E hr h => ?_)
  · obtain ⟨p, dx, s, L, rfl, _⟩ := h
    rfl
  · obtain ⟨p, dx, s, L, rfl, hp, hm, k⟩ := h
    refine ⟨_, (pss_one (ps_ret (pe_op op_add (pe_fld (pv 0) rfl) (pe_op op_mul (pe_fld (pv 0) rfl) (pv 1))))), ?_⟩
    exact ⟨_, rfl, p, a.C_Scores, dx, _, _, rfl, hp, T.cl_Scores, T.n_Scores_gap, sf_gap s, _, rfl, p, a.C_Scores, dx, _, _, rfl, hp, T.cl_Scores, T.n_Scores_more, sf_more s, _, rfl, _, _, rfl, rfl, .inl ⟨by omega, by omega⟩, _, _, rfl, rfl, k⟩
theorem sc_worths_behind : FnScope ["before", "ends_in_d", "pairs", "scores", "more", "first", "worth", "in_i", "worths", "ends", "pair", "corner", "ahead", "in_d"] ["before", "ends_in_d", "pairs", "scores"] (defScope s_worths_behind) := ⟨rfl, rfl, rfl, by decide +kernel, rfl, by decide +kernel, by decide +kernel⟩
set_option maxHeartbeats 400000 in
theorem ok_worths_behind (T : Txt K mg a) : FnOk P w K mg bh CX0 2 a.f_worths_behind a.d_worths_behind ["before", "ends_in_d", "pairs", "scores"] (sp_worths_behind a.C_Scores K) := by
  refine T.F_worths_behind.ok sc_worths_behind (fun vs H Q E h => ?_) (fun cdv A outer s H vs Q E hr h => ?_)
  · obtain ⟨bA, eA, pA, p, dx, s, A, B, n, j, rfl, _⟩ := h
    rfl
  · obtain ⟨bA, eA, pA, p, dx, s, A, B, n, j, rfl, hp, hb, he, hpr, hg, hm, hn, k⟩ := h
    refine ⟨_, (pss_cons (ps_set (i := 4) sc_worths_behind.nd rfl (Or.inl rfl) (pe_fld (pv 3) rfl))
      (pss_cons (ps_set (i := 5) sc_worths_behind.nd rfl (Or.inl rfl) (pe_meth (pl := _) (pv 3) T.cl_Scores T.m_Scores_row (ok_Scores_row T) (hr.mono (by decide)) T.B_Scores_row .nil pass0 (pa_cons pe_int pa_nil)))
      (pss_cons (ps_set (i := 6) sc_worths_behind.nd rfl (Or.inl rfl) pe_int)
      (pss_cons (ps_set (i := 7) sc_worths_behind.nd rfl (Or.inl rfl) (pe_un un_neg (pe_fld (pv 3) rfl)))
      (pss_cons (ps_set (i := 8) sc_worths_behind.nd rfl (Or.inl rfl) (pe_lst (pa_cons pe_int pa_nil)))
      (pss_cons (ps_set (i := 9) sc_worths_behind.nd rfl (Or.inl rfl) (pe_lst pa_nil))
      (pss_cons (ps_for PassesOwn.never rfl (pi_zip4 rfl T.b_zip (pa_cons (pv 2) (pa_cons (pv 0) (pa_cons (pe_slice (r := rSlL K) sl_list (pv 0) (po_some pe_int) po_none) (pa_cons (pv 1) pa_nil))))) (pg_tup rfl (pgs_cons (pg_name (i := 10) sc_worths_behind.nd rfl (Or.inl rfl)) (pgs_cons (pg_name (i := 11) sc_worths_behind.nd rfl (Or.inl rfl)) (pgs_cons (pg_name (i := 12) sc_worths_behind.nd rfl (Or.inl rfl)) (pgs_cons (pg_name (i := 13) sc_worths_behind.nd rfl (Or.inl rfl)) pgs_nil)))))
        (pss_cons (ps_aug (i := 13) sc_worths_behind.nd rfl (Or.inl rfl) (pv 4) ip_sub)
      (pss_cons (ps_if (pt_cmpR op_lt (pv 13) (pe_op op_sub (pv 12) (pv 5)) (nomark _)) (pss_one (ps_set (i := 13) sc_worths_behind.nd rfl (Or.inl rfl) (pe_op op_sub (pv 12) (pv 5)))) pss_nil)
      (pss_cons (ps_aug (i := 7) sc_worths_behind.nd rfl (Or.inl rfl) (pv 4) ip_sub)
      (pss_cons (ps_if (pt_cmpR op_lt (pv 7) (pe_op op_sub (pv 6) (pv 5)) (nomark _)) (pss_one (ps_set (i := 7) sc_worths_behind.nd rfl (Or.inl rfl) (pe_op op_sub (pv 6) (pv 5)))) pss_nil)
      (pss_cons (ps_set (i := 6) sc_worths_behind.nd rfl (Or.inl rfl) (pe_op op_add (pv 11) (pv 10)))
      (pss_cons (ps_if (pt_cmpR op_lt (pv 6) (pv 13) (nomark _)) (pss_one (ps_set (i := 6) sc_worths_behind.nd rfl (Or.inl rfl) (pv 13))) pss_nil)
      (pss_cons (ps_if (pt_cmpR op_lt (pv 6) (pv 7) (nomark _)) (pss_one (ps_set (i := 6) sc_worths_behind.nd rfl (Or.inl rfl) (pv 7))) pss_nil)
      (pss_cons (ps_if (pt_cmpR op_lt (pv 6) pe_int (nomark _)) (pss_one (ps_set (i := 6) sc_worths_behind.nd rfl (Or.inl rfl) pe_int)) pss_nil)
      (pss_cons (ps_expr (pe_bm PySem.F.plainAttrs_list PySem.F.slot_list_append PySem.F.type_list_append mt_append (pv 8) (pa_cons (pv 6) pa_nil)))
      (pss_one (ps_expr (pe_bm PySem.F.plainAttrs_list PySem.F.slot_list_append PySem.F.type_list_append mt_append (pv 9) (pa_cons (pv 13) pa_nil))))))))))))))
      (pss_one (ps_ret (pe_tup (pa_cons (pv 8) (pa_cons (pv 9) pa_nil)))))))))))), ?_⟩
    have hsz := sizeIs
    refine ⟨_, rfl, p, a.C_Scores, dx, _, _, rfl, hp, T.cl_Scores, T.n_Scores_more, sf_more s, ?_⟩
    refine ⟨_, rfl, p, dx, _, rfl, hp, sf_row s, p, dx, s, 1, rfl, hp, hm, ?_⟩
    refine ⟨_, rfl, p, a.C_Scores, dx, _, _, rfl, hp, T.cl_Scores, T.n_Scores_gap, sf_gap s, _, rfl, ?_⟩
    refine ⟨by show 1 ≤ sizeLine; decide, fun wA hwA => ?_⟩
    have s1 : Same H (upd H wA (.lst [V.int 0])) := Br.Same.upd_new hwA
    refine ⟨Nat.zero_le _, fun dA hdA => ?_⟩
    have nwd : wA ≠ dA := ne_of_none upd_same hdA
    have dH : H dA = none := s1.free hdA
    have s2 : Same H (upd (upd H wA (.lst [V.int 0])) dA (.lst [])) := Br.Same.upd2 s1 dH
    have w2 : upd (upd H wA (.lst [V.int 0])) dA (.lst []) wA = some (.lst [V.int 0]) := by rw [upd_ne nwd, upd_same]
    have d2 : upd (upd H wA (.lst [V.int 0])) dA (.lst []) dA = some (.lst []) := upd_same
    generalize upd (upd H wA (.lst [V.int 0])) dA (.lst []) = H2 at s2 w2 d2
    refine ⟨_, rfl, _, rfl, _, rfl, _, rfl, bA, _, rfl, s2.seq hb, fun q hq => ?_⟩
    have hq2 : upd H2 q (.lst (cutV (hrow s A B n j) (some 1) none)) q = some (.lst ((hrow s A B n j).drop 1)) := by
      rw [upd_same, cut_drop _ (by decide)]
      rfl
    have s3 : Same H (upd H2 q (.lst (cutV (hrow s A B n j) (some 1) none))) := Br.Same.upd2 s2 (s2.free hq)
    have w3 : upd H2 q (.lst (cutV (hrow s A B n j) (some 1) none)) wA = some (.lst [V.int 0]) := by rw [upd_ne (ne_of_none w2 hq)]; exact w2
    have d3 : upd H2 q (.lst (cutV (hrow s A B n j) (some 1) none)) dA = some (.lst []) := by rw [upd_ne (ne_of_none d2 hq)]; exact d2
    have nqw : q ≠ wA := (ne_of_none w2 hq).symm
    have nqd : q ≠ dA := (ne_of_none d2 hq).symm
    generalize upd H2 q (.lst (cutV (hrow s A B n j) (some 1) none)) = H3 at hq2 s3 w3 d3
    refine ⟨_, rfl, pA, bA, q, eA, _, _, _, _, rfl, s3.seq hpr, s3.seq hb, SqL.of hq2, s3.seq he, for_zip4 (K := K) (a := pA) (b := bA) (c := q) (d := eA) (xs := prow s A n (B j)) (ys := hrow s A B n j) (zs := (hrow s A B n j).drop 1) (ws := drow s A B n j)
      (fun t σ H4 => ∃ v10 v11 v12 v13, σ = [some (.ref bA), some (.ref eA), some (.ref pA), some (.ref p), some (.int (s.more : Int)), some (.int (s.gap + s.more * 1)), some (.int (hv s A B t (j + 1))), some (.int (iv s A B t (j + 1))), some (.ref wA), some (.ref dA), v10, v11, v12, v13] ∧ Same H H4 ∧ H4 q = some (.lst ((hrow s A B n j).drop 1)) ∧ H4 wA = some (.lst (hrow s A B t (j + 1))) ∧ H4 dA = some (.lst (drow s A B t (j + 1))))
      (by rw [prow_len, hrow_len]; omega) (by rw [prow_len, List.length_drop, hrow_len]; omega) (by rw [prow_len, drow_len]; omega)
      ⟨none, none, none, none, by rw [hv_0j]; rfl, s3, hq2, by rw [w3]; unfold hrow; rw [List.range_succ]; show _ = some (HO.lst [V.int (hv s A B 0 (j + 1))]); rw [hv_0j], d3⟩
      (fun t σ H4 _ ⟨_, _, _, _, _, s4, q4, _⟩ => ⟨s4.seq hpr, s4.seq hb, SqL.of q4, s4.seq he⟩) ?_ ?_⟩
    · rintro t x1 x2 x3 x4 σ H4 T0 g1 g2 g3 g4 ⟨v10, v11, v12, v13, rfl, s4, q4, w4, d4⟩ hT
      have ht : t < n := by
        have := (List.getElem?_eq_some_iff.mp g1).1
        rw [prow_len] at this
        exact this
      rw [prow_get s A _ ht] at g1
      rw [hrow_get s A B j (by omega)] at g2
      rw [List.getElem?_drop, hrow_get s A B j (by omega)] at g3
      rw [drow_get s A B j ht] at g4
      cases g1; cases g2; cases g3; cases g4
      rw [Nat.add_comm 1 t]
      have s5 : Same H (upd H4 T0 (.tup [V.int (score s (A t) (B j)), V.int (hv s A B t j), V.int (hv s A B (t + 1) j), V.int (dv s A B (t + 1) j)])) := Br.Same.upd2 s4 (s4.free hT)
      have q5 : upd H4 T0 (.tup [V.int (score s (A t) (B j)), V.int (hv s A B t j), V.int (hv s A B (t + 1) j), V.int (dv s A B (t + 1) j)]) q = some (.lst ((hrow s A B n j).drop 1)) := by rw [upd_ne (ne_of_none q4 hT)]; exact q4
      have w5 : upd H4 T0 (.tup [V.int (score s (A t) (B j)), V.int (hv s A B t j), V.int (hv s A B (t + 1) j), V.int (dv s A B (t + 1) j)]) wA = some (.lst (hrow s A B t (j + 1))) := by rw [upd_ne (ne_of_none w4 hT)]; exact w4
      have d5 : upd H4 T0 (.tup [V.int (score s (A t) (B j)), V.int (hv s A B t j), V.int (hv s A B (t + 1) j), V.int (dv s A B (t + 1) j)]) dA = some (.lst (drow s A B t (j + 1))) := by rw [upd_ne (ne_of_none d4 hT)]; exact d4
      refine ⟨T0, _, rfl, SqT.of upd_same, rfl, _, _, rfl, _, _, rfl, _, _, rfl, _, _, rfl, rfl, ?_⟩
      generalize upd H4 T0 (.tup [V.int (score s (A t) (B j)), V.int (hv s A B t j), V.int (hv s A B (t + 1) j), V.int (dv s A B (t + 1) j)]) = H5 at s5 q5 w5 d5
      have e1 := dv_step (a := A) (b := B) hg t j
      have e2 := iv_step (a := A) (b := B) hg t j
      have e3 := hv_step (s := s) (a := A) (b := B) t j
      refine ⟨_, rfl, _, rfl, _, _, rfl, rfl, ?_⟩
      -- in_d
      refine ⟨_, rfl, _, rfl, _, rfl, _, _, rfl, rfl, _, _, rfl, rfl, _, rfl, ?_⟩
      obtain ⟨md, hmd⟩ : ∃ md, md = dv s A B (t + 1) (j + 1) := ⟨_, rfl⟩
      obtain ⟨mi, hmi⟩ : ∃ mi, mi = iv s A B (t + 1) (j + 1) := ⟨_, rfl⟩
      obtain ⟨m1, hm1⟩ : ∃ m1, m1 = max (hv s A B t j + score s (A t) (B j)) md := ⟨_, rfl⟩
      obtain ⟨m2, hm2⟩ : ∃ m2, m2 = max m1 mi := ⟨_, rfl⟩
      obtain ⟨m3, hm3⟩ : ∃ m3, m3 = hv s A B (t + 1) (j + 1) := ⟨_, rfl⟩
      obtain ⟨bb1, aa1⟩ := max_d (hmd.trans e1)
      obtain ⟨bb2, aa2⟩ := max_d (hmi.trans e2)
      obtain ⟨bb3, aa3⟩ := max_d hm1
      obtain ⟨bb4, aa4⟩ := max_d hm2
      obtain ⟨bb5, aa5⟩ := max_h (m3 := m3) hm1 hm2 (by rw [hm3, hmd, hmi]; exact e3)
      refine if_either (G := ?G1) ?g1 (fun h g => ?a1) (fun h g => ?b1)
      case b1 =>
        dsimp only
        rw [bb1 fun z => h (decide_eq_true z)]
        exact g
      case a1 =>
        refine ⟨_, rfl, _, rfl, _, _, rfl, rfl, ?_⟩
        rw [aa1 (of_decide_eq_true h)] at g
        exact g
      refine ⟨_, rfl, _, rfl, _, _, rfl, rfl, ?_⟩
      -- in_i
      refine ⟨_, rfl, _, rfl, _, rfl, _, _, rfl, rfl, _, _, rfl, rfl, _, rfl, ?_⟩
      refine if_either (G := ?G2) ?g2 (fun h g => ?a2) (fun h g => ?b2)
      case b2 =>
        dsimp only
        rw [bb2 fun z => h (decide_eq_true z)]
        exact g
      case a2 =>
        refine ⟨_, rfl, _, rfl, _, _, rfl, rfl, ?_⟩
        rw [aa2 (of_decide_eq_true h)] at g
        exact g
      refine ⟨_, rfl, _, rfl, _, _, rfl, rfl, ?_⟩
      -- worth
      refine ⟨_, rfl, _, rfl, _, _, rfl, rfl, _, rfl, ?_⟩
      refine if_either (G := ?G3) ?g3 (fun h g => ?a3) (fun h g => ?b3)
      case b3 =>
        dsimp only
        rw [bb3 fun z => h (decide_eq_true z)]
        exact g
      case a3 =>
        refine ⟨_, rfl, ?_⟩
        rw [aa3 (of_decide_eq_true h)] at g
        exact g
      refine ⟨_, rfl, _, rfl, _, _, rfl, rfl, _, rfl, ?_⟩
      refine if_either (G := ?G4) ?g4 (fun h g => ?a4) (fun h g => ?b4)
      case b4 =>
        dsimp only
        rw [bb4 fun z => h (decide_eq_true z)]
        exact g
      case a4 =>
        refine ⟨_, rfl, ?_⟩
        rw [aa4 (of_decide_eq_true h)] at g
        exact g
      refine ⟨_, rfl, _, _, rfl, rfl, _, rfl, ?_⟩
      refine if_either (G := ?G5) ?g5 (fun h g => ?a5) (fun h g => ?b5)
      case b5 =>
        dsimp only
        rw [bb5 fun z => h (decide_eq_true z)]
        exact g
      case a5 =>
        rw [aa5 (of_decide_eq_true h)] at g
        exact g
      rw [hm3, hmd, hmi]
      have lw := hrow_len s A B t (j + 1)
      have ld := drow_len s A B t (j + 1)
      refine ⟨_, rfl, .inl ⟨rfl, _, SqL.of w5⟩, _, rfl, wA, _, _, rfl, rfl, w5, by omega, ?_⟩
      have d6 : upd H5 wA (.lst (hrow s A B t (j + 1) ++ [V.int (hv s A B (t + 1) (j + 1))])) dA = some (.lst (drow s A B t (j + 1))) := by rw [upd_ne nwd.symm]; exact d5
      refine ⟨_, rfl, .inl ⟨rfl, _, SqL.of d6⟩, _, rfl, dA, _, _, rfl, rfl, d6, by omega, ?_⟩
      refine ⟨_, _, _, _, rfl, Br.Same.upd2 (Br.Same.upd2 s5 hwA) dH, ?_, ?_, ?_⟩
      · rw [upd_ne nqd, upd_ne nqw]; exact q5
      · rw [upd_ne nwd, upd_same, hrow_succ]
      · rw [upd_same, drow_succ]
    · rintro σ H4 ⟨v10, v11, v12, v13, rfl, s4, q4, w4, d4⟩
      rw [prow_len] at w4 d4
      refine ⟨_, rfl, _, rfl, by show 2 ≤ sizeLine; decide, fun t ht => ?_⟩
      exact k t wA dA _ (Br.Same.upd2 s4 (s4.free ht)) hwA dH upd_same (by rw [upd_ne (ne_of_none w4 ht)]; exact w4) (by rw [upd_ne (ne_of_none d4 ht)]; exact d4)
end
end Py

/-! All worths. -/
namespace Py
open PySem L2 Br Gr
open Sg42 (Scores score)
/-- rows that stand at places of their own -/
structure Rows (H : Hp) (l : Addr) (rs : List Addr) (m : Nat) (f : Nat → List V) : Prop where
  at_ : H l = some (.lst (rs.map V.ref))
  len : rs.length = m
  row : ∀ j q, rs[j]? = some q → q ≠ l ∧ H q = some (.lst (f j))
theorem Rows.same {H H' : Hp} {l : Addr} {rs : List Addr} {m : Nat} {f : Nat → List V} (R : Rows H l rs m f) (s : Same H H') : Rows H' l rs m f := ⟨s _ _ R.at_, R.len, fun j q h => ⟨(R.row j q h).1, s _ _ (R.row j q h).2⟩⟩
theorem Rows.snoc {H : Hp} {l q : Addr} {rs : List Addr} {m : Nat} {f : Nat → List V} (R : Rows H l rs m f) (hq : q ≠ l) (g : H q = some (.lst (f m))) : Rows (L2.upd H l (.lst (rs.map V.ref ++ [V.ref q]))) l (rs ++ [q]) (m + 1) f := by
  refine ⟨by rw [upd_same, List.map_append]; rfl, by rw [List.length_append, R.len]; rfl, fun j x h => ?_⟩
  by_cases c : j < rs.length
  · rw [List.getElem?_append_left c] at h
    obtain ⟨h1, h2⟩ := R.row j x h
    exact ⟨h1, by rw [upd_ne h1]; exact h2⟩
  · have hl := (List.getElem?_eq_some_iff.mp h).1
    rw [List.length_append] at hl
    have : j = rs.length := by
      have : [q].length = 1 := rfl
      omega
    rw [this, List.getElem?_append_right (Nat.le_refl _), Nat.sub_self] at h
    cases h
    refine ⟨hq, ?_⟩
    rw [upd_ne hq, g, this, R.len]
theorem Rows.get {H : Hp} {l : Addr} {rs : List Addr} {m : Nat} {f : Nat → List V} (R : Rows H l rs m f) {j : Nat} (hj : j < m) : ∃ q, rs[j]? = some q ∧ (rs.map V.ref)[j]? = some (V.ref q) ∧ q ≠ l ∧ H q = some (.lst (f j)) := by
  have e : rs[j]? = some (rs[j]'(by rw [R.len]; exact hj)) := List.getElem?_eq_getElem _
  refine ⟨_, e, by rw [List.getElem?_map, e]; rfl, (R.row j _ e).1, (R.row j _ e).2⟩
/-- the table of all worths -/
def TabAt (H : Hp) (l : Addr) (rs : List Addr) (s : Scores) (as bs : List Nat) : Prop := Rows H l rs (bs.length + 1) fun j => hrow s (as.getD · 0) (bs.getD · 0) as.length j
def sp_all_worths (C : Addr) (K : PySem.W.Frag) : Sp := fun vs H Q _ => ∃ (qa qb p dx : Addr) (s : Scores) (as bs : List Nat), vs = [.ref qa, .ref qb, .ref p] ∧ H p = some (.ins C dx (sf s)) ∧ SqL K H qa (natV as) ∧ SqL K H qb (natV bs) ∧ (∀ x ∈ bs, x < 4) ∧ s.gap ≤ 127 ∧ s.more ≤ 127 ∧ as.length ≤ 1024 ∧ bs.length ≤ 1024 ∧
  ∀ (r : Addr) (rs : List Addr) (H' : Hp), Same H H' → TabAt H' r rs s as bs → Q (.ref r) H'
theorem reps (k : Nat) (v : V) : (List.replicate k [v]).flatten = List.replicate k v := by
  induction k with
  | zero => rfl
  | succ k ih =>
    rw [List.replicate_succ, List.flatten_cons, ih]
    rfl
theorem drow_0 (s A B) (n : Nat) : drow s A B n 0 = List.replicate n (V.int (-(s.gap : Int))) := by
  unfold drow
  refine List.ext_getElem (by simp) fun i h1 h2 => ?_
  rw [List.getElem_map, List.getElem_replicate]
  rfl
theorem hrow_0 (s A B) (n : Nat) : hrow s A B n 0 = List.replicate (n + 1) (V.int 0) := by
  unfold hrow
  refine List.ext_getElem (by simp) fun i h1 h2 => ?_
  rw [List.getElem_map, List.getElem_replicate, hv_i0]
section
variable {P : Program} {w : World} {K : PySem.W.Frag} {mg : Str → Option Value} {bh : Heap} {a : Adr}
theorem sc_all_worths : FnScope ["a", "b", "scores", "pairs_with", "base", "x", "ends_in_d", "worths", "behind"] ["a", "b", "scores"] (defScope s_all_worths) := ⟨rfl, rfl, rfl, by decide +kernel, rfl, by decide +kernel, by decide +kernel⟩
set_option maxHeartbeats 2000000 in
theorem ok_all_worths (T : Txt K mg a) : FnOk P w K mg bh CX0 3 a.f_all_worths a.d_all_worths ["a", "b", "scores"] (sp_all_worths a.C_Scores K) := by
  refine T.F_all_worths.ok sc_all_worths (fun vs H Q E h => ?_) (fun cdv A outer s H vs Q E hr h => ?_)
  · obtain ⟨qa, qb, p, dx, s, as, bs, rfl, _⟩ := h
    rfl
  · obtain ⟨qa, qb, p, dx, s, as, bs, rfl, hp, ha, hb, hb4, hg, hm, hn, hl, k⟩ := h
    refine ⟨_, (pss_cons (ps_set (i := 3) sc_all_worths.nd rfl (Or.inl rfl) (pe_lst pa_nil))
      (pss_cons (ps_for PassesOwn.never rfl (pi_range1 rfl T.b_range (pa_cons pe_int pa_nil)) (pg_name (i := 4) sc_all_worths.nd rfl (Or.inr rfl))
        (pss_one (ps_expr (pe_bm PySem.F.plainAttrs_list PySem.F.slot_list_append PySem.F.type_list_append mt_append (pv 3) (pa_cons (pe_lc (own := [("x", 5)]) rfl sc_all_worths.nd (pi_list (pv 0)) (blkOk_by (N := ["a", "b", "scores", "pairs_with", "base", "x", "ends_in_d", "worths", "behind"]) (sc := defScope s_all_worths) (by decide +kernel)) (fun _ _ _ _ _ => (pg_name (i := 5) sc_all_worths.nd rfl (Or.inl rfl))) (fun _ _ _ _ _ => pts_nil)
        (fun _ _ _ _ _ => (pe_meth (pl := _) (pv 2) T.cl_Scores T.m_Scores_pair (ok_Scores_pair T) (hr.mono (by decide)) T.B_Scores_pair .nil pass0 (pa_cons (pv 5) (pa_cons (pv 4) pa_nil))))) pa_nil)))))
      (pss_cons (ps_set (i := 6) sc_all_worths.nd rfl (Or.inl rfl) (pe_op op_rep (pe_lst (pa_cons (pe_un un_neg (pe_fld (pv 2) rfl)) pa_nil)) (pe_callB (call_len_seq) (by rfl) T.b_len PySem.boot_len (pa_cons (pv 0) pa_nil))))
      (pss_cons (ps_set (i := 7) sc_all_worths.nd rfl (Or.inl rfl) (pe_lst (pa_cons (pe_op op_rep (pe_lst (pa_cons pe_int pa_nil)) (pe_op op_add (pe_callB (call_len_seq) (by rfl) T.b_len PySem.boot_len (pa_cons (pv 0) pa_nil)) pe_int)) pa_nil)))
      (pss_cons (ps_for PassesOwn.never rfl (pi_list (pv 1)) (pg_name (i := 4) sc_all_worths.nd rfl (Or.inr rfl))
        (pss_cons (ps_set (i := 8) sc_all_worths.nd rfl (Or.inl rfl) (pe_call (ok_worths_behind T) (hr.mono (by decide)) rfl T.g_worths_behind T.F_worths_behind.kp T.B_worths_behind .nil pass0 (pa_cons (pe_ix (r := rIxL K) ix_list (pv 7) (pe_un un_neg pe_int) (fun _ _ => rfl)) (pa_cons (pv 6) (pa_cons (pe_ix (r := rIxL K) ix_list (pv 3) (pv 4) (fun _ _ => rfl)) (pa_cons (pv 2) pa_nil))))))
      (pss_cons (ps_expr (pe_bm PySem.F.plainAttrs_list PySem.F.slot_list_append PySem.F.type_list_append mt_append (pv 7) (pa_cons (pe_ix (r := rIxT K) ix_tup (pv 8) pe_int (fun _ _ => rfl)) pa_nil)))
      (pss_one (ps_set (i := 6) sc_all_worths.nd rfl (Or.inl rfl) (pe_ix (r := rIxT K) ix_tup (pv 8) pe_int (fun _ _ => rfl)))))))
      (pss_one (ps_ret (pv 7)))))))), ?_⟩
    have hsz := sizeIs
    refine ⟨Nat.zero_le _, fun pw hpw => ?_⟩
    have s0 : Same H (upd H pw (.lst [])) := Br.Same.upd_new hpw
    refine ⟨4, rfl, by decide, by decide, for_range (lo := 0) (n := 4) (fun t σ H2 => ∃ v4 qs, σ = [some (.ref qa), some (.ref qb), some (.ref p), some (.ref pw), v4, none, none, none, none] ∧ Same H H2 ∧ Rows H2 pw qs t fun y => prow s (as.getD · 0) as.length y)
      ⟨none, [], rfl, s0, ⟨upd_same, rfl, fun j q h => by cases h⟩⟩ ?_ ?_⟩
    · rintro t σ H2 ht ⟨v4, qs, rfl, s2, R2⟩
      refine ⟨_, rfl, .inl ⟨rfl, _, SqL.of R2.at_⟩, _, rfl, qa, rfl, ⟨_, s2.seq ha⟩, fun D hD => lc_list (K := K) (a := qa) (xs := natV as) (fun i H3 => Same H2 H3 ∧ H3 D = some (.lst (prow s (as.getD · 0) i t))) ⟨Br.Same.upd_new hD, by rw [upd_same]; rfl⟩ (fun i H3 _ h3 => h3.1.seq (s2.seq ha)) ?_ ?_⟩
      · rintro i x H3 hx ⟨s3, hD3⟩
        obtain ⟨c, hc, rfl⟩ := get_natV hx
        have hi := (List.getElem?_eq_some_iff.mp hc).1
        have ec : as.getD i 0 = c := by rw [List.getD_eq_getElem?_getD, hc]; rfl
        refine ⟨rfl, ?_⟩
        refine ⟨_, rfl, p, dx, _, rfl, s3 _ _ (s2 _ _ hp), sf_pair s, _, rfl, _, rfl, p, dx, s, c, t, ?_, s3 _ _ (s2 _ _ hp), _, hD3, ?_, Br.Same.upd2 s3 hD, ?_⟩
        · show [V.ref p, V.int ((c : Nat) : Int), V.int (0 + ((t : Nat) : Int))] = _
          rw [Int.zero_add]
        · rw [prow_len, hsz]
          omega
        · rw [upd_same, prow_succ, ec]
      · rintro H3 ⟨s3, hD3⟩
        rw [natV_len] at hD3
        have R3 := R2.same s3
        have hDp : D ≠ pw := (ne_of_none R2.at_ hD).symm
        refine ⟨pw, _, _, rfl, rfl, R3.at_, by rw [List.length_map, R3.len]; omega, _, _, rfl, Br.Same.upd2 (s2.trans s3) hpw, R3.snoc hDp hD3⟩
    · rintro σ H2 ⟨v4, qs, rfl, s2, R2⟩
      refine ⟨_, rfl, p, a.C_Scores, dx, _, _, rfl, s2 _ _ hp, T.cl_Scores, T.n_Scores_gap, sf_gap s, _, rfl, by show 1 ≤ sizeLine; decide, fun l0 hl0 => ?_⟩
      have s3 : Same H2 (upd H2 l0 (.lst [V.int (-(s.gap : Int))])) := Br.Same.upd_new hl0
      refine ⟨_, rfl, qa, _, rfl, .inl ((s2.trans s3).seq ha), l0, _, _, rfl, rfl, upd_same, ?_⟩
      rw [natV_len]
      refine ⟨by omega, by omega, by show 1 * _ ≤ _; omega, fun e0 he0 => ?_⟩
      rw [Int.toNat_natCast, reps, ← drow_0 s (as.getD · 0) (bs.getD · 0)]
      have s4 : Same H2 (upd (upd H2 l0 (.lst [V.int (-(s.gap : Int))])) e0 (.lst (drow s (as.getD · 0) (bs.getD · 0) as.length 0))) := Br.Same.upd2 s3 (s3.free he0)
      have ge0 : upd (upd H2 l0 (.lst [V.int (-(s.gap : Int))])) e0 (.lst (drow s (as.getD · 0) (bs.getD · 0) as.length 0)) e0 = some (.lst (drow s (as.getD · 0) (bs.getD · 0) as.length 0)) := upd_same
      generalize upd (upd H2 l0 (.lst [V.int (-(s.gap : Int))])) e0 (.lst (drow s (as.getD · 0) (bs.getD · 0) as.length 0)) = H4 at s4 ge0
      refine ⟨by show 1 ≤ sizeLine; decide, fun l1 hl1 => ?_⟩
      have s5 : Same H4 (upd H4 l1 (.lst [V.int 0])) := Br.Same.upd_new hl1
      refine ⟨_, rfl, qa, _, rfl, .inl ((s2.trans (s4.trans s5)).seq ha), _, _, rfl, rfl, l1, _, _, rfl, rfl, upd_same, ?_⟩
      rw [natV_len]
      refine ⟨by omega, by omega, by show 1 * _ ≤ _; omega, fun r0 hr0 => ?_⟩
      rw [show (((as.length : Nat) : Int) + 1).toNat = as.length + 1 by omega, reps, ← hrow_0 s (as.getD · 0) (bs.getD · 0)]
      have s6 : Same H4 (upd (upd H4 l1 (.lst [V.int 0])) r0 (.lst (hrow s (as.getD · 0) (bs.getD · 0) as.length 0))) := Br.Same.upd2 s5 (s5.free hr0)
      have gr0 : upd (upd H4 l1 (.lst [V.int 0])) r0 (.lst (hrow s (as.getD · 0) (bs.getD · 0) as.length 0)) r0 = some (.lst (hrow s (as.getD · 0) (bs.getD · 0) as.length 0)) := upd_same
      generalize upd (upd H4 l1 (.lst [V.int 0])) r0 (.lst (hrow s (as.getD · 0) (bs.getD · 0) as.length 0)) = H6 at s6 gr0
      refine ⟨by show 1 ≤ sizeLine; decide, fun wl hwl => ?_⟩
      have s7 : Same H6 (upd H6 wl (.lst [V.ref r0])) := Br.Same.upd_new hwl
      have gwl : upd H6 wl (.lst [V.ref r0]) wl = some (.lst [V.ref r0]) := upd_same
      have nr0 : r0 ≠ wl := ne_of_none gr0 hwl
      generalize upd H6 wl (.lst [V.ref r0]) = H7 at s7 gwl
      have s26 : Same H2 H6 := s4.trans s6
      have wlH : H wl = none := (s2.trans s26).free hwl
      have pwl : pw ≠ wl := ne_of_none (s26 _ _ R2.at_) hwl
      have rowsne : ∀ j q, qs[j]? = some q → q ≠ wl := fun j q hq => ne_of_none (s26 _ _ (R2.row j q hq).2) hwl
      refine ⟨_, rfl, qb, rfl, ⟨_, (s2.trans (s26.trans s7)).seq hb⟩, for_list (K := K) (a := qb) (xs := natV bs) (fun t σ H8 => ∃ v4 v8 eA rs, σ = [some (.ref qa), some (.ref qb), some (.ref p), some (.ref pw), v4, none, some (.ref eA), some (.ref wl), v8] ∧ Same H H8 ∧ (∀ b o, H6 b = some o → b ≠ wl → H8 b = some o) ∧ eA ≠ wl ∧ H8 eA = some (.lst (drow s (as.getD · 0) (bs.getD · 0) as.length t)) ∧ Rows H8 wl rs (t + 1) fun j => hrow s (as.getD · 0) (bs.getD · 0) as.length j)
        ⟨_, none, e0, [r0], rfl, s2.trans (s26.trans s7), fun b o e _ => s7 _ _ e, ne_of_none (s6 _ _ ge0) hwl, s7 _ _ (s6 _ _ ge0), ⟨gwl, rfl, fun j q h => by
          cases j with
          | zero => cases h; exact ⟨nr0, s7 _ _ gr0⟩
          | succ j => simp at h⟩⟩ (fun t σ H8 _ ⟨_, _, _, _, _, s8, _⟩ => s8.seq hb) ?_ ?_⟩
      · rintro t x σ H8 hx ⟨v4, v8, eA, rs, rfl, s8, fr8, nea, gea, R8⟩
        obtain ⟨c, hc, rfl⟩ := get_natV hx
        have ht := (List.getElem?_eq_some_iff.mp hc).1
        have ec : bs.getD t 0 = c := by rw [List.getD_eq_getElem?_getD, hc]; rfl
        have hc4 := hb4 c (List.mem_of_getElem? hc)
        obtain ⟨ql, hql, hql2, hqln, gql⟩ := R8.get (j := t) (by omega)
        obtain ⟨qp, hqp, hqp2, hqpn, gqp⟩ := R2.get (j := c) hc4
        have gp8 : H8 pw = some (.lst (qs.map V.ref)) := fr8 _ _ (s26 _ _ R2.at_) pwl
        have gqp8 : H8 qp = some (.lst (prow s (as.getD · 0) as.length c)) := fr8 _ _ (s26 _ _ gqp) (rowsne c qp hqp)
        have eI : atI (rs.map V.ref) (-1) = some (V.ref ql) := by
          have hne : rs ≠ [] := fun e => by have := R8.len; rw [e] at this; simp at this
          obtain ⟨r', f, es⟩ : ∃ r' f, rs = r' ++ [f] := ⟨_, _, (List.dropLast_concat_getLast hne).symm⟩
          have hr' : r'.length = t := by
            have := R8.len
            rw [es] at this
            simp at this
            exact this
          rw [es, ← hr', List.getElem?_append_right (Nat.le_refl _), Nat.sub_self] at hql
          cases hql
          rw [es, List.map_append]
          exact atI_last _ _
        refine ⟨_, rfl, _, rfl, wl, _, _, _, rfl, rfl, SqL.of R8.at_, eI, _, rfl, _, rfl, _, rfl, pw, _, _, _, rfl, rfl, SqL.of gp8, at_of rfl hqp2, _, rfl, ?_⟩
        refine ⟨ql, eA, qp, p, dx, s, (as.getD · 0), (bs.getD · 0), as.length, t, rfl, s8 _ _ hp, SqL.of gql, SqL.of gea, ?_, hg, hm, hn, fun tt wA dA H9 s9 fw fd gt gw gd => ?_⟩
        · show SqL K H8 qp (prow s (as.getD · 0) as.length (bs.getD t 0))
          rw [ec]
          exact SqL.of gqp8
        have R9 := R8.same s9
        have nw : wA ≠ wl := (ne_of_none R8.at_ fw).symm
        have nd : dA ≠ wl := (ne_of_none R8.at_ fd).symm
        refine ⟨_, rfl, .inl ⟨rfl, _, SqL.of R9.at_⟩, _, rfl, tt, _, _, _, rfl, rfl, SqT.of gt, at_of (j := 0) rfl rfl, wl, _, _, rfl, rfl, R9.at_, by rw [List.length_map, R9.len]; omega, ?_⟩
        have gt' : upd H9 wl (.lst (rs.map V.ref ++ [V.ref wA])) tt = some (.tup [.ref wA, .ref dA]) := by
          rw [upd_ne (ne_of gt R9.at_ (by intro z; cases z))]; exact gt
        refine ⟨_, rfl, tt, _, _, _, rfl, rfl, SqT.of gt', at_of (j := 1) rfl rfl, ?_⟩
        refine ⟨_, _, dA, rs ++ [wA], rfl, Br.Same.upd2 (s8.trans s9) wlH, fun b o e hb' => by rw [upd_ne hb']; exact s9 _ _ (fr8 b o e hb'), nd, by rw [upd_ne nd]; exact gd, R9.snoc nw gw⟩
      · rintro σ H8 ⟨v4, v8, eA, rs, rfl, s8, fr8, nea, gea, R8⟩
        rw [natV_len] at R8
        exact ⟨_, rfl, k wl rs H8 s8 R8⟩
end
end Py

/-! The best end; the rows' lengths. -/
namespace Py
open PySem L2 Br Gr
open Sg42 (Scores score)
def hints (s : Scores) (A B : Nat → Nat) (n j : Nat) : List Int := (List.range (n + 1)).map fun i => hv s A B i j
theorem hrow_ints (s A B) (n j : Nat) : hrow s A B n j = (hints s A B n j).map V.int := by
  unfold hrow hints
  rw [List.map_map]
  rfl
theorem hints_len (s A B) (n j : Nat) : (hints s A B n j).length = n + 1 := by unfold hints; simp
theorem hints_get (s A B) {n i : Nat} (j : Nat) (h : i ≤ n) : (hints s A B n j)[i]? = some (hv s A B i j) := by
  unfold hints
  rw [List.getElem?_map, List.getElem?_range (by omega)]
  rfl
/-- the first place of a row's greatest -/
theorem first_of {l : List Int} {M : Int} (h : M ∈ l) : ∃ j : Nat, l[j]? = some M ∧ ∀ i y, i < j → l[i]? = some y → y ≠ M := by
  cases e : l.findIdx? fun n => n == M with
  | none =>
    have := List.findIdx?_eq_none_iff.mp e _ h
    simp at this
  | some j =>
    obtain ⟨hk, he, hff⟩ := List.findIdx?_eq_some_iff_getElem.mp e
    have he' : l[j] = M := by simpa using he
    refine ⟨j, by rw [List.getElem?_eq_getElem hk, he'], fun i y hi hy => ?_⟩
    obtain ⟨hil, hiy⟩ := List.getElem?_eq_some_iff.mp hy
    have := hff i hi
    rw [← hiy]
    simpa using this
/-- the ends looked at behind t rows -/
def endsT (n t : Nat) : List (Nat × Nat) := (List.range t).flatMap fun j => (List.range (n + 1)).map fun i => (i, j)
theorem endsT_succ (n t : Nat) : endsT n (t + 1) = endsT n t ++ (List.range (n + 1)).map fun i => (i, t) := by
  unfold endsT
  rw [List.range_succ (n := t), List.flatMap_append]
  simp
theorem row_cut (n t i : Nat) (h : i ≤ n) : (List.range (n + 1)).map (fun i => (i, t)) = (List.range i).map (fun i => (i, t)) ++ (i, t) :: (List.range' (i + 1) (n - i)).map fun i => (i, t) := by
  have : List.range (n + 1) = List.range i ++ i :: List.range' (i + 1) (n - i) := by
    rw [List.range_eq_range', List.range_eq_range', show n + 1 = i + (n - i + 1) by omega, ← List.range'_append_1, List.range'_succ]
    simp
  rw [this, List.map_append]
  rfl
abbrev hval (s : Scores) (A B : Nat → Nat) : Nat × Nat → Int := fun k => (cell s A B k.1 k.2).h
def sp_best_end (K : PySem.W.Frag) : Sp := fun vs H Q _ => ∃ (r : Addr) (rs : List Addr) (s : Scores) (as bs : List Nat), vs = [.ref r] ∧ TabAt H r rs s as bs ∧
  ∀ (t : Addr) (H' : Hp) (g : Int) (i j : Nat), Same H H' → H' t = some (.tup [.int (i : Nat), .int (j : Nat)]) → FirstBest (hval s (as.getD · 0) (bs.getD · 0)) (ends as.length bs.length) (0, 0) (g, (i, j)) → Q (.ref t) H'
def sp_length_of_d (C : Addr) (K : PySem.W.Frag) : Sp := fun vs H Q _ => ∃ (r p dx : Addr) (rs : List Addr) (s : Scores) (as bs : List Nat) (i j : Nat), vs = [.ref r, .int i, .int j, .ref p] ∧ TabAt H r rs s as bs ∧ H p = some (.ins C dx (sf s)) ∧ s.more ≤ 127 ∧ i ≤ as.length ∧ j ≤ bs.length ∧ bs.length ≤ 1024 ∧
  ∀ L : Nat, Least (fun L => hv s (as.getD · 0) (bs.getD · 0) i (j - L) - (s.gap + s.more * (L : Int)) = hv s (as.getD · 0) (bs.getD · 0) i j) j L → Q (.int (L : Nat)) H
def sp_length_of_i (C : Addr) (K : PySem.W.Frag) : Sp := fun vs H Q _ => ∃ (r p dx : Addr) (rs : List Addr) (s : Scores) (as bs : List Nat) (i j : Nat), vs = [.ref r, .int i, .int j, .ref p] ∧ TabAt H r rs s as bs ∧ H p = some (.ins C dx (sf s)) ∧ s.more ≤ 127 ∧ i ≤ as.length ∧ j ≤ bs.length ∧ as.length ≤ 1024 ∧
  ∀ L : Nat, Least (fun L => hv s (as.getD · 0) (bs.getD · 0) (i - L) j - (s.gap + s.more * (L : Int)) = hv s (as.getD · 0) (bs.getD · 0) i j) i L → Q (.int (L : Nat)) H
section
variable {P : Program} {w : World} {K : PySem.W.Frag} {mg : Str → Option Value} {bh : Heap} {a : Adr}
theorem sc_best_end : FnScope ["worths", "greatest", "end", "j", "row"] ["worths"] (defScope s_best_end) := ⟨rfl, rfl, rfl, by decide +kernel, rfl, by decide +kernel, by decide +kernel⟩
theorem flat_ints (l : List Int) : (l.map V.int).all flatV = true := by
  rw [List.all_eq_true]
  intro v hv
  obtain ⟨x, _, rfl⟩ := List.mem_map.mp hv
  rfl
set_option maxHeartbeats 2000000 in
theorem ok_best_end (T : Txt K mg a) : FnOk P w K mg bh CX0 1 a.f_best_end a.d_best_end ["worths"] (sp_best_end K) := by
  refine T.F_best_end.ok sc_best_end (fun vs H Q E h => ?_) (fun cdv A outer s H vs Q E hr h => ?_)
  · obtain ⟨r, rs, s, as, bs, rfl, _⟩ := h
    rfl
  · obtain ⟨r, rs, s, as, bs, rfl, hT, k⟩ := h
    refine ⟨_, (pss_cons (ps_set (i := 1) sc_best_end.nd rfl (Or.inl rfl) pe_int)
      (pss_cons (ps_set (i := 2) sc_best_end.nd rfl (Or.inl rfl) (pe_tup (pa_cons pe_int (pa_cons pe_int pa_nil))))
      (pss_cons (ps_for PassesOwn.never rfl (pi_enum rfl T.b_enumerate (pa_cons (pv 0) pa_nil)) (pg_tup rfl (pgs_cons (pg_name (i := 3) sc_best_end.nd rfl (Or.inl rfl)) (pgs_cons (pg_name (i := 4) sc_best_end.nd rfl (Or.inl rfl)) pgs_nil)))
        (pss_one (ps_if (pt_cmpR op_gt (pe_callB (cr_max rfl) (by rfl) T.b_max PyProof.Rows.boot_max (pa_cons (pv 4) pa_nil)) (pv 1) (nomark _)) (pss_cons (ps_set (i := 1) sc_best_end.nd rfl (Or.inl rfl) (pe_callB (cr_max rfl) (by rfl) T.b_max PyProof.Rows.boot_max (pa_cons (pv 4) pa_nil)))
      (pss_one (ps_set (i := 2) sc_best_end.nd rfl (Or.inl rfl) (pe_tup (pa_cons (pe_bm PySem.F.plainAttrs_list PySem.F.slot_list_index PySem.F.type_list_index mt_index (pv 4) (pa_cons (pv 1) pa_nil)) (pa_cons (pv 3) pa_nil)))))) pss_nil)))
      (pss_one (ps_ret (pv 2)))))), ?_⟩
    refine ⟨by show 2 ≤ sizeLine; decide, fun t0 ht0 => ?_⟩
    have s0 : Same H (upd H t0 (.tup [.int 0, .int 0])) := Br.Same.upd_new ht0
    refine ⟨_, rfl, r, _, rfl, SqL.of (s0 _ _ hT.at_), for_enum (K := K) (a := r) (xs := rs.map V.ref)
      (fun t σ H2 => ∃ v3 v4 g te i j, σ = [some (.ref r), some (.int g), some (.ref te), v3, v4] ∧ Same H H2 ∧ H2 te = some (.tup [.int ((i : Nat) : Int), .int ((j : Nat) : Int)]) ∧ FirstBest (hval s (as.getD · 0) (bs.getD · 0)) (endsT as.length t) (0, 0) (g, (i, j)))
      ⟨none, none, 0, t0, 0, 0, rfl, s0, upd_same, FirstBest.nil _ _⟩ (fun t σ H2 _ ⟨_, _, _, _, _, _, _, s2, _⟩ => SqL.of (s2 _ _ hT.at_)) ?_ ?_⟩
    · rintro t v σ H2 T0 hv' ⟨v3, v4, g, te, i, j, rfl, s2, gte, B⟩ hT0
      rw [List.getElem?_map] at hv'
      obtain ⟨q, hq, rfl⟩ := Option.map_eq_some_iff.mp hv'
      have ht : t < bs.length + 1 := by
        have := (List.getElem?_eq_some_iff.mp hq).1
        rw [hT.len] at this
        exact this
      have gq := (hT.row t q hq).2
      rw [hrow_ints] at gq
      have s3 : Same H (upd H2 T0 (.tup [.int (t : Nat), .ref q])) := Br.Same.upd2 s2 (s2.free hT0)
      have gte3 : upd H2 T0 (.tup [.int (t : Nat), .ref q]) te = some (.tup [.int ((i : Nat) : Int), .int ((j : Nat) : Int)]) := by rw [upd_ne (ne_of_none gte hT0)]; exact gte
      refine ⟨T0, _, rfl, SqT.of upd_same, rfl, _, _, rfl, _, _, rfl, rfl, ?_⟩
      generalize upd H2 T0 (.tup [.int (t : Nat), .ref q]) = H3 at s3 gte3
      have hq3 := SqL.of (K := K) (s3 _ _ gq)
      have hl1 := hints_len s (as.getD · 0) (bs.getD · 0) as.length t
      refine ⟨_, rfl, q, hints s (as.getD · 0) (bs.getD · 0) as.length t, rfl, hq3, by omega, fun M hM hle => ?_⟩
      refine ⟨_, rfl, _, _, rfl, rfl, _, rfl, ite2 (fun h => ?_) (fun h => ?_)⟩
      · have h' : g < M := of_decide_eq_true h
        refine ⟨_, rfl, q, hints s (as.getD · 0) (bs.getD · 0) as.length t, rfl, hq3, by omega, fun M2 hM2 hle2 => ?_⟩
        have eM : M2 = M := by
          have := hle2 _ hM
          have := hle _ hM2
          omega
        subst eM
        obtain ⟨f, hf, hff⟩ := first_of hM
        have hfn : f ≤ as.length := by
          have := (List.getElem?_eq_some_iff.mp hf).1
          omega
        have ef : hv s (as.getD · 0) (bs.getD · 0) f t = M2 := by
          have := hints_get s (as.getD · 0) (bs.getD · 0) t hfn
          rw [hf] at this
          exact (Option.some.inj this).symm
        refine ⟨_, rfl, .inl ⟨rfl, _, hq3⟩, _, rfl, q, _, V.int M2, f, V.int M2, rfl, rfl, hq3, rfl, flat_ints _, by rw [List.getElem?_map, hf]; rfl, by show (decide _ : Bool) = true; simp, ?_, _, rfl, by show 2 ≤ sizeLine; decide, fun t2 ht2 => ?_⟩
        · intro i' z hi' hz
          rw [List.getElem?_map] at hz
          obtain ⟨y, hy, rfl⟩ := Option.map_eq_some_iff.mp hz
          exact decide_eq_false (hff i' y hi' hy)
        · refine ⟨_, _, M2, t2, f, t, rfl, Br.Same.upd2 s3 (s3.free ht2), upd_same, ?_⟩
          rw [endsT_succ, row_cut _ _ _ hfn]
          have bnd : ∀ x, x ≤ as.length → hv s (as.getD · 0) (bs.getD · 0) x t ≤ M2 := fun x hx => hle _ (List.mem_of_getElem? (hints_get s (as.getD · 0) (bs.getD · 0) t hx))
          have ev : hval s (as.getD · 0) (bs.getD · 0) (f, t) = M2 := ef
          have BB := B.new (p := (List.range f).map fun i => (i, t)) (q := (List.range' (f + 1) (as.length - f)).map fun i => (i, t)) (k := (f, t)) (by rw [ev]; exact h') (fun x hx => by
            rw [ev]
            obtain ⟨i', hi', rfl⟩ := List.mem_map.mp hx
            have hi2 := List.mem_range.mp hi'
            have b1 := bnd i' (by omega)
            have b2 := hff i' _ hi2 (hints_get s (as.getD · 0) (bs.getD · 0) t (by omega))
            show hv s (as.getD · 0) (bs.getD · 0) i' t < M2
            omega) (fun x hx => by
            rw [ev]
            obtain ⟨i', hi', rfl⟩ := List.mem_map.mp hx
            obtain ⟨h1, h2⟩ := List.mem_range'_1.mp hi'
            exact bnd i' (by omega))
          rw [ev] at BB
          exact BB
      · have h' : ¬ g < M := fun z => h (decide_eq_true z)
        refine ⟨_, _, g, te, i, j, rfl, s3, gte3, ?_⟩
        rw [endsT_succ]
        refine B.more fun x hx => ?_
        obtain ⟨i', hi', rfl⟩ := List.mem_map.mp hx
        have hi2 := List.mem_range.mp hi'
        have := hle _ (List.mem_of_getElem? (hints_get s (as.getD · 0) (bs.getD · 0) t (show i' ≤ as.length by omega)))
        show hv s (as.getD · 0) (bs.getD · 0) i' t ≤ g
        omega
    · rintro σ H2 ⟨v3, v4, g, te, i, j, rfl, s2, gte, B⟩
      rw [List.length_map, hT.len] at B
      exact ⟨_, rfl, k te H2 g i j s2 gte B⟩
theorem sc_length_of_d : FnScope ["worths", "i", "j", "scores", "length"] ["worths", "i", "j", "scores"] (defScope s_length_of_d) := ⟨rfl, rfl, rfl, by decide +kernel, rfl, by decide +kernel, by decide +kernel⟩
theorem ok_length_of_d (T : Txt K mg a) : FnOk P w K mg bh CX0 2 a.f_length_of_d a.d_length_of_d ["worths", "i", "j", "scores"] (sp_length_of_d a.C_Scores K) := by
  refine T.F_length_of_d.ok sc_length_of_d (fun vs H Q E h => ?_) (fun cdv A outer s H vs Q E hr h => ?_)
  · obtain ⟨r, p, dx, rs, s, as, bs, i, j, rfl, _⟩ := h
    rfl
  · obtain ⟨r, p, dx, rs, s, as, bs, i, j, rfl, hT, hp, hm, hi, hj, hb, k⟩ := h
    refine ⟨_, (pss_cons (ps_for PassesOwn.never rfl (pi_range2 rfl T.b_range (pa_cons pe_int (pa_cons (pe_op op_add (pv 2) pe_int) pa_nil))) (pg_name (i := 4) sc_length_of_d.nd rfl (Or.inl rfl))
        (pss_one (ps_if (pt_cmpR op_eq (pe_op op_sub (pe_ix (r := rIxL K) ix_list (pe_ix (r := rIxL K) ix_list (pv 0) (pe_op op_sub (pv 2) (pv 4)) (fun _ _ => rfl)) (pv 1) (fun _ _ => rfl)) (pe_meth (pl := _) (pv 3) T.cl_Scores T.m_Scores_row (ok_Scores_row T) (hr.mono (by decide)) T.B_Scores_row .nil pass0 (pa_cons (pv 4) pa_nil))) (pe_ix (r := rIxL K) ix_list (pe_ix (r := rIxL K) ix_list (pv 0) (pv 2) (fun _ _ => rfl)) (pv 1) (fun _ _ => rfl)) (nomark _)) (pss_one (ps_ret (pv 4))) pss_nil)))
      (pss_one (ps_ret pe_int))), ?_⟩
    obtain ⟨qj, _, hqj, _, gqj⟩ := hT.get (j := j) (by omega)
    refine ⟨_, rfl, _, _, rfl, rfl, 1, _, rfl, ⟨by decide, by decide, by omega, by omega⟩, ?_⟩
    rw [show (((j : Nat) : Int) + 1 - 1).toNat = j by omega]
    refine for_range (lo := 1) (n := j) (fun t σ H2 => ∃ v4, σ = [some (.ref r), some (.int (i : Nat)), some (.int (j : Nat)), some (.ref p), v4] ∧ H2 = H ∧ ∀ l, 1 ≤ l → l ≤ t → ¬ hv s (as.getD · 0) (bs.getD · 0) i (j - l) - (s.gap + s.more * (l : Int)) = hv s (as.getD · 0) (bs.getD · 0) i j)
      ⟨none, rfl, rfl, fun l h1 h2 => absurd h1 (by omega)⟩ ?_ ?_
    · rintro t σ H2 ht ⟨v4, rfl, rfl, hno⟩
      obtain ⟨ql, _, hql, _, gql⟩ := hT.get (j := j - (t + 1)) (by omega)
      have e1 : (1 : Int) + ((t : Nat) : Int) = ((t + 1 : Nat) : Int) := by omega
      rw [e1]
      refine ⟨_, rfl, _, rfl, _, rfl, _, _, rfl, rfl, r, _, _, _, rfl, rfl, SqL.of hT.at_, at_of (show ((j : Nat) : Int) - ((t + 1 : Nat) : Int) = ((j - (t + 1) : Nat) : Int) by omega) hql, _, rfl, ql, _, _, _, rfl, rfl, SqL.of gql, at_of rfl (hrow_get _ _ _ _ hi), ?_⟩
      refine ⟨_, rfl, p, dx, _, rfl, hp, sf_row s, _, rfl, p, dx, s, t + 1, rfl, hp, hm, ?_⟩
      refine ⟨_, _, rfl, rfl, _, rfl, _, rfl, r, _, _, _, rfl, rfl, SqL.of hT.at_, at_of rfl hqj, _, rfl, qj, _, _, _, rfl, rfl, SqL.of gqj, at_of rfl (hrow_get _ _ _ _ hi), rfl, _, rfl, ite2 (fun h => ?_) (fun h => ?_)⟩
      · have h' := V.int.inj (of_decide_eq_true h)
        exact ⟨_, rfl, k (t + 1) (.inr ⟨by omega, by omega, h', fun l h1 h2 => hno l h1 (by omega)⟩)⟩
      · refine ⟨_, rfl, rfl, fun l h1 h2 => ?_⟩
        by_cases c : l = t + 1
        · subst c
          exact fun e => h (decide_eq_true (congrArg V.int e))
        · exact hno l h1 (by omega)
    · rintro σ H2 ⟨v4, rfl, rfl, hno⟩
      exact k 0 (.inl ⟨rfl, hno⟩)
theorem sc_length_of_i : FnScope ["worths", "i", "j", "scores", "length"] ["worths", "i", "j", "scores"] (defScope s_length_of_i) := ⟨rfl, rfl, rfl, by decide +kernel, rfl, by decide +kernel, by decide +kernel⟩
theorem ok_length_of_i (T : Txt K mg a) : FnOk P w K mg bh CX0 2 a.f_length_of_i a.d_length_of_i ["worths", "i", "j", "scores"] (sp_length_of_i a.C_Scores K) := by
  refine T.F_length_of_i.ok sc_length_of_i (fun vs H Q E h => ?_) (fun cdv A outer s H vs Q E hr h => ?_)
  · obtain ⟨r, p, dx, rs, s, as, bs, i, j, rfl, _⟩ := h
    rfl
  · obtain ⟨r, p, dx, rs, s, as, bs, i, j, rfl, hT, hp, hm, hi, hj, hb, k⟩ := h
    refine ⟨_, (pss_cons (ps_for PassesOwn.never rfl (pi_range2 rfl T.b_range (pa_cons pe_int (pa_cons (pe_op op_add (pv 1) pe_int) pa_nil))) (pg_name (i := 4) sc_length_of_i.nd rfl (Or.inl rfl))
        (pss_one (ps_if (pt_cmpR op_eq (pe_op op_sub (pe_ix (r := rIxL K) ix_list (pe_ix (r := rIxL K) ix_list (pv 0) (pv 2) (fun _ _ => rfl)) (pe_op op_sub (pv 1) (pv 4)) (fun _ _ => rfl)) (pe_meth (pl := _) (pv 3) T.cl_Scores T.m_Scores_row (ok_Scores_row T) (hr.mono (by decide)) T.B_Scores_row .nil pass0 (pa_cons (pv 4) pa_nil))) (pe_ix (r := rIxL K) ix_list (pe_ix (r := rIxL K) ix_list (pv 0) (pv 2) (fun _ _ => rfl)) (pv 1) (fun _ _ => rfl)) (nomark _)) (pss_one (ps_ret (pv 4))) pss_nil)))
      (pss_one (ps_ret pe_int))), ?_⟩
    obtain ⟨qj, _, hqj, _, gqj⟩ := hT.get (j := j) (by omega)
    refine ⟨_, rfl, _, _, rfl, rfl, 1, _, rfl, ⟨by decide, by decide, by omega, by omega⟩, ?_⟩
    rw [show (((i : Nat) : Int) + 1 - 1).toNat = i by omega]
    refine for_range (lo := 1) (n := i) (fun t σ H2 => ∃ v4, σ = [some (.ref r), some (.int (i : Nat)), some (.int (j : Nat)), some (.ref p), v4] ∧ H2 = H ∧ ∀ l, 1 ≤ l → l ≤ t → ¬ hv s (as.getD · 0) (bs.getD · 0) (i - l) j - (s.gap + s.more * (l : Int)) = hv s (as.getD · 0) (bs.getD · 0) i j)
      ⟨none, rfl, rfl, fun l h1 h2 => absurd h1 (by omega)⟩ ?_ ?_
    · rintro t σ H2 ht ⟨v4, rfl, rfl, hno⟩
      have e1 : (1 : Int) + ((t : Nat) : Int) = ((t + 1 : Nat) : Int) := by omega
      rw [e1]
      refine ⟨_, rfl, _, rfl, r, _, _, _, rfl, rfl, SqL.of hT.at_, at_of rfl hqj, _, rfl, _, rfl, _, _, rfl, rfl, qj, _, _, _, rfl, rfl, SqL.of gqj, at_of (show ((i : Nat) : Int) - ((t + 1 : Nat) : Int) = ((i - (t + 1) : Nat) : Int) by omega) (hrow_get _ _ _ _ (by omega)), ?_⟩
      refine ⟨_, rfl, p, dx, _, rfl, hp, sf_row s, _, rfl, p, dx, s, t + 1, rfl, hp, hm, ?_⟩
      refine ⟨_, _, rfl, rfl, _, rfl, _, rfl, r, _, _, _, rfl, rfl, SqL.of hT.at_, at_of rfl hqj, _, rfl, qj, _, _, _, rfl, rfl, SqL.of gqj, at_of rfl (hrow_get _ _ _ _ hi), rfl, _, rfl, ite2 (fun h => ?_) (fun h => ?_)⟩
      · have h' := V.int.inj (of_decide_eq_true h)
        exact ⟨_, rfl, k (t + 1) (.inr ⟨by omega, by omega, h', fun l h1 h2 => hno l h1 (by omega)⟩)⟩
      · refine ⟨_, rfl, rfl, fun l h1 h2 => ?_⟩
        by_cases c : l = t + 1
        · subst c
          exact fun e => h (decide_eq_true (congrArg V.int e))
        · exact hno l h1 (by omega)
    · rintro σ H2 ⟨v4, rfl, rfl, hno⟩
      exact k 0 (.inl ⟨rfl, hno⟩)
end
end Py

/-! The way back; the best way. -/
namespace Py
open PySem L2 Br Gr
open Sg42 (Scores score)
def sp_way_back (C : Addr) (K : PySem.W.Frag) : Sp := fun vs H Q _ => ∃ (r qa qb p te dx : Addr) (rs : List Addr) (s : Scores) (as bs : List Nat) (i0 j0 : Nat), vs = [.ref r, .ref qa, .ref qb, .ref p, .ref te] ∧ TabAt H r rs s as bs ∧ SqL K H qa (natV as) ∧ SqL K H qb (natV bs) ∧ H p = some (.ins C dx (sf s)) ∧ H te = some (.tup [.int (i0 : Nat), .int (j0 : Nat)]) ∧
  s.gap ≤ 127 ∧ s.more ≤ 127 ∧ as.length ≤ 1024 ∧ bs.length ≤ 1024 ∧ i0 ≤ as.length ∧ j0 ≤ bs.length ∧
  ∀ (t l : Addr) (H' : Hp) (i j : Nat) (ls : List Nat), Same H H' → H' t = some (.tup [.int (i : Nat), .int (j : Nat), .ref l]) → H' l = some (.lst (natV ls)) → ls.length ≤ 2048 → (∀ x ∈ ls, x < 256) → back s (as.getD · 0) (bs.getD · 0) .h i0 j0 [] = (i, j, ls.map UInt8.ofNat) → Q (.ref t) H'
/-- what is told of two pieces: greatest worth, ends, letters -/
def sp_best_way (C : Addr) (K : PySem.W.Frag) : Sp := fun vs H Q _ => ∃ (qa qb p dx : Addr) (s : Scores) (as bs : List Nat), vs = [.ref qa, .ref qb, .ref p] ∧ SqL K H qa (natV as) ∧ SqL K H qb (natV bs) ∧ H p = some (.ins C dx (sf s)) ∧ (∀ x ∈ bs, x < 4) ∧
  s.gap ≤ 127 ∧ s.more ≤ 127 ∧ as.length ≤ 1024 ∧ bs.length ≤ 1024 ∧
  ∀ (t to l : Addr) (H' : Hp) (ls : List Nat), Same H H' → H' t = some (.tup [.ref to, .ref l]) → H' l = some (.lst (natV ls)) → ls.length ≤ 2048 → (∀ x ∈ ls, x < 256) →
    (Sg42.lay s as bs).way = ls.map UInt8.ofNat → H' to = some (.lst [.int ((Sg42.lay s as bs).score.toNat : Nat), .int ((Sg42.lay s as bs).a0 : Nat), .int ((Sg42.lay s as bs).a1 : Nat), .int ((Sg42.lay s as bs).b0 : Nat), .int ((Sg42.lay s as bs).b1 : Nat)]) → Q (.ref t) H'
section
variable {P : Program} {w : World} {K : PySem.W.Frag} {mg : Str → Option Value} {bh : Heap} {a : Adr}
theorem sc_way_back : FnScope ["worths", "a", "b", "scores", "end", "i", "j", "letters", "length"] ["worths", "a", "b", "scores", "end"] (defScope s_way_back) := ⟨rfl, rfl, rfl, by decide +kernel, rfl, by decide +kernel, by decide +kernel⟩
theorem rep_nat (L x : Nat) : List.replicate L (V.int ((x : Nat) : Int)) = natV (List.replicate L x) := by
  unfold natV
  rw [List.map_replicate, List.map_replicate]
theorem natV_app (x y : List Nat) : natV x ++ natV y = natV (x ++ y) := by
  unfold natV
  rw [List.map_append, List.map_append]
theorem natV_rev (x : List Nat) : (natV x).reverse = natV x.reverse := by
  unfold natV
  rw [List.map_reverse, List.map_reverse]
set_option maxHeartbeats 4000000 in
theorem ok_way_back (T : Txt K mg a) : FnOk P w K mg bh CX0 3 a.f_way_back a.d_way_back ["worths", "a", "b", "scores", "end"] (sp_way_back a.C_Scores K) := by
  obtain ⟨_, h_LETTER_D⟩ := T.c_LETTER_D
  obtain ⟨_, h_LETTER_I⟩ := T.c_LETTER_I
  obtain ⟨_, h_LETTER_M⟩ := T.c_LETTER_M
  refine T.F_way_back.ok sc_way_back (fun vs H Q E h => ?_) (fun cdv A outer s H vs Q E hr h => ?_)
  · obtain ⟨r, qa, qb, p, te, dx, rs, s, as, bs, i0, j0, rfl, _⟩ := h
    rfl
  · obtain ⟨r, qa, qb, p, te, dx, rs, s, as, bs, i0, j0, rfl, hT, ha, hb, hp, hte, hg, hm, hn, hl, hi0, hj0, k⟩ := h
    refine ⟨_, (pss_cons (ps_set (i := 5) sc_way_back.nd rfl (Or.inl rfl) (pe_ix (r := rIxT K) ix_tup (pv 4) pe_int (fun _ _ => rfl)))
      (pss_cons (ps_set (i := 6) sc_way_back.nd rfl (Or.inl rfl) (pe_ix (r := rIxT K) ix_tup (pv 4) pe_int (fun _ _ => rfl)))
      (pss_cons (ps_set (i := 7) sc_way_back.nd rfl (Or.inl rfl) (pe_lst pa_nil))
      (pss_cons (ps_while PassesOwn.never (pt_cmpR op_gt (pe_ix (r := rIxL K) ix_list (pe_ix (r := rIxL K) ix_list (pv 0) (pv 6) (fun _ _ => rfl)) (pv 5) (fun _ _ => rfl)) pe_int (nomark _))
        (pss_cons (ps_if (pt_cmpR op_eq (pe_op op_add (pe_ix (r := rIxL K) ix_list (pe_ix (r := rIxL K) ix_list (pv 0) (pe_op op_sub (pv 6) pe_int) (fun _ _ => rfl)) (pe_op op_sub (pv 5) pe_int) (fun _ _ => rfl)) (pe_meth (pl := _) (pv 3) T.cl_Scores T.m_Scores_pair (ok_Scores_pair T) (hr.mono (by decide)) T.B_Scores_pair .nil pass0 (pa_cons (pe_ix (r := rIxL K) ix_list (pv 1) (pe_op op_sub (pv 5) pe_int) (fun _ _ => rfl)) (pa_cons (pe_ix (r := rIxL K) ix_list (pv 2) (pe_op op_sub (pv 6) pe_int) (fun _ _ => rfl)) pa_nil)))) (pe_ix (r := rIxL K) ix_list (pe_ix (r := rIxL K) ix_list (pv 0) (pv 6) (fun _ _ => rfl)) (pv 5) (fun _ _ => rfl)) (nomark _)) (pss_cons (ps_expr (pe_bm PySem.F.plainAttrs_list PySem.F.slot_list_append PySem.F.type_list_append mt_append (pv 7) (pa_cons (pe_glob (v := .int 77) rfl h_LETTER_M ⟨_, rfl⟩) pa_nil)))
      (pss_cons (ps_aug (i := 5) sc_way_back.nd rfl (Or.inl rfl) pe_int ip_sub)
      (pss_cons (ps_aug (i := 6) sc_way_back.nd rfl (Or.inl rfl) pe_int ip_sub)
      (pss_one ps_continue)))) pss_nil)
      (pss_cons (ps_set (i := 8) sc_way_back.nd rfl (Or.inl rfl) (pe_call (ok_length_of_d T) (hr.mono (by decide)) rfl T.g_length_of_d T.F_length_of_d.kp T.B_length_of_d .nil pass0 (pa_cons (pv 0) (pa_cons (pv 5) (pa_cons (pv 6) (pa_cons (pv 3) pa_nil))))))
      (pss_one (ps_if (pt_cmpR op_gt (pv 8) pe_int (nomark _)) (pss_cons (ps_expr (pe_bm PySem.F.plainAttrs_list PySem.F.slot_list_extend PySem.F.type_list_extend mt_extend (pv 7) (pa_cons (pe_op op_rep (pe_lst (pa_cons (pe_glob (v := .int 68) rfl h_LETTER_D ⟨_, rfl⟩) pa_nil)) (pv 8)) pa_nil)))
      (pss_one (ps_aug (i := 6) sc_way_back.nd rfl (Or.inl rfl) (pv 8) ip_sub))) (pss_cons (ps_set (i := 8) sc_way_back.nd rfl (Or.inl rfl) (pe_call (ok_length_of_i T) (hr.mono (by decide)) rfl T.g_length_of_i T.F_length_of_i.kp T.B_length_of_i .nil pass0 (pa_cons (pv 0) (pa_cons (pv 5) (pa_cons (pv 6) (pa_cons (pv 3) pa_nil))))))
      (pss_cons (ps_expr (pe_bm PySem.F.plainAttrs_list PySem.F.slot_list_extend PySem.F.type_list_extend mt_extend (pv 7) (pa_cons (pe_op op_rep (pe_lst (pa_cons (pe_glob (v := .int 73) rfl h_LETTER_I ⟨_, rfl⟩) pa_nil)) (pv 8)) pa_nil)))
      (pss_one (ps_aug (i := 5) sc_way_back.nd rfl (Or.inl rfl) (pv 8) ip_sub)))))))))
      (pss_one (ps_ret (pe_tup (pa_cons (pv 5) (pa_cons (pv 6) (pa_cons (pe_listrev rfl rfl T.b_list rfl T.b_reversed (pv 7)) pa_nil)))))))))), ?_⟩
    have hsz := sizeIs
    refine ⟨_, rfl, te, _, _, _, rfl, rfl, SqT.of hte, at_of (j := 0) rfl rfl, ?_⟩
    refine ⟨_, rfl, te, _, _, _, rfl, rfl, SqT.of hte, at_of (j := 1) rfl rfl, ?_⟩
    refine ⟨Nat.zero_le _, fun l hl0 => ?_⟩
    have s0 : Same H (upd H l (.lst [])) := Br.Same.upd_new hl0
    refine ⟨fun m σ H2 => ∃ (i j : Nat) (ls : List Nat) (v8 : Option V), m = i + j ∧ σ = [some (.ref r), some (.ref qa), some (.ref qb), some (.ref p), some (.ref te), some (.int (i : Nat)), some (.int (j : Nat)), some (.ref l), v8] ∧ Same H H2 ∧ H2 l = some (.lst (natV ls)) ∧ i ≤ as.length ∧ j ≤ bs.length ∧ ls.length + i + j ≤ 2048 ∧ (∀ x ∈ ls, x < 256) ∧ back s (as.getD · 0) (bs.getD · 0) .h i0 j0 [] = back s (as.getD · 0) (bs.getD · 0) .h i j (ls.reverse.map UInt8.ofNat),
      ⟨i0 + j0, i0, j0, [], none, rfl, rfl, s0, upd_same, hi0, hj0, by show 0 + _ + _ ≤ _; omega, fun x hx => (by cases hx), rfl⟩, ?_⟩
    rintro m σ H2 ⟨i, j, ls, v8, rfl, rfl, s2, gl, hi, hj, hlen, h256, hbk⟩
    have hT2 : TabAt H2 r rs s as bs := hT.same s2
    obtain ⟨qj, _, hqj, _, gqj⟩ := hT2.get (j := j) (by omega)
    refine ⟨_, rfl, _, rfl, r, _, _, _, rfl, rfl, SqL.of hT2.at_, at_of rfl hqj, _, rfl, qj, _, _, _, rfl, rfl, SqL.of gqj, at_of rfl (hrow_get _ _ _ _ hi), _, _, rfl, rfl, _, rfl, ite2 (fun h => ?_) (fun h => ?_)⟩
    · have h0 : 0 < hv s (as.getD · 0) (bs.getD · 0) i j := of_decide_eq_true h
      have hi1 : 1 ≤ i := Nat.one_le_iff_ne_zero.mpr fun z => by rw [z, hv_0j] at h0; exact absurd h0 (by decide)
      have hj1 : 1 ≤ j := Nat.one_le_iff_ne_zero.mpr fun z => by rw [z, hv_i0] at h0; exact absurd h0 (by decide)
      have ei : ((i : Nat) : Int) - 1 = ((i - 1 : Nat) : Int) := by omega
      have ej : ((j : Nat) : Int) - 1 = ((j - 1 : Nat) : Int) := by omega
      obtain ⟨q1, _, hq1, _, gq1⟩ := hT2.get (j := j - 1) (by omega)
      have ga : as[i - 1]? = some (as.getD (i - 1) 0) := by rw [List.getD_eq_getElem?_getD, List.getElem?_eq_getElem (by omega)]; rfl
      have gb : bs[j - 1]? = some (bs.getD (j - 1) 0) := by rw [List.getD_eq_getElem?_getD, List.getElem?_eq_getElem (by omega)]; rfl
      refine ⟨fun σ' H' => ∃ m', m' < i + j ∧ _, fun σ' H' q => q, ?_⟩
      refine ⟨_, rfl, _, rfl, _, _, rfl, rfl, r, _, _, _, rfl, rfl, SqL.of hT2.at_, at_of ej hq1, _, rfl, _, _, rfl, rfl, q1, _, _, _, rfl, rfl, SqL.of gq1, at_of ei (hrow_get _ _ _ _ (by omega)), ?_⟩
      refine ⟨_, rfl, p, dx, _, rfl, s2 _ _ hp, sf_pair s, _, rfl, _, rfl, _, _, rfl, rfl, qa, _, _, _, rfl, rfl, s2.seq ha, at_of ei (natV_get ga), _, rfl, _, rfl, _, _, rfl, rfl, qb, _, _, _, rfl, rfl, s2.seq hb, at_of ej (natV_get gb), p, dx, s, as.getD (i - 1) 0, bs.getD (j - 1) 0, rfl, s2 _ _ hp, ?_⟩
      refine ⟨_, _, rfl, rfl, _, rfl, _, rfl, r, _, _, _, rfl, rfl, SqL.of hT2.at_, at_of rfl hqj, _, rfl, qj, _, _, _, rfl, rfl, SqL.of gqj, at_of rfl (hrow_get _ _ _ _ hi), rfl, _, rfl, ite2 (fun hM => ?_) (fun hM => ?_)⟩
      · have e := V.int.inj (of_decide_eq_true hM)
        refine ⟨_, rfl, .inl ⟨rfl, _, SqL.of gl⟩, l, _, _, rfl, rfl, gl, by rw [natV_len, hsz]; omega, ?_⟩
        refine ⟨_, rfl, _, _, rfl, rfl, ?_⟩
        refine ⟨_, rfl, _, _, rfl, rfl, ?_⟩
        refine ⟨(i - 1) + (j - 1), by omega, i - 1, j - 1, ls ++ [77], v8, rfl, ?_, Br.Same.upd2 s2 hl0, by rw [upd_same, ← natV_snoc]; rfl, by omega, by omega, by rw [List.length_append]; show ls.length + 1 + _ + _ ≤ _; omega, ?_, ?_⟩
        · dsimp only
          rw [ei, ej]
          rfl
        · intro x hx
          rcases List.mem_append.mp hx with z | z
          · exact h256 x z
          · rw [List.mem_singleton.mp z]; decide
        · rw [hbk, step_m hg h0 e, List.reverse_append]
          rfl
      · have ne : hv s (as.getD · 0) (bs.getD · 0) (i - 1) (j - 1) + score s (as.getD (i - 1) 0) (bs.getD (j - 1) 0) ≠ hv s (as.getD · 0) (bs.getD · 0) i j := fun e => hM (decide_eq_true (congrArg V.int e))
        refine ⟨_, rfl, _, rfl, _, rfl, _, rfl, r, p, dx, rs, s, as, bs, i, j, rfl, hT2, s2 _ _ hp, hm, hi, hj, hl, fun L hL => ?_⟩
        refine ⟨_, rfl, _, _, rfl, rfl, _, rfl, ite2 (fun hd => ?_) (fun hd => ?_)⟩
        · have hd' : (0 : Int) < ((L : Nat) : Int) := of_decide_eq_true hd
          have hLj : L ≤ j := by
            rcases hL with ⟨z, _⟩ | ⟨_, z, _⟩
            · omega
            · exact z
          refine ⟨_, rfl, .inl ⟨rfl, _, SqL.of gl⟩, by show 1 ≤ sizeLine; decide, fun l1 hl1 => ?_⟩
          have s3 : Same H2 (upd H2 l1 (.lst [V.int 68])) := Br.Same.upd_new hl1
          refine ⟨_, rfl, l1, _, _, rfl, rfl, upd_same, by omega, by omega, by show 1 * _ ≤ _; omega, fun r1 hr1 => ?_⟩
          rw [Int.toNat_natCast, reps, show (68 : Int) = ((68 : Nat) : Int) from rfl, rep_nat]
          have s4 : Same H2 (upd (upd H2 l1 (.lst [V.int ((68 : Nat) : Int)])) r1 (.lst (natV (List.replicate L 68)))) := Br.Same.upd2 s3 (s3.free hr1)
          have gr1 : upd (upd H2 l1 (.lst [V.int ((68 : Nat) : Int)])) r1 (.lst (natV (List.replicate L 68))) r1 = some (.lst (natV (List.replicate L 68))) := upd_same
          generalize upd (upd H2 l1 (.lst [V.int ((68 : Nat) : Int)])) r1 (.lst (natV (List.replicate L 68))) = H4 at s4 gr1
          refine ⟨l, r1, _, _, rfl, rfl, s4 _ _ gl, gr1, by rw [natV_len, natV_len, List.length_replicate, hsz]; omega, ?_⟩
          refine ⟨_, rfl, _, rfl, _, _, rfl, rfl, ?_⟩
          refine ⟨i + (j - L), by omega, i, j - L, ls ++ List.replicate L 68, some (.int (L : Nat)), rfl, ?_, Br.Same.upd2 (s2.trans s4) hl0, by rw [upd_same, natV_app], hi, by omega, by rw [List.length_append, List.length_replicate]; omega, ?_, ?_⟩
          · dsimp only
            rw [show ((j : Nat) : Int) - ((L : Nat) : Int) = ((j - L : Nat) : Int) by omega]
            rfl
          · intro x hx
            rcases List.mem_append.mp hx with z | z
            · exact h256 x z
            · rw [(List.mem_replicate.mp z).2]; decide
          · rw [hbk, step_d hg h0 ne hL (by omega), List.reverse_append, List.reverse_replicate, List.map_append, List.map_replicate]
            rfl
        · have hd' : ¬ (0 : Int) < ((L : Nat) : Int) := fun z => hd (decide_eq_true z)
          have eL : L = 0 := by omega
          subst eL
          refine ⟨_, rfl, _, rfl, _, rfl, _, rfl, r, p, dx, rs, s, as, bs, i, j, rfl, hT2, s2 _ _ hp, hm, hi, hj, hn, fun L2 hL2 => ?_⟩
          obtain ⟨b1, b2, bk⟩ := step_i hg h0 ne hL hL2 (ls.reverse.map UInt8.ofNat)
          refine ⟨_, rfl, .inl ⟨rfl, _, SqL.of gl⟩, by show 1 ≤ sizeLine; decide, fun l1 hl1 => ?_⟩
          have s3 : Same H2 (upd H2 l1 (.lst [V.int 73])) := Br.Same.upd_new hl1
          refine ⟨_, rfl, l1, _, _, rfl, rfl, upd_same, by omega, by omega, by show 1 * _ ≤ _; omega, fun r1 hr1 => ?_⟩
          rw [Int.toNat_natCast, reps, show (73 : Int) = ((73 : Nat) : Int) from rfl, rep_nat]
          have s4 : Same H2 (upd (upd H2 l1 (.lst [V.int ((73 : Nat) : Int)])) r1 (.lst (natV (List.replicate L2 73)))) := Br.Same.upd2 s3 (s3.free hr1)
          have gr1 : upd (upd H2 l1 (.lst [V.int ((73 : Nat) : Int)])) r1 (.lst (natV (List.replicate L2 73))) r1 = some (.lst (natV (List.replicate L2 73))) := upd_same
          generalize upd (upd H2 l1 (.lst [V.int ((73 : Nat) : Int)])) r1 (.lst (natV (List.replicate L2 73))) = H4 at s4 gr1
          refine ⟨l, r1, _, _, rfl, rfl, s4 _ _ gl, gr1, by rw [natV_len, natV_len, List.length_replicate, hsz]; omega, ?_⟩
          refine ⟨_, rfl, _, rfl, _, _, rfl, rfl, ?_⟩
          refine ⟨(i - L2) + j, by omega, i - L2, j, ls ++ List.replicate L2 73, some (.int (L2 : Nat)), rfl, ?_, Br.Same.upd2 (s2.trans s4) hl0, by rw [upd_same, natV_app], by omega, hj, by rw [List.length_append, List.length_replicate]; omega, ?_, ?_⟩
          · dsimp only
            rw [show ((i : Nat) : Int) - ((L2 : Nat) : Int) = ((i - L2 : Nat) : Int) by omega]
            rfl
          · intro x hx
            rcases List.mem_append.mp hx with z | z
            · exact h256 x z
            · rw [(List.mem_replicate.mp z).2]; decide
          · rw [hbk, bk, List.reverse_append, List.reverse_replicate, List.map_append, List.map_replicate]
            rfl
    · have h0 : ¬ 0 < hv s (as.getD · 0) (bs.getD · 0) i j := fun z => h (decide_eq_true z)
      refine ⟨_, rfl, _, rfl, _, rfl, l, _, rfl, SqL.of gl, fun l2 hl2 => ?_⟩
      rw [natV_rev]
      have s3 : Same H (upd H2 l2 (.lst (natV ls.reverse))) := Br.Same.upd2 s2 (s2.free hl2)
      refine ⟨by show 3 ≤ sizeLine; decide, fun t ht => ?_⟩
      refine k t l2 _ i j ls.reverse (Br.Same.upd2 s3 (s3.free ht)) upd_same ?_ (by rw [List.length_reverse]; omega) (fun x hx => h256 x (List.mem_reverse.mp hx)) (by rw [hbk, back_zero h0])
      rw [upd_ne (ne_of_none upd_same ht), upd_same]
theorem sc_best_way : FnScope ["a", "b", "scores", "worths", "end", "back", "told"] ["a", "b", "scores"] (defScope s_best_way) := ⟨rfl, rfl, rfl, by decide +kernel, rfl, by decide +kernel, by decide +kernel⟩
set_option maxHeartbeats 2000000 in
theorem ok_best_way (T : Txt K mg a) : FnOk P w K mg bh CX0 4 a.f_best_way a.d_best_way ["a", "b", "scores"] (sp_best_way a.C_Scores K) := by
  refine T.F_best_way.ok sc_best_way (fun vs H Q E h => ?_) (fun cdv A outer s H vs Q E hr h => ?_)
  · obtain ⟨qa, qb, p, dx, s, as, bs, rfl, _⟩ := h
    rfl
  · obtain ⟨qa, qb, p, dx, s, as, bs, rfl, ha, hb, hp, hb4, hg, hm, hn, hl, k⟩ := h
    refine ⟨_, (pss_cons (ps_set (i := 3) sc_best_way.nd rfl (Or.inl rfl) (pe_call (ok_all_worths T) (hr.mono (by decide)) rfl T.g_all_worths T.F_all_worths.kp T.B_all_worths .nil pass0 (pa_cons (pv 0) (pa_cons (pv 1) (pa_cons (pv 2) pa_nil)))))
      (pss_cons (ps_set (i := 4) sc_best_way.nd rfl (Or.inl rfl) (pe_call (ok_best_end T) (hr.mono (by decide)) rfl T.g_best_end T.F_best_end.kp T.B_best_end .nil pass0 (pa_cons (pv 3) pa_nil)))
      (pss_cons (ps_set (i := 5) sc_best_way.nd rfl (Or.inl rfl) (pe_call (ok_way_back T) (hr.mono (by decide)) rfl T.g_way_back T.F_way_back.kp T.B_way_back .nil pass0 (pa_cons (pv 3) (pa_cons (pv 0) (pa_cons (pv 1) (pa_cons (pv 2) (pa_cons (pv 4) pa_nil)))))))
      (pss_cons (ps_set (i := 6) sc_best_way.nd rfl (Or.inl rfl) (pe_lst (pa_cons (pe_ix (r := rIxL K) ix_list (pe_ix (r := rIxL K) ix_list (pv 3) (pe_ix (r := rIxT K) ix_tup (pv 4) pe_int (fun _ _ => rfl)) (fun _ _ => rfl)) (pe_ix (r := rIxT K) ix_tup (pv 4) pe_int (fun _ _ => rfl)) (fun _ _ => rfl)) (pa_cons (pe_ix (r := rIxT K) ix_tup (pv 5) pe_int (fun _ _ => rfl)) (pa_cons (pe_ix (r := rIxT K) ix_tup (pv 4) pe_int (fun _ _ => rfl)) (pa_cons (pe_ix (r := rIxT K) ix_tup (pv 5) pe_int (fun _ _ => rfl)) (pa_cons (pe_ix (r := rIxT K) ix_tup (pv 4) pe_int (fun _ _ => rfl)) pa_nil)))))))
      (pss_one (ps_ret (pe_tup (pa_cons (pv 6) (pa_cons (pe_ix (r := rIxT K) ix_tup (pv 5) pe_int (fun _ _ => rfl)) pa_nil))))))))), ?_⟩
    refine ⟨_, rfl, _, rfl, _, rfl, qa, qb, p, dx, s, as, bs, rfl, hp, ha, hb, hb4, hg, hm, hn, hl, fun r rs H1 s1 hT => ?_⟩
    refine ⟨_, rfl, r, rs, s, as, bs, rfl, hT, fun te H2 g i j s2 gte B => ?_⟩
    have hij : i ≤ as.length ∧ j ≤ bs.length := by
      rcases B.or with ⟨e, _⟩ | ⟨_, _, pp, qq, e, _⟩
      · cases e
        exact ⟨Nat.zero_le _, Nat.zero_le _⟩
      · exact mem_ends (k := (i, j)) (by rw [e]; simp)
    have hT2 : TabAt H2 r rs s as bs := hT.same s2
    have s12 := s1.trans s2
    refine ⟨_, rfl, _, rfl, _, rfl, _, rfl, _, rfl, r, qa, qb, p, te, dx, rs, s, as, bs, i, j, rfl, hT2, s12.seq ha, s12.seq hb, s12 _ _ hp, gte, hg, hm, hn, hl, hij.1, hij.2, fun tb l H3 bi bj ls s3 gtb gl hls h256 hbk => ?_⟩
    have hT3 : TabAt H3 r rs s as bs := hT2.same s3
    have gte3 := s3 _ _ gte
    obtain ⟨qj, _, hqj, _, gqj⟩ := hT3.get (j := j) (by omega)
    refine ⟨_, rfl, _, rfl, te, _, _, _, rfl, rfl, SqT.of gte3, at_of (j := 1) rfl rfl, r, _, _, _, rfl, rfl, SqL.of hT3.at_, at_of rfl hqj, _, rfl, te, _, _, _, rfl, rfl, SqT.of gte3, at_of (j := 0) rfl rfl, qj, _, _, _, rfl, rfl, SqL.of gqj, at_of rfl (hrow_get _ _ _ _ hij.1), ?_⟩
    refine ⟨_, rfl, tb, _, _, _, rfl, rfl, SqT.of gtb, at_of (j := 0) rfl rfl, _, rfl, te, _, _, _, rfl, rfl, SqT.of gte3, at_of (j := 0) rfl rfl, _, rfl, tb, _, _, _, rfl, rfl, SqT.of gtb, at_of (j := 1) rfl rfl, _, rfl, te, _, _, _, rfl, rfl, SqT.of gte3, at_of (j := 1) rfl rfl, by show 5 ≤ sizeLine; decide, fun to hto => ?_⟩
    have gtb4 : upd H3 to (.lst [.int (hv s (as.getD · 0) (bs.getD · 0) i j), .int (bi : Nat), .int (i : Nat), .int (bj : Nat), .int (j : Nat)]) tb = some (.tup [.int (bi : Nat), .int (bj : Nat), .ref l]) := by rw [upd_ne (ne_of_none gtb hto)]; exact gtb
    have gl4 : upd H3 to (.lst [.int (hv s (as.getD · 0) (bs.getD · 0) i j), .int (bi : Nat), .int (i : Nat), .int (bj : Nat), .int (j : Nat)]) l = some (.lst (natV ls)) := by rw [upd_ne (ne_of_none gl hto)]; exact gl
    refine ⟨_, rfl, _, rfl, tb, _, _, _, rfl, rfl, SqT.of gtb4, at_of (j := 2) rfl rfl, by show 2 ≤ sizeLine; decide, fun t ht => ?_⟩
    have s13 := s12.trans s3
    have s4 : Same H (upd H3 to (.lst [.int (hv s (as.getD · 0) (bs.getD · 0) i j), .int (bi : Nat), .int (i : Nat), .int (bj : Nat), .int (j : Nat)])) := Br.Same.upd2 s13 (s13.free hto)
    have el := lay_eq hg as bs B
    have hg0 := B.nonneg
    have eh : hv s (as.getD · 0) (bs.getD · 0) i j = g := by
      rcases B.or with ⟨e, _⟩ | ⟨_, e, _⟩
      · cases e
        rw [hv_i0]
      · exact e.symm
    have facts : (Sg42.lay s as bs).way = ls.map UInt8.ofNat ∧ ((Sg42.lay s as bs).score.toNat : Int) = g ∧ (Sg42.lay s as bs).a0 = bi ∧ (Sg42.lay s as bs).a1 = i ∧ (Sg42.lay s as bs).b0 = bj ∧ (Sg42.lay s as bs).b1 = j := by
      by_cases c : g = 0
      · have c' : (g, (i, j)).1 = 0 := c
        rw [if_pos c'] at el
        have e0 : (i, j) = (0, 0) := by
          rcases B.or with ⟨e, _⟩ | ⟨z, _⟩
          · exact (Prod.mk.inj e).2
          · exact absurd z (by rw [c']; decide)
        obtain ⟨e1, e2⟩ := Prod.mk.inj e0
        subst e1 e2
        rw [back_end (.inr (.inl rfl))] at hbk
        obtain ⟨z1, z2⟩ := Prod.mk.inj hbk
        obtain ⟨z2, z3⟩ := Prod.mk.inj z2
        rw [el, c, ← z1, ← z2, ← z3]
        exact ⟨rfl, rfl, rfl, rfl, rfl, rfl⟩
      · have c' : ¬ (g, (i, j)).1 = 0 := c
        rw [if_neg c'] at el
        rw [el]
        dsimp only
        rw [hbk]
        exact ⟨rfl, Int.toNat_of_nonneg hg0, rfl, rfl, rfl, rfl⟩
    obtain ⟨f1, f2, f3, f4, f5, f6⟩ := facts
    refine k t to l _ ls (Br.Same.upd2 s4 (s4.free ht)) upd_same (by rw [upd_ne (ne_of_none gl4 ht)]; exact gl4) hls h256 f1 ?_
    rw [upd_ne (ne_of_none upd_same ht), upd_same, f2, f3, f4, f5, f6, eh]
end
end Py

/-! The genome and its reads; steps that seek. -/
namespace Py
open PySem L2 Br Gr
open Sg42 (Spot Desk)
def gf (qc rp : Addr) : List (Str × V) := [("codes", .ref qc), ("reads", .ref rp)]
section
variable (qc rp : Addr)
theorem gf_codes : (gf qc rp).lookup ("codes" : Str) = some (.ref qc) := look_hit _ _ _
theorem gf_reads : (gf qc rp).lookup ("reads" : Str) = some (.ref rp) := by
  unfold gf
  rw [look_miss (by decide +kernel), look_hit]
theorem gf_no {m : Str} (h1 : ¬ m = "codes") (h2 : ¬ m = "reads") : (gf qc rp).lookup m = none := by
  unfold gf
  rw [look_miss h1, look_miss h2]
  rfl
end
/-- a Genome with what is piled on it stands at p -/
structure GenAt (C Cr : Addr) (H : Hp) (p dx qc rp rdx cA wA oA : Addr) (x : Desk) : Prop where
  ob : H p = some (.ins C dx (gf qc rp))
  co : H qc = some (.lst (natV x.genome))
  rd : ReadsAt Cr H rp rdx cA wA oA x.spots
  n1 : qc ≠ cA
  n2 : qc ≠ wA
  n3 : qc ≠ oA
  g4 : ∀ y ∈ x.genome, y < 4
  le : x.genome.length ≤ 65536
  ln : x.spots.length = x.genome.length
theorem GenAt.same {C Cr : Addr} {H H' : Hp} {p dx qc rp rdx cA wA oA : Addr} {x : Desk} (G : GenAt C Cr H p dx qc rp rdx cA wA oA x) (s : Same H H') : GenAt C Cr H' p dx qc rp rdx cA wA oA x := ⟨s _ _ G.ob, s _ _ G.co, G.rd.same s, G.n1, G.n2, G.n3, G.g4, G.le, G.ln⟩
/-- all but three lists stay -/
def Spares (H H' : Hp) (cA wA oA : Addr) : Prop := ∀ b o, H b = some o → b ≠ cA → b ≠ wA → b ≠ oA → H' b = some o
theorem same_spares {H H' : Hp} (s : Same H H') (cA wA oA : Addr) : Spares H H' cA wA oA := fun b o e _ _ _ => s b o e
def sp_part (C Cr : Addr) (F : List Int → Prop) (K : PySem.W.Frag) : Sp := fun vs H Q _ => ∃ (p q dx qc rp rdx cA wA oA : Addr) (x : Desk) (st : List Int), vs = [.ref p, .ref q] ∧ GenAt C Cr H p dx qc rp rdx cA wA oA x ∧ SqL K H q (st.map V.int) ∧ F st ∧
  ∀ (r : Addr) (H' : Hp), Spares H H' cA wA oA → H r = none → H' r = some (.lst ((partOf x st).1.map V.int)) → (partOf x st).1.length ≤ 65600 → GenAt C Cr H' p dx qc rp rdx cA wA oA (partOf x st).2 → Q (.ref r) H'
def sp_Genome_init (C Cr : Addr) (K : PySem.W.Frag) : Sp := fun vs H Q _ => ∃ (p dx qc : Addr) (g : List Nat), vs = [.ref p, .ref qc] ∧ H p = some (.ins C dx []) ∧ H qc = some (.lst (natV g)) ∧ (∀ y ∈ g, y < 4) ∧ g.length ≤ 65536 ∧
  ∀ (H' : Hp) (rp rdx cA wA oA : Addr), (∀ b o, H b = some o → b ≠ p → H' b = some o) → H cA = none → H wA = none → H oA = none → GenAt C Cr H' p dx qc rp rdx cA wA oA (Sg42.deskOf g) → Q .non H'
section
variable {C Cr : Addr} {H : Hp} {Q : VK} {p q dx qc rp rdx cA wA oA : Addr} {x : Desk} {st : List Int}
/-- a step that leaves all as it is -/
theorem told_of (G : GenAt C Cr H p dx qc rp rdx cA wA oA x) (k : ∀ (r : Addr) (H' : Hp), Spares H H' cA wA oA → H r = none → H' r = some (.lst ((partOf x st).1.map V.int)) → (partOf x st).1.length ≤ 65600 → GenAt C Cr H' p dx qc rp rdx cA wA oA (partOf x st).2 → Q (.ref r) H')
    {l : List Int} (e : partOf x st = (l, x)) (hl : l.length ≤ 65600) {r : Addr} {H' : Hp} (s : Same H H') (f : H r = none) (g : H' r = some (.lst (l.map V.int))) : Q (.ref r) H' := by
  rw [e] at k
  exact k r H' (same_spares s _ _ _) f g hl (G.same s)
end
section
variable {P : Program} {w : World} {K : PySem.W.Frag} {mg : Str → Option Value} {bh : Heap} {a : Adr}
theorem sc_Genome_init : FnScope ["self", "codes"] ["self", "codes"] (defScope s_Genome_init) := ⟨rfl, rfl, rfl, by decide +kernel, rfl, by decide +kernel, by decide +kernel⟩
theorem ok_Genome_init (T : Txt K mg a) : FnOk P w K mg bh CX0 3 a.f_Genome_init a.d_Genome_init ["self", "codes"] (sp_Genome_init a.C_Genome a.C_Reads K) := by
  refine T.F_Genome_init.ok sc_Genome_init (fun vs H Q E h => ?_) (fun cdv A outer s H vs Q E hr h => ?_)
  · obtain ⟨p, dx, qc, g, rfl, _⟩ := h
    rfl
  · obtain ⟨p, dx, qc, g, rfl, hp, hc, h4, hg, k⟩ := h
    refine ⟨_, (pss_cons (ps_fld (pv 0) (pv 1) rfl)
      (pss_one (ps_fld (pv 0) (pe_make T.M_Reads (ok_Reads_init T) (hr.mono (by decide)) rfl T.g_Reads T.B_Reads_init .nil pass0 (pa_cons (pe_callB (call_len_seq) (by rfl) T.b_len PySem.boot_len (pa_cons (pv 1) pa_nil)) pa_nil)) rfl))), ?_⟩
    refine ⟨_, rfl, _, rfl, p, a.C_Genome, dx, _, rfl, hp, T.cl_Genome, T.n_Genome_codes, by show 0 < 1000; decide, ?_⟩
    rw [put_nil]
    have hpq : qc ≠ p := ne_of hc hp (by intro z; cases z)
    have g0 : upd H p (.ins a.C_Genome dx [("codes", .ref qc)]) p = some (.ins a.C_Genome dx [("codes", .ref qc)]) := upd_same
    have c0 : upd H p (.ins a.C_Genome dx [("codes", .ref qc)]) qc = some (.lst (natV g)) := by rw [upd_ne hpq]; exact hc
    have fr0 : ∀ b o, H b = some o → b ≠ p → upd H p (.ins a.C_Genome dx [("codes", .ref qc)]) b = some o := fun b o e hb => by rw [upd_ne hb]; exact e
    generalize upd H p (.ins a.C_Genome dx [("codes", .ref qc)]) = H0 at g0 c0 fr0
    refine ⟨_, rfl, qc, _, rfl, .inl (SqL.of c0), ?_⟩
    rw [natV_len]
    intro rp rdx nx ndx nex
    have s0 : Same H0 (upd (upd H0 rdx (.own rp)) rp (.ins a.C_Reads rdx [])) := fun b o e => by
      rw [upd_ne (ne_of_none e nx), upd_ne (ne_of_none e ndx)]
      exact e
    have free : ∀ {z : Addr}, H0 z = none → H z = none := fun {z} hz => by
      cases e : H z with
      | none => rfl
      | some o =>
        by_cases hzp : z = p
        · rw [hzp, g0] at hz
          cases hz
        · rw [fr0 z o e hzp] at hz
          cases hz
    refine ⟨rp, rdx, g.length, rfl, upd_same, hg, fun H1 cA wA oA fr nc nw no R => ⟨rfl, ?_⟩⟩
    have s1 : Same H0 H1 := Same.made nx ndx fr
    refine ⟨_, rfl, p, a.C_Genome, dx, _, rfl, s1 _ _ g0, T.cl_Genome, T.n_Genome_reads, by show 1 < 1000; decide, ?_⟩
    rw [put_miss (by decide +kernel), put_nil]
    have hc0 : H0 cA = none := s0.free nc
    have hw0 : H0 wA = none := s0.free nw
    have ho0 : H0 oA = none := s0.free no
    have keep : ∀ b o, H1 b = some o → b ≠ p → upd H1 p (.ins a.C_Genome dx [("codes", .ref qc), ("reads", .ref rp)]) b = some o := fun b o e hb => by rw [upd_ne hb]; exact e
    have pc : cA ≠ p := (ne_of_none g0 hc0).symm
    have pw : wA ≠ p := (ne_of_none g0 hw0).symm
    have po : oA ≠ p := (ne_of_none g0 ho0).symm
    have pr : rp ≠ p := (ne_of_none g0 nx).symm
    refine k _ rp rdx cA wA oA (fun b o e hb => keep b o (s1 _ _ (fr0 b o e hb)) hb) (free hc0) (free hw0) (free ho0) ⟨upd_same, keep _ _ (s1 _ _ c0) hpq, ⟨keep _ _ R.ob pr, keep _ _ R.c pc, keep _ _ R.w pw, keep _ _ R.o po, R.cw, R.co, R.wo, R.four⟩, ne_of_none c0 hc0, ne_of_none c0 hw0, ne_of_none c0 ho0, h4, hg, ?_⟩
    show (List.replicate g.length Sg42.blank).length = g.length
    rw [List.length_replicate]
theorem sc_Genome_find_places : FnScope ["self", "step", "m", "most", "places"] ["self", "step"] (defScope s_Genome_find_places) := ⟨rfl, rfl, rfl, by decide +kernel, rfl, by decide +kernel, by decide +kernel⟩
theorem ok_Genome_find_places (T : Txt K mg a) : FnOk P w K mg bh CX0 5 a.f_Genome_find_places a.d_Genome_find_places ["self", "step"] (sp_part a.C_Genome a.C_Reads F1 K) := by
  obtain ⟨_, h_MOST_SOUGHT⟩ := T.c_MOST_SOUGHT
  obtain ⟨_, h_MOST_TOLD⟩ := T.c_MOST_TOLD
  refine T.F_Genome_find_places.ok sc_Genome_find_places (fun vs H Q E h => ?_) (fun cdv A outer s H vs Q E hr h => ?_)
  · obtain ⟨p, q, dx, qc, rp, rdx, cA, wA, oA, x, st, rfl, _⟩ := h
    rfl
  · obtain ⟨p, q, dx, qc, rp, rdx, cA, wA, oA, x, st, rfl, G, hq, ⟨m, most, b, rfl, hb, hbl, hbm⟩, k⟩ := h
    refine ⟨_, (pss_cons (ps_set (i := 2) sc_Genome_find_places.nd rfl (Or.inl rfl) (pe_ix (r := rIxL K) ix_list (pv 1) pe_int (fun _ _ => rfl)))
      (pss_cons (ps_set (i := 3) sc_Genome_find_places.nd rfl (Or.inl rfl) (pe_ix (r := rIxL K) ix_list (pv 1) pe_int (fun _ _ => rfl)))
      (pss_cons (ps_if (PW.pt (pw_or (pt_val (pe_call (ok_outside T) (hr.mono (by decide)) rfl T.g_outside T.F_outside.kp T.B_outside .nil pass0 (pa_cons (pv 2) (pa_cons pe_int (pa_cons (pe_glob (v := .int 1024) rfl h_MOST_SOUGHT ⟨_, rfl⟩) pa_nil))))) (pw_or1 (pt_val (pe_call (ok_outside T) (hr.mono (by decide)) rfl T.g_outside T.F_outside.kp T.B_outside .nil pass0 (pa_cons (pv 3) (pa_cons pe_int (pa_cons (pe_glob (v := .int 65536) rfl h_MOST_TOLD ⟨_, rfl⟩) pa_nil)))))))) (pss_one (ps_ret (pe_lst (pa_cons (pe_un un_neg pe_int) pa_nil)))) pss_nil)
      (pss_cons (ps_set (i := 4) sc_Genome_find_places.nd rfl (Or.inl rfl) (pe_call (ok_places_of T) (hr.mono (by decide)) rfl T.g_places_of T.F_places_of.kp T.B_places_of .nil pass0 (pa_cons (pe_fld (pv 0) rfl) (pa_cons (pe_call (ok_read_bases T) (hr.mono (by decide)) rfl T.g_read_bases T.F_read_bases.kp T.B_read_bases .nil pass0 (pa_cons (pe_slice (r := rSlL K) sl_list (pv 1) (po_some pe_int) po_none) (pa_cons pe_int (pa_cons (pv 2) pa_nil)))) pa_nil))))
      (pss_one (ps_ret (pe_op op_cat (pe_lst (pa_cons (pe_callB (call_len_seq) (by rfl) T.b_len PySem.boot_len (pa_cons (pv 4) pa_nil)) pa_nil)) (pe_slice (r := rSlL K) sl_list (pv 4) po_none (po_some (pv 3)))))))))), ?_⟩
    have hsz := sizeIs
    have pe := part_find x hb m most
    refine ⟨_, rfl, q, _, _, _, rfl, rfl, hq, at_of (j := 1) rfl rfl, ?_⟩
    refine ⟨_, rfl, q, _, _, _, rfl, rfl, hq, at_of (j := 2) rfl rfl, ?_⟩
    have no : ¬ ((1 ≤ m ∧ m ≤ 1024) ∧ 0 ≤ most ∧ most ≤ 65536) → ∀ l, H l = none → Q (.ref l) (upd H l (.lst [V.int (-1)])) := fun h l hl => by
      rw [if_neg h] at pe
      exact told_of G k pe (by show 1 ≤ _; decide) (Br.Same.upd_new hl) hl upd_same
    refine ⟨_, rfl, m, 1, 1024, rfl, _, rfl, ite2 (fun h => iteT ?_) (fun h1 => ?_)⟩
    · exact ⟨_, rfl, by show 1 ≤ sizeLine; decide, no (by have := of_decide_eq_true h; omega)⟩
    have h1' : ¬ (m < 1 ∨ 1024 < m) := fun z => h1 (decide_eq_true z)
    refine ⟨_, rfl, most, 0, 65536, rfl, _, rfl, ite2 (fun h => ?_) (fun h2 => ?_)⟩
    · exact ⟨_, rfl, by show 1 ≤ sizeLine; decide, no (by have := of_decide_eq_true h; omega)⟩
    have h2' : ¬ (most < 0 ∨ 65536 < most) := fun z => h2 (decide_eq_true z)
    rw [if_pos ⟨⟨by omega, by omega⟩, by omega, by omega⟩] at pe
    have hbl2 := hbm ⟨by omega, by omega⟩
    refine ⟨_, rfl, p, a.C_Genome, dx, _, _, rfl, G.ob, T.cl_Genome, T.n_Genome_codes, gf_codes _ _, _, rfl, _, rfl, q, _, rfl, hq, fun q1 hq1 => ?_⟩
    rw [cut_drop _ (by decide)]
    have s1 : Same H (upd H q1 (.lst (((1 :: m :: most :: b).map V.int).drop (3 : Int).toNat))) := Br.Same.upd_new hq1
    have g1 : upd H q1 (.lst (((1 :: m :: most :: b).map V.int).drop (3 : Int).toNat)) q1 = some (.lst (b.map V.int)) := upd_same
    generalize upd H q1 (.lst (((1 :: m :: most :: b).map V.int).drop (3 : Int).toNat)) = H1 at s1 g1
    refine ⟨_, rfl, q1, b, 0, m, rfl, SqL.of g1, hb, by omega, by omega, by omega, by omega, by omega, fun r2 H2 s2 f2 g2 => ?_⟩
    have s12 := s1.trans s2
    have sl := seg_len b (0 : Int).toNat m.toNat
    refine ⟨qc, r2, x.genome, seg b (0 : Int).toNat m.toNat, rfl, SqL.of (s12 _ _ G.co), SqL.of g2, by omega, by omega, G.le, fun r3 H3 s3 f3 g3 => ?_⟩
    have s13 := s12.trans s3
    refine ⟨_, rfl, r3, _, rfl, .inl (SqL.of g3), by show 1 ≤ sizeLine; decide, fun l4 hl4 => ?_⟩
    rw [natV_len]
    have s4 : Same H (upd H3 l4 (.lst [V.int ((Sg42.places x.genome (seg b (0 : Int).toNat m.toNat)).length : Nat)])) := Br.Same.upd2 s13 (s13.free hl4)
    have g4 : upd H3 l4 (.lst [V.int ((Sg42.places x.genome (seg b (0 : Int).toNat m.toNat)).length : Nat)]) l4 = some (.lst [V.int ((Sg42.places x.genome (seg b (0 : Int).toNat m.toNat)).length : Nat)]) := upd_same
    have g43 : upd H3 l4 (.lst [V.int ((Sg42.places x.genome (seg b (0 : Int).toNat m.toNat)).length : Nat)]) r3 = some (.lst (natV (Sg42.places x.genome (seg b (0 : Int).toNat m.toNat)))) := by rw [upd_ne (ne_of_none g3 hl4)]; exact g3
    generalize upd H3 l4 (.lst [V.int ((Sg42.places x.genome (seg b (0 : Int).toNat m.toNat)).length : Nat)]) = H4 at s4 g4 g43
    refine ⟨_, rfl, _, rfl, _, rfl, r3, _, rfl, SqL.of g43, fun q5 hq5 => ?_⟩
    rw [cut_take _ (by omega), natV_take]
    have hlt : ((Sg42.places x.genome (seg b (0 : Int).toNat m.toNat)).take most.toNat).length ≤ 65536 := by rw [List.length_take]; omega
    have s5 : Same H (upd H4 q5 (.lst (natV ((Sg42.places x.genome (seg b (0 : Int).toNat m.toNat)).take most.toNat)))) := Br.Same.upd2 s4 (s4.free hq5)
    refine ⟨l4, q5, _, _, rfl, rfl, by rw [upd_ne (ne_of_none g4 hq5)]; exact g4, upd_same, by rw [natV_len]; show 1 + _ ≤ _; omega, fun r6 hr6 => ?_⟩
    refine told_of G k pe ?_ (Br.Same.upd2 s5 (s5.free hr6)) (s5.free hr6) ?_
    · unfold Sg42Neutral.ints
      rw [List.length_cons, List.length_map]
      exact Nat.le_trans (Nat.add_le_add_right hlt 1) (by decide)
    · rw [upd_same]
      rfl
theorem sc_Genome_find_longest : FnScope ["self", "step", "m", "begin"] ["self", "step"] (defScope s_Genome_find_longest) := ⟨rfl, rfl, rfl, by decide +kernel, rfl, by decide +kernel, by decide +kernel⟩
theorem ok_Genome_find_longest (T : Txt K mg a) : FnOk P w K mg bh CX0 5 a.f_Genome_find_longest a.d_Genome_find_longest ["self", "step"] (sp_part a.C_Genome a.C_Reads F2 K) := by
  obtain ⟨_, h_MOST_SOUGHT⟩ := T.c_MOST_SOUGHT
  refine T.F_Genome_find_longest.ok sc_Genome_find_longest (fun vs H Q E h => ?_) (fun cdv A outer s H vs Q E hr h => ?_)
  · obtain ⟨p, q, dx, qc, rp, rdx, cA, wA, oA, x, st, rfl, _⟩ := h
    rfl
  · obtain ⟨p, q, dx, qc, rp, rdx, cA, wA, oA, x, st, rfl, G, hq, ⟨m, f, b, rfl, hb, hbl, hbm⟩, k⟩ := h
    refine ⟨_, (pss_cons (ps_set (i := 2) sc_Genome_find_longest.nd rfl (Or.inl rfl) (pe_ix (r := rIxL K) ix_list (pv 1) pe_int (fun _ _ => rfl)))
      (pss_cons (ps_set (i := 3) sc_Genome_find_longest.nd rfl (Or.inl rfl) (pe_ix (r := rIxL K) ix_list (pv 1) pe_int (fun _ _ => rfl)))
      (pss_cons (ps_if (PW.pt (pw_or (pt_val (pe_call (ok_outside T) (hr.mono (by decide)) rfl T.g_outside T.F_outside.kp T.B_outside .nil pass0 (pa_cons (pv 2) (pa_cons pe_int (pa_cons (pe_glob (v := .int 1024) rfl h_MOST_SOUGHT ⟨_, rfl⟩) pa_nil))))) (pw_or1 (pt_val (pe_call (ok_outside T) (hr.mono (by decide)) rfl T.g_outside T.F_outside.kp T.B_outside .nil pass0 (pa_cons (pv 3) (pa_cons pe_int (pa_cons (pv 2) pa_nil)))))))) (pss_one (ps_ret (pe_lst (pa_cons (pe_un un_neg pe_int) pa_nil)))) pss_nil)
      (pss_one (ps_ret (pe_lst (pa_cons (pe_call (ok_longest_beginning T) (hr.mono (by decide)) rfl T.g_longest_beginning T.F_longest_beginning.kp T.B_longest_beginning .nil pass0 (pa_cons (pe_fld (pv 0) rfl) (pa_cons (pe_call (ok_read_bases T) (hr.mono (by decide)) rfl T.g_read_bases T.F_read_bases.kp T.B_read_bases .nil pass0 (pa_cons (pe_slice (r := rSlL K) sl_list (pv 1) (po_some pe_int) po_none) (pa_cons (pv 3) (pa_cons (pe_op op_sub (pv 2) (pv 3)) pa_nil)))) pa_nil))) pa_nil))))))), ?_⟩
    have pe := part_longest x hb m f
    refine ⟨_, rfl, q, _, _, _, rfl, rfl, hq, at_of (j := 1) rfl rfl, ?_⟩
    refine ⟨_, rfl, q, _, _, _, rfl, rfl, hq, at_of (j := 2) rfl rfl, ?_⟩
    have no : ¬ ((1 ≤ m ∧ m ≤ 1024) ∧ 0 ≤ f ∧ f ≤ m) → ∀ l, H l = none → Q (.ref l) (upd H l (.lst [V.int (-1)])) := fun h l hl => by
      rw [if_neg h] at pe
      exact told_of G k pe (by show 1 ≤ _; decide) (Br.Same.upd_new hl) hl upd_same
    refine ⟨_, rfl, m, 1, 1024, rfl, _, rfl, ite2 (fun h => iteT ?_) (fun h1 => ?_)⟩
    · exact ⟨_, rfl, by show 1 ≤ sizeLine; decide, no (by have := of_decide_eq_true h; omega)⟩
    have h1' : ¬ (m < 1 ∨ 1024 < m) := fun z => h1 (decide_eq_true z)
    refine ⟨_, rfl, _, rfl, f, 0, m, rfl, _, rfl, ite2 (fun h => ?_) (fun h2 => ?_)⟩
    · exact ⟨_, rfl, by show 1 ≤ sizeLine; decide, no (by have := of_decide_eq_true h; omega)⟩
    have h2' : ¬ (f < 0 ∨ m < f) := fun z => h2 (decide_eq_true z)
    rw [if_pos ⟨⟨by omega, by omega⟩, by omega, by omega⟩] at pe
    have hbl2 := hbm ⟨by omega, by omega⟩
    refine ⟨_, rfl, p, a.C_Genome, dx, _, _, rfl, G.ob, T.cl_Genome, T.n_Genome_codes, gf_codes _ _, _, rfl, _, rfl, q, _, rfl, hq, fun q1 hq1 => ?_⟩
    rw [cut_drop _ (by decide)]
    have s1 : Same H (upd H q1 (.lst (((2 :: m :: f :: b).map V.int).drop (3 : Int).toNat))) := Br.Same.upd_new hq1
    have g1 : upd H q1 (.lst (((2 :: m :: f :: b).map V.int).drop (3 : Int).toNat)) q1 = some (.lst (b.map V.int)) := upd_same
    generalize upd H q1 (.lst (((2 :: m :: f :: b).map V.int).drop (3 : Int).toNat)) = H1 at s1 g1
    refine ⟨_, rfl, _, rfl, _, rfl, _, _, rfl, rfl, q1, b, f, m - f, rfl, SqL.of g1, hb, by omega, by omega, by omega, by omega, by omega, fun r2 H2 s2 f2 g2 => ?_⟩
    have s12 := s1.trans s2
    have sl := seg_len b f.toNat (m - f).toNat
    refine ⟨qc, r2, x.genome, seg b f.toNat (m - f).toNat, rfl, SqL.of (s12 _ _ G.co), SqL.of g2, by omega, G.le, fun H3 s3 => ?_⟩
    have s13 := s12.trans s3
    exact ⟨by show 1 ≤ sizeLine; decide, fun l4 hl4 => told_of G k pe (by show 1 ≤ _; decide) (Br.Same.upd2 s13 (s13.free hl4)) (s13.free hl4) upd_same⟩
theorem sc_Genome_find_near : FnScope ["self", "step", "m", "k", "most", "ends"] ["self", "step"] (defScope s_Genome_find_near) := ⟨rfl, rfl, rfl, by decide +kernel, rfl, by decide +kernel, by decide +kernel⟩
theorem ok_Genome_find_near (T : Txt K mg a) : FnOk P w K mg bh CX0 4 a.f_Genome_find_near a.d_Genome_find_near ["self", "step"] (sp_part a.C_Genome a.C_Reads F3 K) := by
  obtain ⟨_, h_MOST_NEAR⟩ := T.c_MOST_NEAR
  obtain ⟨_, h_MOST_TOLD⟩ := T.c_MOST_TOLD
  refine T.F_Genome_find_near.ok sc_Genome_find_near (fun vs H Q E h => ?_) (fun cdv A outer s H vs Q E hr h => ?_)
  · obtain ⟨p, q, dx, qc, rp, rdx, cA, wA, oA, x, st, rfl, _⟩ := h
    rfl
  · obtain ⟨p, q, dx, qc, rp, rdx, cA, wA, oA, x, st, rfl, G, hq, ⟨m, c, most, b, rfl, hb, hbl, hbm⟩, k⟩ := h
    refine ⟨_, (pss_cons (ps_set (i := 2) sc_Genome_find_near.nd rfl (Or.inl rfl) (pe_ix (r := rIxL K) ix_list (pv 1) pe_int (fun _ _ => rfl)))
      (pss_cons (ps_set (i := 3) sc_Genome_find_near.nd rfl (Or.inl rfl) (pe_ix (r := rIxL K) ix_list (pv 1) pe_int (fun _ _ => rfl)))
      (pss_cons (ps_set (i := 4) sc_Genome_find_near.nd rfl (Or.inl rfl) (pe_ix (r := rIxL K) ix_list (pv 1) pe_int (fun _ _ => rfl)))
      (pss_cons (ps_if (PW.pt (pw_or (pt_val (pe_call (ok_outside T) (hr.mono (by decide)) rfl T.g_outside T.F_outside.kp T.B_outside .nil pass0 (pa_cons (pv 2) (pa_cons pe_int (pa_cons (pe_glob (v := .int 512) rfl h_MOST_NEAR ⟨_, rfl⟩) pa_nil))))) (pw_or (pt_val (pe_call (ok_outside T) (hr.mono (by decide)) rfl T.g_outside T.F_outside.kp T.B_outside .nil pass0 (pa_cons (pv 3) (pa_cons pe_int (pa_cons (pv 2) pa_nil))))) (pw_or1 (pt_val (pe_call (ok_outside T) (hr.mono (by decide)) rfl T.g_outside T.F_outside.kp T.B_outside .nil pass0 (pa_cons (pv 4) (pa_cons pe_int (pa_cons (pe_glob (v := .int 65536) rfl h_MOST_TOLD ⟨_, rfl⟩) pa_nil))))))))) (pss_one (ps_ret (pe_lst (pa_cons (pe_un un_neg pe_int) pa_nil)))) pss_nil)
      (pss_cons (ps_set (i := 5) sc_Genome_find_near.nd rfl (Or.inl rfl) (pe_call (ok_near_ends T) (hr.mono (by decide)) rfl T.g_near_ends T.F_near_ends.kp T.B_near_ends .nil pass0 (pa_cons (pe_fld (pv 0) rfl) (pa_cons (pe_call (ok_read_bases T) (hr.mono (by decide)) rfl T.g_read_bases T.F_read_bases.kp T.B_read_bases .nil pass0 (pa_cons (pe_slice (r := rSlL K) sl_list (pv 1) (po_some pe_int) po_none) (pa_cons pe_int (pa_cons (pv 2) pa_nil)))) (pa_cons (pv 3) pa_nil)))))
      (pss_one (ps_ret (pe_op op_cat (pe_lst (pa_cons (pe_callB (call_len_seq) (by rfl) T.b_len PySem.boot_len (pa_cons (pv 5) pa_nil)) pa_nil)) (pe_slice (r := rSlL K) sl_list (pv 5) po_none (po_some (pv 4))))))))))), ?_⟩
    have hsz := sizeIs
    have pe := part_near x hb m c most
    refine ⟨_, rfl, q, _, _, _, rfl, rfl, hq, at_of (j := 1) rfl rfl, ?_⟩
    refine ⟨_, rfl, q, _, _, _, rfl, rfl, hq, at_of (j := 2) rfl rfl, ?_⟩
    refine ⟨_, rfl, q, _, _, _, rfl, rfl, hq, at_of (j := 3) rfl rfl, ?_⟩
    have no : ¬ ((1 ≤ m ∧ m ≤ 512) ∧ (0 ≤ c ∧ c ≤ m) ∧ 0 ≤ most ∧ most ≤ 65536) → ∀ l, H l = none → Q (.ref l) (upd H l (.lst [V.int (-1)])) := fun h l hl => by
      rw [if_neg h] at pe
      exact told_of G k pe (by show 1 ≤ _; decide) (Br.Same.upd_new hl) hl upd_same
    refine ⟨_, rfl, m, 1, 512, rfl, _, rfl, ite2 (fun h => iteT ?_) (fun h1 => ?_)⟩
    · exact ⟨_, rfl, by show 1 ≤ sizeLine; decide, no (by have := of_decide_eq_true h; omega)⟩
    have h1' : ¬ (m < 1 ∨ 512 < m) := fun z => h1 (decide_eq_true z)
    refine ⟨_, rfl, _, rfl, c, 0, m, rfl, _, rfl, ite2 (fun h => iteT ?_) (fun h2 => ?_)⟩
    · exact ⟨_, rfl, by show 1 ≤ sizeLine; decide, no (by have := of_decide_eq_true h; omega)⟩
    have h2' : ¬ (c < 0 ∨ m < c) := fun z => h2 (decide_eq_true z)
    refine ⟨_, rfl, most, 0, 65536, rfl, _, rfl, ite2 (fun h => ?_) (fun h3 => ?_)⟩
    · exact ⟨_, rfl, by show 1 ≤ sizeLine; decide, no (by have := of_decide_eq_true h; omega)⟩
    have h3' : ¬ (most < 0 ∨ 65536 < most) := fun z => h3 (decide_eq_true z)
    rw [if_pos ⟨⟨by omega, by omega⟩, ⟨by omega, by omega⟩, by omega, by omega⟩] at pe
    have hbl2 := hbm ⟨by omega, by omega⟩
    refine ⟨_, rfl, p, a.C_Genome, dx, _, _, rfl, G.ob, T.cl_Genome, T.n_Genome_codes, gf_codes _ _, _, rfl, _, rfl, q, _, rfl, hq, fun q1 hq1 => ?_⟩
    rw [cut_drop _ (by decide)]
    have s1 : Same H (upd H q1 (.lst (((3 :: m :: c :: most :: b).map V.int).drop (4 : Int).toNat))) := Br.Same.upd_new hq1
    have g1 : upd H q1 (.lst (((3 :: m :: c :: most :: b).map V.int).drop (4 : Int).toNat)) q1 = some (.lst (b.map V.int)) := upd_same
    generalize upd H q1 (.lst (((3 :: m :: c :: most :: b).map V.int).drop (4 : Int).toNat)) = H1 at s1 g1
    refine ⟨_, rfl, q1, b, 0, m, rfl, SqL.of g1, hb, by omega, by omega, by omega, by omega, by omega, fun r2 H2 s2 f2 g2 => ?_⟩
    have s12 := s1.trans s2
    have sl := seg_len b (0 : Int).toNat m.toNat
    refine ⟨_, rfl, qc, r2, x.genome, seg b (0 : Int).toNat m.toNat, c, rfl, SqL.of (s12 _ _ G.co), SqL.of g2, by omega, by omega, G.le, G.g4, seg_lt b _ _, by omega, fun r3 H3 s3 f3 g3 => ?_⟩
    have s13 := s12.trans s3
    refine ⟨_, rfl, r3, _, rfl, .inl (SqL.of g3), by show 1 ≤ sizeLine; decide, fun l4 hl4 => ?_⟩
    rw [natV_len]
    have s4 : Same H (upd H3 l4 (.lst [V.int ((Sg42.near x.genome (seg b (0 : Int).toNat m.toNat) c.toNat).length : Nat)])) := Br.Same.upd2 s13 (s13.free hl4)
    have g4 : upd H3 l4 (.lst [V.int ((Sg42.near x.genome (seg b (0 : Int).toNat m.toNat) c.toNat).length : Nat)]) l4 = some (.lst [V.int ((Sg42.near x.genome (seg b (0 : Int).toNat m.toNat) c.toNat).length : Nat)]) := upd_same
    have g43 : upd H3 l4 (.lst [V.int ((Sg42.near x.genome (seg b (0 : Int).toNat m.toNat) c.toNat).length : Nat)]) r3 = some (.lst (natV (Sg42.near x.genome (seg b (0 : Int).toNat m.toNat) c.toNat))) := by rw [upd_ne (ne_of_none g3 hl4)]; exact g3
    generalize upd H3 l4 (.lst [V.int ((Sg42.near x.genome (seg b (0 : Int).toNat m.toNat) c.toNat).length : Nat)]) = H4 at s4 g4 g43
    refine ⟨_, rfl, _, rfl, _, rfl, r3, _, rfl, SqL.of g43, fun q5 hq5 => ?_⟩
    rw [cut_take _ (by omega), natV_take]
    have hlt : ((Sg42.near x.genome (seg b (0 : Int).toNat m.toNat) c.toNat).take most.toNat).length ≤ 65536 := by rw [List.length_take]; omega
    have s5 : Same H (upd H4 q5 (.lst (natV ((Sg42.near x.genome (seg b (0 : Int).toNat m.toNat) c.toNat).take most.toNat)))) := Br.Same.upd2 s4 (s4.free hq5)
    refine ⟨l4, q5, _, _, rfl, rfl, by rw [upd_ne (ne_of_none g4 hq5)]; exact g4, upd_same, by rw [natV_len]; show 1 + _ ≤ _; omega, fun r6 hr6 => ?_⟩
    refine told_of G k pe ?_ (Br.Same.upd2 s5 (s5.free hr6)) (s5.free hr6) ?_
    · unfold Sg42Neutral.ints
      rw [List.length_cons, List.length_map]
      exact Nat.le_trans (Nat.add_le_add_right hlt 1) (by decide)
    · rw [upd_same]
      rfl
end
end Py

/-! Steps that tell of the reads. -/
namespace Py
open PySem L2 Br Gr
open Sg42 (Spot Desk)
theorem foldl_min_spec : ∀ (l : List Nat) (a : Nat), l.foldl min a ≤ a ∧ (∀ y ∈ l, l.foldl min a ≤ y) ∧ (l.foldl min a = a ∨ l.foldl min a ∈ l)
  | [], a => ⟨Nat.le_refl _, fun y hy => (nomatch hy), .inl rfl⟩
  | b :: l, a => by
    obtain ⟨h1, h2, h3⟩ := foldl_min_spec l (min a b)
    rw [List.foldl_cons]
    refine ⟨by omega, fun y hy => ?_, ?_⟩
    · rcases List.mem_cons.mp hy with e | e
      · subst e; omega
      · exact h2 y e
    · rcases h3 with e | e
      · by_cases c : a ≤ b
        · left; omega
        · right
          rw [e, show min a b = b by omega]
          exact List.mem_cons_self
      · exact .inr (List.mem_cons_of_mem _ e)
theorem min_is {l : List Nat} {m : Int} (h1 : m ∈ l.map fun (n : Nat) => (n : Int)) (h2 : ∀ y ∈ l.map fun (n : Nat) => (n : Int), m ≤ y) : m = ((l.foldl min (l.headD 0) : Nat) : Int) := by
  obtain ⟨m', hm', rfl⟩ := List.mem_map.mp h1
  obtain ⟨a1, a2, a3⟩ := foldl_min_spec l (l.headD 0)
  have b1 := a2 m' hm'
  have hh : l.headD 0 ∈ l := by
    cases l with
    | nil => cases hm'
    | cons y l => exact List.mem_cons_self
  have hmem : l.foldl min (l.headD 0) ∈ l := by
    rcases a3 with e | e
    · rw [e]; exact hh
    · exact e
  have b2 : ((m' : Nat) : Int) ≤ ((l.foldl min (l.headD 0) : Nat) : Int) := h2 _ (List.mem_map_of_mem hmem)
  show ((m' : Nat) : Int) = _
  omega
theorem max_is {l : List Nat} {m : Int} (h1 : m ∈ l.map fun (n : Nat) => (n : Int)) (h2 : ∀ y ∈ l.map fun (n : Nat) => (n : Int), y ≤ m) : m = ((l.foldl max 0 : Nat) : Int) := by
  obtain ⟨m', hm', rfl⟩ := List.mem_map.mp h1
  obtain ⟨a1, a2, a3⟩ := foldl_max_spec l 0
  have b1 := a2 m' hm'
  show ((m' : Nat) : Int) = _
  rcases a3 with e | e
  · omega
  · have b2 : ((l.foldl max 0 : Nat) : Int) ≤ ((m' : Nat) : Int) := h2 _ (List.mem_map_of_mem e)
    omega
section
variable {P : Program} {w : World} {K : PySem.W.Frag} {mg : Str → Option Value} {bh : Heap} {a : Adr}
theorem sc_Genome_tell_said : FnScope ["self", "step", "begin", "end", "place"] ["self", "step"] (defScope s_Genome_tell_said) := ⟨rfl, rfl, rfl, by decide +kernel, rfl, by decide +kernel, by decide +kernel⟩
theorem ok_Genome_tell_said (T : Txt K mg a) : FnOk P w K mg bh CX0 3 a.f_Genome_tell_said a.d_Genome_tell_said ["self", "step"] (sp_part a.C_Genome a.C_Reads F6 K) := by
  refine T.F_Genome_tell_said.ok sc_Genome_tell_said (fun vs H Q E h => ?_) (fun cdv A outer s H vs Q E hr h => ?_)
  · obtain ⟨p, q, dx, qc, rp, rdx, cA, wA, oA, x, st, rfl, _⟩ := h
    rfl
  · obtain ⟨p, q, dx, qc, rp, rdx, cA, wA, oA, x, st, rfl, G, hq, ⟨f, t, rfl⟩, k⟩ := h
    refine ⟨_, (pss_cons (ps_set (i := 2) sc_Genome_tell_said.nd rfl (Or.inl rfl) (pe_ix (r := rIxL K) ix_list (pv 1) pe_int (fun _ _ => rfl)))
      (pss_cons (ps_set (i := 3) sc_Genome_tell_said.nd rfl (Or.inl rfl) (pe_ix (r := rIxL K) ix_list (pv 1) pe_int (fun _ _ => rfl)))
      (pss_cons (ps_if (PW.pt (pw_or (pt_val (pe_call (ok_outside T) (hr.mono (by decide)) rfl T.g_outside T.F_outside.kp T.B_outside .nil pass0 (pa_cons (pv 2) (pa_cons pe_int (pa_cons (pe_callB (call_len_seq) (by rfl) T.b_len PySem.boot_len (pa_cons (pe_fld (pv 0) rfl) pa_nil)) pa_nil))))) (pw_or1 (pt_val (pe_call (ok_outside T) (hr.mono (by decide)) rfl T.g_outside T.F_outside.kp T.B_outside .nil pass0 (pa_cons (pv 3) (pa_cons (pv 2) (pa_cons (pe_callB (call_len_seq) (by rfl) T.b_len PySem.boot_len (pa_cons (pe_fld (pv 0) rfl) pa_nil)) pa_nil)))))))) (pss_one (ps_ret (pe_lst (pa_cons (pe_un un_neg pe_int) pa_nil)))) pss_nil)
      (pss_one (ps_ret (pe_op op_cat (pe_lst (pa_cons pe_int pa_nil)) (pe_lc (own := [("place", 4)]) rfl sc_Genome_tell_said.nd (pi_range2 rfl T.b_range (pa_cons (pv 2) (pa_cons (pv 3) pa_nil))) (blkOk_by (N := ["self", "step", "begin", "end", "place"]) (sc := defScope s_Genome_tell_said) (by decide +kernel)) (fun _ _ _ _ _ => (pg_name (i := 4) sc_Genome_tell_said.nd rfl (Or.inl rfl))) (fun _ _ _ _ _ => pts_nil)
        (fun _ _ _ _ _ => (pe_meth (pl := _) (show PE _ _ (tFld K _ _) from pe_fld (pv 0) rfl) T.cl_Reads T.m_Reads_said_at (ok_Reads_said_at T) (hr.mono (by decide)) T.B_Reads_said_at .nil pass0 (pa_cons (pv 4) pa_nil)))))))))), ?_⟩
    have hsz := sizeIs
    have pe := part_said x f t
    have gle := G.le
    have gln := G.ln
    refine ⟨_, rfl, q, _, _, _, rfl, rfl, hq, at_of (j := 1) rfl rfl, ?_⟩
    refine ⟨_, rfl, q, _, _, _, rfl, rfl, hq, at_of (j := 2) rfl rfl, ?_⟩
    have no : ¬ (0 ≤ f ∧ f ≤ t ∧ t ≤ x.genome.length) → ∀ l, H l = none → Q (.ref l) (upd H l (.lst [V.int (-1)])) := fun h l hl => by
      rw [if_neg h] at pe
      exact told_of G k pe (by show 1 ≤ _; decide) (Br.Same.upd_new hl) hl upd_same
    refine ⟨_, rfl, _, rfl, p, a.C_Genome, dx, _, _, rfl, G.ob, T.cl_Genome, T.n_Genome_codes, gf_codes _ _, qc, _, rfl, .inl (SqL.of G.co), f, 0, x.genome.length, by rw [natV_len]; rfl, _, rfl, ite2 (fun h => iteT ?_) (fun h1 => ?_)⟩
    · exact ⟨_, rfl, by show 1 ≤ sizeLine; decide, no (by have := of_decide_eq_true h; omega)⟩
    have h1' : ¬ (f < 0 ∨ (x.genome.length : Int) < f) := fun z => h1 (decide_eq_true z)
    refine ⟨_, rfl, _, rfl, _, rfl, p, a.C_Genome, dx, _, _, rfl, G.ob, T.cl_Genome, T.n_Genome_codes, gf_codes _ _, qc, _, rfl, .inl (SqL.of G.co), t, f, x.genome.length, by rw [natV_len]; rfl, _, rfl, ite2 (fun h => ?_) (fun h2 => ?_)⟩
    · exact ⟨_, rfl, by show 1 ≤ sizeLine; decide, no (by have := of_decide_eq_true h; omega)⟩
    have h2' : ¬ (t < f ∨ (x.genome.length : Int) < t) := fun z => h2 (decide_eq_true z)
    rw [if_pos ⟨by omega, by omega, by omega⟩] at pe
    refine ⟨by show 1 ≤ sizeLine; decide, fun l0 hl0 => ?_⟩
    have s0 : Same H (upd H l0 (.lst [V.int 0])) := Br.Same.upd_new hl0
    have g0 : upd H l0 (.lst [V.int 0]) l0 = some (.lst [V.int 0]) := upd_same
    generalize upd H l0 (.lst [V.int 0]) = H0 at s0 g0
    have G0 := G.same s0
    refine ⟨_, rfl, _, rfl, f, t, rfl, ⟨by omega, by omega, by omega, by omega⟩, fun D hD => lc_range (lo := f) (n := (t - f).toNat) (fun i H2 => Same H0 H2 ∧ H2 D = some (.lst ((Sg42Neutral.octets (((x.spots.drop f.toNat).take i).map Sg42.said)).map V.int))) ⟨Br.Same.upd_new hD, by rw [upd_same]; rfl⟩ ?_ ?_⟩
    · rintro i H2 hi ⟨s2, hD2⟩
      have G2 := G0.same s2
      have ex : x.spots[f.toNat + i]? = some (x.spots[f.toNat + i]'(by omega)) := List.getElem?_eq_getElem _
      refine ⟨rfl, ?_⟩
      refine ⟨_, rfl, p, a.C_Genome, dx, _, _, rfl, G2.ob, T.cl_Genome, T.n_Genome_reads, gf_reads _ _, rp, rdx, _, rfl, G2.rd.ob, rf_no _ _ _ _ (by decide +kernel) (by decide +kernel) (by decide +kernel) (by decide +kernel), _, rfl, rp, rdx, cA, wA, oA, x.spots, f.toNat + i, _, ?_, G2.rd, ex, by omega, fun H3 s3 => ⟨_, s3 _ _ hD2, ?_, Br.Same.upd2 (s2.trans s3) hD, ?_⟩⟩
      · show [V.ref rp, V.int (f + ((i : Nat) : Int))] = _
        rw [show f + ((i : Nat) : Int) = ((f.toNat + i : Nat) : Int) by omega]
      · unfold Sg42Neutral.octets
        rw [List.length_map, List.length_map, List.length_map, List.length_take, hsz]
        omega
      · rw [upd_same]
        have e : ((x.spots.drop f.toNat).take (i + 1)) = (x.spots.drop f.toNat).take i ++ [x.spots[f.toNat + i]'(by omega)] := by
          rw [List.take_add_one, List.getElem?_drop, ex]
          rfl
        rw [e]
        unfold Sg42Neutral.octets
        rw [List.map_append, List.map_append, List.map_append]
        rfl
    · rintro H2 ⟨s2, hD2⟩
      have s02 := s0.trans s2
      have hlen : (Sg42Neutral.octets (((x.spots.drop f.toNat).take (t - f).toNat).map Sg42.said)).length ≤ 65536 := by
        unfold Sg42Neutral.octets
        rw [List.length_map, List.length_map, List.length_take]
        omega
      refine ⟨l0, D, _, _, rfl, rfl, s2 _ _ g0, hD2, by rw [List.length_map]; show 1 + _ ≤ _; omega, fun r hr' => ?_⟩
      refine told_of G k pe ?_ (Br.Same.upd2 s02 (s02.free hr')) (s02.free hr') (by rw [upd_same]; rfl)
      rw [List.length_cons]
      omega
theorem sc_Genome_tell_depth : FnScope ["self", "step", "begin", "end", "depths", "place"] ["self", "step"] (defScope s_Genome_tell_depth) := ⟨rfl, rfl, rfl, by decide +kernel, rfl, by decide +kernel, by decide +kernel⟩
theorem ok_Genome_tell_depth (T : Txt K mg a) : FnOk P w K mg bh CX0 2 a.f_Genome_tell_depth a.d_Genome_tell_depth ["self", "step"] (sp_part a.C_Genome a.C_Reads F7 K) := by
  refine T.F_Genome_tell_depth.ok sc_Genome_tell_depth (fun vs H Q E h => ?_) (fun cdv A outer s H vs Q E hr h => ?_)
  · obtain ⟨p, q, dx, qc, rp, rdx, cA, wA, oA, x, st, rfl, _⟩ := h
    rfl
  · obtain ⟨p, q, dx, qc, rp, rdx, cA, wA, oA, x, st, rfl, G, hq, ⟨f, t, rfl⟩, k⟩ := h
    refine ⟨_, (pss_cons (ps_set (i := 2) sc_Genome_tell_depth.nd rfl (Or.inl rfl) (pe_ix (r := rIxL K) ix_list (pv 1) pe_int (fun _ _ => rfl)))
      (pss_cons (ps_set (i := 3) sc_Genome_tell_depth.nd rfl (Or.inl rfl) (pe_ix (r := rIxL K) ix_list (pv 1) pe_int (fun _ _ => rfl)))
      (pss_cons (ps_if (PW.pt (pw_or (pt_val (pe_call (ok_outside T) (hr.mono (by decide)) rfl T.g_outside T.F_outside.kp T.B_outside .nil pass0 (pa_cons (pv 2) (pa_cons pe_int (pa_cons (pe_callB (call_len_seq) (by rfl) T.b_len PySem.boot_len (pa_cons (pe_fld (pv 0) rfl) pa_nil)) pa_nil))))) (pw_or1 (pt_val (pe_call (ok_outside T) (hr.mono (by decide)) rfl T.g_outside T.F_outside.kp T.B_outside .nil pass0 (pa_cons (pv 3) (pa_cons (pe_op op_add (pv 2) pe_int) (pa_cons (pe_callB (call_len_seq) (by rfl) T.b_len PySem.boot_len (pa_cons (pe_fld (pv 0) rfl) pa_nil)) pa_nil)))))))) (pss_one (ps_ret (pe_lst (pa_cons (pe_un un_neg pe_int) pa_nil)))) pss_nil)
      (pss_cons (ps_setLc (i := 4) (own := [("place", 5)]) rfl sc_Genome_tell_depth.nd rfl rfl (sw_true rfl rfl rfl rfl) (pi_range2 rfl T.b_range (pa_cons (pv 2) (pa_cons (pv 3) pa_nil))) (blkOk_by (N := ["self", "step", "begin", "end", "depths", "place"]) (sc := defScope s_Genome_tell_depth) (by decide +kernel)) (fun _ _ _ _ _ => (pg_name (i := 5) sc_Genome_tell_depth.nd rfl (Or.inl rfl))) (fun _ _ _ _ _ => pts_nil)
        (fun _ _ _ _ _ => (pe_meth (pl := _) (show PE _ _ (tFld K _ _) from pe_fld (pv 0) rfl) T.cl_Reads T.m_Reads_depth_at (ok_Reads_depth_at T) (hr.mono (by decide)) T.B_Reads_depth_at .nil pass0 (pa_cons (pv 5) pa_nil))))
      (pss_one (ps_ret (pe_lst (pa_cons pe_int (pa_cons (pe_callB (cr_min rfl) (by rfl) T.b_min PyProof.Rows.boot_min (pa_cons (pv 4) pa_nil)) (pa_cons (pe_callB (cr_max rfl) (by rfl) T.b_max PyProof.Rows.boot_max (pa_cons (pv 4) pa_nil)) pa_nil)))))))))), ?_⟩
    have hsz := sizeIs
    have pe := part_depth x f t
    have gle := G.le
    have gln := G.ln
    refine ⟨_, rfl, q, _, _, _, rfl, rfl, hq, at_of (j := 1) rfl rfl, ?_⟩
    refine ⟨_, rfl, q, _, _, _, rfl, rfl, hq, at_of (j := 2) rfl rfl, ?_⟩
    have no : ¬ (0 ≤ f ∧ f < t ∧ t ≤ x.genome.length) → ∀ l, H l = none → Q (.ref l) (upd H l (.lst [V.int (-1)])) := fun h l hl => by
      rw [if_neg h] at pe
      exact told_of G k pe (by show 1 ≤ _; decide) (Br.Same.upd_new hl) hl upd_same
    refine ⟨_, rfl, _, rfl, p, a.C_Genome, dx, _, _, rfl, G.ob, T.cl_Genome, T.n_Genome_codes, gf_codes _ _, qc, _, rfl, .inl (SqL.of G.co), f, 0, x.genome.length, by rw [natV_len]; rfl, _, rfl, ite2 (fun h => iteT ?_) (fun h1 => ?_)⟩
    · exact ⟨_, rfl, by show 1 ≤ sizeLine; decide, no (by have := of_decide_eq_true h; omega)⟩
    have h1' : ¬ (f < 0 ∨ (x.genome.length : Int) < f) := fun z => h1 (decide_eq_true z)
    refine ⟨_, rfl, _, rfl, _, _, rfl, rfl, _, rfl, p, a.C_Genome, dx, _, _, rfl, G.ob, T.cl_Genome, T.n_Genome_codes, gf_codes _ _, qc, _, rfl, .inl (SqL.of G.co), t, f + 1, x.genome.length, by rw [natV_len]; rfl, _, rfl, ite2 (fun h => ?_) (fun h2 => ?_)⟩
    · exact ⟨_, rfl, by show 1 ≤ sizeLine; decide, no (by have := of_decide_eq_true h; omega)⟩
    have h2' : ¬ (t < f + 1 ∨ (x.genome.length : Int) < t) := fun z => h2 (decide_eq_true z)
    rw [if_pos ⟨by omega, by omega, by omega⟩] at pe
    refine ⟨_, rfl, _, rfl, f, t, rfl, ⟨by omega, by omega, by omega, by omega⟩, fun D hD => lc_range (lo := f) (n := (t - f).toNat) (fun i H2 => Same H H2 ∧ H2 D = some (.lst (natV (((x.spots.drop f.toNat).take i).map Sg42.depth)))) ⟨Br.Same.upd_new hD, by rw [upd_same]; rfl⟩ ?_ ?_⟩
    · rintro i H2 hi ⟨s2, hD2⟩
      have G2 := G.same s2
      have ex : x.spots[f.toNat + i]? = some (x.spots[f.toNat + i]'(by omega)) := List.getElem?_eq_getElem _
      refine ⟨rfl, ?_⟩
      refine ⟨_, rfl, p, a.C_Genome, dx, _, _, rfl, G2.ob, T.cl_Genome, T.n_Genome_reads, gf_reads _ _, rp, rdx, _, rfl, G2.rd.ob, rf_no _ _ _ _ (by decide +kernel) (by decide +kernel) (by decide +kernel) (by decide +kernel), _, rfl, rp, rdx, cA, wA, oA, x.spots, f.toNat + i, _, ?_, G2.rd, ex, by omega, fun H3 s3 => ⟨_, s3 _ _ hD2, ?_, Br.Same.upd2 (s2.trans s3) hD, ?_⟩⟩
      · show [V.ref rp, V.int (f + ((i : Nat) : Int))] = _
        rw [show f + ((i : Nat) : Int) = ((f.toNat + i : Nat) : Int) by omega]
      · rw [natV_len, List.length_map, List.length_take, hsz]
        omega
      · rw [upd_same]
        have e : ((x.spots.drop f.toNat).take (i + 1)) = (x.spots.drop f.toNat).take i ++ [x.spots[f.toNat + i]'(by omega)] := by
          rw [List.take_add_one, List.getElem?_drop, ex]
          rfl
        rw [e, List.map_append, natV_snoc]
        rfl
    · rintro H2 ⟨s2, hD2⟩
      have hD3 : H2 D = some (.lst ((((depths x f t).map fun (n : Nat) => (n : Int))).map V.int)) := hD2
      have hlen : (depths x f t).length = (t - f).toNat := by
        unfold depths
        rw [List.length_map, List.length_take, List.length_drop]
        omega
      refine ⟨_, rfl, D, (depths x f t).map fun (n : Nat) => (n : Int), rfl, SqL.of hD3, by rw [List.length_map]; omega, fun m1 hm1 hle1 => ?_⟩
      refine ⟨_, rfl, D, (depths x f t).map fun (n : Nat) => (n : Int), rfl, SqL.of hD3, by rw [List.length_map]; omega, fun m2 hm2 hle2 => ?_⟩
      rw [min_is hm1 hle1, max_is hm2 hle2]
      exact ⟨by show 3 ≤ sizeLine; decide, fun l hl => told_of G k pe (by show 3 ≤ _; decide) (Br.Same.upd2 s2 (s2.free hl)) (s2.free hl) upd_same⟩
end
end Py

/-! The step that piles a read. -/
namespace Py
open PySem L2 Br Gr
open Sg42 (Spot Desk)
theorem cut_seg {st : List Int} (u v z : List Int) (e0 : st = u ++ v ++ z) {b e : Int} (hb : b = (u.length : Nat)) (he : e = ((u.length + v.length : Nat) : Int)) : cutV (st.map V.int) (some b) (some e) = v.map V.int := by
  subst e0
  rw [cut_both _ (by omega) (by omega), hb, he, Int.toNat_natCast, show (((u.length + v.length : Nat) : Int) - ((u.length : Nat) : Int)).toNat = v.length by omega]
  rw [List.append_assoc, List.map_append, List.map_append, List.drop_left' (by rw [List.length_map]), List.take_left' (by rw [List.length_map])]
theorem cut_end {st : List Int} (u v : List Int) (e0 : st = u ++ v) {b : Int} (hb : b = (u.length : Nat)) : cutV (st.map V.int) (some b) none = v.map V.int := by
  subst e0
  rw [cut_drop _ (by omega), hb, Int.toNat_natCast, List.map_append, List.drop_left' (by rw [List.length_map])]
section
variable {P : Program} {w : World} {K : PySem.W.Frag} {mg : Str → Option Value} {bh : Heap} {a : Adr}
theorem sc_Genome_pile_read : FnScope ["self", "step", "n", "place", "length", "begin", "codes", "qualities", "way"] ["self", "step"] (defScope s_Genome_pile_read) := ⟨rfl, rfl, rfl, by decide +kernel, rfl, by decide +kernel, by decide +kernel⟩
set_option maxHeartbeats 2000000 in
theorem ok_Genome_pile_read (T : Txt K mg a) : FnOk P w K mg bh CX0 3 a.f_Genome_pile_read a.d_Genome_pile_read ["self", "step"] (sp_part a.C_Genome a.C_Reads F5 K) := by
  obtain ⟨_, h_MOST_LETTERS⟩ := T.c_MOST_LETTERS
  obtain ⟨_, h_MOST_READ⟩ := T.c_MOST_READ
  refine T.F_Genome_pile_read.ok sc_Genome_pile_read (fun vs H Q E h => ?_) (fun cdv A outer s H vs Q E hr h => ?_)
  · obtain ⟨p, q, dx, qc, rp, rdx, cA, wA, oA, x, st, rfl, _⟩ := h
    rfl
  · obtain ⟨p, q, dx, qc, rp, rdx, cA, wA, oA, x, st, rfl, G, hq, ⟨n, pl, ln, rb, qu, wy, rfl, hrb, hqu, hwy, hn, hln, lr, lq, lw⟩, k⟩ := h
    refine ⟨_, (pss_cons (ps_set (i := 2) sc_Genome_pile_read.nd rfl (Or.inl rfl) (pe_ix (r := rIxL K) ix_list (pv 1) pe_int (fun _ _ => rfl)))
      (pss_cons (ps_set (i := 3) sc_Genome_pile_read.nd rfl (Or.inl rfl) (pe_ix (r := rIxL K) ix_list (pv 1) pe_int (fun _ _ => rfl)))
      (pss_cons (ps_set (i := 4) sc_Genome_pile_read.nd rfl (Or.inl rfl) (pe_ix (r := rIxL K) ix_list (pv 1) pe_int (fun _ _ => rfl)))
      (pss_cons (ps_if (PW.pt (pw_or (pt_val (pe_call (ok_outside T) (hr.mono (by decide)) rfl T.g_outside T.F_outside.kp T.B_outside .nil pass0 (pa_cons (pv 2) (pa_cons pe_int (pa_cons (pe_glob (v := .int 1024) rfl h_MOST_READ ⟨_, rfl⟩) pa_nil))))) (pw_or (pt_val (pe_call (ok_outside T) (hr.mono (by decide)) rfl T.g_outside T.F_outside.kp T.B_outside .nil pass0 (pa_cons (pv 3) (pa_cons pe_int (pa_cons (pe_callB (call_len_seq) (by rfl) T.b_len PySem.boot_len (pa_cons (pe_fld (pv 0) rfl) pa_nil)) pa_nil))))) (pw_or1 (pt_val (pe_call (ok_outside T) (hr.mono (by decide)) rfl T.g_outside T.F_outside.kp T.B_outside .nil pass0 (pa_cons (pv 4) (pa_cons pe_int (pa_cons (pe_glob (v := .int 4096) rfl h_MOST_LETTERS ⟨_, rfl⟩) pa_nil))))))))) (pss_one (ps_ret (pe_lst (pa_cons (pe_un un_neg pe_int) pa_nil)))) pss_nil)
      (pss_cons (ps_set (i := 5) sc_Genome_pile_read.nd rfl (Or.inl rfl) (pe_op op_add pe_int (pe_call (ok_bytes_for T) (hr.mono (by decide)) rfl T.g_bytes_for T.F_bytes_for.kp T.B_bytes_for .nil pass0 (pa_cons (pv 2) pa_nil))))
      (pss_cons (ps_set (i := 6) sc_Genome_pile_read.nd rfl (Or.inl rfl) (pe_call (ok_read_bases T) (hr.mono (by decide)) rfl T.g_read_bases T.F_read_bases.kp T.B_read_bases .nil pass0 (pa_cons (pe_slice (r := rSlL K) sl_list (pv 1) (po_some pe_int) (po_some (pv 5))) (pa_cons pe_int (pa_cons (pv 2) pa_nil)))))
      (pss_cons (ps_set (i := 7) sc_Genome_pile_read.nd rfl (Or.inl rfl) (pe_slice (r := rSlL K) sl_list (pv 1) (po_some (pv 5)) (po_some (pe_op op_add (pv 5) (pv 2)))))
      (pss_cons (ps_set (i := 8) sc_Genome_pile_read.nd rfl (Or.inl rfl) (pe_slice (r := rSlL K) sl_list (pv 1) (po_some (pe_op op_add (pv 5) (pv 2))) (po_some (pe_op op_add (pe_op op_add (pv 5) (pv 2)) (pv 4)))))
      (pss_cons (ps_if (pt_not (pt_val (pe_meth (pl := _) (pe_fld (pv 0) rfl) T.cl_Reads T.m_Reads_fits (ok_Reads_fits T) (hr.mono (by decide)) T.B_Reads_fits .nil pass0 (pa_cons (pv 6) (pa_cons (pv 7) (pa_cons (pv 8) (pa_cons (pv 3) pa_nil))))))) (pss_one (ps_ret (pe_lst (pa_cons (pe_un un_neg pe_int) pa_nil)))) pss_nil)
      (pss_cons (ps_expr (pe_meth (pl := _) (pe_fld (pv 0) rfl) T.cl_Reads T.m_Reads_pile (ok_Reads_pile T) (hr.mono (by decide)) T.B_Reads_pile .nil pass0 (pa_cons (pv 6) (pa_cons (pv 7) (pa_cons (pv 8) (pa_cons (pv 3) pa_nil))))))
      (pss_one (ps_ret (pe_lst (pa_cons pe_int pa_nil)))))))))))))), ?_⟩
    have hsz := sizeIs
    have pe := part_pile x hrb hqu (w := wy) n pl ln hn hln lr lq
    have gle := G.le
    have gln := G.ln
    refine ⟨_, rfl, q, _, _, _, rfl, rfl, hq, at_of (j := 1) rfl rfl, ?_⟩
    refine ⟨_, rfl, q, _, _, _, rfl, rfl, hq, at_of (j := 2) rfl rfl, ?_⟩
    refine ⟨_, rfl, q, _, _, _, rfl, rfl, hq, at_of (j := 3) rfl rfl, ?_⟩
    refine ⟨_, rfl, n, 0, 1024, rfl, _, rfl, ite2 (fun h => absurd (of_decide_eq_true h) (by omega)) (fun _ => ?_)⟩
    refine ⟨_, rfl, _, rfl, p, a.C_Genome, dx, _, _, rfl, G.ob, T.cl_Genome, T.n_Genome_codes, gf_codes _ _, qc, _, rfl, .inl (SqL.of G.co), pl, 0, x.genome.length, by rw [natV_len]; rfl, _, rfl, ite2 (fun h => iteT ?_) (fun h1 => ?_)⟩
    · have h' := of_decide_eq_true h
      rw [if_neg (fun z => by omega)] at pe
      exact ⟨_, rfl, by show 1 ≤ sizeLine; decide, fun l hl => told_of G k pe (by show 1 ≤ _; decide) (Br.Same.upd_new hl) hl upd_same⟩
    have h1' : ¬ (pl < 0 ∨ (x.genome.length : Int) < pl) := fun z => h1 (decide_eq_true z)
    refine ⟨_, rfl, ln, 0, 4096, rfl, _, rfl, ite2 (fun h => absurd (of_decide_eq_true h) (by omega)) (fun _ => ?_)⟩
    refine ⟨_, rfl, n, rfl, _, _, rfl, rfl, ?_⟩
    have eb : (4 : Int) + (n + 3) / 4 = ((4 + rb.length : Nat) : Int) := by omega
    dsimp only
    rw [eb]
    have ec1 : cutV ((5 :: n :: pl :: ln :: (rb ++ qu ++ wy)).map V.int) (some 4) (some ((4 + rb.length : Nat) : Int)) = rb.map V.int := cut_seg [5, n, pl, ln] rb (qu ++ wy) (by simp) rfl rfl
    have ec2 : cutV ((5 :: n :: pl :: ln :: (rb ++ qu ++ wy)).map V.int) (some ((4 + rb.length : Nat) : Int)) (some (((4 + rb.length : Nat) : Int) + n)) = qu.map V.int := cut_seg ([5, n, pl, ln] ++ rb) qu wy (by simp) (by rw [List.length_append]; rfl) (by rw [List.length_append]; show ((4 + rb.length : Nat) : Int) + n = ((4 + rb.length + qu.length : Nat) : Int); omega)
    have ec3 : cutV ((5 :: n :: pl :: ln :: (rb ++ qu ++ wy)).map V.int) (some (((4 + rb.length : Nat) : Int) + n)) (some (((4 + rb.length : Nat) : Int) + n + ln)) = wy.map V.int := cut_seg ([5, n, pl, ln] ++ rb ++ qu) wy [] (by simp) (by rw [List.length_append, List.length_append]; show ((4 + rb.length : Nat) : Int) + n = ((4 + rb.length + qu.length : Nat) : Int); omega) (by rw [List.length_append, List.length_append]; show ((4 + rb.length : Nat) : Int) + n + ln = ((4 + rb.length + qu.length + wy.length : Nat) : Int); omega)
    -- the codes
    refine ⟨_, rfl, _, rfl, _, rfl, _, rfl, q, _, rfl, hq, fun q1 hq1 => ?_⟩
    rw [ec1]
    have s1 : Same H (upd H q1 (.lst (rb.map V.int))) := Br.Same.upd_new hq1
    have g1 : upd H q1 (.lst (rb.map V.int)) q1 = some (.lst (rb.map V.int)) := upd_same
    generalize upd H q1 (.lst (rb.map V.int)) = H1 at s1 g1
    refine ⟨_, rfl, q1, rb, 0, n, rfl, SqL.of g1, hrb, by omega, by omega, by omega, by omega, by omega, fun r2 H2 s2 f2 g2 => ?_⟩
    have s12 := s1.trans s2
    -- the qualities
    refine ⟨_, rfl, _, rfl, _, rfl, _, rfl, _, rfl, _, _, rfl, rfl, _, rfl, q, _, rfl, s12.seq hq, fun q3 hq3 => ?_⟩
    rw [ec2]
    have s3 : Same H2 (upd H2 q3 (.lst (qu.map V.int))) := Br.Same.upd_new hq3
    have g3 : upd H2 q3 (.lst (qu.map V.int)) q3 = some (.lst (qu.map V.int)) := upd_same
    generalize upd H2 q3 (.lst (qu.map V.int)) = H3 at s3 g3
    have s13 := s12.trans s3
    -- the way
    refine ⟨_, rfl, _, rfl, _, rfl, _, _, rfl, rfl, _, rfl, _, rfl, _, rfl, _, _, rfl, rfl, _, rfl, _, _, rfl, rfl, _, rfl, q, _, rfl, s13.seq hq, fun q4 hq4 => ?_⟩
    rw [ec3]
    have s4 : Same H3 (upd H3 q4 (.lst (wy.map V.int))) := Br.Same.upd_new hq4
    have g4 : upd H3 q4 (.lst (wy.map V.int)) q4 = some (.lst (wy.map V.int)) := upd_same
    generalize upd H3 q4 (.lst (wy.map V.int)) = H4 at s4 g4
    have s14 := s13.trans s4
    have G4 := G.same s14
    have g24 : H4 r2 = some (.lst (natV (seg rb (0 : Int).toNat n.toNat))) := s4 _ _ (s3 _ _ g2)
    have g34 : H4 q3 = some (.lst (qu.map V.int)) := s4 _ _ g3
    have sl := seg_len rb (0 : Int).toNat n.toNat
    have epl : pl = ((pl.toNat : Nat) : Int) := by omega
    refine ⟨_, rfl, p, a.C_Genome, dx, _, _, rfl, G4.ob, T.cl_Genome, T.n_Genome_reads, gf_reads _ _, rp, rdx, _, rfl, G4.rd.ob, rf_no _ _ _ _ (by decide +kernel) (by decide +kernel) (by decide +kernel) (by decide +kernel), _, rfl, _, rfl, _, rfl, _, rfl, rp, rdx, cA, wA, oA, r2, q3, q4, x.spots, seg rb (0 : Int).toNat n.toNat, qu, wy, pl.toNat, by rw [← epl]; rfl, G4.rd, SqL.of g24, SqL.of g34, SqL.of g4, fun H5 bb s5 hbb => ?_⟩
    have s15 := s14.trans s5
    have zl : ((seg rb 0 n.toNat).zip (quals qu)).length = (seg rb (0 : Int).toNat n.toNat).length := by
      rw [List.length_zip]
      unfold quals
      rw [List.length_map, sl, seg_len]
      omega
    have wf := walk_fits (w := wy) (r := (seg rb 0 n.toNat).zip (quals qu)) (p := pl.toNat) (s := x.spots) hwy (by omega)
    rw [zl] at wf
    cases bb with
    | false =>
      refine ⟨_, rfl, iteT ?_⟩
      have nf : ¬ (badQ qu = none ∧ Fits wy (seg rb (0 : Int).toNat n.toNat).length pl.toNat x.spots.length) := fun z => by
        have := hbb.mpr z
        cases this
      have pe2 : partOf x (5 :: n :: pl :: ln :: (rb ++ qu ++ wy)) = ([-1], x) := by
        rw [pe]
        by_cases c : (0 ≤ pl ∧ pl ≤ x.genome.length) ∧ badQ qu = none
        · rw [if_pos c]
          cases e : Sg42.walk (Sg42Neutral.bytesOf wy) ((seg rb 0 n.toNat).zip (quals qu)) pl.toNat x.spots with
          | none => rfl
          | some s' => exact absurd ⟨c.2, wf.mp (by rw [e]; rfl)⟩ nf
        · rw [if_neg c]
      exact ⟨_, rfl, by show 1 ≤ sizeLine; decide, fun l hl => told_of G k pe2 (by show 1 ≤ _; decide) (Br.Same.upd2 s15 (s15.free hl)) (s15.free hl) upd_same⟩
    | true =>
      refine ⟨_, rfl, iteF ?_⟩
      obtain ⟨hbq, hfit⟩ := hbb.mp rfl
      obtain ⟨sp', hsp⟩ := Option.isSome_iff_exists.mp (wf.mpr hfit)
      have pe2 : partOf x (5 :: n :: pl :: ln :: (rb ++ qu ++ wy)) = ([0], { x with spots := sp' }) := by
        rw [pe, if_pos ⟨⟨by omega, by omega⟩, hbq⟩, hsp]
      have G5 := G.same s15
      have ne4 : ∀ {z : Addr}, H z = none → z ≠ cA ∧ z ≠ wA ∧ z ≠ oA := fun {z} hz => ⟨(ne_of_none G.rd.c hz).symm, (ne_of_none G.rd.w hz).symm, (ne_of_none G.rd.o hz).symm⟩
      have hr2 : H r2 = none := s1.free f2
      have hq3' : H q3 = none := s12.free hq3
      have hq4' : H q4 = none := s13.free hq4
      have hpn : p ≠ cA ∧ p ≠ wA ∧ p ≠ oA := ⟨ne_of G.ob G.rd.c (by intro z; cases z), ne_of G.ob G.rd.w (by intro z; cases z), ne_of G.ob G.rd.o (by intro z; cases z)⟩
      refine ⟨_, rfl, p, a.C_Genome, dx, _, _, rfl, G5.ob, T.cl_Genome, T.n_Genome_reads, gf_reads _ _, rp, rdx, _, rfl, G5.rd.ob, rf_no _ _ _ _ (by decide +kernel) (by decide +kernel) (by decide +kernel) (by decide +kernel), _, rfl, _, rfl, _, rfl, _, rfl, rp, rdx, cA, wA, oA, r2, q3, q4, x.spots, sp', seg rb (0 : Int).toNat n.toNat, qu, wy, pl.toNat, by rw [← epl]; rfl, G5.rd, s5 _ _ g24, s5 _ _ g34, s5 _ _ g4, ?_, seg_lt rb _ _, by omega, hbq, hwy, by omega, hsp, fun H6 fr6 R6 => ?_⟩
      · intro z hz
        rcases List.mem_cons.mp hz with e | hz
        · rw [e]; exact ne4 hr2
        rcases List.mem_cons.mp hz with e | hz
        · rw [e]; exact ne4 hq3'
        rcases List.mem_cons.mp hz with e | hz
        · rw [e]; exact ne4 hq4'
        cases hz
      refine ⟨by show 1 ≤ sizeLine; decide, fun l hl => ?_⟩
      rw [pe2] at k
      have hlH : H l = none := by
        cases e : H l with
        | none => rfl
        | some o =>
          by_cases c1 : l = cA
          · rw [c1, R6.c] at hl; cases hl
          by_cases c2 : l = wA
          · rw [c2, R6.w] at hl; cases hl
          by_cases c3 : l = oA
          · rw [c3, R6.o] at hl; cases hl
          rw [fr6 l o (s15 _ _ e) c1 c2 c3] at hl
          cases hl
      have sp6 : Spares H (upd H6 l (.lst [V.int 0])) cA wA oA := fun b o e h1 h2 h3 => by
        rw [upd_ne (ne_of_none e hlH)]
        exact fr6 b o (s15 _ _ e) h1 h2 h3
      have s7 : Same H6 (upd H6 l (.lst [V.int 0])) := Br.Same.upd_new hl
      exact k l _ sp6 hlH upd_same (by show 1 ≤ _; decide) ⟨sp6 _ _ G.ob hpn.1 hpn.2.1 hpn.2.2, sp6 _ _ G.co G.n1 G.n2 G.n3, R6.same s7, G.n1, G.n2, G.n3, G.g4, G.le, by rw [← gln]; exact (walk_four hwy G.rd.four hsp).2⟩
end
end Py

/-! The step that lays. -/
namespace Py
open PySem L2 Br Gr
open Sg42 (Spot Desk Scores)
def sp_lay (K : PySem.W.Frag) : Sp := fun vs H Q _ => ∃ (q : Addr) (st : List Int) (x : Desk), vs = [.ref q] ∧ SqL K H q (st.map V.int) ∧ F4 st ∧
  ∀ (r : Addr) (H' : Hp), Same H H' → H r = none → H' r = some (.lst ((partOf x st).1.map V.int)) → (partOf x st).1.length ≤ 65600 → (partOf x st).2 = x → Q (.ref r) H'
theorem octets_of {ls : List Nat} (h : ∀ x ∈ ls, x < 256) : Sg42Neutral.octets (ls.map UInt8.ofNat) = ls.map fun (n : Nat) => (n : Int) := by
  unfold Sg42Neutral.octets
  rw [List.map_map]
  refine List.map_congr_left fun x hx => ?_
  show (((UInt8.ofNat x).toNat : Nat) : Int) = _
  rw [UInt8.toNat_ofNat', Nat.mod_eq_of_lt (h x hx)]
section
variable {P : Program} {w : World} {K : PySem.W.Frag} {mg : Str → Option Value} {bh : Heap} {a : Adr}
theorem sc_lay : FnScope ["step", "n", "m", "most", "score", "begin", "a", "b", "best"] ["step"] (defScope s_lay) := ⟨rfl, rfl, rfl, by decide +kernel, rfl, by decide +kernel, by decide +kernel⟩
set_option maxHeartbeats 2000000 in
theorem ok_lay (T : Txt K mg a) : FnOk P w K mg bh CX0 5 a.f_lay a.d_lay ["step"] (sp_lay K) := by
  obtain ⟨_, h_MOST_LAID⟩ := T.c_MOST_LAID
  obtain ⟨_, h_MOST_SCORE⟩ := T.c_MOST_SCORE
  obtain ⟨_, h_MOST_TOLD⟩ := T.c_MOST_TOLD
  refine T.F_lay.ok sc_lay (fun vs H Q E h => ?_) (fun cdv A outer s H vs Q E hr h => ?_)
  · obtain ⟨q, st, x, rfl, _⟩ := h
    rfl
  · obtain ⟨q, st, x, rfl, hq, ⟨n, m, s1, s2, s3, s4, most, ab, bb, rfl, hab, hbb, hn, hm, la, lb⟩, k⟩ := h
    refine ⟨_, (pss_cons (ps_set (i := 1) sc_lay.nd rfl (Or.inl rfl) (pe_ix (r := rIxL K) ix_list (pv 0) pe_int (fun _ _ => rfl)))
      (pss_cons (ps_set (i := 2) sc_lay.nd rfl (Or.inl rfl) (pe_ix (r := rIxL K) ix_list (pv 0) pe_int (fun _ _ => rfl)))
      (pss_cons (ps_set (i := 3) sc_lay.nd rfl (Or.inl rfl) (pe_ix (r := rIxL K) ix_list (pv 0) pe_int (fun _ _ => rfl)))
      (pss_cons (ps_if (PW.pt (pw_or (pt_val (pe_call (ok_outside T) (hr.mono (by decide)) rfl T.g_outside T.F_outside.kp T.B_outside .nil pass0 (pa_cons (pv 1) (pa_cons pe_int (pa_cons (pe_glob (v := .int 1024) rfl h_MOST_LAID ⟨_, rfl⟩) pa_nil))))) (pw_or (pt_val (pe_call (ok_outside T) (hr.mono (by decide)) rfl T.g_outside T.F_outside.kp T.B_outside .nil pass0 (pa_cons (pv 2) (pa_cons pe_int (pa_cons (pe_glob (v := .int 1024) rfl h_MOST_LAID ⟨_, rfl⟩) pa_nil))))) (pw_or1 (pt_val (pe_call (ok_outside T) (hr.mono (by decide)) rfl T.g_outside T.F_outside.kp T.B_outside .nil pass0 (pa_cons (pv 3) (pa_cons pe_int (pa_cons (pe_glob (v := .int 65536) rfl h_MOST_TOLD ⟨_, rfl⟩) pa_nil))))))))) (pss_one (ps_ret (pe_lst (pa_cons (pe_un un_neg pe_int) pa_nil)))) pss_nil)
      (pss_cons (ps_for PassesOwn.never rfl (pi_list (pe_slice (r := rSlL K) sl_list (pv 0) (po_some pe_int) (po_some pe_int))) (pg_name (i := 4) sc_lay.nd rfl (Or.inl rfl))
        (pss_one (ps_if (pt_val (pe_call (ok_outside T) (hr.mono (by decide)) rfl T.g_outside T.F_outside.kp T.B_outside .nil pass0 (pa_cons (pv 4) (pa_cons pe_int (pa_cons (pe_glob (v := .int 127) rfl h_MOST_SCORE ⟨_, rfl⟩) pa_nil))))) (pss_one (ps_ret (pe_lst (pa_cons (pe_un un_neg pe_int) pa_nil)))) pss_nil)))
      (pss_cons (ps_set (i := 5) sc_lay.nd rfl (Or.inl rfl) (pe_op op_add pe_int (pe_call (ok_bytes_for T) (hr.mono (by decide)) rfl T.g_bytes_for T.F_bytes_for.kp T.B_bytes_for .nil pass0 (pa_cons (pv 1) pa_nil))))
      (pss_cons (ps_set (i := 6) sc_lay.nd rfl (Or.inl rfl) (pe_call (ok_read_bases T) (hr.mono (by decide)) rfl T.g_read_bases T.F_read_bases.kp T.B_read_bases .nil pass0 (pa_cons (pe_slice (r := rSlL K) sl_list (pv 0) (po_some pe_int) (po_some (pv 5))) (pa_cons pe_int (pa_cons (pv 1) pa_nil)))))
      (pss_cons (ps_set (i := 7) sc_lay.nd rfl (Or.inl rfl) (pe_call (ok_read_bases T) (hr.mono (by decide)) rfl T.g_read_bases T.F_read_bases.kp T.B_read_bases .nil pass0 (pa_cons (pe_slice (r := rSlL K) sl_list (pv 0) (po_some (pv 5)) po_none) (pa_cons pe_int (pa_cons (pv 2) pa_nil)))))
      (pss_cons (ps_set (i := 8) sc_lay.nd rfl (Or.inl rfl) (pe_call (ok_best_way T) (hr.mono (by decide)) rfl T.g_best_way T.F_best_way.kp T.B_best_way .nil pass0 (pa_cons (pv 6) (pa_cons (pv 7) (pa_cons (pe_make T.M_Scores (ok_Scores_init T) (hr.mono (by decide)) rfl T.g_Scores T.B_Scores_init .nil pass0 (pa_cons (pe_ix (r := rIxL K) ix_list (pv 0) pe_int (fun _ _ => rfl)) (pa_cons (pe_ix (r := rIxL K) ix_list (pv 0) pe_int (fun _ _ => rfl)) (pa_cons (pe_ix (r := rIxL K) ix_list (pv 0) pe_int (fun _ _ => rfl)) (pa_cons (pe_ix (r := rIxL K) ix_list (pv 0) pe_int (fun _ _ => rfl)) pa_nil))))) pa_nil)))))
      (pss_cons (ps_if (pt_cmpR op_gt (pe_callB (call_len_seq) (by rfl) T.b_len PySem.boot_len (pa_cons (pe_ix (r := rIxT K) ix_tup (pv 8) pe_int (fun _ _ => rfl)) pa_nil)) (pv 3) (nomark _)) (pss_one (ps_ret (pe_lst (pa_cons (pe_un un_neg pe_int) pa_nil)))) pss_nil)
      (pss_one (ps_ret (pe_op op_cat (pe_op op_cat (pe_lst (pa_cons (pe_callB (call_len_seq) (by rfl) T.b_len PySem.boot_len (pa_cons (pe_ix (r := rIxT K) ix_tup (pv 8) pe_int (fun _ _ => rfl)) pa_nil)) pa_nil)) (pe_ix (r := rIxT K) ix_tup (pv 8) pe_int (fun _ _ => rfl))) (pe_ix (r := rIxT K) ix_tup (pv 8) pe_int (fun _ _ => rfl))))))))))))))), ?_⟩
    have hsz := sizeIs
    have pe := part_lay x hab hbb n m s1 s2 s3 s4 most hn hm la
    have told : ∀ {l : List Int}, partOf x (4 :: n :: m :: s1 :: s2 :: s3 :: s4 :: most :: (ab ++ bb)) = (l, x) → l.length ≤ 65600 → ∀ {r : Addr} {H' : Hp}, Same H H' → H r = none → H' r = some (.lst (l.map V.int)) → Q (.ref r) H' := fun {l} e hl {r H'} s f g => by
      rw [e] at k
      exact k r H' s f g hl rfl
    refine ⟨_, rfl, q, _, _, _, rfl, rfl, hq, at_of (j := 1) rfl rfl, ?_⟩
    refine ⟨_, rfl, q, _, _, _, rfl, rfl, hq, at_of (j := 2) rfl rfl, ?_⟩
    refine ⟨_, rfl, q, _, _, _, rfl, rfl, hq, at_of (j := 7) rfl rfl, ?_⟩
    have no : ¬ ((0 ≤ most ∧ most ≤ 65536) ∧ (0 ≤ s1 ∧ s1 ≤ 127) ∧ (0 ≤ s2 ∧ s2 ≤ 127) ∧ (0 ≤ s3 ∧ s3 ≤ 127) ∧ 0 ≤ s4 ∧ s4 ≤ 127) → ∀ {H1 : Hp}, Same H H1 → ∀ l, H1 l = none → Q (.ref l) (upd H1 l (.lst [V.int (-1)])) := fun h {H1} s l hl => by
      rw [if_neg h] at pe
      exact told pe (by show 1 ≤ _; decide) (Br.Same.upd2 s (s.free hl)) (s.free hl) upd_same
    refine ⟨_, rfl, n, 0, 1024, rfl, _, rfl, ite2 (fun h => absurd (of_decide_eq_true h) (by omega)) (fun _ => ?_)⟩
    refine ⟨_, rfl, m, 0, 1024, rfl, _, rfl, ite2 (fun h => absurd (of_decide_eq_true h) (by omega)) (fun _ => ?_)⟩
    refine ⟨_, rfl, most, 0, 65536, rfl, _, rfl, ite2 (fun h => ?_) (fun h1 => ?_)⟩
    · exact ⟨_, rfl, by show 1 ≤ sizeLine; decide, no (fun z => by have := of_decide_eq_true h; omega) (Same.refl _)⟩
    have h1' : ¬ (most < 0 ∨ 65536 < most) := fun z => h1 (decide_eq_true z)
    -- the scores
    have ec0 : cutV ((4 :: n :: m :: s1 :: s2 :: s3 :: s4 :: most :: (ab ++ bb)).map V.int) (some 3) (some 7) = [s1, s2, s3, s4].map V.int := cut_seg [4, n, m] [s1, s2, s3, s4] (most :: (ab ++ bb)) rfl rfl rfl
    have ec1 : cutV ((4 :: n :: m :: s1 :: s2 :: s3 :: s4 :: most :: (ab ++ bb)).map V.int) (some 8) (some ((8 + ab.length : Nat) : Int)) = ab.map V.int := cut_seg [4, n, m, s1, s2, s3, s4, most] ab bb (by simp) rfl rfl
    have ec2 : cutV ((4 :: n :: m :: s1 :: s2 :: s3 :: s4 :: most :: (ab ++ bb)).map V.int) (some ((8 + ab.length : Nat) : Int)) none = bb.map V.int := cut_end ([4, n, m, s1, s2, s3, s4, most] ++ ab) bb (by simp) (by rw [List.length_append]; rfl)
    refine ⟨_, rfl, _, rfl, _, rfl, q, _, rfl, hq, fun q1 hq1 => ?_⟩
    rw [ec0]
    have t1 : Same H (upd H q1 (.lst ([s1, s2, s3, s4].map V.int))) := Br.Same.upd_new hq1
    have g1 : upd H q1 (.lst ([s1, s2, s3, s4].map V.int)) q1 = some (.lst ([s1, s2, s3, s4].map V.int)) := upd_same
    generalize upd H q1 (.lst ([s1, s2, s3, s4].map V.int)) = H1 at t1 g1
    refine ⟨q1, rfl, ⟨_, SqL.of g1⟩, for_list (K := K) (a := q1) (xs := [s1, s2, s3, s4].map V.int) (fun t σ H2 => ∃ v4, σ = [some (.ref q), some (.int n), some (.int m), some (.int most), v4, none, none, none, none] ∧ H2 = H1 ∧ ∀ i y, i < t → [s1, s2, s3, s4][i]? = some y → 0 ≤ y ∧ y ≤ 127)
      ⟨none, rfl, rfl, fun i y h => absurd h (by omega)⟩ (fun t σ H2 _ ⟨_, _, e, _⟩ => by rw [e]; exact SqL.of g1) ?_ ?_⟩
    · rintro t v σ H2 hv' ⟨v4, rfl, rfl, hin⟩
      rw [List.getElem?_map] at hv'
      obtain ⟨y, hy, rfl⟩ := Option.map_eq_some_iff.mp hv'
      refine ⟨_, rfl, y, 0, 127, rfl, _, rfl, ite2 (fun h => ?_) (fun h => ?_)⟩
      · have h' := of_decide_eq_true h
        refine ⟨_, rfl, by show 1 ≤ sizeLine; decide, no (fun z => ?_) t1⟩
        have hym := List.mem_of_getElem? hy
        simp only [List.mem_cons, List.not_mem_nil, or_false] at hym
        rcases hym with e | e | e | e <;> (rw [e] at h'; omega)
      · have h' : ¬ (y < 0 ∨ 127 < y) := fun z => h (decide_eq_true z)
        refine ⟨_, rfl, rfl, fun i z hi hz => ?_⟩
        by_cases c : i = t
        · subst c
          rw [hy] at hz
          cases hz
          omega
        · exact hin i z (by omega) hz
    · rintro σ H2 ⟨v4, rfl, rfl, hin⟩
      have b1 := hin 0 s1 (by show 0 < 4; decide) rfl
      have b2 := hin 1 s2 (by show 1 < 4; decide) rfl
      have b3 := hin 2 s3 (by show 2 < 4; decide) rfl
      have b4 := hin 3 s4 (by show 3 < 4; decide) rfl
      rw [if_pos ⟨⟨by omega, by omega⟩, b1, b2, b3, b4⟩] at pe
      refine ⟨_, rfl, n, rfl, _, _, rfl, rfl, ?_⟩
      have eb : (8 : Int) + (n + 3) / 4 = ((8 + ab.length : Nat) : Int) := by omega
      dsimp only
      rw [eb]
      refine ⟨_, rfl, _, rfl, _, rfl, _, rfl, q, _, rfl, t1.seq hq, fun q2 hq2 => ?_⟩
      rw [ec1]
      have t2 : Same H2 (upd H2 q2 (.lst (ab.map V.int))) := Br.Same.upd_new hq2
      have g2 : upd H2 q2 (.lst (ab.map V.int)) q2 = some (.lst (ab.map V.int)) := upd_same
      generalize upd H2 q2 (.lst (ab.map V.int)) = H3 at t2 g2
      refine ⟨_, rfl, q2, ab, 0, n, rfl, SqL.of g2, hab, by omega, by omega, by omega, by omega, by omega, fun ra H4 t4 f4 g4 => ?_⟩
      have t14 := t1.trans (t2.trans t4)
      refine ⟨_, rfl, _, rfl, _, rfl, q, _, rfl, t14.seq hq, fun q3 hq3 => ?_⟩
      rw [ec2]
      have t5 : Same H4 (upd H4 q3 (.lst (bb.map V.int))) := Br.Same.upd_new hq3
      have g5 : upd H4 q3 (.lst (bb.map V.int)) q3 = some (.lst (bb.map V.int)) := upd_same
      generalize upd H4 q3 (.lst (bb.map V.int)) = H5 at t5 g5
      refine ⟨_, rfl, q3, bb, 0, m, rfl, SqL.of g5, hbb, by omega, by omega, by omega, by omega, by omega, fun rb H6 t6 f6 g6 => ?_⟩
      have t46 := t5.trans t6
      have t16 := t14.trans t46
      refine ⟨_, rfl, _, rfl, _, rfl, q, _, _, _, rfl, rfl, t16.seq hq, at_of (j := 3) rfl rfl, _, rfl, q, _, _, _, rfl, rfl, t16.seq hq, at_of (j := 4) rfl rfl, _, rfl, q, _, _, _, rfl, rfl, t16.seq hq, at_of (j := 5) rfl rfl, _, rfl, q, _, _, _, rfl, rfl, t16.seq hq, at_of (j := 6) rfl rfl, ?_⟩
      intro sx sdx nx ndx nex
      refine ⟨sx, sdx, ⟨s1.toNat, s2.toNat, s3.toNat, s4.toNat⟩, ?_, upd_same, fun H7 fr7 g7 => ⟨rfl, ?_⟩⟩
      · show [V.ref sx, V.int s1, V.int s2, V.int s3, V.int s4] = [V.ref sx, V.int ((s1.toNat : Nat) : Int), V.int ((s2.toNat : Nat) : Int), V.int ((s3.toNat : Nat) : Int), V.int ((s4.toNat : Nat) : Int)]
        rw [Int.toNat_of_nonneg b1.1, Int.toNat_of_nonneg b2.1, Int.toNat_of_nonneg b3.1, Int.toNat_of_nonneg b4.1]
      have t7 : Same H6 H7 := Same.made nx ndx fr7
      have t17 := t16.trans t7
      have sla := seg_len ab (0 : Int).toNat n.toNat
      have slb := seg_len bb (0 : Int).toNat m.toNat
      refine ⟨ra, rb, sx, sdx, ⟨s1.toNat, s2.toNat, s3.toNat, s4.toNat⟩, seg ab (0 : Int).toNat n.toNat, seg bb (0 : Int).toNat m.toNat, rfl, SqL.of (t7 _ _ (t46 _ _ g4)), SqL.of (t7 _ _ g6), g7, seg_lt bb _ _, by show s3.toNat ≤ 127; omega, by show s4.toNat ≤ 127; omega, by omega, by omega, fun t to l H8 ls t8 gt gl hls h256 hway gto => ?_⟩
      have t18 := t17.trans t8
      have gl' := gl
      have pe' : partOf x (4 :: n :: m :: s1 :: s2 :: s3 :: s4 :: most :: (ab ++ bb)) = (layPart (Sg42.lay ⟨s1.toNat, s2.toNat, s3.toNat, s4.toNat⟩ (seg ab (0 : Int).toNat n.toNat) (seg bb (0 : Int).toNat m.toNat)) most, x) := pe
      unfold layPart at pe'
      rw [hway, List.length_map, octets_of h256] at pe'
      refine ⟨_, rfl, t, _, _, _, rfl, rfl, SqT.of gt, at_of (j := 1) rfl rfl, l, _, rfl, .inl (SqL.of gl), ?_⟩
      rw [natV_len]
      refine ⟨_, rfl, _, _, rfl, rfl, _, rfl, ite2 (fun h => ?_) (fun h => ?_)⟩
      · have h' : most < ((ls.length : Nat) : Int) := of_decide_eq_true h
        rw [if_pos h'] at pe'
        exact ⟨_, rfl, by show 1 ≤ sizeLine; decide, fun l2 hl2 => told pe' (by show 1 ≤ _; decide) (Br.Same.upd2 t18 (t18.free hl2)) (t18.free hl2) upd_same⟩
      · have h' : ¬ most < ((ls.length : Nat) : Int) := fun z => h (decide_eq_true z)
        rw [if_neg h'] at pe'
        refine ⟨_, rfl, t, _, _, _, rfl, rfl, SqT.of gt, at_of (j := 1) rfl rfl, l, _, rfl, .inl (SqL.of gl), by show 1 ≤ sizeLine; decide, fun l2 hl2 => ?_⟩
        rw [natV_len]
        have t9 : Same H8 (upd H8 l2 (.lst [V.int ((ls.length : Nat) : Int)])) := Br.Same.upd_new hl2
        have g9 : upd H8 l2 (.lst [V.int ((ls.length : Nat) : Int)]) l2 = some (.lst [V.int ((ls.length : Nat) : Int)]) := upd_same
        generalize upd H8 l2 (.lst [V.int ((ls.length : Nat) : Int)]) = H9 at t9 g9
        refine ⟨_, rfl, t, _, _, _, rfl, rfl, SqT.of (t9 _ _ gt), at_of (j := 0) rfl rfl, l2, to, _, _, rfl, rfl, g9, t9 _ _ gto, by show 1 + 5 ≤ _; omega, fun l3 hl3 => ?_⟩
        have t10 : ∀ o, Same H9 (upd H9 l3 o) := fun o => Br.Same.upd_new hl3
        refine ⟨_, rfl, t, _, _, _, rfl, rfl, SqT.of (t10 _ _ _ (t9 _ _ gt)), at_of (j := 1) rfl rfl, l3, l, _, _, rfl, rfl, upd_same, t10 _ _ _ (t9 _ _ gl), by rw [natV_len]; show 6 + ls.length ≤ _; omega, fun l4 hl4 => ?_⟩
        have t110 := t18.trans (t9.trans (t10 (.lst ([V.int ((ls.length : Nat) : Int)] ++ [.int ((Sg42.lay ⟨s1.toNat, s2.toNat, s3.toNat, s4.toNat⟩ (seg ab (0 : Int).toNat n.toNat) (seg bb (0 : Int).toNat m.toNat)).score.toNat : Nat), .int ((Sg42.lay ⟨s1.toNat, s2.toNat, s3.toNat, s4.toNat⟩ (seg ab (0 : Int).toNat n.toNat) (seg bb (0 : Int).toNat m.toNat)).a0 : Nat), .int ((Sg42.lay ⟨s1.toNat, s2.toNat, s3.toNat, s4.toNat⟩ (seg ab (0 : Int).toNat n.toNat) (seg bb (0 : Int).toNat m.toNat)).a1 : Nat), .int ((Sg42.lay ⟨s1.toNat, s2.toNat, s3.toNat, s4.toNat⟩ (seg ab (0 : Int).toNat n.toNat) (seg bb (0 : Int).toNat m.toNat)).b0 : Nat), .int ((Sg42.lay ⟨s1.toNat, s2.toNat, s3.toNat, s4.toNat⟩ (seg ab (0 : Int).toNat n.toNat) (seg bb (0 : Int).toNat m.toNat)).b1 : Nat)]))))
        refine told pe' ?_ (Br.Same.upd2 t110 (t110.free hl4)) (t110.free hl4) ?_
        · rw [List.length_cons, List.length_append, List.length_map]
          show 5 + ls.length + 1 ≤ _
          omega
        · rw [upd_same]
          rfl
end
end Py

/-! Steps made of a genome. -/
namespace Py
open PySem L2 Br Gr
open Sg42 (Spot Desk)
def FA (st : List Int) : Prop := F1 st ∨ F2 st ∨ F3 st ∨ F4 st ∨ F5 st ∨ F6 st ∨ F7 st
section
variable {P : Program} {w : World} {K : PySem.W.Frag} {mg : Str → Option Value} {bh : Heap} {a : Adr}
theorem sc_Genome_make : FnScope ["self", "step"] ["self", "step"] (defScope s_Genome_make) := ⟨rfl, rfl, rfl, by decide +kernel, rfl, by decide +kernel, by decide +kernel⟩
theorem ok_Genome_make (T : Txt K mg a) : FnOk P w K mg bh CX0 6 a.f_Genome_make a.d_Genome_make ["self", "step"] (sp_part a.C_Genome a.C_Reads FA K) := by
  refine T.F_Genome_make.ok sc_Genome_make (fun vs H Q E h => ?_) (fun cdv A outer s H vs Q E hr h => ?_)
  · obtain ⟨p, q, dx, qc, rp, rdx, cA, wA, oA, x, st, rfl, _⟩ := h
    rfl
  · obtain ⟨p, q, dx, qc, rp, rdx, cA, wA, oA, x, st, rfl, G, hq, F, k⟩ := h
    refine ⟨_, (pss_cons (ps_if (pt_cmpR op_eq (pe_ix (r := rIxL K) ix_list (pv 1) pe_int (fun _ _ => rfl)) pe_int (nomark _)) (pss_one (ps_ret (pe_meth (pl := _) (pv 0) T.cl_Genome T.m_Genome_find_places (ok_Genome_find_places T) (hr.mono (by decide)) T.B_Genome_find_places .nil pass0 (pa_cons (pv 1) pa_nil)))) pss_nil)
      (pss_cons (ps_if (pt_cmpR op_eq (pe_ix (r := rIxL K) ix_list (pv 1) pe_int (fun _ _ => rfl)) pe_int (nomark _)) (pss_one (ps_ret (pe_meth (pl := _) (pv 0) T.cl_Genome T.m_Genome_find_longest (ok_Genome_find_longest T) (hr.mono (by decide)) T.B_Genome_find_longest .nil pass0 (pa_cons (pv 1) pa_nil)))) pss_nil)
      (pss_cons (ps_if (pt_cmpR op_eq (pe_ix (r := rIxL K) ix_list (pv 1) pe_int (fun _ _ => rfl)) pe_int (nomark _)) (pss_one (ps_ret (pe_meth (pl := _) (pv 0) T.cl_Genome T.m_Genome_find_near (ok_Genome_find_near T) (hr.mono (by decide)) T.B_Genome_find_near .nil pass0 (pa_cons (pv 1) pa_nil)))) pss_nil)
      (pss_cons (ps_if (pt_cmpR op_eq (pe_ix (r := rIxL K) ix_list (pv 1) pe_int (fun _ _ => rfl)) pe_int (nomark _)) (pss_one (ps_ret (pe_call (ok_lay T) (hr.mono (by decide)) rfl T.g_lay T.F_lay.kp T.B_lay .nil pass0 (pa_cons (pv 1) pa_nil)))) pss_nil)
      (pss_cons (ps_if (pt_cmpR op_eq (pe_ix (r := rIxL K) ix_list (pv 1) pe_int (fun _ _ => rfl)) pe_int (nomark _)) (pss_one (ps_ret (pe_meth (pl := _) (pv 0) T.cl_Genome T.m_Genome_pile_read (ok_Genome_pile_read T) (hr.mono (by decide)) T.B_Genome_pile_read .nil pass0 (pa_cons (pv 1) pa_nil)))) pss_nil)
      (pss_cons (ps_if (pt_cmpR op_eq (pe_ix (r := rIxL K) ix_list (pv 1) pe_int (fun _ _ => rfl)) pe_int (nomark _)) (pss_one (ps_ret (pe_meth (pl := _) (pv 0) T.cl_Genome T.m_Genome_tell_said (ok_Genome_tell_said T) (hr.mono (by decide)) T.B_Genome_tell_said .nil pass0 (pa_cons (pv 1) pa_nil)))) pss_nil)
      (pss_cons (ps_if (pt_cmpR op_eq (pe_ix (r := rIxL K) ix_list (pv 1) pe_int (fun _ _ => rfl)) pe_int (nomark _)) (pss_one (ps_ret (pe_meth (pl := _) (pv 0) T.cl_Genome T.m_Genome_tell_depth (ok_Genome_tell_depth T) (hr.mono (by decide)) T.B_Genome_tell_depth .nil pass0 (pa_cons (pv 1) pa_nil)))) pss_nil)
      (pss_one (ps_ret (pe_lst (pa_cons (pe_un un_neg pe_int) pa_nil))))))))))), ?_⟩
    rcases F with ⟨m, k1, b, rfl, hf⟩ | ⟨m, k1, b, rfl, hf⟩ | ⟨m, k1, k2, b, rfl, hf⟩ | ⟨n, m, s1, s2, s3, s4, most, ab, bb, rfl, hf⟩ | ⟨n, pl, ln, rb, qu, wy, rfl, hf⟩ | ⟨f, t, rfl⟩ | ⟨f, t, rfl⟩
    · refine ⟨_, rfl, q, _, _, _, rfl, rfl, hq, at_of (j := 0) rfl rfl, rfl, _, rfl, iteT ?_⟩
      exact ⟨_, rfl, p, dx, _, rfl, G.ob, gf_no _ _ (by decide +kernel) (by decide +kernel), _, rfl, p, q, dx, qc, rp, rdx, cA, wA, oA, x, _, rfl, G, hq, ⟨m, k1, b, rfl, hf⟩, k⟩
    · refine ⟨_, rfl, q, _, _, _, rfl, rfl, hq, at_of (j := 0) rfl rfl, rfl, _, rfl, iteF ?_⟩
      refine ⟨_, rfl, q, _, _, _, rfl, rfl, hq, at_of (j := 0) rfl rfl, rfl, _, rfl, iteT ?_⟩
      exact ⟨_, rfl, p, dx, _, rfl, G.ob, gf_no _ _ (by decide +kernel) (by decide +kernel), _, rfl, p, q, dx, qc, rp, rdx, cA, wA, oA, x, _, rfl, G, hq, ⟨m, k1, b, rfl, hf⟩, k⟩
    · refine ⟨_, rfl, q, _, _, _, rfl, rfl, hq, at_of (j := 0) rfl rfl, rfl, _, rfl, iteF ?_⟩
      refine ⟨_, rfl, q, _, _, _, rfl, rfl, hq, at_of (j := 0) rfl rfl, rfl, _, rfl, iteF ?_⟩
      refine ⟨_, rfl, q, _, _, _, rfl, rfl, hq, at_of (j := 0) rfl rfl, rfl, _, rfl, iteT ?_⟩
      exact ⟨_, rfl, p, dx, _, rfl, G.ob, gf_no _ _ (by decide +kernel) (by decide +kernel), _, rfl, p, q, dx, qc, rp, rdx, cA, wA, oA, x, _, rfl, G, hq, ⟨m, k1, k2, b, rfl, hf⟩, k⟩
    · refine ⟨_, rfl, q, _, _, _, rfl, rfl, hq, at_of (j := 0) rfl rfl, rfl, _, rfl, iteF ?_⟩
      refine ⟨_, rfl, q, _, _, _, rfl, rfl, hq, at_of (j := 0) rfl rfl, rfl, _, rfl, iteF ?_⟩
      refine ⟨_, rfl, q, _, _, _, rfl, rfl, hq, at_of (j := 0) rfl rfl, rfl, _, rfl, iteF ?_⟩
      refine ⟨_, rfl, q, _, _, _, rfl, rfl, hq, at_of (j := 0) rfl rfl, rfl, _, rfl, iteT ?_⟩
      exact ⟨_, rfl, q, _, x, rfl, hq, ⟨n, m, s1, s2, s3, s4, most, ab, bb, rfl, hf⟩, fun r H' s f g hl e => k r H' (same_spares s _ _ _) f g hl (by rw [e]; exact G.same s)⟩
    · refine ⟨_, rfl, q, _, _, _, rfl, rfl, hq, at_of (j := 0) rfl rfl, rfl, _, rfl, iteF ?_⟩
      refine ⟨_, rfl, q, _, _, _, rfl, rfl, hq, at_of (j := 0) rfl rfl, rfl, _, rfl, iteF ?_⟩
      refine ⟨_, rfl, q, _, _, _, rfl, rfl, hq, at_of (j := 0) rfl rfl, rfl, _, rfl, iteF ?_⟩
      refine ⟨_, rfl, q, _, _, _, rfl, rfl, hq, at_of (j := 0) rfl rfl, rfl, _, rfl, iteF ?_⟩
      refine ⟨_, rfl, q, _, _, _, rfl, rfl, hq, at_of (j := 0) rfl rfl, rfl, _, rfl, iteT ?_⟩
      exact ⟨_, rfl, p, dx, _, rfl, G.ob, gf_no _ _ (by decide +kernel) (by decide +kernel), _, rfl, p, q, dx, qc, rp, rdx, cA, wA, oA, x, _, rfl, G, hq, ⟨n, pl, ln, rb, qu, wy, rfl, hf⟩, k⟩
    · refine ⟨_, rfl, q, _, _, _, rfl, rfl, hq, at_of (j := 0) rfl rfl, rfl, _, rfl, iteF ?_⟩
      refine ⟨_, rfl, q, _, _, _, rfl, rfl, hq, at_of (j := 0) rfl rfl, rfl, _, rfl, iteF ?_⟩
      refine ⟨_, rfl, q, _, _, _, rfl, rfl, hq, at_of (j := 0) rfl rfl, rfl, _, rfl, iteF ?_⟩
      refine ⟨_, rfl, q, _, _, _, rfl, rfl, hq, at_of (j := 0) rfl rfl, rfl, _, rfl, iteF ?_⟩
      refine ⟨_, rfl, q, _, _, _, rfl, rfl, hq, at_of (j := 0) rfl rfl, rfl, _, rfl, iteF ?_⟩
      refine ⟨_, rfl, q, _, _, _, rfl, rfl, hq, at_of (j := 0) rfl rfl, rfl, _, rfl, iteT ?_⟩
      exact ⟨_, rfl, p, dx, _, rfl, G.ob, gf_no _ _ (by decide +kernel) (by decide +kernel), _, rfl, p, q, dx, qc, rp, rdx, cA, wA, oA, x, _, rfl, G, hq, ⟨f, t, rfl⟩, k⟩
    · refine ⟨_, rfl, q, _, _, _, rfl, rfl, hq, at_of (j := 0) rfl rfl, rfl, _, rfl, iteF ?_⟩
      refine ⟨_, rfl, q, _, _, _, rfl, rfl, hq, at_of (j := 0) rfl rfl, rfl, _, rfl, iteF ?_⟩
      refine ⟨_, rfl, q, _, _, _, rfl, rfl, hq, at_of (j := 0) rfl rfl, rfl, _, rfl, iteF ?_⟩
      refine ⟨_, rfl, q, _, _, _, rfl, rfl, hq, at_of (j := 0) rfl rfl, rfl, _, rfl, iteF ?_⟩
      refine ⟨_, rfl, q, _, _, _, rfl, rfl, hq, at_of (j := 0) rfl rfl, rfl, _, rfl, iteF ?_⟩
      refine ⟨_, rfl, q, _, _, _, rfl, rfl, hq, at_of (j := 0) rfl rfl, rfl, _, rfl, iteF ?_⟩
      refine ⟨_, rfl, q, _, _, _, rfl, rfl, hq, at_of (j := 0) rfl rfl, rfl, _, rfl, iteT ?_⟩
      exact ⟨_, rfl, p, dx, _, rfl, G.ob, gf_no _ _ (by decide +kernel) (by decide +kernel), _, rfl, p, q, dx, qc, rp, rdx, cA, wA, oA, x, _, rfl, G, hq, ⟨f, t, rfl⟩, k⟩
end
end Py

/-! genome. -/
namespace Py
open PySem L2 Br Gr
open Sg42 (Spot Desk)
/-- what stands behind some steps -/
def after : Desk → List (List Int) → Desk
  | x, [] => x
  | x, st :: l => after (partOf x st).2 l
theorem after_snoc : ∀ (l : List (List Int)) (x : Desk) (st : List Int), after x (l ++ [st]) = (partOf (after x l) st).2
  | [], _, _ => rfl
  | a :: l, x, st => by
    show after (partOf x a).2 (l ++ [st]) = _
    rw [after_snoc l]
    rfl
theorem steps_snoc : ∀ (l : List (List Int)) (x : Desk) (st : List Int), Sg42Neutral.steps x (l ++ [st]) = Sg42Neutral.steps x l ++ [(partOf (after x l) st).1]
  | [], x, st => by
    rw [List.nil_append, steps_cons]
    unfold Sg42Neutral.steps
    rfl
  | a :: l, x, st => by
    rw [List.cons_append, steps_cons, steps_cons, steps_snoc l]
    rfl
theorem steps_len : ∀ (l : List (List Int)) (x : Desk), (Sg42Neutral.steps x l).length = l.length
  | [], x => by unfold Sg42Neutral.steps; rfl
  | a :: l, x => by rw [steps_cons, List.length_cons, List.length_cons, steps_len l]
theorem GenAt.frame {C Cr : Addr} {H H' : Hp} {l p dx qc rp rdx cA wA oA : Addr} {x : Desk} (G : GenAt C Cr H p dx qc rp rdx cA wA oA x) (fr : ∀ b o, H b = some o → b ≠ l → H' b = some o)
    (h : p ≠ l ∧ qc ≠ l ∧ rp ≠ l ∧ cA ≠ l ∧ wA ≠ l ∧ oA ≠ l) : GenAt C Cr H' p dx qc rp rdx cA wA oA x :=
  ⟨fr _ _ G.ob h.1, fr _ _ G.co h.2.1, ⟨fr _ _ G.rd.ob h.2.2.1, fr _ _ G.rd.c h.2.2.2.1, fr _ _ G.rd.w h.2.2.2.2.1, fr _ _ G.rd.o h.2.2.2.2.2, G.rd.cw, G.rd.co, G.rd.wo, G.rd.four⟩, G.n1, G.n2, G.n3, G.g4, G.le, G.ln⟩
def sp_genome (K : PySem.W.Frag) : Sp := fun vs H Q _ => ∃ (pb ps : Addr) (bs : List Int) (n : Int) (sts : List (List Int)) (rs : List Addr), vs = [.ref pb, .int n, .ref ps] ∧ SqL K H pb (bs.map V.int) ∧ Byt bs ∧ (0 ≤ n ∧ n ≤ 65536) ∧ n.toNat ≤ 4 * bs.length ∧
  SqL K H ps (rs.map V.ref) ∧ rs.length = sts.length ∧ (∀ (i : Nat) (r : Addr) (st : List Int), rs[i]? = some r → sts[i]? = some st → SqL K H r (st.map V.int)) ∧ sts.length ≤ 15 ∧ (∀ st ∈ sts, FA st) ∧
  ∀ (r : Addr) (H' : Hp), H' r = some (.lst ((joined (Sg42Neutral.steps (Sg42.deskOf (seg bs 0 n.toNat)) sts)).map V.int)) → Q (.ref r) H'
section
variable {P : Program} {w : World} {K : PySem.W.Frag} {mg : Str → Option Value} {bh : Heap} {a : Adr}
theorem sc_genome : FnScope ["bases", "n", "steps", "made_of", "told", "place", "step", "part"] ["bases", "n", "steps"] (defScope s_genome) := ⟨rfl, rfl, rfl, by decide +kernel, rfl, by decide +kernel, by decide +kernel⟩
set_option maxHeartbeats 2000000 in
theorem ok_genome (T : Txt K mg a) : FnOk P w K mg bh CX0 7 a.f_genome a.d_genome ["bases", "n", "steps"] (sp_genome K) := by
  obtain ⟨_, h_MOST_BASES⟩ := T.c_MOST_BASES
  refine T.F_genome.ok sc_genome (fun vs H Q E h => ?_) (fun cdv A outer s H vs Q E hr h => ?_)
  · obtain ⟨pb, ps, bs, n, sts, rs, rfl, _⟩ := h
    rfl
  · obtain ⟨pb, ps, bs, n, sts, rs, rfl, hpb, hby, hn, hnl, hps, hrl, hrow, h15, hfa, k⟩ := h
    refine ⟨_, (pss_cons (ps_if (pt_val (pe_call (ok_outside T) (hr.mono (by decide)) rfl T.g_outside T.F_outside.kp T.B_outside .nil pass0 (pa_cons (pv 1) (pa_cons pe_int (pa_cons (pe_glob (v := .int 65536) rfl h_MOST_BASES ⟨_, rfl⟩) pa_nil))))) (pss_one (ps_ret (pe_lst (pa_cons (pe_un un_neg pe_int) pa_nil)))) pss_nil)
      (pss_cons (ps_set (i := 3) sc_genome.nd rfl (Or.inl rfl) (pe_make T.M_Genome (ok_Genome_init T) (hr.mono (by decide)) rfl T.g_Genome T.B_Genome_init .nil pass0 (pa_cons (pe_call (ok_read_bases T) (hr.mono (by decide)) rfl T.g_read_bases T.F_read_bases.kp T.B_read_bases .nil pass0 (pa_cons (pv 0) (pa_cons pe_int (pa_cons (pv 1) pa_nil)))) pa_nil)))
      (pss_cons (ps_set (i := 4) sc_genome.nd rfl (Or.inl rfl) (pe_lst pa_nil))
      (pss_cons (ps_for PassesOwn.never rfl (pi_enum rfl T.b_enumerate (pa_cons (pv 2) pa_nil)) (pg_tup rfl (pgs_cons (pg_name (i := 5) sc_genome.nd rfl (Or.inl rfl)) (pgs_cons (pg_name (i := 6) sc_genome.nd rfl (Or.inl rfl)) pgs_nil)))
        (pss_cons (ps_set (i := 7) sc_genome.nd rfl (Or.inl rfl) (pe_meth (pl := _) (pv 3) T.cl_Genome T.m_Genome_make (ok_Genome_make T) (hr.mono (by decide)) T.B_Genome_make .nil pass0 (pa_cons (pv 6) pa_nil)))
      (pss_cons (ps_if (pt_cmpR op_gt (pv 5) pe_int (nomark _)) (pss_one (ps_expr (pe_bm PySem.F.plainAttrs_list PySem.F.slot_list_append PySem.F.type_list_append mt_append (pv 4) (pa_cons (pe_callB (call_len_seq) (by rfl) T.b_len PySem.boot_len (pa_cons (pv 7) pa_nil)) pa_nil)))) pss_nil)
      (pss_one (ps_expr (pe_bm PySem.F.plainAttrs_list PySem.F.slot_list_extend PySem.F.type_list_extend mt_extend (pv 4) (pa_cons (pv 7) pa_nil)))))))
      (pss_one (ps_ret (pv 4))))))), ?_⟩
    have hsz := sizeIs
    refine ⟨_, rfl, n, 0, 65536, rfl, _, rfl, ite2 (fun h => absurd (of_decide_eq_true h) (by omega)) (fun _ => ?_)⟩
    refine ⟨_, rfl, _, rfl, pb, bs, 0, n, rfl, hpb, hby, by omega, by omega, by omega, by omega, by omega, fun qc H1 s1 f1 g1 => ?_⟩
    intro gp gdx nx ndx nex
    have s0 : Same H1 (upd (upd H1 gdx (.own gp)) gp (.ins a.C_Genome gdx [])) := fun b o e => by
      rw [upd_ne (ne_of_none e nx), upd_ne (ne_of_none e ndx)]
      exact e
    have sl := seg_len bs (0 : Int).toNat n.toNat
    refine ⟨gp, gdx, qc, seg bs (0 : Int).toNat n.toNat, rfl, upd_same, s0 _ _ g1, seg_lt bs _ _, by omega, fun H2 rp rdx cA wA oA fr nc nw no G2 => ⟨rfl, ?_⟩⟩
    have s2 : Same H1 H2 := Same.made nx ndx fr
    have s12 := s1.trans s2
    have hcA : H cA = none := s1.free (s0.free nc)
    have hwA : H wA = none := s1.free (s0.free nw)
    have hoA : H oA = none := s1.free (s0.free no)
    refine ⟨Nat.zero_le _, fun l hl => ?_⟩
    have nl : gp ≠ l ∧ qc ≠ l ∧ rp ≠ l ∧ cA ≠ l ∧ wA ≠ l ∧ oA ≠ l := ⟨ne_of_none G2.ob hl, ne_of_none G2.co hl, ne_of_none G2.rd.ob hl, ne_of_none G2.rd.c hl, ne_of_none G2.rd.w hl, ne_of_none G2.rd.o hl⟩
    have hlH : H l = none := s12.free hl
    have s3 : Same H2 (upd H2 l (.lst [])) := Br.Same.upd_new hl
    have s13 := s12.trans s3
    refine ⟨_, rfl, ps, _, rfl, s13.seq hps, for_enum (K := K) (a := ps) (xs := rs.map V.ref)
      (fun t σ H4 => ∃ v5 v6 v7, σ = [some (.ref pb), some (.int n), some (.ref ps), some (.ref gp), some (.ref l), v5, v6, v7] ∧ Same H H4 ∧ GenAt a.C_Genome a.C_Reads H4 gp gdx qc rp rdx cA wA oA (after (Sg42.deskOf (seg bs (0 : Int).toNat n.toNat)) (sts.take t)) ∧
        H4 l = some (.lst ((joined (Sg42Neutral.steps (Sg42.deskOf (seg bs (0 : Int).toNat n.toNat)) (sts.take t))).map V.int)) ∧ (joined (Sg42Neutral.steps (Sg42.deskOf (seg bs (0 : Int).toNat n.toNat)) (sts.take t))).length ≤ 65601 * t)
      ⟨none, none, none, rfl, s13, G2.same s3, by rw [upd_same]; unfold Sg42Neutral.steps; rfl, by unfold Sg42Neutral.steps; exact Nat.le_refl 0⟩ (fun t σ H4 _ ⟨_, _, _, _, s4, _⟩ => s4.seq hps) ?_ ?_⟩
    · rintro t v σ H4 T0 hv' ⟨v5, v6, v7, rfl, s4, G4, gl, hlen⟩ hT
      rw [List.getElem?_map] at hv'
      obtain ⟨r, hr0, rfl⟩ := Option.map_eq_some_iff.mp hv'
      have ht : t < sts.length := by
        have := (List.getElem?_eq_some_iff.mp hr0).1
        omega
      have hst : sts[t]? = some sts[t] := List.getElem?_eq_getElem ht
      have hsq := hrow t r _ hr0 hst
      have hF := hfa _ (List.mem_of_getElem? hst)
      have et : sts.take (t + 1) = sts.take t ++ [sts[t]] := by
        rw [List.take_add_one, hst]
        rfl
      generalize sts[t] = st at hst hsq hF et
      generalize Sg42.deskOf (seg bs (0 : Int).toNat n.toNat) = x0 at *
      have t5 : Same H4 (upd H4 T0 (.tup [.int (t : Nat), .ref r])) := Br.Same.upd_new hT
      refine ⟨T0, _, rfl, SqT.of upd_same, rfl, _, _, rfl, _, _, rfl, rfl, ?_⟩
      generalize upd H4 T0 (.tup [.int (t : Nat), .ref r]) = H5 at t5
      have s5 := s4.trans t5
      have G5 := G4.same t5
      have gl5 := t5 _ _ gl
      refine ⟨_, rfl, gp, gdx, _, rfl, G5.ob, gf_no _ _ (by decide +kernel) (by decide +kernel), _, rfl, gp, r, gdx, qc, rp, rdx, cA, wA, oA, after x0 (sts.take t), st, rfl, G5, s5.seq hsq, hF, fun rr H6 sp6 f6 g6 hl6 G6 => ?_⟩
      have s6 : Same H H6 := fun b o e => sp6 b o (s5 _ _ e) (ne_of_none e hcA) (ne_of_none e hwA) (ne_of_none e hoA)
      have gl6 : H6 l = some (.lst ((joined (Sg42Neutral.steps x0 (sts.take t))).map V.int)) := sp6 _ _ gl5 nl.2.2.2.1.symm nl.2.2.2.2.1.symm nl.2.2.2.2.2.symm
      have nrl : rr ≠ l := (ne_of_none gl5 f6).symm
      have hjs := joined_snoc (Sg42Neutral.steps x0 (sts.take t)) (partOf (after x0 (sts.take t)) st).1
      rw [← steps_snoc, ← et] at hjs
      have hsl := steps_len (sts.take t) x0
      rw [List.length_take] at hsl
      have ea := after_snoc (sts.take t) x0 st
      rw [← et] at ea
      rw [← ea] at G6
      generalize (partOf (after x0 (sts.take t)) st).1 = part at g6 hl6 hjs
      generalize joined (Sg42Neutral.steps x0 (sts.take t)) = J at gl6 hlen hjs
      have sH : ∀ {H' : Hp}, (∀ b o, H6 b = some o → b ≠ l → H' b = some o) → Same H H' := fun {H'} fr b o e => fr b o (s6 _ _ e) (ne_of_none e hlH)
      refine ⟨_, rfl, _, _, rfl, rfl, _, rfl, ite2 (fun h => ?_) (fun h => ?_)⟩
      · have h' : (0 : Int) < ((t : Nat) : Int) := of_decide_eq_true h
        rw [if_neg (fun e => by rw [e] at hsl; simp only [List.length_nil] at hsl; omega)] at hjs
        refine ⟨_, rfl, .inl ⟨rfl, _, SqL.of gl6⟩, _, rfl, rr, _, rfl, .inl (SqL.of g6), l, _, _, rfl, rfl, gl6, by rw [List.length_map]; omega, ?_⟩
        rw [List.length_map]
        have g7 : upd H6 l (.lst (J.map V.int ++ [V.int ((part.length : Nat) : Int)])) l = some (.lst (J.map V.int ++ [V.int ((part.length : Nat) : Int)])) := upd_same
        have r7 : upd H6 l (.lst (J.map V.int ++ [V.int ((part.length : Nat) : Int)])) rr = some (.lst (part.map V.int)) := by rw [upd_ne nrl]; exact g6
        have fr7 : ∀ b o, H6 b = some o → b ≠ l → upd H6 l (.lst (J.map V.int ++ [V.int ((part.length : Nat) : Int)])) b = some o := fun b o e hb => by rw [upd_ne hb]; exact e
        generalize upd H6 l (.lst (J.map V.int ++ [V.int ((part.length : Nat) : Int)])) = H7 at g7 r7 fr7
        refine ⟨_, rfl, .inl ⟨rfl, _, SqL.of g7⟩, _, rfl, l, rr, _, _, rfl, rfl, g7, r7, by rw [List.length_append, List.length_map, List.length_map]; show J.length + 1 + _ ≤ _; omega, ?_⟩
        have fr8 : ∀ b o, H6 b = some o → b ≠ l → upd H7 l (.lst (J.map V.int ++ [V.int ((part.length : Nat) : Int)] ++ part.map V.int)) b = some o := fun b o e hb => by rw [upd_ne hb]; exact fr7 b o e hb
        refine ⟨_, _, _, rfl, sH fr8, G6.frame fr8 nl, ?_, ?_⟩
        · rw [upd_same, hjs, List.map_append, List.append_assoc]
          rfl
        · rw [hjs, List.length_append, List.length_cons]
          omega
      · have h' : ¬ (0 : Int) < ((t : Nat) : Int) := fun z => h (decide_eq_true z)
        have ht0 : t = 0 := by omega
        have hnil : Sg42Neutral.steps x0 (sts.take t) = [] := List.eq_nil_of_length_eq_zero (by omega)
        rw [if_pos hnil] at hjs
        have hJ : J.length = 0 := by
          rw [ht0] at hlen
          omega
        have hJ' : J = [] := List.eq_nil_of_length_eq_zero hJ
        refine ⟨_, rfl, .inl ⟨rfl, _, SqL.of gl6⟩, _, rfl, l, rr, _, _, rfl, rfl, gl6, g6, by rw [List.length_map, List.length_map]; omega, ?_⟩
        have fr8 : ∀ b o, H6 b = some o → b ≠ l → upd H6 l (.lst (J.map V.int ++ part.map V.int)) b = some o := fun b o e hb => by rw [upd_ne hb]; exact e
        refine ⟨_, _, _, rfl, sH fr8, G6.frame fr8 nl, ?_, ?_⟩
        · rw [upd_same, hjs, hJ']
          rfl
        · rw [hjs]
          omega
    · rintro σ H4 ⟨v5, v6, v7, rfl, s4, G4, gl, hlen⟩
      rw [List.length_map, hrl, List.take_length] at gl
      exact ⟨_, rfl, k l H4 gl⟩
end
theorem sees_rows {K : PySem.W.Frag} {H : Hp} {l1 m1 : Nat} {lo hi : Int} : ∀ {sts : List (List Int)} {xs : List V}, Paired (fun y x => Sees K H (.list l1 m1 (.int lo hi)) y x) sts xs →
    ∃ rs : List Addr, xs = rs.map V.ref ∧ rs.length = sts.length ∧ ∀ (i : Nat) (r : Addr) (st : List Int), rs[i]? = some r → sts[i]? = some st → SqL K H r (st.map V.int)
  | [], xs, h => by
    cases h
    exact ⟨[], rfl, rfl, fun i r st h => by simp at h⟩
  | y :: sts, xs, h => by
    cases h with
    | cons h1 h2 =>
      obtain ⟨rs, rfl, hl, hr⟩ := sees_rows h2
      obtain ⟨r0, rfl, hq⟩ := sees_list h1
      refine ⟨r0 :: rs, rfl, by rw [List.length_cons, List.length_cons, hl], fun i r st e1 e2 => ?_⟩
      cases i with
      | zero =>
        cases e1
        cases e2
        exact hq
      | succ i => exact hr i r st (by simpa using e1) (by simpa using e2)
theorem asked_ok {K : PySem.W.Frag} {H : Hp} {bs : List Int} {n : Int} {sts : List (List Int)} {vs : List V} {l1 m1 l3 m3 l4 m4 : Nat} {lo hi lo2 hi2 lo4 hi4 : Int} (ha : PySg42.genome_asked bs n sts = true)
    (S : SeesAll K H [.list l1 m1 (.int lo hi), .int lo2 hi2, .list l3 m3 (.list l4 m4 (.int lo4 hi4))] (bs, n, sts, ()) vs) : sp_genome K vs H (Gives (PySg42.genome bs n sts)) E0 := by
  obtain ⟨v1, r1, rfl, s1, v2, r2, rfl, s2, v3, r3, rfl, s3, s5⟩ := S
  obtain ⟨p, rfl, hq⟩ := sees_list s1
  obtain ⟨ps, xs, rfl, hps, pr⟩ := s3
  have e2 : v2 = V.int n := s2
  have e5 : r3 = [] := s5
  subst e2 e5
  obtain ⟨rs, rfl, hrl, hrow⟩ := sees_rows pr
  have ha' : (decide (sts.length ≤ 15) && (NeutralIO.within n 0 65536 && (Sg42Neutral.packed bs n 65536 && sts.all Sg42Neutral.stepRight))) = true := ha
  rw [Bool.and_eq_true, Bool.and_eq_true, Bool.and_eq_true, decide_eq_true_eq] at ha'
  obtain ⟨h15, hn, hp, hall⟩ := ha'
  have hn' := nwithin_iff.mp hn
  obtain ⟨hb, _, hl⟩ := packed_of hp
  have hl' := hl hn'
  refine ⟨p, ps, bs, n, sts, rs, rfl, hq, hb, hn', by omega, hps, hrl, hrow, h15, fun st hst => right_of (List.all_eq_true.mp hall st hst), fun r H' hr => ⟨r, rfl, .inl ?_⟩⟩
  rw [hr, genome_eq hb]
end Py

namespace Py
open PySem L2 Br Gr
set_option maxHeartbeats 4000000 in
theorem txt_mk {K : PySem.W.Frag} {h : Heap} {mg : Str → Option Value} (X : K.In h) (G : h.Ns mainGlobals mg)
    {t_CAPITALS : Addr} {od_CAPITALS : Option Addr} {sl_CAPITALS : Array (Option Value)} {its_CAPITALS : Array Value} {n_CAPITALS : Nat} {tk_GREATEST_BYTE : Tok} {tk_GREATEST_COUNT : Tok} {tk_LEAST_BYTE : Tok} {tk_LETTER_D : Tok} {tk_LETTER_I : Tok} {tk_LETTER_M : Tok} {tk_LETTER_N : Tok} {tk_LETTER_OVER : Tok} {tk_MOST_BASES : Tok} {tk_MOST_LAID : Tok} {tk_MOST_LETTERS : Tok} {tk_MOST_NEAR : Tok} {tk_MOST_READ : Tok} {tk_MOST_SCORE : Tok} {tk_MOST_SOUGHT : Tok} {tk_MOST_TOLD : Tok} {C_Block : Addr} {C_Scores : Addr} {C_Reads : Addr} {C_Genome : Addr} {f_Block_init : Addr} {od_Block_init an_Block_init : Option Addr} {sl_Block_init : Array (Option Value)} {oc_Block_init kV_Block_init dc_Block_init pm_Block_init cd_Block_init ct_Block_init : Value} {f_Block_advance : Addr} {od_Block_advance an_Block_advance : Option Addr} {sl_Block_advance : Array (Option Value)} {oc_Block_advance kV_Block_advance dc_Block_advance pm_Block_advance cd_Block_advance ct_Block_advance : Value} {f_near_ends : Addr} {od_near_ends an_near_ends : Option Addr} {sl_near_ends : Array (Option Value)} {oc_near_ends kV_near_ends dc_near_ends pm_near_ends cd_near_ends ct_near_ends : Value} {f_outside : Addr} {od_outside an_outside : Option Addr} {sl_outside : Array (Option Value)} {oc_outside kV_outside dc_outside pm_outside cd_outside ct_outside : Value} {f_bytes_for : Addr} {od_bytes_for an_bytes_for : Option Addr} {sl_bytes_for : Array (Option Value)} {oc_bytes_for kV_bytes_for dc_bytes_for pm_bytes_for cd_bytes_for ct_bytes_for : Value} {f_base_at : Addr} {od_base_at an_base_at : Option Addr} {sl_base_at : Array (Option Value)} {oc_base_at kV_base_at dc_base_at pm_base_at cd_base_at ct_base_at : Value} {f_read_bases : Addr} {od_read_bases an_read_bases : Option Addr} {sl_read_bases : Array (Option Value)} {oc_read_bases kV_read_bases dc_read_bases pm_read_bases cd_read_bases ct_read_bases : Value} {f_first_other_byte : Addr} {od_first_other_byte an_first_other_byte : Option Addr} {sl_first_other_byte : Array (Option Value)} {oc_first_other_byte kV_first_other_byte dc_first_other_byte pm_first_other_byte cd_first_other_byte ct_first_other_byte : Value} {f_Scores_init : Addr} {od_Scores_init an_Scores_init : Option Addr} {sl_Scores_init : Array (Option Value)} {oc_Scores_init kV_Scores_init dc_Scores_init pm_Scores_init cd_Scores_init ct_Scores_init : Value} {f_Scores_pair : Addr} {od_Scores_pair an_Scores_pair : Option Addr} {sl_Scores_pair : Array (Option Value)} {oc_Scores_pair kV_Scores_pair dc_Scores_pair pm_Scores_pair cd_Scores_pair ct_Scores_pair : Value} {f_Scores_row : Addr} {od_Scores_row an_Scores_row : Option Addr} {sl_Scores_row : Array (Option Value)} {oc_Scores_row kV_Scores_row dc_Scores_row pm_Scores_row cd_Scores_row ct_Scores_row : Value} {f_worths_behind : Addr} {od_worths_behind an_worths_behind : Option Addr} {sl_worths_behind : Array (Option Value)} {oc_worths_behind kV_worths_behind dc_worths_behind pm_worths_behind cd_worths_behind ct_worths_behind : Value} {f_all_worths : Addr} {od_all_worths an_all_worths : Option Addr} {sl_all_worths : Array (Option Value)} {oc_all_worths kV_all_worths dc_all_worths pm_all_worths cd_all_worths ct_all_worths : Value} {f_best_end : Addr} {od_best_end an_best_end : Option Addr} {sl_best_end : Array (Option Value)} {oc_best_end kV_best_end dc_best_end pm_best_end cd_best_end ct_best_end : Value} {f_length_of_d : Addr} {od_length_of_d an_length_of_d : Option Addr} {sl_length_of_d : Array (Option Value)} {oc_length_of_d kV_length_of_d dc_length_of_d pm_length_of_d cd_length_of_d ct_length_of_d : Value} {f_length_of_i : Addr} {od_length_of_i an_length_of_i : Option Addr} {sl_length_of_i : Array (Option Value)} {oc_length_of_i kV_length_of_i dc_length_of_i pm_length_of_i cd_length_of_i ct_length_of_i : Value} {f_way_back : Addr} {od_way_back an_way_back : Option Addr} {sl_way_back : Array (Option Value)} {oc_way_back kV_way_back dc_way_back pm_way_back cd_way_back ct_way_back : Value} {f_best_way : Addr} {od_best_way an_best_way : Option Addr} {sl_best_way : Array (Option Value)} {oc_best_way kV_best_way dc_best_way pm_best_way cd_best_way ct_best_way : Value} {f_length_behind : Addr} {od_length_behind an_length_behind : Option Addr} {sl_length_behind : Array (Option Value)} {oc_length_behind kV_length_behind dc_length_behind pm_length_behind cd_length_behind ct_length_behind : Value} {f_shorter_beginnings : Addr} {od_shorter_beginnings an_shorter_beginnings : Option Addr} {sl_shorter_beginnings : Array (Option Value)} {oc_shorter_beginnings kV_shorter_beginnings dc_shorter_beginnings pm_shorter_beginnings cd_shorter_beginnings ct_shorter_beginnings : Value} {f_beginnings_at : Addr} {od_beginnings_at an_beginnings_at : Option Addr} {sl_beginnings_at : Array (Option Value)} {oc_beginnings_at kV_beginnings_at dc_beginnings_at pm_beginnings_at cd_beginnings_at ct_beginnings_at : Value} {f_places_of : Addr} {od_places_of an_places_of : Option Addr} {sl_places_of : Array (Option Value)} {oc_places_of kV_places_of dc_places_of pm_places_of cd_places_of ct_places_of : Value} {f_longest_beginning : Addr} {od_longest_beginning an_longest_beginning : Option Addr} {sl_longest_beginning : Array (Option Value)} {oc_longest_beginning kV_longest_beginning dc_longest_beginning pm_longest_beginning cd_longest_beginning ct_longest_beginning : Value} {f_raised : Addr} {od_raised an_raised : Option Addr} {sl_raised : Array (Option Value)} {oc_raised kV_raised dc_raised pm_raised cd_raised ct_raised : Value} {f_Reads_init : Addr} {od_Reads_init an_Reads_init : Option Addr} {sl_Reads_init : Array (Option Value)} {oc_Reads_init kV_Reads_init dc_Reads_init pm_Reads_init cd_Reads_init ct_Reads_init : Value} {f_Reads_fits : Addr} {od_Reads_fits an_Reads_fits : Option Addr} {sl_Reads_fits : Array (Option Value)} {oc_Reads_fits kV_Reads_fits dc_Reads_fits pm_Reads_fits cd_Reads_fits ct_Reads_fits : Value} {f_Reads_pile : Addr} {od_Reads_pile an_Reads_pile : Option Addr} {sl_Reads_pile : Array (Option Value)} {oc_Reads_pile kV_Reads_pile dc_Reads_pile pm_Reads_pile cd_Reads_pile ct_Reads_pile : Value} {f_Reads_depth_at : Addr} {od_Reads_depth_at an_Reads_depth_at : Option Addr} {sl_Reads_depth_at : Array (Option Value)} {oc_Reads_depth_at kV_Reads_depth_at dc_Reads_depth_at pm_Reads_depth_at cd_Reads_depth_at ct_Reads_depth_at : Value} {f_Reads_said_at : Addr} {od_Reads_said_at an_Reads_said_at : Option Addr} {sl_Reads_said_at : Array (Option Value)} {oc_Reads_said_at kV_Reads_said_at dc_Reads_said_at pm_Reads_said_at cd_Reads_said_at ct_Reads_said_at : Value} {f_Genome_init : Addr} {od_Genome_init an_Genome_init : Option Addr} {sl_Genome_init : Array (Option Value)} {oc_Genome_init kV_Genome_init dc_Genome_init pm_Genome_init cd_Genome_init ct_Genome_init : Value} {f_Genome_make : Addr} {od_Genome_make an_Genome_make : Option Addr} {sl_Genome_make : Array (Option Value)} {oc_Genome_make kV_Genome_make dc_Genome_make pm_Genome_make cd_Genome_make ct_Genome_make : Value} {f_Genome_find_places : Addr} {od_Genome_find_places an_Genome_find_places : Option Addr} {sl_Genome_find_places : Array (Option Value)} {oc_Genome_find_places kV_Genome_find_places dc_Genome_find_places pm_Genome_find_places cd_Genome_find_places ct_Genome_find_places : Value} {f_Genome_find_longest : Addr} {od_Genome_find_longest an_Genome_find_longest : Option Addr} {sl_Genome_find_longest : Array (Option Value)} {oc_Genome_find_longest kV_Genome_find_longest dc_Genome_find_longest pm_Genome_find_longest cd_Genome_find_longest ct_Genome_find_longest : Value} {f_Genome_find_near : Addr} {od_Genome_find_near an_Genome_find_near : Option Addr} {sl_Genome_find_near : Array (Option Value)} {oc_Genome_find_near kV_Genome_find_near dc_Genome_find_near pm_Genome_find_near cd_Genome_find_near ct_Genome_find_near : Value} {f_Genome_pile_read : Addr} {od_Genome_pile_read an_Genome_pile_read : Option Addr} {sl_Genome_pile_read : Array (Option Value)} {oc_Genome_pile_read kV_Genome_pile_read dc_Genome_pile_read pm_Genome_pile_read cd_Genome_pile_read ct_Genome_pile_read : Value} {f_Genome_tell_said : Addr} {od_Genome_tell_said an_Genome_tell_said : Option Addr} {sl_Genome_tell_said : Array (Option Value)} {oc_Genome_tell_said kV_Genome_tell_said dc_Genome_tell_said pm_Genome_tell_said cd_Genome_tell_said ct_Genome_tell_said : Value} {f_Genome_tell_depth : Addr} {od_Genome_tell_depth an_Genome_tell_depth : Option Addr} {sl_Genome_tell_depth : Array (Option Value)} {oc_Genome_tell_depth kV_Genome_tell_depth dc_Genome_tell_depth pm_Genome_tell_depth cd_Genome_tell_depth ct_Genome_tell_depth : Value} {f_lay : Addr} {od_lay an_lay : Option Addr} {sl_lay : Array (Option Value)} {oc_lay kV_lay dc_lay pm_lay cd_lay ct_lay : Value} {f_genome : Addr} {od_genome an_genome : Option Addr} {sl_genome : Array (Option Value)} {oc_genome kV_genome dc_genome pm_genome cd_genome ct_genome : Value}
    (a_CAPITALS : PySem.W.nsIn K mainGlobals "CAPITALS" = some (some (.ref t_CAPITALS)))
    (l_CAPITALS : K.lookup t_CAPITALS = some ⟨.type "tuple", od_CAPITALS, .seq its_CAPITALS n_CAPITALS, sl_CAPITALS⟩)
    (v_CAPITALS : Vals [.int 65, .int 67, .int 71, .int 84] its_CAPITALS.toList)
    (a_GREATEST_BYTE : PySem.W.nsIn K mainGlobals "GREATEST_BYTE" = some (some (.int 126 tk_GREATEST_BYTE)))
    (a_GREATEST_COUNT : PySem.W.nsIn K mainGlobals "GREATEST_COUNT" = some (some (.int 65535 tk_GREATEST_COUNT)))
    (a_LEAST_BYTE : PySem.W.nsIn K mainGlobals "LEAST_BYTE" = some (some (.int 33 tk_LEAST_BYTE)))
    (a_LETTER_D : PySem.W.nsIn K mainGlobals "LETTER_D" = some (some (.int 68 tk_LETTER_D)))
    (a_LETTER_I : PySem.W.nsIn K mainGlobals "LETTER_I" = some (some (.int 73 tk_LETTER_I)))
    (a_LETTER_M : PySem.W.nsIn K mainGlobals "LETTER_M" = some (some (.int 77 tk_LETTER_M)))
    (a_LETTER_N : PySem.W.nsIn K mainGlobals "LETTER_N" = some (some (.int 78 tk_LETTER_N)))
    (a_LETTER_OVER : PySem.W.nsIn K mainGlobals "LETTER_OVER" = some (some (.int 45 tk_LETTER_OVER)))
    (a_MOST_BASES : PySem.W.nsIn K mainGlobals "MOST_BASES" = some (some (.int 65536 tk_MOST_BASES)))
    (a_MOST_LAID : PySem.W.nsIn K mainGlobals "MOST_LAID" = some (some (.int 1024 tk_MOST_LAID)))
    (a_MOST_LETTERS : PySem.W.nsIn K mainGlobals "MOST_LETTERS" = some (some (.int 4096 tk_MOST_LETTERS)))
    (a_MOST_NEAR : PySem.W.nsIn K mainGlobals "MOST_NEAR" = some (some (.int 512 tk_MOST_NEAR)))
    (a_MOST_READ : PySem.W.nsIn K mainGlobals "MOST_READ" = some (some (.int 1024 tk_MOST_READ)))
    (a_MOST_SCORE : PySem.W.nsIn K mainGlobals "MOST_SCORE" = some (some (.int 127 tk_MOST_SCORE)))
    (a_MOST_SOUGHT : PySem.W.nsIn K mainGlobals "MOST_SOUGHT" = some (some (.int 1024 tk_MOST_SOUGHT)))
    (a_MOST_TOLD : PySem.W.nsIn K mainGlobals "MOST_TOLD" = some (some (.int 65536 tk_MOST_TOLD)))
    (a_Block : PySem.W.nsIn K mainGlobals "Block" = some (some (.ref C_Block)))
    (pg_Block : PySem.W.plainGet K C_Block Str.empty = true)
    (hd_Block : PySem.W.hasDictIn K C_Block = true)
    (po_Block : PySem.W.plainOver K C_Block = true)
    (sa_Block : PySem.W.findIn K (.ref C_Block) "__setattr__" = some (some (.builtin "object.__setattr__")))
    (mk_Block : PySem.W.makesIn K C_Block = true)
    (kc_Block : PySem.W.keepIn K (.ref C_Block) = true)
    (na_Block_falling : PySem.W.findIn K (.ref C_Block) "falling" = some none)
    (na_Block_full : PySem.W.findIn K (.ref C_Block) "full" = some none)
    (na_Block_last : PySem.W.findIn K (.ref C_Block) "last" = some none)
    (na_Block_places : PySem.W.findIn K (.ref C_Block) "places" = some none)
    (na_Block_rising : PySem.W.findIn K (.ref C_Block) "rising" = some none)
    (a_Scores : PySem.W.nsIn K mainGlobals "Scores" = some (some (.ref C_Scores)))
    (pg_Scores : PySem.W.plainGet K C_Scores Str.empty = true)
    (hd_Scores : PySem.W.hasDictIn K C_Scores = true)
    (po_Scores : PySem.W.plainOver K C_Scores = true)
    (sa_Scores : PySem.W.findIn K (.ref C_Scores) "__setattr__" = some (some (.builtin "object.__setattr__")))
    (mk_Scores : PySem.W.makesIn K C_Scores = true)
    (kc_Scores : PySem.W.keepIn K (.ref C_Scores) = true)
    (na_Scores_alike : PySem.W.findIn K (.ref C_Scores) "alike" = some none)
    (na_Scores_gap : PySem.W.findIn K (.ref C_Scores) "gap" = some none)
    (na_Scores_more : PySem.W.findIn K (.ref C_Scores) "more" = some none)
    (na_Scores_unlike : PySem.W.findIn K (.ref C_Scores) "unlike" = some none)
    (a_Reads : PySem.W.nsIn K mainGlobals "Reads" = some (some (.ref C_Reads)))
    (pg_Reads : PySem.W.plainGet K C_Reads Str.empty = true)
    (hd_Reads : PySem.W.hasDictIn K C_Reads = true)
    (po_Reads : PySem.W.plainOver K C_Reads = true)
    (sa_Reads : PySem.W.findIn K (.ref C_Reads) "__setattr__" = some (some (.builtin "object.__setattr__")))
    (mk_Reads : PySem.W.makesIn K C_Reads = true)
    (kc_Reads : PySem.W.keepIn K (.ref C_Reads) = true)
    (na_Reads_counts : PySem.W.findIn K (.ref C_Reads) "counts" = some none)
    (na_Reads_length : PySem.W.findIn K (.ref C_Reads) "length" = some none)
    (na_Reads_over : PySem.W.findIn K (.ref C_Reads) "over" = some none)
    (na_Reads_weights : PySem.W.findIn K (.ref C_Reads) "weights" = some none)
    (a_Genome : PySem.W.nsIn K mainGlobals "Genome" = some (some (.ref C_Genome)))
    (pg_Genome : PySem.W.plainGet K C_Genome Str.empty = true)
    (hd_Genome : PySem.W.hasDictIn K C_Genome = true)
    (po_Genome : PySem.W.plainOver K C_Genome = true)
    (sa_Genome : PySem.W.findIn K (.ref C_Genome) "__setattr__" = some (some (.builtin "object.__setattr__")))
    (mk_Genome : PySem.W.makesIn K C_Genome = true)
    (kc_Genome : PySem.W.keepIn K (.ref C_Genome) = true)
    (na_Genome_codes : PySem.W.findIn K (.ref C_Genome) "codes" = some none)
    (na_Genome_reads : PySem.W.findIn K (.ref C_Genome) "reads" = some none)
    (a_Block_init : PySem.W.findIn K (.ref C_Block) "__init__" = some (some (.ref f_Block_init)))
    (i_Block_init : PySem.W.isFn K (.ref f_Block_init) = true)
    (l_Block_init : K.lookup f_Block_init = some ⟨oc_Block_init, od_Block_init, .func (PySem.W.fnOf "__init__" "Block.__init__" (defArgs s_Block_init) (defBody s_Block_init) (defScope s_Block_init) .none kV_Block_init dc_Block_init pm_Block_init an_Block_init cd_Block_init ct_Block_init), sl_Block_init⟩)
    (c_Block_init : PySem.W.codeIn K cd_Block_init "Block.__init__" = true)
    (k_Block_init : PySem.W.keepIn K (.ref f_Block_init) = true)
    (a_Block_advance : PySem.W.findIn K (.ref C_Block) "advance" = some (some (.ref f_Block_advance)))
    (i_Block_advance : PySem.W.isFn K (.ref f_Block_advance) = true)
    (l_Block_advance : K.lookup f_Block_advance = some ⟨oc_Block_advance, od_Block_advance, .func (PySem.W.fnOf "advance" "Block.advance" (defArgs s_Block_advance) (defBody s_Block_advance) (defScope s_Block_advance) .none kV_Block_advance dc_Block_advance pm_Block_advance an_Block_advance cd_Block_advance ct_Block_advance), sl_Block_advance⟩)
    (c_Block_advance : PySem.W.codeIn K cd_Block_advance "Block.advance" = true)
    (k_Block_advance : PySem.W.keepIn K (.ref f_Block_advance) = true)
    (a_near_ends : PySem.W.nsIn K mainGlobals "near_ends" = some (some (.ref f_near_ends)))
    (l_near_ends : K.lookup f_near_ends = some ⟨oc_near_ends, od_near_ends, .func (PySem.W.fnOf "near_ends" "near_ends" (defArgs s_near_ends) (defBody s_near_ends) (defScope s_near_ends) .none kV_near_ends dc_near_ends pm_near_ends an_near_ends cd_near_ends ct_near_ends), sl_near_ends⟩)
    (c_near_ends : PySem.W.codeIn K cd_near_ends "near_ends" = true)
    (k_near_ends : PySem.W.keepIn K (.ref f_near_ends) = true)
    (a_outside : PySem.W.nsIn K mainGlobals "outside" = some (some (.ref f_outside)))
    (l_outside : K.lookup f_outside = some ⟨oc_outside, od_outside, .func (PySem.W.fnOf "outside" "outside" (defArgs s_outside) (defBody s_outside) (defScope s_outside) .none kV_outside dc_outside pm_outside an_outside cd_outside ct_outside), sl_outside⟩)
    (c_outside : PySem.W.codeIn K cd_outside "outside" = true)
    (k_outside : PySem.W.keepIn K (.ref f_outside) = true)
    (a_bytes_for : PySem.W.nsIn K mainGlobals "bytes_for" = some (some (.ref f_bytes_for)))
    (l_bytes_for : K.lookup f_bytes_for = some ⟨oc_bytes_for, od_bytes_for, .func (PySem.W.fnOf "bytes_for" "bytes_for" (defArgs s_bytes_for) (defBody s_bytes_for) (defScope s_bytes_for) .none kV_bytes_for dc_bytes_for pm_bytes_for an_bytes_for cd_bytes_for ct_bytes_for), sl_bytes_for⟩)
    (c_bytes_for : PySem.W.codeIn K cd_bytes_for "bytes_for" = true)
    (k_bytes_for : PySem.W.keepIn K (.ref f_bytes_for) = true)
    (a_base_at : PySem.W.nsIn K mainGlobals "base_at" = some (some (.ref f_base_at)))
    (l_base_at : K.lookup f_base_at = some ⟨oc_base_at, od_base_at, .func (PySem.W.fnOf "base_at" "base_at" (defArgs s_base_at) (defBody s_base_at) (defScope s_base_at) .none kV_base_at dc_base_at pm_base_at an_base_at cd_base_at ct_base_at), sl_base_at⟩)
    (c_base_at : PySem.W.codeIn K cd_base_at "base_at" = true)
    (k_base_at : PySem.W.keepIn K (.ref f_base_at) = true)
    (a_read_bases : PySem.W.nsIn K mainGlobals "read_bases" = some (some (.ref f_read_bases)))
    (l_read_bases : K.lookup f_read_bases = some ⟨oc_read_bases, od_read_bases, .func (PySem.W.fnOf "read_bases" "read_bases" (defArgs s_read_bases) (defBody s_read_bases) (defScope s_read_bases) .none kV_read_bases dc_read_bases pm_read_bases an_read_bases cd_read_bases ct_read_bases), sl_read_bases⟩)
    (c_read_bases : PySem.W.codeIn K cd_read_bases "read_bases" = true)
    (k_read_bases : PySem.W.keepIn K (.ref f_read_bases) = true)
    (a_first_other_byte : PySem.W.nsIn K mainGlobals "first_other_byte" = some (some (.ref f_first_other_byte)))
    (l_first_other_byte : K.lookup f_first_other_byte = some ⟨oc_first_other_byte, od_first_other_byte, .func (PySem.W.fnOf "first_other_byte" "first_other_byte" (defArgs s_first_other_byte) (defBody s_first_other_byte) (defScope s_first_other_byte) .none kV_first_other_byte dc_first_other_byte pm_first_other_byte an_first_other_byte cd_first_other_byte ct_first_other_byte), sl_first_other_byte⟩)
    (c_first_other_byte : PySem.W.codeIn K cd_first_other_byte "first_other_byte" = true)
    (k_first_other_byte : PySem.W.keepIn K (.ref f_first_other_byte) = true)
    (a_Scores_init : PySem.W.findIn K (.ref C_Scores) "__init__" = some (some (.ref f_Scores_init)))
    (i_Scores_init : PySem.W.isFn K (.ref f_Scores_init) = true)
    (l_Scores_init : K.lookup f_Scores_init = some ⟨oc_Scores_init, od_Scores_init, .func (PySem.W.fnOf "__init__" "Scores.__init__" (defArgs s_Scores_init) (defBody s_Scores_init) (defScope s_Scores_init) .none kV_Scores_init dc_Scores_init pm_Scores_init an_Scores_init cd_Scores_init ct_Scores_init), sl_Scores_init⟩)
    (c_Scores_init : PySem.W.codeIn K cd_Scores_init "Scores.__init__" = true)
    (k_Scores_init : PySem.W.keepIn K (.ref f_Scores_init) = true)
    (a_Scores_pair : PySem.W.findIn K (.ref C_Scores) "pair" = some (some (.ref f_Scores_pair)))
    (i_Scores_pair : PySem.W.isFn K (.ref f_Scores_pair) = true)
    (l_Scores_pair : K.lookup f_Scores_pair = some ⟨oc_Scores_pair, od_Scores_pair, .func (PySem.W.fnOf "pair" "Scores.pair" (defArgs s_Scores_pair) (defBody s_Scores_pair) (defScope s_Scores_pair) .none kV_Scores_pair dc_Scores_pair pm_Scores_pair an_Scores_pair cd_Scores_pair ct_Scores_pair), sl_Scores_pair⟩)
    (c_Scores_pair : PySem.W.codeIn K cd_Scores_pair "Scores.pair" = true)
    (k_Scores_pair : PySem.W.keepIn K (.ref f_Scores_pair) = true)
    (a_Scores_row : PySem.W.findIn K (.ref C_Scores) "row" = some (some (.ref f_Scores_row)))
    (i_Scores_row : PySem.W.isFn K (.ref f_Scores_row) = true)
    (l_Scores_row : K.lookup f_Scores_row = some ⟨oc_Scores_row, od_Scores_row, .func (PySem.W.fnOf "row" "Scores.row" (defArgs s_Scores_row) (defBody s_Scores_row) (defScope s_Scores_row) .none kV_Scores_row dc_Scores_row pm_Scores_row an_Scores_row cd_Scores_row ct_Scores_row), sl_Scores_row⟩)
    (c_Scores_row : PySem.W.codeIn K cd_Scores_row "Scores.row" = true)
    (k_Scores_row : PySem.W.keepIn K (.ref f_Scores_row) = true)
    (a_worths_behind : PySem.W.nsIn K mainGlobals "worths_behind" = some (some (.ref f_worths_behind)))
    (l_worths_behind : K.lookup f_worths_behind = some ⟨oc_worths_behind, od_worths_behind, .func (PySem.W.fnOf "worths_behind" "worths_behind" (defArgs s_worths_behind) (defBody s_worths_behind) (defScope s_worths_behind) .none kV_worths_behind dc_worths_behind pm_worths_behind an_worths_behind cd_worths_behind ct_worths_behind), sl_worths_behind⟩)
    (c_worths_behind : PySem.W.codeIn K cd_worths_behind "worths_behind" = true)
    (k_worths_behind : PySem.W.keepIn K (.ref f_worths_behind) = true)
    (a_all_worths : PySem.W.nsIn K mainGlobals "all_worths" = some (some (.ref f_all_worths)))
    (l_all_worths : K.lookup f_all_worths = some ⟨oc_all_worths, od_all_worths, .func (PySem.W.fnOf "all_worths" "all_worths" (defArgs s_all_worths) (defBody s_all_worths) (defScope s_all_worths) .none kV_all_worths dc_all_worths pm_all_worths an_all_worths cd_all_worths ct_all_worths), sl_all_worths⟩)
    (c_all_worths : PySem.W.codeIn K cd_all_worths "all_worths" = true)
    (k_all_worths : PySem.W.keepIn K (.ref f_all_worths) = true)
    (a_best_end : PySem.W.nsIn K mainGlobals "best_end" = some (some (.ref f_best_end)))
    (l_best_end : K.lookup f_best_end = some ⟨oc_best_end, od_best_end, .func (PySem.W.fnOf "best_end" "best_end" (defArgs s_best_end) (defBody s_best_end) (defScope s_best_end) .none kV_best_end dc_best_end pm_best_end an_best_end cd_best_end ct_best_end), sl_best_end⟩)
    (c_best_end : PySem.W.codeIn K cd_best_end "best_end" = true)
    (k_best_end : PySem.W.keepIn K (.ref f_best_end) = true)
    (a_length_of_d : PySem.W.nsIn K mainGlobals "length_of_d" = some (some (.ref f_length_of_d)))
    (l_length_of_d : K.lookup f_length_of_d = some ⟨oc_length_of_d, od_length_of_d, .func (PySem.W.fnOf "length_of_d" "length_of_d" (defArgs s_length_of_d) (defBody s_length_of_d) (defScope s_length_of_d) .none kV_length_of_d dc_length_of_d pm_length_of_d an_length_of_d cd_length_of_d ct_length_of_d), sl_length_of_d⟩)
    (c_length_of_d : PySem.W.codeIn K cd_length_of_d "length_of_d" = true)
    (k_length_of_d : PySem.W.keepIn K (.ref f_length_of_d) = true)
    (a_length_of_i : PySem.W.nsIn K mainGlobals "length_of_i" = some (some (.ref f_length_of_i)))
    (l_length_of_i : K.lookup f_length_of_i = some ⟨oc_length_of_i, od_length_of_i, .func (PySem.W.fnOf "length_of_i" "length_of_i" (defArgs s_length_of_i) (defBody s_length_of_i) (defScope s_length_of_i) .none kV_length_of_i dc_length_of_i pm_length_of_i an_length_of_i cd_length_of_i ct_length_of_i), sl_length_of_i⟩)
    (c_length_of_i : PySem.W.codeIn K cd_length_of_i "length_of_i" = true)
    (k_length_of_i : PySem.W.keepIn K (.ref f_length_of_i) = true)
    (a_way_back : PySem.W.nsIn K mainGlobals "way_back" = some (some (.ref f_way_back)))
    (l_way_back : K.lookup f_way_back = some ⟨oc_way_back, od_way_back, .func (PySem.W.fnOf "way_back" "way_back" (defArgs s_way_back) (defBody s_way_back) (defScope s_way_back) .none kV_way_back dc_way_back pm_way_back an_way_back cd_way_back ct_way_back), sl_way_back⟩)
    (c_way_back : PySem.W.codeIn K cd_way_back "way_back" = true)
    (k_way_back : PySem.W.keepIn K (.ref f_way_back) = true)
    (a_best_way : PySem.W.nsIn K mainGlobals "best_way" = some (some (.ref f_best_way)))
    (l_best_way : K.lookup f_best_way = some ⟨oc_best_way, od_best_way, .func (PySem.W.fnOf "best_way" "best_way" (defArgs s_best_way) (defBody s_best_way) (defScope s_best_way) .none kV_best_way dc_best_way pm_best_way an_best_way cd_best_way ct_best_way), sl_best_way⟩)
    (c_best_way : PySem.W.codeIn K cd_best_way "best_way" = true)
    (k_best_way : PySem.W.keepIn K (.ref f_best_way) = true)
    (a_length_behind : PySem.W.nsIn K mainGlobals "length_behind" = some (some (.ref f_length_behind)))
    (l_length_behind : K.lookup f_length_behind = some ⟨oc_length_behind, od_length_behind, .func (PySem.W.fnOf "length_behind" "length_behind" (defArgs s_length_behind) (defBody s_length_behind) (defScope s_length_behind) .none kV_length_behind dc_length_behind pm_length_behind an_length_behind cd_length_behind ct_length_behind), sl_length_behind⟩)
    (c_length_behind : PySem.W.codeIn K cd_length_behind "length_behind" = true)
    (k_length_behind : PySem.W.keepIn K (.ref f_length_behind) = true)
    (a_shorter_beginnings : PySem.W.nsIn K mainGlobals "shorter_beginnings" = some (some (.ref f_shorter_beginnings)))
    (l_shorter_beginnings : K.lookup f_shorter_beginnings = some ⟨oc_shorter_beginnings, od_shorter_beginnings, .func (PySem.W.fnOf "shorter_beginnings" "shorter_beginnings" (defArgs s_shorter_beginnings) (defBody s_shorter_beginnings) (defScope s_shorter_beginnings) .none kV_shorter_beginnings dc_shorter_beginnings pm_shorter_beginnings an_shorter_beginnings cd_shorter_beginnings ct_shorter_beginnings), sl_shorter_beginnings⟩)
    (c_shorter_beginnings : PySem.W.codeIn K cd_shorter_beginnings "shorter_beginnings" = true)
    (k_shorter_beginnings : PySem.W.keepIn K (.ref f_shorter_beginnings) = true)
    (a_beginnings_at : PySem.W.nsIn K mainGlobals "beginnings_at" = some (some (.ref f_beginnings_at)))
    (l_beginnings_at : K.lookup f_beginnings_at = some ⟨oc_beginnings_at, od_beginnings_at, .func (PySem.W.fnOf "beginnings_at" "beginnings_at" (defArgs s_beginnings_at) (defBody s_beginnings_at) (defScope s_beginnings_at) .none kV_beginnings_at dc_beginnings_at pm_beginnings_at an_beginnings_at cd_beginnings_at ct_beginnings_at), sl_beginnings_at⟩)
    (c_beginnings_at : PySem.W.codeIn K cd_beginnings_at "beginnings_at" = true)
    (k_beginnings_at : PySem.W.keepIn K (.ref f_beginnings_at) = true)
    (a_places_of : PySem.W.nsIn K mainGlobals "places_of" = some (some (.ref f_places_of)))
    (l_places_of : K.lookup f_places_of = some ⟨oc_places_of, od_places_of, .func (PySem.W.fnOf "places_of" "places_of" (defArgs s_places_of) (defBody s_places_of) (defScope s_places_of) .none kV_places_of dc_places_of pm_places_of an_places_of cd_places_of ct_places_of), sl_places_of⟩)
    (c_places_of : PySem.W.codeIn K cd_places_of "places_of" = true)
    (k_places_of : PySem.W.keepIn K (.ref f_places_of) = true)
    (a_longest_beginning : PySem.W.nsIn K mainGlobals "longest_beginning" = some (some (.ref f_longest_beginning)))
    (l_longest_beginning : K.lookup f_longest_beginning = some ⟨oc_longest_beginning, od_longest_beginning, .func (PySem.W.fnOf "longest_beginning" "longest_beginning" (defArgs s_longest_beginning) (defBody s_longest_beginning) (defScope s_longest_beginning) .none kV_longest_beginning dc_longest_beginning pm_longest_beginning an_longest_beginning cd_longest_beginning ct_longest_beginning), sl_longest_beginning⟩)
    (c_longest_beginning : PySem.W.codeIn K cd_longest_beginning "longest_beginning" = true)
    (k_longest_beginning : PySem.W.keepIn K (.ref f_longest_beginning) = true)
    (a_raised : PySem.W.nsIn K mainGlobals "raised" = some (some (.ref f_raised)))
    (l_raised : K.lookup f_raised = some ⟨oc_raised, od_raised, .func (PySem.W.fnOf "raised" "raised" (defArgs s_raised) (defBody s_raised) (defScope s_raised) .none kV_raised dc_raised pm_raised an_raised cd_raised ct_raised), sl_raised⟩)
    (c_raised : PySem.W.codeIn K cd_raised "raised" = true)
    (k_raised : PySem.W.keepIn K (.ref f_raised) = true)
    (a_Reads_init : PySem.W.findIn K (.ref C_Reads) "__init__" = some (some (.ref f_Reads_init)))
    (i_Reads_init : PySem.W.isFn K (.ref f_Reads_init) = true)
    (l_Reads_init : K.lookup f_Reads_init = some ⟨oc_Reads_init, od_Reads_init, .func (PySem.W.fnOf "__init__" "Reads.__init__" (defArgs s_Reads_init) (defBody s_Reads_init) (defScope s_Reads_init) .none kV_Reads_init dc_Reads_init pm_Reads_init an_Reads_init cd_Reads_init ct_Reads_init), sl_Reads_init⟩)
    (c_Reads_init : PySem.W.codeIn K cd_Reads_init "Reads.__init__" = true)
    (k_Reads_init : PySem.W.keepIn K (.ref f_Reads_init) = true)
    (a_Reads_fits : PySem.W.findIn K (.ref C_Reads) "fits" = some (some (.ref f_Reads_fits)))
    (i_Reads_fits : PySem.W.isFn K (.ref f_Reads_fits) = true)
    (l_Reads_fits : K.lookup f_Reads_fits = some ⟨oc_Reads_fits, od_Reads_fits, .func (PySem.W.fnOf "fits" "Reads.fits" (defArgs s_Reads_fits) (defBody s_Reads_fits) (defScope s_Reads_fits) .none kV_Reads_fits dc_Reads_fits pm_Reads_fits an_Reads_fits cd_Reads_fits ct_Reads_fits), sl_Reads_fits⟩)
    (c_Reads_fits : PySem.W.codeIn K cd_Reads_fits "Reads.fits" = true)
    (k_Reads_fits : PySem.W.keepIn K (.ref f_Reads_fits) = true)
    (a_Reads_pile : PySem.W.findIn K (.ref C_Reads) "pile" = some (some (.ref f_Reads_pile)))
    (i_Reads_pile : PySem.W.isFn K (.ref f_Reads_pile) = true)
    (l_Reads_pile : K.lookup f_Reads_pile = some ⟨oc_Reads_pile, od_Reads_pile, .func (PySem.W.fnOf "pile" "Reads.pile" (defArgs s_Reads_pile) (defBody s_Reads_pile) (defScope s_Reads_pile) .none kV_Reads_pile dc_Reads_pile pm_Reads_pile an_Reads_pile cd_Reads_pile ct_Reads_pile), sl_Reads_pile⟩)
    (c_Reads_pile : PySem.W.codeIn K cd_Reads_pile "Reads.pile" = true)
    (k_Reads_pile : PySem.W.keepIn K (.ref f_Reads_pile) = true)
    (a_Reads_depth_at : PySem.W.findIn K (.ref C_Reads) "depth_at" = some (some (.ref f_Reads_depth_at)))
    (i_Reads_depth_at : PySem.W.isFn K (.ref f_Reads_depth_at) = true)
    (l_Reads_depth_at : K.lookup f_Reads_depth_at = some ⟨oc_Reads_depth_at, od_Reads_depth_at, .func (PySem.W.fnOf "depth_at" "Reads.depth_at" (defArgs s_Reads_depth_at) (defBody s_Reads_depth_at) (defScope s_Reads_depth_at) .none kV_Reads_depth_at dc_Reads_depth_at pm_Reads_depth_at an_Reads_depth_at cd_Reads_depth_at ct_Reads_depth_at), sl_Reads_depth_at⟩)
    (c_Reads_depth_at : PySem.W.codeIn K cd_Reads_depth_at "Reads.depth_at" = true)
    (k_Reads_depth_at : PySem.W.keepIn K (.ref f_Reads_depth_at) = true)
    (a_Reads_said_at : PySem.W.findIn K (.ref C_Reads) "said_at" = some (some (.ref f_Reads_said_at)))
    (i_Reads_said_at : PySem.W.isFn K (.ref f_Reads_said_at) = true)
    (l_Reads_said_at : K.lookup f_Reads_said_at = some ⟨oc_Reads_said_at, od_Reads_said_at, .func (PySem.W.fnOf "said_at" "Reads.said_at" (defArgs s_Reads_said_at) (defBody s_Reads_said_at) (defScope s_Reads_said_at) .none kV_Reads_said_at dc_Reads_said_at pm_Reads_said_at an_Reads_said_at cd_Reads_said_at ct_Reads_said_at), sl_Reads_said_at⟩)
    (c_Reads_said_at : PySem.W.codeIn K cd_Reads_said_at "Reads.said_at" = true)
    (k_Reads_said_at : PySem.W.keepIn K (.ref f_Reads_said_at) = true)
    (a_Genome_init : PySem.W.findIn K (.ref C_Genome) "__init__" = some (some (.ref f_Genome_init)))
    (i_Genome_init : PySem.W.isFn K (.ref f_Genome_init) = true)
    (l_Genome_init : K.lookup f_Genome_init = some ⟨oc_Genome_init, od_Genome_init, .func (PySem.W.fnOf "__init__" "Genome.__init__" (defArgs s_Genome_init) (defBody s_Genome_init) (defScope s_Genome_init) .none kV_Genome_init dc_Genome_init pm_Genome_init an_Genome_init cd_Genome_init ct_Genome_init), sl_Genome_init⟩)
    (c_Genome_init : PySem.W.codeIn K cd_Genome_init "Genome.__init__" = true)
    (k_Genome_init : PySem.W.keepIn K (.ref f_Genome_init) = true)
    (a_Genome_make : PySem.W.findIn K (.ref C_Genome) "make" = some (some (.ref f_Genome_make)))
    (i_Genome_make : PySem.W.isFn K (.ref f_Genome_make) = true)
    (l_Genome_make : K.lookup f_Genome_make = some ⟨oc_Genome_make, od_Genome_make, .func (PySem.W.fnOf "make" "Genome.make" (defArgs s_Genome_make) (defBody s_Genome_make) (defScope s_Genome_make) .none kV_Genome_make dc_Genome_make pm_Genome_make an_Genome_make cd_Genome_make ct_Genome_make), sl_Genome_make⟩)
    (c_Genome_make : PySem.W.codeIn K cd_Genome_make "Genome.make" = true)
    (k_Genome_make : PySem.W.keepIn K (.ref f_Genome_make) = true)
    (a_Genome_find_places : PySem.W.findIn K (.ref C_Genome) "find_places" = some (some (.ref f_Genome_find_places)))
    (i_Genome_find_places : PySem.W.isFn K (.ref f_Genome_find_places) = true)
    (l_Genome_find_places : K.lookup f_Genome_find_places = some ⟨oc_Genome_find_places, od_Genome_find_places, .func (PySem.W.fnOf "find_places" "Genome.find_places" (defArgs s_Genome_find_places) (defBody s_Genome_find_places) (defScope s_Genome_find_places) .none kV_Genome_find_places dc_Genome_find_places pm_Genome_find_places an_Genome_find_places cd_Genome_find_places ct_Genome_find_places), sl_Genome_find_places⟩)
    (c_Genome_find_places : PySem.W.codeIn K cd_Genome_find_places "Genome.find_places" = true)
    (k_Genome_find_places : PySem.W.keepIn K (.ref f_Genome_find_places) = true)
    (a_Genome_find_longest : PySem.W.findIn K (.ref C_Genome) "find_longest" = some (some (.ref f_Genome_find_longest)))
    (i_Genome_find_longest : PySem.W.isFn K (.ref f_Genome_find_longest) = true)
    (l_Genome_find_longest : K.lookup f_Genome_find_longest = some ⟨oc_Genome_find_longest, od_Genome_find_longest, .func (PySem.W.fnOf "find_longest" "Genome.find_longest" (defArgs s_Genome_find_longest) (defBody s_Genome_find_longest) (defScope s_Genome_find_longest) .none kV_Genome_find_longest dc_Genome_find_longest pm_Genome_find_longest an_Genome_find_longest cd_Genome_find_longest ct_Genome_find_longest), sl_Genome_find_longest⟩)
    (c_Genome_find_longest : PySem.W.codeIn K cd_Genome_find_longest "Genome.find_longest" = true)
    (k_Genome_find_longest : PySem.W.keepIn K (.ref f_Genome_find_longest) = true)
    (a_Genome_find_near : PySem.W.findIn K (.ref C_Genome) "find_near" = some (some (.ref f_Genome_find_near)))
    (i_Genome_find_near : PySem.W.isFn K (.ref f_Genome_find_near) = true)
    (l_Genome_find_near : K.lookup f_Genome_find_near = some ⟨oc_Genome_find_near, od_Genome_find_near, .func (PySem.W.fnOf "find_near" "Genome.find_near" (defArgs s_Genome_find_near) (defBody s_Genome_find_near) (defScope s_Genome_find_near) .none kV_Genome_find_near dc_Genome_find_near pm_Genome_find_near an_Genome_find_near cd_Genome_find_near ct_Genome_find_near), sl_Genome_find_near⟩)
    (c_Genome_find_near : PySem.W.codeIn K cd_Genome_find_near "Genome.find_near" = true)
    (k_Genome_find_near : PySem.W.keepIn K (.ref f_Genome_find_near) = true)
    (a_Genome_pile_read : PySem.W.findIn K (.ref C_Genome) "pile_read" = some (some (.ref f_Genome_pile_read)))
    (i_Genome_pile_read : PySem.W.isFn K (.ref f_Genome_pile_read) = true)
    (l_Genome_pile_read : K.lookup f_Genome_pile_read = some ⟨oc_Genome_pile_read, od_Genome_pile_read, .func (PySem.W.fnOf "pile_read" "Genome.pile_read" (defArgs s_Genome_pile_read) (defBody s_Genome_pile_read) (defScope s_Genome_pile_read) .none kV_Genome_pile_read dc_Genome_pile_read pm_Genome_pile_read an_Genome_pile_read cd_Genome_pile_read ct_Genome_pile_read), sl_Genome_pile_read⟩)
    (c_Genome_pile_read : PySem.W.codeIn K cd_Genome_pile_read "Genome.pile_read" = true)
    (k_Genome_pile_read : PySem.W.keepIn K (.ref f_Genome_pile_read) = true)
    (a_Genome_tell_said : PySem.W.findIn K (.ref C_Genome) "tell_said" = some (some (.ref f_Genome_tell_said)))
    (i_Genome_tell_said : PySem.W.isFn K (.ref f_Genome_tell_said) = true)
    (l_Genome_tell_said : K.lookup f_Genome_tell_said = some ⟨oc_Genome_tell_said, od_Genome_tell_said, .func (PySem.W.fnOf "tell_said" "Genome.tell_said" (defArgs s_Genome_tell_said) (defBody s_Genome_tell_said) (defScope s_Genome_tell_said) .none kV_Genome_tell_said dc_Genome_tell_said pm_Genome_tell_said an_Genome_tell_said cd_Genome_tell_said ct_Genome_tell_said), sl_Genome_tell_said⟩)
    (c_Genome_tell_said : PySem.W.codeIn K cd_Genome_tell_said "Genome.tell_said" = true)
    (k_Genome_tell_said : PySem.W.keepIn K (.ref f_Genome_tell_said) = true)
    (a_Genome_tell_depth : PySem.W.findIn K (.ref C_Genome) "tell_depth" = some (some (.ref f_Genome_tell_depth)))
    (i_Genome_tell_depth : PySem.W.isFn K (.ref f_Genome_tell_depth) = true)
    (l_Genome_tell_depth : K.lookup f_Genome_tell_depth = some ⟨oc_Genome_tell_depth, od_Genome_tell_depth, .func (PySem.W.fnOf "tell_depth" "Genome.tell_depth" (defArgs s_Genome_tell_depth) (defBody s_Genome_tell_depth) (defScope s_Genome_tell_depth) .none kV_Genome_tell_depth dc_Genome_tell_depth pm_Genome_tell_depth an_Genome_tell_depth cd_Genome_tell_depth ct_Genome_tell_depth), sl_Genome_tell_depth⟩)
    (c_Genome_tell_depth : PySem.W.codeIn K cd_Genome_tell_depth "Genome.tell_depth" = true)
    (k_Genome_tell_depth : PySem.W.keepIn K (.ref f_Genome_tell_depth) = true)
    (a_lay : PySem.W.nsIn K mainGlobals "lay" = some (some (.ref f_lay)))
    (l_lay : K.lookup f_lay = some ⟨oc_lay, od_lay, .func (PySem.W.fnOf "lay" "lay" (defArgs s_lay) (defBody s_lay) (defScope s_lay) .none kV_lay dc_lay pm_lay an_lay cd_lay ct_lay), sl_lay⟩)
    (c_lay : PySem.W.codeIn K cd_lay "lay" = true)
    (k_lay : PySem.W.keepIn K (.ref f_lay) = true)
    (a_genome : PySem.W.nsIn K mainGlobals "genome" = some (some (.ref f_genome)))
    (l_genome : K.lookup f_genome = some ⟨oc_genome, od_genome, .func (PySem.W.fnOf "genome" "genome" (defArgs s_genome) (defBody s_genome) (defScope s_genome) .none kV_genome dc_genome pm_genome an_genome cd_genome ct_genome), sl_genome⟩)
    (c_genome : PySem.W.codeIn K cd_genome "genome" = true)
    (k_genome : PySem.W.keepIn K (.ref f_genome) = true)
    (z_enumerate : PySem.W.nsIn K mainGlobals "enumerate" = some none)
    (z_len : PySem.W.nsIn K mainGlobals "len" = some none)
    (z_list : PySem.W.nsIn K mainGlobals "list" = some none)
    (z_max : PySem.W.nsIn K mainGlobals "max" = some none)
    (z_min : PySem.W.nsIn K mainGlobals "min" = some none)
    (z_range : PySem.W.nsIn K mainGlobals "range" = some none)
    (z_reversed : PySem.W.nsIn K mainGlobals "reversed" = some none)
    (z_sum : PySem.W.nsIn K mainGlobals "sum" = some none)
    (z_zip : PySem.W.nsIn K mainGlobals "zip" = some none) :
    Txt K mg { f_Block_init := f_Block_init, d_Block_init := PySem.W.fnOf "__init__" "Block.__init__" (defArgs s_Block_init) (defBody s_Block_init) (defScope s_Block_init) .none kV_Block_init dc_Block_init pm_Block_init an_Block_init cd_Block_init ct_Block_init, f_Block_advance := f_Block_advance, d_Block_advance := PySem.W.fnOf "advance" "Block.advance" (defArgs s_Block_advance) (defBody s_Block_advance) (defScope s_Block_advance) .none kV_Block_advance dc_Block_advance pm_Block_advance an_Block_advance cd_Block_advance ct_Block_advance, f_near_ends := f_near_ends, d_near_ends := PySem.W.fnOf "near_ends" "near_ends" (defArgs s_near_ends) (defBody s_near_ends) (defScope s_near_ends) .none kV_near_ends dc_near_ends pm_near_ends an_near_ends cd_near_ends ct_near_ends, f_outside := f_outside, d_outside := PySem.W.fnOf "outside" "outside" (defArgs s_outside) (defBody s_outside) (defScope s_outside) .none kV_outside dc_outside pm_outside an_outside cd_outside ct_outside, f_bytes_for := f_bytes_for, d_bytes_for := PySem.W.fnOf "bytes_for" "bytes_for" (defArgs s_bytes_for) (defBody s_bytes_for) (defScope s_bytes_for) .none kV_bytes_for dc_bytes_for pm_bytes_for an_bytes_for cd_bytes_for ct_bytes_for, f_base_at := f_base_at, d_base_at := PySem.W.fnOf "base_at" "base_at" (defArgs s_base_at) (defBody s_base_at) (defScope s_base_at) .none kV_base_at dc_base_at pm_base_at an_base_at cd_base_at ct_base_at, f_read_bases := f_read_bases, d_read_bases := PySem.W.fnOf "read_bases" "read_bases" (defArgs s_read_bases) (defBody s_read_bases) (defScope s_read_bases) .none kV_read_bases dc_read_bases pm_read_bases an_read_bases cd_read_bases ct_read_bases, f_first_other_byte := f_first_other_byte, d_first_other_byte := PySem.W.fnOf "first_other_byte" "first_other_byte" (defArgs s_first_other_byte) (defBody s_first_other_byte) (defScope s_first_other_byte) .none kV_first_other_byte dc_first_other_byte pm_first_other_byte an_first_other_byte cd_first_other_byte ct_first_other_byte, f_Scores_init := f_Scores_init, d_Scores_init := PySem.W.fnOf "__init__" "Scores.__init__" (defArgs s_Scores_init) (defBody s_Scores_init) (defScope s_Scores_init) .none kV_Scores_init dc_Scores_init pm_Scores_init an_Scores_init cd_Scores_init ct_Scores_init, f_Scores_pair := f_Scores_pair, d_Scores_pair := PySem.W.fnOf "pair" "Scores.pair" (defArgs s_Scores_pair) (defBody s_Scores_pair) (defScope s_Scores_pair) .none kV_Scores_pair dc_Scores_pair pm_Scores_pair an_Scores_pair cd_Scores_pair ct_Scores_pair, f_Scores_row := f_Scores_row, d_Scores_row := PySem.W.fnOf "row" "Scores.row" (defArgs s_Scores_row) (defBody s_Scores_row) (defScope s_Scores_row) .none kV_Scores_row dc_Scores_row pm_Scores_row an_Scores_row cd_Scores_row ct_Scores_row, f_worths_behind := f_worths_behind, d_worths_behind := PySem.W.fnOf "worths_behind" "worths_behind" (defArgs s_worths_behind) (defBody s_worths_behind) (defScope s_worths_behind) .none kV_worths_behind dc_worths_behind pm_worths_behind an_worths_behind cd_worths_behind ct_worths_behind, f_all_worths := f_all_worths, d_all_worths := PySem.W.fnOf "all_worths" "all_worths" (defArgs s_all_worths) (defBody s_all_worths) (defScope s_all_worths) .none kV_all_worths dc_all_worths pm_all_worths an_all_worths cd_all_worths ct_all_worths, f_best_end := f_best_end, d_best_end := PySem.W.fnOf "best_end" "best_end" (defArgs s_best_end) (defBody s_best_end) (defScope s_best_end) .none kV_best_end dc_best_end pm_best_end an_best_end cd_best_end ct_best_end, f_length_of_d := f_length_of_d, d_length_of_d := PySem.W.fnOf "length_of_d" "length_of_d" (defArgs s_length_of_d) (defBody s_length_of_d) (defScope s_length_of_d) .none kV_length_of_d dc_length_of_d pm_length_of_d an_length_of_d cd_length_of_d ct_length_of_d, f_length_of_i := f_length_of_i, d_length_of_i := PySem.W.fnOf "length_of_i" "length_of_i" (defArgs s_length_of_i) (defBody s_length_of_i) (defScope s_length_of_i) .none kV_length_of_i dc_length_of_i pm_length_of_i an_length_of_i cd_length_of_i ct_length_of_i, f_way_back := f_way_back, d_way_back := PySem.W.fnOf "way_back" "way_back" (defArgs s_way_back) (defBody s_way_back) (defScope s_way_back) .none kV_way_back dc_way_back pm_way_back an_way_back cd_way_back ct_way_back, f_best_way := f_best_way, d_best_way := PySem.W.fnOf "best_way" "best_way" (defArgs s_best_way) (defBody s_best_way) (defScope s_best_way) .none kV_best_way dc_best_way pm_best_way an_best_way cd_best_way ct_best_way, f_length_behind := f_length_behind, d_length_behind := PySem.W.fnOf "length_behind" "length_behind" (defArgs s_length_behind) (defBody s_length_behind) (defScope s_length_behind) .none kV_length_behind dc_length_behind pm_length_behind an_length_behind cd_length_behind ct_length_behind, f_shorter_beginnings := f_shorter_beginnings, d_shorter_beginnings := PySem.W.fnOf "shorter_beginnings" "shorter_beginnings" (defArgs s_shorter_beginnings) (defBody s_shorter_beginnings) (defScope s_shorter_beginnings) .none kV_shorter_beginnings dc_shorter_beginnings pm_shorter_beginnings an_shorter_beginnings cd_shorter_beginnings ct_shorter_beginnings, f_beginnings_at := f_beginnings_at, d_beginnings_at := PySem.W.fnOf "beginnings_at" "beginnings_at" (defArgs s_beginnings_at) (defBody s_beginnings_at) (defScope s_beginnings_at) .none kV_beginnings_at dc_beginnings_at pm_beginnings_at an_beginnings_at cd_beginnings_at ct_beginnings_at, f_places_of := f_places_of, d_places_of := PySem.W.fnOf "places_of" "places_of" (defArgs s_places_of) (defBody s_places_of) (defScope s_places_of) .none kV_places_of dc_places_of pm_places_of an_places_of cd_places_of ct_places_of, f_longest_beginning := f_longest_beginning, d_longest_beginning := PySem.W.fnOf "longest_beginning" "longest_beginning" (defArgs s_longest_beginning) (defBody s_longest_beginning) (defScope s_longest_beginning) .none kV_longest_beginning dc_longest_beginning pm_longest_beginning an_longest_beginning cd_longest_beginning ct_longest_beginning, f_raised := f_raised, d_raised := PySem.W.fnOf "raised" "raised" (defArgs s_raised) (defBody s_raised) (defScope s_raised) .none kV_raised dc_raised pm_raised an_raised cd_raised ct_raised, f_Reads_init := f_Reads_init, d_Reads_init := PySem.W.fnOf "__init__" "Reads.__init__" (defArgs s_Reads_init) (defBody s_Reads_init) (defScope s_Reads_init) .none kV_Reads_init dc_Reads_init pm_Reads_init an_Reads_init cd_Reads_init ct_Reads_init, f_Reads_fits := f_Reads_fits, d_Reads_fits := PySem.W.fnOf "fits" "Reads.fits" (defArgs s_Reads_fits) (defBody s_Reads_fits) (defScope s_Reads_fits) .none kV_Reads_fits dc_Reads_fits pm_Reads_fits an_Reads_fits cd_Reads_fits ct_Reads_fits, f_Reads_pile := f_Reads_pile, d_Reads_pile := PySem.W.fnOf "pile" "Reads.pile" (defArgs s_Reads_pile) (defBody s_Reads_pile) (defScope s_Reads_pile) .none kV_Reads_pile dc_Reads_pile pm_Reads_pile an_Reads_pile cd_Reads_pile ct_Reads_pile, f_Reads_depth_at := f_Reads_depth_at, d_Reads_depth_at := PySem.W.fnOf "depth_at" "Reads.depth_at" (defArgs s_Reads_depth_at) (defBody s_Reads_depth_at) (defScope s_Reads_depth_at) .none kV_Reads_depth_at dc_Reads_depth_at pm_Reads_depth_at an_Reads_depth_at cd_Reads_depth_at ct_Reads_depth_at, f_Reads_said_at := f_Reads_said_at, d_Reads_said_at := PySem.W.fnOf "said_at" "Reads.said_at" (defArgs s_Reads_said_at) (defBody s_Reads_said_at) (defScope s_Reads_said_at) .none kV_Reads_said_at dc_Reads_said_at pm_Reads_said_at an_Reads_said_at cd_Reads_said_at ct_Reads_said_at, f_Genome_init := f_Genome_init, d_Genome_init := PySem.W.fnOf "__init__" "Genome.__init__" (defArgs s_Genome_init) (defBody s_Genome_init) (defScope s_Genome_init) .none kV_Genome_init dc_Genome_init pm_Genome_init an_Genome_init cd_Genome_init ct_Genome_init, f_Genome_make := f_Genome_make, d_Genome_make := PySem.W.fnOf "make" "Genome.make" (defArgs s_Genome_make) (defBody s_Genome_make) (defScope s_Genome_make) .none kV_Genome_make dc_Genome_make pm_Genome_make an_Genome_make cd_Genome_make ct_Genome_make, f_Genome_find_places := f_Genome_find_places, d_Genome_find_places := PySem.W.fnOf "find_places" "Genome.find_places" (defArgs s_Genome_find_places) (defBody s_Genome_find_places) (defScope s_Genome_find_places) .none kV_Genome_find_places dc_Genome_find_places pm_Genome_find_places an_Genome_find_places cd_Genome_find_places ct_Genome_find_places, f_Genome_find_longest := f_Genome_find_longest, d_Genome_find_longest := PySem.W.fnOf "find_longest" "Genome.find_longest" (defArgs s_Genome_find_longest) (defBody s_Genome_find_longest) (defScope s_Genome_find_longest) .none kV_Genome_find_longest dc_Genome_find_longest pm_Genome_find_longest an_Genome_find_longest cd_Genome_find_longest ct_Genome_find_longest, f_Genome_find_near := f_Genome_find_near, d_Genome_find_near := PySem.W.fnOf "find_near" "Genome.find_near" (defArgs s_Genome_find_near) (defBody s_Genome_find_near) (defScope s_Genome_find_near) .none kV_Genome_find_near dc_Genome_find_near pm_Genome_find_near an_Genome_find_near cd_Genome_find_near ct_Genome_find_near, f_Genome_pile_read := f_Genome_pile_read, d_Genome_pile_read := PySem.W.fnOf "pile_read" "Genome.pile_read" (defArgs s_Genome_pile_read) (defBody s_Genome_pile_read) (defScope s_Genome_pile_read) .none kV_Genome_pile_read dc_Genome_pile_read pm_Genome_pile_read an_Genome_pile_read cd_Genome_pile_read ct_Genome_pile_read, f_Genome_tell_said := f_Genome_tell_said, d_Genome_tell_said := PySem.W.fnOf "tell_said" "Genome.tell_said" (defArgs s_Genome_tell_said) (defBody s_Genome_tell_said) (defScope s_Genome_tell_said) .none kV_Genome_tell_said dc_Genome_tell_said pm_Genome_tell_said an_Genome_tell_said cd_Genome_tell_said ct_Genome_tell_said, f_Genome_tell_depth := f_Genome_tell_depth, d_Genome_tell_depth := PySem.W.fnOf "tell_depth" "Genome.tell_depth" (defArgs s_Genome_tell_depth) (defBody s_Genome_tell_depth) (defScope s_Genome_tell_depth) .none kV_Genome_tell_depth dc_Genome_tell_depth pm_Genome_tell_depth an_Genome_tell_depth cd_Genome_tell_depth ct_Genome_tell_depth, f_lay := f_lay, d_lay := PySem.W.fnOf "lay" "lay" (defArgs s_lay) (defBody s_lay) (defScope s_lay) .none kV_lay dc_lay pm_lay an_lay cd_lay ct_lay, f_genome := f_genome, d_genome := PySem.W.fnOf "genome" "genome" (defArgs s_genome) (defBody s_genome) (defScope s_genome) .none kV_genome dc_genome pm_genome an_genome cd_genome ct_genome, C_Block := C_Block, C_Scores := C_Scores, C_Reads := C_Reads, C_Genome := C_Genome, t_CAPITALS := t_CAPITALS } := by
  have hz_CAPITALS : its_CAPITALS.size ≤ sizeLine := by
    have e : 4 = its_CAPITALS.toList.length := v_CAPITALS.length
    rw [← Array.length_toList, ← e]
    decide
  exact {
    g_CAPITALS := PySem.W.mg_of X G a_CAPITALS,
    v_CAPITALS := fun H => .inr ⟨_, its_CAPITALS, n_CAPITALS, l_CAPITALS, rfl, rfl, hz_CAPITALS, v_CAPITALS⟩,
    c_GREATEST_BYTE := ⟨tk_GREATEST_BYTE, PySem.W.mg_of X G a_GREATEST_BYTE⟩,
    c_GREATEST_COUNT := ⟨tk_GREATEST_COUNT, PySem.W.mg_of X G a_GREATEST_COUNT⟩,
    c_LEAST_BYTE := ⟨tk_LEAST_BYTE, PySem.W.mg_of X G a_LEAST_BYTE⟩,
    c_LETTER_D := ⟨tk_LETTER_D, PySem.W.mg_of X G a_LETTER_D⟩,
    c_LETTER_I := ⟨tk_LETTER_I, PySem.W.mg_of X G a_LETTER_I⟩,
    c_LETTER_M := ⟨tk_LETTER_M, PySem.W.mg_of X G a_LETTER_M⟩,
    c_LETTER_N := ⟨tk_LETTER_N, PySem.W.mg_of X G a_LETTER_N⟩,
    c_LETTER_OVER := ⟨tk_LETTER_OVER, PySem.W.mg_of X G a_LETTER_OVER⟩,
    c_MOST_BASES := ⟨tk_MOST_BASES, PySem.W.mg_of X G a_MOST_BASES⟩,
    c_MOST_LAID := ⟨tk_MOST_LAID, PySem.W.mg_of X G a_MOST_LAID⟩,
    c_MOST_LETTERS := ⟨tk_MOST_LETTERS, PySem.W.mg_of X G a_MOST_LETTERS⟩,
    c_MOST_NEAR := ⟨tk_MOST_NEAR, PySem.W.mg_of X G a_MOST_NEAR⟩,
    c_MOST_READ := ⟨tk_MOST_READ, PySem.W.mg_of X G a_MOST_READ⟩,
    c_MOST_SCORE := ⟨tk_MOST_SCORE, PySem.W.mg_of X G a_MOST_SCORE⟩,
    c_MOST_SOUGHT := ⟨tk_MOST_SOUGHT, PySem.W.mg_of X G a_MOST_SOUGHT⟩,
    c_MOST_TOLD := ⟨tk_MOST_TOLD, PySem.W.mg_of X G a_MOST_TOLD⟩,
    b_enumerate := PySem.W.mg_none_of X G z_enumerate,
    b_len := PySem.W.mg_none_of X G z_len,
    b_list := PySem.W.mg_none_of X G z_list,
    b_max := PySem.W.mg_none_of X G z_max,
    b_min := PySem.W.mg_none_of X G z_min,
    b_range := PySem.W.mg_none_of X G z_range,
    b_reversed := PySem.W.mg_none_of X G z_reversed,
    b_sum := PySem.W.mg_none_of X G z_sum,
    b_zip := PySem.W.mg_none_of X G z_zip,
    F_Block_init := fun_mk (st := s_Block_init) l_Block_init c_Block_init k_Block_init,
    B_Block_init := (fun_mk (st := s_Block_init) l_Block_init c_Block_init k_Block_init).binds (ps := ["self", "codes"]) fun _ _ _ _ _ _ us hl => match us, hl with | [_, _], _ => rfl,
    F_Block_advance := fun_mk (st := s_Block_advance) l_Block_advance c_Block_advance k_Block_advance,
    B_Block_advance := (fun_mk (st := s_Block_advance) l_Block_advance c_Block_advance k_Block_advance).binds (ps := ["self", "base", "step"]) fun _ _ _ _ _ _ us hl => match us, hl with | [_, _, _], _ => rfl,
    m_Block_advance := ⟨a_Block_advance, i_Block_advance, k_Block_advance⟩,
    g_near_ends := PySem.W.mg_of X G a_near_ends,
    F_near_ends := fun_mk (st := s_near_ends) l_near_ends c_near_ends k_near_ends,
    B_near_ends := (fun_mk (st := s_near_ends) l_near_ends c_near_ends k_near_ends).binds (ps := ["codes", "piece", "k"]) fun _ _ _ _ _ _ us hl => match us, hl with | [_, _, _], _ => rfl,
    g_outside := PySem.W.mg_of X G a_outside,
    F_outside := fun_mk (st := s_outside) l_outside c_outside k_outside,
    B_outside := (fun_mk (st := s_outside) l_outside c_outside k_outside).binds (ps := ["number", "least", "greatest"]) fun _ _ _ _ _ _ us hl => match us, hl with | [_, _, _], _ => rfl,
    g_bytes_for := PySem.W.mg_of X G a_bytes_for,
    F_bytes_for := fun_mk (st := s_bytes_for) l_bytes_for c_bytes_for k_bytes_for,
    B_bytes_for := (fun_mk (st := s_bytes_for) l_bytes_for c_bytes_for k_bytes_for).binds (ps := ["n"]) fun _ _ _ _ _ _ us hl => match us, hl with | [_], _ => rfl,
    g_base_at := PySem.W.mg_of X G a_base_at,
    F_base_at := fun_mk (st := s_base_at) l_base_at c_base_at k_base_at,
    B_base_at := (fun_mk (st := s_base_at) l_base_at c_base_at k_base_at).binds (ps := ["bases", "place"]) fun _ _ _ _ _ _ us hl => match us, hl with | [_, _], _ => rfl,
    g_read_bases := PySem.W.mg_of X G a_read_bases,
    F_read_bases := fun_mk (st := s_read_bases) l_read_bases c_read_bases k_read_bases,
    B_read_bases := (fun_mk (st := s_read_bases) l_read_bases c_read_bases k_read_bases).binds (ps := ["bases", "begin", "n"]) fun _ _ _ _ _ _ us hl => match us, hl with | [_, _, _], _ => rfl,
    g_first_other_byte := PySem.W.mg_of X G a_first_other_byte,
    F_first_other_byte := fun_mk (st := s_first_other_byte) l_first_other_byte c_first_other_byte k_first_other_byte,
    B_first_other_byte := (fun_mk (st := s_first_other_byte) l_first_other_byte c_first_other_byte k_first_other_byte).binds (ps := ["qualities"]) fun _ _ _ _ _ _ us hl => match us, hl with | [_], _ => rfl,
    F_Scores_init := fun_mk (st := s_Scores_init) l_Scores_init c_Scores_init k_Scores_init,
    B_Scores_init := (fun_mk (st := s_Scores_init) l_Scores_init c_Scores_init k_Scores_init).binds (ps := ["self", "alike", "unlike", "gap", "more"]) fun _ _ _ _ _ _ us hl => match us, hl with | [_, _, _, _, _], _ => rfl,
    F_Scores_pair := fun_mk (st := s_Scores_pair) l_Scores_pair c_Scores_pair k_Scores_pair,
    B_Scores_pair := (fun_mk (st := s_Scores_pair) l_Scores_pair c_Scores_pair k_Scores_pair).binds (ps := ["self", "x", "y"]) fun _ _ _ _ _ _ us hl => match us, hl with | [_, _, _], _ => rfl,
    m_Scores_pair := ⟨a_Scores_pair, i_Scores_pair, k_Scores_pair⟩,
    F_Scores_row := fun_mk (st := s_Scores_row) l_Scores_row c_Scores_row k_Scores_row,
    B_Scores_row := (fun_mk (st := s_Scores_row) l_Scores_row c_Scores_row k_Scores_row).binds (ps := ["self", "length"]) fun _ _ _ _ _ _ us hl => match us, hl with | [_, _], _ => rfl,
    m_Scores_row := ⟨a_Scores_row, i_Scores_row, k_Scores_row⟩,
    g_worths_behind := PySem.W.mg_of X G a_worths_behind,
    F_worths_behind := fun_mk (st := s_worths_behind) l_worths_behind c_worths_behind k_worths_behind,
    B_worths_behind := (fun_mk (st := s_worths_behind) l_worths_behind c_worths_behind k_worths_behind).binds (ps := ["before", "ends_in_d", "pairs", "scores"]) fun _ _ _ _ _ _ us hl => match us, hl with | [_, _, _, _], _ => rfl,
    g_all_worths := PySem.W.mg_of X G a_all_worths,
    F_all_worths := fun_mk (st := s_all_worths) l_all_worths c_all_worths k_all_worths,
    B_all_worths := (fun_mk (st := s_all_worths) l_all_worths c_all_worths k_all_worths).binds (ps := ["a", "b", "scores"]) fun _ _ _ _ _ _ us hl => match us, hl with | [_, _, _], _ => rfl,
    g_best_end := PySem.W.mg_of X G a_best_end,
    F_best_end := fun_mk (st := s_best_end) l_best_end c_best_end k_best_end,
    B_best_end := (fun_mk (st := s_best_end) l_best_end c_best_end k_best_end).binds (ps := ["worths"]) fun _ _ _ _ _ _ us hl => match us, hl with | [_], _ => rfl,
    g_length_of_d := PySem.W.mg_of X G a_length_of_d,
    F_length_of_d := fun_mk (st := s_length_of_d) l_length_of_d c_length_of_d k_length_of_d,
    B_length_of_d := (fun_mk (st := s_length_of_d) l_length_of_d c_length_of_d k_length_of_d).binds (ps := ["worths", "i", "j", "scores"]) fun _ _ _ _ _ _ us hl => match us, hl with | [_, _, _, _], _ => rfl,
    g_length_of_i := PySem.W.mg_of X G a_length_of_i,
    F_length_of_i := fun_mk (st := s_length_of_i) l_length_of_i c_length_of_i k_length_of_i,
    B_length_of_i := (fun_mk (st := s_length_of_i) l_length_of_i c_length_of_i k_length_of_i).binds (ps := ["worths", "i", "j", "scores"]) fun _ _ _ _ _ _ us hl => match us, hl with | [_, _, _, _], _ => rfl,
    g_way_back := PySem.W.mg_of X G a_way_back,
    F_way_back := fun_mk (st := s_way_back) l_way_back c_way_back k_way_back,
    B_way_back := (fun_mk (st := s_way_back) l_way_back c_way_back k_way_back).binds (ps := ["worths", "a", "b", "scores", "end"]) fun _ _ _ _ _ _ us hl => match us, hl with | [_, _, _, _, _], _ => rfl,
    g_best_way := PySem.W.mg_of X G a_best_way,
    F_best_way := fun_mk (st := s_best_way) l_best_way c_best_way k_best_way,
    B_best_way := (fun_mk (st := s_best_way) l_best_way c_best_way k_best_way).binds (ps := ["a", "b", "scores"]) fun _ _ _ _ _ _ us hl => match us, hl with | [_, _, _], _ => rfl,
    g_length_behind := PySem.W.mg_of X G a_length_behind,
    F_length_behind := fun_mk (st := s_length_behind) l_length_behind c_length_behind k_length_behind,
    B_length_behind := (fun_mk (st := s_length_behind) l_length_behind c_length_behind k_length_behind).binds (ps := ["piece", "shorter", "length", "code"]) fun _ _ _ _ _ _ us hl => match us, hl with | [_, _, _, _], _ => rfl,
    g_shorter_beginnings := PySem.W.mg_of X G a_shorter_beginnings,
    F_shorter_beginnings := fun_mk (st := s_shorter_beginnings) l_shorter_beginnings c_shorter_beginnings k_shorter_beginnings,
    B_shorter_beginnings := (fun_mk (st := s_shorter_beginnings) l_shorter_beginnings c_shorter_beginnings k_shorter_beginnings).binds (ps := ["piece"]) fun _ _ _ _ _ _ us hl => match us, hl with | [_], _ => rfl,
    g_beginnings_at := PySem.W.mg_of X G a_beginnings_at,
    F_beginnings_at := fun_mk (st := s_beginnings_at) l_beginnings_at c_beginnings_at k_beginnings_at,
    B_beginnings_at := (fun_mk (st := s_beginnings_at) l_beginnings_at c_beginnings_at k_beginnings_at).binds (ps := ["codes", "piece"]) fun _ _ _ _ _ _ us hl => match us, hl with | [_, _], _ => rfl,
    g_places_of := PySem.W.mg_of X G a_places_of,
    F_places_of := fun_mk (st := s_places_of) l_places_of c_places_of k_places_of,
    B_places_of := (fun_mk (st := s_places_of) l_places_of c_places_of k_places_of).binds (ps := ["codes", "piece"]) fun _ _ _ _ _ _ us hl => match us, hl with | [_, _], _ => rfl,
    g_longest_beginning := PySem.W.mg_of X G a_longest_beginning,
    F_longest_beginning := fun_mk (st := s_longest_beginning) l_longest_beginning c_longest_beginning k_longest_beginning,
    B_longest_beginning := (fun_mk (st := s_longest_beginning) l_longest_beginning c_longest_beginning k_longest_beginning).binds (ps := ["codes", "piece"]) fun _ _ _ _ _ _ us hl => match us, hl with | [_, _], _ => rfl,
    g_raised := PySem.W.mg_of X G a_raised,
    F_raised := fun_mk (st := s_raised) l_raised c_raised k_raised,
    B_raised := (fun_mk (st := s_raised) l_raised c_raised k_raised).binds (ps := ["number", "more"]) fun _ _ _ _ _ _ us hl => match us, hl with | [_, _], _ => rfl,
    F_Reads_init := fun_mk (st := s_Reads_init) l_Reads_init c_Reads_init k_Reads_init,
    B_Reads_init := (fun_mk (st := s_Reads_init) l_Reads_init c_Reads_init k_Reads_init).binds (ps := ["self", "length"]) fun _ _ _ _ _ _ us hl => match us, hl with | [_, _], _ => rfl,
    F_Reads_fits := fun_mk (st := s_Reads_fits) l_Reads_fits c_Reads_fits k_Reads_fits,
    B_Reads_fits := (fun_mk (st := s_Reads_fits) l_Reads_fits c_Reads_fits k_Reads_fits).binds (ps := ["self", "codes", "qualities", "way", "place"]) fun _ _ _ _ _ _ us hl => match us, hl with | [_, _, _, _, _], _ => rfl,
    m_Reads_fits := ⟨a_Reads_fits, i_Reads_fits, k_Reads_fits⟩,
    F_Reads_pile := fun_mk (st := s_Reads_pile) l_Reads_pile c_Reads_pile k_Reads_pile,
    B_Reads_pile := (fun_mk (st := s_Reads_pile) l_Reads_pile c_Reads_pile k_Reads_pile).binds (ps := ["self", "codes", "qualities", "way", "place"]) fun _ _ _ _ _ _ us hl => match us, hl with | [_, _, _, _, _], _ => rfl,
    m_Reads_pile := ⟨a_Reads_pile, i_Reads_pile, k_Reads_pile⟩,
    F_Reads_depth_at := fun_mk (st := s_Reads_depth_at) l_Reads_depth_at c_Reads_depth_at k_Reads_depth_at,
    B_Reads_depth_at := (fun_mk (st := s_Reads_depth_at) l_Reads_depth_at c_Reads_depth_at k_Reads_depth_at).binds (ps := ["self", "place"]) fun _ _ _ _ _ _ us hl => match us, hl with | [_, _], _ => rfl,
    m_Reads_depth_at := ⟨a_Reads_depth_at, i_Reads_depth_at, k_Reads_depth_at⟩,
    F_Reads_said_at := fun_mk (st := s_Reads_said_at) l_Reads_said_at c_Reads_said_at k_Reads_said_at,
    B_Reads_said_at := (fun_mk (st := s_Reads_said_at) l_Reads_said_at c_Reads_said_at k_Reads_said_at).binds (ps := ["self", "place"]) fun _ _ _ _ _ _ us hl => match us, hl with | [_, _], _ => rfl,
    m_Reads_said_at := ⟨a_Reads_said_at, i_Reads_said_at, k_Reads_said_at⟩,
    F_Genome_init := fun_mk (st := s_Genome_init) l_Genome_init c_Genome_init k_Genome_init,
    B_Genome_init := (fun_mk (st := s_Genome_init) l_Genome_init c_Genome_init k_Genome_init).binds (ps := ["self", "codes"]) fun _ _ _ _ _ _ us hl => match us, hl with | [_, _], _ => rfl,
    F_Genome_make := fun_mk (st := s_Genome_make) l_Genome_make c_Genome_make k_Genome_make,
    B_Genome_make := (fun_mk (st := s_Genome_make) l_Genome_make c_Genome_make k_Genome_make).binds (ps := ["self", "step"]) fun _ _ _ _ _ _ us hl => match us, hl with | [_, _], _ => rfl,
    m_Genome_make := ⟨a_Genome_make, i_Genome_make, k_Genome_make⟩,
    F_Genome_find_places := fun_mk (st := s_Genome_find_places) l_Genome_find_places c_Genome_find_places k_Genome_find_places,
    B_Genome_find_places := (fun_mk (st := s_Genome_find_places) l_Genome_find_places c_Genome_find_places k_Genome_find_places).binds (ps := ["self", "step"]) fun _ _ _ _ _ _ us hl => match us, hl with | [_, _], _ => rfl,
    m_Genome_find_places := ⟨a_Genome_find_places, i_Genome_find_places, k_Genome_find_places⟩,
    F_Genome_find_longest := fun_mk (st := s_Genome_find_longest) l_Genome_find_longest c_Genome_find_longest k_Genome_find_longest,
    B_Genome_find_longest := (fun_mk (st := s_Genome_find_longest) l_Genome_find_longest c_Genome_find_longest k_Genome_find_longest).binds (ps := ["self", "step"]) fun _ _ _ _ _ _ us hl => match us, hl with | [_, _], _ => rfl,
    m_Genome_find_longest := ⟨a_Genome_find_longest, i_Genome_find_longest, k_Genome_find_longest⟩,
    F_Genome_find_near := fun_mk (st := s_Genome_find_near) l_Genome_find_near c_Genome_find_near k_Genome_find_near,
    B_Genome_find_near := (fun_mk (st := s_Genome_find_near) l_Genome_find_near c_Genome_find_near k_Genome_find_near).binds (ps := ["self", "step"]) fun _ _ _ _ _ _ us hl => match us, hl with | [_, _], _ => rfl,
    m_Genome_find_near := ⟨a_Genome_find_near, i_Genome_find_near, k_Genome_find_near⟩,
    F_Genome_pile_read := fun_mk (st := s_Genome_pile_read) l_Genome_pile_read c_Genome_pile_read k_Genome_pile_read,
    B_Genome_pile_read := (fun_mk (st := s_Genome_pile_read) l_Genome_pile_read c_Genome_pile_read k_Genome_pile_read).binds (ps := ["self", "step"]) fun _ _ _ _ _ _ us hl => match us, hl with | [_, _], _ => rfl,
    m_Genome_pile_read := ⟨a_Genome_pile_read, i_Genome_pile_read, k_Genome_pile_read⟩,
    F_Genome_tell_said := fun_mk (st := s_Genome_tell_said) l_Genome_tell_said c_Genome_tell_said k_Genome_tell_said,
    B_Genome_tell_said := (fun_mk (st := s_Genome_tell_said) l_Genome_tell_said c_Genome_tell_said k_Genome_tell_said).binds (ps := ["self", "step"]) fun _ _ _ _ _ _ us hl => match us, hl with | [_, _], _ => rfl,
    m_Genome_tell_said := ⟨a_Genome_tell_said, i_Genome_tell_said, k_Genome_tell_said⟩,
    F_Genome_tell_depth := fun_mk (st := s_Genome_tell_depth) l_Genome_tell_depth c_Genome_tell_depth k_Genome_tell_depth,
    B_Genome_tell_depth := (fun_mk (st := s_Genome_tell_depth) l_Genome_tell_depth c_Genome_tell_depth k_Genome_tell_depth).binds (ps := ["self", "step"]) fun _ _ _ _ _ _ us hl => match us, hl with | [_, _], _ => rfl,
    m_Genome_tell_depth := ⟨a_Genome_tell_depth, i_Genome_tell_depth, k_Genome_tell_depth⟩,
    g_lay := PySem.W.mg_of X G a_lay,
    F_lay := fun_mk (st := s_lay) l_lay c_lay k_lay,
    B_lay := (fun_mk (st := s_lay) l_lay c_lay k_lay).binds (ps := ["step"]) fun _ _ _ _ _ _ us hl => match us, hl with | [_], _ => rfl,
    g_genome := PySem.W.mg_of X G a_genome,
    F_genome := fun_mk (st := s_genome) l_genome c_genome k_genome,
    B_genome := (fun_mk (st := s_genome) l_genome c_genome k_genome).binds (ps := ["bases", "n", "steps"]) fun _ _ _ _ _ _ us hl => match us, hl with | [_, _, _], _ => rfl,
    g_Block := PySem.W.mg_of X G a_Block,
    cl_Block := ⟨pg_Block, hd_Block, po_Block, sa_Block⟩,
    M_Block := ⟨mk_Block, a_Block_init, i_Block_init, kc_Block⟩,
    n_Block_falling := na_Block_falling,
    n_Block_full := na_Block_full,
    n_Block_last := na_Block_last,
    n_Block_places := na_Block_places,
    n_Block_rising := na_Block_rising,
    g_Scores := PySem.W.mg_of X G a_Scores,
    cl_Scores := ⟨pg_Scores, hd_Scores, po_Scores, sa_Scores⟩,
    M_Scores := ⟨mk_Scores, a_Scores_init, i_Scores_init, kc_Scores⟩,
    n_Scores_alike := na_Scores_alike,
    n_Scores_gap := na_Scores_gap,
    n_Scores_more := na_Scores_more,
    n_Scores_unlike := na_Scores_unlike,
    g_Reads := PySem.W.mg_of X G a_Reads,
    cl_Reads := ⟨pg_Reads, hd_Reads, po_Reads, sa_Reads⟩,
    M_Reads := ⟨mk_Reads, a_Reads_init, i_Reads_init, kc_Reads⟩,
    n_Reads_counts := na_Reads_counts,
    n_Reads_length := na_Reads_length,
    n_Reads_over := na_Reads_over,
    n_Reads_weights := na_Reads_weights,
    g_Genome := PySem.W.mg_of X G a_Genome,
    cl_Genome := ⟨pg_Genome, hd_Genome, po_Genome, sa_Genome⟩,
    M_Genome := ⟨mk_Genome, a_Genome_init, i_Genome_init, kc_Genome⟩,
    n_Genome_codes := na_Genome_codes,
    n_Genome_reads := na_Genome_reads }
theorem main_mk {P : Program} {w : World} {K : PySem.W.Frag} {h : Heap} {mg : Str → Option Value} {fa : Addr} {a : Adr} (T : Txt K mg a) (hfa : mg "genome" = some (.ref fa)) :
    ∃ fd : FuncData, Binds K fd ["bases", "n", "steps"] [] ∧ ∀ base : Heap, K.In base → base.Ns mainGlobals mg → FnOk P w K mg base CX0 7 fa fd ["bases", "n", "steps"] (sp_genome K) := by
  have e := hfa.symm.trans T.g_genome
  cases e
  exact ⟨_, T.B_genome, fun base _ _ => ok_genome T⟩
end Py
open PySem PySem.W PyProof.Rows
local macro_rules
  | `(tactic| refine $e:term) => do
    if (e.raw.find? fun s => s.getId == `hl).isNone then Lean.Macro.throwUnsupported
    `(tactic| (refine' $e; case $(Lean.mkIdent `hl):ident => exact PyTop.top_left _ _))
set_option maxRecDepth 100000 in
set_option maxHeartbeats 0 in
theorem PySem.Challenge.cw_genomereads_s11_genome_holds : PySem.Challenge.rw_genomereads_s11_genome.Holds := by
  w_on; k_headS; (case hw => exact ⟨[.list [], .int 0, .list []], by decide +kernel, by decide +kernel⟩)
  k_fillS
  refine Br.spec_walk (r := PySem.Challenge.rw_genomereads_s11_genome) (k := 7) (ps := ["bases", "n", "steps"]) (sp := Py.sp_genome) (ans := fun a => PySg42.genome a.1 a.2.1 a.2.2.1) (by decide +kernel) (by decide +kernel) rfl ⟨rfl, by decide, by decide⟩ (fun _ => rfl) (fun w h Y => PySem.W.kIn_of Y) ?F ?S
  case F =>
    intro w mg fa h KX G hmg
    refine Py.main_mk (h := h) (a := ?a) ?T hmg
    case T =>
      refine' Py.txt_mk KX G ?a_CAPITALS ?l_CAPITALS ?v_CAPITALS ?a_GREATEST_BYTE ?a_GREATEST_COUNT ?a_LEAST_BYTE ?a_LETTER_D ?a_LETTER_I ?a_LETTER_M ?a_LETTER_N ?a_LETTER_OVER ?a_MOST_BASES ?a_MOST_LAID ?a_MOST_LETTERS ?a_MOST_NEAR ?a_MOST_READ ?a_MOST_SCORE ?a_MOST_SOUGHT ?a_MOST_TOLD ?a_Block ?pg_Block ?hd_Block ?po_Block ?sa_Block ?mk_Block ?kc_Block ?na_Block_falling ?na_Block_full ?na_Block_last ?na_Block_places ?na_Block_rising ?a_Scores ?pg_Scores ?hd_Scores ?po_Scores ?sa_Scores ?mk_Scores ?kc_Scores ?na_Scores_alike ?na_Scores_gap ?na_Scores_more ?na_Scores_unlike ?a_Reads ?pg_Reads ?hd_Reads ?po_Reads ?sa_Reads ?mk_Reads ?kc_Reads ?na_Reads_counts ?na_Reads_length ?na_Reads_over ?na_Reads_weights ?a_Genome ?pg_Genome ?hd_Genome ?po_Genome ?sa_Genome ?mk_Genome ?kc_Genome ?na_Genome_codes ?na_Genome_reads ?a_Block_init ?i_Block_init ?l_Block_init ?c_Block_init ?k_Block_init ?a_Block_advance ?i_Block_advance ?l_Block_advance ?c_Block_advance ?k_Block_advance ?a_near_ends ?l_near_ends ?c_near_ends ?k_near_ends ?a_outside ?l_outside ?c_outside ?k_outside ?a_bytes_for ?l_bytes_for ?c_bytes_for ?k_bytes_for ?a_base_at ?l_base_at ?c_base_at ?k_base_at ?a_read_bases ?l_read_bases ?c_read_bases ?k_read_bases ?a_first_other_byte ?l_first_other_byte ?c_first_other_byte ?k_first_other_byte ?a_Scores_init ?i_Scores_init ?l_Scores_init ?c_Scores_init ?k_Scores_init ?a_Scores_pair ?i_Scores_pair ?l_Scores_pair ?c_Scores_pair ?k_Scores_pair ?a_Scores_row ?i_Scores_row ?l_Scores_row ?c_Scores_row ?k_Scores_row ?a_worths_behind ?l_worths_behind ?c_worths_behind ?k_worths_behind ?a_all_worths ?l_all_worths ?c_all_worths ?k_all_worths ?a_best_end ?l_best_end ?c_best_end ?k_best_end ?a_length_of_d ?l_length_of_d ?c_length_of_d ?k_length_of_d ?a_length_of_i ?l_length_of_i ?c_length_of_i ?k_length_of_i ?a_way_back ?l_way_back ?c_way_back ?k_way_back ?a_best_way ?l_best_way ?c_best_way ?k_best_way ?a_length_behind ?l_length_behind ?c_length_behind ?k_length_behind ?a_shorter_beginnings ?l_shorter_beginnings ?c_shorter_beginnings ?k_shorter_beginnings ?a_beginnings_at ?l_beginnings_at ?c_beginnings_at ?k_beginnings_at ?a_places_of ?l_places_of ?c_places_of ?k_places_of ?a_longest_beginning ?l_longest_beginning ?c_longest_beginning ?k_longest_beginning ?a_raised ?l_raised ?c_raised ?k_raised ?a_Reads_init ?i_Reads_init ?l_Reads_init ?c_Reads_init ?k_Reads_init ?a_Reads_fits ?i_Reads_fits ?l_Reads_fits ?c_Reads_fits ?k_Reads_fits ?a_Reads_pile ?i_Reads_pile ?l_Reads_pile ?c_Reads_pile ?k_Reads_pile ?a_Reads_depth_at ?i_Reads_depth_at ?l_Reads_depth_at ?c_Reads_depth_at ?k_Reads_depth_at ?a_Reads_said_at ?i_Reads_said_at ?l_Reads_said_at ?c_Reads_said_at ?k_Reads_said_at ?a_Genome_init ?i_Genome_init ?l_Genome_init ?c_Genome_init ?k_Genome_init ?a_Genome_make ?i_Genome_make ?l_Genome_make ?c_Genome_make ?k_Genome_make ?a_Genome_find_places ?i_Genome_find_places ?l_Genome_find_places ?c_Genome_find_places ?k_Genome_find_places ?a_Genome_find_longest ?i_Genome_find_longest ?l_Genome_find_longest ?c_Genome_find_longest ?k_Genome_find_longest ?a_Genome_find_near ?i_Genome_find_near ?l_Genome_find_near ?c_Genome_find_near ?k_Genome_find_near ?a_Genome_pile_read ?i_Genome_pile_read ?l_Genome_pile_read ?c_Genome_pile_read ?k_Genome_pile_read ?a_Genome_tell_said ?i_Genome_tell_said ?l_Genome_tell_said ?c_Genome_tell_said ?k_Genome_tell_said ?a_Genome_tell_depth ?i_Genome_tell_depth ?l_Genome_tell_depth ?c_Genome_tell_depth ?k_Genome_tell_depth ?a_lay ?l_lay ?c_lay ?k_lay ?a_genome ?l_genome ?c_genome ?k_genome ?z_enumerate ?z_len ?z_list ?z_max ?z_min ?z_range ?z_reversed ?z_sum ?z_zip
      (case a_CAPITALS => k_is)
      (case l_CAPITALS => k_is)
      (case v_CAPITALS => exact .cons ⟨_, rfl⟩ (.cons ⟨_, rfl⟩ (.cons ⟨_, rfl⟩ (.cons ⟨_, rfl⟩ .nil))))
      (case a_GREATEST_BYTE => k_is)
      (case a_GREATEST_COUNT => k_is)
      (case a_LEAST_BYTE => k_is)
      (case a_LETTER_D => k_is)
      (case a_LETTER_I => k_is)
      (case a_LETTER_M => k_is)
      (case a_LETTER_N => k_is)
      (case a_LETTER_OVER => k_is)
      (case a_MOST_BASES => k_is)
      (case a_MOST_LAID => k_is)
      (case a_MOST_LETTERS => k_is)
      (case a_MOST_NEAR => k_is)
      (case a_MOST_READ => k_is)
      (case a_MOST_SCORE => k_is)
      (case a_MOST_SOUGHT => k_is)
      (case a_MOST_TOLD => k_is)
      (case a_Block => k_is)
      (case pg_Block => k_is)
      (case hd_Block => k_is)
      (case po_Block => k_is)
      (case sa_Block => k_is)
      (case mk_Block => k_is)
      (case kc_Block => k_is)
      (case na_Block_falling => k_is)
      (case na_Block_full => k_is)
      (case na_Block_last => k_is)
      (case na_Block_places => k_is)
      (case na_Block_rising => k_is)
      (case a_Scores => k_is)
      (case pg_Scores => k_is)
      (case hd_Scores => k_is)
      (case po_Scores => k_is)
      (case sa_Scores => k_is)
      (case mk_Scores => k_is)
      (case kc_Scores => k_is)
      (case na_Scores_alike => k_is)
      (case na_Scores_gap => k_is)
      (case na_Scores_more => k_is)
      (case na_Scores_unlike => k_is)
      (case a_Reads => k_is)
      (case pg_Reads => k_is)
      (case hd_Reads => k_is)
      (case po_Reads => k_is)
      (case sa_Reads => k_is)
      (case mk_Reads => k_is)
      (case kc_Reads => k_is)
      (case na_Reads_counts => k_is)
      (case na_Reads_length => k_is)
      (case na_Reads_over => k_is)
      (case na_Reads_weights => k_is)
      (case a_Genome => k_is)
      (case pg_Genome => k_is)
      (case hd_Genome => k_is)
      (case po_Genome => k_is)
      (case sa_Genome => k_is)
      (case mk_Genome => k_is)
      (case kc_Genome => k_is)
      (case na_Genome_codes => k_is)
      (case na_Genome_reads => k_is)
      (case a_Block_init => k_is)
      (case i_Block_init => k_is)
      (case l_Block_init => k_is)
      (case c_Block_init => k_is)
      (case k_Block_init => k_is)
      (case a_Block_advance => k_is)
      (case i_Block_advance => k_is)
      (case l_Block_advance => k_is)
      (case c_Block_advance => k_is)
      (case k_Block_advance => k_is)
      (case a_near_ends => k_is)
      (case l_near_ends => k_is)
      (case c_near_ends => k_is)
      (case k_near_ends => k_is)
      (case a_outside => k_is)
      (case l_outside => k_is)
      (case c_outside => k_is)
      (case k_outside => k_is)
      (case a_bytes_for => k_is)
      (case l_bytes_for => k_is)
      (case c_bytes_for => k_is)
      (case k_bytes_for => k_is)
      (case a_base_at => k_is)
      (case l_base_at => k_is)
      (case c_base_at => k_is)
      (case k_base_at => k_is)
      (case a_read_bases => k_is)
      (case l_read_bases => k_is)
      (case c_read_bases => k_is)
      (case k_read_bases => k_is)
      (case a_first_other_byte => k_is)
      (case l_first_other_byte => k_is)
      (case c_first_other_byte => k_is)
      (case k_first_other_byte => k_is)
      (case a_Scores_init => k_is)
      (case i_Scores_init => k_is)
      (case l_Scores_init => k_is)
      (case c_Scores_init => k_is)
      (case k_Scores_init => k_is)
      (case a_Scores_pair => k_is)
      (case i_Scores_pair => k_is)
      (case l_Scores_pair => k_is)
      (case c_Scores_pair => k_is)
      (case k_Scores_pair => k_is)
      (case a_Scores_row => k_is)
      (case i_Scores_row => k_is)
      (case l_Scores_row => k_is)
      (case c_Scores_row => k_is)
      (case k_Scores_row => k_is)
      (case a_worths_behind => k_is)
      (case l_worths_behind => k_is)
      (case c_worths_behind => k_is)
      (case k_worths_behind => k_is)
      (case a_all_worths => k_is)
      (case l_all_worths => k_is)
      (case c_all_worths => k_is)
      (case k_all_worths => k_is)
      (case a_best_end => k_is)
      (case l_best_end => k_is)
      (case c_best_end => k_is)
      (case k_best_end => k_is)
      (case a_length_of_d => k_is)
      (case l_length_of_d => k_is)
      (case c_length_of_d => k_is)
      (case k_length_of_d => k_is)
      (case a_length_of_i => k_is)
      (case l_length_of_i => k_is)
      (case c_length_of_i => k_is)
      (case k_length_of_i => k_is)
      (case a_way_back => k_is)
      (case l_way_back => k_is)
      (case c_way_back => k_is)
      (case k_way_back => k_is)
      (case a_best_way => k_is)
      (case l_best_way => k_is)
      (case c_best_way => k_is)
      (case k_best_way => k_is)
      (case a_length_behind => k_is)
      (case l_length_behind => k_is)
      (case c_length_behind => k_is)
      (case k_length_behind => k_is)
      (case a_shorter_beginnings => k_is)
      (case l_shorter_beginnings => k_is)
      (case c_shorter_beginnings => k_is)
      (case k_shorter_beginnings => k_is)
      (case a_beginnings_at => k_is)
      (case l_beginnings_at => k_is)
      (case c_beginnings_at => k_is)
      (case k_beginnings_at => k_is)
      (case a_places_of => k_is)
      (case l_places_of => k_is)
      (case c_places_of => k_is)
      (case k_places_of => k_is)
      (case a_longest_beginning => k_is)
      (case l_longest_beginning => k_is)
      (case c_longest_beginning => k_is)
      (case k_longest_beginning => k_is)
      (case a_raised => k_is)
      (case l_raised => k_is)
      (case c_raised => k_is)
      (case k_raised => k_is)
      (case a_Reads_init => k_is)
      (case i_Reads_init => k_is)
      (case l_Reads_init => k_is)
      (case c_Reads_init => k_is)
      (case k_Reads_init => k_is)
      (case a_Reads_fits => k_is)
      (case i_Reads_fits => k_is)
      (case l_Reads_fits => k_is)
      (case c_Reads_fits => k_is)
      (case k_Reads_fits => k_is)
      (case a_Reads_pile => k_is)
      (case i_Reads_pile => k_is)
      (case l_Reads_pile => k_is)
      (case c_Reads_pile => k_is)
      (case k_Reads_pile => k_is)
      (case a_Reads_depth_at => k_is)
      (case i_Reads_depth_at => k_is)
      (case l_Reads_depth_at => k_is)
      (case c_Reads_depth_at => k_is)
      (case k_Reads_depth_at => k_is)
      (case a_Reads_said_at => k_is)
      (case i_Reads_said_at => k_is)
      (case l_Reads_said_at => k_is)
      (case c_Reads_said_at => k_is)
      (case k_Reads_said_at => k_is)
      (case a_Genome_init => k_is)
      (case i_Genome_init => k_is)
      (case l_Genome_init => k_is)
      (case c_Genome_init => k_is)
      (case k_Genome_init => k_is)
      (case a_Genome_make => k_is)
      (case i_Genome_make => k_is)
      (case l_Genome_make => k_is)
      (case c_Genome_make => k_is)
      (case k_Genome_make => k_is)
      (case a_Genome_find_places => k_is)
      (case i_Genome_find_places => k_is)
      (case l_Genome_find_places => k_is)
      (case c_Genome_find_places => k_is)
      (case k_Genome_find_places => k_is)
      (case a_Genome_find_longest => k_is)
      (case i_Genome_find_longest => k_is)
      (case l_Genome_find_longest => k_is)
      (case c_Genome_find_longest => k_is)
      (case k_Genome_find_longest => k_is)
      (case a_Genome_find_near => k_is)
      (case i_Genome_find_near => k_is)
      (case l_Genome_find_near => k_is)
      (case c_Genome_find_near => k_is)
      (case k_Genome_find_near => k_is)
      (case a_Genome_pile_read => k_is)
      (case i_Genome_pile_read => k_is)
      (case l_Genome_pile_read => k_is)
      (case c_Genome_pile_read => k_is)
      (case k_Genome_pile_read => k_is)
      (case a_Genome_tell_said => k_is)
      (case i_Genome_tell_said => k_is)
      (case l_Genome_tell_said => k_is)
      (case c_Genome_tell_said => k_is)
      (case k_Genome_tell_said => k_is)
      (case a_Genome_tell_depth => k_is)
      (case i_Genome_tell_depth => k_is)
      (case l_Genome_tell_depth => k_is)
      (case c_Genome_tell_depth => k_is)
      (case k_Genome_tell_depth => k_is)
      (case a_lay => k_is)
      (case l_lay => k_is)
      (case c_lay => k_is)
      (case k_lay => k_is)
      (case a_genome => k_is)
      (case l_genome => k_is)
      (case c_genome => k_is)
      (case k_genome => k_is)
      (case z_enumerate => k_is)
      (case z_len => k_is)
      (case z_list => k_is)
      (case z_max => k_is)
      (case z_min => k_is)
      (case z_range => k_is)
      (case z_reversed => k_is)
      (case z_sum => k_is)
      (case z_zip => k_is)
  case S => exact fun K H a vs _ ha S => Py.asked_ok ha S
#print axioms PySem.Challenge.cw_genomereads_s11_genome_holds
