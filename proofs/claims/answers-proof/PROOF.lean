import PyProof.Rows.All
import Wide.All
import OpenK.AllK
import Wide.FinOn
import PyProof.EqAt
import PyProof.EqKinds
import PyProof.TupleCall
import KE.BitLaws
import KE.OsGo
import Open.SpecLaws
import PySz15
import PySem.Challenge.RW_sixteenbit_s01_answers
set_option Elab.async false
set_option linter.all false
set_option maxRecDepth 100000
set_option maxHeartbeats 2000000
theorem My.said : PySem.Challenge.rw_sixteenbit_s01_answers.wellSaid = true := by decide +kernel
theorem PySem.W.Fast.te9667030326336356318 : True := trivial
theorem PySem.W.Fast.te11286717184653014547 : True := trivial
theorem PySem.W.Fast.te4352670486653329315 : True := trivial
theorem PySem.W.Fast.te12869323358537485439 : True := trivial
theorem PySem.W.Fast.te15546300126367427033 : True := trivial
theorem PySem.W.Fast.te12491400504398673448 : True := trivial
theorem PySem.W.Fast.te12660942687875593266 : True := trivial
theorem PySem.W.Fast.te1724524117966350222 : True := trivial
theorem PySem.W.Fast.te6329480474673424882 : True := trivial
theorem PySem.W.Fast.te13434413479288391654 : True := trivial
theorem PySem.W.Fast.te3498244310688687115 : True := trivial
theorem PySem.W.Fast.te7709290603132004301 : True := trivial
theorem PySem.W.Fast.te7825121665987498325 : True := trivial
theorem PySem.W.Fast.te2604936045706303005 : True := trivial
theorem PySem.W.Fast.te6599677766031898752 : True := trivial
theorem PySem.W.Fast.te3795368378456084732 : True := trivial
theorem PySem.W.Fast.te11441922314783714853 : True := trivial
theorem PySem.W.Fast.te16555476440528808052 : True := trivial
theorem PySem.W.Fast.te6562295813918167417 : True := trivial
section
open PySem PySem.W PyProof.Rows
local macro_rules | `(tactic| o_law) => `(tactic| have hsaid := My.said)
local macro_rules | `(tactic| k_head) => `(tactic| k_headS)
local macro_rules | `(tactic| w_witness2) => `(tactic| exact ⟨[.list [.int 1]], by decide +kernel, by decide +kernel⟩)
set_option maxHeartbeats 0 in
open_top hd0 for PySem.Challenge.rw_sixteenbit_s01_answers
end
namespace L2
open PySem PySem.Spec PyProof.Rows

abbrev Key := Sum Int Str
def keyIs : Key → Value → Bool
  | .inl k, v => Value.isInt k v
  | .inr x, v => Value.isStrOf x v
def keyH (w : World) : Key → Int
  | .inl k => hashInt k
  | .inr x => hashStr w x
theorem keyIs_shape : ∀ {k : Key} {v : Value}, keyIs k v = true → (∃ i t, k = Sum.inl i ∧ v = Value.int i t) ∨ (∃ x t, k = Sum.inr x ∧ v = Value.str x t)
  | .inl i, v, h => by
    obtain ⟨t, e⟩ := Value.isInt_shape (k := i) (v := v) h
    exact .inl ⟨i, t, rfl, e⟩
  | .inr x, v, h => by
    obtain ⟨t, e⟩ := Value.isStrOf_shape (x := x) (v := v) h
    exact .inr ⟨x, t, rfl, e⟩
theorem keyIs_int (i : Int) (t : Tok) : keyIs (.inl i) (.int i t) = true := by simp [keyIs, Value.isInt]
theorem keyIs_str (x : Str) (t : Tok) : keyIs (.inr x) (.str x t) = true := by simp [keyIs, Value.isStrOf]
theorem key_ll (a b : Int) : decide ((Sum.inl a : Key) = Sum.inl b) = (a == b) := by
  by_cases e : a = b
  · subst e; simp
  · have h : ¬ (Sum.inl a : Key) = Sum.inl b := fun q => e (Sum.inl.inj q)
    rw [decide_eq_false h]
    exact (beq_eq_false_iff_ne.mpr e).symm
theorem key_rr (a b : Str) : decide ((Sum.inr a : Key) = Sum.inr b) = decide (a = b) := by
  by_cases e : a = b
  · subst e; simp
  · have h : ¬ (Sum.inr a : Key) = Sum.inr b := fun q => e (Sum.inr.inj q)
    rw [decide_eq_false h, decide_eq_false e]
theorem key_lr (a : Int) (b : Str) : decide ((Sum.inl a : Key) = Sum.inr b) = false := decide_eq_false (fun q => nomatch q)
theorem key_rl (a : Str) (b : Int) : decide ((Sum.inr a : Key) = Sum.inl b) = false := decide_eq_false (fun q => nomatch q)

def mixKind (prog : Program) (w : World) : PySem.KeyKind prog w Key where
  is := keyIs
  hash := keyH w
  inj := fun v a b ha hb => by
    rcases keyIs_shape ha with ⟨i, t, rfl, rfl⟩ | ⟨x, t, rfl, rfl⟩
    · rcases keyIs_shape hb with ⟨j, u, rfl, e⟩ | ⟨y, u, rfl, e⟩
      · injection e with e1 _; rw [e1]
      · exact nomatch e
    · rcases keyIs_shape hb with ⟨j, u, rfl, e⟩ | ⟨y, u, rfl, e⟩
      · exact nomatch e
      · injection e with e1 _; rw [e1]
  byValue := fun k v h => by
    rcases keyIs_shape h with ⟨i, t, rfl, rfl⟩ | ⟨x, t, rfl, rfl⟩ <;> rfl
  pyHash := fun hv h => by
    rcases keyIs_shape hv with ⟨i, t, rfl, rfl⟩ | ⟨x, t, rfl, rfl⟩
    · exact wpAny_pyHash_int h
    · exact wpAny_pyHash_str h
  eqBool := fun hu hv h => by
    rcases keyIs_shape hu with ⟨i, t, rfl, rfl⟩ | ⟨x, t, rfl, rfl⟩
    · rcases keyIs_shape hv with ⟨j, u, rfl, rfl⟩ | ⟨y, u, rfl, rfl⟩
      · rw [key_ll] at h; exact wpAny_eqBool_int h
      · rw [key_lr] at h; exact SeqAt.EqAt.int_str i t y u _ _ _ _ h
    · rcases keyIs_shape hv with ⟨j, u, rfl, rfl⟩ | ⟨y, u, rfl, rfl⟩
      · rw [key_rl] at h; exact SeqAt.EqAt.str_int x t j u _ _ _ _ h
      · rw [key_rr] at h; exact wpAny_eqBool_str h
  «strs» := fun k x t v h => by
    rcases keyIs_shape h with ⟨i, u, rfl, e⟩ | ⟨y, u, rfl, e⟩
    · exact nomatch e
    · injection e with e1 _
      subst e1
      cases v <;> rfl

theorem mixKind_int (prog : Program) (w : World) (i : Int) (t : Tok) : (mixKind prog w).is (.inl i) (.int i t) = true := keyIs_int i t
theorem mixKind_str (prog : Program) (w : World) (x : Str) (t : Tok) : (mixKind prog w).is (.inr x) (.str x t) = true := keyIs_str x t
end L2

namespace L2
open PySem PySem.Spec PyProof.Rows

inductive V where
  | non | bl (b : Bool) | int (i : Int) | str (x : Str) | byt (b : Array UInt8) | flt (b : UInt64) | ref (a : Addr) | ty (n : String)
  deriving DecidableEq

def RelV : V → Value → Prop
  | .non, u => u = Value.none
  | .bl b, u => u = Value.bool b
  | .int i, u => ∃ t, u = Value.int i t
  | .str x, u => ∃ t, u = Value.str x t
  | .byt b, u => ∃ t, u = Value.bytes b t
  | .flt b, u => ∃ t, u = Value.float b t
  | .ref a, u => u = Value.ref a
  | .ty n, u => u = Value.type n

abbrev Vals : List V → List Value → Prop := Paired RelV
theorem Vals.length {xs : List V} {us : List Value} (r : Vals xs us) : xs.length = us.length := Paired.length r
theorem Vals.get : ∀ {xs : List V} {us : List Value} {i : Nat} {x : V}, Vals xs us → xs[i]? = some x → ∃ u, us[i]? = some u ∧ RelV x u
  | _, _, _, _, .nil, e => by simp at e
  | _, _, 0, _, .cons r _, e => by simp at e; subst e; exact ⟨_, rfl, r⟩
  | _, _, i + 1, x, .cons _ t, e => by
    obtain ⟨u, h1, h2⟩ := Vals.get (i := i) (x := x) t (by simpa using e)
    exact ⟨u, by simpa using h1, h2⟩
theorem Vals.set {x : V} {u : Value} (r : RelV x u) : ∀ {xs : List V} {us : List Value} (i : Nat), Vals xs us → Vals (xs.set i x) (us.set i u)
  | _, _, _, .nil => .nil
  | _, _, 0, .cons _ t => .cons r t
  | _, _, i + 1, .cons q t => .cons q (Vals.set r i t)
theorem Vals.append : ∀ {xs ys : List V} {us ws : List Value}, Vals xs us → Vals ys ws → Vals (xs ++ ys) (us ++ ws)
  | _, _, _, _, .nil, s => s
  | _, _, _, _, .cons r t, s => .cons r (Vals.append t s)
theorem Vals.take : ∀ {xs : List V} {us : List Value} (n : Nat), Vals xs us → Vals (xs.take n) (us.take n)
  | _, _, 0, _ => .nil
  | _, _, _ + 1, .nil => .nil
  | _, _, n + 1, .cons r t => .cons r (Vals.take n t)
theorem Vals.drop : ∀ {xs : List V} {us : List Value} (n : Nat), Vals xs us → Vals (xs.drop n) (us.drop n)
  | _, _, 0, r => r
  | _, _, _ + 1, .nil => .nil
  | _, _, n + 1, .cons _ t => Vals.drop n t
def RelO : Option V → Option Value → Prop
  | some v, some u => RelV v u
  | none, none => True
  | _, _ => False
def KV {κ : Type} : List (κ × V) → List (κ × Value) → Prop := Paired fun (p : κ × V) (q : κ × Value) => p.1 = q.1 ∧ RelV p.2 q.2

def kV : Key → V
  | .inl i => .int i
  | .inr x => .str x

inductive HO where
  /-- a list -/
  | lst (xs : List V)
  /-- a tuple (never changes) -/
  | tup (xs : List V)
  /-- a dict whose keys are ints and texts; one whose keys are tuples of ints and texts (the empty one is both) -/
  | dK (kvs : List (Key × V)) | dT (kvs : List (List Key × V))
  /-- a set of ints: its members, its size -/
  | set (S : Int → Bool) (n : Nat)
  /-- an instance of the class at C, its dict at dx, its attributes -/
  | ins (C dx : Addr) (fs : List (Str × V))
  /-- the dict of the instance at x -/
  | own (x : Addr)
  /-- the dict of an exception -/
  | xd (fs : List (Str × V))
  /-- a bound method, f of x -/
  | met (f x : Addr)
  /-- a range object lo, lo + 1, .. below hi -/
  | rng (lo hi : Int)
  /-- a thing that is known to the object (the script; a dict while a loop walks it): read, never written while it is so -/
  | frz (o : Obj) (u : HO)
  /-- a code object's table -/
  | tbl (ps : Array Value)
  /-- any other thing, by what is true of its one object (a def of one's own: SetO a S n := HO.ext fun h => ..) -/
  | ext (φ : Heap → Prop)

abbrev Hp := Addr → Option HO
def upd (H : Hp) (a : Addr) (o : HO) : Hp := fun b => if b = a then some o else H b
theorem upd_same {H : Hp} {a : Addr} {o : HO} : upd H a o a = some o := by unfold upd; rw [if_pos rfl]
theorem upd_ne {H : Hp} {a b : Addr} {o : HO} (h : b ≠ a) : upd H a o b = H b := by unfold upd; rw [if_neg h]
theorem upd_upd {H : Hp} {a : Addr} {o u : HO} : upd (upd H a o) a u = upd H a u := by
  funext b; unfold upd; split <;> rfl
theorem ne_of {H : Hp} {a b : Addr} {o u : HO} (h : H a = some o) (h' : H b = some u) (d : o ≠ u) : a ≠ b := by
  intro e; subst e; rw [h] at h'; exact d (Option.some.inj h')
theorem ne_of_none {H : Hp} {a b : Addr} {o : HO} (h : H a = some o) (h' : H b = none) : a ≠ b := by
  intro e; subst e; rw [h] at h'; cases h'

section
variable (P : Program) (w : World)
def ObjOk (H : Hp) (h : Heap) (a : Addr) : HO → Prop
  | .lst xs => xs.length ≤ sizeLine ∧ ∃ (its : List Value) (n : Nat), Vals xs its ∧ h.get? a = some { cls := .type "list", data := .seq its.toArray n }
  | .tup xs => xs.length ≤ sizeLine ∧ ∃ its : List Value, Vals xs its ∧ IsTup h a its.toArray
  | .dK kvs => kvs.length ≤ sizeLine ∧ (a == sysModules) = false ∧ ∃ vs, KV kvs vs ∧ h.DictOf (mixKind P w) a vs
  | .dT kvs => kvs.length ≤ sizeLine ∧ (a == sysModules) = false ∧ ∃ xs : List (List Key × Addr × Value),
      Paired (fun (p : List Key × V) (q : List Key × Addr × Value) => p.1 = q.1 ∧ H q.2.1 = some (.tup (p.1.map kV)) ∧ RelV p.2 q.2.2) kvs xs ∧
      ∃ o es ep, h.get? a = some o ∧ o.ExactDict ∧ o.data = .dict es ep ∧ es.toList = xs.map (entryOfKey (tupleKind (mixKind P w))) ∧ (xs.map (·.1)).Nodup
  | .set S n => h.SetOf (intKind P w) a S n
  | .ins C dx fs => H dx = some (.own a) ∧ fs.length ≤ 1000 ∧ dx ≠ a ∧ h.get? a = some (PySem.W.instObj C dx) ∧
      ∃ mA, h.Ns1 dx mA ∧ (∀ f, RelO (fs.lookup f) (mA f)) ∧ PySem.Within mA (fs.map (·.1))
  | .own _ => ∃ o, h.get? a = some o
  | .xd fs => ∃ mA, h.Ns1 a mA ∧ ∀ f, RelO (fs.lookup f) (mA f)
  | .rng lo hi => ∃ t u v, h.get? a = some { cls := .type "range", data := .fields #[.int lo t, .int hi u, .int 1 v] }
  | .frz o u => h.get? a = some o ∧ ObjOk H h a u
  | .tbl ps => h.get? a = some { cls := .none, data := .fields ps }
  | .met f x => h.get? a = some (PySem.W.methodObj (.ref f) (.ref x))
  | .ext φ => φ h ∧ (∃ o, h.get? a = some o) ∧ ∀ h1 h2 : Heap, φ h1 → (∀ o, h1.get? a = some o → h2.get? a = some o) → φ h2
def HOk (H : Hp) (h : Heap) : Prop := ∀ a o, H a = some o → ObjOk P w H h a o
end

section
variable {P : Program} {w : World} {H H' : Hp} {h h' : Heap} {a : Addr} {o : HO}
theorem ObjOk.lt (x : ObjOk P w H h a o) : a < h.objs.size := by
  cases o with
  | lst xs => obtain ⟨_, _, _, _, e⟩ := x; exact Heap.lt_size e
  | tup xs => obtain ⟨_, _, _, p⟩ := x; exact p.lt
  | dK kvs => obtain ⟨_, _, _, _, o, _, _, e, _⟩ := x; exact Heap.lt_size e
  | dT kvs => obtain ⟨_, _, _, _, o, _, _, e, _⟩ := x; exact Heap.lt_size e
  | set S n => obtain ⟨o, _, _, _, e, _⟩ := x; exact Heap.lt_size e
  | ins C dx fs => obtain ⟨_, _, _, e, _⟩ := x; exact Heap.lt_size e
  | own y => obtain ⟨_, e⟩ := x; exact Heap.lt_size e
  | xd fs => obtain ⟨_, ⟨_, _, _, e, _⟩, _⟩ := x; exact Heap.lt_size e
  | rng lo hi => obtain ⟨_, _, _, e⟩ := x; exact Heap.lt_size e
  | frz ob u => obtain ⟨e, _⟩ := x; exact Heap.lt_size e
  | tbl ps => exact Heap.lt_size (show h.get? a = some _ from x)
  | met f y => exact Heap.lt_size (show h.get? a = some _ from x)
  | ext φ => obtain ⟨_, ⟨_, e⟩, _⟩ := x; exact Heap.lt_size e
theorem Paired.mapP {α β : Type} {F G : α → β → Prop} : ∀ {l₁ : List α} {l₂ : List β}, Paired F l₁ l₂ → (∀ a b, F a b → G a b) → Paired G l₁ l₂
  | _, _, .nil, _ => .nil
  | _, _, .cons r t, f => .cons (f _ _ r) (Paired.mapP t f)
theorem ObjOk.stay (x : ObjOk P w H h a o) (k : ∀ b u, (b = a ∨ H b = some (.own a)) → h.get? b = some u → h'.get? b = some u)
    (ho : ∀ b, H b = some (.own a) → H' b = some (.own a)) (ht : ∀ b xs, H b = some (.tup xs) → H' b = some (.tup xs)) : ObjOk P w H' h' a o := by
  induction o with
  | lst xs => obtain ⟨z, its, n, r, e⟩ := x; exact ⟨z, its, n, r, k _ _ (.inl rfl) e⟩
  | tup xs => obtain ⟨z, its, r, ob, e, c⟩ := x; exact ⟨z, its, r, ob, k _ _ (.inl rfl) e, c⟩
  | dK kvs => obtain ⟨z, y, vs, r, ob, es, ep, e, c⟩ := x; exact ⟨z, y, vs, r, ob, es, ep, k _ _ (.inl rfl) e, c⟩
  | dT kvs =>
    obtain ⟨z, y, xs, r, ob, es, ep, e, c⟩ := x
    exact ⟨z, y, xs, Paired.mapP r fun p q z => ⟨z.1, ht _ _ z.2.1, z.2.2⟩, ob, es, ep, k _ _ (.inl rfl) e, c⟩
  | set S n => obtain ⟨ob, es, ep, t, e, c⟩ := x; exact ⟨ob, es, ep, t, k _ _ (.inl rfl) e, c⟩
  | ins C dx fs =>
    obtain ⟨d, z, ne, e, mA, ⟨od, es, ep, e2, c⟩, r⟩ := x
    exact ⟨ho _ d, z, ne, k _ _ (.inl rfl) e, mA, ⟨od, es, ep, k _ _ (.inr d) e2, c⟩, r⟩
  | own y => obtain ⟨ob, e⟩ := x; exact ⟨ob, k _ _ (.inl rfl) e⟩
  | xd fs => obtain ⟨mA, ⟨od, es, ep, e, c⟩, r⟩ := x; exact ⟨mA, ⟨od, es, ep, k _ _ (.inl rfl) e, c⟩, r⟩
  | rng lo hi => obtain ⟨t, u, v, e⟩ := x; exact ⟨t, u, v, k _ _ (.inl rfl) e⟩
  | frz ob u ih => obtain ⟨e, q⟩ := x; exact ⟨k _ _ (.inl rfl) e, ih q⟩
  | tbl ps =>
    have e : h.get? a = some { cls := .none, data := .fields ps } := x
    show h'.get? a = some { cls := .none, data := .fields ps }
    exact k a _ (.inl rfl) e
  | met f y =>
    have e : h.get? a = some (PySem.W.methodObj (.ref f) (.ref y)) := x
    show h'.get? a = some (PySem.W.methodObj (.ref f) (.ref y))
    exact k a _ (.inl rfl) e
  | ext φ => obtain ⟨p, ⟨o, e⟩, st⟩ := x; exact ⟨st _ _ p fun o q => k _ _ (.inl rfl) q, ⟨o, k _ _ (.inl rfl) e⟩, st⟩
theorem HOk.lt (x : HOk P w H h) (e : H a = some o) : a < h.objs.size := (x a o e).lt
theorem HOk.fresh (x : HOk P w H h) (e : h.objs.size ≤ a) : H a = none := by
  cases q : H a with
  | none => rfl
  | some u => exact absurd (Nat.lt_of_lt_of_le (x.lt q) e) (Nat.lt_irrefl _)
theorem HOk.kept (x : HOk P w H h) (k : ∀ b u, h.get? b = some u → h'.get? b = some u) : HOk P w H h' := fun a o e =>
  (x a o e).stay (fun b u _ q => k b u q) (fun _ q => q) fun _ _ q => q
theorem HOk.laid (x : HOk P w H h) (k : ∀ b u, h.get? b = some u → h'.get? b = some u) (hp : h.objs.size ≤ a) (new : ObjOk P w (upd H a o) h' a o) : HOk P w (upd H a o) h' := fun b u e => by
  have hn := x.fresh hp
  by_cases hb : b = a
  · subst hb; rw [upd_same] at e; cases e; exact new
  · rw [upd_ne hb] at e
    exact (x b u e).stay (fun c v _ q => k c v q) (fun c q => by rw [upd_ne (ne_of_none q hn)]; exact q) fun c xs q => by rw [upd_ne (ne_of_none q hn)]; exact q
end

def Rd (H : Hp) (a : Addr) (u : HO) : Prop := H a = some u ∨ ∃ o, H a = some (.frz o u)
theorem Rd.ok {P : Program} {w : World} {H : Hp} {h : Heap} {a : Addr} {u : HO} (r : Rd H a u) (x : HOk P w H h) : ObjOk P w H h a u := by
  rcases r with r | ⟨o, r⟩
  · exact x a u r
  · obtain ⟨_, q⟩ := x a _ r
    exact q
def Mut : Option HO → Prop
  | some (.lst _) => True
  | some (.dK _) => True
  | some (.dT _) => True
  | some (.set _ _) => True
  | some (.ins _ _ _) => True
  | some (.ext _) => True
  | _ => False
section
variable {P : Program} {w : World} {H : Hp} {h h' : Heap} {x e : Addr} {o' : HO}
theorem HOk.write (ok : HOk P w H h) (mu : Mut (H x)) (he : e = x ∨ H e = some (.own x)) (k : ∀ b u, b ≠ e → h.get? b = some u → h'.get? b = some u) (heo : ∃ u, h'.get? e = some u)
    (new : ObjOk P w (upd H x o') h' x o') : HOk P w (upd H x o') h' := fun b u q => by
  have nown : ∀ c y, H c = some (.own y) → c ≠ x := fun c y r z => by subst z; rw [r] at mu; exact mu
  have ntup : ∀ c xs, H c = some (.tup xs) → c ≠ x := fun c xs r z => by subst z; rw [r] at mu; exact mu
  by_cases hb : b = x
  · subst hb; rw [upd_same] at q; cases q; exact new
  · rw [upd_ne hb] at q
    by_cases hbe : b = e
    · have q' : H b = some (.own x) := by
        rcases he with z | z
        · exact absurd (hbe.trans z) hb
        · rw [hbe]; exact z
      rw [q] at q'; cases q'
      obtain ⟨v, hv⟩ := heo
      exact ⟨v, by rw [hbe]; exact hv⟩
    · refine (ok b u q).stay (fun c v hc r => k c v ?_ r) (fun c r => by rw [upd_ne (nown c b r)]; exact r) fun c xs r => by rw [upd_ne (ntup c xs r)]; exact r
      rcases hc with rfl | hc
      · exact hbe
      · rintro rfl
        rcases he with z | z
        · exact nown c b hc z
        · rw [hc] at z; cases z; exact hb rfl
end

structure Un (fs ex : List Addr) (H H' : Hp) (h h' : Heap) : Prop where
  keep : ∀ b o, h.get? b = some o → H b = none → b ∉ fs → b ∉ ex → h'.get? b = some o
  slot : ∀ b o, h.get? b = some o → H b = none → b ∈ fs → b ∉ ex → ∃ sl, h'.get? b = some { o with slots := sl }
  free : ∀ b o, h.get? b = some o → H b = none → b ∉ ex → H' b = none
  there : ∀ b o, h.get? b = some o → b ∉ ex → ∃ o', h'.get? b = some o'
  tups : ∀ b xs, H b = some (.tup xs) → H' b = some (.tup xs)
  frzs : ∀ b o u, H b = some (.frz o u) → H' b = some (.frz o u)
  tbls : ∀ b ps, H b = some (.tbl ps) → ∃ more, H' b = some (.tbl (ps ++ more))
section
variable {fs fs' ex ex' : List Addr} {H H1 H2 : Hp} {h h1 h2 h' : Heap} {a x e : Addr} {o : HO}
theorem Un.any (u : Un fs ex H H1 h h1) {b : Addr} {ob : Obj} (q : h.get? b = some ob) (n : H b = none) (hx : b ∉ ex) : ∃ sl, h1.get? b = some { ob with slots := sl } := by
  by_cases hb : b ∈ fs
  · exact u.slot b ob q n hb hx
  · exact ⟨ob.slots, u.keep b ob q n hb hx⟩
theorem Un.kept (k : ∀ b u, h.get? b = some u → h'.get? b = some u) : Un fs ex H H h h' :=
  ⟨fun b ob q _ _ _ => k b ob q, fun b ob q _ _ _ => ⟨ob.slots, k b ob q⟩, fun _ _ _ n _ => n, fun b ob q _ => ⟨ob, k b ob q⟩, fun _ _ q => q, fun _ _ _ q => q, fun _ ps q => ⟨#[], by rw [q]; simp⟩⟩
theorem Un.refl : Un fs ex H H h h := Un.kept fun _ _ q => q
theorem Un.laid (k : ∀ b u, h.get? b = some u → h'.get? b = some u) (hp : h.objs.size ≤ a) (hn : H a = none) : Un fs ex H (upd H a o) h h' where
  keep := fun b u q _ _ _ => k b u q
  slot := fun b u q _ _ _ => ⟨u.slots, k b u q⟩
  free := fun b u q n _ => by rw [upd_ne (Nat.ne_of_lt (Nat.lt_of_lt_of_le (Heap.lt_size q) hp))]; exact n
  there := fun b u q _ => ⟨u, k b u q⟩
  tups := fun b xs q => by rw [upd_ne (ne_of_none q hn)]; exact q
  frzs := fun b u xs q => by rw [upd_ne (ne_of_none q hn)]; exact q
  tbls := fun b ps q => ⟨#[], by rw [upd_ne (ne_of_none q hn), q]; simp⟩
theorem Un.write (mu : Mut (H x)) (he : e = x ∨ H e = some (.own x)) (k : ∀ b u, b ≠ e → h.get? b = some u → h'.get? b = some u) (heo : ∃ u, h'.get? e = some u) : Un fs ex H (upd H x o) h h' := by
  have hx : ∀ b, H b = none → b ≠ x := fun b n z => by subst z; rw [n] at mu; exact mu
  have hb : ∀ b, H b = none → b ≠ e := fun b n z => by
    subst z
    rcases he with r | r
    · exact hx b n r
    · rw [n] at r; cases r
  have hm : ∀ b u, H b = some u → ¬ Mut (some u) → b ≠ x := fun b u q nm z => by subst z; rw [q] at mu; exact nm mu
  refine ⟨fun b u q n _ _ => k b u (hb b n) q, fun b u q n _ _ => ⟨u.slots, k b u (hb b n) q⟩, fun b u q n _ => by rw [upd_ne (hx b n)]; exact n, fun b u q _ => ?_,
    fun b xs q => by rw [upd_ne (hm b _ q fun z => z)]; exact q, fun b u xs q => by rw [upd_ne (hm b _ q fun z => z)]; exact q, fun b ps q => ⟨#[], by rw [upd_ne (hm b _ q fun z => z), q]; simp⟩⟩
  by_cases hbe : b = e
  · subst hbe; exact heo
  · exact ⟨u, k b u hbe q⟩
end

def trk (h : Heap) (H : Hp) : List Addr := (List.range h.objs.size).filter fun a => (H a).isSome
def hidT (h : Heap) (H : Hp) : Heap := PySem.W.hideAll h (trk h H)
theorem hidT_size (h : Heap) (H : Hp) : (hidT h H).objs.size = h.objs.size := PySem.W.hideAll_size _ _
theorem hidT_get {h : Heap} {H : Hp} {b : Addr} {o : Obj} (e : h.get? b = some o) (n : H b = none) : (hidT h H).get? b = some o :=
  PySem.W.hideAll_get _ e fun hm => by
    have q : (H b).isSome = true := (List.mem_filter.mp hm).2
    rw [n] at q; simp at q
theorem of_hidT {h : Heap} {H : Hp} {b : Addr} {o : Obj} (e : (hidT h H).get? b = some o) : h.get? b = some o ∧ H b = none := by
  have e' : h.get? b = some o := PySem.W.of_hideAll (trk h H) e
  refine ⟨e', ?_⟩
  cases q : H b with
  | none => rfl
  | some x =>
    have hm : b ∈ trk h H := List.mem_filter.mpr ⟨List.mem_range.mpr (Heap.lt_size e'), by simp [q]⟩
    have z : (hidT h H).get? b = none := PySem.W.hideAll_none (trk h H) hm
    rw [z] at e; cases e

def allNews (g h : Heap) (L : Addr) : List (Addr × Obj) := (List.range h.objs.size).filterMap fun a => if a = L ∨ (g.get? a).isSome = true then none else (h.get? a).map fun o => (a, o)
def rest (g h : Heap) (L d : Addr) : List (Addr × Obj) := (allNews g h L).filter fun p => decide (p.1 ≠ d)
end L2

namespace L2
open PySem PySem.Spec PyProof.Rows

structure Mod (K : PySem.W.Frag) (mg : Str → Option Value) (base : Heap) : Prop where
  kin : K.In base
  glob : base.Ns mainGlobals mg
  blt : ∃ mb, base.Ns builtinsNs mb ∧ ∀ x : Str, x ≠ "__name__" → mb x = bootBuiltins x
  nolimit : base.NoLimit

/-- the context: a def's body (or a comprehension's block) running. base: fixed through the whole law; s₀, H₀: the entry; outer: the frames whose slots others may change (a def's callers); stack: all frames that run;
   ex: iterators that were made ahead of the entry and are walked here (a comprehension's); fn: the names whose cells were made at the entry (a def: all; a comprehension's block: its own); calm: not within an except suite; pn: pins that every state bears; xe: what is wanted of an exception that leaves the code -/
structure Cx where
  prog : Program
  w : World
  K : PySem.W.Frag
  mg : Str → Option Value
  base : Heap
  A : Around
  N : List Str
  s_0 : Shared
  H_0 : Hp
  env : Env
  outer : List Env
  stack : List Env
  ex : List Addr
  fn : Str → Bool
  calm : Bool
  pn : List (Addr × Obj)
  xe : Value → Shared → Prop
def frs (l : List Env) : List Addr := l.filterMap (·.frame)
abbrev Cx.fs (X : Cx) : List Addr := frs X.outer

def Vis (sc : Scope) (x : Str) : Prop := sc.names.lookup x = some .local ∨ sc.names.lookup x = some .cell ∨ sc.names.lookup x = some .free
def Loc (sc : Scope) (x : Str) : Prop := sc.names.lookup x = some .local ∨ sc.names.lookup x = some .cell
def Look (env : Env) (h : Heap) (m : Str → Option Value) (x : Str) (u : Value) : Prop :=
  (env.kindOf x = some .local ∧ m x = some u) ∨ ((env.kindOf x = some .cell ∨ env.kindOf x = some .free) ∧ ∃ c, env.cells.lookup x = some c ∧ h.IsCell c (some u))

structure Cx.Ok (X : Cx) : Prop where
  mod : Mod X.K X.mg X.base
  kind : X.env.scope.kind = .function
  glob : X.env.globals = mainGlobals
  blt : X.env.builtins = builtinsNs
  above : X.s_0.heap.objs.size ≤ X.env.locals
  inj : ∀ x y c, X.env.cells.lookup x = some c → X.env.cells.lookup y = some c → x = y
  has : ∀ x, (X.env.kindOf x = some .cell ∨ X.env.kindOf x = some .free) → ∃ c, X.env.cells.lookup x = some c
  cab : ∀ x c, X.fn x = true → X.env.cells.lookup x = some c → X.s_0.heap.objs.size ≤ c
  hd : X.calm = true → X.A.handled = none
  frames : X.A.frames = some X.stack
  stk : X.stack = X.outer ∨ (X.stack = X.env :: X.outer ∧ X.env.frame = some X.env.locals)
  exf : ∀ b ∈ X.ex, b ≠ X.env.locals ∧ ∀ x c, X.env.cells.lookup x = some c → c ≠ b
  bs : ∀ b o, X.base.get? b = some o → X.s_0.heap.get? b = some o ∧ X.H_0 b = none
  bsz : X.base.objs.size ≤ X.s_0.heap.objs.size
  noex : ∀ b o, X.base.get? b = some o → b ∉ X.ex
  exfs : ∀ b ∈ X.ex, b ∉ X.fs
  funs : X.s_0.heap.FunFrames X.base X.outer
  frf : ∀ b ∈ X.fs, X.H_0 b = none

structure Inv (X : Cx) (pins : List (Addr × Obj)) (σ : List (Option V)) (H : Hp) (s : Shared) : Prop where
  ok : X.Ok
  os : s.os = X.s_0.os
  bare : AllBare s.gens
  base : Un X.fs X.ex X.H_0 H X.s_0.heap s.heap
  loc : ∃ m, s.heap.Ns X.env.locals m ∧ ∀ (i : Nat) (x : Str) (v : V), X.N[i]? = some x → σ[i]? = some (some v) → Vis X.env.scope x → ∃ u, RelV v u ∧ Look X.env s.heap m x u
  cell : ∀ x c, X.env.cells.lookup x = some c → ∃ v, s.heap.IsCell c v
  free : H X.env.locals = none
  freeC : ∀ x c, X.env.cells.lookup x = some c → H c = none
  pin : ∀ p ∈ X.pn ++ pins, s.heap.get? p.1 = some p.2 ∧ H p.1 = none ∧ p.1 ≠ X.env.locals ∧ p.1 ∉ X.fs ∧ ∀ v, p.2.data ≠ .cell v
  hok : HOk X.prog X.w H s.heap
  len : σ.length = X.N.length

section
variable {X : Cx} {pins : List (Addr × Obj)} {σ : List (Option V)} {H H' : Hp} {s : Shared} {h' : Heap}

theorem Cx.Ok.nofr (ok : X.Ok) {b : Addr} {o : Obj} (e : X.base.get? b = some o) : b ∉ X.fs := fun hb => by
  have := (ok.funs.mem hb).1
  rw [e] at this; cases this
theorem Inv.bs (I : Inv X pins σ H s) : ∀ b o, X.base.get? b = some o → s.heap.get? b = some o ∧ H b = none := fun b o e =>
  ⟨I.base.keep b o (I.ok.bs b o e).1 (I.ok.bs b o e).2 (I.ok.nofr e) (I.ok.noex b o e), I.base.free b o (I.ok.bs b o e).1 (I.ok.bs b o e).2 (I.ok.noex b o e)⟩
theorem Inv.bk (I : Inv X pins σ H s) : ∀ b o, X.base.get? b = some o → s.heap.get? b = some o := fun b o e => (I.bs b o e).1
theorem Inv.mod (I : Inv X pins σ H s) : Mod X.K X.mg X.base := I.ok.mod
theorem Inv.kIn (I : Inv X pins σ H s) : X.K.In s.heap := I.ok.mod.kin.keeps I.bk
theorem Inv.lt (I : Inv X pins σ H s) : X.env.locals < s.heap.objs.size := let ⟨_, hn, _⟩ := I.loc; hn.lt
theorem Inv.sz (I : Inv X pins σ H s) : X.s_0.heap.objs.size ≤ s.heap.objs.size := Nat.le_trans I.ok.above (Nat.le_of_lt I.lt)
theorem Inv.nofs (I : Inv X pins σ H s) {a : Addr} (h : s.heap.objs.size ≤ a) : a ∉ X.fs := fun hb => by
  obtain ⟨_, o, ho, _⟩ := I.ok.funs.mem hb
  exact absurd (Nat.lt_of_lt_of_le (Heap.lt_size ho) (Nat.le_trans I.sz h)) (Nat.lt_irrefl _)
theorem Inv.cne (I : Inv X pins σ H s) : ∀ x c, X.env.cells.lookup x = some c → c ≠ X.env.locals := fun x c e z => by
  obtain ⟨v, o, ho, hd⟩ := I.cell x c e
  obtain ⟨m, ⟨o', es, ep, ho', hd', _⟩, _⟩ := I.loc
  rw [z, ho'] at ho; cases ho; rw [hd'] at hd; cases hd
theorem Inv.funs (I : Inv X pins σ H s) : s.heap.FunFrames X.base X.outer := by
  have all : ∀ (l : List Env), (∀ b ∈ frs l, b ∈ X.fs) → X.s_0.heap.FunFrames X.base l → s.heap.FunFrames X.base l := by
    intro l
    induction l with
    | nil => intro _ _; trivial
    | cons env r ih =>
      intro hs hl
      obtain ⟨hk, ⟨L, o, hf, hn, ho, hd⟩, hr⟩ := hl
      have hL : L ∈ X.fs := hs L (by unfold frs; rw [List.filterMap_cons, hf]; exact List.mem_cons_self)
      obtain ⟨sl, e⟩ := I.base.slot L o ho (I.ok.frf L hL) hL fun z => I.ok.exfs L z hL
      exact ⟨hk, ⟨L, _, hf, hn, e, hd⟩, ih (fun b hb => hs b (by unfold frs; rw [List.filterMap_cons, hf]; exact List.mem_cons_of_mem _ hb)) hr⟩
  exact all X.outer (fun _ hb => hb) I.ok.funs

theorem Inv.stack (I : Inv X pins σ H s) : s.heap.FunFrames X.base X.stack := by
  rcases I.ok.stk with e | ⟨e, hf⟩
  · rw [e]; exact I.funs
  · rw [e]
    obtain ⟨m, hn, _⟩ := I.loc
    refine .cons (by rw [I.ok.kind]; decide) hf hn ?_ I.funs
    exact Heap.get?_none_of_le (Nat.le_trans I.ok.bsz I.ok.above)
theorem Inv.stkSub (I : Inv X pins σ H s) : ∀ b ∈ frs X.stack, b ∈ X.env.locals :: X.fs := fun b hb => by
  rcases I.ok.stk with e | ⟨e, hf⟩
  · rw [e] at hb; exact List.mem_cons_of_mem _ hb
  · rw [e] at hb
    unfold frs at hb
    rw [List.filterMap_cons, hf] at hb
    exact hb
theorem Inv.stkFree (I : Inv X pins σ H s) : ∀ b ∈ frs X.stack, H b = none := fun b hb => by
  rcases List.mem_cons.mp (I.stkSub b hb) with e | hb
  · rw [e]; exact I.free
  · obtain ⟨_, o, ho, _⟩ := I.ok.funs.mem hb
    exact I.base.free b o ho (I.ok.frf b hb) fun z => I.ok.exfs b z hb

theorem Inv.step {g' : Array GenState} {t' : Nat} {d' : Drawn} {ch : List Addr} (I : Inv X pins σ H s)
    (hch : ∀ b ∈ ch, (b ∈ X.ex ∨ X.s_0.heap.objs.size ≤ b) ∧ b ≠ X.env.locals ∧ (∀ x c, X.env.cells.lookup x = some c → c ≠ b) ∧ ∀ p ∈ X.pn ++ pins, p.1 ≠ b)
    (keep : ∀ b o, b ≠ X.env.locals → b ∉ X.fs → b ∉ ch → s.heap.get? b = some o → H b = none → h'.get? b = some o)
    (slot : ∀ b o, b ≠ X.env.locals → b ∈ X.fs → b ∉ ch → s.heap.get? b = some o → H b = none → ∃ sl, h'.get? b = some { o with slots := sl }) (free : ∀ b o, b ∉ ch → s.heap.get? b = some o → H b = none → H' b = none)
    (there : ∀ b o, b ∉ ch → s.heap.get? b = some o → ∃ o', h'.get? b = some o')
    (tups : ∀ b xs, H b = some (.tup xs) → H' b = some (.tup xs)) (frzs : ∀ b o u, H b = some (.frz o u) → H' b = some (.frz o u)) (tbls : ∀ b ps, H b = some (.tbl ps) → ∃ more, H' b = some (.tbl (ps ++ more)))
    (ns : ∀ m, s.heap.Ns X.env.locals m → h'.Ns X.env.locals m) (hok : HOk X.prog X.w H' h') (hg : AllBare g') :
    Inv X pins σ H' { s with heap := h', gens := g', drawn := d', toks := t' } := by
  have neL : ∀ b o, X.s_0.heap.get? b = some o → b ≠ X.env.locals := fun b o e => Nat.ne_of_lt (Nat.lt_of_lt_of_le (Heap.lt_size e) I.ok.above)
  have neC : ∀ b o, X.s_0.heap.get? b = some o → b ∉ X.ex → b ∉ ch := fun b o e hx hb => by
    rcases (hch b hb).1 with z | z
    · exact hx z
    · exact absurd (Nat.lt_of_lt_of_le (Heap.lt_size e) z) (Nat.lt_irrefl _)
  have cellK : ∀ x c, X.env.cells.lookup x = some c → ∀ v, s.heap.IsCell c v → h'.IsCell c v := fun x c e v ⟨o, ho, hd⟩ => by
    have nch : c ∉ ch := fun z => (hch c z).2.2.1 x c e rfl
    by_cases hc : c ∈ X.fs
    · obtain ⟨sl, q⟩ := slot c o (I.cne x c e) hc nch ho (I.freeC x c e)
      exact ⟨_, q, hd⟩
    · exact ⟨o, keep c o (I.cne x c e) hc nch ho (I.freeC x c e), hd⟩
  refine ⟨I.ok, I.os, hg, ⟨fun b o e n hb hx => ?_, fun b o e n hb hx => ?_, fun b o e n hx => ?_, fun b o e hx => ?_, fun b xs e => tups b xs (I.base.tups b xs e), fun b o xs e => frzs b o xs (I.base.frzs b o xs e), fun b ps e => ?_⟩, ?_, fun x c e => ?_, ?_, fun x c e => ?_, fun p hp => ?_, hok, I.len⟩
  · exact keep b o (neL b o e) hb (neC b o e hx) (I.base.keep b o e n hb hx) (I.base.free b o e n hx)
  · obtain ⟨sl, e1⟩ := I.base.slot b o e n hb hx
    obtain ⟨sl', e2⟩ := slot b _ (neL b o e) hb (neC b o e hx) e1 (I.base.free b o e n hx)
    exact ⟨sl', e2⟩
  · obtain ⟨o', e1⟩ := I.base.there b o e hx
    exact free b o' (neC b o e hx) e1 (I.base.free b o e n hx)
  · obtain ⟨o', e1⟩ := I.base.there b o e hx
    exact there b o' (neC b o e hx) e1
  · obtain ⟨m1, e1⟩ := I.base.tbls b ps e
    obtain ⟨m2, e2⟩ := tbls b _ e1
    exact ⟨m1 ++ m2, by rw [e2, Array.append_assoc]⟩
  · obtain ⟨m, hn, hl⟩ := I.loc
    refine ⟨m, ns m hn, fun i x v e1 e2 e3 => ?_⟩
    obtain ⟨u, r, l⟩ := hl i x v e1 e2 e3
    refine ⟨u, r, ?_⟩
    rcases l with l | ⟨k, c, e, z⟩
    · exact .inl l
    · exact .inr ⟨k, c, e, cellK x c e _ z⟩
  · obtain ⟨v, z⟩ := I.cell x c e
    exact ⟨v, cellK x c e v z⟩
  · obtain ⟨m, ⟨o, _, _, ho, _⟩, _⟩ := I.loc
    exact free _ o (fun z => (hch _ z).2.1 rfl) ho I.free
  · obtain ⟨v, o, ho, hd⟩ := I.cell x c e
    exact free c o (fun z => (hch c z).2.2.1 x c e rfl) ho (I.freeC x c e)
  · obtain ⟨e, n, ne, nf, d⟩ := I.pin p hp
    have nch : p.1 ∉ ch := fun z => (hch p.1 z).2.2.2 p hp rfl
    exact ⟨keep p.1 p.2 ne nf nch e n, free p.1 p.2 nch e n, ne, nf, d⟩
theorem Inv.un {t' : Nat} (I : Inv X pins σ H s) (u : Un X.fs [] H H' s.heap h') (hok : HOk X.prog X.w H' h') : Inv X pins σ H' { s with heap := h', toks := t' } := by
  obtain ⟨m, ⟨o, es, ep, ho, r⟩, _⟩ := id I.loc
  obtain ⟨sl, hL⟩ := u.any ho I.free (by simp)
  exact I.step (g' := s.gens) (d' := s.drawn) (ch := []) (fun _ z => nomatch z) (fun b o _ hb _ e n => u.keep b o e n hb (by simp)) (fun b o _ hb _ e n => u.slot b o e n hb (by simp)) (fun b o _ e n => u.free b o e n (by simp)) (fun b o _ e => u.there b o e (by simp)) u.tups u.frzs u.tbls (fun m' hm => by
    obtain ⟨o', es', ep', ho', r'⟩ := hm
    rw [ho] at ho'; cases ho'
    exact ⟨_, es', ep', hL, r'⟩) hok I.bare
theorem Inv.call {g' : Array GenState} {t' : Nat} {d' : Drawn} {ch : List Addr} (I : Inv X pins σ H s) (u : Un (frs X.stack) ch H H' s.heap h') (hok : HOk X.prog X.w H' h') (hg : AllBare g')
    (hch : ∀ b ∈ ch, (b ∈ X.ex ∨ X.s_0.heap.objs.size ≤ b) ∧ b ≠ X.env.locals ∧ (∀ x c, X.env.cells.lookup x = some c → c ≠ b) ∧ ∀ p ∈ X.pn ++ pins, p.1 ≠ b) :
    Inv X pins σ H' { s with heap := h', gens := g', drawn := d', toks := t' } := by
  obtain ⟨m, ⟨o, es, ep, ho, r⟩, _⟩ := id I.loc
  obtain ⟨sl, hL⟩ := u.any ho I.free fun z => (hch _ z).2.1 rfl
  exact I.step (ch := ch) hch (fun b o hL hb hc e n => u.keep b o e n (fun z => (List.mem_cons.mp (I.stkSub b z)).elim hL hb) hc) (fun b o _ _ hc e n => u.any e n hc) (fun b o hc e n => u.free b o e n hc) (fun b o hc e => u.there b o e hc) u.tups u.frzs u.tbls (fun m' hm => by
    obtain ⟨o', es', ep', ho', r'⟩ := hm
    rw [ho] at ho'; cases ho'
    exact ⟨_, es', ep', hL, r'⟩) hok hg
theorem Inv.turned {t' : Nat} {it : Addr} (I : Inv X pins σ H s) (k : ∀ b o, b ≠ it → s.heap.get? b = some o → h'.get? b = some o) (hn : H it = none) (hL : it ≠ X.env.locals)
    (h1 : it ∈ X.ex ∨ X.s_0.heap.objs.size ≤ it) (h2 : ∀ x c, X.env.cells.lookup x = some c → c ≠ it) (h3 : ∀ p ∈ X.pn ++ pins, p.1 ≠ it) : Inv X pins σ H { s with heap := h', toks := t' } := by
  have nit : ∀ b u, H b = some u → b ≠ it := fun b u e z => by rw [z, hn] at e; cases e
  refine I.step (g' := s.gens) (d' := s.drawn) (ch := [it]) (fun b hb => ?_) (fun b o _ _ hc e _ => k b o (fun z => hc (by simp [z])) e) (fun b o _ _ hc e _ => ⟨o.slots, k b o (fun z => hc (by simp [z])) e⟩) (fun _ _ _ _ n => n)
    (fun b o hc e => ⟨o, k b o (fun z => hc (by simp [z])) e⟩) (fun _ _ e => e) (fun _ _ _ e => e) (fun b ps e => ⟨#[], by rw [e]; simp⟩) (fun m hm => ?_) (fun b u e => ?_) I.bare
  · have e : b = it := by simpa using hb
    subst e
    exact ⟨h1, hL, h2, h3⟩
  · obtain ⟨o, es, ep, ho, r⟩ := hm
    exact ⟨o, es, ep, k _ o (Ne.symm hL) ho, r⟩
  · refine (I.hok b u e).stay (fun c v hc q => k c v ?_ q) (fun _ q => q) fun _ _ q => q
    rcases hc with z | z
    · rw [z]; exact nit b u e
    · exact nit c _ z
theorem Inv.tok (I : Inv X pins σ H s) (t : Nat) : Inv X pins σ H { s with toks := t } := I.un (h' := s.heap) (t' := t) Un.refl I.hok
theorem Inv.kept {t' : Nat} (I : Inv X pins σ H s) (k : ∀ b u, s.heap.get? b = some u → h'.get? b = some u) : Inv X pins σ H { s with heap := h', toks := t' } := I.un (Un.kept k) (I.hok.kept k)
theorem Inv.laid {a : Addr} {o : HO} {t' : Nat} (I : Inv X pins σ H s) (k : ∀ b u, s.heap.get? b = some u → h'.get? b = some u) (hp : s.heap.objs.size ≤ a) (new : ObjOk X.prog X.w (upd H a o) h' a o) :
    Inv X pins σ (upd H a o) { s with heap := h', toks := t' } := I.un (Un.laid k hp (I.hok.fresh hp)) (I.hok.laid k hp new)
theorem Inv.write {x e : Addr} {o : HO} {t' : Nat} (I : Inv X pins σ H s) (mu : Mut (H x)) (he : e = x ∨ H e = some (.own x)) (k : ∀ b u, b ≠ e → s.heap.get? b = some u → h'.get? b = some u) (heo : ∃ u, h'.get? e = some u)
    (new : ObjOk X.prog X.w (upd H x o) h' x o) : Inv X pins σ (upd H x o) { s with heap := h', toks := t' } := I.un (Un.write mu he k heo) (I.hok.write mu he k heo new)
theorem Inv.pins_of {pins' : List (Addr × Obj)} (I : Inv X pins σ H s) (h : ∀ p ∈ pins', s.heap.get? p.1 = some p.2 ∧ H p.1 = none ∧ p.1 ≠ X.env.locals ∧ p.1 ∉ X.fs ∧ ∀ v, p.2.data ≠ .cell v) : Inv X pins' σ H s :=
  ⟨I.ok, I.os, I.bare, I.base, I.loc, I.cell, I.free, I.freeC, fun p hp => (List.mem_append.mp hp).elim (fun z => I.pin p (List.mem_append_left _ z)) (h p), I.hok, I.len⟩

theorem nodup_ix {N : List Str} (hN : N.Nodup) {i j : Nat} {x : Str} (a : N[i]? = some x) (b : N[j]? = some x) : i = j := by
  obtain ⟨h1, e1⟩ := List.getElem?_eq_some_iff.mp a
  obtain ⟨h2, e2⟩ := List.getElem?_eq_some_iff.mp b
  exact (List.getElem_inj hN).mp (e1.trans e2.symm)

theorem store_ok2 {M : Model} {A : Around} {E : Value → Shared → Prop} {i : Nat} {x : Str} {v : V} {u : Value} {Q : Unit → Shared → Prop} (I : Inv X pins σ H s) (hN : X.N.Nodup) (hi : X.N[i]? = some x) (hx : Loc X.env.scope x) (r : RelV v u)
    (h : ∀ s', Inv X pins (σ.set i (some v)) H s' → (∃ a, Heap.SameBut a s.heap s'.heap ∧ (a = X.env.locals ∨ X.env.cells.lookup x = some a)) → Q () s') (hf : X.fn x = true ∨ X.env.scope.names.lookup x = some .local := by first | exact .inl rfl | exact .inr rfl | assumption) : wpAny M A (storeName X.env x u) Q E s := by
  obtain ⟨m, hn, hl⟩ := id I.loc
  have hcls : (X.env.scope.kind == .class || (X.env.scope.kind == .module && X.env.locals != X.env.globals)) = false := by rw [I.ok.kind]; rfl
  have hiσ : i < σ.length := by rw [I.len]; exact (List.getElem?_eq_some_iff.mp hi).1
  have cne := I.cne
  have tracked : ∀ {a : Addr} {h' : Heap}, (∃ o, s.heap.get? a = some o ∧ H a = none) → Heap.SameBut a s.heap h' → HOk X.prog X.w H h' := fun {a h'} ha hs b ob e => by
    obtain ⟨_, _, hfree⟩ := ha
    refine (I.hok b ob e).stay (fun c w' hc q => (hs.2 c ?_).trans q) (fun _ q => q) fun _ _ q => q
    rintro rfl
    rcases hc with rfl | hc
    · rw [hfree] at e; cases e
    · rw [hfree] at hc; cases hc
  rcases hx with hk | hk
  · refine wpAny_storeName_local hk hn (fun h' hn' hs => ?_) hcls
    obtain ⟨oL, _, _, hoL, _⟩ := id hn
    refine h _ ⟨I.ok, I.os, I.bare, ⟨fun b o e n hb hx => ?_, fun b o e n hb hx => ?_, I.base.free, fun b o e hx => ?_, I.base.tups, I.base.frzs, I.base.tbls⟩, ⟨_, hn', fun j y v' e1 e2 e3 => ?_⟩, fun y c e => ?_, I.free, I.freeC, fun p hp => ?_, tracked ⟨oL, hoL, I.free⟩ hs, by simpa using I.len⟩ ⟨_, hs, .inl rfl⟩
    · exact (hs.2 b (Nat.ne_of_lt (Nat.lt_of_lt_of_le (Heap.lt_size e) I.ok.above))).trans (I.base.keep b o e n hb hx)
    · obtain ⟨sl, e1⟩ := I.base.slot b o e n hb hx
      exact ⟨sl, (hs.2 b (Nat.ne_of_lt (Nat.lt_of_lt_of_le (Heap.lt_size e) I.ok.above))).trans e1⟩
    · obtain ⟨o', e1⟩ := I.base.there b o e hx
      exact ⟨o', (hs.2 b (Nat.ne_of_lt (Nat.lt_of_lt_of_le (Heap.lt_size e) I.ok.above))).trans e1⟩
    · by_cases hj : j = i
      · subst hj
        rw [hi] at e1; cases e1
        rw [List.getElem?_set_self hiσ] at e2
        cases e2
        exact ⟨u, r, .inl ⟨hk, by simp⟩⟩
      · rw [List.getElem?_set_ne (Ne.symm hj)] at e2
        obtain ⟨u', r', q⟩ := hl j y v' e1 e2 e3
        refine ⟨u', r', ?_⟩
        rcases q with ⟨k, e⟩ | ⟨k, c, e, z⟩
        · refine .inl ⟨k, ?_⟩
          have : y ≠ x := fun e => hj (nodup_ix hN e1 (e ▸ hi))
          simp [this, e]
        · exact .inr ⟨k, c, e, z.sameBut hs (cne y c e)⟩
    · obtain ⟨w', z⟩ := I.cell y c e
      exact ⟨w', z.sameBut hs (cne y c e)⟩
    · obtain ⟨e, n, ne, nf, d⟩ := I.pin p hp
      exact ⟨(hs.2 p.1 ne).trans e, n, ne, nf, d⟩
  · have hfn : X.fn x = true := by
      rcases hf with z | z
      · exact z
      · rw [z] at hk; cases hk
    obtain ⟨c, hc⟩ := I.ok.has x (.inl hk)
    obtain ⟨w', z⟩ := I.cell x c hc
    refine wpAny_storeName_cell I.ok.kind hk hc z (fun h' hc' hs => ?_)
    obtain ⟨oc, hoc, hocd⟩ := id z
    refine h { s with heap := h' } ⟨I.ok, I.os, I.bare, ⟨fun b o e n hb hx => ?_, fun b o e n hb hx => ?_, I.base.free, fun b o e hx => ?_, I.base.tups, I.base.frzs, I.base.tbls⟩, ⟨m, hn.sameBut hs (Ne.symm (cne x c hc)), fun j y v' e1 e2 e3 => ?_⟩, fun y c' e => ?_, I.free, I.freeC, fun p hp => ?_, tracked ⟨oc, hoc, I.freeC x c hc⟩ hs, by simpa using I.len⟩ ⟨c, hs, .inr hc⟩
    · exact (hs.2 b (Nat.ne_of_lt (Nat.lt_of_lt_of_le (Heap.lt_size e) (I.ok.cab x c hfn hc)))).trans (I.base.keep b o e n hb hx)
    · obtain ⟨sl, e1⟩ := I.base.slot b o e n hb hx
      exact ⟨sl, (hs.2 b (Nat.ne_of_lt (Nat.lt_of_lt_of_le (Heap.lt_size e) (I.ok.cab x c hfn hc)))).trans e1⟩
    · obtain ⟨o', e1⟩ := I.base.there b o e hx
      exact ⟨o', (hs.2 b (Nat.ne_of_lt (Nat.lt_of_lt_of_le (Heap.lt_size e) (I.ok.cab x c hfn hc)))).trans e1⟩
    · by_cases hj : j = i
      · subst hj
        rw [hi] at e1; cases e1
        rw [List.getElem?_set_self hiσ] at e2
        cases e2
        exact ⟨u, r, .inr ⟨.inl hk, c, hc, hc'⟩⟩
      · rw [List.getElem?_set_ne (Ne.symm hj)] at e2
        obtain ⟨u', r', q⟩ := hl j y v' e1 e2 e3
        refine ⟨u', r', ?_⟩
        rcases q with q | ⟨k, c', e, z'⟩
        · exact .inl q
        · refine .inr ⟨k, c', e, z'.sameBut hs ?_⟩
          rintro rfl
          exact hj (nodup_ix hN e1 (I.ok.inj _ _ _ e hc ▸ hi))
    · by_cases hcc : c' = c
      · subst hcc; exact ⟨_, hc'⟩
      · obtain ⟨w2, z2⟩ := I.cell y c' e
        exact ⟨w2, z2.sameBut hs hcc⟩
    · obtain ⟨e, n, ne, nf, d⟩ := I.pin p hp
      refine ⟨(hs.2 p.1 ?_).trans e, n, ne, nf, d⟩
      intro q
      rw [q, hoc] at e
      have q' : oc = p.2 := Option.some.inj e
      exact d w' (by rw [← q']; exact hocd)
theorem store_ok {M : Model} {A : Around} {E : Value → Shared → Prop} {i : Nat} {x : Str} {v : V} {u : Value} {Q : Unit → Shared → Prop} (I : Inv X pins σ H s) (hN : X.N.Nodup) (hi : X.N[i]? = some x) (hx : Loc X.env.scope x) (r : RelV v u)
    (h : ∀ s', Inv X pins (σ.set i (some v)) H s' → Q () s') (hf : X.fn x = true ∨ X.env.scope.names.lookup x = some .local := by first | exact .inl rfl | exact .inr rfl | assumption) : wpAny M A (storeName X.env x u) Q E s :=
  store_ok2 I hN hi hx r (fun s' I' _ => h s' I') hf
theorem Inv.call' {s' : Shared} {ch : List Addr} (I : Inv X pins σ H s) (ho : s'.os = s.os) (u : Un (frs X.stack) ch H H' s.heap s'.heap) (hok : HOk X.prog X.w H' s'.heap) (hg : AllBare s'.gens)
    (hch : ∀ b ∈ ch, (b ∈ X.ex ∨ X.s_0.heap.objs.size ≤ b) ∧ b ≠ X.env.locals ∧ (∀ x c, X.env.cells.lookup x = some c → c ≠ b) ∧ ∀ p ∈ X.pn ++ pins, p.1 ≠ b) : Inv X pins σ H' s' := by
  obtain ⟨h', g', d', t', o'⟩ := s'
  have e : o' = s.os := ho
  subst e
  exact I.call (g' := g') (t' := t') (d' := d') u hok hg hch
end

abbrev XK := Value → Option Addr → Hp → Prop
abbrev St := List (Option V)
abbrev VK := V → Hp → Prop
abbrev TE := St → Hp → VK → Prop
abbrev TT := St → Hp → (Bool → Hp → Prop) → Prop
abbrev TA := St → Hp → (List V → Hp → Prop) → Prop
structure Ends where
  nx : St → Hp → Prop
  rt : VK
  bk : St → Hp → Prop := fun _ _ => False
  ct : St → Hp → Prop := fun _ _ => False
abbrev TS := Ends → St → Hp → Prop

def EP (X : Cx) (pins : List (Addr × Obj)) (σ : St) (Q : VK) (u : Value) (s' : Shared) : Prop := ∃ v H', Inv X pins σ H' s' ∧ RelV v u ∧ Q v H'
def TP (X : Cx) (pins : List (Addr × Obj)) (σ : St) (Q : Bool → Hp → Prop) (b : Bool) (s' : Shared) : Prop := ∃ H', Inv X pins σ H' s' ∧ Q b H'
def AP (X : Cx) (pins : List (Addr × Obj)) (σ : St) (Q : List V → Hp → Prop) (us : List Value) (s' : Shared) : Prop := ∃ vs H', Inv X pins σ H' s' ∧ Vals vs us ∧ Q vs H'
def SP (X : Cx) (pins : List (Addr × Obj)) (D : Ends) (f : Flow) (s' : Shared) : Prop :=
  match f with
  | .next => ∃ σ' H', Inv X pins σ' H' s' ∧ D.nx σ' H'
  | .brk => ∃ σ' H', Inv X pins σ' H' s' ∧ D.bk σ' H'
  | .cont => ∃ σ' H', Inv X pins σ' H' s' ∧ D.ct σ' H'
  | .ret u => ∃ v σ' H', Inv X pins σ' H' s' ∧ RelV v u ∧ D.rt v H'

def PE (X : Cx) (e : Expr) (t : TE) : Prop :=
  ∀ (pins : List (Addr × Obj)) (s : Shared) (σ : St) (H : Hp) (Q : VK), Inv X pins σ H s → t σ H Q → wpAny (model X.prog X.w) X.A (eval e X.env) (EP X pins σ Q) X.xe s
def PT (X : Cx) (e : Expr) (t : TT) : Prop :=
  ∀ (pins : List (Addr × Obj)) (s : Shared) (σ : St) (H : Hp) (Q : Bool → Hp → Prop), Inv X pins σ H s → t σ H Q → wpAny (model X.prog X.w) X.A (isTrue e X.env (eval e X.env)) (TP X pins σ Q) X.xe s
def PW (X : Cx) (e : Expr) (t : TT) : Prop :=
  ∀ (whole : Sem Value) (pins : List (Addr × Obj)) (s : Shared) (σ : St) (H : Hp) (Q : Bool → Hp → Prop), Inv X pins σ H s → t σ H Q → wpAny (model X.prog X.w) X.A (isTrue e X.env whole) (TP X pins σ Q) X.xe s
theorem PW.pt {X : Cx} {e : Expr} {t : TT} (h : PW X e t) : PT X e t := h _
def PA (X : Cx) (es : List Expr) (t : TA) : Prop :=
  ∀ (pos : Pos) (pins : List (Addr × Obj)) (s : Shared) (σ : St) (H : Hp) (Q : List V → Hp → Prop), Inv X pins σ H s → t σ H Q → wpAny (model X.prog X.w) X.A (spliced (backTo pos (starEach es X.env))) (AP X pins σ Q) X.xe s
def PS (X : Cx) (st : Stmt) (t : TS) : Prop :=
  ∀ (pins : List (Addr × Obj)) (s : Shared) (σ : St) (H : Hp) (D : Ends), Inv X pins σ H s → t D σ H → wpAny (model X.prog X.w) X.A (exec st X.env) (SP X pins D) X.xe s
def PSs (X : Cx) (st : List Stmt) (t : TS) : Prop :=
  ∀ (pins : List (Addr × Obj)) (s : Shared) (σ : St) (H : Hp) (D : Ends), Inv X pins σ H s → t D σ H → wpAny (model X.prog X.w) X.A (execs st X.env) (SP X pins D) X.xe s
theorem thn {α : Type} {t : Sem α} {Q Q' : α → Shared → Prop} {M : Model} {A : Around} {E : Value → Shared → Prop} {s : Shared} (h : wpAny M A t Q E s) (hQ : ∀ a s, Q a s → Q' a s) : wpAny M A t Q' E s := wpAny_mono h hQ fun _ _ x => x
end L2

namespace L2
open PySem PySem.Spec PyProof.Rows
section
variable {X : Cx}

def tVar (i : Nat) : TE := fun σ H Q => ∃ v, σ[i]? = some (some v) ∧ Q v H
def tC (v : V) : TE := fun _ H Q => Q v H
theorem pe_var {i : Nat} {x : Str} {pos : Pos} (hN : X.N[i]? = some x) (hv : Vis X.env.scope x) (hd : (x == ("__debug__" : Str)) = false := by decide) (hcd : (x == ("__classdict__" : Str)) = false := by decide) : PE X (.Name x pos) (tVar i) := by
  intro pins s σ H Q I h
  obtain ⟨v, e, h⟩ := h
  obtain ⟨m, hn, hl⟩ := I.loc
  obtain ⟨u, r, l⟩ := hl i x v hN e hv
  have fin : EP X pins σ Q u s := ⟨v, H, I, r, h⟩
  rcases l with ⟨hk, hm⟩ | ⟨hk, c, hc, hcell⟩
  · exact wpAny_Name (wpAny_loadName_local I.ok.kind hk hn hm fin) hd
  · rcases hk with hk | hk
    · exact wpAny_Name (wpAny_loadName_cell I.ok.kind hk hc hcell fin) hd
    · exact wpAny_Name (wpAny_loadName_free I.ok.kind hk hc hcell fin hcd) hd
theorem pe_int {i j pos} : PE X (.Constant (.int i) j pos) (tC (.int i)) := fun _ _ _ H _ I h => wpAny_Constant_int ⟨.int i, H, I.tok _, ⟨_, rfl⟩, h⟩
theorem pe_non {j pos} : PE X (.Constant .none j pos) (tC .non) := fun _ _ _ H _ I h => Constant_none ⟨.non, H, I, rfl, h⟩
theorem pe_str {x j pos} : PE X (.Constant (.str x) j pos) (tC (.str x)) := fun _ _ _ H _ I h => Calls.Constant_str ⟨.str x, H, I.tok _, ⟨_, rfl⟩, h⟩

def Gl (X : Cx) (x : Str) : Prop := X.env.kindOf x = some .globalImplicit
theorem ld_glob {E : Value → Shared → Prop} {pins : List (Addr × Obj)} {s : Shared} {σ : St} {H : Hp} {x : Str} {u : Value} {pos : Pos} {Q : Value → Shared → Prop} (I : Inv X pins σ H s) (hg : Gl X x) (hm : X.mg x = some u) (h : Q u s)
    (hd : (x == ("__debug__" : Str)) = false := by decide) : wpAny (model X.prog X.w) X.A (eval (.Name x pos) X.env) Q E s :=
  Calls.Name_function_global I.ok.kind hg (Calls.loadGlobal_global (by rw [I.ok.glob]; exact I.mod.glob.keeps I.bk) hm h) hd
theorem ld_blt {E : Value → Shared → Prop} {pins : List (Addr × Obj)} {s : Shared} {σ : St} {H : Hp} {x : Str} {u : Value} {pos : Pos} {Q : Value → Shared → Prop} (I : Inv X pins σ H s) (hg : Gl X x) (hm : X.mg x = none) (hv : bootBuiltins x = some u) (h : Q u s)
    (hn : x ≠ "__name__" := by decide) (hd : (x == ("__debug__" : Str)) = false := by decide) : wpAny (model X.prog X.w) X.A (eval (.Name x pos) X.env) Q E s := by
  obtain ⟨mb, h1, h2⟩ := I.mod.blt
  exact Calls.Name_function_global I.ok.kind hg (Calls.loadGlobal_builtin (by rw [I.ok.glob]; exact I.mod.glob.keeps I.bk) hm (by rw [I.ok.blt]; exact h1.keeps I.bk) ((h2 x hn).trans hv) h) hd
theorem pe_glob {x : Str} {v : V} {u : Value} {pos : Pos} (hg : Gl X x) (hm : X.mg x = some u) (r : RelV v u) (hd : (x == ("__debug__" : Str)) = false := by decide) : PE X (.Name x pos) (tC v) :=
  fun _ _ _ H _ I h => ld_glob I hg hm ⟨v, H, I, r, h⟩ hd
def t2I (ta tb : TE) (k : Int → Int → Hp → Prop) : St → Hp → Prop := fun σ H => ta σ H fun x H1 => tb σ H1 fun y H2 => ∃ i j, x = .int i ∧ y = .int j ∧ k i j H2
def tAdd (ta tb : TE) : TE := fun σ H Q => t2I ta tb (fun i j H2 => Q (.int (i + j)) H2) σ H
def tSub (ta tb : TE) : TE := fun σ H Q => t2I ta tb (fun i j H2 => Q (.int (i - j)) H2) σ H
def tMul (ta tb : TE) : TE := fun σ H Q => t2I ta tb (fun i j H2 => (-(2 ^ 64) < i ∧ i < 2 ^ 64) ∧ Q (.int (i * j)) H2) σ H
variable {a b : Expr} {ta tb : TE} {pos : Pos}
def PC (X : Cx) (op : CmpOp) (a b : Expr) (t : TE) : Prop :=
  ∀ (pins : List (Addr × Obj)) (s : Shared) (σ : St) (H : Hp) (Q : VK), Inv X pins σ H s → t σ H Q →
    wpAny (model X.prog X.w) X.A (eval a X.env) (fun v s₁ => wpAny (model X.prog X.w) X.A (eval b X.env) (fun u s₂ => wpAny (model X.prog X.w) X.A (compareOp op v u) (EP X pins σ Q) X.xe s₂) X.xe s₁) X.xe s
def tCmp (p : Int → Int → Bool) (ta tb : TE) : TE := fun σ H Q => t2I ta tb (fun i j H2 => Q (.bl (p i j)) H2) σ H
abbrev tLt : TE → TE → TE := tCmp fun i j => decide (i < j)
abbrev tLe : TE → TE → TE := tCmp fun i j => decide (i ≤ j)
abbrev tGt : TE → TE → TE := tCmp fun i j => decide (j < i)
abbrev tGe : TE → TE → TE := tCmp fun i j => decide (j ≤ i)
abbrev tEqI : TE → TE → TE := tCmp fun i j => decide (i = j)
abbrev tNeI : TE → TE → TE := tCmp fun i j => !decide (i = j)
def tIsN (ta : TE) : TE := fun σ H Q => ta σ H fun x H1 => Q (.bl (decide (x = .non))) H1
def tNotN (ta : TE) : TE := fun σ H Q => ta σ H fun x H1 => Q (.bl (!decide (x = .non))) H1
def tB (t : TE) : TT := fun σ H Q => t σ H fun x H1 => ∃ c, x = .bl c ∧ Q c H1
theorem pt_val {e : Expr} {t : TE} (h : PE X e t) (he : ∀ whole, isTrue e X.env whole = (do let v ← whole; standAt e.pos; holding [v] (truthy v)) := by intro _; rfl) : PT X e (tB t) := by
  intro pins s σ H Q I hw
  refine isTrue_plain (thn (h pins s σ H _ I hw) fun v s1 ⟨x, H1, I1, r1, q1⟩ => ?_) (he _)
  obtain ⟨d, rfl, q⟩ := q1
  cases r1
  exact wpAny_truthy_bool ⟨H1, I1, q⟩

variable {tA tB' : TT} {rest : List Expr}
def tAnd (t u : TT) : TT := fun σ H Q => t σ H fun c H1 => if c = true then u σ H1 Q else Q false H1
def tOr (t u : TT) : TT := fun σ H Q => t σ H fun c H1 => if c = true then Q true H1 else u σ H1 Q
def tNot (t : TT) : TT := fun σ H Q => t σ H fun c H1 => Q (!c) H1
theorem pw_and1 (ha : PT X a tA) : PW X (.BoolOp .And [a] pos) tA := by
  intro wh pins s σ H Q I h
  refine isTrue_and (thn (ha pins s σ H Q I h) fun c s1 e => ?_)
  cases c with
  | true => exact isTrue_and_nil e
  | false => exact e
theorem pw_and (ha : PT X a tA) (hb : PW X (.BoolOp .And (b :: rest) pos) tB') : PW X (.BoolOp .And (a :: b :: rest) pos) (tAnd tA tB') := by
  intro wh pins s σ H Q I h
  refine isTrue_and (thn (ha pins s σ H _ I h) fun c s1 ⟨H1, I1, q1⟩ => ?_)
  cases c with
  | true => exact hb wh pins s1 σ H1 Q I1 q1
  | false => exact ⟨H1, I1, q1⟩
theorem pt_not (ha : PT X a tA) : PT X (.UnaryOp .Not a pos) (tNot tA) := by
  intro pins s σ H Q I h
  exact isTrue_not (ha pins s σ H (fun c H1 => Q (!c) H1) I h)
def tAndV (ta tb : TE) : TE := fun σ H Q => ta σ H fun x H1 => ∃ c, x = .bl c ∧ if c = true then tb σ H1 Q else Q (.bl false) H1
def tOrV (ta tb : TE) : TE := fun σ H Q => ta σ H fun x H1 => ∃ c, x = .bl c ∧ if c = true then Q (.bl true) H1 else tb σ H1 Q
def tNotV (ta : TE) : TE := fun σ H Q => ta σ H fun x H1 => ∃ c, x = .bl c ∧ Q (.bl (!c)) H1
theorem pe_one {op} {t : TE} (h : PE X a t) : PE X (.BoolOp op [a] pos) t := fun pins s σ H Q I hw => BoolOp_one (h pins s σ H Q I hw)
theorem pe_and (ha : PE X a ta) (hb : PE X (.BoolOp .And (b :: rest) pos) tb) : PE X (.BoolOp .And (a :: b :: rest) pos) (tAndV ta tb) := by
  intro pins s σ H Q I h
  refine BoolOp_and (thn (ha pins s σ H _ I h) fun v s1 ⟨x, H1, I1, r1, q1⟩ => ?_)
  obtain ⟨c, rfl, q1⟩ := q1
  cases r1
  refine wpAny_truthy_bool ?_
  cases c with
  | true => exact hb pins s1 σ H1 Q I1 q1
  | false => exact ⟨.bl false, H1, I1, rfl, q1⟩
theorem pe_or (ha : PE X a ta) (hb : PE X (.BoolOp .Or (b :: rest) pos) tb) : PE X (.BoolOp .Or (a :: b :: rest) pos) (tOrV ta tb) := by
  intro pins s σ H Q I h
  refine BoolOp_or (thn (ha pins s σ H _ I h) fun v s1 ⟨x, H1, I1, r1, q1⟩ => ?_)
  obtain ⟨c, rfl, q1⟩ := q1
  cases r1
  refine wpAny_truthy_bool ?_
  cases c with
  | false => exact hb pins s1 σ H1 Q I1 q1
  | true => exact ⟨.bl true, H1, I1, rfl, q1⟩
def tIf (t : TT) (ta tb : TE) : TE := fun σ H Q => t σ H fun c H1 => if c = true then ta σ H1 Q else tb σ H1 Q
theorem pe_ifExp {c : Expr} (hc : PT X c tA) (ha : PE X a ta) (hb : PE X b tb) : PE X (.IfExp c a b pos) (tIf tA ta tb) := by
  intro pins s σ H Q I h
  refine wpAny_IfExp (thn (hc pins s σ H _ I h) fun d s1 ⟨H1, I1, q1⟩ => ?_)
  cases d with
  | true => exact ha pins s1 σ H1 Q I1 q1
  | false => exact hb pins s1 σ H1 Q I1 q1
end
end L2

namespace L2
open PySem PySem.Spec PyProof.Rows

def SqL (K : PySem.W.Frag) (H : Hp) (a : Addr) (xs : List V) : Prop :=
  Rd H a (.lst xs) ∨
    ∃ (o : Obj) (its : Array Value) (n : Nat), K.lookup a = some o ∧ o.cls = .type "list" ∧ o.dict = none ∧ o.data = .seq its n ∧ its.size ≤ sizeLine ∧ Vals xs its.toList
def SqT (K : PySem.W.Frag) (H : Hp) (a : Addr) (xs : List V) : Prop :=
  Rd H a (.tup xs) ∨
    ∃ (o : Obj) (its : Array Value) (n : Nat), K.lookup a = some o ∧ o.cls = .type "tuple" ∧ o.data = .seq its n ∧ its.size ≤ sizeLine ∧ Vals xs its.toList
def absV : Value → Option V
  | .none => some .non
  | .bool b => some (.bl b)
  | .int i _ => some (.int i)
  | .str x _ => some (.str x)
  | .bytes b _ => some (.byt b)
  | .float b _ => some (.flt b)
  | .ref a => some (.ref a)
  | .type n => some (.ty n)
  | _ => none
theorem RelV.abs {x : V} {u : Value} (r : RelV x u) : absV u = some x := by
  cases x with
  | non => cases r; rfl
  | bl _ => cases r; rfl
  | int _ => obtain ⟨t, rfl⟩ := r; rfl
  | str _ => obtain ⟨t, rfl⟩ := r; rfl
  | byt _ => obtain ⟨t, rfl⟩ := r; rfl
  | flt _ => obtain ⟨t, rfl⟩ := r; rfl
  | ref _ => cases r; rfl
  | ty _ => cases r; rfl
theorem RelV.inj {x y : V} {u : Value} (r : RelV x u) (q : RelV y u) : x = y := Option.some.inj (r.abs.symm.trans q.abs)
theorem Vals.inj : ∀ {xs ys : List V} {us : List Value}, Vals xs us → Vals ys us → xs = ys
  | _, _, _, .nil, .nil => rfl
  | _, _, _, .cons r t, .cons r' t' => by rw [r.inj r', Vals.inj t t']
section
variable {X : Cx} {pins : List (Addr × Obj)} {σ : St} {H : Hp} {s : Shared} {a : Addr} {xs ys : List V}
theorem SqL.of {K : PySem.W.Frag} (h : H a = some (.lst xs)) : SqL K H a xs := .inl (.inl h)
theorem SqT.of {K : PySem.W.Frag} (h : H a = some (.tup xs)) : SqT K H a xs := .inl (.inl h)
theorem Inv.list (I : Inv X pins σ H s) (h : SqL X.K H a xs) : ∃ its : List Value, Vals xs its ∧ PlainL s.heap a its.toArray ∧ xs.length ≤ sizeLine := by
  rcases h with h | ⟨o, its, n, hk, hc, hd, hs, hz, r⟩
  · obtain ⟨z, its, n, r, e⟩ := h.ok I.hok
    exact ⟨its, r, ⟨_, n, e, rfl, rfl, rfl⟩, z⟩
  · refine ⟨its.toList, r, ⟨o, n, I.kIn a o hk, hc, hd, by simpa using hs⟩, ?_⟩
    have e := r.length
    simp only [Array.length_toList] at e
    omega
theorem Inv.tuple (I : Inv X pins σ H s) (h : SqT X.K H a xs) : ∃ its : List Value, Vals xs its ∧ IsTup s.heap a its.toArray ∧ xs.length ≤ sizeLine := by
  rcases h with h | ⟨o, its, n, hk, hc, hs, hz, r⟩
  · obtain ⟨z, its, r, p⟩ := h.ok I.hok
    exact ⟨its, r, p, z⟩
  · refine ⟨its.toList, r, ⟨o, I.kIn a o hk, hc, n, by simpa using hs⟩, ?_⟩
    have e := r.length
    simp only [Array.length_toList] at e
    omega
theorem Inv.list_inj (I : Inv X pins σ H s) (h : SqL X.K H a xs) (h' : SqL X.K H a ys) : xs = ys := by
  obtain ⟨its, r, ⟨o, n, e, _, _, d⟩, _⟩ := I.list h
  obtain ⟨its', r', ⟨o', n', e', _, _, d'⟩, _⟩ := I.list h'
  rw [e] at e'; cases e'
  rw [d] at d'
  injection d' with d1 _
  have : its = its' := by simpa using congrArg Array.toList d1
  subst this
  exact r.inj r'
end

abbrev Cx.wish (X : Cx) (E : Value → Shared → Prop) : Cx := { X with xe := E }
abbrev Cx.nox (X : Cx) : Cx := X.wish fun _ _ => False
theorem Cx.Ok.wish {X : Cx} (ok : X.Ok) (E : Value → Shared → Prop) : (X.wish E).Ok :=
  ⟨ok.mod, ok.kind, ok.glob, ok.blt, ok.above, ok.inj, ok.has, ok.cab, ok.hd, ok.frames, ok.stk, ok.exf, ok.bs, ok.bsz, ok.noex, ok.exfs, ok.funs, ok.frf⟩
theorem Cx.Ok.unwish {X : Cx} {E : Value → Shared → Prop} (ok : (X.wish E).Ok) : X.Ok :=
  ⟨ok.mod, ok.kind, ok.glob, ok.blt, ok.above, ok.inj, ok.has, ok.cab, ok.hd, ok.frames, ok.stk, ok.exf, ok.bs, ok.bsz, ok.noex, ok.exfs, ok.funs, ok.frf⟩
section
variable {X : Cx} {pins : List (Addr × Obj)} {σ : St} {H : Hp} {s : Shared} {E : Value → Shared → Prop}
theorem Inv.wish (I : Inv X pins σ H s) (E : Value → Shared → Prop) : Inv (X.wish E) pins σ H s := ⟨I.ok.wish E, I.os, I.bare, I.base, I.loc, I.cell, I.free, I.freeC, I.pin, I.hok, I.len⟩
theorem Inv.unwish (I : Inv (X.wish E) pins σ H s) : Inv X pins σ H s := ⟨I.ok.unwish, I.os, I.bare, I.base, I.loc, I.cell, I.free, I.freeC, I.pin, I.hok, I.len⟩
theorem SP.unwish {D : Ends} {f : Flow} {s' : Shared} (h : SP (X.wish E) pins D f s') : SP X pins D f s' := by
  cases f with
  | next => obtain ⟨σ', H', I, q⟩ := h; exact ⟨σ', H', I.unwish, q⟩
  | brk => obtain ⟨σ', H', I, q⟩ := h; exact ⟨σ', H', I.unwish, q⟩
  | cont => obtain ⟨σ', H', I, q⟩ := h; exact ⟨σ', H', I.unwish, q⟩
  | ret u => obtain ⟨v, σ', H', I, r, q⟩ := h; exact ⟨v, σ', H', I.unwish, r, q⟩
end

section
variable {X : Cx} {st : Stmt} {rest : List Stmt} {t u : TS} {e : Expr} {te : TE} {pos : Pos}
def tNext : TS := fun D σ H => D.nx σ H
def tSeq (t u : TS) : TS := fun D σ H => t { D with nx := u D } σ H
theorem pss_nil : PSs X [] tNext := fun _ _ σ H _ I h => wpAny_execs_nil ⟨σ, H, I, h⟩
theorem pss_cons (h1 : PS X st t) (h2 : PSs X rest u) : PSs X (st :: rest) (tSeq t u) := by
  intro pins s σ H D I h
  refine wpAny_execs_cons (thn (h1 pins s σ H { D with nx := u D } I h) fun f s1 q => ?_)
  cases f with
  | next =>
    obtain ⟨σ', H', I', q⟩ := q
    exact h2 pins s1 σ' H' D I' q
  | ret v => exact q
  | brk => exact q
  | cont => exact q
theorem pss_one (h1 : PS X st t) : PSs X [st] t := by
  intro pins s σ H D I h
  refine wpAny_execs_cons (thn (h1 pins s σ H D I h) fun f s1 q => ?_)
  cases f with
  | next => exact wpAny_execs_nil q
  | ret v => exact q
  | brk => exact q
  | cont => exact q
def tBreak : TS := fun D σ H => D.bk σ H
def tCont : TS := fun D σ H => D.ct σ H
theorem ps_pass : PS X (.Pass pos) tNext := fun _ _ σ H _ I h => wpAny_Pass ⟨σ, H, I, h⟩
theorem Inv.quiet {pins : List (Addr × Obj)} {σ : St} {H : Hp} {s : Shared} (I : Inv X pins σ H s) : interactive X.env = false := by simp [interactive, I.ok.kind]
def tDrop (te : TE) : TS := fun D σ H => te σ H fun _ H1 => D.nx σ H1
theorem ps_expr (he : PE X e te) (hs : swapsWith e none pos.line X.env = pure false := by rfl) : PS X (.Expr e pos) (tDrop te) := by
  intro pins s σ H D I h
  exact wpAny_Expr_any (thn (he pins s σ H _ I h) fun v s1 ⟨x, H1, I1, r1, q1⟩ => ⟨σ, H1, I1, q1⟩) I.quiet hs
def tRet (te : TE) : TS := fun D σ H => te σ H D.rt
theorem ps_ret (he : PE X e te) : PS X (.Return (some e) pos) (tRet te) := by
  intro pins s σ H D I h
  exact wpAny_Return_some (thn (he pins s σ H _ I h) fun v s1 ⟨x, H1, I1, r1, q1⟩ => ⟨x, σ, H1, I1, r1, q1⟩)
def tRetN : TS := fun D _ H => D.rt .non H
theorem ps_retN : PS X (.Return none pos) tRetN := fun _ _ σ H _ I h => wpAny_Return_none ⟨.non, σ, H, I, rfl, h⟩
def tIfS (c : TT) (t u : TS) : TS := fun D σ H => c σ H fun b H1 => if b = true then t D σ H1 else u D σ H1
theorem ps_if {c : Expr} {a b : List Stmt} {tc : TT} (hc : PT X c tc) (ha : PSs X a t) (hb : PSs X b u) : PS X (.If c a b pos) (tIfS tc t u) := by
  intro pins s σ H D I h
  refine wpAny_If (thn (hc pins s σ H _ I h) fun d s1 ⟨H1, I1, q1⟩ => ?_)
  cases d with
  | true => exact ha pins s1 σ H1 D I1 q1
  | false => exact hb pins s1 σ H1 D I1 q1
def tNever : TS := fun _ _ _ => False
theorem ps_never : PS X st tNever := fun _ _ _ _ _ _ h => h.elim
end

abbrev TG := V → St → Hp → (St → Hp → Prop) → Prop
abbrev TGs := List V → St → Hp → (St → Hp → Prop) → Prop
def PG (X : Cx) (target : Expr) (t : TG) : Prop :=
  ∀ (pins : List (Addr × Obj)) (s : Shared) (σ : St) (H : Hp) (v : V) (u : Value) (Q : St → Hp → Prop), Inv X pins σ H s → RelV v u → t v σ H Q →
    wpAny (model X.prog X.w) X.A (assign target X.env u) (fun _ s' => ∃ σ' H', Inv X pins σ' H' s' ∧ Q σ' H') X.xe s
def PGs (X : Cx) (ts : List Expr) (t : TGs) : Prop :=
  ∀ (pins : List (Addr × Obj)) (s : Shared) (σ : St) (H : Hp) (vs : List V) (us : List Value) (Q : St → Hp → Prop), Inv X pins σ H s → Vals vs us → t vs σ H Q →
    wpAny (model X.prog X.w) X.A (assignInOrder ((assignEach ts X.env).map (·.2)) us) (fun _ s' => ∃ σ' H', Inv X pins σ' H' s' ∧ Q σ' H') X.xe s
abbrev TSet := V → V → V → Hp → (Hp → Prop) → Prop
def PSet (X : Cx) (t : TSet) : Prop :=
  ∀ (pins : List (Addr × Obj)) (s : Shared) (σ : St) (H : Hp) (o i v : V) (ov iv u : Value) (Q : Hp → Prop), Inv X pins σ H s → RelV o ov → RelV i iv → RelV v u → t o i v H Q →
    wpAny (model X.prog X.w) X.A (setItem ov iv u) (fun _ s' => ∃ H', Inv X pins σ H' s' ∧ Q H') X.xe s
abbrev TIp := V → V → Hp → VK → Prop
def PIp (X : Cx) (op : Operator) (t : TIp) : Prop :=
  ∀ (pins : List (Addr × Obj)) (s : Shared) (σ : St) (H : Hp) (x y : V) (v u : Value) (Q : VK), Inv X pins σ H s → RelV x v → RelV y u → t x y H Q →
    wpAny (model X.prog X.w) X.A (inplaceOp op v u) (EP X pins σ Q) X.xe s
section
variable {X : Cx} {pos : Pos}
def gName (i : Nat) : TG := fun v σ H Q => Q (σ.set i (some v)) H
theorem pg_name {i : Nat} {x : Str} (hN : X.N.Nodup) (hi : X.N[i]? = some x) (hx : Loc X.env.scope x) (hf : X.fn x = true ∨ X.env.scope.names.lookup x = some .local := by first | exact .inl rfl | exact .inr rfl | assumption) : PG X (.Name x pos) (gName i) := by
  intro pins s σ H v u Q I r h
  exact wpAny_assign_Name (store_ok I hN hi hx r (fun s' I' => ⟨_, H, I', h⟩) hf)
def gNil : TGs := fun vs σ H Q => vs = [] ∧ Q σ H
def gCons (t : TG) (u : TGs) : TGs := fun vs σ H Q => ∃ v r, vs = v :: r ∧ t v σ H fun σ' H' => u r σ' H' Q
theorem pgs_nil : PGs X [] gNil := by
  intro pins s σ H vs us Q I r h
  obtain ⟨e, h⟩ := h
  subst e
  cases r
  exact assignInOrder_nil ⟨σ, H, I, h⟩
theorem pgs_cons {e : Expr} {es : List Expr} {t : TG} {u : TGs} (h1 : PG X e t) (h2 : PGs X es u)
    (hs : (assignEach (e :: es) X.env).map (·.2) = assign e X.env :: (assignEach es X.env).map (·.2) := by rfl) : PGs X (e :: es) (gCons t u) := by
  intro pins s σ H vs us Q I r h
  obtain ⟨v, vr, e1, h⟩ := h
  subst e1
  cases r with
  | cons r rr =>
    rw [hs]
    refine assignInOrder_cons (thn (h1 pins s σ H _ _ _ I r h) fun _ s1 ⟨σ1, H1, I1, q1⟩ => ?_)
    exact h2 pins s1 σ1 H1 _ _ Q I1 rr q1
def gTup (K : PySem.W.Frag) (n : Nat) (t : TGs) : TG := fun v σ H Q => ∃ a xs, v = .ref a ∧ SqT K H a xs ∧ xs.length = n ∧ t xs σ H Q
theorem pg_tup {es : List Expr} {k : Nat} {t : TGs} {n : Nat} (hc : X.calm = true) (h : PGs X es t)
    (hn : (assignEach es X.env).length = n := by rfl) (hst : (assignEach es X.env).findIdx? (·.1) = none := by rfl) : PG X (.Tuple es k pos) (gTup X.K n t) := by
  intro pins s σ H v u Q I r hw
  obtain ⟨a, xs, e1, hq, hl, hw⟩ := hw
  subst e1
  cases r
  obtain ⟨its, rv, ht, hz⟩ := I.tuple hq
  refine assign_Tuple_tuple (I.ok.hd hc) ht (by simp [hn, ← hl, rv.length]) hst fun h' hx => ?_
  have I1 : Inv X pins σ H { s with heap := h' } := I.kept (t' := s.toks) fun b o e => hx b o (Nat.ne_of_lt (Heap.lt_size e)) e
  exact h pins _ σ H xs _ Q I1 (by simpa using rv) hw
def gSub (to ti : TE) (t : TSet) : TG := fun v σ H Q => to σ H fun o H1 => ti σ H1 fun i H2 => t o i v H2 fun H3 => Q σ H3
theorem pg_sub {o i : Expr} {to ti : TE} {t : TSet} (ho : PE X o to) (hi : PE X i ti) (hs : PSet X t)
    (ha : ∀ v, assign (.Subscript o i pos) X.env v = (do
      let ov ← holding [v] (eval o X.env)
      let iv ← holding [v, ov] (eval i X.env)
      standAt pos
      holding [v, ov, iv] (setItem ov iv v)
      release [v, ov, iv] []) := by intro _; rfl) : PG X (.Subscript o i pos) (gSub to ti t) := by
  intro pins s σ H v u Q I r h
  rw [ha]
  refine wpAny_bind (wpAny_holding (thn (ho pins s σ H _ I h) fun ov s1 ⟨x, H1, I1, r1, q1⟩ => ?_))
  refine wpAny_bind (wpAny_holding (thn (hi pins s1 σ H1 _ I1 q1) fun iv s2 ⟨y, H2, I2, r2, q2⟩ => ?_))
  refine wpAny_bind (wpAny_standAt (wpAny_bind (wpAny_holding (thn (hs pins s2 σ H2 x y v ov iv u _ I2 r1 r2 r q2) fun _ s3 ⟨H3, I3, q3⟩ => ?_))))
  exact wpAny_release ⟨σ, H3, I3, q3⟩
def tAsg (te : TE) (g : TG) : TS := fun D σ H => te σ H fun x H1 => g x σ H1 D.nx
theorem ps_asg {tg e : Expr} {te : TE} {g : TG} (he : PE X e te) (hg : PG X tg g) (hs : swapsWithSole [tg] e pos.line X.env = pure false := by rfl) (hw : swappedStores [tg] e X.env = pure none := by rfl)
    (h1 : (assignEach [tg] X.env).map (·.2) = [assign tg X.env] := by rfl) : PS X (.Assign [tg] e pos) (tAsg te g) := by
  intro pins s σ H D I h
  refine wpAny_Assign_stores (thn (he pins s σ H _ I h) fun v s1 ⟨x, H1, I1, r1, q1⟩ => ?_) hs hw
  rw [h1]
  exact thn (hg pins s1 σ H1 x v _ I1 r1 q1) fun _ s2 q => q
theorem ps_set {i : Nat} {x : Str} {e : Expr} {te : TE} {pos' : Pos} (hN : X.N.Nodup) (hi : X.N[i]? = some x) (hx : Loc X.env.scope x) (he : PE X e te) (hs : swapsWith e (some (.Name x pos')) pos.line X.env = pure false := by rfl) (hf : X.fn x = true ∨ X.env.scope.names.lookup x = some .local := by first | exact .inl rfl | exact .inr rfl | assumption) :
    PS X (.Assign [.Name x pos'] e pos) (tAsg te (gName i)) := by
  intro pins s σ H D I h
  refine wpAny_Assign_Name (thn (he pins s σ H _ I h) fun v s1 ⟨y, H1, I1, r1, q1⟩ => ?_) hs
  exact store_ok I1 hN hi hx r1 (fun s2 I2 => ⟨_, H1, I2, q1⟩) hf
def tPar (i j : Nat) (ta : TA) : TS := fun D σ H => ta σ H fun vs H1 => ∃ v w, vs = [v, w] ∧ D.nx ((σ.set i (some v)).set j (some w)) H1
def tAug (i : Nat) (te : TE) (ti : TIp) : TS := fun D σ H => ∃ x, σ[i]? = some (some x) ∧ te σ H fun y H1 => ti x y H1 fun z H2 => D.nx (σ.set i (some z)) H2
theorem ps_aug {i : Nat} {x : Str} {e : Expr} {te : TE} {op : Operator} {ti : TIp} {pos' : Pos} (hN : X.N.Nodup) (hi : X.N[i]? = some x) (hx : Loc X.env.scope x) (he : PE X e te) (ho : PIp X op ti) (hf : X.fn x = true ∨ X.env.scope.names.lookup x = some .local := by first | exact .inl rfl | exact .inr rfl | assumption) :
    PS X (.AugAssign (.Name x pos') op e pos) (tAug i te ti) := by
  intro pins s σ H D I h
  obtain ⟨v, e1, h⟩ := h
  obtain ⟨m, hn, hl⟩ := I.loc
  have vis : Vis X.env.scope x := by rcases hx with k | k; exact .inl k; exact .inr (.inl k)
  obtain ⟨u, r, l⟩ := hl i x v hi e1 vis
  refine wpAny_AugAssign_Name ?_
  have go : wpAny (model X.prog X.w) X.A (eval e X.env) (fun w s₂ => wpAny (model X.prog X.w) X.A (inplaceOp op u w) (fun r s₃ => wpAny (model X.prog X.w) X.A (storeName X.env x r) (fun _ => SP X pins D .next) X.xe s₃) X.xe s₂) X.xe s := by
    refine thn (he pins s σ H _ I h) fun w s1 ⟨y, H1, I1, r1, q1⟩ => ?_
    refine thn (ho pins s1 σ H1 v y u w _ I1 r r1 q1) fun z s2 ⟨zv, H2, I2, r2, q2⟩ => ?_
    exact store_ok I2 hN hi hx r2 (fun s3 I3 => ⟨_, H2, I3, q2⟩) hf
  rcases l with ⟨hk, hm⟩ | ⟨hk, c, hc, hcell⟩
  · exact wpAny_loadName_local I.ok.kind hk hn hm go
  · rcases hk with hk | hk
    · exact wpAny_loadName_cell I.ok.kind hk hc hcell go
    · rcases hx with k | k
      · have : X.env.scope.names.lookup x = some .free := hk
        rw [k] at this; cases this
      · have : X.env.scope.names.lookup x = some .free := hk
        rw [k] at this; cases this
def tAugS (to ti te : TE) (tget : V → V → Hp → VK → Prop) (tip : TIp) (tset : TSet) : TS := fun D σ H => to σ H fun o H1 => ti σ H1 fun i H2 => tget o i H2 fun x H3 => te σ H3 fun y H4 => tip x y H4 fun z H5 => tset o i z H5 fun H6 => D.nx σ H6
def PGet (X : Cx) (t : V → V → Hp → VK → Prop) : Prop :=
  ∀ (pins : List (Addr × Obj)) (s : Shared) (σ : St) (H : Hp) (o i : V) (ov iv : Value) (Q : VK), Inv X pins σ H s → RelV o ov → RelV i iv → t o i H Q →
    wpAny (model X.prog X.w) X.A (getItem ov iv) (EP X pins σ Q) X.xe s
def ipI (f : Int → Int → Int) : TIp := fun x y H Q => ∃ i j, x = .int i ∧ y = .int j ∧ Q (.int (f i j)) H
end

section
variable {X : Cx} {pos : Pos}
def tWhile (c : TT) (tb : TS) : TS := fun D σ H => ∃ W : Nat → St → Hp → Prop, (∃ m, W m σ H) ∧ ∀ m σ H, W m σ H →
  c σ H fun b H1 => if b = true then ∃ N : St → Hp → Prop, (∀ σ' H', N σ' H' → ∃ m', m' < m ∧ W m' σ' H') ∧ tb { D with nx := N, ct := N, bk := D.nx } σ H1 else D.nx σ H1
theorem ps_while {c : Expr} {body : List Stmt} {tc : TT} {tb : TS} (hp : PassesOwn (model X.prog X.w) X.A X.env X.xe) (hc : PT X c tc) (hb : PSs X body tb) : PS X (.While c body [] pos) (tWhile tc tb) := by
  intro pins s σ H D I h
  obtain ⟨W, ⟨m0, w0⟩, turn⟩ := h
  refine wpAny_While (codeAny_whileLoop (fun n s' => ∃ σ' H', Inv X pins σ' H' s' ∧ W n σ' H') ?_ m0 ⟨σ, H, I, w0⟩)
  rintro n s1 ⟨σ1, H1, I1, w1⟩
  refine wpAny_passesOwn hp (thn (hc pins s1 σ1 H1 _ I1 (turn n σ1 H1 w1)) fun b s2 ⟨H2, I2, q2⟩ => ?_)
  cases b with
  | true =>
    obtain ⟨N, hN, q2⟩ := q2
    rw [if_pos rfl]
    refine wpAny_passesOwn hp (thn (hb pins s2 σ1 H2 _ I2 q2) fun f s3 q3 => ?_)
    cases f with
    | next =>
      obtain ⟨σ3, H3, I3, n3⟩ := q3
      obtain ⟨m', hm, w3⟩ := hN σ3 H3 n3
      exact ⟨m', hm, σ3, H3, I3, w3⟩
    | cont =>
      obtain ⟨σ3, H3, I3, n3⟩ := q3
      obtain ⟨m', hm, w3⟩ := hN σ3 H3 n3
      exact ⟨m', hm, σ3, H3, I3, w3⟩
    | brk => exact q3
    | ret v => exact q3
  | false =>
    rw [if_neg Bool.false_ne_true]
    exact wpAny_execs_nil ⟨σ1, H2, I2, q2⟩
end

structure It where
  go : Nat → Hp → Prop
  yld : Nat → Hp → V → Hp → Prop
  stop : Nat → Hp → Prop
def FpOk (X : Cx) (pins : List (Addr × Obj)) (H : Hp) (b : Addr) : Prop :=
  H b = none ∧ b ≠ X.env.locals ∧ b ∉ X.fs ∧ (b ∈ X.ex ∨ X.s_0.heap.objs.size ≤ b) ∧ (∀ x c, X.env.cells.lookup x = some c → c ≠ b) ∧ ∀ p ∈ X.pn ++ pins, p.1 ≠ b
theorem Inv.fpOk {X : Cx} {pins : List (Addr × Obj)} {σ : St} {H H' : Hp} {s : Shared} {b : Addr} (I : Inv X pins σ H s) (hb : s.heap.objs.size ≤ b) (hn : H' b = none) : FpOk X pins H' b := by
  refine ⟨hn, Nat.ne_of_gt (Nat.lt_of_lt_of_le I.lt hb), I.nofs hb, .inr (Nat.le_trans I.sz hb), fun x c e z => ?_, fun p hp z => ?_⟩
  · obtain ⟨v, q⟩ := I.cell x c e
    exact absurd (Nat.lt_of_lt_of_le q.lt (by rw [z]; exact hb)) (Nat.lt_irrefl _)
  · exact absurd (Nat.lt_of_lt_of_le (Heap.lt_size (I.pin p hp).1) (by rw [z]; exact hb)) (Nat.lt_irrefl _)
structure Turn (P : Program) (w : World) (K : PySem.W.Frag) (tg : Expr) (J : It) (fp : List Addr) (it : Addr) (tn : Nat → Heap → Prop) : Prop where
  mem : it ∈ fp
  obj : ∀ i h, tn i h → ∀ b ∈ fp, ∃ o, h.get? b = some o ∧ ∀ v, o.data ≠ .cell v
  keep : ∀ i h h', tn i h → (∀ b ∈ fp, ∀ o, h.get? b = some o → h'.get? b = some o) → tn i h'
  item : ∀ (X : Cx), X.prog = P → X.w = w → X.K = K → X.calm = true → ∀ (i : Nat) (pins : List (Addr × Obj)) (s : Shared) (σ : St) (H : Hp) (E : Value → Shared → Prop), Inv X pins σ H s → (∀ b ∈ fp, FpOk X pins H b) → tn i s.heap → J.go i H →
    wpAny (model P w) X.A (pyNext (.ref it)) (fun r s1 => ∃ u, r = some u ∧
      wpAny (model P w) X.A (letOwnedTupleGo tg (.ref it) u) (fun _ s2 => ∃ x H', Inv X pins σ H' s2 ∧ RelV x u ∧ J.yld i H x H' ∧ tn (i + 1) s2.heap ∧ ∀ b ∈ fp, H' b = none) E s1) E s
  done : ∀ (X : Cx), X.prog = P → X.w = w → X.K = K → X.calm = true → ∀ (i : Nat) (pins : List (Addr × Obj)) (s : Shared) (σ : St) (H : Hp) (E : Value → Shared → Prop), Inv X pins σ H s → (∀ b ∈ fp, FpOk X pins H b) → tn i s.heap → J.stop i H →
    wpAny (model P w) X.A (pyNext (.ref it)) (fun r s1 => r = none ∧ Inv X pins σ H s1) E s
  self : ∀ (A : Around) (i : Nat) (s : Shared) (Q : Value → Shared → Prop) (E : Value → Shared → Prop), tn i s.heap → Q (.ref it) s → wpAny (model P w) A (pyIter (.ref it)) Q E s
abbrev TI := St → Hp → (It → Hp → Prop) → Prop
def PIE (X : Cx) (pins : List (Addr × Obj)) (σ : St) (tg : Expr) (R : It → Hp → Prop) (itv : Value) (s2 : Shared) : Prop :=
  ∃ (it : Addr) (fp : List Addr) (tn : Nat → Heap → Prop) (J : It) (H' : Hp), itv = .ref it ∧ Inv X pins σ H' s2 ∧ Turn X.prog X.w X.K tg J fp it tn ∧ tn 0 s2.heap ∧ (∀ b ∈ fp, FpOk X pins H' b) ∧ R J H'
def PI (X : Cx) (tg iter : Expr) (wi : TI) : Prop :=
  ∀ (pins : List (Addr × Obj)) (s : Shared) (σ : St) (H : Hp) (R : It → Hp → Prop), Inv X pins σ H s → wi σ H R →
    wpAny (model X.prog X.w) X.A (eval iter X.env) (fun v s1 => wpAny (model X.prog X.w) X.A (pyIter v) (PIE X pins σ tg R) X.xe s1) X.xe s

theorem go_of {M : Model} {A : Around} {E : Value → Shared → Prop} {s : Shared} {tg : Expr} {it : Addr} {u : Value} {o : Obj} {n : String} {vs : Array Value} {Q : Unit → Shared → Prop} (ho : s.heap.get? it = some o) (hc : o.cls = .type n) (hd : o.data = .fields vs)
    (hn : ["enumerate", "zip", "dict_itemiterator", "dict_reverseitemiterator", "odict_iterator", "itertools.zip_longest", "itertools.pairwise"].contains n = false) (hQ : Q () s) : wpAny M A (letOwnedTupleGo tg (.ref it) u) Q E s := by
  unfold letOwnedTupleGo
  cases tg <;> first
    | exact wpAny_pure hQ
    | (cases u <;> first
        | exact wpAny_pure hQ
        | (refine wpAny_bind (wpAny_load ho ?_)
           rw [hc, hd]
           show wpAny M A (if (["enumerate", "zip", "dict_itemiterator", "dict_reverseitemiterator", "odict_iterator", "itertools.zip_longest", "itertools.pairwise"].contains n && vs[0]? == some (rawInt _)) = true then _ else _) Q E s
           rw [if_neg (by intro h; rw [hn, Bool.false_and] at h; cases h)]
           exact wpAny_pure hQ))

def Itl (K : PySem.W.Frag) (a : Addr) : It :=
  ⟨fun i H => ∃ xs x, SqL K H a xs ∧ xs[i]? = some x, fun i H x H' => H' = H ∧ ∀ xs, SqL K H a xs → xs[i]? = some x, fun i H => ∃ xs, SqL K H a xs ∧ xs.length ≤ i⟩
def Itt (K : PySem.W.Frag) (a : Addr) : It :=
  ⟨fun i H => ∃ xs x, SqT K H a xs ∧ xs[i]? = some x, fun i H x H' => H' = H ∧ ∀ xs, SqT K H a xs → xs[i]? = some x, fun i H => ∃ xs, SqT K H a xs ∧ xs.length ≤ i⟩
def Itr (lo : Int) (n : Nat) : It := ⟨fun i _ => i < n, fun i H x H' => H' = H ∧ x = .int (lo + i), fun i _ => n ≤ i⟩
theorem turn_list {P : Program} {w : World} {K : PySem.W.Frag} {tg : Expr} (a it : Addr) : Turn P w K tg (Itl K a) [it] it (fun i h => h.IsListIter it a i) where
  mem := by simp
  obj := fun i h st b hb => by
    have e : b = it := by simpa using hb
    subst e
    obtain ⟨o, e, c, d⟩ := st
    exact ⟨o, e, fun v z => by rw [d] at z; cases z⟩
  keep := fun i h h' st k => st.at fun o e => k it (by simp) o e
  item := by
    intro X hP hw hK hc i pins s σ H E I hf st hg
    subst hP hw hK
    obtain ⟨xs, x, hq, hx⟩ := hg
    obtain ⟨its, rv, p, hz⟩ := I.list hq
    obtain ⟨u, hu, ru⟩ := rv.get hx
    obtain ⟨f0, f1, f2, f3, f4, f5⟩ := hf it (by simp)
    refine wpAny_pyNext_list_item st p.isList (x := u) (by simpa using hu) fun h' st' sb => ?_
    have I1 : Inv X pins σ H { s with heap := h' } := I.turned (t' := s.toks) (fun b o hb e => (sb.2 b hb).trans e) f0 f1 f3 f4 f5
    obtain ⟨o, e, c, d⟩ := id st'
    exact ⟨u, rfl, go_of (s := { s with heap := h' }) e c d (by decide) ⟨x, H, I1, ru, ⟨rfl, fun ys hy => by rw [I.list_inj hy hq]; exact hx⟩, st', fun b hb => (hf b hb).1⟩⟩
  done := by
    intro X hP hw hK hc i pins s σ H E I hf st hg
    subst hP hw hK
    obtain ⟨xs, hq, hx⟩ := hg
    obtain ⟨its, rv, p, hz⟩ := I.list hq
    obtain ⟨f0, f1, f2, f3, f4, f5⟩ := hf it (by simp)
    have hl := rv.length
    exact wpAny_pyNext_list_end (I.ok.hd hc) st p.isList (by simp; omega) fun h' eb => ⟨rfl, I.turned (t' := s.toks) (fun b o hb e => eb b o hb e) f0 f1 f3 f4 f5⟩
  self := fun _ _ _ _ _ st h => wpAny_pyIter_listiter st h
end L2

namespace L2
open PySem PySem.Spec PyProof.Rows
section
variable {X : Cx} {tg : Expr}
def iList (K : PySem.W.Frag) (tl : TE) : TI := fun σ H R => tl σ H fun x H1 => ∃ a, x = .ref a ∧ (∃ xs, SqL K H1 a xs) ∧ R (Itl K a) H1
def iTup (K : PySem.W.Frag) (tl : TE) : TI := fun σ H R => tl σ H fun x H1 => ∃ a, x = .ref a ∧ (∃ xs, SqT K H1 a xs) ∧ R (Itt K a) H1
theorem pi_list {l : Expr} {tl : TE} (hl : PE X l tl) : PI X tg l (iList X.K tl) := by
  intro pins s σ H R I h
  refine thn (hl pins s σ H _ I h) fun v s1 ⟨x, H1, I1, r1, q1⟩ => ?_
  obtain ⟨a, e, ⟨xs, hq⟩, q⟩ := q1
  subst e
  cases r1
  obtain ⟨its, rv, p, hz⟩ := I1.list hq
  refine wpAny_pyIter_list p.isList ?_
  refine ⟨s1.heap.objs.size, [s1.heap.objs.size], _, _, H1, rfl, I1.kept (t' := s1.toks) fun b o e => Heap.get?_push_of_some _ e, turn_list a _, ⟨_, Heap.get?_push_size _ rfl, rfl, rfl⟩, fun b hb => ?_, q⟩
  have e : b = s1.heap.objs.size := by simpa using hb
  subst e
  exact I1.fpOk (Nat.le_refl _) (I1.hok.fresh (Nat.le_refl _))
def iRng1 (ta : TA) : TI := fun σ H R => ta σ H fun vs H1 => ∃ j : Int, vs = [.int j] ∧ -(2 ^ 62) ≤ j ∧ j < 2 ^ 62 ∧ R (Itr 0 j.toNat) H1
def iRng2 (ta : TA) : TI := fun σ H R => ta σ H fun vs H1 => ∃ i j : Int, vs = [.int i, .int j] ∧ (-(2 ^ 62) ≤ i ∧ i < 2 ^ 62 ∧ -(2 ^ 62) ≤ j ∧ j < 2 ^ 62) ∧ R (Itr i (j - i).toNat) H1
def tFor (wi : TI) (g : TG) (tb : TS) : TS := fun D σ H => wi σ H fun J H1 => ∃ W : Nat → Nat → St → Hp → Prop, (∃ m, W 0 m σ H1) ∧ ∀ i m σ H, W i m σ H →
  (J.stop i H ∧ D.nx σ H) ∨ (J.go i H ∧ ∃ N : St → Hp → Prop, (∀ σ' H', N σ' H' → ∃ m', m' < m ∧ W (i + 1) m' σ' H') ∧ ∀ x H', J.yld i H x H' → g x σ H' fun σ2 H2 => tb { D with nx := N, ct := N, bk := D.nx } σ2 H2)
def pinsAt (fp : List Addr) (h : Heap) : List (Addr × Obj) := fp.filterMap fun b => (h.get? b).map fun o => (b, o)
theorem mem_pinsAt {fp : List Addr} {h : Heap} {b : Addr} {o : Obj} (hb : b ∈ fp) (e : h.get? b = some o) : (b, o) ∈ pinsAt fp h := List.mem_filterMap.mpr ⟨b, hb, by rw [e]; rfl⟩
theorem of_pinsAt {fp : List Addr} {h : Heap} {p : Addr × Obj} (hp : p ∈ pinsAt fp h) : p.1 ∈ fp ∧ h.get? p.1 = some p.2 := by
  obtain ⟨b, hb, e⟩ := List.mem_filterMap.mp hp
  cases q : h.get? b with
  | none => rw [q] at e; cases e
  | some o =>
    rw [q] at e
    have e' : (b, o) = p := Option.some.inj e
    subst e'
    exact ⟨hb, q⟩
theorem Inv.pinned {pins : List (Addr × Obj)} {σ : St} {H : Hp} {s : Shared} {fp : List Addr} (I : Inv X pins σ H s) (hf : ∀ b ∈ fp, FpOk X pins H b) (ho : ∀ b ∈ fp, ∃ o, s.heap.get? b = some o ∧ ∀ v, o.data ≠ .cell v) : Inv X (pins ++ pinsAt fp s.heap) σ H s :=
  I.pins_of fun p hp => (List.mem_append.mp hp).elim (fun z => I.pin p (List.mem_append_right _ z)) fun z => by
    obtain ⟨hb, e⟩ := of_pinsAt z
    obtain ⟨f0, f1, f2, _⟩ := hf p.1 hb
    obtain ⟨o, e', d⟩ := ho p.1 hb
    rw [e] at e'; cases e'
    exact ⟨e, f0, f1, f2, d⟩
theorem Inv.unpinned {pins pl : List (Addr × Obj)} {σ : St} {H : Hp} {s : Shared} (I : Inv X (pins ++ pl) σ H s) : Inv X pins σ H s := I.pins_of fun p hp => I.pin p (List.mem_append_right _ (List.mem_append_left _ hp))
theorem ps_for {iter : Expr} {body : List Stmt} {wi : TI} {g : TG} {tb : TS} {pos : Pos} (hp : PassesOwn (model X.prog X.w) X.A X.env X.xe) (hc : X.calm = true) (hi : PI X tg iter wi) (hg : PG X tg g) (hb : PSs X body tb)
    (hs : ∀ x, foldedSetIterable iter X.env x = pure x := by intro _; rfl) : PS X (.For tg iter body [] pos) (tFor wi g tb) := by
  intro pins s σ H D I h
  refine wpAny_For (thn (hi pins s σ H _ I h) fun v s1 h1 => thn h1 fun itv s2 h2 => ?_) hs
  obtain ⟨it, fp, tn, J, H2, e, I2, T, st2, f2, W, ⟨m0, w0⟩, turn⟩ := h2
  subst e
  -- what stays true of the iterator's objects through the loop
  have stat : ∀ {H' : Hp}, (∀ b ∈ fp, H' b = none) → ∀ b ∈ fp, FpOk X pins H' b := fun hn b hb => ⟨hn b hb, (f2 b hb).2⟩
  refine codeAny_forLoop_any (fun n s' => ∃ i σ' H', Inv X pins σ' H' s' ∧ tn i s'.heap ∧ (∀ b ∈ fp, H' b = none) ∧ W i n σ' H') ?_ m0 ⟨0, σ, H2, I2, st2, fun b hb => (f2 b hb).1, w0⟩
  rintro n s3 ⟨i, σ3, H3, I3, st3, fr3, w3⟩
  rcases turn i n σ3 H3 w3 with ⟨stop, qn⟩ | ⟨go, N, hN, step⟩
  · refine wpAny_passesOwn hp (thn (T.done X rfl rfl rfl hc i pins s3 σ3 H3 X.xe I3 (stat fr3) st3 stop) fun r s4 ⟨hr, I4⟩ => ?_)
    subst hr
    exact wpAny_execs_nil ⟨σ3, H3, I4, qn⟩
  · refine wpAny_passesOwn hp (thn (T.item X rfl rfl rfl hc i pins s3 σ3 H3 X.xe I3 (stat fr3) st3 go) fun r s4 ⟨u, hr, h4⟩ => ?_)
    subst hr
    refine wpAny_passesOwn hp (thn h4 fun _ s5 ⟨x, H5, I5, r5, y5, st5, fr5⟩ => ?_)
    have I5' := I5.pinned (stat fr5) (T.obj _ _ st5)
    refine wpAny_passesOwn hp (thn (hg _ s5 σ3 H5 x u _ I5' r5 (step x H5 y5)) fun _ s6 ⟨σ6, H6, I6, q6⟩ => ?_)
    refine wpAny_passesOwn hp (thn (hb _ s6 σ6 H6 _ I6 q6) fun f s7 q7 => ?_)
    have again : ∀ {σ7 : St} {H7 : Hp}, Inv X (pins ++ pinsAt fp s5.heap) σ7 H7 s7 → N σ7 H7 → ∃ m, m < n ∧ ∃ i σ' H', Inv X pins σ' H' s7 ∧ tn i s7.heap ∧ (∀ b ∈ fp, H' b = none) ∧ W i m σ' H' := fun {σ7 H7} I7 n7 => by
      obtain ⟨m', hm, w7⟩ := hN σ7 H7 n7
      refine ⟨m', hm, i + 1, σ7, H7, I7.unpinned, T.keep _ _ _ st5 fun b hb o e => (I7.pin (b, o) (List.mem_append_right _ (List.mem_append_right _ (mem_pinsAt hb e)))).1, fun b hb => ?_, w7⟩
      obtain ⟨o, e, d⟩ := T.obj _ _ st5 b hb
      exact (I7.pin (b, o) (List.mem_append_right _ (List.mem_append_right _ (mem_pinsAt hb e)))).2.1
    cases f with
    | next => obtain ⟨σ7, H7, I7, n7⟩ := q7; exact again I7 n7
    | cont => obtain ⟨σ7, H7, I7, n7⟩ := q7; exact again I7 n7
    | brk => obtain ⟨σ7, H7, I7, q7⟩ := q7; exact ⟨σ7, H7, I7.unpinned, q7⟩
    | ret v => obtain ⟨x7, σ7, H7, I7, r7, q7⟩ := q7; exact ⟨x7, σ7, H7, I7.unpinned, r7, q7⟩
end

end L2

namespace L2
open PySem PySem.Spec PyProof.Rows

abbrev R2 := V → V → Hp → VK → Prop
def OpR (X : Cx) (f : Value → Value → Sem Value) (r : R2) : Prop :=
  ∀ (pins : List (Addr × Obj)) (s : Shared) (σ : St) (H : Hp) (x y : V) (v u : Value) (Q : VK), Inv X pins σ H s → RelV x v → RelV y u → r x y H Q →
    wpAny (model X.prog X.w) X.A (f v u) (EP X pins σ Q) X.xe s
def UnR (X : Cx) (f : Value → Sem Value) (r : V → Hp → VK → Prop) : Prop :=
  ∀ (pins : List (Addr × Obj)) (s : Shared) (σ : St) (H : Hp) (x : V) (v : Value) (Q : VK), Inv X pins σ H s → RelV x v → r x H Q →
    wpAny (model X.prog X.w) X.A (f v) (EP X pins σ Q) X.xe s
def CallR (X : Cx) (f : Value) (r : List V → Hp → VK → Prop) : Prop :=
  ∀ (pins : List (Addr × Obj)) (s : Shared) (σ : St) (H : Hp) (xs : List V) (us : List Value) (Q : VK), Inv X pins σ H s → Vals xs us → r xs H Q →
    wpAny (model X.prog X.w) X.A (call f us) (EP X pins σ Q) X.xe s
def TruR (X : Cx) (r : V → Hp → (Bool → Hp → Prop) → Prop) : Prop :=
  ∀ (pins : List (Addr × Obj)) (s : Shared) (σ : St) (H : Hp) (x : V) (v : Value) (Q : Bool → Hp → Prop), Inv X pins σ H s → RelV x v → r x H Q →
    wpAny (model X.prog X.w) X.A (truthy v) (TP X pins σ Q) X.xe s

def tOp (r : R2) (ta tb : TE) : TE := fun σ H Q => ta σ H fun x H1 => tb σ H1 fun y H2 => r x y H2 Q
def tUn (r : V → Hp → VK → Prop) (ta : TE) : TE := fun σ H Q => ta σ H fun x H1 => r x H1 Q
def rI (C : Int → Int → Prop) (g : Int → Int → V) : R2 := fun x y H Q => ∃ i j, x = .int i ∧ y = .int j ∧ C i j ∧ Q (g i j) H
def rI0 (g : Int → Int → V) : R2 := fun x y H Q => ∃ i j, x = .int i ∧ y = .int j ∧ Q (g i j) H
def rU (g : Int → V) : V → Hp → VK → Prop := fun x H Q => ∃ i, x = .int i ∧ Q (g i) H

section
variable {X : Cx} {a b c : Expr} {ta tb tc : TE} {pos : Pos}

theorem binT (ha : PE X a ta) (hb : PE X b tb) {pins : List (Addr × Obj)} {s : Shared} {σ : St} {H : Hp} {R : V → V → Hp → Prop} (I : Inv X pins σ H s)
    (h : ta σ H fun x H1 => tb σ H1 fun y H2 => R x y H2) {Q : Value → Shared → Prop} {f : Value → Value → Sem Value}
    (hf : ∀ v u s2 x y H2, Inv X pins σ H2 s2 → RelV x v → RelV y u → R x y H2 → wpAny (model X.prog X.w) X.A (f v u) Q X.xe s2) :
    wpAny (model X.prog X.w) X.A (eval a X.env) (fun v s₁ => wpAny (model X.prog X.w) X.A (eval b X.env) (fun u s₂ => wpAny (model X.prog X.w) X.A (f v u) Q X.xe s₂) X.xe s₁) X.xe s := by
  refine thn (ha pins s σ H _ I h) fun v s1 ⟨x, H1, I1, r1, q1⟩ => ?_
  refine thn (hb pins s1 σ H1 _ I1 q1) fun u s2 ⟨y, H2, I2, r2, q2⟩ => ?_
  exact hf v u s2 x y H2 I2 r1 r2 q2

theorem pe_op {op : Operator} {r : R2} (ho : OpR X (binaryOp op) r) (ha : PE X a ta) (hb : PE X b tb) : PE X (.BinOp a op b pos) (tOp r ta tb) := by
  intro pins s σ H Q I h
  exact wpAny_BinOp (binT ha hb I h fun v u s2 x y H2 I2 rx ry q => ho pins s2 σ H2 x y v u Q I2 rx ry q)
theorem pe_un {op : UnaryOp} {r : V → Hp → VK → Prop} (ho : UnR X (unaryOp op) r) (ha : PE X a ta) : PE X (.UnaryOp op a pos) (tUn r ta) := by
  intro pins s σ H Q I h
  exact UnaryOp_ (thn (ha pins s σ H _ I h) fun v s1 ⟨x, H1, I1, r1, q1⟩ => ho pins s1 σ H1 x v Q I1 r1 q1)
theorem opI {f : Value → Value → Sem Value} {C : Int → Int → Prop} {g : Int → Int → Int}
    (rule : ∀ (i j : Int) (t u : Tok) (s : Shared) (Q : Value → Shared → Prop) (E : Value → Shared → Prop), C i j → Q (.int (g i j) s.toks) { s with toks := s.toks + 1 } → wpAny (model X.prog X.w) X.A (f (.int i t) (.int j u)) Q E s) :
    OpR X f (rI C fun i j => .int (g i j)) := by
  intro pins s σ H x y v u Q I rx ry h
  obtain ⟨i, j, rfl, rfl, hc, q⟩ := h
  obtain ⟨t, rfl⟩ := rx
  obtain ⟨t', rfl⟩ := ry
  exact rule i j t t' s _ _ hc ⟨.int (g i j), H, I.tok _, ⟨_, rfl⟩, q⟩
theorem opI0 {f : Value → Value → Sem Value} {g : Int → Int → Int}
    (rule : ∀ (i j : Int) (t u : Tok) (s : Shared) (Q : Value → Shared → Prop) (E : Value → Shared → Prop), Q (.int (g i j) s.toks) { s with toks := s.toks + 1 } → wpAny (model X.prog X.w) X.A (f (.int i t) (.int j u)) Q E s) :
    OpR X f (rI0 fun i j => .int (g i j)) := by
  intro pins s σ H x y v u Q I rx ry h
  obtain ⟨i, j, rfl, rfl, q⟩ := h
  obtain ⟨t, rfl⟩ := rx
  obtain ⟨t', rfl⟩ := ry
  exact rule i j t t' s _ _ ⟨.int (g i j), H, I.tok _, ⟨_, rfl⟩, q⟩
theorem opB0 {f : Value → Value → Sem Value} {g : Int → Int → Bool}
    (rule : ∀ (i j : Int) (t u : Tok) (s : Shared) (Q : Value → Shared → Prop) (E : Value → Shared → Prop), Q (.bool (g i j)) s → wpAny (model X.prog X.w) X.A (f (.int i t) (.int j u)) Q E s) :
    OpR X f (rI0 fun i j => .bl (g i j)) := by
  intro pins s σ H x y v u Q I rx ry h
  obtain ⟨i, j, rfl, rfl, q⟩ := h
  obtain ⟨t, rfl⟩ := rx
  obtain ⟨t', rfl⟩ := ry
  exact rule i j t t' s _ _ ⟨.bl (g i j), H, I, rfl, q⟩

def CDiv (i j : Int) : Prop := 0 < j ∧ j < 1073741824
def CDivN (i j : Int) : Prop := j ≠ 0 ∧ j.natAbs < 1073741824
def CPow (i j : Int) : Prop := 0 ≤ j ∧ j ≤ 1000000 ∧ i.natAbs < 2 ^ 64
def CMul (i j : Int) : Prop := (-(2 ^ 64) < i ∧ i < 2 ^ 64) ∨ (-(2 ^ 64) < j ∧ j < 2 ^ 64)
theorem CMul.ok {i j : Int} (h : CMul i j) : IntMulOk i j := by
  rcases h with ⟨h1, h2⟩ | ⟨h1, h2⟩
  · exact .of_left (intBits_le_64 h1 h2)
  · exact .of_right (intBits_le_64 h1 h2)
theorem two_pow_nn (k : Nat) : (0 : Int) ≤ 2 ^ k := by
  rw [two_pow_cast]
  exact Int.natCast_nonneg _

theorem op_add : OpR X (binaryOp .Add) (rI0 fun i j => .int (i + j)) := opI0 fun _ _ _ _ _ _ _ q => add_int q
theorem op_sub : OpR X (binaryOp .Sub) (rI0 fun i j => .int (i - j)) := opI0 fun _ _ _ _ _ _ _ q => sub_int q
theorem op_mul : OpR X (binaryOp .Mult) (rI CMul fun i j => .int (i * j)) := opI fun _ _ _ _ _ _ _ hc q => mul_int q hc.ok
theorem op_fdiv : OpR X (binaryOp .FloorDiv) (rI CDiv fun i j => .int (i / j)) := opI fun i j _ _ _ _ _ hc q => by
  have h1 : (0 : Int) < j := hc.1
  have h2 : j < 1073741824 := hc.2
  exact floordiv_int (by omega) (by rw [Int.fdiv_eq_ediv_of_nonneg i (by omega)]; exact q) (.inl (PyProof.noPylong_small (by omega)))
theorem op_mod : OpR X (binaryOp .Mod) (rI (fun _ j => 0 < j) fun i j => .int (i % j)) := opI fun i j _ _ _ _ _ hc q => by
  have h1 : (0 : Int) < j := hc
  exact mod_int' (by omega) (by rw [Int.fmod_eq_emod_of_nonneg i (by omega)]; exact q)
theorem op_shl : OpR X (binaryOp .LShift) (rI CPow fun i j => .int (i * 2 ^ j.toNat)) := opI fun _ _ _ _ _ _ _ hc q => lshift_int_small hc.1 hc.2.1 hc.2.2 q
theorem op_shr : OpR X (binaryOp .RShift) (rI (fun _ j => 0 ≤ j) fun i j => .int (i / 2 ^ j.toNat)) := opI fun i j _ _ _ _ _ hc q =>
  rshift_int hc (by rw [Int.fdiv_eq_ediv_of_nonneg i (two_pow_nn _)]; exact q)
theorem op_and : OpR X (binaryOp .BitAnd) (rI0 fun i j => .int (Builtin.bitAnd i j)) := opI0 fun _ _ _ _ _ _ _ q => and_int q
theorem op_or : OpR X (binaryOp .BitOr) (rI0 fun i j => .int (Builtin.bitOr i j)) := opI0 fun _ _ _ _ _ _ _ q => or_int q
theorem op_xor : OpR X (binaryOp .BitXor) (rI0 fun i j => .int (Builtin.bitXor i j)) := opI0 fun _ _ _ _ _ _ _ q => xor_int q

theorem iop_add : OpR X (inplaceOp .Add) (rI0 fun i j => .int (i + j)) := opI0 fun _ _ _ _ _ _ _ q => iadd_int q
theorem unI {f : Value → Sem Value} {g : Int → Int}
    (rule : ∀ (i : Int) (t : Tok) (s : Shared) (Q : Value → Shared → Prop) (E : Value → Shared → Prop), Q (.int (g i) s.toks) { s with toks := s.toks + 1 } → wpAny (model X.prog X.w) X.A (f (.int i t)) Q E s) :
    UnR X f (rU fun i => .int (g i)) := by
  intro pins s σ H x v Q I rx h
  obtain ⟨i, rfl, q⟩ := h
  obtain ⟨t, rfl⟩ := rx
  exact rule i t s _ _ ⟨.int (g i), H, I.tok _, ⟨_, rfl⟩, q⟩
theorem un_neg : UnR X (unaryOp .USub) (rU fun i => .int (-i)) := unI fun _ _ _ _ _ q => neg_int q
theorem un_inv : UnR X (unaryOp .Invert) (rU fun i => .int (Builtin.bitNot i)) := unI fun _ _ _ _ _ q => invert_int q

end

def scal : V → V → Bool
  | .non, .non => true | .non, .int _ => true | .int _, .non => true | .non, .bl _ => true | .bl _, .non => true | .non, .str _ => true | .str _, .non => true
  | .int _, .int _ => true | .bl _, .bl _ => true | .str _, .str _ => true | .byt _, .byt _ => true
  | .int _, .str _ => true | .str _, .int _ => true | .bl _, .str _ => true | .str _, .bl _ => true
  | _, _ => false
def rEq : R2 := fun x y H Q => scal x y = true ∧ Q (.bl (decide (x = y))) H
def rNe : R2 := fun x y H Q => scal x y = true ∧ Q (.bl (!decide (x = y))) H

theorem dec_int {i j : Int} : decide (V.int i = V.int j) = (i == j) := by
  rw [Bool.eq_iff_iff]
  simp
theorem dec_bl {i j : Bool} : decide (V.bl i = V.bl j) = (i == j) := by
  rw [Bool.eq_iff_iff]
  simp
theorem dec_str {i j : Str} : decide (V.str i = V.str j) = (i == j) := by
  rw [Bool.eq_iff_iff]
  simp
theorem dec_byt {i j : Array UInt8} : decide (V.byt i = V.byt j) = (i.toList == j.toList) := by
  rw [Bool.eq_iff_iff]
  cases i
  cases j
  simp

section
variable {X : Cx} {a b c : Expr} {ta tb tc : TE} {pos : Pos}
theorem fin_bl {pins : List (Addr × Obj)} {σ : St} {H : Hp} {s : Shared} {Q : VK} {k k' : Bool} (I : Inv X pins σ H s) (q : Q (.bl k) H) (e : k = k') : EP X pins σ Q (.bool k') s := by
  subst e
  exact ⟨.bl k, H, I, rfl, q⟩
theorem op_eq : OpR X (compareOp .Eq) rEq := by
  intro pins s σ H x y v u Q I rx ry h
  obtain ⟨hs, q⟩ := h
  cases x with
  | non =>
    cases rx
    cases y with
    | non => cases ry; exact PySem.EqNone.eq_none_none (fin_bl I q (by simp))
    | bl j => cases ry; exact PySem.EqNone.eq_none_bool (fin_bl I q (by simp))
    | int j => obtain ⟨t', rfl⟩ := ry; exact PySem.EqNone.eq_none_int (fin_bl I q (by simp))
    | str j => obtain ⟨t', rfl⟩ := ry; exact PySem.EqNone.eq_none_str (fin_bl I q (by simp))
    | _ => exact absurd (show false = true from hs) Bool.false_ne_true
  | bl i =>
    cases rx
    cases y with
    | non => cases ry; exact PySem.EqNone.eq_bool_none (fin_bl I q (by simp))
    | bl j => cases ry; exact eq_bool (fin_bl I q dec_bl)
    | str j => obtain ⟨t', rfl⟩ := ry; exact PySem.EqMixed.eq_bool_str (fin_bl I q (by simp))
    | _ => exact absurd (show false = true from hs) Bool.false_ne_true
  | int i =>
    obtain ⟨t, rfl⟩ := rx
    cases y with
    | non => cases ry; exact PySem.EqNone.eq_int_none (fin_bl I q (by simp))
    | int j => obtain ⟨t', rfl⟩ := ry; exact eq_int (fin_bl I q dec_int)
    | str j => obtain ⟨t', rfl⟩ := ry; exact PySem.EqMixed.eq_int_str (fin_bl I q (by simp))
    | _ => exact absurd (show false = true from hs) Bool.false_ne_true
  | str i =>
    obtain ⟨t, rfl⟩ := rx
    cases y with
    | non => cases ry; exact PySem.EqNone.eq_str_none (fin_bl I q (by simp))
    | bl j => cases ry; exact PySem.EqMixed.eq_str_bool (fin_bl I q (by simp))
    | int j => obtain ⟨t', rfl⟩ := ry; exact PySem.EqMixed.eq_str_int (fin_bl I q (by simp))
    | str j => obtain ⟨t', rfl⟩ := ry; exact eq_str (fin_bl I q dec_str)
    | _ => exact absurd (show false = true from hs) Bool.false_ne_true
  | byt i =>
    obtain ⟨t, rfl⟩ := rx
    cases y with
    | byt j => obtain ⟨t', rfl⟩ := ry; exact PySem.W.eq_bytes (fin_bl I q dec_byt)
    | _ => exact absurd (show false = true from hs) Bool.false_ne_true
  | _ => cases y <;> exact absurd (show false = true from hs) Bool.false_ne_true
theorem op_ne : OpR X (compareOp .NotEq) rNe := by
  intro pins s σ H x y v u Q I rx ry h
  obtain ⟨hs, q⟩ := h
  cases x with
  | non =>
    cases rx
    cases y with
    | non => cases ry; exact PySem.EqNone.ne_none_none (fin_bl I q (by simp))
    | bl j => cases ry; exact PySem.EqNone.ne_none_bool (fin_bl I q (by simp))
    | int j => obtain ⟨t', rfl⟩ := ry; exact PySem.EqNone.ne_none_int (fin_bl I q (by simp))
    | str j => obtain ⟨t', rfl⟩ := ry; exact PySem.EqNone.ne_none_str (fin_bl I q (by simp))
    | _ => exact absurd (show false = true from hs) Bool.false_ne_true
  | bl i =>
    cases rx
    cases y with
    | non => cases ry; exact PySem.EqNone.ne_bool_none (fin_bl I q (by simp))
    | bl j => cases ry; exact ne_bool (fin_bl I q (congrArg not dec_bl))
    | str j => obtain ⟨t', rfl⟩ := ry; exact PySem.EqMixed.ne_bool_str (fin_bl I q (by simp))
    | _ => exact absurd (show false = true from hs) Bool.false_ne_true
  | int i =>
    obtain ⟨t, rfl⟩ := rx
    cases y with
    | non => cases ry; exact PySem.EqNone.ne_int_none (fin_bl I q (by simp))
    | int j => obtain ⟨t', rfl⟩ := ry; exact ne_int (fin_bl I q (congrArg not dec_int))
    | str j => obtain ⟨t', rfl⟩ := ry; exact PySem.EqMixed.ne_int_str (fin_bl I q (by simp))
    | _ => exact absurd (show false = true from hs) Bool.false_ne_true
  | str i =>
    obtain ⟨t, rfl⟩ := rx
    cases y with
    | non => cases ry; exact PySem.EqNone.ne_str_none (fin_bl I q (by simp))
    | bl j => cases ry; exact PySem.EqMixed.ne_str_bool (fin_bl I q (by simp))
    | int j => obtain ⟨t', rfl⟩ := ry; exact PySem.EqMixed.ne_str_int (fin_bl I q (by simp))
    | str j => obtain ⟨t', rfl⟩ := ry; exact ne_str (fin_bl I q (congrArg not dec_str))
    | _ => exact absurd (show false = true from hs) Bool.false_ne_true
  | byt i =>
    obtain ⟨t, rfl⟩ := rx
    cases y with
    | byt j => obtain ⟨t', rfl⟩ := ry; exact PySem.W.ne_bytes (fin_bl I q (congrArg not dec_byt))
    | _ => exact absurd (show false = true from hs) Bool.false_ne_true
  | _ => cases y <;> exact absurd (show false = true from hs) Bool.false_ne_true

theorem op_lt : OpR X (compareOp .Lt) (rI0 fun i j => .bl (decide (i < j))) := opB0 fun _ _ _ _ _ _ _ q => lt_int q
theorem op_le : OpR X (compareOp .LtE) (rI0 fun i j => .bl (decide (i ≤ j))) := opB0 fun _ _ _ _ _ _ _ q => le_int q
theorem op_gt : OpR X (compareOp .Gt) (rI0 fun i j => .bl (decide (j < i))) := opB0 fun _ _ _ _ _ _ _ q => gt_int q
theorem op_ge : OpR X (compareOp .GtE) (rI0 fun i j => .bl (decide (j ≤ i))) := opB0 fun _ _ _ _ _ _ _ q => ge_int q
theorem op_isN : OpR X (compareOp .Is) (fun x y H Q => y = .non ∧ Q (.bl (decide (x = .non))) H) := by
  intro pins s σ H x y v u Q I rx ry h
  obtain ⟨rfl, q⟩ := h
  cases ry
  refine is_none_gen (fin_bl I q ?_)
  cases x <;> first
    | (cases rx; rfl)
    | (obtain ⟨t, rfl⟩ := rx; rfl)
def isObj : HO → Bool
  | .lst _ => true
  | .ins _ _ _ => true
  | _ => false
theorem nomark (b : Expr) {op : CmpOp} (h : op ≠ .In := by decide) (h2 : op ≠ .NotIn := by decide) : behindInMarks op b = false := by
  have e1 : (op == CmpOp.In) = false := by cases op <;> first | rfl | exact absurd rfl h
  have e2 : (op == CmpOp.NotIn) = false := by cases op <;> first | rfl | exact absurd rfl h2
  cases b <;> simp [behindInMarks, e1, e2]
theorem pe_cmpR {op : CmpOp} {r : R2} (ho : OpR X (compareOp op) r) (ha : PE X a ta) (hb : PE X b tb) (hm : behindInMarks op b = false) : PE X (.Compare a [op] [b] pos) (tOp r ta tb) := by
  intro pins s σ H Q I h
  exact wpAny_Compare1 (binT ha hb I h fun v u s2 x y H2 I2 rx ry q => ho pins s2 σ H2 x y v u Q I2 rx ry q) hm
def tTest (t : TE) : TT := fun σ H Q => t σ H fun x H' => ∃ k, x = .bl k ∧ Q k H'
theorem pt_cmpR {op : CmpOp} {r : R2} (ho : OpR X (compareOp op) r) (ha : PE X a ta) (hb : PE X b tb) (hm : behindInMarks op b = false) : PT X (.Compare a [op] [b] pos) (tTest (tOp r ta tb)) := by
  intro pins s σ H Q I h
  refine wpAny_isTrue_Compare1 (thn (ha pins s σ H _ I h) fun v s1 ⟨x, H1, I1, r1, q1⟩ => thn (hb pins s1 σ H1 _ I1 q1) fun u s2 ⟨y, H2, I2, r2, q2⟩ =>
    thn (ho pins s2 σ H2 x y v u _ I2 r1 r2 q2) fun c s3 ⟨z, H3, I3, r3, k, e, q3⟩ => ?_) hm
  subst e
  cases r3
  exact wpAny_truthy_bool ⟨H3, I3, q3⟩
def tChain (r r' : R2) (ta tb tc : TE) : TE := fun σ H Q => ta σ H fun x H1 => tb σ H1 fun y H2 => r x y H2 fun z H3 => ∃ k, z = .bl k ∧
  (if k = true then tc σ H3 fun w' H4 => r' y w' H4 Q else Q (.bl false) H3)
theorem pe_chain {op op' : CmpOp} {r r' : R2} (ho : OpR X (compareOp op) r) (ho' : OpR X (compareOp op') r') (ha : PE X a ta) (hb : PE X b tb) (hc : PE X c tc)
    (hm : lastMarks [op, op'] [b, c] = false := by with_unfolding_all rfl) : PE X (.Compare a [op, op'] [b, c] pos) (tChain r r' ta tb tc) := by
  intro pins s σ H Q I h
  refine Compare_chain (thn (ha pins s σ H _ I h) fun v s1 ⟨x, H1, I1, r1, q1⟩ => chain_link (thn (hb pins s1 σ H1 _ I1 q1) fun u s2 ⟨y, H2, I2, r2, q2⟩ =>
    thn (ho pins s2 σ H2 x y v u _ I2 r1 r2 q2) fun d s3 ⟨z, H3, I3, r3, k, e, q3⟩ => ?_)) hm
  subst e
  cases r3
  refine wpAny_truthy_bool ?_
  cases k with
  | false => exact ite_ff ⟨.bl false, H3, I3, rfl, q3⟩
  | true => exact ite_tt (chain_last (thn (hc pins s3 σ H3 _ I3 q3) fun w' s4 ⟨z', H4, I4, r4, q4⟩ => ho' pins s4 σ H4 y z' u w' Q I4 r2 r4 q4))
theorem pt_chain {op op' : CmpOp} {r r' : R2} (ho : OpR X (compareOp op) r) (ho' : OpR X (compareOp op') r') (ha : PE X a ta) (hb : PE X b tb) (hc : PE X c tc)
    (hm : lastMarks [op, op'] [b, c] = false := by with_unfolding_all rfl) : PT X (.Compare a [op, op'] [b, c] pos) (tTest (tChain r r' ta tb tc)) := by
  intro pins s σ H Q I h
  refine isTrue_chain (thn (ha pins s σ H _ I h) fun v s1 ⟨x, H1, I1, r1, q1⟩ => test_link (thn (hb pins s1 σ H1 _ I1 q1) fun u s2 ⟨y, H2, I2, r2, q2⟩ =>
    thn (ho pins s2 σ H2 x y v u _ I2 r1 r2 q2) fun d s3 ⟨z, H3, I3, r3, k, e, q3⟩ => ?_)) hm
  subst e
  cases r3
  refine wpAny_truthy_bool ?_
  cases k with
  | false =>
    obtain ⟨k', e', q'⟩ := q3
    cases e'
    exact ite_ff ⟨H3, I3, q'⟩
  | true =>
    refine ite_tt (test_last (thn (hc pins s3 σ H3 _ I3 q3) fun w' s4 ⟨z', H4, I4, r4, q4⟩ => thn (ho' pins s4 σ H4 y z' u w' _ I4 r2 r4 q4) fun d' s5 ⟨z2, H5, I5, r5, k2, e2, q5⟩ => ?_))
    subst e2
    cases r5
    exact wpAny_truthy_bool ⟨H5, I5, q5⟩

def TruV (K : PySem.W.Frag) (x : V) (H : Hp) (k : Bool) : Prop :=
  match x with
  | .non => k = false
  | .bl b => k = b
  | .int i => k = (i != 0)
  | .str y => y.length ≤ sizeLine ∧ k = ((y.length : Int) != 0)
  | .byt y => y.size ≤ sizeLine ∧ k = ((y.size : Int) != 0)
  | .ref p => (∃ xs, SqL K H p xs ∧ k = !xs.isEmpty) ∨ (∃ xs, SqT K H p xs ∧ k = !xs.isEmpty) ∨ ∃ kvs, H p = some (.dK kvs) ∧ k = !kvs.isEmpty
  | _ => False
theorem isEmpty_kv {κ : Type} {kvs : List (κ × V)} {vs : List (κ × Value)} (r : KV kvs vs) : (!vs.isEmpty) = !kvs.isEmpty := by
  cases r <;> rfl
theorem isEmpty_of {xs : List V} {its : List Value} (r : Vals xs its) : (!its.toArray.isEmpty) = !xs.isEmpty := by
  cases r <;> simp
theorem line63 : (sizeLine : Nat) < 2 ^ 63 := by rw [sizeLine_eq]; decide
theorem tru_ok : TruR X (fun x H Q => ∃ k, TruV X.K x H k ∧ Q k H) := by
  intro pins s σ H x v Q I rx h
  obtain ⟨k, e, q⟩ := h
  have hl := line63
  have hs : sizeLine = 16777216 := sizeLine_eq
  cases x with
  | non =>
    cases rx
    have e' : k = false := e
    subst e'
    exact truthy_none ⟨H, I, q⟩
  | bl b =>
    cases rx
    have e' : k = b := e
    subst e'
    exact wpAny_truthy_bool ⟨H, I, q⟩
  | int i =>
    obtain ⟨t, rfl⟩ := rx
    have e' : k = (i != 0) := e
    subst e'
    exact PySem.P.truthy_int ⟨H, I, q⟩
  | str y =>
    obtain ⟨t, rfl⟩ := rx
    obtain ⟨hy, e'⟩ : y.length ≤ sizeLine ∧ k = ((y.length : Int) != 0) := e
    subst e'
    exact PySem.P.truthy_str (by omega) ⟨H, I.tok _, q⟩
  | byt y =>
    obtain ⟨t, rfl⟩ := rx
    obtain ⟨hy, e'⟩ : y.size ≤ sizeLine ∧ k = ((y.size : Int) != 0) := e
    subst e'
    exact PySem.W.truthy_bytes (by omega) ⟨H, I.tok _, q⟩
  | ref p =>
    cases rx
    have e' : (∃ xs, SqL X.K H p xs ∧ k = !xs.isEmpty) ∨ (∃ xs, SqT X.K H p xs ∧ k = !xs.isEmpty) ∨ ∃ kvs, H p = some (.dK kvs) ∧ k = !kvs.isEmpty := e
    rcases e' with ⟨xs, hx, e'⟩ | ⟨xs, hx, e'⟩ | ⟨kvs, hx, e'⟩
    · subst e'
      obtain ⟨its, r, pl, hz⟩ := I.list hx
      have hlen := r.length
      exact wpAny_truthy_list pl.isList (by simp only [List.size_toArray]; omega) ⟨H, I.tok _, by rw [isEmpty_of r]; exact q⟩
    · subst e'
      obtain ⟨its, r, pl, hz⟩ := I.tuple hx
      have hlen := r.length
      exact truthy_tuple pl (by simp only [List.size_toArray]; omega) ⟨H, I.tok _, by rw [isEmpty_of r]; exact q⟩
    · subst e'
      obtain ⟨hz, hS, vs, r, m⟩ : kvs.length ≤ sizeLine ∧ (p == sysModules) = false ∧ ∃ vs, KV kvs vs ∧ s.heap.DictOf (mixKind X.prog X.w) p vs := I.hok p _ hx
      have hlen : kvs.length = vs.length := Paired.length r
      exact wpAny_truthy_dict hS m (by omega) ⟨H, I.tok _, by rw [isEmpty_kv r]; exact q⟩
  | _ => exact (show False from e).elim
theorem pt_truth (ha : PE X a ta) (he : ∀ whole, isTrue a X.env whole = (do let v ← whole; standAt a.pos; holding [v] (truthy v))) :
    PT X a (fun σ H Q => ta σ H fun x H' => ∃ k, TruV X.K x H' k ∧ Q k H') := by
  intro pins s σ H Q I h
  exact isTrue_plain (thn (ha pins s σ H _ I h) fun v s1 ⟨x, H1, I1, r1, q1⟩ => tru_ok pins s1 σ H1 x v Q I1 r1 q1) (he _)

def PlainIxT (b : Expr) : Prop := ∀ o i, subscripted b false o i = operate [o, i] (getItem o i)
theorem vals1 {x : V} {us : List Value} (r : Vals [x] us) : ∃ u, us = [u] ∧ RelV x u := by
  cases r with
  | cons r1 r2 => cases r2; exact ⟨_, rfl, r1⟩
theorem call_abs : CallR X (.builtin "abs") (fun xs H Q => ∃ i, xs = [.int i] ∧ Q (.int (if i < 0 then -i else i)) H) := by
  intro pins s σ H xs us Q I r h
  obtain ⟨i, rfl, q⟩ := h
  obtain ⟨u, rfl, t, rfl⟩ := vals1 r
  exact call_abs_int fun u tk => ⟨.int (if i < 0 then -i else i), H, I.tok _, ⟨_, rfl⟩, q⟩
def LenV (K : PySem.W.Frag) (x : V) (H : Hp) (n : Nat) : Prop :=
  match x with
  | .str y => y.length ≤ sizeLine ∧ n = y.length
  | .byt y => y.size ≤ sizeLine ∧ n = y.size
  | .ref p => (∃ xs, SqL K H p xs ∧ n = xs.length) ∨ ∃ xs, SqT K H p xs ∧ n = xs.length
  | _ => False
end
end L2

namespace L2
open PySem PySem.Spec PyProof.Rows

structure ObjM (h : Heap) (x dx C : Addr) (mA : Str → Option Value) : Prop where
  obj : h.get? x = some (PySem.W.instObj C dx)
  ns : h.Ns1 dx mA
  ne : dx ≠ x

theorem lookIn_ns {h : Heap} {dx : Addr} {mA : Str → Option Value} (n : h.Ns1 dx mA) : ∃ od, h.get? dx = some od ∧ ∀ name, PySem.W.lookIn name od = some (mA name) := by
  obtain ⟨o, es, ep, ho, hd, hk, _, hm⟩ := n
  refine ⟨o, ho, fun name => ?_⟩
  have e := hm name
  unfold nsFind findBy at e
  rw [← Array.find?_toList] at e
  unfold PySem.W.lookIn
  rw [hd]
  dsimp only
  split
  · rename_i y q
    rw [q] at e
    exact congrArg some e
  · rename_i q
    rw [q] at e
    have a : es.toList.any (·.refKey) = false := by
      rw [List.any_eq_false]
      intro y hy
      obtain ⟨z, t, hkey⟩ := hk y (Array.mem_toList_iff.mp hy)
      simp [DictEntry.refKey, hkey]
    have a' : ¬ es.toList.any (·.refKey) = true := by rw [a]; exact Bool.false_ne_true
    rw [if_neg a']
    exact congrArg some e

theorem ObjM.look {h : Heap} {x dx C : Addr} {mA : Str → Option Value} (I : ObjM h x dx C mA) : ∃ od, PySem.W.InstAt h x (PySem.W.instObj C dx) C (some od) ∧ ∀ name, PySem.W.lookIn name od = some (mA name) :=
  let ⟨od, ho, hl⟩ := lookIn_ns I.ns
  ⟨od, ⟨I.obj, rfl, rfl, ho⟩, hl⟩

section
variable {prog : Program} {w : World} {A : Around} {E : Value → Shared → Prop} {s : Shared} {K : PySem.W.Frag} {x dx C f : Addr} {mA : Str → Option Value} {name : Str} {v : Value}

theorem get_map {expr : Bool} {Q : Value → Shared → Prop} (X : K.In s.heap) (I : ObjM s.heap x dx C mA) (hg : PySem.W.plainGet K C name = true) (hh : PySem.W.hasDictIn K C = true)
    (ha : PySem.W.findIn K (.ref C) name = some none) (hv : mA name = some v) (hv' : PySem.W.handedIn v = true) (h : Q v { s with toks := s.toks + 1 }) :
    wpAny (model prog w) A (getAttr (.ref x) name expr) Q E s := by
  obtain ⟨od, J, hl⟩ := I.look
  exact PySem.W.get_value X J (PySem.W.plainGet_of hg).1 (PySem.W.findObj_own hh ha rfl (by rw [hl, hv])) hv' h

theorem get_meth {pl : Sem Bool} {Q : Value × List Value → Shared → Prop} (X : K.In s.heap) (I : ObjM s.heap x dx C mA) (hg : PySem.W.plainGet K C name = true)
    (hf : PySem.W.findIn K (.ref C) name = some (some (.ref f))) (ht : PySem.W.isFn K (.ref f) = true) (hv : mA name = none) (h : Q (.ref f, [.ref x]) s) :
    wpAny (model prog w) A (getMethod (.ref x) name pl) Q E s := by
  obtain ⟨od, J, hl⟩ := I.look
  exact PySem.W.method_fn X J (PySem.W.plainGet_of hg).1 (PySem.W.plainGet_of hg).2 hf (beq_iff_eq.mp ht) (by show (PySem.W.lookIn name od).map (·.isSome) = some false; rw [hl, hv]; rfl) h

theorem set_map {ns : List Str} {Q : Unit → Shared → Prop} (X : K.In s.heap) (I : ObjM s.heap x dx C mA)
    (hs : PySem.W.findIn K (.ref C) "__setattr__" = some (some (.builtin "object.__setattr__"))) (hp : PySem.W.plainOver K C = true) (ht : PySem.W.takerIn K C name = some none) (hh : PySem.W.hasDictIn K C = true)
    (hw : PySem.Within mA ns) (hsz : ns.length ≤ sizeLine)
    (h : ∀ h', ObjM h' x dx C (fun y => if y = name then some v else mA y) → Heap.SameBut dx s.heap h' → Q () { s with heap := h', toks := s.toks + 2 }) :
    wpAny (model prog w) A (setAttr (.ref x) name v) Q E s := by
  obtain ⟨od, J, hl⟩ := I.look
  refine PySem.W.set_plain X J hs (PySem.W.osa_open (s := { s with toks := s.toks + 1 }) (r := none) X J hp ht fun b => ?_)
  obtain ⟨cd, hc, hd'⟩ := PySem.W.any_some hh
  have hx : s.heap.get? x = some ⟨.ref C, some dx, .plain, #[]⟩ := I.obj
  refine wpAny_bind (wpAny_pure (wpAny_bind (wpAny_bind (wpAny_loadPart hx (wpAny_bind (PySem.W.Looks.here (s := { s with toks := s.toks + 1 }) (PySem.W.looks_clsIn X hc) ?_))))))
  rw [hd']
  refine wpAny_pure (a := some dx) (wpAny_bind (wpAny_pure (wpAny_bind ?_)))
  refine wpAny_nsSet1 (s := { s with toks := s.toks + 1 }) I.ns fun h' hn2 hs2 => ?_
  obtain ⟨oD, esD, epD, hoD, hdD, hcD⟩ := hn2.count (PySem.Within.cons name v hw)
  refine wpAny_bind (wpAny_lookBehind hoD (by rw [hdD]; exact pastItsLine_dict (Nat.le_trans hcD (by rw [List.length_cons]; omega))) ?_)
  exact wpAny_pure (h _ ⟨(hs2.2 _ (Ne.symm I.ne)).trans I.obj, hn2, I.ne⟩ hs2)

theorem make_map {R : Result → Shared → Prop} {vs : List Value} {kw : List (Str × Value)} (X : K.In s.heap) (hm : PySem.W.makesIn K C = true)
    (hi : PySem.W.findIn K (.ref C) "__init__" = some (some (.ref f))) (hf : PySem.W.typeIn K (.ref f) = some (.type "function"))
    (h : codeAny (model prog w) (A.under (.builtin "type.__call__" ⟨.ref C :: vs, kw⟩)) (.call (.ref f) ⟨.ref (s.heap.objs.size + 1) :: vs, kw⟩) (PySem.W.InitBack (s.heap.objs.size + 1) R)
      { s with heap := (s.heap.push PySem.W.emptyDict).push (PySem.W.instObj C s.heap.objs.size) }) :
    codeAny (model prog w) A (.call (.ref C) ⟨vs, kw⟩) R s := by
  obtain ⟨hh, g, d, t, os⟩ := s
  exact PySem.W.make_core (PySem.W.makes_of X hm) (PySem.W.looks_findIn X hi) (fun self => PySem.W.bind_fn X self hf) (.inl rfl) h
end

def putF (f : Str) (v : V) : List (Str × V) → List (Str × V)
  | [] => [(f, v)]
  | (g, x) :: r => if g = f then (g, v) :: r else (g, x) :: putF f v r
theorem lookup_putF (f g : Str) (v : V) : ∀ fs : List (Str × V), (putF f v fs).lookup g = if g = f then some v else fs.lookup g
  | [] => by
    show List.lookup g [(f, v)] = _
    by_cases h : g = f
    · have hb : (g == f) = true := beq_iff_eq.mpr h
      simp only [List.lookup, hb, if_pos h]
    · have hb : (g == f) = false := beq_eq_false_iff_ne.mpr h
      simp only [List.lookup, hb, if_neg h]
  | (k, x) :: r => by
    have ih := lookup_putF f g v r
    rw [show putF f v ((k, x) :: r) = (if k = f then (k, v) :: r else (k, x) :: putF f v r) from rfl]
    by_cases hk : k = f
    · rw [if_pos hk]
      by_cases h : g = k
      · have hb : (g == k) = true := beq_iff_eq.mpr h
        simp only [List.lookup, hb, if_pos (h.trans hk)]
      · have hb : (g == k) = false := beq_eq_false_iff_ne.mpr h
        simp only [List.lookup, hb, if_neg (fun e : g = f => h (e.trans hk.symm))]
    · rw [if_neg hk]
      by_cases h : g = k
      · have hb : (g == k) = true := beq_iff_eq.mpr h
        simp only [List.lookup, hb, if_neg (fun e : g = f => hk (h.symm.trans e))]
      · have hb : (g == k) = false := beq_eq_false_iff_ne.mpr h
        simp only [List.lookup, hb]
        exact ih
theorem keys_putF (f : Str) (v : V) : ∀ fs : List (Str × V), f ∈ (putF f v fs).map (·.1) ∧ ∀ g, g ∈ fs.map (·.1) → g ∈ (putF f v fs).map (·.1)
  | [] => ⟨by simp [putF], fun g h => by simp at h⟩
  | (k, x) :: r => by
    obtain ⟨i1, i2⟩ := keys_putF f v r
    rw [show putF f v ((k, x) :: r) = (if k = f then (k, v) :: r else (k, x) :: putF f v r) from rfl]
    by_cases hk : k = f
    · rw [if_pos hk]
      subst hk
      exact ⟨by simp, fun g h => by simpa using h⟩
    · rw [if_neg hk]
      refine ⟨?_, fun g h => ?_⟩
      · rw [List.map_cons]
        exact List.mem_cons_of_mem _ i1
      · rw [List.map_cons] at h ⊢
        rcases List.mem_cons.mp h with e | e
        · exact List.mem_cons.mpr (.inl e)
        · exact List.mem_cons_of_mem _ (i2 g e)
theorem length_putF (f : Str) (v : V) : ∀ fs : List (Str × V), (putF f v fs).length ≤ fs.length + 1
  | [] => by simp [putF]
  | (k, x) :: r => by
    have ih := length_putF f v r
    rw [show putF f v ((k, x) :: r) = (if k = f then (k, v) :: r else (k, x) :: putF f v r) from rfl]
    by_cases hk : k = f
    · rw [if_pos hk, List.length_cons, List.length_cons]; omega
    · rw [if_neg hk, List.length_cons, List.length_cons]; omega

theorem RelO.some_of {v : V} {o : Option Value} (r : RelO (some v) o) : ∃ u, o = some u ∧ RelV v u := by
  cases o with
  | none => exact (show False from r).elim
  | some u => exact ⟨u, rfl, r⟩
theorem RelO.none_of {o : Option Value} (r : RelO none o) : o = none := by
  cases o with
  | none => rfl
  | some u => exact (show False from r).elim
theorem handed_of {v : V} {u : Value} (r : RelV v u) : PySem.W.handedIn u = true := by
  cases v with
  | non => cases (show u = Value.none from r); rfl
  | bl b => cases (show u = Value.bool b from r); rfl
  | int i => obtain ⟨t, e⟩ := (show ∃ t, u = Value.int i t from r); cases e; rfl
  | str x => obtain ⟨t, e⟩ := (show ∃ t, u = Value.str x t from r); cases e; rfl
  | byt b => obtain ⟨t, e⟩ := (show ∃ t, u = Value.bytes b t from r); cases e; rfl
  | flt b => obtain ⟨t, e⟩ := (show ∃ t, u = Value.float b t from r); cases e; rfl
  | ref a => cases (show u = Value.ref a from r); rfl
  | ty n => cases (show u = Value.type n from r); rfl

section
variable {P : Program} {w : World} {H H' : Hp} {h h' : Heap} {a C dx : Addr} {fs fs' : List (Str × V)}
theorem ins_get (hok : HOk P w H h) (e : H a = some (.ins C dx fs)) : ∃ mA, ObjM h a dx C mA ∧ (∀ f, RelO (fs.lookup f) (mA f)) ∧ PySem.Within mA (fs.map (·.1)) ∧ fs.length ≤ 1000 ∧ H dx = some (.own a) := by
  obtain ⟨d, z, ne, ob, mA, n, r, q⟩ := (show ObjOk P w H h a (.ins C dx fs) from hok a _ e)
  exact ⟨mA, ⟨ob, n, ne⟩, r, q, z, d⟩
end

structure Cls (K : PySem.W.Frag) (C : Addr) : Prop where
  pg : PySem.W.plainGet K C Str.empty = true
  hd : PySem.W.hasDictIn K C = true
  po : PySem.W.plainOver K C = true
  sa : PySem.W.findIn K (.ref C) "__setattr__" = some (some (.builtin "object.__setattr__"))
theorem Cls.get {K : PySem.W.Frag} {C : Addr} (c : Cls K C) (f : Str) : PySem.W.plainGet K C f = true := c.pg
def NoAttr (K : PySem.W.Frag) (C : Addr) (f : Str) : Prop := PySem.W.findIn K (.ref C) f = some none
theorem NoAttr.taker {K : PySem.W.Frag} {C : Addr} {f : Str} (n : NoAttr K C f) : PySem.W.takerIn K C f = some none := by
  unfold PySem.W.takerIn
  rw [show PySem.W.findIn K (.ref C) f = some none from n]
  rfl
structure Con (K : PySem.W.Frag) (C : Addr) (f : Str) (v : V) (u : Value) : Prop where
  at_ : PySem.W.findIn K (.ref C) f = some (some u)
  rel : RelV v u
  get : PySem.W.specialIn K u "__get__" = some none
  cp : PySem.W.copiedNames.contains f = false
structure Meth (K : PySem.W.Frag) (C : Addr) (m : Str) (f : Addr) : Prop where
  at_ : PySem.W.findIn K (.ref C) m = some (some (.ref f))
  fn : PySem.W.isFn K (.ref f) = true
  kp : PySem.W.keepIn K (.ref f) = true

section
variable {X : Cx} {pins : List (Addr × Obj)} {σ : St} {H : Hp} {s : Shared} {a C dx : Addr} {fs : List (Str × V)} {f : Str} {v : V} {A : Around} {E : Value → Shared → Prop}

theorem getattr_ok {b : Bool} {Q : Value → Shared → Prop} (I : Inv X pins σ H s) (e : H a = some (.ins C dx fs)) (c : Cls X.K C) (n : NoAttr X.K C f) (l : fs.lookup f = some v)
    (h : ∀ u s', Inv X pins σ H s' → RelV v u → Q u s') : wpAny (model X.prog X.w) A (getAttr (.ref a) f b) Q E s := by
  obtain ⟨mA, O, r, _, _, _⟩ := ins_get I.hok e
  obtain ⟨u, hu, ru⟩ := RelO.some_of (v := v) (o := mA f) (by rw [← l]; exact r f)
  exact get_map I.kIn O (c.get f) c.hd n hu (handed_of ru) (h u _ (I.tok _) ru)

theorem getmeth_ok {m : Str} {g : Addr} {pl : Sem Bool} {Q : Value × List Value → Shared → Prop} (I : Inv X pins σ H s) (e : H a = some (.ins C dx fs)) (c : Cls X.K C) (k : Meth X.K C m g) (l : fs.lookup m = none)
    (h : Q (.ref g, [.ref a]) s) : wpAny (model X.prog X.w) A (getMethod (.ref a) m pl) Q E s := by
  obtain ⟨mA, O, r, _, _, _⟩ := ins_get I.hok e
  have hn : mA m = none := RelO.none_of (by rw [← l]; exact r m)
  exact get_meth I.kIn O (c.get m) k.at_ k.fn hn h

theorem setattr_ok {y : V} {u : Value} {Q : Unit → Shared → Prop} (I : Inv X pins σ H s) (e : H a = some (.ins C dx fs)) (c : Cls X.K C) (n : NoAttr X.K C f) (hl : fs.length < 1000) (ry : RelV y u)
    (h : ∀ s', Inv X pins σ (upd H a (.ins C dx (putF f y fs))) s' → Q () s') : wpAny (model X.prog X.w) A (setAttr (.ref a) f u) Q E s := by
  obtain ⟨mA, O, r, wi, _, ho⟩ := ins_get I.hok e
  have hz : (fs.map (·.1)).length ≤ sizeLine := by rw [List.length_map, sizeLine_eq]; omega
  refine set_map I.kIn O c.sa c.po n.taker c.hd wi hz fun h' O' sb => h _ ?_
  have hd : ∃ o, h'.get? dx = some o := let ⟨o, _, _, e', _⟩ := O'.ns; ⟨o, e'⟩
  refine I.write (x := a) (e := dx) (by rw [e]; exact True.intro) (.inr ho) (fun b q hb z => (sb.2 b hb).trans z) hd ?_
  refine ⟨by rw [upd_ne O.ne]; exact ho, ?_, O.ne, O'.obj, _, O'.ns, fun g => ?_, fun g hg => ?_⟩
  · have := length_putF f y fs; omega
  · show RelO ((putF f y fs).lookup g) (if g = f then some u else mA g)
    rw [lookup_putF]
    by_cases q : g = f
    · rw [if_pos q, if_pos q]; exact ry
    · rw [if_neg q, if_neg q]; exact r g
  · by_cases q : g = f
    · rw [q]; exact (keys_putF f y fs).1
    · refine (keys_putF f y fs).2 g (wi g fun z => hg ?_)
      show (if g = f then some u else mA g) = none
      rw [if_neg q]; exact z

theorem Inv.made (I : Inv X pins σ H s) : Inv X pins σ (upd (upd H s.heap.objs.size (.own (s.heap.objs.size + 1))) (s.heap.objs.size + 1) (.ins C s.heap.objs.size []))
    { s with heap := (s.heap.push PySem.W.emptyDict).push (PySem.W.instObj C s.heap.objs.size) } := by
  have e1 : (s.heap.push PySem.W.emptyDict).get? s.heap.objs.size = some PySem.W.emptyDict := Heap.get?_push_size s.heap rfl
  have e2 : ((s.heap.push PySem.W.emptyDict).push (PySem.W.instObj C s.heap.objs.size)).get? (s.heap.objs.size + 1) = some (PySem.W.instObj C s.heap.objs.size) := by
    have := Heap.get?_push_size (s.heap.push PySem.W.emptyDict) (o := PySem.W.instObj C s.heap.objs.size) rfl
    rwa [Heap.size_push] at this
  have e3 : (s.heap.push PySem.W.emptyDict).Ns s.heap.objs.size (fun _ => none) := ⟨PySem.W.emptyDict, #[], _, e1, rfl, (fun e he => absurd he (by simp)), fun _ => rfl⟩
  have I1 := I.laid (a := s.heap.objs.size) (o := .own (s.heap.objs.size + 1)) (h' := s.heap.push PySem.W.emptyDict) (t' := s.toks) (fun b u q => Heap.get?_push_of_some _ q) (Nat.le_refl _) ⟨_, e1⟩
  refine I1.laid (a := s.heap.objs.size + 1) (o := .ins C s.heap.objs.size []) (t' := s.toks) (fun b u q => Heap.get?_push_of_some _ q) (Nat.le_of_eq (Heap.size_push _ _)) ?_
  have ne : s.heap.objs.size ≠ s.heap.objs.size + 1 := Nat.ne_of_lt (Nat.lt_succ_self _)
  refine ⟨by rw [upd_ne ne, upd_same], Nat.zero_le _, ne, e2, fun _ => none, (Heap.Ns1.of_empty e3).at fun o q => Heap.get?_push_of_some _ q, fun _ => True.intro, fun y hy => absurd rfl hy⟩

theorem attr_of {prog : Program} {w : World} {env : Env} {e : Expr} {f : Str} {pos : Pos} {s : Shared} {Q : Value → Shared → Prop} (hb : attributeBase e f env (eval e env) = eval e env)
    (h : wpAny (model prog w) A (eval e env) (fun o s₁ => wpAny (model prog w) A (getAttr o f true) Q E s₁) E s) : wpAny (model prog w) A (eval (.Attribute e f pos) env) Q E s :=
  Attribute_any_ h (by rw [arm_eval_Attribute, hb])
end

def tFld (K : PySem.W.Frag) (ta : TE) (f : Str) : TE := fun σ H Q => ta σ H fun x H1 => ∃ a C dx fs v, x = .ref a ∧ H1 a = some (.ins C dx fs) ∧ Cls K C ∧ NoAttr K C f ∧ fs.lookup f = some v ∧ Q v H1
def tCon (K : PySem.W.Frag) (ta : TE) (f : Str) : TE := fun σ H Q => ta σ H fun x H1 => ∃ a C dx fs v u, x = .ref a ∧ H1 a = some (.ins C dx fs) ∧ Cls K C ∧ Con K C f v u ∧ fs.lookup f = none ∧ Q v H1
def sFld (K : PySem.W.Frag) (ta tv : TE) (f : Str) : TS := fun D σ H => tv σ H fun y H1 => ta σ H1 fun x H2 => ∃ a C dx fs, x = .ref a ∧ H2 a = some (.ins C dx fs) ∧ Cls K C ∧ NoAttr K C f ∧ fs.length < 1000 ∧
  D.nx σ (upd H2 a (.ins C dx (putF f y fs)))
def InOp (X : Cx) (op : Operator) (rd : V → V → Hp → VK → Prop) : Prop :=
  ∀ (pins : List (Addr × Obj)) (s : Shared) (σ : St) (H : Hp) (x y : V) (u v : Value) (Q : VK), Inv X pins σ H s → RelV x u → RelV y v → rd x y H Q → wpAny (model X.prog X.w) X.A (inplaceOp op u v) (EP X pins σ Q) X.xe s
def sFldAug (K : PySem.W.Frag) (ta tv : TE) (rd : V → V → Hp → VK → Prop) (f : Str) : TS := fun D σ H => ta σ H fun x H1 => ∃ a C dx fs v, x = .ref a ∧ H1 a = some (.ins C dx fs) ∧ Cls K C ∧ NoAttr K C f ∧ fs.lookup f = some v ∧
  tv σ H1 fun y H2 => rd v y H2 fun z H3 => ∃ dx' fs', H3 a = some (.ins C dx' fs') ∧ fs'.length < 1000 ∧ D.nx σ (upd H3 a (.ins C dx' (putF f z fs')))

section
variable {X : Cx} {o e value : Expr} {f : Str} {pos pos' tpos : Pos} {ta tv : TE}
theorem pe_fld (he : PE X e ta) (hb : attributeBase e f X.env (eval e X.env) = eval e X.env) : PE X (.Attribute e f pos) (tFld X.K ta f) := by
  intro pins s σ H Q I h
  refine attr_of hb (thn (he pins s σ H _ I h) fun u s1 ⟨x, H1, I1, rx, a, C, dx, fs, v, ex, ea, c, n, l, q⟩ => ?_)
  subst ex
  obtain rfl : u = Value.ref a := rx
  exact getattr_ok I1 ea c n l fun u' s2 I2 ru => ⟨v, H1, I2, ru, q⟩
theorem ps_fld (ha : PE X o ta) (hv : PE X value tv) (hs : swapsWith value (some (.Attribute o f pos')) pos.line X.env = pure false) : PS X (.Assign [.Attribute o f pos'] value pos) (sFld X.K ta tv f) := by
  intro pins s σ H D I h
  refine plainObj_wpAny_Assign_Attribute (thn (hv pins s σ H _ I h) fun u s1 ⟨y, H1, I1, ry, q⟩ => thn (ha pins s1 σ H1 _ I1 q) fun ov s2 ⟨x, H2, I2, rx, a, C, dx, fs, ex, ea, c, n, l, q2⟩ => ?_) hs
  subst ex
  obtain rfl : ov = Value.ref a := rx
  exact setattr_ok I2 ea c n l ry fun s3 I3 => ⟨σ, _, I3, q2⟩
theorem ps_fldaug {op : Operator} {rd : V → V → Hp → VK → Prop} (ha : PE X o ta) (hv : PE X value tv) (hop : InOp X op rd) : PS X (.AugAssign (.Attribute o f tpos) op value pos) (sFldAug X.K ta tv rd f) := by
  intro pins s σ H D I h
  refine wpAny_AugAssign_AttributeAny (thn (ha pins s σ H _ I h) fun ov s1 ⟨x, H1, I1, rx, a, C, dx, fs, v, ex, ea, c, n, l, q⟩ => ?_)
  subst ex
  obtain rfl : ov = Value.ref a := rx
  refine getattr_ok I1 ea c n l fun u s2 I2 ru => thn (hv pins s2 σ H1 _ I2 q) fun w3 s3 ⟨y, H2, I3, ry, q3⟩ => thn (hop pins s3 σ H2 v y u w3 _ I3 ru ry q3) fun w4 s4 ⟨z, H3, I4, rz, dx', fs', ea', l', q4⟩ => ?_
  exact setattr_ok I4 ea' c n l' rz fun s5 I5 => ⟨σ, _, I5, q4⟩
def rAdd : V → V → Hp → VK → Prop := fun x y H Q => ∃ i j, x = .int i ∧ y = .int j ∧ Q (.int (i + j)) H
def rSub : V → V → Hp → VK → Prop := fun x y H Q => ∃ i j, x = .int i ∧ y = .int j ∧ Q (.int (i - j)) H
end

section
variable {X : Cx} {pins : List (Addr × Obj)} {σ : St} {H : Hp} {s : Shared} {A : Around} {E : Value → Shared → Prop} {Q : Value → Shared → Prop} {c : Value} {b : Bool}
inductive TyOf (K : PySem.W.Frag) (H : Hp) : V → Value → Prop where
  | non : TyOf K H .non (.type "NoneType")
  | bl (x : Bool) : TyOf K H (.bl x) (.type "bool")
  | int (i : Int) : TyOf K H (.int i) (.type "int")
  | str (x : Str) : TyOf K H (.str x) (.type "str")
  | flt (x : UInt64) : TyOf K H (.flt x) (.type "float")
  | lst {a : Addr} {xs : List V} (e : H a = some (.lst xs)) : TyOf K H (.ref a) (.type "list")
  | frz {a : Addr} {o : Obj} {xs : List V} (e : H a = some (.frz o (.lst xs))) : TyOf K H (.ref a) (.type "list")
  | tup {a : Addr} {xs : List V} (e : H a = some (.tup xs)) : TyOf K H (.ref a) (.type "tuple")
  | dK {a : Addr} {kvs : List (Key × V)} (e : H a = some (.dK kvs)) : TyOf K H (.ref a) (.type "dict")
  | dT {a : Addr} {kvs : List (List Key × V)} (e : H a = some (.dT kvs)) : TyOf K H (.ref a) (.type "dict")
  | ins {a C dx : Addr} {fs : List (Str × V)} (e : H a = some (.ins C dx fs)) (cl : Cls K C) (ha : PySem.W.findIn K (.ref C) "__class__" = some (some (.builtin "object.__class__")))
      (hn : PySem.W.specialIn K (.builtin "object.__class__") "__get__" = some (some (.builtin "getset_descriptor.__get__"))) (htk : PySem.W.takesIn K (.builtin "object.__class__") = some true)
      (hm : PySem.W.mroIn K C (.type "object") = some true) : TyOf K H (.ref a) (.ref C)
end
end L2

namespace L2
open PySem PySem.Spec PyProof.Rows

structure Room (k : Nat) (A : Around) : Prop where
  hd : A.handled = none
  dp : A.depth + 3 * k + 5 < recursionLimit
  un : A.units + 16 * k + 200 < cLine
theorem Room.mono {j k : Nat} {A : Around} (r : Room k A) (h : j ≤ k) : Room j A := ⟨r.hd, by have := r.dp; omega, by have := r.un; omega⟩
theorem Room.deeper {k : Nat} {A : Around} (r : Room (k + 1) A) (env : Env) : Room k (A.deeper env) :=
  ⟨r.hd, by have := r.dp; show A.depth + 1 + 3 * k + 5 < _; omega, by have := r.un; show A.units + 3 + 16 * k + 200 < _; omega⟩
theorem make_depth {A : Around} {C : Addr} {us : List Value} {kw : List (Str × Value)} : (A.under (.builtin "type.__call__" ⟨.ref C :: us, kw⟩)).depth = A.depth + 1 := by
  first | rfl | simp [Around.under, Code.weight, Code.isCreation, Code.isGuard, Code.isCaller, Code.frames, Code.isFrame, guardIds]
theorem make_units {A : Around} {C : Addr} {us : List Value} {kw : List (Str × Value)} : (A.under (.builtin "type.__call__" ⟨.ref C :: us, kw⟩)).units = A.units + 1 := by
  first | rfl | simp [Around.under, Code.cUnits, Code.frames, Code.isFrame]
theorem Room.make {k : Nat} {A : Around} (r : Room (k + 1) A) (C : Addr) (us : List Value) (kw : List (Str × Value)) : Room k (A.under (.builtin "type.__call__" ⟨.ref C :: us, kw⟩)) :=
  ⟨r.hd, by have := r.dp; rw [make_depth]; omega, by have := r.un; rw [make_units]; omega⟩
theorem Room.depth {k : Nat} {A : Around} (r : Room k A) : A.depth < recursionLimit := by have := r.dp; omega
def tNil : TA := fun _ H Q => Q [] H
def tCons (ta : TE) (tr : TA) : TA := fun σ H Q => ta σ H fun x H1 => tr σ H1 fun xs H2 => Q (x :: xs) H2
section
variable {X : Cx} {e : Expr} {es : List Expr} {te : TE} {t : TA} {pos : Pos}
theorem pa_nil : PA X [] tNil := fun _ _ _ _ H Q I h => Calls.spliced_nil ⟨[], H, I, .nil, h⟩
theorem pa_cons (ha : PE X e te) (hr : PA X es t) (hs : starEach (e :: es) X.env = (false, eval e X.env) :: starEach es X.env := by rfl) : PA X (e :: es) (tCons te t) := by
  intro pos pins s σ H Q I h
  rw [hs]
  show wpAny _ _ (spliced ((false, eval e X.env) :: backTo pos (starEach es X.env))) _ _ s
  refine Calls.spliced_cons (thn (ha pins s σ H _ I h) fun u s1 ⟨x, H1, I1, r1, q1⟩ => ?_)
  exact thn (hr pos pins s1 σ H1 _ I1 q1) fun us s2 ⟨xs, H2, I2, r2, q2⟩ => ⟨x :: xs, H2, I2, .cons r1 r2, q2⟩

def tTup (t : TA) : TE := fun σ H Q => t σ H fun xs H1 => xs.length ≤ sizeLine ∧ ∀ p, H1 p = none → Q (.ref p) (upd H1 p (.tup xs))
def tLst (t : TA) : TE := fun σ H Q => t σ H fun xs H1 => xs.length ≤ sizeLine ∧ ∀ p, H1 p = none → Q (.ref p) (upd H1 p (.lst xs))
theorem pe_tup {x1} (h : PA X es t) : PE X (.Tuple es x1 pos) (tTup t) := by
  intro pins s σ H Q I hq
  refine wpAny_Tuple_spliced (thn (h pos pins s σ H _ I hq) fun us s1 ⟨xs, H1, I1, r, z, q⟩ => ⟨by rw [← r.length]; exact z, ?_⟩)
  have hf : H1 s1.heap.objs.size = none := I1.hok.fresh (Nat.le_refl _)
  refine ⟨.ref s1.heap.objs.size, upd H1 s1.heap.objs.size (.tup xs), I1.laid (t' := s1.toks) (fun b u e => Heap.get?_push_of_some _ e) (Nat.le_refl _) ?_, rfl, q _ hf⟩
  exact ⟨z, us, r, ⟨_, Heap.get?_push_size _ rfl, rfl, _, rfl⟩⟩
theorem pe_lst (h : PA X es t) : PE X (.List es pos) (tLst t) := by
  intro pins s σ H Q I hq
  refine wpAny_List_spliced (thn (h pos pins s σ H _ I hq) fun us s1 ⟨xs, H1, I1, r, z, q⟩ => ⟨by rw [← r.length]; exact z, ?_⟩)
  have hf : H1 s1.heap.objs.size = none := I1.hok.fresh (Nat.le_refl _)
  refine ⟨.ref s1.heap.objs.size, upd H1 s1.heap.objs.size (.lst xs), I1.laid (t' := s1.toks) (fun b u e => Heap.get?_push_of_some _ e) (Nat.le_refl _) ?_, rfl, q _ hf⟩
  exact ⟨z, us, 0, r, Heap.get?_push_size _ rfl⟩
end

abbrev Sp := List V → Hp → VK → XK → Prop
abbrev CXT := List Env → Hp → Shared → XK → Value → Shared → Prop

structure Env0 (P : Program) (w : World) (K : PySem.W.Frag) (mg : Str → Option Value) (base : Heap) (A : Around) (outer : List Env) (s : Shared) (H : Hp) : Prop where
  frames : A.frames = some outer
  mod : Mod K mg base
  bs : ∀ b o, base.get? b = some o → s.heap.get? b = some o ∧ H b = none
  bsz : base.objs.size ≤ s.heap.objs.size
  funs : s.heap.FunFrames base outer
  frf : ∀ b ∈ frs outer, H b = none
  hok : HOk P w H s.heap
  bare : AllBare s.gens
def CE (outer : List Env) (P : Program) (w : World) (H : Hp) (s : Shared) (Q : VK) (u : Value) (s' : Shared) : Prop :=
  ∃ v H', s'.os = s.os ∧ AllBare s'.gens ∧ Un (frs outer) [] H H' s.heap s'.heap ∧ HOk P w H' s'.heap ∧ RelV v u ∧ Q v H'
def CR (CX : CXT) (outer : List Env) (P : Program) (w : World) (H : Hp) (s : Shared) (Q : VK) (E : XK) (r : Result) (s' : Shared) : Prop :=
  match r with
  | .ok (.ret u) => CE outer P w H s Q u s'
  | .ok _ => False
  | .error e => CX outer H s E e s'
structure FnOk (P : Program) (w : World) (K : PySem.W.Frag) (mg : Str → Option Value) (base : Heap) (CX : CXT) (k : Nat) (f : Addr) (fd : FuncData) (ps : List Str) (sp : Sp) : Prop where
  len : ∀ vs H Q E, sp vs H Q E → vs.length = ps.length
  run : ∀ (A : Around) (outer : List Env) (s : Shared) (H : Hp) (args : Args) (us : List Value) (vs : List V) (Q : VK) (E : XK), Room k A → Env0 P w K mg base A outer s H → BindsTo s fd args (ps.zip us) → Vals vs us → sp vs H Q E →
    codeAny (model P w) A (.call (.ref f) args) (CR CX outer P w H s Q E) s
theorem FnOk.mono {P : Program} {w : World} {K : PySem.W.Frag} {mg : Str → Option Value} {base : Heap} {CX : CXT} {j k : Nat} {f : Addr} {fd : FuncData} {ps : List Str} {sp : Sp} (F : FnOk P w K mg base CX j f fd ps sp) (h : j ≤ k) :
    FnOk P w K mg base CX k f fd ps sp := ⟨F.len, fun A outer s H args us vs Q E hr => F.run A outer s H args us vs Q E (hr.mono h)⟩
theorem Env0.make {P : Program} {w : World} {K : PySem.W.Frag} {mg : Str → Option Value} {base : Heap} {A : Around} {outer : List Env} {s : Shared} {H : Hp} (e : Env0 P w K mg base A outer s H) (C : Addr) (us : List Value) (kw : List (Str × Value)) :
    Env0 P w K mg base (A.under (.builtin "type.__call__" ⟨.ref C :: us, kw⟩)) outer s H := ⟨by first | exact e.frames | (simpa [Around.under, Code.envs, Code.isFrame, pushEnvs] using e.frames), e.mod, e.bs, e.bsz, e.funs, e.frf, e.hok, e.bare⟩
section
variable {X : Cx} {pins : List (Addr × Obj)} {σ : St} {H : Hp} {s s' : Shared}
theorem Inv.env0 (I : Inv X pins σ H s) : Env0 X.prog X.w X.K X.mg X.base X.A X.stack s H :=
  ⟨I.ok.frames, I.ok.mod, I.bs, Nat.le_trans I.ok.bsz I.sz, I.stack, I.stkFree, I.hok, I.bare⟩
theorem Inv.after {Q : VK} {u : Value} (I : Inv X pins σ H s) (h : CE X.stack X.prog X.w H s Q u s') : EP X pins σ Q u s' := by
  obtain ⟨v, H', os, bare, un, hok, r, q⟩ := h
  obtain ⟨hh, g, d, t, os'⟩ := s'
  obtain rfl : os' = s.os := os
  exact ⟨v, H', I.call (h' := hh) (g' := g) (d' := d) (t' := t) (ch := []) un hok bare (fun b z => absurd z (by simp)), r, q⟩
end

def tCall (sp : Sp) (dvs : List V) (E : XK) (t : TA) : TE := fun σ H Q => t σ H fun vs H1 => sp (vs ++ dvs) H1 Q E
def tMeth (C : Addr) (m : Str) (sp : Sp) (dvs : List V) (E : XK) (ta : TE) (t : TA) : TE := fun σ H Q => ta σ H fun x H1 => ∃ a dx fs, x = .ref a ∧ H1 a = some (.ins C dx fs) ∧ fs.lookup m = none ∧
  t σ H1 fun vs H2 => sp (x :: (vs ++ dvs)) H2 Q E
def tMake (C : Addr) (sp : Sp) (dvs : List V) (E : XK) (t : TA) : TE := fun σ H Q => t σ H fun vs H1 => ∀ x dx, H1 x = none → H1 dx = none → dx ≠ x →
  sp (.ref x :: (vs ++ dvs)) (upd (upd H1 dx (.own x)) x (.ins C dx [])) (fun v H2 => v = .non ∧ Q (.ref x) H2) E

def Binds (K : PySem.W.Frag) (fd : FuncData) (ps : List Str) (ds : List Value) : Prop :=
  ∀ (s : Shared) (us : List Value), K.In s.heap → (us ++ ds).length = ps.length → BindsTo s fd ⟨us, []⟩ (ps.zip (us ++ ds))
theorem Binds.all {K : PySem.W.Frag} {fd : FuncData} {ps : List Str} (h : ∀ us : List Value, us.length = ps.length → bindArgs fd ⟨us, []⟩ = pure (ps.zip us)) : Binds K fd ps [] := fun s us _ hl => by
  rw [List.append_nil] at hl ⊢
  exact .of_eq (h us hl)

def Passes (CX : CXT) (X : Cx) (E : XK) : Prop := ∀ (pins : List (Addr × Obj)) (σ : St) (H : Hp) (s : Shared) (e : Value) (s' : Shared), Inv X pins σ H s → CX X.stack H s E e s' → X.xe e s'

section
variable {X : Cx} {CX : CXT} {k : Nat} {f C : Addr} {fd : FuncData} {ps : List Str} {sp : Sp} {dvs : List V} {ds : List Value} {E : XK} {x m : Str} {p pos apos : Pos} {e o : Expr} {es : List Expr} {ta : TE} {t : TA}

structure Mk (K : PySem.W.Frag) (C f : Addr) : Prop where
  makes : PySem.W.makesIn K C = true
  init : PySem.W.findIn K (.ref C) "__init__" = some (some (.ref f))
  fn : PySem.W.isFn K (.ref f) = true
  kp : PySem.W.keepIn K (.ref C) = true

theorem run_make {pins : List (Addr × Obj)} {σ : St} {H : Hp} {s : Shared} {Q : VK} {us : List Value} {vs : List V} (M : Mk X.K C f) (F : FnOk X.prog X.w X.K X.mg X.base CX k f fd ps sp) (hr : Room (k + 1) X.A) (hb : Binds X.K fd ps ds) (hd : Vals dvs ds)
    (hx : Passes CX X E) (I : Inv X pins σ H s) (r : Vals vs us)
    (h : ∀ x dx, H x = none → H dx = none → dx ≠ x → sp (.ref x :: (vs ++ dvs)) (upd (upd H dx (.own x)) x (.ins C dx [])) (fun v H2 => v = .non ∧ Q (.ref x) H2) E) :
    wpAny (model X.prog X.w) X.A (call (.ref C) us) (EP X pins σ Q) X.xe s := by
  have hq := h (s.heap.objs.size + 1) s.heap.objs.size (I.hok.fresh (Nat.le_succ _)) (I.hok.fresh (Nat.le_refl _)) (Nat.ne_of_lt (Nat.lt_succ_self _))
  have I2 := Inv.made (C := C) I
  have r2 : Vals (V.ref (s.heap.objs.size + 1) :: (vs ++ dvs)) (Value.ref (s.heap.objs.size + 1) :: (us ++ ds)) := .cons rfl (r.append hd)
  have hl : (Value.ref (s.heap.objs.size + 1) :: us ++ ds).length = ps.length := by
    have e := r2.length
    rw [F.len _ _ _ _ hq] at e
    exact e.symm
  refine wpAny_call (make_map (f := f) I.kIn M.makes M.init (beq_iff_eq.mp M.fn) (codeAny_mono (F.run _ X.stack _ _ ⟨Value.ref (s.heap.objs.size + 1) :: us, []⟩ (Value.ref (s.heap.objs.size + 1) :: (us ++ ds)) _ _ E (hr.make C us [])
    (I2.env0.make C us []) (hb _ (Value.ref (s.heap.objs.size + 1) :: us) I2.kIn hl) r2 hq) fun r s' hq' => ?_))
  cases r with
  | error e => exact hx pins σ _ _ e s' I2 hq'
  | ok fl =>
    cases fl with
    | ret u =>
      obtain ⟨v, H', I3, rv, ev, q3⟩ := I2.after hq'
      subst ev
      exact ⟨rv, ⟨V.ref (s.heap.objs.size + 1), H', I3, rfl, q3⟩⟩
    | next => exact False.elim hq'
    | brk => exact False.elim hq'
    | cont => exact False.elim hq'
end

def PK (X : Cx) (kws : List Keyword) (t : TA) : Prop :=
  ∀ (pos : Pos) (pins : List (Addr × Obj)) (s : Shared) (σ : St) (H : Hp) (Q : List V → Hp → Prop), Inv X pins σ H s → t σ H Q → wpAny (model X.prog X.w) X.A (evalAll ((backToKw pos (keywordEach kws X.env)).map (·.2))) (AP X pins σ Q) X.xe s
section
variable {X : Cx} {CX : CXT} {k : Nat} {f C : Addr} {fd : FuncData} {ps ks : List Str} {sp : Sp} {E : XK} {x m : Str} {p pos apos kpos : Pos} {e o : Expr} {es : List Expr} {kws : List Keyword} {te ta : TE} {t tk : TA} {nm : Option Str}
structure KBinds (K : PySem.W.Frag) (fd : FuncData) (ps ks : List Str) (g : List Value → List Value → List Value) (gV : List V → List V → List V) : Prop where
  to : ∀ (s : Shared) (us ws : List Value), K.In s.heap → (g us ws).length = ps.length → BindsTo s fd ⟨us, ks.zip ws⟩ (ps.zip (g us ws))
  rel : ∀ {vs : List V} {us : List Value} {zs : List V} {ws : List Value}, Vals vs us → Vals zs ws → Vals (gV vs zs) (g us ws)
def tCallK (sp : Sp) (gV : List V → List V → List V) (E : XK) (t tk : TA) : TE := fun σ H Q => t σ H fun vs H1 => tk σ H1 fun zs H2 => sp (gV vs zs) H2 Q E
variable {g : List Value → List Value → List Value} {gV : List V → List V → List V}
end

structure FnScope (N P : List Str) (sc : Scope) : Prop where
  kind : sc.kind = .function
  co : sc.isCoroutine = false
  gen : sc.isGenerator = false
  nd : N.Nodup
  pre : N.take P.length = P
  par : ∀ x ∈ P, sc.names.lookup x = some .local ∨ sc.names.lookup x = some .cell
  nofree : ∀ y ∈ sc.names, y.2 ≠ .free

theorem bindL_out {kindOf : Str → Option NameKind} {x : Str} : ∀ {binds : List (Str × Value)} {m : Str → Option Value}, (∀ v, (x, v) ∉ binds) → bindL kindOf binds m x = m x
  | [], _, _ => rfl
  | (n, v) :: r, m, h => by
    unfold bindL
    rw [bindL_out fun w hw => h w (List.mem_cons_of_mem _ hw)]
    split
    · have : x ≠ n := by rintro rfl; exact h v List.mem_cons_self
      simp [this]
    · rfl
theorem bindC_out {kindOf : Str → Option NameKind} {x : Str} : ∀ {binds : List (Str × Value)} {m : Str → Option Value}, (∀ v, (x, v) ∉ binds) → bindC kindOf binds m x = m x
  | [], _, _ => rfl
  | (n, v) :: r, m, h => by
    unfold bindC
    rw [bindC_out fun w hw => h w (List.mem_cons_of_mem _ hw)]
    split
    · rfl
    · have : x ≠ n := by rintro rfl; exact h v List.mem_cons_self
      simp [this]
theorem bindL_get {kindOf : Str → Option NameKind} {x : Str} {v : Value} : ∀ {P : List Str} {vs : List Value} {i : Nat} {m : Str → Option Value}, P.Nodup → P[i]? = some x → vs[i]? = some v → kindOf x = some .local →
    bindL kindOf (P.zip vs) m x = some v
  | [], _, _, _, _, h, _, _ => by simp at h
  | _ :: _, [], _, _, _, _, h, _ => by simp at h
  | p :: P, w :: vs, 0, m, nd, h1, h2, hk => by
    simp at h1 h2; subst h1; subst h2
    show bindL kindOf ((p, w) :: P.zip vs) m p = _
    unfold bindL
    rw [bindL_out fun v hv => (List.nodup_cons.mp nd).1 (List.of_mem_zip hv).1, if_pos hk]
    simp
  | p :: P, w :: vs, i + 1, m, nd, h1, h2, hk => by
    show bindL kindOf ((p, w) :: P.zip vs) m x = _
    unfold bindL
    exact bindL_get (i := i) (List.nodup_cons.mp nd).2 (by simpa using h1) (by simpa using h2) hk
theorem bindC_get {kindOf : Str → Option NameKind} {x : Str} {v : Value} : ∀ {P : List Str} {vs : List Value} {i : Nat} {m : Str → Option Value}, P.Nodup → P[i]? = some x → vs[i]? = some v → kindOf x ≠ some .local →
    bindC kindOf (P.zip vs) m x = some v
  | [], _, _, _, _, h, _, _ => by simp at h
  | _ :: _, [], _, _, _, _, h, _ => by simp at h
  | p :: P, w :: vs, 0, m, nd, h1, h2, hk => by
    simp at h1 h2; subst h1; subst h2
    show bindC kindOf ((p, w) :: P.zip vs) m p = _
    unfold bindC
    rw [bindC_out fun v hv => (List.nodup_cons.mp nd).1 (List.of_mem_zip hv).1, if_neg hk]
    simp
  | p :: P, w :: vs, i + 1, m, nd, h1, h2, hk => by
    show bindC kindOf ((p, w) :: P.zip vs) m x = _
    unfold bindC
    exact bindC_get (i := i) (List.nodup_cons.mp nd).2 (by simpa using h1) (by simpa using h2) hk

def start (N : List Str) (vs : List V) : St := vs.map some ++ List.replicate (N.length - vs.length) none

def cxOf (CX : CXT) (P : Program) (w : World) (K : PySem.W.Frag) (mg : Str → Option Value) (base : Heap) (N : List Str) (qual : Str) (scope : Scope) (f : Addr) (cd : Value) (A : Around) (outer : List Env) (s : Shared) (H : Hp) (E : XK) : Cx where
  prog := P
  w := w
  K := K
  mg := mg
  base := base
  A := A.deeper (envOfC qual scope s.heap.objs.size f cd)
  N := N
  s_0 := s
  H_0 := H
  env := envOfC qual scope s.heap.objs.size f cd
  outer := outer
  stack := envOfC qual scope s.heap.objs.size f cd :: outer
  ex := []
  calm := true
  fn := fun _ => true
  pn := []
  xe := fun e s' => wpAny (model P w) (A.deeper (envOfC qual scope s.heap.objs.size f cd)) (leaving (envOfC qual scope s.heap.objs.size f cd) e) (fun _ s'' => CX outer H s E e s'') (fun e' s'' => CX outer H s E e' s'') s'

theorem cell_has {sc : Scope} {n : Nat} {x : Str} (h : sc.names.lookup x = some .cell) : ∃ c, (cellsFrom n sc.names []).lookup x = some c := by
  have q := PySem.W.cellsFrom_some sc.names n [] (.inl h)
  exact Option.isSome_iff_exists.mp q

theorem inv_start {CX : CXT} {P : Program} {w : World} {K : PySem.W.Frag} {mg : Str → Option Value} {base : Heap} {N ps : List Str} {qual : Str} {scope : Scope} {f : Addr} {cd : Value} {A : Around} {outer : List Env} {s s1 : Shared} {H : Hp} {E : XK} {us : List Value} {vs : List V}
    (S : FnScope N ps scope) (hd : A.handled = none) (e0 : Env0 P w K mg base A outer s H) (hl : vs.length = ps.length) (r : Vals vs us)
    (x : InCallC s s.heap.objs.size (bindL (envOfC qual scope s.heap.objs.size f cd).kindOf (ps.zip us) fun _ => none) (cellsFrom (s.heap.objs.size + 1) scope.names []) (bindC (envOfC qual scope s.heap.objs.size f cd).kindOf (ps.zip us) fun _ => none) s1) :
    Inv (cxOf CX P w K mg base N qual scope f cd A outer s H E) [] (start N vs) H s1 := by
  have hpl : ps.length ≤ N.length := by have := congrArg List.length S.pre; rw [List.length_take] at this; omega
  obtain ⟨h1, tk, rfl, hk⟩ := x.done
  have noA : ∀ b : Addr, b ∉ (cxOf CX P w K mg base N qual scope f cd A outer s H E).ex := fun b z => absurd (show b ∈ ([] : List Addr) from z) (by simp)
  refine ⟨⟨e0.mod, S.kind, rfl, rfl, Nat.le_refl _, fun y z c h1 h2 => ?_, fun y hy => ?_, fun y c _ h => ?_, fun _ => hd, Around.frames_deeper e0.frames, .inr ⟨rfl, rfl⟩, fun b z => absurd z (noA b), e0.bs, e0.bsz, fun b _ _ => noA b, fun b z => absurd z (noA b), e0.funs, e0.frf⟩,
    rfl, e0.bare, Un.kept hk, ⟨_, x.toInCall.ns, fun i y v h1 h2 h3 => ?_⟩, fun y c h => ⟨_, x.cell y c h⟩, e0.hok.fresh (Nat.le_refl _), fun y c h => ?_, fun p hp => absurd (show p ∈ ([] : List (Addr × Obj)) from hp) (by simp), e0.hok.kept hk, ?_⟩
  · exact name_of_addr x.apart (PySem.mem_of_lookup h1) (PySem.mem_of_lookup h2)
  · have hy : scope.names.lookup y = some .cell ∨ scope.names.lookup y = some .free := hy
    rcases hy with hy | hy
    · exact cell_has hy
    · exact absurd rfl (S.nofree _ (PySem.mem_of_lookup hy))
  · exact Nat.le_of_lt (x.above y c (PySem.mem_of_lookup h))
  · have hi : i < vs.length := by
      unfold start at h2
      by_cases hi : i < vs.length
      · exact hi
      · rw [List.getElem?_append_right (by simpa using hi)] at h2
        rw [List.getElem?_replicate] at h2
        split at h2 <;> cases h2
    have ha : vs[i]? = some v := by
      unfold start at h2
      rw [List.getElem?_append_left (by simpa using hi), List.getElem?_map] at h2
      cases e : vs[i]? with
      | none => rw [e] at h2; cases h2
      | some a => rw [e] at h2; cases h2; rfl
    obtain ⟨u, hu, rv⟩ := r.get ha
    have hp : ps[i]? = some y := by
      rw [← S.pre, List.getElem?_take_of_lt (by omega)]; exact h1
    have ndP : ps.Nodup := by rw [← S.pre]; exact S.nd.sublist (List.take_sublist _ _)
    refine ⟨u, rv, ?_⟩
    rcases S.par y (List.mem_of_getElem? hp) with k | k
    · exact .inl ⟨k, bindL_get ndP hp hu k⟩
    · obtain ⟨c, e⟩ := cell_has (n := s.heap.objs.size + 1) k
      refine .inr ⟨.inl k, c, e, ?_⟩
      have q := x.cell y c e
      rw [bindC_get ndP hp hu (by show scope.names.lookup y ≠ _; rw [k]; decide)] at q
      exact q
  · exact e0.hok.fresh (Nat.le_of_lt (x.above y c (PySem.mem_of_lookup h)))
  · unfold start
    show _ = N.length
    rw [List.length_append, List.length_map, List.length_replicate]
    omega

theorem fn_of {CX : CXT} {P : Program} {w : World} {K : PySem.W.Frag} {mg : Str → Option Value} {base : Heap} {k : Nat} {f : Addr} {name qual : Str} {params : Arguments} {body : List Stmt} {scope : Scope} {dV kV doc pm cdv ct oc : Value} {an od : Option Addr}
    {osl : Array (Option Value)} {N ps : List Str} {sp : Sp} (lk : K.lookup f = some ⟨oc, od, .func (PySem.W.fnOf name qual params body scope dV kV doc pm an cdv ct), osl⟩) (hcd : PySem.W.codeIn K cdv qual = true) (S : FnScope N ps scope)
    (len : ∀ vs H Q E, sp vs H Q E → vs.length = ps.length)
    (hbody : ∀ (A : Around) (outer : List Env) (s : Shared) (H : Hp) (vs : List V) (Q : VK) (E : XK), Room k (A.deeper (envOfC qual scope s.heap.objs.size f cdv)) → sp vs H Q E →
      ∃ t, PSs (cxOf CX P w K mg base N qual scope f cdv A outer s H E) body t ∧ t { nx := fun _ H' => Q .non H', rt := Q } (start N vs) H) :
    FnOk P w K mg base CX (k + 1) f (PySem.W.fnOf name qual params body scope dV kV doc pm an cdv ct) ps sp := by
  refine ⟨len, fun A outer s H args us vs Q E hr e0 hb r hsp => ?_⟩
  have hl := len _ _ _ _ hsp
  have KX : K.In s.heap := e0.mod.kin.keeps fun b o e => (e0.bs b o e).1
  have lim : s.heap.NoLimit := e0.mod.nolimit.keeps fun b o e => (e0.bs b o e).1
  have hkind : ∀ y ∈ ps.zip us, scope.names.lookup y.1 = some .local ∨ (scope.names.lookup y.1 = some .cell ∧ ((cellsFrom (s.heap.objs.size + 1) scope.names []).lookup y.1).isSome = true) := fun ⟨n, v⟩ hy => by
    rcases S.par n (List.of_mem_zip hy).1 with q | q
    · exact .inl q
    · exact .inr ⟨q, PySem.W.cellsFrom_some _ _ _ (.inl q)⟩
  refine codeAny_call_function hr.depth (KX _ _ lk) rfl S.co S.gen rfl (PySem.W.codeRec_of KX hcd) (hb _ _ _ _ ?_)
  refine wpAny_newFunctionEnv_cells S.kind hkind fun env he s1 x => ?_
  subst he
  refine ⟨lim.keeps x.toInCall.keep, codeAny_func ?_⟩
  obtain ⟨t, ht, hq⟩ := hbody A outer s H vs Q E (hr.deeper _) hsp
  have I : Inv (cxOf CX P w K mg base N qual scope f cdv A outer s H E) [] (start N vs) H s1 := inv_start S hr.hd e0 hl r x
  refine wpAny_mono (ht [] s1 (start N vs) H _ I hq) (fun fl s' hs => ?_) fun e s' hs => hs
  have fin : ∀ {σ' : St} {H' : Hp} {v : V} {u : Value}, Inv (cxOf CX P w K mg base N qual scope f cdv A outer s H E) [] σ' H' s' → RelV v u → Q v H' → CE outer P w H s Q u s' :=
    fun {σ' H' v u} J rv q => ⟨v, H', J.os, J.bare, J.base, J.hok, rv, q⟩
  cases fl with
  | ret u =>
    obtain ⟨v, σ', H', J, rv, q⟩ := hs
    exact fin J rv q
  | next =>
    obtain ⟨σ', H', J, q⟩ := hs
    exact fin (v := V.non) (u := Value.none) J rfl q
  | brk =>
    obtain ⟨_, _, _, q⟩ := hs
    exact False.elim q
  | cont =>
    obtain ⟨_, _, _, q⟩ := hs
    exact False.elim q
end L2

namespace L2
open PySem PySem.Spec PyProof.Rows
section
variable {X : Cx} {x : Str} {p pos : Pos} {e : Expr} {es : List Expr} {t : TA} {id T : String} {r : List V → Hp → VK → Prop}

def tCB (r : List V → Hp → VK → Prop) (t : TA) : TE := fun σ H Q => t σ H fun vs H1 => r vs H1 Q
theorem pe_callB (hc : CallR X (.builtin id) r) (hg : Gl X x) (hm : X.mg x = none) (hv : bootBuiltins x = some (.builtin id)) (ha : PA X (e :: es) t) (hn : x ≠ "__name__" := by decide) (hdb : (x == ("__debug__" : Str)) = false := by decide)
    (he : starEach (e :: es) X.env = (false, eval e X.env) :: starEach es X.env := by rfl) (hpl : (backTo pos (starEach es X.env)).any (·.1) = false := by rfl) : PE X (.Call (.Name x p) (e :: es) [] pos) (tCB r t) := by
  intro pins s σ H Q I h
  refine wpAny_Call_Name_kw (ld_blt I hg hm hv ?_ hn hdb)
  exact PyProof.Rows.callWith_builtin1 (thn (ha pos pins s σ H _ I h) fun us s1 ⟨vs, H1, I1, r1, q1⟩ => hc pins s1 σ H1 vs us Q I1 r1 q1) he hpl
theorem pe_callTy (hc : CallR X (.type T) r) (hg : Gl X x) (hm : X.mg x = none) (hv : bootBuiltins x = some (.type T)) (ha : PA X (e :: es) t) (hn : x ≠ "__name__" := by decide) (hdb : (x == ("__debug__" : Str)) = false := by decide)
    (he : starEach (e :: es) X.env = (false, eval e X.env) :: starEach es X.env := by rfl) (hpl : (backTo pos (starEach es X.env)).any (·.1) = false := by rfl) : PE X (.Call (.Name x p) (e :: es) [] pos) (tCB r t) := by
  intro pins s σ H Q I h
  refine wpAny_Call_Name_kw (ld_blt I hg hm hv ?_ hn hdb)
  exact PyProof.Rows.callWith_type1 (thn (ha pos pins s σ H _ I h) fun us s1 ⟨vs, H1, I1, r1, q1⟩ => hc pins s1 σ H1 vs us Q I1 r1 q1) he hpl
end
end L2

namespace HT
open PySem PyProof.Rows

def lexLt : List Int → List Int → Bool
  | [], [] => false
  | [], _ :: _ => true
  | _ :: _, [] => false
  | x :: xs, y :: ys => if x = y then lexLt xs ys else decide (x < y)
section
open PySem.SeqAt
open PySem.AutoSeq1 (wpAny_loadPart')
open PySem.MeetsSeq PySem.MeetsSeq2 PySem.MeetsSeq3

end

section
variable {prog : Program} {w : World} {A : Around} {E : Value → Shared → Prop} {s : Shared}

def sIx (n d : Nat) : Option Int → Nat
  | none => d
  | some v => if v < 0 then (v + (n : Int)).toNat else min v.toNat n
end
end HT

namespace L2
open PySem PySem.Spec PyProof.Rows

abbrev TO := St → Hp → (Option Int → Hp → Prop) → Prop
def PO (X : Cx) (e : Option Expr) (t : TO) : Prop :=
  ∀ (pins : List (Addr × Obj)) (s : Shared) (σ : St) (H : Hp) (Q : Option Int → Hp → Prop), Inv X pins σ H s → t σ H Q →
    wpAny (model X.prog X.w) X.A (evalPart e X.env) (fun u s' => ∃ o H', Inv X pins σ H' s' ∧ IsPart u o ∧ Q o H') X.xe s
def tNoPart : TO := fun _ H Q => Q none H
def tPart (t : TE) : TO := fun σ H Q => t σ H fun x H1 => ∃ i, x = .int i ∧ Q (some i) H1

section
variable {X : Cx} {e : Expr} {te : TE} {lo hi : Option Expr} {tl th : TO} {pos p2 : Pos}

theorem po_some (h : PE X e te) : PO X (some e) (tPart te) := by
  intro pins s σ H Q I hw
  rw [evalPart_some]
  refine thn (h pins s σ H _ I hw) fun u s1 ⟨x, H1, I1, r1, q1⟩ => ?_
  obtain ⟨i, rfl, q⟩ := q1
  obtain ⟨t, rfl⟩ := r1
  exact ⟨some i, H1, I1, .int i t, q⟩

def SlR (X : Cx) (r : V → Option Int → Option Int → Hp → VK → Prop) : Prop :=
  ∀ (pins : List (Addr × Obj)) (s : Shared) (σ : St) (H : Hp) (x : V) (v vl vu : Value) (lo hi : Option Int) (sl : Addr) (Q : VK), Inv X pins σ H s → RelV x v → s.heap.IsSliceOf sl vl vu .none → IsPart vl lo → IsPart vu hi → r x lo hi H Q →
    ∃ T id, typeLookup (.type T) "__getitem__" = pure (some (.builtin id)) ∧ s.TypeIs v T ∧ wpAny (model X.prog X.w) X.A (getItem v (.ref sl)) (EP X pins σ Q) X.xe s
def tSl (r : V → Option Int → Option Int → Hp → VK → Prop) (te : TE) (tl th : TO) : TE := fun σ H Q => te σ H fun x H1 => tl σ H1 fun l H2 => th σ H2 fun u H3 => r x l u H3 Q
theorem pe_slice {r : V → Option Int → Option Int → Hp → VK → Prop} (hr : SlR X r) (he : PE X e te) (hl : PO X lo tl) (hu : PO X hi th) : PE X (.Subscript e (.Slice lo hi none p2) pos) (tSl r te tl th) := by
  intro pins s σ H Q I h
  refine Subscript_ (thn (he pins s σ H _ I h) fun v s1 ⟨x, H1, I1, r1, q1⟩ => ?_)
  refine wpAny_Slice (thn (hl pins s1 σ H1 _ I1 q1) fun vl s2 ⟨l, H2, I2, pl, q2⟩ => thn (hu pins s2 σ H2 _ I2 q2) fun vu s3 ⟨u, H3, I3, pu, q3⟩ => ?_)
  rw [evalPart_none]
  refine wpAny_pure ?_
  have I4 : Inv X pins σ H3 { s3 with heap := s3.heap.push { cls := .type "slice", data := .fields #[vl, vu, .none] } } := I3.kept (t' := s3.toks) fun b ob q => Heap.get?_push_of_some _ q
  obtain ⟨T, id, hT, ht, hg⟩ := hr pins { s3 with heap := s3.heap.push { cls := .type "slice", data := .fields #[vl, vu, .none] } } σ H3 x v vl vu l u s3.heap.objs.size Q I4 r1 (Heap.IsSliceOf.new ..) pl pu q3
  show wpAny (model X.prog X.w) X.A (subscriptTail e (.Slice lo hi none p2) v (.ref s3.heap.objs.size)) (EP X pins σ Q) X.xe { s3 with heap := s3.heap.push { cls := .type "slice", data := .fields #[vl, vu, .none] } }
  exact tail_any (ops := [.ref s3.heap.objs.size, v]) ht hT hg (by with_unfolding_all rfl)

def cutV (xs : List V) (lo hi : Option Int) : List V := (xs.drop (HT.sIx xs.length 0 lo)).take (HT.sIx xs.length xs.length hi - HT.sIx xs.length 0 lo)
theorem cutV_length (xs : List V) (lo hi : Option Int) : (cutV xs lo hi).length ≤ xs.length := by
  unfold cutV
  rw [List.length_take, List.length_drop]
  omega
def rSlT (K : PySem.W.Frag) : V → Option Int → Option Int → Hp → VK → Prop := fun x lo hi H Q => ∃ a xs, x = .ref a ∧ SqT K H a xs ∧
  ¬ (HT.sIx xs.length 0 lo = 0 ∧ HT.sIx xs.length xs.length hi = xs.length) ∧ ∀ p, H p = none → Q (.ref p) (upd H p (.tup (cutV xs lo hi)))
def rLtT (K : PySem.W.Frag) : R2 := fun x y H Q => ∃ a b ns ms, x = .ref a ∧ y = .ref b ∧ SqT K H a (ns.map V.int) ∧ SqT K H b (ms.map V.int) ∧ Q (.bl (HT.lexLt ns ms)) H
def rCatT (K : PySem.W.Frag) : R2 := fun x y H Q => ∃ a b xs ys, x = .ref a ∧ y = .ref b ∧ SqT K H a xs ∧ SqT K H b ys ∧ xs ≠ [] ∧ xs.length + ys.length ≤ sizeLine ∧
  (ys = [] → Q (.ref a) H) ∧ (ys ≠ [] → ∀ p, H p = none → Q (.ref p) (upd H p (.tup (xs ++ ys))))
end
end L2

namespace L2
open PySem PySem.Spec PyProof.Rows

def ixN (n : Nat) (i : Int) : Option Nat := if 0 ≤ i then (if i < n then some i.toNat else none) else if -(n : Int) ≤ i then some (i + n).toNat else none
def atI {α : Type} (xs : List α) (i : Int) : Option α := (ixN xs.length i).bind fun j => xs[j]?
theorem ixN_seq {n : Nat} {i : Int} {j : Nat} (h : ixN n i = some j) : seqIndex? i n = some j ∧ j < n ∧ -(n : Int) ≤ i ∧ i < n := by
  unfold ixN at h
  by_cases h0 : 0 ≤ i
  · rw [if_pos h0] at h
    by_cases h1 : i < n
    · rw [if_pos h1] at h
      have e : i.toNat = j := Option.some.inj h
      exact ⟨by rw [seqIndex_of h0 h1, e], by omega, by omega, h1⟩
    · rw [if_neg h1] at h; cases h
  · rw [if_neg h0] at h
    by_cases h1 : -(n : Int) ≤ i
    · rw [if_pos h1] at h
      have e : (i + n).toNat = j := Option.some.inj h
      exact ⟨by rw [seqIndex_neg (by omega) h1, e], by omega, h1, by omega⟩
    · rw [if_neg h1] at h; cases h
theorem atI_get {α : Type} {xs : List α} {i : Int} {v : α} (h : atI xs i = some v) : ∃ j, seqIndex? i xs.length = some j ∧ xs[j]? = some v ∧ j < xs.length ∧ -(xs.length : Int) ≤ i ∧ i < xs.length := by
  unfold atI at h
  cases e : ixN xs.length i with
  | none => rw [e] at h; cases h
  | some j =>
    rw [e] at h
    obtain ⟨h1, h2, h3, h4⟩ := ixN_seq e
    exact ⟨j, h1, h, h2, h3, h4⟩
theorem atI_nat {α : Type} {xs : List α} {j : Nat} {v : α} (h : xs[j]? = some v) : atI xs (j : Int) = some v := by
  have hj : j < xs.length := (List.getElem?_eq_some_iff.mp h).1
  have e : ixN xs.length (j : Int) = some j := by
    unfold ixN
    rw [if_pos (by omega), if_pos (by omega)]; simp
  unfold atI; rw [e]; exact h
def PlainIx (b : Expr) : Prop := ∀ o i, subscripted b false o i = operate [o, i] (getItem o i)
def IxR (X : Cx) (r : R2) : Prop :=
  ∀ (value slice : Expr) (pins : List (Addr × Obj)) (s : Shared) (σ : St) (H : Hp) (x y : V) (v u : Value) (Q : VK), Inv X pins σ H s → RelV x v → RelV y u → r x y H Q →
    subscripted slice false v u = operate [v, u] (getItem v u) → wpAny (model X.prog X.w) X.A (subscriptTail value slice v u) (EP X pins σ Q) X.xe s
def MtR (X : Cx) (id : String) (r : V → List V → Hp → VK → Prop) : Prop :=
  ∀ (pins : List (Addr × Obj)) (s : Shared) (σ : St) (H : Hp) (x : V) (xs : List V) (v : Value) (us : List Value) (Q : VK), Inv X pins σ H s → RelV x v → Vals xs us → r x xs H Q →
    wpAny (model X.prog X.w) X.A (call (.builtin id) (v :: us)) (EP X pins σ Q) X.xe s
section
variable {X : Cx} {a b : Expr} {ta tb : TE} {pos : Pos}
theorem pe_ix {r : R2} (hr : IxR X r) (ha : PE X a ta) (hb : PE X b tb) (hs : PlainIx b) : PE X (.Subscript a b pos) (tOp r ta tb) := by
  intro pins s σ H Q I h
  exact Subscript_ (binT ha hb I h fun v u s2 x y H2 I2 rx ry q => hr a b pins s2 σ H2 x y v u Q I2 rx ry q (hs _ _))

def rIxL (K : PySem.W.Frag) : R2 := fun x y H Q => ∃ p xs i v, x = .ref p ∧ y = .int i ∧ SqL K H p xs ∧ atI xs i = some v ∧ Q v H
def rIxT (K : PySem.W.Frag) : R2 := fun x y H Q => ∃ p xs i v, x = .ref p ∧ y = .int i ∧ SqT K H p xs ∧ atI xs i = some v ∧ Q v H
def rIxS : R2 := fun x y H Q => ∃ z i c, x = .str z ∧ y = .int i ∧ z.length ≤ sizeLine ∧ atI z.cps.toList i = some c ∧ Q (.str ⟨#[c]⟩) H
theorem ix_list : IxR X (rIxL X.K) := by
  intro value slice pins s σ H x y v u Q I rx ry h hs
  obtain ⟨p, xs, i, z, rfl, rfl, hq, he, q⟩ := h
  cases rx
  obtain ⟨t, rfl⟩ := ry
  obtain ⟨its, r, pl, hz⟩ := I.list hq
  obtain ⟨j, h1, h2, h3, h4, h5⟩ := atI_get he
  obtain ⟨w, ew, rw'⟩ := r.get h2
  have hl := r.length
  have hn := line63
  have fin : EP X pins σ Q w s := ⟨z, H, I, rw', q⟩
  by_cases h0 : 0 ≤ i
  · have hj : i.toNat = j := by
      rw [seqIndex_of h0 h5] at h1
      exact Option.some.inj h1
    exact item_listR pl.isList h0 (by omega) (by rw [hj]; simpa using ew) fin hs
  · have hj : (i + (its.toArray.size : Int)).toNat = j := by
      rw [seqIndex_neg (by omega) h4] at h1
      rw [List.size_toArray, ← hl]
      exact Option.some.inj h1
    exact subscriptTail_builtinR (x := w) pl.isList.typeIs slot_list_getitem.lookup
      (wpAny_getItem_list_neg (Q := fun r s' => r = w ∧ EP X pins σ Q r s') pl.isList (by omega) (by rw [List.size_toArray] <;> omega) (by omega) (by rw [hj]; simpa using ew) ⟨rfl, fin⟩) hs
theorem ix_tup : IxR X (rIxT X.K) := by
  intro value slice pins s σ H x y v u Q I rx ry h hs
  obtain ⟨p, xs, i, z, rfl, rfl, hq, he, q⟩ := h
  cases rx
  obtain ⟨t, rfl⟩ := ry
  obtain ⟨its, r, pl, hz⟩ := I.tuple hq
  obtain ⟨j, h1, h2, h3, h4, h5⟩ := atI_get he
  obtain ⟨w, ew, rw'⟩ := r.get h2
  have hl := r.length
  have hn := line63
  have fin : EP X pins σ Q w s := ⟨z, H, I, rw', q⟩
  exact subscriptTail_builtinR (x := w) pl.typeIs slot_tuple_getitem.lookup
    (getItem_tuple (j := j) (Q := fun r s' => r = w ∧ EP X pins σ Q r s') pl (by omega) (by omega) (by rw [List.size_toArray, ← hl]; exact h1) (by simpa using ew) ⟨rfl, fin⟩) hs
def rIx (K : PySem.W.Frag) : R2 := fun x y H Q => rIxL K x y H Q ∨ rIxT K x y H Q ∨ rIxS x y H Q
theorem mapSeq_set (its : List Value) (n j : Nat) (u : Value) : Obj.mapSeq (·.setIfInBounds j u) { cls := .type "list", data := .seq its.toArray n } = { cls := .type "list", data := .seq (its.set j u).toArray n } := by
  simp [Obj.mapSeq]
theorem Inv.lst {pins : List (Addr × Obj)} {σ : St} {H : Hp} {s : Shared} {p : Addr} {xs : List V} (I : Inv X pins σ H s) (h : H p = some (.lst xs)) :
    ∃ (its : List Value) (n : Nat), Vals xs its ∧ s.heap.get? p = some { cls := .type "list", data := .seq its.toArray n } ∧ xs.length ≤ sizeLine := by
  obtain ⟨z, its, n, r, e⟩ := I.hok p _ h
  exact ⟨its, n, r, e, z⟩
theorem Inv.lstUpd {pins : List (Addr × Obj)} {σ : St} {H : Hp} {s : Shared} {p : Addr} {xs ys : List V} {its its' : List Value} {n n' : Nat} {f : Obj → Obj} (I : Inv X pins σ H s) (h : H p = some (.lst xs))
    (ho : s.heap.get? p = some { cls := .type "list", data := .seq its.toArray n }) (hf : f { cls := .type "list", data := .seq its.toArray n } = { cls := .type "list", data := .seq its'.toArray n' }) (r : Vals ys its') (hz : ys.length ≤ sizeLine) (t : Nat) :
    Inv X pins σ (upd H p (.lst ys)) { s with heap := s.heap.update p f, toks := t } := by
  have e : (s.heap.update p f).get? p = some { cls := .type "list", data := .seq its'.toArray n' } := by
    rw [Heap.get?_update_self f ho (by rw [hf] <;> rfl), hf]
  refine I.write (x := p) (e := p) (by rw [h]; trivial) (.inl rfl) (fun b u hb q => (Heap.get?_update_other _ _ (Ne.symm hb)).trans q) ⟨_, e⟩ ?_
  exact ⟨hz, its', n', r, e⟩
def rSetL : V → V → V → Hp → (Hp → Prop) → Prop := fun o i v H Q => ∃ p xs k j, o = .ref p ∧ i = .int k ∧ H p = some (.lst xs) ∧ ixN xs.length k = some j ∧ Q (upd H p (.lst (xs.set j v)))
theorem set_list : PSet X rSetL := by
  intro pins s σ H o i v ov iv u Q I ro ri rv h
  obtain ⟨p, xs, k, j, rfl, rfl, hp, hj, q⟩ := h
  cases ro
  obtain ⟨t, rfl⟩ := ri
  obtain ⟨its, n, r, ho, hz⟩ := I.lst hp
  obtain ⟨h1, h2, h3, h4⟩ := ixN_seq hj
  have hl := r.length
  have hn := line63
  have I' : Inv X pins σ (upd H p (.lst (xs.set j v))) { s with heap := s.heap.update p (Obj.mapSeq (·.setIfInBounds j u)) } :=
    I.lstUpd hp ho (mapSeq_set its n j u) (r.set rv j) (by rw [List.length_set]; exact hz) s.toks
  by_cases h0 : 0 ≤ k
  · have hk : k.toNat = j := by
      rw [seqIndex_of h0 h4] at h1
      exact Option.some.inj h1
    exact PySem.W.ki_setAt ho h0 (by omega) (by rw [List.size_toArray, ← hl]; exact h4) (by rw [hk]; exact ⟨_, I', q⟩)
  · have hk : (k + (its.toArray.size : Int)).toNat = j := by
      rw [seqIndex_neg (by omega) h3] at h1
      rw [List.size_toArray, ← hl]
      exact Option.some.inj h1
    exact PySem.W.ki_setBack ho (by omega) (by rw [List.size_toArray, ← hl]; exact h3) (by omega) (by rw [hk]; exact ⟨_, I', q⟩)

theorem slice_bounds (lo hi : Option Int) (n : Nat) : (sliceBounds lo hi none n).1 = ((HT.sIx n 0 lo : Nat) : Int) ∧ (sliceBounds lo hi none n).2.1 = ((HT.sIx n n hi : Nat) : Int) ∧ (sliceBounds lo hi none n).2.2 = 1 := by
  refine ⟨?_, ?_, rfl⟩
  · cases lo with
    | none => simp [sliceBounds, HT.sIx]
    | some i =>
      simp only [sliceBounds, HT.sIx, Option.getD_none, show (1 : Int) > 0 by decide, if_true]
      by_cases h : i < 0
      · simp only [h, if_true] <;> omega
      · simp only [h, if_false] <;> omega
  · cases hi with
    | none => simp [sliceBounds, HT.sIx]
    | some i =>
      simp only [sliceBounds, HT.sIx, Option.getD_none, show (1 : Int) > 0 by decide, if_true]
      by_cases h : i < 0
      · simp only [h, if_true] <;> omega
      · simp only [h, if_false] <;> omega
theorem slicePick_cut (its : List Value) (lo hi : Option Int) : slicePick its.toArray lo hi none = ((its.drop (HT.sIx its.length 0 lo)).take (HT.sIx its.length its.length hi - HT.sIx its.length 0 lo)).toArray := by
  obtain ⟨h1, h2, h3⟩ := slice_bounds lo hi its.toArray.size
  unfold slicePick
  rw [h1, h2, h3]
  simp only [sliceRange_one, pick_run, List.size_toArray] <;> rfl
def rSlL (K : PySem.W.Frag) : V → Option Int → Option Int → Hp → VK → Prop := fun x lo hi H Q => ∃ a xs, x = .ref a ∧ SqL K H a xs ∧ ∀ p, H p = none → Q (.ref p) (upd H p (.lst (cutV xs lo hi)))
theorem sl_list : SlR X (rSlL X.K) := by
  intro pins s σ H x v vl vu lo hi sl Q I rx hs pl pu h
  obtain ⟨a, xs, rfl, hx, q⟩ := h
  cases rx
  obtain ⟨its, r, ht, hz⟩ := I.list hx
  have hlen := r.length
  refine ⟨"list", _, slot_list_getitem.lookup, ht.isList.typeIs, ?_⟩
  refine wpAny_getItem_list_slice ht.isList hs pl pu .none (by simp) ?_ (by rw [List.size_toArray] <;> omega)
  rw [slicePick_cut, ← hlen]
  refine ⟨.ref s.heap.objs.size, _, I.laid (t' := s.toks) (o := .lst (cutV xs lo hi)) (fun b ob q => Heap.get?_push_of_some _ q) (Nat.le_refl _) ?_, rfl, q _ (I.hok.fresh (Nat.le_refl _))⟩
  exact ⟨Nat.le_trans (cutV_length xs lo hi) hz, _, 0, (r.drop (HT.sIx xs.length 0 lo)).take (HT.sIx xs.length xs.length hi - HT.sIx xs.length 0 lo), Heap.get?_push_size _ rfl⟩

def flatV : V → Bool
  | .non => true
  | .bl _ => true
  | .int _ => true
  | .str _ => true
  | _ => false
def eqV : V → V → Bool
  | .non, .non => true
  | .bl a, .bl b => a == b
  | .bl a, .int b => (if a then 1 else 0) == b
  | .int a, .bl b => a == (if b then 1 else 0)
  | .int a, .int b => a == b
  | .str a, .str b => a == b
  | _, _ => false
def eqU (x : V) (u : Value) : Bool := match u with
  | .none => eqV .non x
  | .bool b => eqV (.bl b) x
  | .int i _ => eqV (.int i) x
  | .str z _ => eqV (.str z) x
  | _ => false
def inV (x : V) (xs : List V) : Bool := xs.any fun y => eqV y x
def rIn (K : PySem.W.Frag) (neg : Bool) : R2 := fun x y H Q => ∃ p xs, y = .ref p ∧ (SqL K H p xs ∨ SqT K H p xs) ∧ flatV x = true ∧ xs.all flatV = true ∧ Q (.bl (if neg then !inV x xs else inV x xs)) H
theorem call_len_seq : CallR X (.builtin "len") (fun xs H Q => ∃ p ys, xs = [.ref p] ∧ (SqL X.K H p ys ∨ SqT X.K H p ys) ∧ Q (.int ys.length) H) := by
  intro pins s σ H xs us Q I r h
  obtain ⟨p, ys, rfl, hq, q⟩ := h
  obtain ⟨u, rfl, rx⟩ := vals1 r
  cases rx
  have hn := line63
  rcases hq with hq | hq
  · obtain ⟨its, r', pl, hz⟩ := I.list hq
    have hlen := r'.length
    exact Calls.call_len_list pl.isList (by simp only [List.size_toArray] <;> omega) ⟨.int ys.length, H, I.tok _, ⟨s.toks + 1, by rw [List.size_toArray, hlen]⟩, q⟩
  · obtain ⟨its, r', pl, hz⟩ := I.tuple hq
    have hlen := r'.length
    exact len_tuple pl (by simp only [List.size_toArray] <;> omega) ⟨.int ys.length, H, I.tok _, ⟨s.toks + 1, by rw [List.size_toArray, hlen]⟩, q⟩
theorem call_list_of : CallR X (.type "list") (fun xs H Q => ∃ p ys, xs = [.ref p] ∧ (SqL X.K H p ys ∨ SqT X.K H p ys) ∧ ∀ l, H l = none → Q (.ref l) (upd H l (.lst ys))) := by
  intro pins s σ H xs us Q I r h
  obtain ⟨p, ys, rfl, hq, q⟩ := h
  obtain ⟨u, rfl, rx⟩ := vals1 r
  cases rx
  have fin : ∀ (its : List Value), Vals ys its → ys.length ≤ sizeLine → ∀ (h' : Heap) (c' : Nat), (∀ b o', s.heap.get? b = some o' → h'.get? b = some o') →
      h'.get? s.heap.objs.size = some { cls := .type "list", dict := none, data := .seq its.toArray c', slots := #[] } → EP X pins σ Q (.ref s.heap.objs.size) { s with heap := h' } := fun its r' hz h' c' kp e =>
    ⟨.ref s.heap.objs.size, _, I.laid (t' := s.toks) kp (Nat.le_refl _) (show ObjOk X.prog X.w _ h' _ (.lst ys) from ⟨hz, its, c', r', e⟩), rfl, q _ (I.hok.fresh (Nat.le_refl _))⟩
  rcases hq with hq | hq
  · obtain ⟨its, r', pl, hz⟩ := I.list hq
    have hlen := r'.length
    obtain ⟨o, ho, hc, n, hd⟩ := pl.isList
    exact call_list_seq p (.inl rfl) ho hc hd (fun h' c' kp e => fin its r' hz h' c' kp e) (by simp only [List.size_toArray] <;> omega)
  · obtain ⟨its, r', pl, hz⟩ := I.tuple hq
    have hlen := r'.length
    obtain ⟨o, ho, hc, n, hd⟩ := pl
    exact call_list_seq p (.inr rfl) ho hc hd (fun h' c' kp e => fin its r' hz h' c' kp e) (by simp only [List.size_toArray] <;> omega)
def tyV (K : PySem.W.Frag) (T : String) (x : V) (H : Hp) : Prop := match x with
  | .str _ => T = "str"
  | .int _ => T = "int"
  | .ref p => (T = "list" ∧ ∃ xs, SqL K H p xs) ∨ (T = "tuple" ∧ ∃ o, K.lookup p = some o ∧ o.cls = .type "tuple" ∧ o.dict = none) ∨
      (T = "dict" ∧ ((∃ kvs, H p = some (.dK kvs)) ∨ ∃ kvs, H p = some (.dT kvs))) ∨ (T = "set" ∧ ∃ S n, H p = some (.set S n))
  | _ => False
theorem tyV_is {pins : List (Addr × Obj)} {σ : St} {H : Hp} {s : Shared} {T : String} {x : V} {v : Value} (I : Inv X pins σ H s) (r : RelV x v) (ty : tyV X.K T x H) :
    s.TypeIs v T ∧ ∀ a, v = .ref a → ∃ ob, s.heap.get? a = some ob ∧ ob.dict = none := by
  cases x with
  | str z =>
    obtain ⟨t, rfl⟩ := r
    cases (show T = "str" from ty)
    exact ⟨typeIs_str s z t, fun _ e => nomatch e⟩
  | int i =>
    obtain ⟨t, rfl⟩ := r
    cases (show T = "int" from ty)
    exact ⟨typeIs_int s i t, fun _ e => nomatch e⟩
  | ref p =>
    cases r
    rcases ty with ⟨rfl, xs, hq⟩ | ⟨rfl, o, hk, hc, hd⟩ | ⟨rfl, hk⟩ | ⟨rfl, S, n, hk⟩
    · obtain ⟨its, _, pl, _⟩ := I.list hq
      refine ⟨pl.isList.typeIs, fun a e => ?_⟩
      cases e
      obtain ⟨o, n, e, c, hd, _⟩ := pl
      exact ⟨o, e, hd⟩
    · refine ⟨⟨o, I.kIn p o hk, hc⟩, fun a e => ?_⟩
      cases e
      exact ⟨o, I.kIn _ o hk, hd⟩
    · have z : ∃ o, s.heap.get? p = some o ∧ o.ExactDict := by
        rcases hk with ⟨kvs, hk⟩ | ⟨kvs, hk⟩
        · obtain ⟨_, _, _, _, o, _, _, e, ex, _⟩ := I.hok p _ hk
          exact ⟨o, e, ex⟩
        · obtain ⟨_, _, _, _, o, _, _, e, ex, _⟩ := I.hok p _ hk
          exact ⟨o, e, ex⟩
      obtain ⟨o, e, ex⟩ := z
      refine ⟨⟨o, e, ex.1⟩, fun a e2 => ?_⟩
      cases e2
      exact ⟨o, e, ex.2.1⟩
    · obtain ⟨o, _, _, _, e, ex, _⟩ := I.hok p _ hk
      refine ⟨⟨o, e, ex.1⟩, fun a e2 => ?_⟩
      cases e2
      exact ⟨o, e, ex.2.1⟩
  | _ => exact False.elim ty
def tBM0 (K : PySem.W.Frag) (T : String) (r : V → List V → Hp → VK → Prop) (to : TE) : TE := fun σ H Q => to σ H fun x H1 => tyV K T x H1 ∧ r x [] H1 Q
def tBM (K : PySem.W.Frag) (T : String) (r : V → List V → Hp → VK → Prop) (to : TE) (t : TA) : TE := fun σ H Q => to σ H fun x H1 => tyV K T x H1 ∧ t σ H1 fun xs H2 => r x xs H2 Q
variable {o e : Expr} {es : List Expr} {to : TE} {t : TA} {name : Str} {apos cpos : Pos} {T id : String} {r : V → List V → Hp → VK → Prop}
theorem pe_bm (pa : PlainAttrs T) (slot : Slot T name id) (hty : typeOf (.builtin id) = pure (.type "method_descriptor")) (hm : MtR X id r) (ho : PE X o to) (ha : PA X (e :: es) t)
    (hbase : attributeBase o name X.env (eval o X.env) = eval o X.env := by rfl)
    (hfew : ((backTo cpos (starEach (e :: es) X.env)).all (fun x => !x.1) && (backToKw cpos (keywordEach [] X.env)).all (fun x => x.1.isSome)
      && decide ((e :: es).length + ([] : List Keyword).length + (if ([] : List Keyword).isEmpty then 0 else 1) < 30)) = true := by rfl)
    (hline : (apos.endLine == cpos.line) = true := by rfl) (hs : starEach (e :: es) X.env = (false, eval e X.env) :: starEach es X.env := by rfl) (hplain : (backTo cpos (starEach es X.env)).any (·.1) = false := by rfl) :
    PE X (.Call (.Attribute o name apos) (e :: es) [] cpos) (tBM X.K T r to t) := by
  intro pins s σ H Q I h
  refine wpAny_Call_method_late hbase hfew hline rfl (thn (ho pins s σ H _ I h) fun v s1 ⟨x, H1, I1, r1, ty, q1⟩ => ?_)
  obtain ⟨h1, h2⟩ := tyV_is I1 r1 ty
  refine ⟨T, id, pa, slot, hty, h1, h2, ?_⟩
  have hA := ha cpos pins s1 σ H1 _ I1 q1
  rw [hs] at hA ⊢
  refine Calls.callWith_builtin (by show (false || (backTo cpos (starEach es X.env)).any (·.1)) = false; rw [hplain] <;> rfl) (Calls.evalArgs_plain ?_)
  exact thn hA fun us s2 ⟨vs, H2, I2, r2, q2⟩ => hm pins s2 σ H2 x vs v us Q I2 r1 r2 q2
/- xs.append(e), list.index on a module's tuple .. are MtR facts of 06m -/
end
end L2

namespace L2
open PySem PySem.Spec PyProof.Rows

def MtM (X : Cx) (id : String) (r : V → List V → Hp → VK → Prop) : Prop :=
  ∀ (pins : List (Addr × Obj)) (s : Shared) (σ : St) (H : Hp) (x : V) (xs : List V) (v : Value) (us : List Value) (Q : VK), Inv X pins σ H s → RelV x v → Vals xs us → r x xs H Q →
    wpAny (model X.prog X.w) X.A (call (.builtin id) (v :: us)) (EP X pins σ Q) X.xe s

theorem Vals.one : ∀ {x : V} {us : List Value}, Vals [x] us → ∃ u, us = [u] ∧ RelV x u
  | _, _, .cons r .nil => ⟨_, rfl, r⟩
theorem Vals.rep {xs : List V} {us : List Value} (h : Vals xs us) : ∀ k : Nat, Vals (List.replicate k xs).flatten (List.replicate k us).flatten
  | 0 => .nil
  | k + 1 => by
    rw [List.replicate_succ, List.replicate_succ, List.flatten_cons, List.flatten_cons]
    exact Vals.append h (Vals.rep h k)
theorem foldl_rep (its : List Value) : ∀ (k : Nat) (acc : List Value),
    List.foldl (fun x1 x2 => x1 ++ x2) acc.toArray (List.replicate k its.toArray) = (acc ++ (List.replicate k its).flatten).toArray
  | 0, acc => by simp
  | k + 1, acc => by
    have e : acc.toArray ++ its.toArray = (acc ++ its).toArray := by simp
    have e2 : (acc ++ its) ++ (List.replicate k its).flatten = acc ++ (List.replicate (k + 1) its).flatten := by
      rw [List.replicate_succ, List.flatten_cons, List.append_assoc]
    rw [← e2, ← foldl_rep its k (acc ++ its), ← e, List.replicate_succ, List.foldl_cons]

section
variable {X : Cx} {pins : List (Addr × Obj)} {σ : St} {H : Hp} {s : Shared} {l b : Addr} {xs ys zs : List V}

theorem Inv.lset {its its' : List Value} {n : Nat} {f : Array Value → Array Value} {t' : Nat} (I : Inv X pins σ H s) (hH : H l = some (.lst xs))
    (e : s.heap.get? l = some { cls := .type "list", data := .seq its.toArray n }) (hf : f its.toArray = its'.toArray) (hv : Vals ys its') (hz : ys.length ≤ sizeLine) :
    Inv X pins σ (upd H l (.lst ys)) { s with heap := s.heap.update l (Obj.mapSeq f), toks := t' } := by
  have q := PySem.IsL.update e f
  rw [hf] at q
  refine I.write (x := l) (e := l) (by rw [hH]; exact trivial) (.inl rfl) (fun b' u hb hu => (Heap.get?_update_other s.heap (Obj.mapSeq f) (Ne.symm hb)).trans hu) ⟨_, q⟩ ?_
  exact ⟨hz, its', _, hv, q⟩
theorem Inv.lnew {its : List Value} {t' : Nat} (I : Inv X pins σ H s) (hv : Vals ys its) (hz : ys.length ≤ sizeLine) :
    Inv X pins σ (upd H s.heap.objs.size (.lst ys)) { s with heap := s.heap.push { cls := .type "list", data := .seq its.toArray }, toks := t' } :=
  I.laid (fun _ _ q => Heap.get?_push_of_some _ q) (Nat.le_refl _) ⟨hz, its, 0, hv, Heap.get?_push_size _ rfl⟩
theorem Inv.fresh (I : Inv X pins σ H s) : H s.heap.objs.size = none := I.hok.fresh (Nat.le_refl _)
theorem Inv.lstM (I : Inv X pins σ H s) (hH : H l = some (.lst xs)) : xs.length ≤ sizeLine ∧ ∃ (its : List Value) (n : Nat), Vals xs its ∧ xs.length = its.length ∧ s.heap.get? l = some { cls := .type "list", data := .seq its.toArray n } := by
  obtain ⟨z, its, n, r, e⟩ := I.hok l _ hH
  exact ⟨z, its, n, r, r.length, e⟩

theorem notLongL {n : Nat} (h : n ≤ sizeLine) : Builtin.List.listTooLong n = false := by
  unfold Builtin.List.listTooLong
  exact decide_eq_false (by omega)
end

section
variable {X : Cx}

def rAppend : V → List V → Hp → VK → Prop := fun x vs H Q => ∃ l xs y, x = .ref l ∧ vs = [y] ∧ H l = some (.lst xs) ∧ xs.length < sizeLine ∧ Q .non (upd H l (.lst (xs ++ [y])))
theorem mt_append : MtM X "list.append" rAppend := by
  intro pins s σ H x vs v us Q I rx rv h
  obtain ⟨l, xs, y, rfl, rfl, hH, hz, q⟩ := h
  cases rx
  obtain ⟨u, rfl, ru⟩ := rv.one
  obtain ⟨z, its, n, r, hl, e⟩ := I.lstM hH
  refine call_meets F.slot_list_append ⟨_, e, rfl⟩ F.entry_list_append (F.args_list_append_2 _ _) (PySem.list_append l its.toArray n u (by rw [List.size_toArray]; omega)) ⟨e, ?_⟩
  refine ⟨.non, _, I.lset (its' := its ++ [u]) hH e (by simp) (r.append (.cons ru .nil)) ?_, rfl, q⟩
  rw [List.length_append, List.length_singleton]
  omega

def rExtend : V → List V → Hp → VK → Prop := fun x vs H Q => ∃ l b xs zs, x = .ref l ∧ vs = [.ref b] ∧ H l = some (.lst xs) ∧ H b = some (.lst zs) ∧ xs.length + zs.length ≤ sizeLine ∧ Q .non (upd H l (.lst (xs ++ zs)))
theorem mt_extend : MtM X "list.extend" rExtend := by
  intro pins s σ H x vs v us Q I rx rv h
  obtain ⟨l, b, xs, zs, rfl, rfl, hH, hB, hz, q⟩ := h
  cases rx
  obtain ⟨u, rfl, ru⟩ := rv.one
  cases ru
  obtain ⟨z, its, n, r, hl, e⟩ := I.lstM hH
  obtain ⟨z2, its2, n2, r2, hl2, e2⟩ := I.lstM hB
  have hsz : its.toArray.size + its2.toArray.size ≤ sizeLine := by rw [List.size_toArray, List.size_toArray]; omega
  have hlong : ¬ (!its.toArray.isEmpty && Builtin.List.listTooLong (its.toArray.size + its2.toArray.size)) = true := by
    rw [notLongL hsz, Bool.and_false]
    exact Bool.false_ne_true
  refine call_meets F.slot_list_extend ⟨_, e, rfl⟩ F.entry_list_extend (F.args_list_extend_2 _ _)
    (AutoSeq1.list_extend_list_list_0 l its.toArray n b its2.toArray n2 hlong (by rw [List.size_toArray]; omega) (by omega)) ⟨e, e2, ?_⟩
  refine ⟨.non, _, I.lset (its' := its ++ its2) hH e (by simp) (r.append r2) ?_, rfl, q⟩
  rw [List.length_append]
  omega

def rPop : V → List V → Hp → VK → Prop := fun x vs H Q => ∃ l xs y, x = .ref l ∧ vs = [] ∧ H l = some (.lst xs) ∧ xs[xs.length - 1]? = some y ∧ Q y (upd H l (.lst xs.dropLast))
def rPopAt : V → List V → Hp → VK → Prop := fun x vs H Q => ∃ l xs i k y, x = .ref l ∧ vs = [.int i] ∧ H l = some (.lst xs) ∧ -(2 ^ 63) ≤ i ∧ i < 2 ^ 63 ∧ seqIndex? i xs.length = some k ∧ xs[k]? = some y ∧ Q y (upd H l (.lst (xs.eraseIdx k)))
def rReverse : V → List V → Hp → VK → Prop := fun x vs H Q => ∃ l xs, x = .ref l ∧ vs = [] ∧ H l = some (.lst xs) ∧ Q .non (upd H l (.lst xs.reverse))
def rClear : V → List V → Hp → VK → Prop := fun x vs H Q => ∃ l xs, x = .ref l ∧ vs = [] ∧ H l = some (.lst xs) ∧ Q .non (upd H l (.lst []))
def rCat : R2 := fun x y H Q => ∃ l b xs zs, x = .ref l ∧ y = .ref b ∧ H l = some (.lst xs) ∧ H b = some (.lst zs) ∧ xs.length + zs.length ≤ sizeLine ∧ ∀ p, H p = none → Q (.ref p) (upd H p (.lst (xs ++ zs)))
theorem op_cat : OpR X (binaryOp .Add) rCat := by
  intro pins s σ H x y v u Q I rx ry h
  obtain ⟨l, b, xs, zs, rfl, rfl, hH, hB, hz, q⟩ := h
  cases rx
  cases ry
  obtain ⟨z, its, n, r, hl, e⟩ := I.lstM hH
  obtain ⟨z2, its2, n2, r2, hl2, e2⟩ := I.lstM hB
  refine PySem.P.add_list e e2 ?_ (by rw [List.size_toArray, List.size_toArray]; omega)
  have ea : its.toArray ++ its2.toArray = (its ++ its2).toArray := by simp
  rw [ea]
  exact ⟨.ref _, _, I.lnew (t' := s.toks) (r.append r2) (by rw [List.length_append]; omega), rfl, q _ I.fresh⟩
def rRep : R2 := fun x y H Q => ∃ l k xs, x = .ref l ∧ y = .int k ∧ H l = some (.lst xs) ∧ -(2 ^ 63) ≤ k ∧ k < 2 ^ 63 ∧ xs.length * k.toNat ≤ sizeLine ∧
  ∀ p, H p = none → Q (.ref p) (upd H p (.lst (List.replicate k.toNat xs).flatten))
theorem len_rep {α : Type} (xs : List α) (k : Nat) : (List.replicate k xs).flatten.length = k * xs.length := by
  induction k with
  | zero => simp
  | succ k ih => rw [List.replicate_succ, List.flatten_cons, List.length_append, ih, Nat.succ_mul, Nat.add_comm]
theorem op_rep : OpR X (binaryOp .Mult) rRep := by
  intro pins s σ H x y v u Q I rx ry h
  obtain ⟨l, k, xs, rfl, rfl, hH, h1, h2, hz, q⟩ := h
  cases rx
  obtain ⟨t, rfl⟩ := ry
  obtain ⟨z, its, n, r, hl, e⟩ := I.lstM hH
  have hlen : its.toArray.size * k.toNat ≤ sizeLine := by rw [List.size_toArray, ← hl]; exact hz
  have hcap : ¬ its.toArray.size * k.toNat > (2 ^ 63 - 1) / 8 := by
    have : (sizeLine : Nat) ≤ (2 ^ 63 - 1) / 8 := by decide
    omega
  have hfit : ¬ (!Builtin.List.listFitsIndex k) = true := by
    rw [fitsIndex_both h1 h2]
    exact Bool.false_ne_true
  have hlong : ¬ Builtin.List.listTooLong (its.toArray.size * k.toNat) = true := by
    rw [notLongL hlen]
    exact Bool.false_ne_true
  have hnew : List.foldl (fun x1 x2 => x1 ++ x2) #[] (List.replicate (if its.toArray.isEmpty = true then 0 else k.toNat) its.toArray) = (List.replicate k.toNat its).flatten.toArray := by
    have f0 : ∀ m : Nat, List.foldl (fun x1 x2 => x1 ++ x2) #[] (List.replicate m its.toArray) = (List.replicate m its).flatten.toArray := fun m => by
      have := foldl_rep its m []
      rw [List.nil_append] at this
      exact this
    rw [f0]
    cases its with
    | nil => simp
    | cons a r' => rw [if_neg (by simp)]
  refine wpAny_binaryOp_repeat_ref (T := "list") (U := "int") (by decide) ⟨_, e, rfl⟩ (fun s' => typeIs_int s' k t) noFill_list_mul F.fills_int_mul F.slot_int_rmul repeat_list F.slot_int_index.lookup
    (call_meets F.slot_int_rmul (typeIs_int s k t) F.entry_int_rmul (F.args_int_rmul_2 _ _) (int___rmul___int_list k t l its.toArray n)
      ⟨e, rfl, ⟨_, e, rfl⟩, call_meets F.slot_list_mul ⟨_, e, rfl⟩ F.entry_list_mul (F.args_list_mul_2 _ _) (AutoListH.list___mul___list_int_3 l its.toArray n k t hfit hcap hlong) ⟨e, ?_⟩⟩)
  rw [hnew]
  exact ⟨.ref _, _, I.lnew (t' := s.toks) (r.rep k.toNat) (by rw [len_rep, Nat.mul_comm]; exact hz), rfl, q _ I.fresh⟩

end

section
variable {prog : Program} {w : World} {A : Around} {E : Value → Shared → Prop} {s : Shared}
set_option maxRecDepth 100000 in
end

section
variable {X : Cx}
end
end L2

namespace L2
open PySem PySem.Spec PyProof.Rows

section
variable {prog : Program} {w : World} {A : Around} {E : Value → Shared → Prop} {s : Shared} {l : Addr} {its : List Value} {ns : List Int} {Q : Value → Shared → Prop}
end

section
variable {X : Cx}
def rSum (K : PySem.W.Frag) : List V → Hp → VK → Prop := fun vs H Q => ∃ (a : Addr) (ns : List Int), vs = [V.ref a] ∧ SqL K H a (ns.map V.int) ∧ Q (.int ns.sum) H
def rMax (K : PySem.W.Frag) : List V → Hp → VK → Prop := fun vs H Q => ∃ (a : Addr) (ns : List Int), vs = [V.ref a] ∧ SqL K H a (ns.map V.int) ∧ 0 < ns.length ∧ ∀ m, m ∈ ns → (∀ y, y ∈ ns → y ≤ m) → Q (.int m) H
def rMin (K : PySem.W.Frag) : List V → Hp → VK → Prop := fun vs H Q => ∃ (a : Addr) (ns : List Int), vs = [V.ref a] ∧ SqL K H a (ns.map V.int) ∧ 0 < ns.length ∧ ∀ m, m ∈ ns → (∀ y, y ∈ ns → m ≤ y) → Q (.int m) H
def rSorted (K : PySem.W.Frag) : List V → Hp → VK → Prop := fun vs H Q => ∃ (a : Addr) (ns : List Int), vs = [V.ref a] ∧ SqL K H a (ns.map V.int) ∧ ns.length < 64 ∧
  ∀ (ns' : List Int) (p : Addr), ns'.Perm ns → ns'.Pairwise (· ≤ ·) → H p = none → Q (.ref p) (upd H p (.lst (ns'.map V.int)))
def rSortedS (K : PySem.W.Frag) : List V → Hp → VK → Prop := fun vs H Q => ∃ (a : Addr) (xs : List Str), vs = [V.ref a] ∧ SqL K H a (xs.map V.str) ∧ xs.length < 64 ∧
  ∀ (ys : List Str) (p : Addr), ys.Perm xs → sortedS ys = true → H p = none → Q (.ref p) (upd H p (.lst (ys.map V.str)))
def rSort : V → List V → Hp → VK → Prop := fun x xs H Q => ∃ (a : Addr) (ns : List Int), x = V.ref a ∧ xs = [] ∧ H a = some (.lst (ns.map V.int)) ∧ ns.length < 64 ∧
  ∀ ns' : List Int, ns'.Perm ns → ns'.Pairwise (· ≤ ·) → Q .non (upd H a (.lst (ns'.map V.int)))
end

section
variable {X : Cx}
def rIndex (K : PySem.W.Frag) : V → List V → Hp → VK → Prop := fun x xs H Q => ∃ (a : Addr) (ys : List V) (y : V) (j : Nat) (z : V), x = V.ref a ∧ xs = [y] ∧ SqL K H a ys ∧ flatV y = true ∧ ys.all flatV = true ∧ ys[j]? = some z ∧ eqV z y = true ∧
  (∀ (m : Nat) (z' : V), m < j → ys[m]? = some z' → eqV z' y = false) ∧ Q (.int (j : Nat)) H
end

section
variable {X : Cx}
end

section
variable {X : Cx}
def rAny (K : PySem.W.Frag) : List V → Hp → VK → Prop := fun vs H Q => ∃ (a : Addr) (bs : List Bool), vs = [V.ref a] ∧ SqL K H a (bs.map V.bl) ∧ Q (.bl (bs.any id)) H
def rAll (K : PySem.W.Frag) : List V → Hp → VK → Prop := fun vs H Q => ∃ (a : Addr) (bs : List Bool), vs = [V.ref a] ∧ SqL K H a (bs.map V.bl) ∧ Q (.bl (bs.all id)) H
end

mutual
inductive Dp (K : PySem.W.Frag) (H : Hp) : V → PyData → Prop
  | non : Dp K H .non .none
  | bl (b : Bool) : Dp K H (.bl b) (.bool b)
  | int (i : Int) : Dp K H (.int i) (.int i)
  | str (x : Str) : Dp K H (.str x) (.str x)
  | lst {a : Addr} {xs : List V} {ds : List PyData} : SqL K H a xs → DpAll K H xs ds → Dp K H (.ref a) (.list ds)
  | tup {a : Addr} {xs : List V} {ds : List PyData} : SqT K H a xs → DpAll K H xs ds → Dp K H (.ref a) (.tuple ds)
inductive DpAll (K : PySem.W.Frag) (H : Hp) : List V → List PyData → Prop
  | nil : DpAll K H [] []
  | cons {v : V} {vs : List V} {d : PyData} {ds : List PyData} : Dp K H v d → DpAll K H vs ds → DpAll K H (v :: vs) (d :: ds)
end
section
variable {X : Cx} {pins : List (Addr × Obj)} {σ : St} {H : Hp} {s : Shared}
end
section
variable {X : Cx}
def rEqD (K : PySem.W.Frag) : R2 := fun x y H Q => ∃ d e, Dp K H x d ∧ Dp K H y e ∧ SeqAt.shaped d = true ∧ SeqAt.shaped e = true ∧ Q (.bl (PyData.eqv d e)) H
def rNeD (K : PySem.W.Frag) : R2 := fun x y H Q => ∃ d e, Dp K H x d ∧ Dp K H y e ∧ SeqAt.shaped d = true ∧ SeqAt.shaped e = true ∧ Q (.bl (!PyData.eqv d e)) H
end
end L2

namespace L2
open PySem PySem.Spec PyProof.Rows
abbrev CellAt (h : Heap) (c : Addr) (v : Option Value) : Prop := h.IsCell c v
def relS (scope sc : Scope) : Scope :=
  { scope with names := scope.names.map fun (n, k) => if (k == .free && sc.kind == .function && sc.names.lookup n == some .cell) then (n, .cell) else (n, k) }

def cloFrom (cells : List (Str × Addr)) : List (Str × NameKind) → List (Str × Addr) → List (Str × Addr)
  | [], acc => acc
  | (n, k) :: r, acc => if k == .free then cloFrom cells r ((n, (cells.lookup n).getD 0) :: acc) else cloFrom cells r acc

structure BlkOk (N : List Str) (sc scope : Scope) (own : List (Str × Nat)) : Prop where
  kind : scope.kind = .function
  uniq : ∀ y ∈ scope.names, scope.names.lookup y.1 = some y.2
  ix : ∀ p ∈ own, N[p.2]? = some p.1
  free : ∀ y ∈ scope.names, y.2 = .free → sc.names.lookup y.1 = some .cell ∨ sc.names.lookup y.1 = some .free
  own : ∀ y ∈ scope.names, y.2 = .local ∨ y.2 = .cell → y.1 ∈ own.map (·.1) ∨ y.1 ∉ N
def wipe (σ : St) : List Nat → St
  | [] => σ
  | v :: vs => (wipe σ vs).set v none
abbrev Cx.blk (X : Cx) (s : Shared) (H : Hp) (scope : Scope) (cenv : Env) (fp : List Addr) : Cx := { X with s_0 := s, H_0 := H, env := cenv, outer := X.stack, ex := fp, fn := fun x => scope.names.lookup x == some .cell, pn := [], xe := fun _ _ => False }
section
variable {X : Cx} {pins : List (Addr × Obj)} {σ : St} {H : Hp} {s : Shared}
def PTs (X : Cx) (ifs : List Expr) (t : TT) : Prop :=
  ∀ (pins : List (Addr × Obj)) (s : Shared) (σ : St) (H : Hp) (Q : Bool → Hp → Prop), Inv X pins σ H s → t σ H Q →
    wpAny (model X.prog X.w) X.A (forIn ifs true fun c r => if r = true then do let ok ← isTrue c X.env (eval c X.env); pure (ForInStep.yield ok) else pure (ForInStep.yield r)) (TP X pins σ Q) X.xe s
def tYes : TT := fun _ H Q => Q true H
end

section
variable {X : Cx}
def tLc (wi : TI) (g : TG) (tt : TT) (te : TE) (vs : List Nat) : TE := fun σ H Q => wi σ H fun J H1 => ∀ D, H1 D = none → ∃ W : Nat → Nat → Hp → Prop, (∃ m, W 0 m (upd H1 D (.lst []))) ∧ ∀ i m H, W i m H →
  (J.stop i H ∧ Q (.ref D) H) ∨ (J.go i H ∧ ∃ Nx : Hp → Prop, (∀ H', Nx H' → ∃ m', m' < m ∧ W (i + 1) m' H') ∧ ∀ x H', J.yld i H x H' → g x (wipe σ vs) H' fun σ2 H2 => wipe σ2 vs = wipe σ vs ∧ tt σ2 H2 fun b H3 =>
    if b = true then te σ2 H3 fun y H4 => ∃ acc, H4 D = some (.lst acc) ∧ acc.length < sizeLine ∧ Nx (upd H4 D (.lst (acc ++ [y]))) else Nx H3)
end

def blkC (N : List Str) (sc scope : Scope) (own : List (Str × Nat)) : Bool :=
  (match scope.kind with | .function => true | _ => false) && (scope.names.all fun y => decide (scope.names.lookup y.1 = some y.2)) && (own.all fun p => decide (N[p.2]? = some p.1)) &&
    (scope.names.all fun y => match y.2 with
      | .free => (match sc.names.lookup y.1 with | some .cell => true | some .free => true | _ => false)
      | .local => decide (y.1 ∈ own.map (·.1)) || decide (y.1 ∉ N)
      | .cell => decide (y.1 ∈ own.map (·.1)) || decide (y.1 ∉ N)
      | _ => true)
end L2

namespace L2
open PySem PySem.Spec PyProof.Rows

section
variable {prog : Program} {w : World} {A : Around} {R : Result → Shared → Prop} {s : Shared} {elt t0 i0 t1 i1 : Expr} {ifs0 ifs1 : List Expr} {scope : Scope} {pos : Pos} {it acc : Value} {env : Env}
end

section
variable {X : Cx}
def tLc2 (wi : TI) (g : TG) (tt : TT) (wi1 : TI) (g1 : TG) (tt1 : TT) (te : TE) (vs vs1 : List Nat) : TE := fun σ H Q => wi σ H fun J H1 => ∀ D, H1 D = none → ∃ W : Nat → Nat → Hp → Prop, (∃ m, W 0 m (upd H1 D (.lst []))) ∧ ∀ i m H, W i m H →
  (J.stop i H ∧ Q (.ref D) H) ∨ (J.go i H ∧ ∃ Nx : Hp → Prop, (∀ H', Nx H' → ∃ m', m' < m ∧ W (i + 1) m' H') ∧ ∀ x H', J.yld i H x H' → g x (wipe σ vs) H' fun σ2 H2 => wipe σ2 vs = wipe σ vs ∧ tt σ2 H2 fun b H3 =>
    if b = true then wi1 σ2 H3 fun J1 H4 => ∃ W1 : Nat → Nat → Hp → Prop, (∃ m, W1 0 m H4) ∧ ∀ j k H, W1 j k H →
      (J1.stop j H ∧ Nx H) ∨ (J1.go j H ∧ ∃ Nx1 : Hp → Prop, (∀ H', Nx1 H' → ∃ k', k' < k ∧ W1 (j + 1) k' H') ∧ ∀ x H', J1.yld j H x H' → g1 x (wipe σ2 vs1) H' fun σ3 H5 => wipe σ3 vs1 = wipe σ2 vs1 ∧ tt1 σ3 H5 fun b H6 =>
        if b = true then te σ3 H6 fun y H7 => ∃ acc, H7 D = some (.lst acc) ∧ acc.length < sizeLine ∧ Nx1 (upd H7 D (.lst (acc ++ [y]))) else Nx1 H6)
    else Nx H3)
end
end L2

namespace L2
open PySem PySem.Spec PyProof.Rows

section
variable {κ : Type} [DecidableEq κ]
def valV (kvs : List (κ × V)) (k : κ) : Option V := (kvs.find? fun kv => decide (kv.1 = k)).map (·.2)
def putK (kvs : List (κ × V)) (k : κ) (v : V) : List (κ × V) :=
  if (kvs.any fun kv => decide (kv.1 = k)) = true then kvs.map (fun kv => if kv.1 = k then (kv.1, v) else kv) else kvs ++ [(k, v)]
def dropK (kvs : List (κ × V)) (k : κ) : List (κ × V) := kvs.filter fun kv => decide (kv.1 ≠ k)

end


theorem kV_is {P : Program} {w : World} {k : Key} {u : Value} (r : RelV (kV k) u) : (mixKind P w).is k u = true := by
  cases k with
  | inl i => obtain ⟨t, e⟩ := (show ∃ t, u = Value.int i t from r); subst e; exact mixKind_int P w i t
  | inr x => obtain ⟨t, e⟩ := (show ∃ t, u = Value.str x t from r); subst e; exact mixKind_str P w x t
abbrev KT (H : Hp) : List (List Key × V) → List (List Key × Addr × Value) → Prop := Paired fun p q => p.1 = q.1 ∧ H q.2.1 = some (.tup (p.1.map kV)) ∧ RelV p.2 q.2.2
section
variable {P : Program} {w : World} {H : Hp} {h : Heap} {a : Addr}
end

def DGet (H : Hp) (a : Addr) (y : V) (r : Option V) : Prop :=
  (∃ kvs k, Rd H a (.dK kvs) ∧ y = kV k ∧ r = valV kvs k) ∨ ∃ kvs k b, Rd H a (.dT kvs) ∧ y = .ref b ∧ H b = some (.tup (k.map kV)) ∧ r = valV kvs k
def DPut (H : Hp) (a : Addr) (y v : V) (H' : Hp) : Prop :=
  (∃ kvs k, H a = some (.dK kvs) ∧ y = kV k ∧ kvs.length < sizeLine ∧ H' = upd H a (.dK (putK kvs k v))) ∨
  ∃ kvs k b, H a = some (.dT kvs) ∧ y = .ref b ∧ H b = some (.tup (k.map kV)) ∧ kvs.length < sizeLine ∧ H' = upd H a (.dT (putK kvs k v))
section
variable {X : Cx} {pins : List (Addr × Obj)} {σ : St} {H : Hp} {s : Shared} {a : Addr} {y v : V} {u r : Value} {o : Option V} {A : Around} {E : Value → Shared → Prop}

end

section
variable {X : Cx} {pins : List (Addr × Obj)} {σ : St} {H : Hp} {s : Shared} {a : Addr} {kvs : List (Key × V)} {k : Key} {u : Value} {A : Around} {E : Value → Shared → Prop}
end


def NoSl (i : Expr) : Prop := ∀ ov iv, subscripted i false ov iv = operate [ov, iv] (getItem ov iv)
theorem subD_of {prog : Program} {w : World} {A : Around} {E : Value → Shared → Prop} {s : Shared} {env : Env} {value slice : Expr} {pos : Pos} {T id : String} {Q : Value → Shared → Prop}
    (hl : typeLookup (.type T) "__getitem__" = pure (some (.builtin id))) (hs : NoSl slice)
    (h : wpAny (model prog w) A (eval value env) (fun o s₁ => wpAny (model prog w) A (eval slice env) (fun i s₂ => s₂.TypeIs o T ∧ wpAny (model prog w) A (getItem o i) Q E s₂) E s₁) E s) :
    wpAny (model prog w) A (eval (.Subscript value slice pos) env) Q E s := by
  refine Subscript_ (wpAny_mono h (fun o s₁ h₁ => wpAny_mono h₁ (fun i s₂ h₂ => ?_) fun _ _ x => x) fun _ _ x => x)
  obtain ⟨hT, h₂⟩ := h₂
  unfold subscriptTail
  refine wpAny_bind ?_
  rw [getitemInPython_of_ne hT.not_modules]
  refine wpAny_bind (wpAny_specialOf hT hl ?_)
  have fin : wpAny (model prog w) A (subscripted slice false o i) (fun r s₃ => wpAny (model prog w) A (letTemporaryGo value o r >>= fun _ => pure r) Q E s₃) E s₂ := by
    rw [hs o i]
    exact wpAny_operating (wpAny_mono h₂ (fun r s₃ h₃ => wpAny_bind (wpAny_letTemporaryGo (wpAny_pure h₃))) fun _ _ x => x)
  first
    | exact wpAny_pure (wpAny_bind fin)
    | exact wpAny_bind (wpAny_pure (wpAny_bind fin))
    | exact wpAny_bind fin

def tDGet (td ty : TE) : TE := fun σ H Q => td σ H fun x H1 => ty σ H1 fun y H2 => ∃ a v, x = .ref a ∧ DGet H2 a y (some v) ∧ Q v H2
def tDIn (ty td : TE) : TE := fun σ H Q => ty σ H fun y H1 => td σ H1 fun x H2 => ∃ a o, x = .ref a ∧ DGet H2 a y o ∧ Q (.bl o.isSome) H2
def tDNotIn (ty td : TE) : TE := fun σ H Q => ty σ H fun y H1 => td σ H1 fun x H2 => ∃ a o, x = .ref a ∧ DGet H2 a y o ∧ Q (.bl (!o.isSome)) H2
def sDPut (td ty tv : TE) : TS := fun D σ H => tv σ H fun v H1 => td σ H1 fun x H2 => ty σ H2 fun y H3 => ∃ a H4, x = .ref a ∧ DPut H3 a y v H4 ∧ D.nx σ H4
def sDAug (td ty tv : TE) (rd : V → V → Hp → VK → Prop) : TS := fun D σ H => td σ H fun x H1 => ty σ H1 fun y H2 => ∃ a v, x = .ref a ∧ DGet H2 a y (some v) ∧
  tv σ H2 fun y2 H3 => rd v y2 H3 fun z H4 => ∃ H5, DPut H4 a y z H5 ∧ D.nx σ H5
def sDDel (td ty : TE) : TS := fun D σ H => td σ H fun x H1 => ty σ H1 fun y H2 => ∃ a kvs k, x = .ref a ∧ H2 a = some (.dK kvs) ∧ y = kV k ∧ (valV kvs k).isSome = true ∧ D.nx σ (upd H2 a (.dK (dropK kvs k)))

section
variable {X : Cx} {o i e value : Expr} {pos pos' tpos : Pos} {td ty tv : TE}
end


def tDNewK : TE := fun _ H Q => ∀ p, H p = none → Q (.ref p) (upd H p (.dK []))
def tDNewT : TE := fun _ H Q => ∀ p, H p = none → Q (.ref p) (upd H p (.dT []))
section
variable {X : Cx} {pos : Pos}
end

def tPairs : List (TE × TE) → St → Hp → (List (V × V) → Hp → Prop) → Prop
  | [], _, H, Q => Q [] H
  | (tk, tv) :: r, σ, H, Q => tk σ H fun x H1 => tv σ H1 fun y H2 => tPairs r σ H2 fun ps H3 => Q ((x, y) :: ps) H3
abbrev VV : List (V × V) → List (Value × Value) → Prop := Paired fun p q => RelV p.1 q.1 ∧ RelV p.2 q.2
def PPs (X : Cx) (pos : Pos) (keys : List (Option Expr)) (values : List Expr) (trs : List (TE × TE)) : Prop :=
  ∀ (pins : List (Addr × Obj)) (s : Shared) (σ : St) (H : Hp) (Q : List (V × V) → Hp → Prop), Inv X pins σ H s → tPairs trs σ H Q →
    wpAny (model X.prog X.w) X.A (evalPairs (pairTrees keys values X.env pos)) (fun vs s' => ∃ ps H', Inv X pins σ H' s' ∧ VV ps vs ∧ Q ps H') X.xe s
def mergeK (kvs more : List (Key × V)) : List (Key × V) := more.foldl (fun acc kv => putK acc kv.1 kv.2) kvs
def tDisp (trs : List (TE × TE)) : TE := fun σ H Q => ∀ p, H p = none → tPairs trs σ (upd H p (.dK [])) fun ps H2 => H2 p = some (.dK []) ∧ ∃ kvs : List (Key × V), ps = kvs.map (fun kv => (kV kv.1, kv.2)) ∧ kvs.length ≤ 15 ∧ Q (.ref p) (upd H2 p (.dK (mergeK [] kvs)))
structure M1 (X : Cx) (o : Expr) (m : Str) (apos : Pos) (e : Expr) (cpos : Pos) : Prop where
  base : attributeBase o m X.env (eval o X.env) = eval o X.env
  few : ((backTo cpos (starEach [e] X.env)).all (fun x => !x.1) && (backToKw cpos (keywordEach [] X.env)).all (fun x => x.1.isSome)
    && decide (([e] : List Expr).length + ([] : List Keyword).length + (if ([] : List Keyword).isEmpty then 0 else 1) < 30)) = true
  line : (apos.endLine == cpos.line) = true
  trees : backTo cpos (starEach [e] X.env) = [(false, eval e X.env)]
structure M2 (X : Cx) (o : Expr) (m : Str) (apos : Pos) (e f : Expr) (cpos : Pos) : Prop where
  base : attributeBase o m X.env (eval o X.env) = eval o X.env
  few : ((backTo cpos (starEach [e, f] X.env)).all (fun x => !x.1) && (backToKw cpos (keywordEach [] X.env)).all (fun x => x.1.isSome)
    && decide (([e, f] : List Expr).length + ([] : List Keyword).length + (if ([] : List Keyword).isEmpty then 0 else 1) < 30)) = true
  line : (apos.endLine == cpos.line) = true
  trees : backTo cpos (starEach [e, f] X.env) = [(false, eval e X.env), (false, eval f X.env)]

def IsD (H : Hp) (a : Addr) : Prop := (∃ kvs, Rd H a (.dK kvs)) ∨ ∃ kvs, Rd H a (.dT kvs)
section
variable {X : Cx} {pins : List (Addr × Obj)} {σ : St} {H : Hp} {s : Shared} {a : Addr} {y d : V} {u r : Value} {o : Option V} {A : Around} {E : Value → Shared → Prop}
end

def tDGet1 (td ty : TE) : TE := fun σ H Q => td σ H fun x H1 => ∃ a, x = .ref a ∧ IsD H1 a ∧ ty σ H1 fun y H2 => ∃ o, DGet H2 a y o ∧ Q (o.getD .non) H2
def tDGet2 (td ty tx : TE) : TE := fun σ H Q => td σ H fun x H1 => ∃ a, x = .ref a ∧ IsD H1 a ∧ ty σ H1 fun y H2 => tx σ H2 fun z H3 => ∃ o, DGet H3 a y o ∧ Q (o.getD z) H3
def tDPop1 (td ty : TE) : TE := fun σ H Q => td σ H fun x H1 => ∃ a, x = .ref a ∧ IsD H1 a ∧ ty σ H1 fun y H2 => ∃ kvs k v, H2 a = some (.dK kvs) ∧ y = kV k ∧ valV kvs k = some v ∧ Q v (upd H2 a (.dK (dropK kvs k)))
def tDPop2 (td ty tx : TE) : TE := fun σ H Q => td σ H fun x H1 => ∃ a, x = .ref a ∧ IsD H1 a ∧ ty σ H1 fun y H2 => tx σ H2 fun z H3 => ∃ kvs k, H3 a = some (.dK kvs) ∧ y = kV k ∧
  (∀ v, valV kvs k = some v → Q v (upd H3 a (.dK (dropK kvs k)))) ∧ (valV kvs k = none → Q z H3)
section
variable {X : Cx} {o e f : Expr} {apos cpos : Pos} {td ty tx : TE}
end

section
variable {X : Cx} {pins : List (Addr × Obj)} {σ : St} {H : Hp} {s : Shared} {a : Addr} {kvs : List (Key × V)} {A : Around} {E : Value → Shared → Prop}
end


section
variable {X : Cx} {pins : List (Addr × Obj)} {σ : St} {H : Hp} {s : Shared} {a : Addr} {y : V} {u : Value} {A : Around} {E : Value → Shared → Prop}
end
end L2

namespace L2
open PySem PySem.Spec PyProof.Rows

section
variable {prog : Program} {w : World} {A : Around} {E : Value → Shared → Prop}
end

section
variable {X : Cx}
end
end L2

namespace L2
open PySem PySem.Spec PyProof.Rows

section
variable {X : Cx} {pins : List (Addr × Obj)} {σ : St} {H : Hp} {s : Shared} {h' : Heap}
theorem Inv.turnedNew {t' : Nat} {ch : List Addr} {T : Addr} {ob : HO} (I : Inv X pins σ H s) (k : ∀ b o, b ∉ ch → s.heap.get? b = some o → h'.get? b = some o) (hf : ∀ b ∈ ch, FpOk X pins H b) (hT : s.heap.objs.size ≤ T)
    (new : ObjOk X.prog X.w (upd H T ob) h' T ob) : Inv X pins σ (upd H T ob) { s with heap := h', toks := t' } := by
  have hn : H T = none := I.hok.fresh hT
  have nit : ∀ b u, H b = some u → b ∉ ch := fun b u e z => by
    have q := (hf b z).1
    rw [q] at e; cases e
  refine I.step (g' := s.gens) (d' := s.drawn) (ch := ch) (fun b hb => ⟨(hf b hb).2.2.2.1, (hf b hb).2.1, (hf b hb).2.2.2.2.1, (hf b hb).2.2.2.2.2⟩) (fun b o _ _ hc e _ => k b o hc e) (fun b o _ _ hc e _ => ⟨o.slots, k b o hc e⟩)
    (fun b o _ e n => ?_) (fun b o hc e => ⟨o, k b o hc e⟩) (fun b xs e => ?_) (fun b o u e => ?_) (fun b ps e => ⟨#[], ?_⟩) (fun m hm => ?_) (fun b u e => ?_) I.bare
  · rw [upd_ne (Nat.ne_of_lt (Nat.lt_of_lt_of_le (Heap.lt_size e) hT))]; exact n
  · rw [upd_ne (ne_of_none e hn)]; exact e
  · rw [upd_ne (ne_of_none e hn)]; exact e
  · rw [upd_ne (ne_of_none e hn), e]; simp
  · obtain ⟨o, es, ep, ho, r⟩ := hm
    exact ⟨o, es, ep, k _ o (fun z => (hf _ z).2.1 rfl) ho, r⟩
  · by_cases hb : b = T
    · subst hb
      rw [upd_same] at e
      cases e
      exact new
    · rw [upd_ne hb] at e
      refine (I.hok b u e).stay (fun c v hc q => k c v ?_ q) (fun c q => by rw [upd_ne (ne_of_none q hn)]; exact q) fun c xs q => by rw [upd_ne (ne_of_none q hn)]; exact q
      rcases hc with z | z
      · rw [z]; exact nit b u e
      · exact nit c _ z

end
def tLock (t : TS) : TS := fun D σ H => ∃ d u, H d = some u ∧ Mut (some u) ∧ ∀ od, t ⟨fun σ' H' => H' d = some (.frz od u) ∧ D.nx σ' (upd H' d u), fun v H' => H' d = some (.frz od u) ∧ D.rt v (upd H' d u), fun σ' H' => H' d = some (.frz od u) ∧ D.bk σ' (upd H' d u), fun σ' H' => H' d = some (.frz od u) ∧ D.ct σ' (upd H' d u)⟩ σ (upd H d (.frz od u))
def tLockE (t : TE) : TE := fun σ H Q => ∃ d u, H d = some u ∧ Mut (some u) ∧ ∀ od, t σ (upd H d (.frz od u)) fun v H' => H' d = some (.frz od u) ∧ Q v (upd H' d u)
section
variable {X : Cx}
end

def Itc (lo c : Int) (n : Nat) : It := ⟨fun i _ => i < n, fun i H x H' => H' = H ∧ x = .int (lo + (i : Nat) * c), fun i _ => n ≤ i⟩
def RgC (i j c : Int) (n : Nat) : Prop := c ≠ 0 ∧ c.natAbs < 1073741824 ∧ Builtin.Range.small i j c = true ∧ Builtin.Range.rangeSize i j c = n
def iRng3 (ta : TA) : TI := fun σ H R => ta σ H fun vs H1 => ∃ (i j c : Int) (n : Nat), vs = [.int i, .int j, .int c] ∧ RgC i j c n ∧ R (Itc i c n) H1
section
variable {X : Cx} {tg : Expr}
end
def Itv (K : PySem.W.Frag) (a : Addr) (n : Nat) : It :=
  ⟨fun i H => i < n ∧ ∃ (xs : List V) (x : V), SqL K H a xs ∧ xs[n - 1 - i]? = some x, fun i H x H' => H' = H ∧ ∀ xs, SqL K H a xs → xs[n - 1 - i]? = some x, fun i _ => n ≤ i⟩
def iRev (K : PySem.W.Frag) (ta : TA) : TI := fun σ H R => ta σ H fun vs H1 => ∃ (a : Addr) (xs : List V), vs = [.ref a] ∧ SqL K H1 a xs ∧ R (Itv K a xs.length) H1
section
variable {X : Cx} {tg : Expr}
end

def Its (x : Str) : It := ⟨fun i _ => i < x.cps.size, fun i H v H' => H' = H ∧ ∃ c, x.cps[i]? = some c ∧ v = .str ⟨#[c]⟩, fun i _ => x.cps.size ≤ i⟩
def iStr (te : TE) : TI := fun σ H R => te σ H fun v H1 => ∃ x, v = .str x ∧ R (Its x) H1
section
variable {prog : Program} {w : World} {A : Around} {E : Value → Shared → Prop} {s : Shared}
end

section
variable {X : Cx} {pins : List (Addr × Obj)} {σ : St} {H : Hp} {s : Shared} {d : Addr} {o : Obj}
end

def Itk (d : Addr) (o : Obj) (kvs : List (Key × V)) : It :=
  ⟨fun i H => H d = some (.frz o (.dK kvs)) ∧ i < kvs.length, fun i H x H' => H' = H ∧ ∃ k v, kvs[i]? = some (k, v) ∧ x = kV k, fun i H => H d = some (.frz o (.dK kvs)) ∧ kvs.length ≤ i⟩
def Itkt (d : Addr) (o : Obj) (kvs : List (List Key × V)) : It :=
  ⟨fun i H => H d = some (.frz o (.dT kvs)) ∧ i < kvs.length, fun i H x H' => H' = H ∧ ∃ (k : List Key) (v : V) (q : Addr), kvs[i]? = some (k, v) ∧ x = .ref q ∧ H q = some (.tup (k.map kV)), fun i H => H d = some (.frz o (.dT kvs)) ∧ kvs.length ≤ i⟩
def Itd (d : Addr) (o : Obj) (kvs : List (Key × V)) : It :=
  ⟨fun i H => H d = some (.frz o (.dK kvs)) ∧ i < kvs.length, fun i H x H' => H' = H ∧ ∃ k, kvs[i]? = some (k, x), fun i H => H d = some (.frz o (.dK kvs)) ∧ kvs.length ≤ i⟩
def Iti (d : Addr) (o : Obj) (kvs : List (Key × V)) : It :=
  ⟨fun i H => H d = some (.frz o (.dK kvs)) ∧ i < kvs.length, fun i H x H' => ∃ T k v, kvs[i]? = some (k, v) ∧ x = .ref T ∧ H T = none ∧ H' = upd H T (.tup [kV k, v]), fun i H => H d = some (.frz o (.dK kvs)) ∧ kvs.length ≤ i⟩
section
variable {P : Program} {w : World} {K : PySem.W.Frag} {tg : Expr} {d : Addr} {o : Obj} {es : Array DictEntry} {ep : Nat}
end

def iKeys (td : TE) : TI := fun σ H R => td σ H fun x H1 => ∃ d o, x = .ref d ∧ ((∃ kvs, H1 d = some (.frz o (.dK kvs)) ∧ R (Itk d o kvs) H1) ∨ ∃ kvs, H1 d = some (.frz o (.dT kvs)) ∧ R (Itkt d o kvs) H1)
def iVals (td : TE) : TI := fun σ H R => td σ H fun x H1 => ∃ d o kvs, x = .ref d ∧ H1 d = some (.frz o (.dK kvs)) ∧ R (Itd d o kvs) H1
def iItems (td : TE) : TI := fun σ H R => td σ H fun x H1 => ∃ d o kvs, x = .ref d ∧ H1 d = some (.frz o (.dK kvs)) ∧ R (Iti d o kvs) H1
def iKeysM (td : TE) : TI := fun σ H R => td σ H fun x H1 => ∃ d o kvs, x = .ref d ∧ H1 d = some (.frz o (.dK kvs)) ∧ R (Itk d o kvs) H1
section
variable {X : Cx} {tg e : Expr} {td : TE} {apos cpos : Pos}
end

def Ite (K : PySem.W.Frag) (a : Addr) : It :=
  ⟨fun i H => ∃ (xs : List V) (x : V), SqL K H a xs ∧ xs[i]? = some x, fun i H v H' => ∃ T x, v = .ref T ∧ H T = none ∧ H' = upd H T (.tup [.int (i : Nat), x]) ∧ ∀ xs, SqL K H a xs → xs[i]? = some x, fun i H => ∃ xs : List V, SqL K H a xs ∧ xs.length ≤ i⟩
theorem turn_enum {P : Program} {w : World} {K : PySem.W.Frag} {elts : List Expr} {kk : Nat} {tpos : Pos} (a e it : Addr) :
    Turn P w K (.Tuple elts kk tpos) (Ite K a) [e, it] e (fun i h => (∃ old, IsEnum h e it ((i : Nat) : Int) old) ∧ h.IsListIter it a i ∧ e ≠ it) where
  mem := by simp
  obj := fun i h st b hb => by
    obtain ⟨⟨old, he⟩, ⟨o, ho, hc, hd⟩, _⟩ := st
    have e' : b = e ∨ b = it := by simpa using hb
    rcases e' with z | z
    · rw [z]; exact ⟨_, he, fun v q => nomatch q⟩
    · rw [z]; exact ⟨o, ho, fun v q => by rw [hd] at q; cases q⟩
  keep := fun i h h' st k => let ⟨⟨old, he⟩, hi, hne⟩ := st; ⟨⟨old, k e (by simp) _ he⟩, hi.at fun o q => k it (by simp) o q, hne⟩
  item := by
    intro X hP hw hK hc i pins s σ H E I hf st hg
    subst hP hw hK
    obtain ⟨⟨old, he⟩, hit, hne⟩ := st
    obtain ⟨xs, x, hq, hx⟩ := hg
    obtain ⟨its, rv, p, hz⟩ := I.list hq
    obtain ⟨u, hu, ru⟩ := rv.get hx
    have hel : e < s.heap.objs.size := Heap.lt_size he
    have hil : it < s.heap.objs.size := by obtain ⟨_, q, _⟩ := hit; exact Heap.lt_size q
    refine wpAny_pyNext_enum_item he hit p.isList (x := u) (by simpa using hu) hne fun h' ho hit' hT hsz hk => ?_
    refine ⟨_, rfl, wpAny_letOwnedTupleGo_enum (s := { s with heap := h', toks := s.toks + 1 }) ho fun h'' he' sb => ?_⟩
    have hT2 : h''.get? s.heap.objs.size = some { cls := .type "tuple", data := .seq #[.int i s.toks, u] } := (sb.2 _ (Nat.ne_of_gt hel)).trans hT
    have new : ObjOk X.prog X.w (upd H s.heap.objs.size (.tup [.int (i : Nat), x])) h'' s.heap.objs.size (.tup [.int (i : Nat), x]) :=
      ⟨by show 2 ≤ sizeLine; decide, [.int i s.toks, u], .cons ⟨_, rfl⟩ (.cons ru .nil), ⟨_, hT2, rfl, _, rfl⟩⟩
    have I1 : Inv X pins σ (upd H s.heap.objs.size (.tup [.int (i : Nat), x])) { s with heap := h'', toks := s.toks + 1 } :=
      I.turnedNew (ch := [e, it]) (fun b ob hb q => (sb.2 b (fun z => hb (by simp [z]))).trans (hk b ob (fun z => hb (by simp [z])) (fun z => hb (by simp [z])) q)) hf (Nat.le_refl _) new
    refine ⟨.ref s.heap.objs.size, _, I1, rfl, ⟨_, x, rfl, I.hok.fresh (Nat.le_refl _), rfl, fun ys hy => by rw [I.list_inj hy hq]; exact hx⟩, ⟨⟨u, ?_⟩, hit'.at fun o q => (sb.2 it (Ne.symm hne)).trans q, hne⟩, fun b hb => ?_⟩
    · have e1 : ((i + 1 : Nat) : Int) = (i : Int) + 1 := by omega
      rw [e1]; exact he'
    · have hb' : b < s.heap.objs.size := by
        have e' : b = e ∨ b = it := by simpa using hb
        rcases e' with z | z
        · rw [z]; exact hel
        · rw [z]; exact hil
      rw [upd_ne (Nat.ne_of_lt hb')]
      exact (hf b hb).1
  done := by
    intro X hP hw hK hc i pins s σ H E I hf st hg
    subst hP hw hK
    obtain ⟨⟨old, he⟩, hit, hne⟩ := st
    obtain ⟨xs, hq, hx⟩ := hg
    obtain ⟨its, rv, p, hz⟩ := I.list hq
    obtain ⟨f0, f1, f2, f3, f4, f5⟩ := hf it (by simp)
    have hl := rv.length
    exact wpAny_pyNext_enum_end (I.ok.hd hc) he hit p.isList (by simp; omega) fun h' eb => ⟨rfl, I.turned (t' := s.toks) (fun b o hb q => eb b o hb q) f0 f1 f3 f4 f5⟩
  self := fun A i s Q E st h => let ⟨⟨_, he⟩, _⟩ := st; wpAny_pyIter_enum he h
def iEnum (K : PySem.W.Frag) (ta : TA) : TI := fun σ H R => ta σ H fun vs H1 => ∃ a xs, vs = [.ref a] ∧ SqL K H1 a xs ∧ R (Ite K a) H1
theorem pi_enum {X : Cx} {e : Expr} {ta : TA} {p pos tpos : Pos} {elts : List Expr} {kk : Nat} (hg : Gl X "enumerate") (hm : X.mg "enumerate" = none) (ha : PA X [e] ta) (hs : starEach [e] X.env = [(false, eval e X.env)] := by rfl) :
    PI X (.Tuple elts kk tpos) (.Call (.Name "enumerate" p) [e] [] pos) (iEnum X.K ta) := by
  intro pins s σ H R I h
  refine Call_ (ld_blt I hg hm boot_enumerate (PyProof.Rows.callWith_type1 (thn (ha pos pins s σ H _ I h) fun us s1 ⟨vs, H1, I1, r1, q1⟩ => ?_) hs rfl))
  obtain ⟨a, xs, ex, hq, q⟩ := q1
  subst ex
  cases r1 with
  | cons r rr =>
    cases rr
    cases r
    obtain ⟨its, rv, p', hz⟩ := I1.list hq
    refine call_enumerate_list p'.isList fun h' he hit hsz hk => wpAny_pyIter_enum he ?_
    have I2 : Inv X pins σ H1 { s1 with heap := h' } := I1.kept (t' := s1.toks) hk
    refine ⟨s1.heap.objs.size + 1, [s1.heap.objs.size + 1, s1.heap.objs.size], _, _, H1, rfl, I2, turn_enum a (s1.heap.objs.size + 1) s1.heap.objs.size, ⟨⟨.none, he⟩, hit, Nat.succ_ne_self _⟩, fun b hb => ?_, q⟩
    have e' : b = s1.heap.objs.size + 1 ∨ b = s1.heap.objs.size := by simpa using hb
    have hle : s1.heap.objs.size ≤ b := by
      rcases e' with z | z
      · rw [z]; exact Nat.le_add_right _ _
      · rw [z]; exact Nat.le_refl _
    exact I1.fpOk hle (I1.hok.fresh hle)
def Itz (K : PySem.W.Frag) (a b : Addr) : It :=
  ⟨fun i H => ∃ (xs ys : List V) (x y : V), SqL K H a xs ∧ SqL K H b ys ∧ xs[i]? = some x ∧ ys[i]? = some y,
    fun i H v H' => ∃ T x y, v = .ref T ∧ H T = none ∧ H' = upd H T (.tup [x, y]) ∧ (∀ xs, SqL K H a xs → xs[i]? = some x) ∧ ∀ ys, SqL K H b ys → ys[i]? = some y,
    fun i H => ∃ xs ys : List V, SqL K H a xs ∧ SqL K H b ys ∧ (xs.length ≤ i ∨ ys.length ≤ i)⟩
def iZip (K : PySem.W.Frag) (ta : TA) : TI := fun σ H R => ta σ H fun vs H1 => ∃ a b xs ys, vs = [.ref a, .ref b] ∧ SqL K H1 a xs ∧ SqL K H1 b ys ∧ R (Itz K a b) H1
end L2

section 
namespace Bits
open PySem PyProof.Rows

end Bits
end 

section 
namespace TL
open PySem PySem.Builtin PySem.Builtin.Str PySem.StrLaws

abbrev tl (x : Str) : List Nat := x.cps.toList
def pre (S l : List Nat) : Bool := l.take S.length == S
def spl (S : List Nat) : Nat → List Nat → List Nat → List (List Nat)
  | _, acc, [] => [acc]
  | 0, acc, c :: r => if pre S (c :: r) = true then acc :: spl S (S.length - 1) [] r else spl S 0 (acc ++ [c]) r
  | k + 1, acc, _ :: r => spl S k acc r
def par (S : List Nat) : List Nat → List Nat → Option (List Nat × List Nat)
  | _, [] => none
  | acc, c :: r => if pre S (c :: r) = true then some (acc, (c :: r).drop S.length) else par S (acc ++ [c]) r

def joinL (S : List Nat) : List (List Nat) → List Nat
  | [] => []
  | [p] => p
  | p :: q :: r => p ++ (S ++ joinL S (q :: r))
def numL (n : Nat) : List Nat := (Nat.toDigits 10 n).map Char.toNat
def wstep (st : List (List Nat) × List Nat) (c : Nat) : List (List Nat) × List Nat :=
  if Unicode.isSpace c = true then (if st.2 = [] then st else (st.1 ++ [st.2], [])) else (st.1, st.2 ++ [c])
def wfin (st : List (List Nat) × List Nat) : List (List Nat) := if st.2 = [] then st.1 else st.1 ++ [st.2]
end TL
end 

namespace L2
open PySem PySem.Spec PyProof.Rows

def rNewStrs (ys : List Str) : Hp → VK → Prop := fun H Q => ∀ p, H p = none → Q (.ref p) (upd H p (.lst (ys.map V.str)))

section
variable {X : Cx} {pins : List (Addr × Obj)} {σ : St} {H : Hp} {s : Shared} {Q : VK}
end

section
variable {X : Cx}

end

section
variable {X : Cx} {o e : Expr} {to te : TE}
def tM0 (r : V → List V → Hp → VK → Prop) (to : TE) : TE := fun σ H Q => to σ H fun x H1 => (∃ a, x = .str a) ∧ r x [] H1 Q
def tM1 (r : V → List V → Hp → VK → Prop) (to te : TE) : TE := fun σ H Q => to σ H fun x H1 => (∃ a, x = .str a) ∧ te σ H1 fun y H2 => r x [y] H2 Q
end
end L2

namespace L2
open PySem PySem.Spec PyProof.Rows

section
variable {X : Cx}
end

def clipS (n d : Nat) : Option Int → Int
  | none => (d : Int)
  | some i => max 0 (min (if i < 0 then i + (n : Int) else i) (n : Int))
def cutS (z : Str) (lo hi : Option Int) : Str :=
  ⟨((z.cps.toList.drop (HT.sIx z.length 0 lo)).take (HT.sIx z.length z.length hi - HT.sIx z.length 0 lo)).toArray⟩
def rSlS : V → Option Int → Option Int → Hp → VK → Prop := fun x lo hi H Q => ∃ z, x = .str z ∧ z.length ≤ sizeLine ∧ Q (.str (cutS z lo hi)) H
end L2

namespace Att
open PySem PySem.W PySem.Calls PyProof.Rows

theorem ints_of_wellAll {P : Params} {h : Heap} : ∀ (ns : List Int) (vs : List Value), WellAll P h vs (ns.map WData.int) → IntsAre vs ns := by
  intro ns
  induction ns with
  | nil =>
    intro vs w
    rw [List.map_nil] at w
    cases w
    exact .nil
  | cons n ns ih =>
    intro vs w
    rw [List.map_cons] at w
    cases w with
    | cons a b =>
      cases a
      exact .cons _ _ (ih _ b)

section
variable {prog : Program} {w : World} {A : Around} {E : Value → Shared → Prop} {s : Shared} {K : Frag}

def noObjs (h : Heap) : Heap := { h with objs := #[] }
def ledger (h : Heap) (L d : Addr) : List (Addr × Obj) := (List.range h.objs.size).filterMap fun a => if a = L ∨ a = d then none else (h.get? a).map fun o => (a, o)
end
end Att

namespace L2
open PySem PySem.Spec PyProof.Rows

theorem vals_ints : ∀ {vs : List Value} {ns : List Int}, IntsAre vs ns → Vals (ns.map V.int) vs
  | _, _, .nil => .nil
  | _, _, .cons n t h => .cons ⟨t, rfl⟩ (vals_ints h)

def Only (H : Hp) : Prop := ∀ b, H b = none ∨ ∃ o xs, H b = some (.frz o (.lst xs))

end L2

namespace L2
open PySem PySem.Spec PyProof.Rows

abbrev KOf {K : PySem.W.Frag} {h : Heap} (_ : K.In h) : PySem.W.Frag := K

end L2

/- THE LAST THEOREM (shape; LID, My.* are yours):
   My.Adr: a structure of the addresses that your layer names (classes, functions); My.Txt K t: a structure (Prop) of the equations over K;
   My.txt_mk : {K} {implicit addresses ..} (e1 : nsIn K mainGlobals "law" = some (some (.ref f))) (e2 : K.lookup f = some ⟨oc, od, .func (fnOf "law" "law" params body scope dV kV doc pm an cdv ct), sl⟩) (e3 : codeIn K cdv "law" = true) .. : ∃ t, My.Txt K t

set_option maxRecDepth 100000 in
set_option maxHeartbeats 0 in
theorem PySem.Challenge.cw_LID_holds : PySem.Challenge.rw_LID.Holds := by
  w_on; o_law; k_head; (case hw => w_witness2)
  k_fill
  refine L2.walk_of (l := PySem.Challenge.rw_LID) (n := 63) (k := 40) (x := "script") (CX := fun w => ..) (sp := fun _ => My.sp_law) rfl (by decide) rfl ⟨rfl, by decide, by decide⟩ (fun w h Y => PySem.W.kIn_of Y) ?F ?S ?C
  case F =>
    intro w mg fa h KX G hmg
    have T : ∃ t, My.Txt (L2.KOf KX) t := by
      dsimp only [L2.KOf]                          -- K must stand as «<heap const> w.params» for k_is
      refine' My.txt_mk ?e1 ?e2 ?e3 ..
      (case e1 => PySem.W.k_is)                    -- in the order: a name -> its address -> its object -> its parts
      (case e2 => PySem.W.k_is)
      ..
    obtain ⟨t, T⟩ := T
    have e0 := hmg.symm.trans (PySem.W.mg_of KX G T.law)
    cases e0                                       -- fa is the law's own address
    exact ⟨_, fun s u => .of_eq rfl, fun base kb nb => My.law_fn T kb nb⟩     -- if «.of_eq rfl» comes too early: refine' ⟨_, ?b, fun base kb nb => My.law_fn T kb nb⟩; exact fun s u => .of_eq rfl
  case S => exact fun w H a ns hl hO hS => ..
  case C => exact ..
(the tactic k_is has no namespace: write k_is) -/

namespace L2
open PySem PySem.Spec PyProof.Rows

def inClass (s : Stmt) (j : Nat) : Stmt := match s with
  | .ClassDef _ _ _ body _ _ _ _ _ _ _ => body.getD j (.Pass ⟨0, 0, 0, 0⟩)
  | _ => .Pass ⟨0, 0, 0, 0⟩
def defArgs (s : Stmt) : Arguments := match s with
  | .FunctionDef _ a _ _ _ _ _ _ _ _ => a
  | _ => { posonlyargs := [], args := [], vararg := none, kwonlyargs := [], kw_defaults := [], kwarg := none, defaults := [] }
def defBody (s : Stmt) : List Stmt := match s with
  | .FunctionDef _ _ b _ _ _ _ _ _ _ => b
  | _ => []
def defScope (s : Stmt) : Scope := match s with
  | .FunctionDef _ _ _ _ _ _ sc _ _ _ => sc
  | _ => { kind := .function, names := [], isGenerator := false, isCoroutine := false }

abbrev CX0 : CXT := fun _ _ _ _ _ _ => False
abbrev E0 : XK := fun _ _ _ => False
structure Fun (K : PySem.W.Frag) (x qual : Str) (st : Stmt) (f : Addr) (fd : FuncData) : Prop where
  ex : ∃ (oc : Value) (od : Option Addr) (kV doc pm : Value) (an : Option Addr) (cdv ct : Value) (osl : Array (Option Value)),
    fd = PySem.W.fnOf x qual (defArgs st) (defBody st) (defScope st) .none kV doc pm an cdv ct ∧ K.lookup f = some ⟨oc, od, .func fd, osl⟩ ∧ PySem.W.codeIn K cdv qual = true
  kp : PySem.W.keepIn K (.ref f) = true
section
variable {P : Program} {w : World} {K : PySem.W.Frag} {mg : Str → Option Value} {base : Heap}
theorem Fun.binds {x qual : Str} {st : Stmt} {f : Addr} {fd : FuncData} {ps : List Str} (F : Fun K x qual st f fd)
    (h : ∀ (kV doc pm : Value) (an : Option Addr) (cdv ct : Value) (us : List Value), us.length = ps.length → bindArgs (PySem.W.fnOf x qual (defArgs st) (defBody st) (defScope st) .none kV doc pm an cdv ct) ⟨us, []⟩ = pure (ps.zip us)) : Binds K fd ps [] := by
  obtain ⟨oc, od, kV, doc, pm, an, cdv, ct, osl, rfl, lk, hcd⟩ := F.ex
  exact .all (h kV doc pm an cdv ct)
theorem fun_mk {x qual : Str} {st : Stmt} {f : Addr} {oc : Value} {od an : Option Addr} {osl : Array (Option Value)} {kV doc pm cdv ct : Value} (l : K.lookup f = some ⟨oc, od, .func (PySem.W.fnOf x qual (defArgs st) (defBody st) (defScope st) .none kV doc pm an cdv ct), osl⟩)
    (c : PySem.W.codeIn K cdv qual = true) (k : PySem.W.keepIn K (.ref f) = true) : Fun K x qual st f (PySem.W.fnOf x qual (defArgs st) (defBody st) (defScope st) .none kV doc pm an cdv ct) := ⟨⟨oc, od, kV, doc, pm, an, cdv, ct, osl, rfl, l, c⟩, k⟩
end
section
variable {X : Cx}
end

def Same (H H' : Hp) : Prop := ∀ b o, H b = some o → H' b = some o
section
variable {κ : Type} [DecidableEq κ]
end
end L2
namespace L2
open PySem PySem.Spec PyProof.Rows

theorem readsAll_ints {R : PySem.W.WRecords} {cl : Str → Option Addr} {h : Heap} : ∀ {ns : List Int} {us : List Value}, Vals (ns.map V.int) us → PySem.W.ReadsAllW R cl h us (ns.map PySem.W.WData.int) []
  | [], us, r => by
    rw [List.map_nil] at r
    cases r
    exact .nil
  | n :: ns, us, r => by
    rw [List.map_cons] at r
    cases r with
    | cons r1 r2 =>
      obtain ⟨t, rfl⟩ := r1
      exact .cons (as := []) (bs := []) (.int n t) (readsAll_ints r2)

def SpEnd (s₁ : Shared) (ys : List Int) (r : Result) (s' : Shared) : Prop :=
  ∃ (p : Addr) (us : List Value) (m : Nat), r = .ok (.ret (.ref p)) ∧ s'.heap.get? p = some { cls := .type "list", data := .seq us.toArray m } ∧ Vals (ys.map V.int) us ∧ OldK s₁.heap s'.heap ∧ s'.os = s₁.os ∧ AllBare s'.gens

theorem spec_call {P : Program} {w : World} {K : PySem.W.Frag} {mg mb : Str → Option Value} {CX : CXT} {k : Nat} {fa a : Addr} {fd : FuncData} {x : Str} {sp : Sp} {s₁ : Shared} {vs : List Value} {ns ys : List Int}
    (KX : K.In s₁.heap) (hns : s₁.heap.Ns mainGlobals mg) (hb : s₁.heap.Ns builtinsNs mb) (hbb : ∀ x : Str, x ≠ "__name__" → mb x = bootBuiltins x) (hlim : s₁.heap.NoLimit) (hg : s₁.gens = #[])
    (ha : s₁.heap.get? a = some { cls := .type "list", data := .seq vs.toArray }) (hi : IntsAre vs ns) (hl : ns.length ≤ sizeLine) (hr : Room k callerA)
    (F : ∀ base : Heap, K.In base → base.Ns mainGlobals mg → FnOk P w K mg base CX k fa fd [x] sp) (hbind : ∀ (s : Shared) (u : Value), BindsTo s fd ⟨[u], []⟩ [(x, u)])
    (hsp : ∀ H : Hp, Only H → SqL K H a (ns.map V.int) → sp [.ref a] H (fun v H' => ∃ p, v = .ref p ∧ H' p = some (.lst (ys.map V.int))) fun _ _ _ => False)
    (hCX : ∀ H e s', CX [] H s₁ (fun _ _ _ => False) e s' → False) :
    codeAny (model P w) callerA (.call (.ref fa) ⟨[.ref a], []⟩) (SpEnd s₁ ys) s₁ := by
  have rv := vals_ints hi
  have lenV := hi.length
  have core : ∀ H : Hp, Only H → SqL K H a (ns.map V.int) → HOk P w H s₁.heap → (∀ b, H b ≠ none → b = a) → (H a ≠ none → K.lookup a = none) →
      codeAny (model P w) callerA (.call (.ref fa) ⟨[.ref a], []⟩) (SpEnd s₁ ys) s₁ := by
    intro H hO hS hok hA hK
    have base_of : ∀ {b : Addr} {o : Obj}, s₁.heap.get? b = some o → H b = none → (hidT s₁.heap H).get? b = some o := fun e n => hidT_get e n
    have noA : ∀ {b : Addr} {o : Obj} {es : Array DictEntry} {ep : Nat}, s₁.heap.get? b = some o → o.data = .dict es ep → H b = none := fun {b o es ep} e d => by
      cases q : H b with
      | none => rfl
      | some u =>
        have e' : b = a := hA b (by rw [q]; simp)
        subst e'
        rw [ha] at e; cases e
        have d' : Data.seq vs.toArray _ = Data.dict es ep := d
        cases d'
    have nsK : ∀ {b : Addr} {m : Str → Option Value}, s₁.heap.Ns b m → (hidT s₁.heap H).Ns b m := fun {b m} ⟨o, es, ep, e, d, r⟩ => ⟨o, es, ep, base_of e (noA e d), d, r⟩
    have hKb : K.In (hidT s₁.heap H) := fun b o e => base_of (KX b o e) (by
      cases q : H b with
      | none => rfl
      | some u =>
        have e' : b = a := hA b (by rw [q]; simp)
        subst e'
        rw [hK (by rw [q]; simp)] at e; cases e)
    have hM : Mod K mg (hidT s₁.heap H) := ⟨hKb, nsK hns, ⟨mb, nsK hb, hbb⟩, let ⟨mc, h1, h2⟩ := hlim; ⟨mc, nsK h1, h2⟩⟩
    have e0 : Env0 P w K mg (hidT s₁.heap H) callerA [] s₁ H := ⟨rfl, hM, fun b o e => of_hidT e, Nat.le_of_eq (hidT_size _ _), trivial, fun b hb => absurd (show b ∈ ([] : List Addr) from hb) (by simp), hok, .of_eq hg⟩
    refine codeAny_mono ((F _ hKb (nsK hns)).run callerA [] s₁ H ⟨[.ref a], []⟩ [.ref a] [.ref a] _ _ hr e0 (hbind s₁ (.ref a)) (.cons rfl .nil) (hsp H hO hS)) fun r s' h => ?_
    cases r with
    | error e => exact (hCX H e s' h).elim
    | ok fl =>
      cases fl with
      | next => exact False.elim h
      | brk => exact False.elim h
      | cont => exact False.elim h
      | ret u =>
        obtain ⟨v, H', os, bare, un, hok', r', q⟩ := h
        obtain ⟨p, e1, e2⟩ := q
        subst e1
        obtain rfl : u = Value.ref p := r'
        obtain ⟨_, us, m, rus, hus⟩ := (show ObjOk P w H' s'.heap p (.lst (ys.map V.int)) from hok' p _ e2)
        refine ⟨p, us, m, rfl, hus, rus, OldK.of_keep fun b o e => ?_, os, bare⟩
        cases q : H b with
        | none => exact un.keep b o e q (by intro z; exact absurd (show b ∈ ([] : List Addr) from z) (by simp)) (by simp)
        | some u =>
          rcases hO b with z | ⟨ob, xs, z⟩
          · rw [q] at z; cases z
          · have z2 := un.frzs b ob _ z
            obtain ⟨e1, _⟩ := hok b _ z
            obtain ⟨e2, _⟩ := hok' b _ z2
            rw [e] at e1; cases e1
            exact e2
  cases hk : K.lookup a with
  | some o =>
    have e := KX a o hk
    rw [ha] at e
    cases e
    refine core (fun _ => none) (fun _ => .inl rfl) (.inr ⟨_, vs.toArray, _, hk, rfl, rfl, rfl, by rw [List.size_toArray, lenV]; exact hl, by simpa using rv⟩) (fun b u z => by have z' : (none : Option HO) = some u := z; cases z') (fun b z => absurd rfl z) fun z => absurd rfl z
  | none =>
    refine core (fun b => if b = a then some (.frz { cls := .type "list", data := .seq vs.toArray } (.lst (ns.map V.int))) else none) (fun b => ?_) (.inl (.inr ⟨{ cls := .type "list", data := .seq vs.toArray }, if_pos rfl⟩)) (fun b u z => ?_) (fun b z => ?_) fun _ => hk
    · by_cases hb : b = a
      · exact .inr ⟨_, _, if_pos hb⟩
      · exact .inl (if_neg hb)
    · by_cases hb : b = a
      · have z' := (if_pos hb).symm.trans z
        cases z'
        subst hb
        exact ⟨ha, by rw [List.length_map]; exact hl, vs, _, rv, ha⟩
      · have z' := (if_neg hb).symm.trans z
        cases z'
    · by_cases hb : b = a
      · exact hb
      · exact absurd (if_neg hb) z
end L2

namespace L2
open PySem PySem.W PySem.Calls PyProof.Rows
theorem script_ofS {P : Params} {h : Heap} {ns : List Int} {vals : List Value} (hwl : WellAll P h vals [WData.list (ns.map WData.int)]) :
    ∃ a vs, vals = [Value.ref a] ∧ h.get? a = some { cls := .type "list", data := .seq vs.toArray } ∧ IntsAre vs ns := by
  cases hwl with
  | cons w1 w2 =>
    cases w2
    cases w1 with
    | list ho hall => exact ⟨_, _, rfl, ho, Att.ints_of_wellAll ns _ hall⟩

theorem walkS_of {r : OpenSpec} {n k : Nat} {q : Program} {loose : List Str} {XP : (Str → Option Value) → Heap → Prop} {YP : World → Heap → Prop} {d : DefRec} {K : Params → Frag} {CX : World → CXT} {sp : World → Sp} {x : Str}
    {Ok : List Int → Prop} {f : List Int → List Int}
    (hn2 : n ≤ sizeLine) (hdf : d.params.defaults = []) (hr : Room k callerA)
    (hpre : ∀ args, r.pre args = true → ∃ ns : List Int, args = [.list (ns.map .int)] ∧ ns.length ≤ n ∧ Ok ns)
    (hpost : ∀ ns, ns.length ≤ n → Ok ns → r.post [.list (ns.map .int)] (.list ((f ns).map .int)) = true)
    (hY : ∀ (w : World) (h : Heap), YP w h → (K w.params).In h)
    (F : ∀ (w : World) (mg : Str → Option Value) (fa : Addr) (h : Heap), (K w.params).In h → h.Ns mainGlobals mg → mg d.name = some (.ref fa) →
      ∃ fd : FuncData, (∀ (s : Shared) (u : Value), BindsTo s fd ⟨[u], []⟩ [(x, u)]) ∧
        ∀ base : Heap, (K w.params).In base → base.Ns mainGlobals mg → FnOk r.prog w (K w.params) mg base (CX w) k fa fd [x] (sp w))
    (hsp : ∀ (w : World) (H : Hp) (a : Addr) (ns : List Int), ns.length ≤ n → Ok ns → Only H → SqL (K w.params) H a (ns.map V.int) → sp w [.ref a] H (fun v H' => ∃ p, v = .ref p ∧ H' p = some (.lst ((f ns).map V.int))) fun _ _ _ => False)
    (hCX : ∀ (w : World) (H : Hp) (s : Shared) (e : Value) (s' : Shared), CX w [] H s (fun _ _ _ => False) e s' → False) :
    WalkOS q loose XP YP r d [] (fun f vs => PySem.call f vs) := by
  intro w s₀ s₁ mg mb G Y fa o pm cd doc dV kV ho hd hcd hD hmg hg args vals as hpr hlay hrd hwl hlo
  obtain rfl : dV = .none := Dflts.none hD hdf
  obtain rfl : kV = .none := Dflts.noKw hD
  obtain ⟨ns, rfl, hlen, hok⟩ := hpre args hpr
  obtain ⟨a, vs, rfl, hobj, hints⟩ := script_ofS hwl
  have KX := hY w _ Y
  obtain ⟨fd, hb, hF⟩ := F w mg fa _ KX G.T.g hmg
  refine enter_call (codeAny_mono (spec_call KX G.T.g G.T.b G.T.builtins G.T.nolimit hg hobj hints (Nat.le_trans hlen hn2) hr hF hb (fun H hO hS => hsp w H a ns hlen hok hO hS) fun H e s' => hCX w H s₁ e s') fun res s' hq => ?_)
  obtain ⟨p, us, m, rfl, h1, h2, h3, h4, h5⟩ := hq
  exact ⟨.inl ⟨.ref p, .list ((f ns).map .int), [p], rfl, osNone, .list h1 rfl rfl (by simpa using readsAll_ints h2), osPost (hpost ns hlen hok), fun h => absurd h Bool.false_ne_true⟩, h3, h4, h5⟩
end L2
namespace L2
open PySem PySem.Spec PyProof.Rows

def CX1 (P : Program) (w : World) : CXT := fun outer H s E e s' =>
  ∃ (a : Addr) (cls a0 : Value) (B : Heap) (H' : Hp), e = .ref a ∧ s'.os = s.os ∧ AllBare s'.gens ∧ Un (frs outer) [] H H' s.heap s'.heap ∧
    Heap.FlyingW B outer a cls a0 s'.heap ∧ HOk P w H' B ∧ (∀ b o, s.heap.get? b = some o → H b = none → b ∉ frs outer → B.get? b = some o) ∧
    (∀ b o, s.heap.get? b = some o → b ∉ frs outer → ∃ o', B.get? b = some o') ∧ E cls none H'

theorem Un.flown {fs : List Addr} {H H' : Hp} {h h1 h2 B : Heap} (u : Un fs [] H H' h h1) (hfs : ∀ b ∈ fs, H b = none) (hst : B.StaysIn h2) (up : h1.UpToSlots h2)
    (nf : ∀ b ∈ fs, ∀ o, h1.get? b = some o → ∀ vs, o.data ≠ .fields vs)
    (k1 : ∀ b o, h.get? b = some o → H b = none → b ∉ fs → B.get? b = some o) (k2 : ∀ b o, h.get? b = some o → b ∉ fs → ∃ o', B.get? b = some o') : Un fs [] H H' h h2 where
  keep := fun b o e n hb _ => hst b o (k1 b o e n hb)
  slot := fun b o e n hb hx => by
    obtain ⟨sl, e1⟩ := u.slot b o e n hb hx
    obtain ⟨sl', e2⟩ := up b _ e1 (nf b hb _ e1)
    exact ⟨sl', e2⟩
  free := u.free
  there := fun b o e hx => by
    by_cases hb : b ∈ fs
    · obtain ⟨sl, e1⟩ := u.slot b o e (hfs b hb) hb hx
      obtain ⟨sl', e2⟩ := up b _ e1 (nf b hb _ e1)
      exact ⟨_, e2⟩
    · obtain ⟨o', e1⟩ := k2 b o e hb
      exact ⟨o', hst b o' e1⟩
  tups := u.tups
  frzs := u.frzs
  tbls := u.tbls

theorem frs_nf {h B : Heap} {l : List Env} (f : h.FunFrames B l) : ∀ b ∈ frs l, ∀ o, h.get? b = some o → ∀ vs, o.data ≠ .fields vs := fun b hb o e => by
  obtain ⟨_, o', e', n⟩ := f.mem hb
  rw [e] at e'
  cases e'
  exact n

def Passes1 (X : Cx) (E : St → XK) : Prop := ∀ (pins : List (Addr × Obj)) (σ : St) (H : Hp) (s : Shared) (e : Value) (s' : Shared), Inv X pins σ H s → CX1 X.prog X.w X.stack H s (E σ) e s' → X.xe e s'
def RaiseOk (X : Cx) (E : St → XK) : Prop := ∀ (pins : List (Addr × Obj)) (σ : St) (H : Hp) (s : Shared) (e : Addr) (h' : Heap) (C : Addr) (vs : List Value), Inv X pins σ H s → Heap.MadeExcOf s.heap h' e (.ref C) vs → E σ (.ref C) none H → X.xe (.ref e) { s with heap := h' }
abbrev EN : St → XK := fun _ _ _ _ => False
theorem pass1_no {X : Cx} : Passes1 X EN := fun _ _ _ _ _ _ _ ⟨_, _, _, _, _, _, _, _, _, _, _, _, _, h⟩ => h.elim

section
variable {P : Program} {w : World} {K : PySem.W.Frag} {mg : Str → Option Value} {base : Heap} {N : List Str} {qual : Str} {scope : Scope} {f : Addr} {cd : Value} {A : Around} {outer : List Env} {s₀ : Shared} {H₀ : Hp} {E : XK}

theorem cx1_of {X : Cx} {pins : List (Addr × Obj)} {σ : St} {H H' : Hp} {s : Shared} {a : Addr} {cls a0 : Value} {B h1 h2 : Heap} {s' : Shared} (I : Inv X pins σ H s) (hex : X.ex = []) (hos : s'.os = s.os) (hb : AllBare s'.gens)
    (u : Un (frs X.stack) [] H H' s.heap h1) (hok : HOk X.prog X.w H' B) (k1 : ∀ b o, s.heap.get? b = some o → H b = none → b ∉ frs X.stack → B.get? b = some o) (k2 : ∀ b o, s.heap.get? b = some o → b ∉ frs X.stack → ∃ o', B.get? b = some o')
    (nf : ∀ b ∈ frs X.stack, ∀ o, h1.get? b = some o → ∀ vs, o.data ≠ .fields vs) (hst1 : B.StaysIn h1) (fl : Heap.FlyingW B X.outer a cls a0 h2) (up : h1.UpToSlots h2) (he : E cls none H') :
    CX1 X.prog X.w X.outer X.H_0 X.s_0 E (.ref a) { s' with heap := h2 } := by
  have sub : ∀ b ∈ X.fs, b ∈ frs X.stack := fun b hb => by
    rcases I.ok.stk with e | ⟨e, hf⟩
    · rw [e]; exact hb
    · rw [e]; exact List.mem_filterMap.mpr (by
        obtain ⟨env, he1, he2⟩ := List.mem_filterMap.mp hb
        exact ⟨env, .tail _ he1, he2⟩)
  have old : ∀ b o, X.s_0.heap.get? b = some o → b ∉ X.fs → b ∉ frs X.stack := fun b o e hb hm => by
    rcases List.mem_cons.mp (I.stkSub b hm) with z | z
    · have := Heap.lt_size e
      rw [z] at this
      exact absurd (Nat.lt_of_lt_of_le this I.ok.above) (Nat.lt_irrefl _)
    · exact hb z
  have uu : Un (frs X.stack) [] H H' s.heap h2 := u.flown I.stkFree fl.1 up nf k1 k2
  have I2 : Inv X pins σ H' { s' with heap := h2 } := I.call' (s' := { s' with heap := h2 }) hos uu (hok.kept fl.1) hb (fun b z => absurd z (by simp))
  have ub := I2.base
  rw [hex] at ub
  exact ⟨a, cls, a0, B, H', rfl, hos.trans I.os, hb, ub, fl, hok,
    fun b o e n hb' => k1 b o (I.base.keep b o e n hb' (by rw [hex]; simp)) (I.base.free b o e n (by rw [hex]; simp)) (old b o e hb'),
    fun b o e hb' => by
      obtain ⟨o1, e1⟩ := I.base.there b o e (by rw [hex]; simp)
      exact k2 b o1 e1 (old b o e hb'), he⟩

theorem pass_body : Passes1 (cxOf (CX1 P w) P w K mg base N qual scope f cd A outer s₀ H₀ E) (fun _ => E) := by
  intro pins σ H s e s' I h
  obtain ⟨a, cls, a0, B, H', rfl, hos, hb, u, fl, hok, k1, k2, he⟩ := h
  refine wpAny_leaves_onW (L := s₀.heap.objs.size) I.ok.frames rfl fl fun h2 fl2 up => ?_
  exact cx1_of (s' := s') I rfl hos hb u hok k1 k2 (frs_nf fl.2.2.1) fl.1 fl2 up he

theorem hide_frs {h base : Heap} {l : List Env} (ff : h.FunFrames base l) : h.FunFrames (PySem.W.hideAll h (frs l)) l :=
  PySem.W.funFrames_hide ff fun env he a ha => List.mem_filterMap.mpr ⟨env, he, ha⟩
theorem HOk.hide {P : Program} {w : World} {H : Hp} {h : Heap} {as : List Addr} (x : HOk P w H h) (hf : ∀ b ∈ as, H b = none) : HOk P w H (PySem.W.hideAll h as) := fun a o e => by
  have out : ∀ b u, H b = some u → b ∉ as := fun b u q hm => by rw [hf b hm] at q; cases q
  refine (x a o e).stay (fun b u hb q => PySem.W.hideAll_get _ q ?_) (fun _ q => q) fun _ _ q => q
  rcases hb with rfl | hb
  · exact out _ _ e
  · exact out _ _ hb

theorem raise_body : RaiseOk (cxOf (CX1 P w) P w K mg base N qual scope f cd A outer s₀ H₀ E) (fun _ => E) := by
  intro pins σ H s e h' C vs I hx he
  have ff := hide_frs I.stack
  have st : (PySem.W.hideAll s.heap (frs (cxOf (CX1 P w) P w K mg base N qual scope f cd A outer s₀ H₀ E).stack)).StaysIn s.heap := fun b o q => PySem.W.of_hideAll _ q
  refine wpAny_leaves_madeW (s := { s with heap := h' }) (L := s₀.heap.objs.size) I.ok.frames rfl st ff hx fun h2 t fl _ _ up => ?_
  have up0 : s.heap.UpToSlots h2 := (Heap.UpToSlots.of_keeps hx.keeps).trans up
  exact cx1_of (s' := s) (h1 := s.heap) I rfl rfl I.bare Un.refl (I.hok.hide I.stkFree) (fun b o q _ hb => PySem.W.hideAll_get _ q hb) (fun b o q hb => ⟨o, PySem.W.hideAll_get _ q hb⟩) (frs_nf I.stack) st fl up0 he
end

section
variable {P : Program} {w : World} {K : PySem.W.Frag} {mg : Str → Option Value} {base : Heap}
theorem Fun.okX {x qual : Str} {st : Stmt} {f : Addr} {fd : FuncData} {N ps : List Str} {k : Nat} {sp : Sp} (F : Fun K x qual st f fd) (S : FnScope N ps (defScope st)) (len : ∀ vs H Q E, sp vs H Q E → vs.length = ps.length)
    (hbody : ∀ (cdv : Value) (A : Around) (outer : List Env) (s : Shared) (H : Hp) (vs : List V) (Q : VK) (E : XK), Room k (A.deeper (envOfC qual (defScope st) s.heap.objs.size f cdv)) → sp vs H Q E →
      ∃ t, PSs (cxOf (CX1 P w) P w K mg base N qual (defScope st) f cdv A outer s H E) (defBody st) t ∧ t { nx := fun _ H' => Q .non H', rt := Q } (start N vs) H) : FnOk P w K mg base (CX1 P w) (k + 1) f fd ps sp := by
  obtain ⟨oc, od, kV, doc, pm, an, cdv, ct, osl, rfl, lk, hcd⟩ := F.ex
  exact fn_of lk hcd S len fun A outer s H vs Q E hr hsp => hbody cdv A outer s H vs Q E hr hsp
end

def tCallE (sp : Sp) (E : St → XK) (t : TA) : TE := fun σ H Q => t σ H fun vs H1 => sp vs H1 Q (E σ)
def tMethE (C : Addr) (m : Str) (sp : Sp) (E : St → XK) (ta : TE) (t : TA) : TE := fun σ H Q => ta σ H fun x H1 => ∃ a dx fs, x = .ref a ∧ H1 a = some (.ins C dx fs) ∧ fs.lookup m = none ∧
  t σ H1 fun vs H2 => sp (x :: vs) H2 Q (E σ)
def tMakeE (C : Addr) (sp : Sp) (E : St → XK) (t : TA) : TE := fun σ H Q => t σ H fun vs H1 => ∀ x dx, H1 x = none → H1 dx = none → dx ≠ x →
  sp (.ref x :: vs) (upd (upd H1 dx (.own x)) x (.ins C dx [])) (fun v H2 => v = .non ∧ Q (.ref x) H2) (E σ)

structure GFn (P : Program) (w : World) (K : PySem.W.Frag) (mg : Str → Option Value) (base : Heap) (x : Str) (k : Nat) (ps : List Str) (sp : Sp) : Prop where
  ex : ∃ f fd, FnOk P w K mg base (CX1 P w) k f fd ps sp ∧ mg x = some (.ref f) ∧ PySem.W.keepIn K (.ref f) = true ∧ Binds K fd ps []
structure GMt (P : Program) (w : World) (K : PySem.W.Frag) (mg : Str → Option Value) (base : Heap) (C : Addr) (m : Str) (k : Nat) (ps : List Str) (sp : Sp) : Prop where
  ex : ∃ f fd, FnOk P w K mg base (CX1 P w) k f fd ps sp ∧ Cls K C ∧ Meth K C m f ∧ Binds K fd ps []
structure GMk (P : Program) (w : World) (K : PySem.W.Frag) (mg : Str → Option Value) (base : Heap) (x : Str) (C : Addr) (k : Nat) (ps : List Str) (sp : Sp) : Prop where
  ex : ∃ f fd, FnOk P w K mg base (CX1 P w) k f fd ps sp ∧ mg x = some (.ref C) ∧ Mk K C f ∧ Binds K fd ps []

section
variable {X : Cx} {k : Nat} {f C : Addr} {fd : FuncData} {ps : List Str} {sp : Sp} {E : St → XK} {x m : Str} {p pos apos : Pos} {e o : Expr} {es : List Expr} {ta : TE} {t : TA}

theorem run_fnE {pins : List (Addr × Obj)} {σ : St} {H : Hp} {s : Shared} {Q : VK} {us : List Value} {vs : List V} (F : FnOk X.prog X.w X.K X.mg X.base (CX1 X.prog X.w) k f fd ps sp) (hr : Room k X.A) (hb : Binds X.K fd ps []) (hx : Passes1 X E)
    (I : Inv X pins σ H s) (r : Vals vs us) (h : sp vs H Q (E σ)) : wpAny (model X.prog X.w) X.A (call (.ref f) us) (EP X pins σ Q) X.xe s := by
  have hl : us.length = ps.length := by rw [← r.length]; exact F.len _ _ _ _ h
  have hb' := hb s us I.kIn (by rw [List.append_nil]; exact hl)
  rw [List.append_nil] at hb'
  refine wpAny_call (codeAny_mono (F.run X.A X.stack s H ⟨us, []⟩ us vs Q (E σ) hr I.env0 hb' r h) fun r s' hq => ?_)
  cases r with
  | error e => exact hx pins σ H s e s' I hq
  | ok fl =>
    cases fl with
    | ret u => exact I.after hq
    | next => exact False.elim hq
    | brk => exact False.elim hq
    | cont => exact False.elim hq

theorem pe_callE (G : GFn X.prog X.w X.K X.mg X.base x k ps sp) (hr : Room k X.A) (hg : Gl X x) (hx : Passes1 X E)
    (ha : PA X (e :: es) t) (hdb : (x == ("__debug__" : Str)) = false := by decide) (he : starEach (e :: es) X.env = (false, eval e X.env) :: starEach es X.env := by rfl) (hpl : (backTo pos (starEach es X.env)).any (·.1) = false := by rfl) :
    PE X (.Call (.Name x p) (e :: es) [] pos) (tCallE sp E t) := by
  intro pins s σ H Q I h
  obtain ⟨f, fd, F, hm, hk, hb⟩ := G.ex
  refine wpAny_Call_Name_kw (ld_glob I hg hm ?_ hdb)
  refine PySem.W.callWith_K (h₀ := X.base) I.ok.mod.kin hk (thn (ha pos pins s σ H _ I h) fun us s1 ⟨vs, H1, I1, r, q⟩ => ⟨I1.kIn, ?_⟩) he hpl
  exact run_fnE F hr hb hx I1 r q
theorem pe_call0E (G : GFn X.prog X.w X.K X.mg X.base x k ps sp) (hr : Room k X.A) (hg : Gl X x) (hx : Passes1 X E) (hdb : (x == ("__debug__" : Str)) = false := by decide) : PE X (.Call (.Name x p) [] [] pos) (tCallE sp E tNil) := by
  intro pins s σ H Q I h
  obtain ⟨f, fd, F, hm, hk, hb⟩ := G.ex
  refine wpAny_Call_Name_kw (ld_glob I hg hm ?_ hdb)
  exact PySem.W.callWith_K0 I.kIn hk (run_fnE (us := []) F hr hb hx I .nil h)
theorem pe_methE {pl : Sem Bool} (G : GMt X.prog X.w X.K X.mg X.base C m k ps sp) (hr : Room k X.A) (hx : Passes1 X E) (he : PE X o ta) (ha : PA X (e :: es) t)
    (hst : starEach (e :: es) X.env = (false, eval e X.env) :: starEach es X.env := by rfl) (hpl : (backTo pos (starEach es X.env)).any (·.1) = false := by rfl)
    (ht : eval (.Call (.Attribute o m apos) (e :: es) [] pos) X.env = (do
      let ov ← eval o X.env
      standAt apos.atName
      let (f, first) ← holding [ov] (getMethod ov m pl)
      callWith pos f first (backTo pos (starEach (e :: es) X.env)) (backToKw pos (keywordEach [] X.env))) := by rfl) :
    PE X (.Call (.Attribute o m apos) (e :: es) [] pos) (tMethE C m sp E ta t) := by
  intro pins s σ H Q I h
  obtain ⟨f, fd, F, c, hm, hb⟩ := G.ex
  refine PySem.W.methodCall_KW (pl := pl) (thn (he pins s σ H _ I h) fun u s1 ⟨x, H1, I1, rx, a, dx, fs, ex, ea, l, q⟩ => ?_) ht
  subst ex
  obtain rfl : u = Value.ref a := rx
  refine getmeth_ok I1 ea c hm l ?_
  refine PySem.W.callWith_K (first := [.ref a]) (h₀ := X.base) I.ok.mod.kin hm.kp (thn (ha pos pins s1 σ H1 _ I1 q) fun us s2 ⟨vs, H2, I2, r, q2⟩ => ⟨I2.kIn, ?_⟩) hst hpl
  exact run_fnE (us := .ref a :: us) (vs := .ref a :: vs) F hr hb hx I2 (.cons rfl r) q2
theorem pe_meth0E {pl : Sem Bool} (G : GMt X.prog X.w X.K X.mg X.base C m k ps sp) (hr : Room k X.A) (hx : Passes1 X E) (he : PE X o ta)
    (ht : eval (.Call (.Attribute o m apos) [] [] pos) X.env = (do
      let ov ← eval o X.env
      standAt apos.atName
      let (f, first) ← holding [ov] (getMethod ov m pl)
      callWith pos f first (backTo pos (starEach [] X.env)) (backToKw pos (keywordEach [] X.env))) := by rfl) :
    PE X (.Call (.Attribute o m apos) [] [] pos) (tMethE C m sp E ta tNil) := by
  intro pins s σ H Q I h
  obtain ⟨f, fd, F, c, hm, hb⟩ := G.ex
  refine PySem.W.methodCall_KW (pl := pl) (thn (he pins s σ H _ I h) fun u s1 ⟨x, H1, I1, rx, a, dx, fs, ex, ea, l, q⟩ => ?_) ht
  subst ex
  obtain rfl : u = Value.ref a := rx
  refine getmeth_ok I1 ea c hm l ?_
  exact PySem.W.callWith_K0 (first := [.ref a]) I1.kIn hm.kp (run_fnE (us := [.ref a]) (vs := [.ref a]) F hr hb hx I1 (.cons rfl .nil) q)

theorem run_makeE {pins : List (Addr × Obj)} {σ : St} {H : Hp} {s : Shared} {Q : VK} {us : List Value} {vs : List V} (M : Mk X.K C f) (F : FnOk X.prog X.w X.K X.mg X.base (CX1 X.prog X.w) k f fd ps sp) (hr : Room (k + 1) X.A) (hb : Binds X.K fd ps [])
    (I : Inv X pins σ H s) (r : Vals vs us)
    (h : ∀ x dx, H x = none → H dx = none → dx ≠ x → sp (.ref x :: vs) (upd (upd H dx (.own x)) x (.ins C dx [])) (fun v H2 => v = .non ∧ Q (.ref x) H2) (EN σ)) :
    wpAny (model X.prog X.w) X.A (call (.ref C) us) (EP X pins σ Q) X.xe s :=
  run_make (dvs := []) (ds := []) (CX := CX1 X.prog X.w) (E := fun _ _ _ => False) M F hr hb .nil (fun pins' σ' H' s' e s'' I' h' => pass1_no (X := X) pins' σ' H' s' e s'' I' h') I r (fun x dx h1 h2 h3 => by rw [List.append_nil]; exact h x dx h1 h2 h3)
theorem pe_makeE (G : GMk X.prog X.w X.K X.mg X.base x C k ps sp) (hr : Room (k + 1) X.A) (hg : Gl X x)
    (ha : PA X (e :: es) t) (hdb : (x == ("__debug__" : Str)) = false := by decide) (he : starEach (e :: es) X.env = (false, eval e X.env) :: starEach es X.env := by rfl) (hpl : (backTo pos (starEach es X.env)).any (·.1) = false := by rfl) :
    PE X (.Call (.Name x p) (e :: es) [] pos) (tMakeE C sp EN t) := by
  intro pins s σ H Q I h
  obtain ⟨f, fd, F, hm, M, hb⟩ := G.ex
  refine wpAny_Call_Name_kw (ld_glob I hg hm ?_ hdb)
  refine PySem.W.callWith_K (h₀ := X.base) I.ok.mod.kin M.kp (thn (ha pos pins s σ H _ I h) fun us s1 ⟨vs, H1, I1, r, q⟩ => ⟨I1.kIn, ?_⟩) he hpl
  exact run_makeE M F hr hb I1 r q
theorem pe_make0E (G : GMk X.prog X.w X.K X.mg X.base x C k ps sp) (hr : Room (k + 1) X.A) (hg : Gl X x) (hdb : (x == ("__debug__" : Str)) = false := by decide) :
    PE X (.Call (.Name x p) [] [] pos) (tMakeE C sp EN tNil) := by
  intro pins s σ H Q I h
  obtain ⟨f, fd, F, hm, M, hb⟩ := G.ex
  refine wpAny_Call_Name_kw (ld_glob I hg hm ?_ hdb)
  exact PySem.W.callWith_K0 I.kIn M.kp (run_makeE (us := []) M F hr hb I .nil h)
end
end L2
namespace L2
open PySem PySem.Spec PyProof.Rows

structure ExcC (K : PySem.W.Frag) (mg : Str → Option Value) (x : Str) (C : Addr) : Prop where
  bound : mg x = some (.ref C)
  ex : ∃ B newId initId bm, ExcBaseFacts B newId initId bm ∧ PySem.W.excIn K C bm newId = true

theorem ExcC.own {K : PySem.W.Frag} {mg : Str → Option Value} {x : Str} {C : Addr} {bmB : List Value} {newId : String} {h₀ : Heap} (X : K.In h₀) (hm : mg x = some (.ref C)) (q : PySem.W.excIn K C bmB newId = true) : OwnCls x C bmB newId mg h₀ := by
  refine ⟨hm, ?_⟩
  unfold PySem.W.excIn at q
  split at q
  · rename_i dd cd sl ho
    split at q
    · rename_i C' bm k0 k1 k2 k3 n k5 hm hs
      simp only [Bool.and_eq_true, beq_iff_eq, Bool.not_eq_true'] at q
      obtain ⟨⟨⟨⟨⟨rfl, rfl⟩, hdel⟩, ht⟩, hok⟩, hni⟩ := q
      obtain ⟨nm, bs, mro, ns, qn, hd, sn, sub, ab, col, del⟩ := cd
      dsimp only at hm hdel hok hni
      subst hm hdel
      have hsl : sl = #[k0, k1, k2, k3, some (.builtin n), k5] := by
        obtain ⟨l⟩ := sl
        simp only at hs
        rw [hs]
      subst hsl
      exact ⟨bm, ns, nm, qn, bs, hd, sn, sub, ab, col, dd, k0, k1, k2, k3, k5, _, X _ _ ho, .of_isNs (PySem.W.isNs_of_in X hok), PySem.W.nsMap_none_of_in X hok hni, PySem.W.tail_of_in X ht⟩
    · cases q
  · cases q

def tRaise (C : Addr) (E : St → XK) (t : TA) : TS := fun _ σ H => t σ H fun vs H1 => vs.length ≤ sizeLine ∧ E σ (.ref C) none H1
section
variable {X : Cx} {C : Addr} {E : St → XK} {x : Str} {p cpos pos : Pos} {e : Expr} {es : List Expr} {t : TA}
theorem ps_raise (hc : X.calm = true) (G : ExcC X.K X.mg x C) (hx : RaiseOk X E) (hg : Gl X x) (ha : PA X (e :: es) t) (hdb : (x == ("__debug__" : Str)) = false := by decide)
    (he : starEach (e :: es) X.env = (false, eval e X.env) :: starEach es X.env := by rfl) (hpl : (backTo cpos (starEach es X.env)).any (·.1) = false := by rfl) :
    PS X (.Raise (some (.Call (.Name x p) (e :: es) [] cpos)) none pos) (tRaise C E t) := by
  intro pins s σ H D I h
  obtain ⟨B, newId, initId, bmB, FB, q⟩ := G.ex
  obtain ⟨tl, N, nm, q, bs, hdct, sn, sub, ab, col, dd, k0, k1, k2, k3, k5, mN, hC, hN, hni, T⟩ := (ExcC.own I.ok.mod.kin G.bound q).obj
  refine wpAny_Raise_call_subT (C := C) (nm := nm) (q := q) (N := N) (bs := bs) (bm := tl) (hdct := hdct) (sn := sn) (sub := sub) (ab := ab) (col := col) (dd := dd) (k0 := k0) (k1 := k1) (k2 := k2) (k3 := k3) (k5 := k5)
    FB (mN := mN) (T.hasType FB.hasBase) (I.ok.hd hc) (by rw [he]; show (false || (backTo cpos (starEach es X.env)).any (·.1)) = false; rw [hpl]; rfl) hni (ld_glob I hg G.bound ⟨rfl, ?_⟩ hdb)
  have hA := ha cpos pins s σ H _ I h
  rw [he] at hA ⊢
  refine Calls.evalArgs_plain (thn hA fun us s2 ⟨vs, H2, I2, r, hz, hE⟩ => ⟨rfl, by rw [← r.length]; exact hz, I2.bk _ _ hC, hN.keeps I2.bk, T.keeps I2.bk, fun h' ea hm => ?_⟩)
  exact hx pins σ H2 s2 ea h' C us I2 hm hE
theorem ps_raise0 (hc : X.calm = true) (G : ExcC X.K X.mg x C) (hx : RaiseOk X E) (hg : Gl X x) (hdb : (x == ("__debug__" : Str)) = false := by decide) :
    PS X (.Raise (some (.Call (.Name x p) [] [] cpos)) none pos) (tRaise C E tNil) := by
  intro pins s σ H D I h
  obtain ⟨B, newId, initId, bmB, FB, q⟩ := G.ex
  obtain ⟨tl, N, nm, q, bs, hdct, sn, sub, ab, col, dd, k0, k1, k2, k3, k5, mN, hC, hN, hni, T⟩ := (ExcC.own I.ok.mod.kin G.bound q).obj
  refine wpAny_Raise_call_subT (C := C) (nm := nm) (q := q) (N := N) (bs := bs) (bm := tl) (hdct := hdct) (sn := sn) (sub := sub) (ab := ab) (col := col) (dd := dd) (k0 := k0) (k1 := k1) (k2 := k2) (k3 := k3) (k5 := k5)
    FB (mN := mN) (T.hasType FB.hasBase) (I.ok.hd hc) rfl hni (ld_glob I hg G.bound ⟨rfl, ?_⟩ hdb)
  exact evalArgs_empty ⟨rfl, Nat.zero_le _, I.bk _ _ hC, hN.keeps I.bk, T.keeps I.bk, fun h' ea hm => hx pins σ H s ea h' C [] I hm h.2⟩
end

abbrev pinCx (X : Cx) (pins : List (Addr × Obj)) : Cx := { X with pn := X.pn ++ pins }
theorem Cx.Ok.pin {X : Cx} (ok : X.Ok) (pins : List (Addr × Obj)) : (pinCx X pins).Ok :=
  ⟨ok.mod, ok.kind, ok.glob, ok.blt, ok.above, ok.inj, ok.has, ok.cab, ok.hd, ok.frames, ok.stk, ok.exf, ok.bs, ok.bsz, ok.noex, ok.exfs, ok.funs, ok.frf⟩
theorem Inv.toPin {X : Cx} {pins : List (Addr × Obj)} {σ : St} {H : Hp} {s : Shared} (I : Inv X pins σ H s) : Inv (pinCx X pins) [] σ H s :=
  ⟨I.ok.pin pins, I.os, I.bare, I.base, I.loc, I.cell, I.free, I.freeC, fun p hp => I.pin p (by simpa using hp), I.hok, I.len⟩
theorem Inv.ofPin {X : Cx} {pins pins' : List (Addr × Obj)} {σ : St} {H : Hp} {s : Shared} (ok : X.Ok) (I : Inv (pinCx X pins) pins' σ H s) : Inv X pins σ H s :=
  ⟨ok, I.os, I.bare, I.base, I.loc, I.cell, I.free, I.freeC, fun p hp => I.pin p (List.mem_append_left _ hp), I.hok, I.len⟩
theorem SP.ofPin {X : Cx} {pins pins' : List (Addr × Obj)} {D : Ends} {f : Flow} {s' : Shared} (ok : X.Ok) (h : SP (pinCx X pins) pins' D f s') : SP X pins D f s' := by
  cases f with
  | next => obtain ⟨σ', H', I, q⟩ := h; exact ⟨σ', H', I.ofPin ok, q⟩
  | brk => obtain ⟨σ', H', I, q⟩ := h; exact ⟨σ', H', I.ofPin ok, q⟩
  | cont => obtain ⟨σ', H', I, q⟩ := h; exact ⟨σ', H', I.ofPin ok, q⟩
  | ret u => obtain ⟨v, σ', H', I, r, q⟩ := h; exact ⟨v, σ', H', I.ofPin ok, r, q⟩
abbrev tryCx (X : Cx) (pins : List (Addr × Obj)) (E : St → XK) : Cx := (pinCx X pins).wish fun e s' => ∃ pins' σ H s, Inv (pinCx X pins) pins' σ H s ∧ CX1 X.prog X.w X.stack H s (E σ) e s'
theorem pass_try {X : Cx} {pins : List (Addr × Obj)} {E : St → XK} : Passes1 (tryCx X pins E) E := fun pins' σ H s e s' I h => ⟨pins', σ, H, s, I.unwish, h⟩

structure Fly (X : Cx) (pins : List (Addr × Obj)) (σ : St) (H : Hp) (a : Addr) (cls : Value) (s : Shared) : Prop where
  ex : ∃ B a0, Heap.FlyingW B X.stack a cls a0 s.heap ∧ ∀ h6, B.StaysIn h6 → s.heap.UpToSlots h6 → Inv X pins σ H { s with heap := h6 }
theorem Fly.inv {X : Cx} {pins : List (Addr × Obj)} {σ : St} {H : Hp} {a : Addr} {cls : Value} {s : Shared} (F : Fly X pins σ H a cls s) : Inv X pins σ H s := by
  obtain ⟨B, a0, fl, k⟩ := F.ex
  exact k s.heap fl.1 (.refl _)
theorem Fly.of {X : Cx} {pins : List (Addr × Obj)} {σ : St} {H : Hp} {s : Shared} {E : XK} {e : Value} {s' : Shared} (I : Inv X pins σ H s) (h : CX1 X.prog X.w X.stack H s E e s') :
    ∃ a cls H', e = .ref a ∧ Fly X pins σ H' a cls s' ∧ E cls none H' := by
  obtain ⟨a, cls, a0, B, H', rfl, hos, hb, u, fl, hok, k1, k2, he⟩ := h
  refine ⟨a, cls, H', rfl, ⟨B, a0, fl, fun h6 st up => ?_⟩, he⟩
  exact I.call' (s' := { s' with heap := h6 }) hos (u.flown I.stkFree st up (frs_nf fl.2.2.1) k1 k2) (hok.kept st) hb (fun b z => absurd z (by simp))

abbrev hCx (X : Cx) (a : Addr) : Cx := { X with A := X.A.mark (some (.ref a)), calm := false, xe := fun _ _ => False }
theorem Cx.Ok.h {X : Cx} (ok : X.Ok) (a : Addr) : (hCx X a).Ok :=
  ⟨ok.mod, ok.kind, ok.glob, ok.blt, ok.above, ok.inj, ok.has, ok.cab, fun z => (by cases z), ok.frames, ok.stk, ok.exf, ok.bs, ok.bsz, ok.noex, ok.exfs, ok.funs, ok.frf⟩
theorem Inv.h {X : Cx} {pins : List (Addr × Obj)} {σ : St} {H : Hp} {s : Shared} (I : Inv X pins σ H s) (a : Addr) : Inv (hCx X a) pins σ H s := ⟨I.ok.h a, I.os, I.bare, I.base, I.loc, I.cell, I.free, I.freeC, I.pin, I.hok, I.len⟩
theorem Inv.unh {X : Cx} {pins : List (Addr × Obj)} {σ : St} {H : Hp} {s : Shared} {a : Addr} (ok : X.Ok) (I : Inv (hCx X a) pins σ H s) : Inv X pins σ H s := ⟨ok, I.os, I.bare, I.base, I.loc, I.cell, I.free, I.freeC, I.pin, I.hok, I.len⟩
theorem SP.unh {X : Cx} {pins : List (Addr × Obj)} {a : Addr} {D : Ends} {f : Flow} {s' : Shared} (ok : X.Ok) (h : SP (hCx X a) pins D f s') : SP X pins D f s' := by
  cases f with
  | next => obtain ⟨σ', H', I, q⟩ := h; exact ⟨σ', H', I.unh ok, q⟩
  | brk => obtain ⟨σ', H', I, q⟩ := h; exact ⟨σ', H', I.unh ok, q⟩
  | cont => obtain ⟨σ', H', I, q⟩ := h; exact ⟨σ', H', I.unh ok, q⟩
  | ret u => obtain ⟨v, σ', H', I, r, q⟩ := h; exact ⟨v, σ', H', I.unh ok, r, q⟩

section
variable {X : Cx} {pins : List (Addr × Obj)} {σ : St} {H : Hp} {s : Shared} {a C : Addr} {cls : Value} {x : Str} {np pos : Pos} {b₀ : Stmt} {suite : List Stmt} {rest : List ExceptHandler} {D : Ends} {th : TS}
theorem Fly.ty {M : Model} (F : Fly X pins σ H a cls s) : PySem.W.Looks M s.heap (typeOf (.ref a)) cls := by
  obtain ⟨B, a0, fl, _⟩ := F.ex
  obtain ⟨ob, hob, hc⟩ := fl.there
  subst hc
  exact (PySem.W.Looks.ld hob).andThen .now
theorem Fly.step (F : Fly X pins σ H a cls s) {Q : Unit → Shared → Prop} {A : Around} {E : Value → Shared → Prop} {M : Model} (hQ : ∀ h', Fly X pins σ H a cls { s with heap := h' } → Q () { s with heap := h' }) : wpAny M A (setFlight (.ref a) none) Q E s := by
  obtain ⟨B, a0, fl, k⟩ := F.ex
  exact lands_againW fl fun h' fl' up => hQ h' ⟨B, a0, fl', fun h6 st up' => k h6 st (up.trans up')⟩
theorem Fly.note (F : Fly X pins σ H a cls s) (hstk : X.stack = X.env :: X.outer) (hf : X.env.frame = some X.env.locals) {Q : Unit → Shared → Prop} {E : Value → Shared → Prop} {M : Model}
    (hQ : ∀ h', Fly X pins σ H a cls { s with heap := h' } → Q () { s with heap := h' }) : wpAny M X.A (noteFrame (.ref a) X.env) (fun _ s₂ => wpAny M X.A (setFlight (.ref a) none) Q E s₂) E s := by
  obtain ⟨B, a0, fl, k⟩ := F.ex
  have hfr := F.inv.ok.frames
  rw [hstk] at hfr fl
  refine wpAny_looks_onW hfr hf fl fun h4 held up4 => ?_
  refine wpAny_landsW (s := { s with heap := h4 }) held fun h5 fl5 up5 => ?_
  exact hQ h5 ⟨B, a0, by rw [hstk]; exact fl5, fun h6 st up6 => k h6 st ((up4.trans up5).trans up6)⟩

theorem handle_hit (F : Fly X pins σ H a cls s) (hm : X.mg x = some (.ref C)) (hg : Gl X x) (hx : PySem.W.exmOne X.K cls (.ref C) = some true) (hs : PSs (hCx X a) (b₀ :: suite) th) (h : th D σ H) (hdb : (x == ("__debug__" : Str)) = false := by decide) :
    wpAny (model X.prog X.w) X.A (handleBy (.ref a) X.env (.ExceptHandler (some (.Name x np)) none (b₀ :: suite) pos :: rest)) (SP X pins D) X.xe s := by
  refine wpAny_handleBy_cons (codeAny_handlers_test ?_) (by intro q; cases q)
  have I := F.inv
  refine ld_glob (X := hCx X a) (I.h a) hg hm ?_ hdb
  refine (PySem.W.exm_one I.kIn F.ty hx).here ?_
  refine codeAny_handlers_suite ?_
  refine F.step fun h' F' => ?_
  refine wpAny_mono (hs pins { s with heap := h' } σ H D (F'.inv.h a) h) (fun f s₂ q => ?_) fun _ _ z => z.elim
  exact SP.unh I.ok q
theorem handle_skip (F : Fly X pins σ H a cls s) {name : Option Str} {body : List Stmt} (hm : X.mg x = some (.ref C)) (hg : Gl X x) (hx : PySem.W.exmOne X.K cls (.ref C) = some false)
    (h : wpAny (model X.prog X.w) X.A (handleBy (.ref a) X.env rest) (SP X pins D) X.xe s) (hdb : (x == ("__debug__" : Str)) = false := by decide) :
    wpAny (model X.prog X.w) X.A (handleBy (.ref a) X.env (.ExceptHandler (some (.Name x np)) name body pos :: rest)) (SP X pins D) X.xe s := by
  refine wpAny_handleBy_cons (codeAny_handlers_test ?_) (by intro q; cases q)
  have I := F.inv
  refine ld_glob (X := hCx X a) (I.h a) hg hm ?_ hdb
  exact (PySem.W.exm_one I.kIn F.ty hx).here h

def HD (X : Cx) (hs : List ExceptHandler) (tE : Ends → St → XK) : Prop :=
  ∀ (pins : List (Addr × Obj)) (σ : St) (H : Hp) (s : Shared) (a : Addr) (cls : Value) (D : Ends), Fly X pins σ H a cls s → tE D σ cls none H → wpAny (model X.prog X.w) X.A (handleBy (.ref a) X.env hs) (SP X pins D) X.xe s
theorem hd_nil : HD X [] (fun _ => EN) := fun _ _ _ _ _ _ _ _ h => h.elim
def tHd (K : PySem.W.Frag) (C : Addr) (th : TS) (tr : Ends → St → XK) : Ends → St → XK := fun D σ cls d H =>
  (PySem.W.exmOne K cls (.ref C) = some true ∧ th D σ H) ∨ (PySem.W.exmOne K cls (.ref C) = some false ∧ tr D σ cls d H)
theorem hd_cons {tr : Ends → St → XK} (hm : X.mg x = some (.ref C)) (hg : Gl X x) (hs : ∀ a, PSs (hCx X a) (b₀ :: suite) th) (hr : HD X rest tr) (hdb : (x == ("__debug__" : Str)) = false := by decide) :
    HD X (.ExceptHandler (some (.Name x np)) none (b₀ :: suite) pos :: rest) (tHd X.K C th tr) := by
  intro pins σ H s a cls D F h
  rcases h with ⟨hx, h⟩ | ⟨hx, h⟩
  · exact handle_hit F hm hg hx (hs a) h hdb
  · exact handle_skip F hm hg hx (hr pins σ H s a cls D F h) hdb

def tTry (tb : (St → XK) → TS) (tE : Ends → St → XK) : TS := fun D σ H => tb (tE D) D σ H
theorem ps_try {body : List Stmt} {h₀ : ExceptHandler} {hs : List ExceptHandler} {tb : (St → XK) → TS} {tE : Ends → St → XK} (hstk : X.stack = X.env :: X.outer) (hf : X.env.frame = some X.env.locals)
    (hb : ∀ (pins : List (Addr × Obj)) (E : St → XK), PSs (tryCx X pins E) body (tb E)) (hh : HD X (h₀ :: hs) tE) : PS X (.Try body (h₀ :: hs) [] [] pos) (tTry tb tE) := by
  intro pins s σ H D I h
  refine wpAny_Try_except (wpAny_mono (hb pins (tE D) [] s σ H D (I.toPin.wish _) h) (fun f s1 q => ?_) fun e s1 q => ?_)
  · have q' : SP X pins D f s1 := q.unwish.ofPin I.ok
    cases f with
    | next => exact wpAny_execs_nil q'
    | brk => exact q'
    | cont => exact q'
    | ret v => exact q'
  · obtain ⟨pins', σ1, H1, s0, I1, cx⟩ := q
    obtain ⟨a, cls, H', rfl, F, he⟩ := Fly.of (I1.ofPin I.ok) cx
    exact F.note hstk hf fun h' F' => hh pins σ1 H' _ a cls D F' he
end
end L2
namespace L2
open PySem PySem.Spec PyProof.Rows
section
variable {K : PySem.W.Frag} {t u : TS} {te ta tb tc tl : TE} {tt tt' : TT} {tr : TA} {g : TG} {D : Ends} {σ : St} {H : Hp} {Q : VK} {B : Bool → Hp → Prop} {L : List V → Hp → Prop} {i : Nat} {v : V} {f : Str} {a C dx : Addr} {fs : List (Str × V)}
theorem rd_seq (h : t { D with nx := u D } σ H) : tSeq t u D σ H := h
theorem rd_next (h : D.nx σ H) : tNext D σ H := h
theorem rd_drop (h : te σ H fun _ H1 => D.nx σ H1) : tDrop te D σ H := h
theorem rd_ret (h : te σ H D.rt) : tRet te D σ H := h
theorem rd_retN (h : D.rt .non H) : tRetN D σ H := h
theorem rd_break (h : D.bk σ H) : tBreak D σ H := h
theorem rd_cont (h : D.ct σ H) : tCont D σ H := h
theorem rd_ifS (h : tt σ H fun b H1 => if b = true then t D σ H1 else u D σ H1) : tIfS tt t u D σ H := h
theorem rd_asg (h : te σ H fun x H1 => g x σ H1 D.nx) : tAsg te g D σ H := h
theorem rd_name {P : St → Hp → Prop} (h : P (σ.set i (some v)) H) : gName i v σ H P := h
theorem rd_var (e : σ[i]? = some (some v)) (h : Q v H) : tVar i σ H Q := ⟨v, e, h⟩
theorem rd_c (h : Q v H) : tC v σ H Q := h
theorem rd_op {r : R2} (h : ta σ H fun x H1 => tb σ H1 fun y H2 => r x y H2 Q) : tOp r ta tb σ H Q := h
theorem rd_un {r : V → Hp → VK → Prop} (h : ta σ H fun x H1 => r x H1 Q) : tUn r ta σ H Q := h
theorem rd_I0 {g : Int → Int → V} {x y : Int} (h : Q (g x y) H) : rI0 g (.int x) (.int y) H Q := ⟨x, y, rfl, rfl, h⟩
theorem rd_I {c : Int → Int → Prop} {g : Int → Int → V} {x y : Int} (hc : c x y) (h : Q (g x y) H) : rI c g (.int x) (.int y) H Q := ⟨x, y, rfl, rfl, hc, h⟩
theorem rd_U {g : Int → V} {x : Int} (h : Q (g x) H) : rU g (.int x) H Q := ⟨x, rfl, h⟩
theorem rd_eqI {x y : Int} (h : Q (.bl (decide (x = y))) H) : rEq (.int x) (.int y) H Q := ⟨rfl, by
  have e : decide (V.int x = V.int y) = decide (x = y) := by rw [dec_int, Bool.beq_eq_decide_eq]
  rw [e]; exact h⟩
theorem rd_neI {x y : Int} (h : Q (.bl (!decide (x = y))) H) : rNe (.int x) (.int y) H Q := ⟨rfl, by
  have e : decide (V.int x = V.int y) = decide (x = y) := by rw [dec_int, Bool.beq_eq_decide_eq]
  rw [e]; exact h⟩
theorem rd_test (h : te σ H fun x H1 => ∃ k, x = .bl k ∧ B k H1) : tTest te σ H B := h
theorem rd_B (h : te σ H fun x H1 => ∃ k, x = .bl k ∧ B k H1) : tB te σ H B := h
theorem rd_bl {k : Bool} {P : Bool → Prop} (h : P k) : ∃ k', V.bl k = .bl k' ∧ P k' := ⟨k, rfl, h⟩
theorem rd_and (h : tt σ H fun c H1 => if c = true then tt' σ H1 B else B false H1) : tAnd tt tt' σ H B := h
theorem rd_or (h : tt σ H fun c H1 => if c = true then B true H1 else tt' σ H1 B) : tOr tt tt' σ H B := h
theorem rd_not (h : tt σ H fun c H1 => B (!c) H1) : tNot tt σ H B := h
theorem rd_andV (h : ta σ H fun x H1 => ∃ c, x = .bl c ∧ if c = true then tb σ H1 Q else Q (.bl false) H1) : tAndV ta tb σ H Q := h
theorem rd_orV (h : ta σ H fun x H1 => ∃ c, x = .bl c ∧ if c = true then Q (.bl true) H1 else tb σ H1 Q) : tOrV ta tb σ H Q := h
theorem rd_notV (h : ta σ H fun x H1 => ∃ c, x = .bl c ∧ Q (.bl (!c)) H1) : tNotV ta σ H Q := h
theorem rd_ifE (h : tt σ H fun c H1 => if c = true then ta σ H1 Q else tb σ H1 Q) : tIf tt ta tb σ H Q := h
theorem rd_chain {r r' : R2} (h : ta σ H fun x H1 => tb σ H1 fun y H2 => r x y H2 fun z H3 => ∃ k, z = .bl k ∧ (if k = true then tc σ H3 fun w' H4 => r' y w' H4 Q else Q (.bl false) H3)) : tChain r r' ta tb tc σ H Q := h
theorem rd_nil (h : L [] H) : tNil σ H L := h
theorem rd_cons (h : ta σ H fun x H1 => tr σ H1 fun xs H2 => L (x :: xs) H2) : tCons ta tr σ H L := h
theorem rd_lst (h : tr σ H fun xs H1 => xs.length ≤ sizeLine ∧ ∀ p, H1 p = none → Q (.ref p) (upd H1 p (.lst xs))) : tLst tr σ H Q := h
theorem rd_tup (h : tr σ H fun xs H1 => xs.length ≤ sizeLine ∧ ∀ p, H1 p = none → Q (.ref p) (upd H1 p (.tup xs))) : tTup tr σ H Q := h
theorem rd_callE {sp : Sp} {E : St → XK} (h : tr σ H fun vs H1 => sp vs H1 Q (E σ)) : tCallE sp E tr σ H Q := h
theorem rd_CB {r : List V → Hp → VK → Prop} (h : tr σ H fun vs H1 => r vs H1 Q) : tCB r tr σ H Q := h
def atFld (K : PySem.W.Frag) (f : Str) (x : V) (H : Hp) (Q : VK) : Prop := ∃ a C dx fs v, x = .ref a ∧ H a = some (.ins C dx fs) ∧ Cls K C ∧ NoAttr K C f ∧ fs.lookup f = some v ∧ Q v H
theorem rd_fld (h : ta σ H fun x H1 => atFld K f x H1 Q) : tFld K ta f σ H Q := h
theorem at_fld (e : H a = some (.ins C dx fs)) (c : Cls K C) (n : NoAttr K C f) (l : fs.lookup f = some v) (h : Q v H) : atFld K f (.ref a) H Q := ⟨a, C, dx, fs, v, rfl, e, c, n, l, h⟩
def toFld (K : PySem.W.Frag) (f : Str) (x y : V) (H : Hp) (P : Hp → Prop) : Prop := ∃ a C dx fs, x = .ref a ∧ H a = some (.ins C dx fs) ∧ Cls K C ∧ NoAttr K C f ∧ fs.length < 1000 ∧ P (upd H a (.ins C dx (putF f y fs)))
theorem rd_sfld {tv : TE} (h : tv σ H fun y H1 => ta σ H1 fun x H2 => toFld K f x y H2 fun H3 => D.nx σ H3) : sFld K ta tv f D σ H := h
theorem to_fld {y : V} {P : Hp → Prop} (e : H a = some (.ins C dx fs)) (c : Cls K C) (n : NoAttr K C f) (l : fs.length < 1000) (h : P (upd H a (.ins C dx (putF f y fs)))) : toFld K f (.ref a) y H P := ⟨a, C, dx, fs, rfl, e, c, n, l, h⟩
theorem rd_fldaug {tv : TE} {rd : V → V → Hp → VK → Prop} (h : ta σ H fun x H1 => ∃ a C dx fs v, x = .ref a ∧ H1 a = some (.ins C dx fs) ∧ Cls K C ∧ NoAttr K C f ∧ fs.lookup f = some v ∧
    tv σ H1 fun y H2 => rd v y H2 fun z H3 => ∃ dx' fs', H3 a = some (.ins C dx' fs') ∧ fs'.length < 1000 ∧ D.nx σ (upd H3 a (.ins C dx' (putF f z fs')))) : sFldAug K ta tv rd f D σ H := h
theorem rd_ixL {p : Addr} {xs : List V} {i : Int} (e : SqL K H p xs) (l : atI xs i = some v) (h : Q v H) : rIxL K (.ref p) (.int i) H Q := ⟨p, xs, i, v, rfl, rfl, e, l, h⟩
theorem rd_ixT {p : Addr} {xs : List V} {i : Int} (e : SqT K H p xs) (l : atI xs i = some v) (h : Q v H) : rIxT K (.ref p) (.int i) H Q := ⟨p, xs, i, v, rfl, rfl, e, l, h⟩
theorem rd_sub {to ti : TE} {ts : TSet} {x : V} {P : St → Hp → Prop} (h : to σ H fun o H1 => ti σ H1 fun i H2 => ts o i x H2 fun H3 => P σ H3) : gSub to ti ts x σ H P := h
theorem rd_setL {p : Addr} {xs : List V} {k : Int} {j : Nat} {x : V} {P : Hp → Prop} (e : H p = some (.lst xs)) (l : ixN xs.length k = some j) (h : P (upd H p (.lst (xs.set j x)))) : rSetL (.ref p) (.int k) x H P := ⟨p, xs, k, j, rfl, rfl, e, l, h⟩
theorem rd_len {p : Addr} {ys : List V} (e : SqL K H p ys) (h : Q (.int ys.length) H) : (fun xs H Q => ∃ p ys, xs = [.ref p] ∧ (SqL K H p ys ∨ SqT K H p ys) ∧ Q (.int ys.length) H : List V → Hp → VK → Prop) [.ref p] H Q := ⟨p, ys, rfl, .inl e, h⟩
theorem rd_BM {T : String} {r : V → List V → Hp → VK → Prop} {to : TE} (h : to σ H fun x H1 => tyV K T x H1 ∧ tr σ H1 fun xs H2 => r x xs H2 Q) : tBM K T r to tr σ H Q := h
theorem rd_tyL {p : Addr} {xs : List V} (e : SqL K H p xs) : tyV K "list" (.ref p) H := .inl ⟨rfl, xs, e⟩
theorem rd_app {l : Addr} {xs : List V} {y : V} (e : H l = some (.lst xs)) (z : xs.length < sizeLine) (h : Q .non (upd H l (.lst (xs ++ [y])))) : rAppend (.ref l) [y] H Q := ⟨l, xs, y, rfl, rfl, e, z, h⟩
theorem rd_ext {l b : Addr} {xs zs : List V} (e : H l = some (.lst xs)) (e2 : H b = some (.lst zs)) (z : xs.length + zs.length ≤ sizeLine) (h : Q .non (upd H l (.lst (xs ++ zs)))) : rExtend (.ref l) [.ref b] H Q := ⟨l, b, xs, zs, rfl, rfl, e, e2, z, h⟩
theorem rd_sl {r : V → Option Int → Option Int → Hp → VK → Prop} {to1 to2 : TO} (h : te σ H fun x H1 => to1 σ H1 fun l H2 => to2 σ H2 fun u H3 => r x l u H3 Q) : tSl r te to1 to2 σ H Q := h
theorem rd_part {P : Option Int → Hp → Prop} (h : te σ H fun x H1 => ∃ i, x = .int i ∧ P (some i) H1) : tPart te σ H P := h
theorem rd_nopart {P : Option Int → Hp → Prop} (h : P none H) : tNoPart σ H P := h
theorem rd_int {x : Int} {P : Int → Prop} (h : P x) : ∃ i, V.int x = .int i ∧ P i := ⟨x, rfl, h⟩
theorem rd_slL {p : Addr} {xs : List V} {lo hi : Option Int} (e : SqL K H p xs) (h : ∀ q, H q = none → Q (.ref q) (upd H q (.lst (cutV xs lo hi)))) : rSlL K (.ref p) lo hi H Q := ⟨p, xs, rfl, e, h⟩
theorem rd_cat {l b : Addr} {xs zs : List V} (e : H l = some (.lst xs)) (e2 : H b = some (.lst zs)) (z : xs.length + zs.length ≤ sizeLine) (h : ∀ p, H p = none → Q (.ref p) (upd H p (.lst (xs ++ zs)))) : rCat (.ref l) (.ref b) H Q := ⟨l, b, xs, zs, rfl, rfl, e, e2, z, h⟩
theorem rd_rep {l : Addr} {xs : List V} {k : Int} (e : H l = some (.lst xs)) (h1 : -(2 ^ 63) ≤ k) (h2 : k < 2 ^ 63) (z : xs.length * k.toNat ≤ sizeLine) (h : ∀ p, H p = none → Q (.ref p) (upd H p (.lst (List.replicate k.toNat xs).flatten))) : rRep (.ref l) (.int k) H Q := ⟨l, k, xs, rfl, rfl, e, h1, h2, z, h⟩
def atMeth (C : Addr) (m : Str) (sp : Sp) (E : XK) (σ : St) (t : TA) (x : V) (H : Hp) (Q : VK) : Prop := ∃ a dx fs, x = .ref a ∧ H a = some (.ins C dx fs) ∧ fs.lookup m = none ∧ t σ H fun vs H2 => sp (x :: vs) H2 Q E
theorem rd_meth {m : Str} {sp : Sp} {E : St → XK} (h : ta σ H fun x H1 => atMeth C m sp (E σ) σ tr x H1 Q) : tMethE C m sp E ta tr σ H Q := h
theorem at_meth {m : Str} {sp : Sp} {E : XK} (e : H a = some (.ins C dx fs)) (l : fs.lookup m = none) (h : tr σ H fun vs H2 => sp (.ref a :: vs) H2 Q E) : atMeth C m sp E σ tr (.ref a) H Q := ⟨a, dx, fs, rfl, e, l, h⟩
theorem rd_make {sp : Sp} {E : St → XK} (h : tr σ H fun vs H1 => ∀ x dx, H1 x = none → H1 dx = none → dx ≠ x → sp (.ref x :: vs) (upd (upd H1 dx (.own x)) x (.ins C dx [])) (fun v H2 => v = .non ∧ Q (.ref x) H2) (E σ)) : tMakeE C sp E tr σ H Q := h
theorem rd_raise {E : St → XK} (h : tr σ H fun vs H1 => vs.length ≤ sizeLine ∧ E σ (.ref C) none H1) : tRaise C E tr D σ H := h
theorem rd_try {tb' : (St → XK) → TS} {tE : Ends → St → XK} (h : tb' (tE D) D σ H) : tTry tb' tE D σ H := h
theorem rd_aug {r : R2} (e : σ[i]? = some (some v)) (h : te σ H fun y H1 => r v y H1 fun z H2 => D.nx (σ.set i (some z)) H2) : tAug i te r D σ H := ⟨v, e, h⟩
theorem rd_ite {c A B : Prop} [Decidable c] (h1 : c → A) (h2 : ¬ c → B) : if decide c = true then A else B := by
  by_cases h : c
  · rw [decide_eq_true h, if_pos rfl]; exact h1 h
  · rw [decide_eq_false h, if_neg Bool.false_ne_true]; exact h2 h
theorem rd_F {A B : Prop} (h : B) : if false = true then A else B := by rw [if_neg (by simp)]; exact h
theorem rd_T {A B : Prop} (h : A) : if true = true then A else B := by rw [if_pos rfl]; exact h
theorem rd_bt {A B : Prop} (b : Bool) (h1 : b = true → A) (h2 : b = false → B) : if b = true then A else B := by
  cases b with
  | true => rw [if_pos rfl]; exact h1 rfl
  | false => rw [if_neg (by simp)]; exact h2 rfl
theorem rd_bn {A B : Prop} (b : Bool) (h1 : b = false → A) (h2 : b = true → B) : if (!b) = true then A else B := by
  cases b with
  | false => rw [if_pos (by rfl)]; exact h1 rfl
  | true => rw [if_neg (by simp)]; exact h2 rfl
theorem rd_iten {c A B : Prop} [Decidable c] (h1 : ¬ c → A) (h2 : c → B) : if (!decide c) = true then A else B := by
  by_cases h : c
  · rw [decide_eq_true h, if_neg (by simp)]; exact h2 h
  · rw [decide_eq_false h, if_pos (by simp)]; exact h1 h
end
section
variable {K : PySem.W.Frag} {wi : TI} {g : TG} {tb : TS} {tl : TE} {ta : TA} {D : Ends} {σ : St} {H : Hp} {R : It → Hp → Prop}
theorem rd_for (h : wi σ H fun J H1 => ∃ W : Nat → Nat → St → Hp → Prop, (∃ m, W 0 m σ H1) ∧ ∀ i m σ H, W i m σ H →
  (J.stop i H ∧ D.nx σ H) ∨ (J.go i H ∧ ∃ N : St → Hp → Prop, (∀ σ' H', N σ' H' → ∃ m', m' < m ∧ W (i + 1) m' σ' H') ∧ ∀ x H', J.yld i H x H' → g x σ H' fun σ2 H2 => tb { D with nx := N, ct := N, bk := D.nx } σ2 H2)) : tFor wi g tb D σ H := h
theorem rd_iEnum (h : ta σ H fun vs H1 => ∃ a xs, vs = [.ref a] ∧ SqL K H1 a xs ∧ R (Ite K a) H1) : iEnum K ta σ H R := h
theorem rd_iList (h : tl σ H fun x H1 => ∃ a, x = .ref a ∧ (∃ xs, SqL K H1 a xs) ∧ R (Itl K a) H1) : iList K tl σ H R := h
theorem rd_iRng1 (h : ta σ H fun vs H1 => ∃ j : Int, vs = [.int j] ∧ -(2 ^ 62) ≤ j ∧ j < 2 ^ 62 ∧ R (Itr 0 j.toNat) H1) : iRng1 ta σ H R := h
theorem rd_iRng2 (h : ta σ H fun vs H1 => ∃ i j : Int, vs = [.int i, .int j] ∧ (-(2 ^ 62) ≤ i ∧ i < 2 ^ 62 ∧ -(2 ^ 62) ≤ j ∧ j < 2 ^ 62) ∧ R (Itr i (j - i).toNat) H1) : iRng2 ta σ H R := h
end
section
variable {X : Cx} {K : PySem.W.Frag} {o e value a b : Expr} {f : Str} {pos pos' tpos : Pos} {ta tb tv te : TE} {t : TA}
theorem pe_fldK (hK : X.K = K) (he : PE X e ta) (hb : attributeBase e f X.env (eval e X.env) = eval e X.env) : PE X (.Attribute e f pos) (tFld K ta f) := by subst hK; exact pe_fld he hb
theorem ps_fldK (hK : X.K = K) (ha : PE X o ta) (hv : PE X value tv) (hs : swapsWith value (some (.Attribute o f pos')) pos.line X.env = pure false) : PS X (.Assign [.Attribute o f pos'] value pos) (sFld K ta tv f) := by subst hK; exact ps_fld ha hv hs
theorem ps_fldaugK (hK : X.K = K) {op : Operator} {rd : V → V → Hp → VK → Prop} (ha : PE X o ta) (hv : PE X value tv) (hop : InOp X op rd) : PS X (.AugAssign (.Attribute o f tpos) op value pos) (sFldAug K ta tv rd f) := by subst hK; exact ps_fldaug ha hv hop
theorem pe_ixLK (hK : X.K = K) (ha : PE X a ta) (hb : PE X b tb) (hs : PlainIx b) : PE X (.Subscript a b pos) (tOp (rIxL K) ta tb) := by subst hK; exact pe_ix ix_list ha hb hs
theorem pe_ixTK (hK : X.K = K) (ha : PE X a ta) (hb : PE X b tb) (hs : PlainIx b) : PE X (.Subscript a b pos) (tOp (rIxT K) ta tb) := by subst hK; exact pe_ix ix_tup ha hb hs
theorem pe_slLK (hK : X.K = K) {lo hi : Option Expr} {tl th : TO} {p2 : Pos} (he : PE X e te) (hl : PO X lo tl) (hu : PO X hi th) : PE X (.Subscript e (.Slice lo hi none p2) pos) (tSl (rSlL K) te tl th) := by subst hK; exact pe_slice sl_list he hl hu
def rLen (K : PySem.W.Frag) : List V → Hp → VK → Prop := fun xs H Q => ∃ p ys, xs = [.ref p] ∧ (SqL K H p ys ∨ SqT K H p ys) ∧ Q (.int ys.length) H
theorem pe_lenK (hK : X.K = K) {p : Pos} (hg : Gl X "len") (hm : X.mg "len" = none) (ha : PA X [e] t)
    (he : starEach [e] X.env = (false, eval e X.env) :: starEach [] X.env := by rfl) (hpl : (backTo pos (starEach [] X.env)).any (·.1) = false := by rfl) : PE X (.Call (.Name "len" p) [e] [] pos) (tCB (rLen K) t) := by
  subst hK
  exact pe_callB call_len_seq hg hm PySem.boot_len ha (by decide) (by decide) he hpl
theorem rd_lenL {H : Hp} {Q : VK} {p : Addr} {ys : List V} (e : SqL K H p ys) (h : Q (.int ys.length) H) : rLen K [.ref p] H Q := ⟨p, ys, rfl, .inl e, h⟩
theorem pe_appK (hK : X.K = K) {apos cpos : Pos} {to : TE} (ho : PE X o to) (ha : PA X [e] t) (hbase : attributeBase o "append" X.env (eval o X.env) = eval o X.env := by rfl) (hline : (apos.endLine == cpos.line) = true := by rfl)
    (hs : starEach [e] X.env = (false, eval e X.env) :: starEach [] X.env := by rfl) : PE X (.Call (.Attribute o "append" apos) [e] [] cpos) (tBM K "list" rAppend to t) := by
  subst hK
  exact pe_bm PySem.F.plainAttrs_list PySem.F.slot_list_append PySem.F.type_list_append mt_append ho ha hbase (by rw [hs]; rfl) hline hs rfl
theorem pe_extK (hK : X.K = K) {apos cpos : Pos} {to : TE} (ho : PE X o to) (ha : PA X [e] t) (hbase : attributeBase o "extend" X.env (eval o X.env) = eval o X.env := by rfl) (hline : (apos.endLine == cpos.line) = true := by rfl)
    (hs : starEach [e] X.env = (false, eval e X.env) :: starEach [] X.env := by rfl) : PE X (.Call (.Attribute o "extend" apos) [e] [] cpos) (tBM K "list" rExtend to t) := by
  subst hK
  exact pe_bm PySem.F.plainAttrs_list PySem.F.slot_list_extend PySem.F.type_list_extend mt_extend ho ha hbase (by rw [hs]; rfl) hline hs rfl
theorem pe_globI {x : Str} {i : Int} (hg : Gl X x) (hm : ∃ t, X.mg x = some (.int i t)) (hd : (x == ("__debug__" : Str)) = false) : PE X (.Name x pos) (tC (.int i)) := by
  obtain ⟨t, hm⟩ := hm
  exact pe_glob hg hm ⟨t, rfl⟩ hd
theorem pi_listK (hK : X.K = K) {tg l : Expr} {tl : TE} (hl : PE X l tl) : PI X tg l (iList K tl) := by subst hK; exact pi_list hl
theorem pi_enumK (hK : X.K = K) {p tpos : Pos} {elts : List Expr} {kk : Nat} (hg : Gl X "enumerate") (hm : X.mg "enumerate" = none) (ha : PA X [e] t) (hs : starEach [e] X.env = [(false, eval e X.env)] := by rfl) :
    PI X (.Tuple elts kk tpos) (.Call (.Name "enumerate" p) [e] [] pos) (iEnum K t) := by subst hK; exact pi_enum hg hm ha hs
theorem pg_tupK (hK : X.K = K) {es : List Expr} {k : Nat} {t : TGs} {n : Nat} (hc : X.calm = true) (h : PGs X es t)
    (hn : (assignEach es X.env).length = n := by rfl) (hst : (assignEach es X.env).findIdx? (·.1) = none := by rfl) : PG X (.Tuple es k pos) (gTup K n t) := by subst hK; exact pg_tup hc h hn hst
end
end L2
namespace L2
open PySem PySem.Spec PyProof.Rows

structure KD (K : PySem.W.Frag) (a : Addr) (kvs : List (Int × Addr)) : Prop where
  ex : ∃ o es ep, K.lookup a = some o ∧ o.ExactDict ∧ o.data = .dict es ep ∧ Paired (fun (e : DictEntry) (kv : Int × Addr) => (∃ t, e.key = .int kv.1 t) ∧ e.hash = hashInt kv.1 ∧ e.val = .ref kv.2) es.toList kvs
  nd : (kvs.map (·.1)).Nodup
  ns : (a == sysModules) = false
def KTab (K : PySem.W.Frag) (mg : Str → Option Value) (a : Addr) (ps : List (Int × Str)) : Prop :=
  ∃ kvs, KD K a kvs ∧ Paired (fun (p : Int × Str) (q : Int × Addr) => p.1 = q.1 ∧ mg p.2 = some (.ref q.2)) ps kvs
def tabIn (K : PySem.W.Frag) : List DictEntry → List (Int × Str) → Bool
  | [], [] => true
  | e :: es, p :: ps => (match e.key, e.val with
    | .int k _, .ref f => k == p.1 && e.hash == hashInt k && (match PySem.W.nsIn K mainGlobals p.2 with | some (some (.ref g)) => g == f | _ => false)
    | _, _ => false) && tabIn K es ps
  | _, _ => false
def tabAt (K : PySem.W.Frag) (a : Addr) (ps : List (Int × Str)) : Bool := match K.lookup a with
  | some ⟨.type "dict", none, .dict es _, sl⟩ => sl.toList.isEmpty && tabIn K es.toList ps && !(a == sysModules)
  | _ => false
theorem tabIn_of {K : PySem.W.Frag} {mg : Str → Option Value} {h : Heap} (X : K.In h) (G : h.Ns mainGlobals mg) : ∀ {es : List DictEntry} {ps : List (Int × Str)}, tabIn K es ps = true →
    ∃ kvs : List (Int × Addr), Paired (fun (e : DictEntry) (kv : Int × Addr) => (∃ t, e.key = .int kv.1 t) ∧ e.hash = hashInt kv.1 ∧ e.val = .ref kv.2) es kvs ∧ Paired (fun (p : Int × Str) (q : Int × Addr) => p.1 = q.1 ∧ mg p.2 = some (.ref q.2)) ps kvs
  | [], [], _ => ⟨[], .nil, .nil⟩
  | [], _ :: _, q => by cases q
  | _ :: _, [], q => by cases q
  | e :: es, p :: ps, q => by
    unfold tabIn at q
    obtain ⟨q1, q2⟩ := Bool.and_eq_true_iff.mp q
    obtain ⟨kvs, r1, r2⟩ := tabIn_of X G q2
    split at q1
    · rename_i k t f hk hv
      obtain ⟨q3, q4⟩ := Bool.and_eq_true_iff.mp q1
      obtain ⟨q5, q6⟩ := Bool.and_eq_true_iff.mp q3
      split at q4
      · rename_i g hg
        obtain rfl : g = f := eq_of_beq q4
        obtain rfl : k = p.1 := eq_of_beq q5
        exact ⟨(p.1, g) :: kvs, .cons ⟨⟨t, hk⟩, eq_of_beq q6, hv⟩ r1, .cons ⟨rfl, PySem.W.mg_of X G hg⟩ r2⟩
      · cases q4
    · cases q1
theorem keys_of : ∀ {ps : List (Int × Str)} {kvs : List (Int × Addr)} {mg : Str → Option Value}, Paired (fun (p : Int × Str) (q : Int × Addr) => p.1 = q.1 ∧ mg p.2 = some (.ref q.2)) ps kvs → kvs.map (·.1) = ps.map (·.1)
  | _, _, _, .nil => rfl
  | _, _, _, .cons h t => by rw [List.map_cons, List.map_cons, keys_of t, h.1]
theorem ktab_of {K : PySem.W.Frag} {mg : Str → Option Value} {h : Heap} {a : Addr} {ps : List (Int × Str)} (X : K.In h) (G : h.Ns mainGlobals mg) (q : tabAt K a ps = true) (nd : (ps.map (·.1)).Nodup) : KTab K mg a ps := by
  unfold tabAt at q
  split at q
  · rename_i es ep sl ho
    obtain ⟨q1, q2⟩ := Bool.and_eq_true_iff.mp q
    obtain ⟨q3, q4⟩ := Bool.and_eq_true_iff.mp q1
    obtain ⟨kvs, r1, r2⟩ := tabIn_of X G q4
    have hsl : sl = #[] := by
      obtain ⟨l⟩ := sl
      cases l with
      | nil => rfl
      | cons _ _ => cases q3
    subst hsl
    refine ⟨kvs, ⟨⟨_, es, ep, ho, ⟨rfl, rfl, rfl⟩, rfl, r1⟩, ?_, ?_⟩, r2⟩
    · rw [keys_of r2]; exact nd
    · cases z : (a == sysModules)
      · rfl
      · rw [z] at q2; cases q2
  · cases q
def valI (kvs : List (Int × Addr)) (k : Int) : Option Addr := (kvs.find? fun p => decide (p.1 = k)).map (·.2)
def dvs (kvs : List (Int × Addr)) : List (Key × Value) := kvs.map fun p => (Sum.inl p.1, Value.ref p.2)
theorem dvs_at (k : Int) : ∀ kvs : List (Int × Addr), valueAt (dvs kvs) (Sum.inl k : Key) = (valI kvs k).map Value.ref
  | [] => rfl
  | p :: r => by
    have ih := dvs_at k r
    unfold valueAt dvs valI at ih ⊢
    rw [List.map_cons, List.find?_cons, List.find?_cons]
    by_cases e : p.1 = k
    · have e' : ((Sum.inl p.1 : Key) = Sum.inl k) := by rw [e]
      simp only [e', decide_true, e]
      rfl
    · have e' : ¬ ((Sum.inl p.1 : Key) = Sum.inl k) := fun z => e (Sum.inl.inj z)
      simp only [decide_eq_false e', decide_eq_false e]
      exact ih
theorem dvs_pairs {P : Program} {w : World} : ∀ {es : List DictEntry} {kvs : List (Int × Addr)}, Paired (fun (e : DictEntry) (kv : Int × Addr) => (∃ t, e.key = .int kv.1 t) ∧ e.hash = hashInt kv.1 ∧ e.val = .ref kv.2) es kvs → Pairs (mixKind P w) es (dvs kvs)
  | _, _, .nil => .nil
  | _, _, .cons h t => by
    obtain ⟨⟨t0, hk⟩, _, hv⟩ := h
    exact .cons (by rw [hk]; exact mixKind_int P w _ _) hv (dvs_pairs t)
theorem paired_mem {α β : Type} {R : α → β → Prop} : ∀ {xs : List α} {ys : List β}, Paired R xs ys → ∀ x ∈ xs, ∃ y, R x y
  | _, _, .nil, _, h => by cases h
  | _, _, .cons r t, x, h => by
    cases h with
    | head => exact ⟨_, r⟩
    | tail _ h => exact paired_mem t x h
theorem KD.dict {K : PySem.W.Frag} {h : Heap} {a : Addr} {kvs : List (Int × Addr)} {P : Program} {w : World} (d : KD K a kvs) (X : K.In h) : h.DictOf (mixKind P w) a (dvs kvs) := by
  obtain ⟨o, es, ep, ho, hx, hd, pr⟩ := d.ex
  refine ⟨o, es, ep, X a o ho, hx, hd, fun e he => ?_, dvs_pairs pr, ?_⟩
  · obtain ⟨kv, ⟨t, hk⟩, hh, _⟩ := paired_mem pr e (by simpa using he)
    exact ⟨Sum.inl kv.1, by rw [hk]; exact mixKind_int P w _ _, hh⟩
  · have e : (dvs kvs).map (·.1) = (kvs.map (·.1)).map (Sum.inl : Int → Key) := by unfold dvs; rw [List.map_map, List.map_map]; rfl
    rw [e]
    unfold List.Nodup
    rw [List.pairwise_map]
    exact d.nd.imp fun h z => h (Sum.inl.inj z)

def tKGet (K : PySem.W.Frag) (td ty : TE) : TE := fun σ H Q => td σ H fun x H1 => ty σ H1 fun y H2 => ∃ a kvs k f, x = .ref a ∧ y = .int k ∧ KD K a kvs ∧ valI kvs k = some f ∧ Q (.ref f) H2
def refO : Option Addr → V
  | some f => .ref f
  | none => .non
def tKGet1 (K : PySem.W.Frag) (td ty : TE) : TE := fun σ H Q => td σ H fun x H1 => ∃ a kvs, x = .ref a ∧ KD K a kvs ∧ ty σ H1 fun y H2 => ∃ k, y = .int k ∧ Q (refO (valI kvs k)) H2
section
variable {X : Cx} {K : PySem.W.Frag} {o i e : Expr} {pos apos cpos : Pos} {td ty : TE}
theorem pe_kget (hK : X.K = K) (ho : PE X o td) (hi : PE X i ty) (hs : NoSl i) : PE X (.Subscript o i pos) (tKGet K td ty) := by
  subst hK
  intro pins s σ H Q I h
  refine subD_of PySem.F.slot_dict_getitem.lookup hs (thn (ho pins s σ H _ I h) fun u s1 ⟨x, H1, I1, rx, q1⟩ => thn (hi pins s1 σ H1 _ I1 q1) fun iv s2 ⟨y, H2, I2, ry, a, kvs, k, f, ex, ey, d, l, q2⟩ => ?_)
  subst ex ey
  obtain rfl : u = Value.ref a := rx
  have dd : s2.heap.DictOf (mixKind X.prog X.w) a (dvs kvs) := d.dict I2.kIn
  refine ⟨dd.typeIs, wpAny_getItem_of (kV_is (k := Sum.inl k) ry) dd.mapOf (by rw [dvs_at, l]; rfl) ⟨.ref f, H2, I2.tok _, rfl, q2⟩⟩
theorem pe_kget1 (hK : X.K = K) (ho : PE X o td) (he : PE X e ty) (m : M1 X o "get" apos e cpos) : PE X (.Call (.Attribute o "get" apos) [e] [] cpos) (tKGet1 K td ty) := by
  subst hK
  intro pins s σ H Q I h
  refine wpAny_Call_method m.base m.few m.line PySem.F.plainAttrs_dict PySem.F.slot_dict_get PySem.F.type_dict_get (thn (ho pins s σ H _ I h) fun u s1 ⟨x, H1, I1, rx, a, kvs, ex, d, q1⟩ => ?_)
  subst ex
  obtain rfl : u = Value.ref a := rx
  have dd1 : s1.heap.DictOf (mixKind X.prog X.w) a (dvs kvs) := d.dict I1.kIn
  refine ⟨dd1.typeIs, fun b q => ?_, ?_⟩
  · cases q
    obtain ⟨ob, _, _, h1, h2, _⟩ := dd1
    exact ⟨ob, h1, h2.2.1⟩
  rw [m.trees]
  refine Calls.callWith_builtin rfl (Calls.evalArgs_plain (Calls.spliced_cons (thn (he pins s1 σ H1 _ I1 q1) fun iv s2 ⟨y, H2, I2, ry, k, ey, q2⟩ => Calls.spliced_nil ?_)))
  subst ey
  have dd : s2.heap.DictOf (mixKind X.prog X.w) a (dvs kvs) := d.dict I2.kIn
  refine call_meetsIn PySem.F.slot_dict_get dd.typeIs PySem.F.entry_dict_get (PySem.F.args_dict_get_2 _ _) (meets_dict_get (mixKind X.prog X.w) a (kV_is (k := Sum.inl k) ry) d.ns) ⟨_, dd.mapOf, ⟨_, H2, I2.tok _, ?_, q2⟩⟩
  rw [dvs_at]
  cases valI kvs k <;> rfl
end
theorem ktab_get {mg : Str → Option Value} (k : Int) : ∀ {ps : List (Int × Str)} {kvs : List (Int × Addr)}, Paired (fun (p : Int × Str) (q : Int × Addr) => p.1 = q.1 ∧ mg p.2 = some (.ref q.2)) ps kvs →
    (∃ n f, (k, n) ∈ ps ∧ valI kvs k = some f ∧ mg n = some (.ref f)) ∨ (valI kvs k = none ∧ ∀ n, (k, n) ∉ ps)
  | _, _, .nil => .inr ⟨rfl, fun _ h => by cases h⟩
  | _, _, .cons (a := p) (b := q) (l₁ := ps) (l₂ := kvs) h t => by
    by_cases e : q.1 = k
    · refine .inl ⟨p.2, q.2, ?_, ?_, h.2⟩
      · rw [← e, ← h.1]; exact .head _
      · unfold valI
        rw [List.find?_cons, decide_eq_true e]
        rfl
    · have e2 : valI (q :: kvs) k = valI kvs k := by
        unfold valI
        rw [List.find?_cons, decide_eq_false e]
      rcases ktab_get k t with ⟨n, f, h1, h2, h3⟩ | ⟨h1, h2⟩
      · exact .inl ⟨n, f, .tail _ h1, by rw [e2]; exact h2, h3⟩
      · refine .inr ⟨by rw [e2]; exact h1, fun n hn => ?_⟩
        cases hn with
        | head => exact e h.1.symm
        | tail _ hn => exact h2 n hn

structure GV (P : Program) (w : World) (K : PySem.W.Frag) (mg : Str → Option Value) (base : Heap) (f : Addr) (k : Nat) (sp : Sp) : Prop where
  ex : ∃ fd ps, FnOk P w K mg base (CX1 P w) k f fd ps sp ∧ PySem.W.keepIn K (.ref f) = true ∧ Binds K fd ps []
def tCallV (P : Program) (w : World) (K : PySem.W.Frag) (mg : Str → Option Value) (base : Heap) (k : Nat) (E : St → XK) (tf : TE) (t : TA) : TE := fun σ H Q => tf σ H fun v H0 => ∃ f sp, v = .ref f ∧ GV P w K mg base f k sp ∧ t σ H0 fun vs H1 => sp vs H1 Q (E σ)
section
variable {X : Cx} {K : PySem.W.Frag} {P : Program} {w : World} {mg : Str → Option Value} {base : Heap} {k : Nat} {E : St → XK} {fe e : Expr} {es : List Expr} {pos : Pos} {tf : TE} {t : TA}
theorem pe_callV (hP : X.prog = P) (hw : X.w = w) (hK : X.K = K) (hm : X.mg = mg) (hB : X.base = base) (hr : Room k X.A) (hx : Passes1 X E) (hf : PE X fe tf) (ha : PA X (e :: es) t)
    (hc : eval (.Call fe (e :: es) [] pos) X.env = (do callWith pos (← eval fe X.env) [] (backTo pos (starEach (e :: es) X.env)) (backToKw pos (keywordEach [] X.env))) := by rfl)
    (he : starEach (e :: es) X.env = (false, eval e X.env) :: starEach es X.env := by rfl) (hpl : (backTo pos (starEach es X.env)).any (·.1) = false := by rfl) :
    PE X (.Call fe (e :: es) [] pos) (tCallV P w K mg base k E tf t) := by
  subst hP hw hK hm hB
  intro pins s σ H Q I h
  refine Call_ (thn (hf pins s σ H _ I h) fun u s0 ⟨v, H0, I0, rv, f, sp, ev, G, q0⟩ => ?_) hc
  subst ev
  obtain rfl : u = Value.ref f := rv
  obtain ⟨fd, ps, F, hk, hb⟩ := G.ex
  refine PySem.W.callWith_K (h₀ := X.base) I.ok.mod.kin hk (thn (ha pos pins s0 σ H0 _ I0 q0) fun us s1 ⟨vs, H1, I1, r, q⟩ => ⟨I1.kIn, ?_⟩) he hpl
  exact run_fnE F hr hb hx I1 r q
theorem GFn.gv {n : Str} {f : Addr} {j : Nat} {ps : List Str} {sp : Sp} (G : GFn P w K mg base n j ps sp) (hm : mg n = some (.ref f)) (hj : j ≤ k) : GV P w K mg base f k sp := by
  obtain ⟨f', fd, F, hm', hk, hb⟩ := G.ex
  rw [hm] at hm'
  cases hm'
  exact ⟨fd, ps, F.mono hj, hk, hb⟩
end
theorem rd_kget {K : PySem.W.Frag} {td ty : TE} {σ : St} {H : Hp} {Q : VK} (h : td σ H fun x H1 => ty σ H1 fun y H2 => ∃ a kvs k f, x = .ref a ∧ y = .int k ∧ KD K a kvs ∧ valI kvs k = some f ∧ Q (.ref f) H2) : tKGet K td ty σ H Q := h
theorem rd_kget1 {K : PySem.W.Frag} {td ty : TE} {σ : St} {H : Hp} {Q : VK} (h : td σ H fun x H1 => ∃ a kvs, x = .ref a ∧ KD K a kvs ∧ ty σ H1 fun y H2 => ∃ k, y = .int k ∧ Q (refO (valI kvs k)) H2) : tKGet1 K td ty σ H Q := h
theorem rd_callV {P : Program} {w : World} {K : PySem.W.Frag} {mg : Str → Option Value} {base : Heap} {k : Nat} {E : St → XK} {tf : TE} {t : TA} {σ : St} {H : Hp} {Q : VK}
    (h : tf σ H fun v H0 => ∃ f sp, v = .ref f ∧ GV P w K mg base f k sp ∧ t σ H0 fun vs H1 => sp vs H1 Q (E σ)) : tCallV P w K mg base k E tf t σ H Q := h

def tFs (te : TE) : TE := fun σ H Q => te σ H fun x H1 => ∃ i, x = .int i ∧ i.natAbs.log2 < 64 ∧ ∀ y, Q (.str y) H1
theorem rd_fs {te : TE} {σ : St} {H : Hp} {Q : VK} (h : te σ H fun x H1 => ∃ i, x = .int i ∧ i.natAbs.log2 < 64 ∧ ∀ y, Q (.str y) H1) : tFs te σ H Q := h
section
variable {X : Cx} {e : Expr} {te : TE} {x1 x2 : Str} {k1 k2 : Nat} {p0 p1 p2 pos : Pos}
theorem fs_len {a : Int} (h : a.natAbs.log2 < 64) : (Str.ofString (toString a)).length ≤ 65 := by
  have e := int_text_length_le (k := 64) (by decide) h
  rw [PySem.ofString_length]; exact e
theorem pe_fs2 (he : PE X e te) (hx : Nat.ble x1.length 1000 = true := by decide) : PE X (.JoinedStr [.Constant (.str x1) k1 p1, .FormattedValue e (-1) none p0] pos) (tFs te) := by
  intro pins s σ H Q I h
  have hl : sizeLine = 16777216 := sizeLine_eq
  have hx1 : x1.length ≤ 1000 := Nat.le_of_ble_eq_true hx
  have e0 : Str.empty.length = 0 := rfl
  refine JoinedStr_many (joinParts_cons (Calls.Constant_str (show (Str.empty ++ x1).length ≤ sizeLine ∧ _ from ⟨by rw [strLen_append]; omega, ?_⟩)))
  refine joinParts_cons (FormattedValue_plain (thn (he pins _ σ H _ (I.tok _) h) fun u s1 ⟨x, H1, I1, rx, i, ex, hi, q⟩ => ?_))
  subst ex
  obtain ⟨t, rfl⟩ := rx
  have hn := fs_len hi
  refine formatField_int_small (Nat.lt_trans hi (by decide)) (show (Str.empty ++ x1 ++ Str.ofString (toString i)).length ≤ sizeLine ∧ _ from ⟨by rw [strLen_append, strLen_append]; omega, ?_⟩)
  exact joinParts_nil ⟨.str _, H1, (I1.tok _).tok _, ⟨_, rfl⟩, q _⟩ (by rw [strLen_append, strLen_append]; omega)
theorem pe_fs3 (he : PE X e te) (hx : Nat.ble x1.length 1000 = true := by decide) (hy : Nat.ble x2.length 1000 = true := by decide) : PE X (.JoinedStr [.Constant (.str x1) k1 p1, .FormattedValue e (-1) none p0, .Constant (.str x2) k2 p2] pos) (tFs te) := by
  intro pins s σ H Q I h
  have hl : sizeLine = 16777216 := sizeLine_eq
  have hx1 : x1.length ≤ 1000 := Nat.le_of_ble_eq_true hx
  have hx2 : x2.length ≤ 1000 := Nat.le_of_ble_eq_true hy
  have e0 : Str.empty.length = 0 := rfl
  refine JoinedStr_many (joinParts_cons (Calls.Constant_str (show (Str.empty ++ x1).length ≤ sizeLine ∧ _ from ⟨by rw [strLen_append]; omega, ?_⟩)))
  refine joinParts_cons (FormattedValue_plain (thn (he pins _ σ H _ (I.tok _) h) fun u s1 ⟨x, H1, I1, rx, i, ex, hi, q⟩ => ?_))
  subst ex
  obtain ⟨t, rfl⟩ := rx
  have hn := fs_len hi
  refine formatField_int_small (Nat.lt_trans hi (by decide)) (show (Str.empty ++ x1 ++ Str.ofString (toString i)).length ≤ sizeLine ∧ _ from ⟨by rw [strLen_append, strLen_append]; omega, ?_⟩)
  refine joinParts_cons (Calls.Constant_str (show (Str.empty ++ x1 ++ Str.ofString (toString i) ++ x2).length ≤ sizeLine ∧ _ from ⟨by rw [strLen_append, strLen_append, strLen_append]; omega, ?_⟩))
  exact joinParts_nil ⟨.str _, H1, ((I1.tok _).tok _).tok _, ⟨_, rfl⟩, q _⟩ (by rw [strLen_append, strLen_append, strLen_append]; omega)
end

def tTryE (tb : (St → XK) → TS) (tE : Ends → St → XK) (te : TS) : TS := fun D σ H => tb (tE D) { D with nx := te D } σ H
theorem rd_tryE {tb : (St → XK) → TS} {tE : Ends → St → XK} {te : TS} {D : Ends} {σ : St} {H : Hp} (h : tb (tE D) { D with nx := te D } σ H) : tTryE tb tE te D σ H := h
theorem ps_tryE {X : Cx} {pos : Pos} {body orelse : List Stmt} {h₀ : ExceptHandler} {hs : List ExceptHandler} {tb : (St → XK) → TS} {tE : Ends → St → XK} {te : TS} (hstk : X.stack = X.env :: X.outer) (hf : X.env.frame = some X.env.locals)
    (hb : ∀ (pins : List (Addr × Obj)) (E : St → XK), PSs (tryCx X pins E) body (tb E)) (hh : HD X (h₀ :: hs) tE) (he : PSs X orelse te) : PS X (.Try body (h₀ :: hs) orelse [] pos) (tTryE tb tE te) := by
  intro pins s σ H D I h
  refine wpAny_Try_except (wpAny_mono (hb pins (tE D) [] s σ H { D with nx := te D } (I.toPin.wish _) h) (fun f s1 q => ?_) fun e s1 q => ?_)
  · have q' : SP X pins { D with nx := te D } f s1 := q.unwish.ofPin I.ok
    cases f with
    | next =>
      obtain ⟨σ', H', I', q2⟩ := q'
      exact he pins s1 σ' H' D I' q2
    | brk => exact q'
    | cont => exact q'
    | ret v => exact q'
  · obtain ⟨pins', σ1, H1, s0, I1, cx⟩ := q
    obtain ⟨a, cls, H', rfl, F, he⟩ := Fly.of (I1.ofPin I.ok) cx
    exact F.note hstk hf fun h' F' => hh pins σ1 H' _ a cls D F' he

def tTru (K : PySem.W.Frag) (ta : TE) : TT := fun σ H Q => ta σ H fun x H' => ∃ k, TruV K x H' k ∧ Q k H'
theorem pt_truthK {X : Cx} {K : PySem.W.Frag} {a : Expr} {ta : TE} (hK : X.K = K) (ha : PE X a ta) (he : ∀ whole, isTrue a X.env whole = (do let v ← whole; standAt a.pos; holding [v] (truthy v))) : PT X a (tTru K ta) := by subst hK; exact pt_truth ha he
theorem rd_tru {K : PySem.W.Frag} {ta : TE} {σ : St} {H : Hp} {B : Bool → Hp → Prop} (h : ta σ H fun x H' => ∃ k, TruV K x H' k ∧ B k H') : tTru K ta σ H B := h
theorem rd_truI {K : PySem.W.Frag} {H : Hp} {i : Int} {B : Bool → Prop} (h : B (i != 0)) : ∃ k, TruV K (.int i) H k ∧ B k := ⟨_, rfl, h⟩
def rListOf (K : PySem.W.Frag) : List V → Hp → VK → Prop := fun xs H Q => ∃ p ys, xs = [.ref p] ∧ (SqL K H p ys ∨ SqT K H p ys) ∧ ∀ l, H l = none → Q (.ref l) (upd H l (.lst ys))
theorem pe_listK {X : Cx} {K : PySem.W.Frag} {e : Expr} {t : TA} {p pos : Pos} (hK : X.K = K) (hg : Gl X "list") (hm : X.mg "list" = none) (ha : PA X [e] t)
    (he : starEach [e] X.env = (false, eval e X.env) :: starEach [] X.env := by rfl) (hpl : (backTo pos (starEach [] X.env)).any (·.1) = false := by rfl) : PE X (.Call (.Name "list" p) [e] [] pos) (tCB (rListOf K) t) := by
  subst hK
  exact pe_callTy call_list_of hg hm PyProof.Rows.boot_list ha (by decide) (by decide) he hpl
theorem rd_listOf {K : PySem.W.Frag} {H : Hp} {Q : VK} {p : Addr} {ys : List V} (e : SqL K H p ys) (h : ∀ l, H l = none → Q (.ref l) (upd H l (.lst ys))) : rListOf K [.ref p] H Q := ⟨p, ys, rfl, .inl e, h⟩
def rAbs : List V → Hp → VK → Prop := fun xs H Q => ∃ i, xs = [.int i] ∧ Q (.int (if i < 0 then -i else i)) H
theorem pe_abs {X : Cx} {e : Expr} {t : TA} {p pos : Pos} (hg : Gl X "abs") (hm : X.mg "abs" = none) (ha : PA X [e] t)
    (he : starEach [e] X.env = (false, eval e X.env) :: starEach [] X.env := by rfl) (hpl : (backTo pos (starEach [] X.env)).any (·.1) = false := by rfl) : PE X (.Call (.Name "abs" p) [e] [] pos) (tCB rAbs t) :=
  pe_callB call_abs hg hm PyProof.Rows.boot_abs ha (by decide) (by decide) he hpl
theorem rd_abs {H : Hp} {Q : VK} {i : Int} (h : Q (.int (if i < 0 then -i else i)) H) : rAbs [.int i] H Q := ⟨i, rfl, h⟩
theorem rd_neB {H : Hp} {Q : VK} {a b : Bool} (h : Q (.bl (a != b)) H) : rNe (.bl a) (.bl b) H Q := ⟨rfl, by
  have e : (!decide (V.bl a = V.bl b)) = (a != b) := by cases a <;> cases b <;> rfl
  rw [e]; exact h⟩
theorem rd_isF {H : Hp} {Q : VK} {f : Addr} (h : Q (.bl false) H) : (fun x y H Q => y = V.non ∧ Q (.bl (decide (x = .non))) H : R2) (.ref f) .non H Q := ⟨rfl, by rw [decide_eq_false (fun z => by cases z)]; exact h⟩
theorem rd_isT {H : Hp} {Q : VK} (h : Q (.bl true) H) : (fun x y H Q => y = V.non ∧ Q (.bl (decide (x = .non))) H : R2) .non .non H Q := ⟨rfl, by rw [decide_eq_true rfl]; exact h⟩
theorem rd_one {σ : St} {H : Hp} {Q : VK} {b : Bool} (h : Q (.int ((b.toNat : Nat) : Int)) H) : if b = true then tC (.int 1) σ H Q else tC (.int 0) σ H Q := by
  cases b with
  | true => rw [if_pos rfl]; exact h
  | false => rw [if_neg (by simp)]; exact h
theorem rd_zero {σ : St} {H : Hp} {Q : VK} {b : Bool} (h : Q (.int (((!b).toNat : Nat) : Int)) H) : if b = true then tC (.int 0) σ H Q else tC (.int 1) σ H Q := by
  cases b with
  | true => rw [if_pos rfl]; exact h
  | false => rw [if_neg (by simp)]; exact h

def tupIn (K : PySem.W.Frag) : List Value → List Str → Bool
  | [], [] => true
  | .ref f :: us, n :: ns => (match PySem.W.nsIn K mainGlobals n with | some (some (.ref g)) => g == f | _ => false) && tupIn K us ns
  | _, _ => false
def tupAt (K : PySem.W.Frag) (a : Addr) (ns : List Str) : Bool := match K.lookup a with
  | some ⟨.type "tuple", _, .seq its _, _⟩ => Nat.ble its.toList.length 1000 && tupIn K its.toList ns
  | _ => false
def KTup (K : PySem.W.Frag) (mg : Str → Option Value) (a : Addr) (ns : List Str) : Prop := ∃ fs : List Addr, (∀ H, SqT K H a (fs.map V.ref)) ∧ Paired (fun (n : Str) (f : Addr) => mg n = some (.ref f)) ns fs
theorem tupIn_of {K : PySem.W.Frag} {mg : Str → Option Value} {h : Heap} (X : K.In h) (G : h.Ns mainGlobals mg) : ∀ {us : List Value} {ns : List Str}, tupIn K us ns = true →
    ∃ fs : List Addr, Vals (fs.map V.ref) us ∧ Paired (fun (n : Str) (f : Addr) => mg n = some (.ref f)) ns fs
  | [], [], _ => ⟨[], .nil, .nil⟩
  | [], _ :: _, q => by cases q
  | u :: us, [], q => by cases u <;> cases q
  | u :: us, n :: ns, q => by
    cases u with
    | ref f =>
      unfold tupIn at q
      obtain ⟨q1, q2⟩ := Bool.and_eq_true_iff.mp q
      obtain ⟨fs, r1, r2⟩ := tupIn_of X G q2
      split at q1
      · rename_i g hg
        obtain rfl : g = f := eq_of_beq q1
        exact ⟨g :: fs, .cons rfl r1, .cons (PySem.W.mg_of X G hg) r2⟩
      · cases q1
    | _ => cases q
theorem ktup_of {K : PySem.W.Frag} {mg : Str → Option Value} {h : Heap} {a : Addr} {ns : List Str} (X : K.In h) (G : h.Ns mainGlobals mg) (q : tupAt K a ns = true) : KTup K mg a ns := by
  unfold tupAt at q
  split at q
  · rename_i d its n sl ho
    obtain ⟨q1, q2⟩ := Bool.and_eq_true_iff.mp q
    obtain ⟨fs, r1, r2⟩ := tupIn_of X G q2
    have hz := Nat.le_of_ble_eq_true q1
    refine ⟨fs, fun H => .inr ⟨_, its, n, ho, rfl, rfl, ?_, r1⟩, r2⟩
    rw [sizeLine_eq]
    have : its.size = its.toList.length := by simp
    omega
  · cases q
end L2
namespace My
open PySem L2
def top (i : Nat) : Stmt := PySem.Challenge.pw_sixteenbit_s01_answers.main.body.getD i (.Pass ⟨0, 0, 0, 0⟩)
abbrev Nd (x : Str) : Prop := (x == "__debug__") = false
abbrev Nc (x : Str) : Prop := (x == "__classdict__") = false
abbrev Lc (st : Stmt) (x : Str) : Prop := (defScope st).names.lookup x = some .local
abbrev Gc (st : Stmt) (x : Str) : Prop := (defScope st).names.lookup x = some .globalImplicit
theorem nd_self : Nd "self" := by decide +kernel
theorem nd_ALL_DONE : Nd "ALL_DONE" := by decide +kernel
theorem nd_REGISTER_COUNT : Nd "REGISTER_COUNT" := by decide +kernel
theorem nd_MEMORY_SIZE : Nd "MEMORY_SIZE" := by decide +kernel
theorem nd_word : Nd "word" := by decide +kernel
theorem nd_result : Nd "result" := by decide +kernel
theorem nd_top : Nd "top" := by decide +kernel
theorem nd_overflow : Nd "overflow" := by decide +kernel
theorem nd_carry : Nd "carry" := by decide +kernel
theorem nd_at : Nd "at" := by decide +kernel
theorem nd_data : Nd "data" := by decide +kernel
theorem nd_offset : Nd "offset" := by decide +kernel
theorem nd_byte : Nd "byte" := by decide +kernel
theorem nd_enumerate : Nd "enumerate" := by decide +kernel
theorem nd_place : Nd "place" := by decide +kernel
theorem nd_OddPlace : Nd "OddPlace" := by decide +kernel
theorem nd_PC : Nd "PC" := by decide +kernel
theorem nd_WORD_RANGE : Nd "WORD_RANGE" := by decide +kernel
theorem nd_SP : Nd "SP" := by decide +kernel
theorem nd_vector : Nd "vector" := by decide +kernel
theorem nd_n : Nd "n" := by decide +kernel
theorem nd_calls : Nd "calls" := by decide +kernel
theorem nd_len : Nd "len" := by decide +kernel
theorem nd_number : Nd "number" := by decide +kernel
theorem nd_length : Nd "length" := by decide +kernel
theorem nd_start : Nd "start" := by decide +kernel
theorem nd_value : Nd "value" := by decide +kernel
theorem nd_s : Nd "s" := by decide +kernel
theorem nd_d : Nd "d" := by decide +kernel
theorem nd_whole : Nd "whole" := by decide +kernel
theorem nd_a : Nd "a" := by decide +kernel
theorem nd_b : Nd "b" := by decide +kernel
theorem nd_difference_of : Nd "difference_of" := by decide +kernel
theorem nd_sum_of : Nd "sum_of" := by decide +kernel
theorem nd_out : Nd "out" := by decide +kernel
theorem nd_negative : Nd "negative" := by decide +kernel
theorem nd_turned : Nd "turned" := by decide +kernel
theorem nd_by : Nd "by" := by decide +kernel
theorem nd_signed : Nd "signed" := by decide +kernel
theorem nd_quotient : Nd "quotient" := by decide +kernel
theorem nd_abs : Nd "abs" := by decide +kernel
theorem nd_machine : Nd "machine" := by decide +kernel
theorem nd_r : Nd "r" := by decide +kernel
theorem nd_step : Nd "step" := by decide +kernel
theorem nd_bits : Nd "bits" := by decide +kernel
theorem nd_way : Nd "way" := by decide +kernel
theorem nd_is_by_word : Nd "is_by_word" := by decide +kernel
theorem nd_REGISTER_PLACES : Nd "REGISTER_PLACES" := by decide +kernel
theorem nd_PLACES : Nd "PLACES" := by decide +kernel
theorem nd_BYTE_TOP : Nd "BYTE_TOP" := by decide +kernel
theorem nd_operand : Nd "operand" := by decide +kernel
theorem nd_kept : Nd "kept" := by decide +kernel
theorem nd_UPPER_BYTE : Nd "UPPER_BYTE" := by decide +kernel
theorem nd_w : Nd "w" := by decide +kernel
theorem nd_code : Nd "code" := by decide +kernel
theorem nd_outcome : Nd "outcome" := by decide +kernel
theorem nd_WORD_TOP : Nd "WORD_TOP" := by decide +kernel
theorem nd_take : Nd "take" := by decide +kernel
theorem nd_tell : Nd "tell" := by decide +kernel
theorem nd_TWO_OPERANDS : Nd "TWO_OPERANDS" := by decide +kernel
theorem nd_MOVB : Nd "MOVB" := by decide +kernel
theorem nd_put : Nd "put" := by decide +kernel
theorem nd_SUB : Nd "SUB" := by decide +kernel
theorem nd_CMP : Nd "CMP" := by decide +kernel
theorem nd_BIT : Nd "BIT" := by decide +kernel
theorem nd_ONE_OPERAND : Nd "ONE_OPERAND" := by decide +kernel
theorem nd_NoInstruction : Nd "NoInstruction" := by decide +kernel
theorem nd_UPPER_BITS : Nd "UPPER_BITS" := by decide +kernel
theorem nd_product : Nd "product" := by decide +kernel
theorem nd_pair : Nd "pair" := by decide +kernel
theorem nd_PAIR_RANGE : Nd "PAIR_RANGE" := by decide +kernel
theorem nd_PAIR_TOP : Nd "PAIR_TOP" := by decide +kernel
theorem nd_take_source : Nd "take_source" := by decide +kernel
theorem nd_put_pair : Nd "put_pair" := by decide +kernel
theorem nd_is_within_word : Nd "is_within_word" := by decide +kernel
theorem nd_parts : Nd "parts" := by decide +kernel
theorem nd_even_number : Nd "even_number" := by decide +kernel
theorem nd_divided : Nd "divided" := by decide +kernel
theorem nd_take_pair : Nd "take_pair" := by decide +kernel
theorem nd_take_shift : Nd "take_shift" := by decide +kernel
theorem nd_moved : Nd "moved" := by decide +kernel
theorem nd_distance : Nd "distance" := by decide +kernel
theorem nd_rest : Nd "rest" := by decide +kernel
theorem nd_move_pc : Nd "move_pc" := by decide +kernel
theorem nd_CONDITIONS : Nd "CONDITIONS" := by decide +kernel
theorem nd_tell_place : Nd "tell_place" := by decide +kernel
theorem nd_FRAME : Nd "FRAME" := by decide +kernel
theorem nd_HALTED : Nd "HALTED" := by decide +kernel
theorem nd_WAITING : Nd "WAITING" := by decide +kernel
theorem nd_BREAK_VECTOR : Nd "BREAK_VECTOR" := by decide +kernel
theorem nd_OUTPUT_VECTOR : Nd "OUTPUT_VECTOR" := by decide +kernel
theorem nd_EMULATOR_VECTOR : Nd "EMULATOR_VECTOR" := by decide +kernel
theorem nd_TRAP_VECTOR : Nd "TRAP_VECTOR" := by decide +kernel
theorem nd_work : Nd "work" := by decide +kernel
theorem nd_BY_TWO_DIGITS : Nd "BY_TWO_DIGITS" := by decide +kernel
theorem nd_BY_UPPER_BYTE : Nd "BY_UPPER_BYTE" := by decide +kernel
theorem nd_BY_FOUR_DIGITS : Nd "BY_FOUR_DIGITS" := by decide +kernel
theorem nd_BY_THREE_DIGITS : Nd "BY_THREE_DIGITS" := by decide +kernel
theorem nd_BY_FIVE_DIGITS : Nd "BY_FIVE_DIGITS" := by decide +kernel
theorem nd_BY_WHOLE_WORD : Nd "BY_WHOLE_WORD" := by decide +kernel
theorem nd_find_work : Nd "find_work" := by decide +kernel
theorem nd_done : Nd "done" := by decide +kernel
theorem nd_do_one : Nd "do_one" := by decide +kernel
theorem nd_before : Nd "before" := by decide +kernel
theorem nd_list : Nd "list" := by decide +kernel
theorem nd_do_next : Nd "do_next" := by decide +kernel
theorem nd_NOT_ONE : Nd "NOT_ONE" := by decide +kernel
theorem nd_AT_ODD_PLACE : Nd "AT_ODD_PLACE" := by decide +kernel
theorem nd_reader : Nd "reader" := by decide +kernel
theorem nd_given_back : Nd "given_back" := by decide +kernel
theorem nd_answer : Nd "answer" := by decide +kernel
theorem nd_Machine : Nd "Machine" := by decide +kernel
theorem nd_CallReader : Nd "CallReader" := by decide +kernel
theorem nd_answer_next : Nd "answer_next" := by decide +kernel
theorem nd_which : Nd "which" := by decide +kernel
theorem nd_priority : Nd "priority" := by decide +kernel
theorem nd_PD_CLEAR : Nd "PD_CLEAR" := by decide +kernel
theorem nd_PD_LOAD : Nd "PD_LOAD" := by decide +kernel
theorem nd_PD_LOOK : Nd "PD_LOOK" := by decide +kernel
theorem nd_PD_SET : Nd "PD_SET" := by decide +kernel
theorem nd_PD_GET : Nd "PD_GET" := by decide +kernel
theorem nd_PD_RUN : Nd "PD_RUN" := by decide +kernel
theorem nd_PD_WHY : Nd "PD_WHY" := by decide +kernel
theorem nd_PD_INTERRUPT : Nd "PD_INTERRUPT" := by decide +kernel
theorem nd_UnknownCall : Nd "UnknownCall" := by decide +kernel
theorem nd_pd_clear : Nd "pd_clear" := by decide +kernel
theorem nd_pd_load : Nd "pd_load" := by decide +kernel
theorem nd_pd_look : Nd "pd_look" := by decide +kernel
theorem nd_pd_set : Nd "pd_set" := by decide +kernel
theorem nd_pd_get : Nd "pd_get" := by decide +kernel
theorem nd_pd_run : Nd "pd_run" := by decide +kernel
theorem nd_pd_why : Nd "pd_why" := by decide +kernel
theorem nd_pd_interrupt : Nd "pd_interrupt" := by decide +kernel
theorem nd_DONE : Nd "DONE" := by decide +kernel
theorem nd_lies_in_memory : Nd "lies_in_memory" := by decide +kernel
theorem nd_REFUSED : Nd "REFUSED" := by decide +kernel
theorem nd_STATUS_WORD : Nd "STATUS_WORD" := by decide +kernel
theorem nd_LONGEST_RUN : Nd "LONGEST_RUN" := by decide +kernel
theorem nd_run : Nd "run" := by decide +kernel
theorem nd_INTERRUPTED : Nd "INTERRUPTED" := by decide +kernel
theorem nd_HIGHEST_PRIORITY : Nd "HIGHEST_PRIORITY" := by decide +kernel
theorem nd_NOT_ABOVE : Nd "NOT_ABOVE" := by decide +kernel
theorem nd_LAST_VECTOR : Nd "LAST_VECTOR" := by decide +kernel
theorem nd_STOPPED_AT_ODD_PLACE : Nd "STOPPED_AT_ODD_PLACE" := by decide +kernel
theorem nd_VECTOR_SIZE : Nd "VECTOR_SIZE" := by decide +kernel
theorem nc_self : Nc "self" := by decide +kernel
theorem nc_word : Nc "word" := by decide +kernel
theorem nc_result : Nc "result" := by decide +kernel
theorem nc_top : Nc "top" := by decide +kernel
theorem nc_overflow : Nc "overflow" := by decide +kernel
theorem nc_carry : Nc "carry" := by decide +kernel
theorem nc_at : Nc "at" := by decide +kernel
theorem nc_data : Nc "data" := by decide +kernel
theorem nc_offset : Nc "offset" := by decide +kernel
theorem nc_byte : Nc "byte" := by decide +kernel
theorem nc_place : Nc "place" := by decide +kernel
theorem nc_vector : Nc "vector" := by decide +kernel
theorem nc_n : Nc "n" := by decide +kernel
theorem nc_calls : Nc "calls" := by decide +kernel
theorem nc_number : Nc "number" := by decide +kernel
theorem nc_length : Nc "length" := by decide +kernel
theorem nc_start : Nc "start" := by decide +kernel
theorem nc_value : Nc "value" := by decide +kernel
theorem nc_s : Nc "s" := by decide +kernel
theorem nc_d : Nc "d" := by decide +kernel
theorem nc_whole : Nc "whole" := by decide +kernel
theorem nc_a : Nc "a" := by decide +kernel
theorem nc_b : Nc "b" := by decide +kernel
theorem nc_out : Nc "out" := by decide +kernel
theorem nc_negative : Nc "negative" := by decide +kernel
theorem nc_by : Nc "by" := by decide +kernel
theorem nc_quotient : Nc "quotient" := by decide +kernel
theorem nc_machine : Nc "machine" := by decide +kernel
theorem nc_r : Nc "r" := by decide +kernel
theorem nc_step : Nc "step" := by decide +kernel
theorem nc_bits : Nc "bits" := by decide +kernel
theorem nc_way : Nc "way" := by decide +kernel
theorem nc_is_by_word : Nc "is_by_word" := by decide +kernel
theorem nc_operand : Nc "operand" := by decide +kernel
theorem nc_kept : Nc "kept" := by decide +kernel
theorem nc_w : Nc "w" := by decide +kernel
theorem nc_code : Nc "code" := by decide +kernel
theorem nc_outcome : Nc "outcome" := by decide +kernel
theorem nc_product : Nc "product" := by decide +kernel
theorem nc_pair : Nc "pair" := by decide +kernel
theorem nc_parts : Nc "parts" := by decide +kernel
theorem nc_distance : Nc "distance" := by decide +kernel
theorem nc_rest : Nc "rest" := by decide +kernel
theorem nc_work : Nc "work" := by decide +kernel
theorem nc_done : Nc "done" := by decide +kernel
theorem nc_before : Nc "before" := by decide +kernel
theorem nc_reader : Nc "reader" := by decide +kernel
theorem nc_given_back : Nc "given_back" := by decide +kernel
theorem nc_answer : Nc "answer" := by decide +kernel
theorem nc_which : Nc "which" := by decide +kernel
theorem nc_priority : Nc "priority" := by decide +kernel
abbrev s_q0 : Stmt := inClass (top 14) 0
theorem sc_q0 : FnScope ["self"] ["self"] (defScope s_q0) := ⟨rfl, rfl, rfl, by decide +kernel, rfl, by decide +kernel, by decide +kernel⟩
theorem v_q0_self : Lc s_q0 "self" := by decide +kernel
abbrev s_q1 : Stmt := inClass (top 14) 1
theorem sc_q1 : FnScope ["self"] ["self"] (defScope s_q1) := ⟨rfl, rfl, rfl, by decide +kernel, rfl, by decide +kernel, by decide +kernel⟩
theorem v_q1_self : Lc s_q1 "self" := by decide +kernel
theorem g_q1_ALL_DONE : Gc s_q1 "ALL_DONE" := by decide +kernel
theorem g_q1_REGISTER_COUNT : Gc s_q1 "REGISTER_COUNT" := by decide +kernel
theorem g_q1_MEMORY_SIZE : Gc s_q1 "MEMORY_SIZE" := by decide +kernel
abbrev s_q2 : Stmt := inClass (top 14) 2
theorem sc_q2 : FnScope ["self", "word"] ["self", "word"] (defScope s_q2) := ⟨rfl, rfl, rfl, by decide +kernel, rfl, by decide +kernel, by decide +kernel⟩
theorem v_q2_self : Lc s_q2 "self" := by decide +kernel
theorem v_q2_word : Lc s_q2 "word" := by decide +kernel
abbrev s_q3 : Stmt := inClass (top 14) 3
theorem sc_q3 : FnScope ["self"] ["self"] (defScope s_q3) := ⟨rfl, rfl, rfl, by decide +kernel, rfl, by decide +kernel, by decide +kernel⟩
theorem v_q3_self : Lc s_q3 "self" := by decide +kernel
abbrev s_q4 : Stmt := inClass (top 14) 4
theorem sc_q4 : FnScope ["self", "result", "top", "overflow", "carry"] ["self", "result", "top", "overflow", "carry"] (defScope s_q4) := ⟨rfl, rfl, rfl, by decide +kernel, rfl, by decide +kernel, by decide +kernel⟩
theorem v_q4_self : Lc s_q4 "self" := by decide +kernel
theorem v_q4_result : Lc s_q4 "result" := by decide +kernel
theorem v_q4_top : Lc s_q4 "top" := by decide +kernel
theorem v_q4_overflow : Lc s_q4 "overflow" := by decide +kernel
theorem v_q4_carry : Lc s_q4 "carry" := by decide +kernel
abbrev s_q5 : Stmt := inClass (top 14) 5
theorem sc_q5 : FnScope ["self", "at", "data", "offset", "byte"] ["self", "at", "data"] (defScope s_q5) := ⟨rfl, rfl, rfl, by decide +kernel, rfl, by decide +kernel, by decide +kernel⟩
theorem v_q5_self : Lc s_q5 "self" := by decide +kernel
theorem v_q5_at : Lc s_q5 "at" := by decide +kernel
theorem v_q5_data : Lc s_q5 "data" := by decide +kernel
theorem v_q5_offset : Lc s_q5 "offset" := by decide +kernel
theorem v_q5_byte : Lc s_q5 "byte" := by decide +kernel
theorem g_q5_enumerate : Gc s_q5 "enumerate" := by decide +kernel
abbrev s_q6 : Stmt := inClass (top 14) 6
theorem sc_q6 : FnScope ["self", "place"] ["self", "place"] (defScope s_q6) := ⟨rfl, rfl, rfl, by decide +kernel, rfl, by decide +kernel, by decide +kernel⟩
theorem v_q6_self : Lc s_q6 "self" := by decide +kernel
theorem v_q6_place : Lc s_q6 "place" := by decide +kernel
theorem g_q6_OddPlace : Gc s_q6 "OddPlace" := by decide +kernel
abbrev s_q7 : Stmt := inClass (top 14) 7
theorem sc_q7 : FnScope ["self", "place", "word"] ["self", "place", "word"] (defScope s_q7) := ⟨rfl, rfl, rfl, by decide +kernel, rfl, by decide +kernel, by decide +kernel⟩
theorem v_q7_self : Lc s_q7 "self" := by decide +kernel
theorem v_q7_place : Lc s_q7 "place" := by decide +kernel
theorem v_q7_word : Lc s_q7 "word" := by decide +kernel
theorem g_q7_OddPlace : Gc s_q7 "OddPlace" := by decide +kernel
abbrev s_q8 : Stmt := inClass (top 14) 8
theorem sc_q8 : FnScope ["self", "place", "word"] ["self"] (defScope s_q8) := ⟨rfl, rfl, rfl, by decide +kernel, rfl, by decide +kernel, by decide +kernel⟩
theorem v_q8_self : Lc s_q8 "self" := by decide +kernel
theorem v_q8_place : Lc s_q8 "place" := by decide +kernel
theorem v_q8_word : Lc s_q8 "word" := by decide +kernel
theorem g_q8_PC : Gc s_q8 "PC" := by decide +kernel
theorem g_q8_WORD_RANGE : Gc s_q8 "WORD_RANGE" := by decide +kernel
abbrev s_q9 : Stmt := inClass (top 14) 9
theorem sc_q9 : FnScope ["self", "word", "place"] ["self", "word"] (defScope s_q9) := ⟨rfl, rfl, rfl, by decide +kernel, rfl, by decide +kernel, by decide +kernel⟩
theorem v_q9_self : Lc s_q9 "self" := by decide +kernel
theorem v_q9_word : Lc s_q9 "word" := by decide +kernel
theorem v_q9_place : Lc s_q9 "place" := by decide +kernel
theorem g_q9_WORD_RANGE : Gc s_q9 "WORD_RANGE" := by decide +kernel
theorem g_q9_SP : Gc s_q9 "SP" := by decide +kernel
abbrev s_q10 : Stmt := inClass (top 14) 10
theorem sc_q10 : FnScope ["self", "place", "word"] ["self"] (defScope s_q10) := ⟨rfl, rfl, rfl, by decide +kernel, rfl, by decide +kernel, by decide +kernel⟩
theorem v_q10_self : Lc s_q10 "self" := by decide +kernel
theorem v_q10_place : Lc s_q10 "place" := by decide +kernel
theorem v_q10_word : Lc s_q10 "word" := by decide +kernel
theorem g_q10_SP : Gc s_q10 "SP" := by decide +kernel
theorem g_q10_WORD_RANGE : Gc s_q10 "WORD_RANGE" := by decide +kernel
abbrev s_q11 : Stmt := inClass (top 14) 11
theorem sc_q11 : FnScope ["self", "vector"] ["self", "vector"] (defScope s_q11) := ⟨rfl, rfl, rfl, by decide +kernel, rfl, by decide +kernel, by decide +kernel⟩
theorem v_q11_self : Lc s_q11 "self" := by decide +kernel
theorem v_q11_vector : Lc s_q11 "vector" := by decide +kernel
theorem g_q11_PC : Gc s_q11 "PC" := by decide +kernel
abbrev s_q12 : Stmt := top 15
theorem sc_q12 : FnScope ["at", "n"] ["at", "n"] (defScope s_q12) := ⟨rfl, rfl, rfl, by decide +kernel, rfl, by decide +kernel, by decide +kernel⟩
theorem v_q12_at : Lc s_q12 "at" := by decide +kernel
theorem v_q12_n : Lc s_q12 "n" := by decide +kernel
theorem g_q12_MEMORY_SIZE : Gc s_q12 "MEMORY_SIZE" := by decide +kernel
abbrev s_q13 : Stmt := inClass (top 17) 0
theorem sc_q13 : FnScope ["self", "calls"] ["self", "calls"] (defScope s_q13) := ⟨rfl, rfl, rfl, by decide +kernel, rfl, by decide +kernel, by decide +kernel⟩
theorem v_q13_self : Lc s_q13 "self" := by decide +kernel
theorem v_q13_calls : Lc s_q13 "calls" := by decide +kernel
abbrev s_q14 : Stmt := inClass (top 17) 1
theorem sc_q14 : FnScope ["self"] ["self"] (defScope s_q14) := ⟨rfl, rfl, rfl, by decide +kernel, rfl, by decide +kernel, by decide +kernel⟩
theorem v_q14_self : Lc s_q14 "self" := by decide +kernel
theorem g_q14_len : Gc s_q14 "len" := by decide +kernel
abbrev s_q15 : Stmt := inClass (top 17) 2
theorem sc_q15 : FnScope ["self", "number"] ["self"] (defScope s_q15) := ⟨rfl, rfl, rfl, by decide +kernel, rfl, by decide +kernel, by decide +kernel⟩
theorem v_q15_self : Lc s_q15 "self" := by decide +kernel
theorem v_q15_number : Lc s_q15 "number" := by decide +kernel
abbrev s_q16 : Stmt := inClass (top 17) 3
theorem sc_q16 : FnScope ["self", "length", "start"] ["self"] (defScope s_q16) := ⟨rfl, rfl, rfl, by decide +kernel, rfl, by decide +kernel, by decide +kernel⟩
theorem v_q16_self : Lc s_q16 "self" := by decide +kernel
theorem v_q16_length : Lc s_q16 "length" := by decide +kernel
theorem v_q16_start : Lc s_q16 "start" := by decide +kernel
abbrev s_q17 : Stmt := top 19
theorem sc_q17 : FnScope ["value", "top"] ["value", "top"] (defScope s_q17) := ⟨rfl, rfl, rfl, by decide +kernel, rfl, by decide +kernel, by decide +kernel⟩
theorem v_q17_value : Lc s_q17 "value" := by decide +kernel
theorem v_q17_top : Lc s_q17 "top" := by decide +kernel
abbrev s_q18 : Stmt := top 20
theorem sc_q18 : FnScope ["s", "d", "top", "whole", "result", "overflow"] ["s", "d", "top"] (defScope s_q18) := ⟨rfl, rfl, rfl, by decide +kernel, rfl, by decide +kernel, by decide +kernel⟩
theorem v_q18_s : Lc s_q18 "s" := by decide +kernel
theorem v_q18_d : Lc s_q18 "d" := by decide +kernel
theorem v_q18_top : Lc s_q18 "top" := by decide +kernel
theorem v_q18_whole : Lc s_q18 "whole" := by decide +kernel
theorem v_q18_result : Lc s_q18 "result" := by decide +kernel
theorem v_q18_overflow : Lc s_q18 "overflow" := by decide +kernel
abbrev s_q19 : Stmt := top 21
theorem sc_q19 : FnScope ["a", "b", "top", "result", "overflow"] ["a", "b", "top"] (defScope s_q19) := ⟨rfl, rfl, rfl, by decide +kernel, rfl, by decide +kernel, by decide +kernel⟩
theorem v_q19_a : Lc s_q19 "a" := by decide +kernel
theorem v_q19_b : Lc s_q19 "b" := by decide +kernel
theorem v_q19_top : Lc s_q19 "top" := by decide +kernel
theorem v_q19_result : Lc s_q19 "result" := by decide +kernel
theorem v_q19_overflow : Lc s_q19 "overflow" := by decide +kernel
abbrev s_q20 : Stmt := top 22
theorem sc_q20 : FnScope ["s", "d", "carry", "top"] ["s", "d", "carry", "top"] (defScope s_q20) := ⟨rfl, rfl, rfl, by decide +kernel, rfl, by decide +kernel, by decide +kernel⟩
theorem v_q20_s : Lc s_q20 "s" := by decide +kernel
theorem v_q20_d : Lc s_q20 "d" := by decide +kernel
theorem v_q20_carry : Lc s_q20 "carry" := by decide +kernel
theorem v_q20_top : Lc s_q20 "top" := by decide +kernel
abbrev s_q21 : Stmt := top 23
theorem sc_q21 : FnScope ["s", "d", "carry", "top"] ["s", "d", "carry", "top"] (defScope s_q21) := ⟨rfl, rfl, rfl, by decide +kernel, rfl, by decide +kernel, by decide +kernel⟩
theorem v_q21_s : Lc s_q21 "s" := by decide +kernel
theorem v_q21_d : Lc s_q21 "d" := by decide +kernel
theorem v_q21_carry : Lc s_q21 "carry" := by decide +kernel
theorem v_q21_top : Lc s_q21 "top" := by decide +kernel
theorem g_q21_difference_of : Gc s_q21 "difference_of" := by decide +kernel
abbrev s_q22 : Stmt := top 24
theorem sc_q22 : FnScope ["s", "d", "carry", "top"] ["s", "d", "carry", "top"] (defScope s_q22) := ⟨rfl, rfl, rfl, by decide +kernel, rfl, by decide +kernel, by decide +kernel⟩
theorem v_q22_s : Lc s_q22 "s" := by decide +kernel
theorem v_q22_d : Lc s_q22 "d" := by decide +kernel
theorem v_q22_carry : Lc s_q22 "carry" := by decide +kernel
theorem v_q22_top : Lc s_q22 "top" := by decide +kernel
abbrev s_q23 : Stmt := top 25
theorem sc_q23 : FnScope ["s", "d", "carry", "top"] ["s", "d", "carry", "top"] (defScope s_q23) := ⟨rfl, rfl, rfl, by decide +kernel, rfl, by decide +kernel, by decide +kernel⟩
theorem v_q23_s : Lc s_q23 "s" := by decide +kernel
theorem v_q23_d : Lc s_q23 "d" := by decide +kernel
theorem v_q23_carry : Lc s_q23 "carry" := by decide +kernel
theorem v_q23_top : Lc s_q23 "top" := by decide +kernel
abbrev s_q24 : Stmt := top 26
theorem sc_q24 : FnScope ["s", "d", "carry", "top"] ["s", "d", "carry", "top"] (defScope s_q24) := ⟨rfl, rfl, rfl, by decide +kernel, rfl, by decide +kernel, by decide +kernel⟩
theorem v_q24_s : Lc s_q24 "s" := by decide +kernel
theorem v_q24_d : Lc s_q24 "d" := by decide +kernel
theorem v_q24_carry : Lc s_q24 "carry" := by decide +kernel
theorem v_q24_top : Lc s_q24 "top" := by decide +kernel
abbrev s_q25 : Stmt := top 27
theorem sc_q25 : FnScope ["s", "d", "carry", "top"] ["s", "d", "carry", "top"] (defScope s_q25) := ⟨rfl, rfl, rfl, by decide +kernel, rfl, by decide +kernel, by decide +kernel⟩
theorem v_q25_s : Lc s_q25 "s" := by decide +kernel
theorem v_q25_d : Lc s_q25 "d" := by decide +kernel
theorem v_q25_carry : Lc s_q25 "carry" := by decide +kernel
theorem v_q25_top : Lc s_q25 "top" := by decide +kernel
theorem g_q25_sum_of : Gc s_q25 "sum_of" := by decide +kernel
abbrev s_q26 : Stmt := top 28
theorem sc_q26 : FnScope ["s", "d", "carry", "top"] ["s", "d", "carry", "top"] (defScope s_q26) := ⟨rfl, rfl, rfl, by decide +kernel, rfl, by decide +kernel, by decide +kernel⟩
theorem v_q26_s : Lc s_q26 "s" := by decide +kernel
theorem v_q26_d : Lc s_q26 "d" := by decide +kernel
theorem v_q26_carry : Lc s_q26 "carry" := by decide +kernel
theorem v_q26_top : Lc s_q26 "top" := by decide +kernel
theorem g_q26_difference_of : Gc s_q26 "difference_of" := by decide +kernel
abbrev s_q27 : Stmt := top 30
theorem sc_q27 : FnScope ["d", "carry", "top"] ["d", "carry", "top"] (defScope s_q27) := ⟨rfl, rfl, rfl, by decide +kernel, rfl, by decide +kernel, by decide +kernel⟩
theorem v_q27_d : Lc s_q27 "d" := by decide +kernel
theorem v_q27_carry : Lc s_q27 "carry" := by decide +kernel
theorem v_q27_top : Lc s_q27 "top" := by decide +kernel
abbrev s_q28 : Stmt := top 31
theorem sc_q28 : FnScope ["d", "carry", "top"] ["d", "carry", "top"] (defScope s_q28) := ⟨rfl, rfl, rfl, by decide +kernel, rfl, by decide +kernel, by decide +kernel⟩
theorem v_q28_d : Lc s_q28 "d" := by decide +kernel
theorem v_q28_carry : Lc s_q28 "carry" := by decide +kernel
theorem v_q28_top : Lc s_q28 "top" := by decide +kernel
abbrev s_q29 : Stmt := top 32
theorem sc_q29 : FnScope ["d", "carry", "top"] ["d", "carry", "top"] (defScope s_q29) := ⟨rfl, rfl, rfl, by decide +kernel, rfl, by decide +kernel, by decide +kernel⟩
theorem v_q29_d : Lc s_q29 "d" := by decide +kernel
theorem v_q29_carry : Lc s_q29 "carry" := by decide +kernel
theorem v_q29_top : Lc s_q29 "top" := by decide +kernel
abbrev s_q30 : Stmt := top 33
theorem sc_q30 : FnScope ["d", "carry", "top"] ["d", "carry", "top"] (defScope s_q30) := ⟨rfl, rfl, rfl, by decide +kernel, rfl, by decide +kernel, by decide +kernel⟩
theorem v_q30_d : Lc s_q30 "d" := by decide +kernel
theorem v_q30_carry : Lc s_q30 "carry" := by decide +kernel
theorem v_q30_top : Lc s_q30 "top" := by decide +kernel
abbrev s_q31 : Stmt := top 34
theorem sc_q31 : FnScope ["d", "carry", "top", "result"] ["d", "carry", "top"] (defScope s_q31) := ⟨rfl, rfl, rfl, by decide +kernel, rfl, by decide +kernel, by decide +kernel⟩
theorem v_q31_d : Lc s_q31 "d" := by decide +kernel
theorem v_q31_carry : Lc s_q31 "carry" := by decide +kernel
theorem v_q31_top : Lc s_q31 "top" := by decide +kernel
theorem v_q31_result : Lc s_q31 "result" := by decide +kernel
abbrev s_q32 : Stmt := top 35
theorem sc_q32 : FnScope ["d", "carry", "top"] ["d", "carry", "top"] (defScope s_q32) := ⟨rfl, rfl, rfl, by decide +kernel, rfl, by decide +kernel, by decide +kernel⟩
theorem v_q32_d : Lc s_q32 "d" := by decide +kernel
theorem v_q32_carry : Lc s_q32 "carry" := by decide +kernel
theorem v_q32_top : Lc s_q32 "top" := by decide +kernel
theorem g_q32_sum_of : Gc s_q32 "sum_of" := by decide +kernel
abbrev s_q33 : Stmt := top 36
theorem sc_q33 : FnScope ["d", "carry", "top"] ["d", "carry", "top"] (defScope s_q33) := ⟨rfl, rfl, rfl, by decide +kernel, rfl, by decide +kernel, by decide +kernel⟩
theorem v_q33_d : Lc s_q33 "d" := by decide +kernel
theorem v_q33_carry : Lc s_q33 "carry" := by decide +kernel
theorem v_q33_top : Lc s_q33 "top" := by decide +kernel
theorem g_q33_difference_of : Gc s_q33 "difference_of" := by decide +kernel
abbrev s_q34 : Stmt := top 37
theorem sc_q34 : FnScope ["d", "carry", "top"] ["d", "carry", "top"] (defScope s_q34) := ⟨rfl, rfl, rfl, by decide +kernel, rfl, by decide +kernel, by decide +kernel⟩
theorem v_q34_d : Lc s_q34 "d" := by decide +kernel
theorem v_q34_carry : Lc s_q34 "carry" := by decide +kernel
theorem v_q34_top : Lc s_q34 "top" := by decide +kernel
abbrev s_q35 : Stmt := top 38
theorem sc_q35 : FnScope ["result", "out", "top", "negative"] ["result", "out", "top"] (defScope s_q35) := ⟨rfl, rfl, rfl, by decide +kernel, rfl, by decide +kernel, by decide +kernel⟩
theorem v_q35_result : Lc s_q35 "result" := by decide +kernel
theorem v_q35_out : Lc s_q35 "out" := by decide +kernel
theorem v_q35_top : Lc s_q35 "top" := by decide +kernel
theorem v_q35_negative : Lc s_q35 "negative" := by decide +kernel
abbrev s_q36 : Stmt := top 39
theorem sc_q36 : FnScope ["d", "carry", "top"] ["d", "carry", "top"] (defScope s_q36) := ⟨rfl, rfl, rfl, by decide +kernel, rfl, by decide +kernel, by decide +kernel⟩
theorem v_q36_d : Lc s_q36 "d" := by decide +kernel
theorem v_q36_carry : Lc s_q36 "carry" := by decide +kernel
theorem v_q36_top : Lc s_q36 "top" := by decide +kernel
theorem g_q36_turned : Gc s_q36 "turned" := by decide +kernel
abbrev s_q37 : Stmt := top 40
theorem sc_q37 : FnScope ["d", "carry", "top"] ["d", "carry", "top"] (defScope s_q37) := ⟨rfl, rfl, rfl, by decide +kernel, rfl, by decide +kernel, by decide +kernel⟩
theorem v_q37_d : Lc s_q37 "d" := by decide +kernel
theorem v_q37_carry : Lc s_q37 "carry" := by decide +kernel
theorem v_q37_top : Lc s_q37 "top" := by decide +kernel
theorem g_q37_turned : Gc s_q37 "turned" := by decide +kernel
abbrev s_q38 : Stmt := top 41
theorem sc_q38 : FnScope ["d", "carry", "top"] ["d", "carry", "top"] (defScope s_q38) := ⟨rfl, rfl, rfl, by decide +kernel, rfl, by decide +kernel, by decide +kernel⟩
theorem v_q38_d : Lc s_q38 "d" := by decide +kernel
theorem v_q38_carry : Lc s_q38 "carry" := by decide +kernel
theorem v_q38_top : Lc s_q38 "top" := by decide +kernel
theorem g_q38_turned : Gc s_q38 "turned" := by decide +kernel
abbrev s_q39 : Stmt := top 42
theorem sc_q39 : FnScope ["d", "carry", "top"] ["d", "carry", "top"] (defScope s_q39) := ⟨rfl, rfl, rfl, by decide +kernel, rfl, by decide +kernel, by decide +kernel⟩
theorem v_q39_d : Lc s_q39 "d" := by decide +kernel
theorem v_q39_carry : Lc s_q39 "carry" := by decide +kernel
theorem v_q39_top : Lc s_q39 "top" := by decide +kernel
theorem g_q39_turned : Gc s_q39 "turned" := by decide +kernel
abbrev s_q40 : Stmt := top 44
theorem sc_q40 : FnScope ["value", "by", "top", "number", "result", "overflow"] ["value", "by", "top"] (defScope s_q40) := ⟨rfl, rfl, rfl, by decide +kernel, rfl, by decide +kernel, by decide +kernel⟩
theorem v_q40_value : Lc s_q40 "value" := by decide +kernel
theorem v_q40_by : Lc s_q40 "by" := by decide +kernel
theorem v_q40_top : Lc s_q40 "top" := by decide +kernel
theorem v_q40_number : Lc s_q40 "number" := by decide +kernel
theorem v_q40_result : Lc s_q40 "result" := by decide +kernel
theorem v_q40_overflow : Lc s_q40 "overflow" := by decide +kernel
theorem g_q40_signed : Gc s_q40 "signed" := by decide +kernel
abbrev s_q41 : Stmt := top 45
theorem sc_q41 : FnScope ["number", "by", "quotient"] ["number", "by"] (defScope s_q41) := ⟨rfl, rfl, rfl, by decide +kernel, rfl, by decide +kernel, by decide +kernel⟩
theorem v_q41_number : Lc s_q41 "number" := by decide +kernel
theorem v_q41_by : Lc s_q41 "by" := by decide +kernel
theorem v_q41_quotient : Lc s_q41 "quotient" := by decide +kernel
theorem g_q41_abs : Gc s_q41 "abs" := by decide +kernel
abbrev s_q42 : Stmt := top 51
theorem sc_q42 : FnScope ["machine", "r", "step"] ["machine", "r", "step"] (defScope s_q42) := ⟨rfl, rfl, rfl, by decide +kernel, rfl, by decide +kernel, by decide +kernel⟩
theorem v_q42_machine : Lc s_q42 "machine" := by decide +kernel
theorem v_q42_r : Lc s_q42 "r" := by decide +kernel
theorem v_q42_step : Lc s_q42 "step" := by decide +kernel
abbrev s_q43 : Stmt := top 52
theorem sc_q43 : FnScope ["machine", "r", "step", "place"] ["machine", "r", "step"] (defScope s_q43) := ⟨rfl, rfl, rfl, by decide +kernel, rfl, by decide +kernel, by decide +kernel⟩
theorem v_q43_machine : Lc s_q43 "machine" := by decide +kernel
theorem v_q43_r : Lc s_q43 "r" := by decide +kernel
theorem v_q43_step : Lc s_q43 "step" := by decide +kernel
theorem v_q43_place : Lc s_q43 "place" := by decide +kernel
theorem g_q43_WORD_RANGE : Gc s_q43 "WORD_RANGE" := by decide +kernel
abbrev s_q44 : Stmt := top 53
theorem sc_q44 : FnScope ["machine", "r", "step", "place"] ["machine", "r", "step"] (defScope s_q44) := ⟨rfl, rfl, rfl, by decide +kernel, rfl, by decide +kernel, by decide +kernel⟩
theorem v_q44_machine : Lc s_q44 "machine" := by decide +kernel
theorem v_q44_r : Lc s_q44 "r" := by decide +kernel
theorem v_q44_step : Lc s_q44 "step" := by decide +kernel
theorem v_q44_place : Lc s_q44 "place" := by decide +kernel
theorem g_q44_WORD_RANGE : Gc s_q44 "WORD_RANGE" := by decide +kernel
abbrev s_q45 : Stmt := top 54
theorem sc_q45 : FnScope ["machine", "r", "step", "word"] ["machine", "r", "step"] (defScope s_q45) := ⟨rfl, rfl, rfl, by decide +kernel, rfl, by decide +kernel, by decide +kernel⟩
theorem v_q45_machine : Lc s_q45 "machine" := by decide +kernel
theorem v_q45_r : Lc s_q45 "r" := by decide +kernel
theorem v_q45_step : Lc s_q45 "step" := by decide +kernel
theorem v_q45_word : Lc s_q45 "word" := by decide +kernel
theorem g_q45_WORD_RANGE : Gc s_q45 "WORD_RANGE" := by decide +kernel
abbrev s_q46 : Stmt := top 56
theorem sc_q46 : FnScope ["machine", "bits", "top", "way", "r", "is_by_word", "step", "place"] ["machine", "bits", "top"] (defScope s_q46) := ⟨rfl, rfl, rfl, by decide +kernel, rfl, by decide +kernel, by decide +kernel⟩
theorem v_q46_machine : Lc s_q46 "machine" := by decide +kernel
theorem v_q46_bits : Lc s_q46 "bits" := by decide +kernel
theorem v_q46_top : Lc s_q46 "top" := by decide +kernel
theorem v_q46_way : Lc s_q46 "way" := by decide +kernel
theorem v_q46_r : Lc s_q46 "r" := by decide +kernel
theorem v_q46_is_by_word : Lc s_q46 "is_by_word" := by decide +kernel
theorem v_q46_step : Lc s_q46 "step" := by decide +kernel
theorem v_q46_place : Lc s_q46 "place" := by decide +kernel
theorem g_q46_REGISTER_PLACES : Gc s_q46 "REGISTER_PLACES" := by decide +kernel
theorem g_q46_PLACES : Gc s_q46 "PLACES" := by decide +kernel
theorem g_q46_BYTE_TOP : Gc s_q46 "BYTE_TOP" := by decide +kernel
theorem g_q46_SP : Gc s_q46 "SP" := by decide +kernel
abbrev s_q47 : Stmt := top 57
theorem sc_q47 : FnScope ["machine", "operand", "top", "word"] ["machine", "operand", "top"] (defScope s_q47) := ⟨rfl, rfl, rfl, by decide +kernel, rfl, by decide +kernel, by decide +kernel⟩
theorem v_q47_machine : Lc s_q47 "machine" := by decide +kernel
theorem v_q47_operand : Lc s_q47 "operand" := by decide +kernel
theorem v_q47_top : Lc s_q47 "top" := by decide +kernel
theorem v_q47_word : Lc s_q47 "word" := by decide +kernel
theorem g_q47_REGISTER_PLACES : Gc s_q47 "REGISTER_PLACES" := by decide +kernel
theorem g_q47_BYTE_TOP : Gc s_q47 "BYTE_TOP" := by decide +kernel
abbrev s_q48 : Stmt := top 58
theorem sc_q48 : FnScope ["machine", "operand", "top", "value", "r", "kept"] ["machine", "operand", "top", "value"] (defScope s_q48) := ⟨rfl, rfl, rfl, by decide +kernel, rfl, by decide +kernel, by decide +kernel⟩
theorem v_q48_machine : Lc s_q48 "machine" := by decide +kernel
theorem v_q48_operand : Lc s_q48 "operand" := by decide +kernel
theorem v_q48_top : Lc s_q48 "top" := by decide +kernel
theorem v_q48_value : Lc s_q48 "value" := by decide +kernel
theorem v_q48_r : Lc s_q48 "r" := by decide +kernel
theorem v_q48_kept : Lc s_q48 "kept" := by decide +kernel
theorem g_q48_REGISTER_PLACES : Gc s_q48 "REGISTER_PLACES" := by decide +kernel
theorem g_q48_BYTE_TOP : Gc s_q48 "BYTE_TOP" := by decide +kernel
theorem g_q48_UPPER_BYTE : Gc s_q48 "UPPER_BYTE" := by decide +kernel
abbrev s_q49 : Stmt := top 72
theorem sc_q49 : FnScope ["machine", "w", "code", "top", "s", "operand", "d", "outcome", "result"] ["machine", "w"] (defScope s_q49) := ⟨rfl, rfl, rfl, by decide +kernel, rfl, by decide +kernel, by decide +kernel⟩
theorem v_q49_machine : Lc s_q49 "machine" := by decide +kernel
theorem v_q49_w : Lc s_q49 "w" := by decide +kernel
theorem v_q49_code : Lc s_q49 "code" := by decide +kernel
theorem v_q49_top : Lc s_q49 "top" := by decide +kernel
theorem v_q49_s : Lc s_q49 "s" := by decide +kernel
theorem v_q49_operand : Lc s_q49 "operand" := by decide +kernel
theorem v_q49_d : Lc s_q49 "d" := by decide +kernel
theorem v_q49_outcome : Lc s_q49 "outcome" := by decide +kernel
theorem v_q49_result : Lc s_q49 "result" := by decide +kernel
theorem g_q49_BYTE_TOP : Gc s_q49 "BYTE_TOP" := by decide +kernel
theorem g_q49_WORD_TOP : Gc s_q49 "WORD_TOP" := by decide +kernel
theorem g_q49_take : Gc s_q49 "take" := by decide +kernel
theorem g_q49_tell : Gc s_q49 "tell" := by decide +kernel
theorem g_q49_TWO_OPERANDS : Gc s_q49 "TWO_OPERANDS" := by decide +kernel
theorem g_q49_MOVB : Gc s_q49 "MOVB" := by decide +kernel
theorem g_q49_REGISTER_PLACES : Gc s_q49 "REGISTER_PLACES" := by decide +kernel
theorem g_q49_put : Gc s_q49 "put" := by decide +kernel
theorem g_q49_SUB : Gc s_q49 "SUB" := by decide +kernel
theorem g_q49_WORD_RANGE : Gc s_q49 "WORD_RANGE" := by decide +kernel
theorem g_q49_CMP : Gc s_q49 "CMP" := by decide +kernel
theorem g_q49_BIT : Gc s_q49 "BIT" := by decide +kernel
theorem g_q49_signed : Gc s_q49 "signed" := by decide +kernel
abbrev s_q50 : Stmt := top 73
theorem sc_q50 : FnScope ["machine", "w", "top", "operand", "d", "outcome"] ["machine", "w"] (defScope s_q50) := ⟨rfl, rfl, rfl, by decide +kernel, rfl, by decide +kernel, by decide +kernel⟩
theorem v_q50_machine : Lc s_q50 "machine" := by decide +kernel
theorem v_q50_w : Lc s_q50 "w" := by decide +kernel
theorem v_q50_top : Lc s_q50 "top" := by decide +kernel
theorem v_q50_operand : Lc s_q50 "operand" := by decide +kernel
theorem v_q50_d : Lc s_q50 "d" := by decide +kernel
theorem v_q50_outcome : Lc s_q50 "outcome" := by decide +kernel
theorem g_q50_BYTE_TOP : Gc s_q50 "BYTE_TOP" := by decide +kernel
theorem g_q50_WORD_TOP : Gc s_q50 "WORD_TOP" := by decide +kernel
theorem g_q50_tell : Gc s_q50 "tell" := by decide +kernel
theorem g_q50_take : Gc s_q50 "take" := by decide +kernel
theorem g_q50_put : Gc s_q50 "put" := by decide +kernel
theorem g_q50_ONE_OPERAND : Gc s_q50 "ONE_OPERAND" := by decide +kernel
abbrev s_q51 : Stmt := top 74
theorem sc_q51 : FnScope ["machine", "w", "operand", "d"] ["machine", "w"] (defScope s_q51) := ⟨rfl, rfl, rfl, by decide +kernel, rfl, by decide +kernel, by decide +kernel⟩
theorem v_q51_machine : Lc s_q51 "machine" := by decide +kernel
theorem v_q51_w : Lc s_q51 "w" := by decide +kernel
theorem v_q51_operand : Lc s_q51 "operand" := by decide +kernel
theorem v_q51_d : Lc s_q51 "d" := by decide +kernel
theorem g_q51_tell : Gc s_q51 "tell" := by decide +kernel
theorem g_q51_WORD_TOP : Gc s_q51 "WORD_TOP" := by decide +kernel
theorem g_q51_take : Gc s_q51 "take" := by decide +kernel
theorem g_q51_put : Gc s_q51 "put" := by decide +kernel
theorem g_q51_BYTE_TOP : Gc s_q51 "BYTE_TOP" := by decide +kernel
abbrev s_q52 : Stmt := top 75
theorem sc_q52 : FnScope ["machine", "w", "operand", "result"] ["machine", "w"] (defScope s_q52) := ⟨rfl, rfl, rfl, by decide +kernel, rfl, by decide +kernel, by decide +kernel⟩
theorem v_q52_machine : Lc s_q52 "machine" := by decide +kernel
theorem v_q52_w : Lc s_q52 "w" := by decide +kernel
theorem v_q52_operand : Lc s_q52 "operand" := by decide +kernel
theorem v_q52_result : Lc s_q52 "result" := by decide +kernel
theorem g_q52_tell : Gc s_q52 "tell" := by decide +kernel
theorem g_q52_WORD_TOP : Gc s_q52 "WORD_TOP" := by decide +kernel
theorem g_q52_put : Gc s_q52 "put" := by decide +kernel
theorem g_q52_WORD_RANGE : Gc s_q52 "WORD_RANGE" := by decide +kernel
abbrev s_q53 : Stmt := top 76
theorem sc_q53 : FnScope ["machine", "w", "operand", "result"] ["machine", "w"] (defScope s_q53) := ⟨rfl, rfl, rfl, by decide +kernel, rfl, by decide +kernel, by decide +kernel⟩
theorem v_q53_machine : Lc s_q53 "machine" := by decide +kernel
theorem v_q53_w : Lc s_q53 "w" := by decide +kernel
theorem v_q53_operand : Lc s_q53 "operand" := by decide +kernel
theorem v_q53_result : Lc s_q53 "result" := by decide +kernel
theorem g_q53_tell : Gc s_q53 "tell" := by decide +kernel
theorem g_q53_WORD_TOP : Gc s_q53 "WORD_TOP" := by decide +kernel
theorem g_q53_put : Gc s_q53 "put" := by decide +kernel
theorem g_q53_take : Gc s_q53 "take" := by decide +kernel
abbrev s_q54 : Stmt := top 77
theorem sc_q54 : FnScope ["machine", "w"] ["machine", "w"] (defScope s_q54) := ⟨rfl, rfl, rfl, by decide +kernel, rfl, by decide +kernel, by decide +kernel⟩
theorem v_q54_machine : Lc s_q54 "machine" := by decide +kernel
theorem v_q54_w : Lc s_q54 "w" := by decide +kernel
theorem g_q54_take : Gc s_q54 "take" := by decide +kernel
theorem g_q54_WORD_TOP : Gc s_q54 "WORD_TOP" := by decide +kernel
theorem g_q54_tell : Gc s_q54 "tell" := by decide +kernel
abbrev s_q55 : Stmt := top 78
theorem sc_q55 : FnScope ["w", "r"] ["w"] (defScope s_q55) := ⟨rfl, rfl, rfl, by decide +kernel, rfl, by decide +kernel, by decide +kernel⟩
theorem v_q55_w : Lc s_q55 "w" := by decide +kernel
theorem v_q55_r : Lc s_q55 "r" := by decide +kernel
theorem g_q55_NoInstruction : Gc s_q55 "NoInstruction" := by decide +kernel
abbrev s_q56 : Stmt := top 79
theorem sc_q56 : FnScope ["machine", "r"] ["machine", "r"] (defScope s_q56) := ⟨rfl, rfl, rfl, by decide +kernel, rfl, by decide +kernel, by decide +kernel⟩
theorem v_q56_machine : Lc s_q56 "machine" := by decide +kernel
theorem v_q56_r : Lc s_q56 "r" := by decide +kernel
theorem g_q56_UPPER_BITS : Gc s_q56 "UPPER_BITS" := by decide +kernel
abbrev s_q57 : Stmt := top 80
theorem sc_q57 : FnScope ["machine", "r", "value"] ["machine", "r", "value"] (defScope s_q57) := ⟨rfl, rfl, rfl, by decide +kernel, rfl, by decide +kernel, by decide +kernel⟩
theorem v_q57_machine : Lc s_q57 "machine" := by decide +kernel
theorem v_q57_r : Lc s_q57 "r" := by decide +kernel
theorem v_q57_value : Lc s_q57 "value" := by decide +kernel
theorem g_q57_UPPER_BITS : Gc s_q57 "UPPER_BITS" := by decide +kernel
theorem g_q57_WORD_RANGE : Gc s_q57 "WORD_RANGE" := by decide +kernel
abbrev s_q58 : Stmt := top 81
theorem sc_q58 : FnScope ["number"] ["number"] (defScope s_q58) := ⟨rfl, rfl, rfl, by decide +kernel, rfl, by decide +kernel, by decide +kernel⟩
theorem v_q58_number : Lc s_q58 "number" := by decide +kernel
theorem g_q58_WORD_TOP : Gc s_q58 "WORD_TOP" := by decide +kernel
abbrev s_q59 : Stmt := top 82
theorem sc_q59 : FnScope ["machine", "w", "s", "r", "product", "pair"] ["machine", "w"] (defScope s_q59) := ⟨rfl, rfl, rfl, by decide +kernel, rfl, by decide +kernel, by decide +kernel⟩
theorem v_q59_machine : Lc s_q59 "machine" := by decide +kernel
theorem v_q59_w : Lc s_q59 "w" := by decide +kernel
theorem v_q59_s : Lc s_q59 "s" := by decide +kernel
theorem v_q59_r : Lc s_q59 "r" := by decide +kernel
theorem v_q59_product : Lc s_q59 "product" := by decide +kernel
theorem v_q59_pair : Lc s_q59 "pair" := by decide +kernel
theorem g_q59_signed : Gc s_q59 "signed" := by decide +kernel
theorem g_q59_WORD_TOP : Gc s_q59 "WORD_TOP" := by decide +kernel
theorem g_q59_PAIR_RANGE : Gc s_q59 "PAIR_RANGE" := by decide +kernel
theorem g_q59_PAIR_TOP : Gc s_q59 "PAIR_TOP" := by decide +kernel
theorem g_q59_take_source : Gc s_q59 "take_source" := by decide +kernel
theorem g_q59_WORD_RANGE : Gc s_q59 "WORD_RANGE" := by decide +kernel
theorem g_q59_put_pair : Gc s_q59 "put_pair" := by decide +kernel
theorem g_q59_is_within_word : Gc s_q59 "is_within_word" := by decide +kernel
abbrev s_q60 : Stmt := top 83
theorem sc_q60 : FnScope ["machine", "w", "r", "s", "parts", "quotient"] ["machine", "w"] (defScope s_q60) := ⟨rfl, rfl, rfl, by decide +kernel, rfl, by decide +kernel, by decide +kernel⟩
theorem v_q60_machine : Lc s_q60 "machine" := by decide +kernel
theorem v_q60_w : Lc s_q60 "w" := by decide +kernel
theorem v_q60_r : Lc s_q60 "r" := by decide +kernel
theorem v_q60_s : Lc s_q60 "s" := by decide +kernel
theorem v_q60_parts : Lc s_q60 "parts" := by decide +kernel
theorem v_q60_quotient : Lc s_q60 "quotient" := by decide +kernel
theorem g_q60_even_number : Gc s_q60 "even_number" := by decide +kernel
theorem g_q60_signed : Gc s_q60 "signed" := by decide +kernel
theorem g_q60_WORD_TOP : Gc s_q60 "WORD_TOP" := by decide +kernel
theorem g_q60_divided : Gc s_q60 "divided" := by decide +kernel
theorem g_q60_WORD_RANGE : Gc s_q60 "WORD_RANGE" := by decide +kernel
theorem g_q60_take_source : Gc s_q60 "take_source" := by decide +kernel
theorem g_q60_PAIR_TOP : Gc s_q60 "PAIR_TOP" := by decide +kernel
theorem g_q60_is_within_word : Gc s_q60 "is_within_word" := by decide +kernel
theorem g_q60_take_pair : Gc s_q60 "take_pair" := by decide +kernel
abbrev s_q61 : Stmt := top 84
theorem sc_q61 : FnScope ["machine", "w", "bits"] ["machine", "w"] (defScope s_q61) := ⟨rfl, rfl, rfl, by decide +kernel, rfl, by decide +kernel, by decide +kernel⟩
theorem v_q61_machine : Lc s_q61 "machine" := by decide +kernel
theorem v_q61_w : Lc s_q61 "w" := by decide +kernel
theorem v_q61_bits : Lc s_q61 "bits" := by decide +kernel
theorem g_q61_take_source : Gc s_q61 "take_source" := by decide +kernel
abbrev s_q62 : Stmt := top 85
theorem sc_q62 : FnScope ["machine", "w", "by", "r", "outcome"] ["machine", "w"] (defScope s_q62) := ⟨rfl, rfl, rfl, by decide +kernel, rfl, by decide +kernel, by decide +kernel⟩
theorem v_q62_machine : Lc s_q62 "machine" := by decide +kernel
theorem v_q62_w : Lc s_q62 "w" := by decide +kernel
theorem v_q62_by : Lc s_q62 "by" := by decide +kernel
theorem v_q62_r : Lc s_q62 "r" := by decide +kernel
theorem v_q62_outcome : Lc s_q62 "outcome" := by decide +kernel
theorem g_q62_take_shift : Gc s_q62 "take_shift" := by decide +kernel
theorem g_q62_moved : Gc s_q62 "moved" := by decide +kernel
theorem g_q62_WORD_TOP : Gc s_q62 "WORD_TOP" := by decide +kernel
abbrev s_q63 : Stmt := top 86
theorem sc_q63 : FnScope ["machine", "w", "r", "by", "outcome"] ["machine", "w"] (defScope s_q63) := ⟨rfl, rfl, rfl, by decide +kernel, rfl, by decide +kernel, by decide +kernel⟩
theorem v_q63_machine : Lc s_q63 "machine" := by decide +kernel
theorem v_q63_w : Lc s_q63 "w" := by decide +kernel
theorem v_q63_r : Lc s_q63 "r" := by decide +kernel
theorem v_q63_by : Lc s_q63 "by" := by decide +kernel
theorem v_q63_outcome : Lc s_q63 "outcome" := by decide +kernel
theorem g_q63_even_number : Gc s_q63 "even_number" := by decide +kernel
theorem g_q63_take_shift : Gc s_q63 "take_shift" := by decide +kernel
theorem g_q63_moved : Gc s_q63 "moved" := by decide +kernel
theorem g_q63_PAIR_TOP : Gc s_q63 "PAIR_TOP" := by decide +kernel
theorem g_q63_put_pair : Gc s_q63 "put_pair" := by decide +kernel
theorem g_q63_take_pair : Gc s_q63 "take_pair" := by decide +kernel
abbrev s_q64 : Stmt := top 87
theorem sc_q64 : FnScope ["machine", "distance"] ["machine", "distance"] (defScope s_q64) := ⟨rfl, rfl, rfl, by decide +kernel, rfl, by decide +kernel, by decide +kernel⟩
theorem v_q64_machine : Lc s_q64 "machine" := by decide +kernel
theorem v_q64_distance : Lc s_q64 "distance" := by decide +kernel
theorem g_q64_PC : Gc s_q64 "PC" := by decide +kernel
theorem g_q64_WORD_RANGE : Gc s_q64 "WORD_RANGE" := by decide +kernel
abbrev s_q65 : Stmt := top 88
theorem sc_q65 : FnScope ["machine", "w", "r", "rest"] ["machine", "w"] (defScope s_q65) := ⟨rfl, rfl, rfl, by decide +kernel, rfl, by decide +kernel, by decide +kernel⟩
theorem v_q65_machine : Lc s_q65 "machine" := by decide +kernel
theorem v_q65_w : Lc s_q65 "w" := by decide +kernel
theorem v_q65_r : Lc s_q65 "r" := by decide +kernel
theorem v_q65_rest : Lc s_q65 "rest" := by decide +kernel
theorem g_q65_WORD_RANGE : Gc s_q65 "WORD_RANGE" := by decide +kernel
theorem g_q65_move_pc : Gc s_q65 "move_pc" := by decide +kernel
abbrev s_q66 : Stmt := top 89
theorem sc_q66 : FnScope ["machine"] ["machine"] (defScope s_q66) := ⟨rfl, rfl, rfl, by decide +kernel, rfl, by decide +kernel, by decide +kernel⟩
theorem v_q66_machine : Lc s_q66 "machine" := by decide +kernel
abbrev s_q67 : Stmt := top 90
theorem sc_q67 : FnScope ["machine"] ["machine"] (defScope s_q67) := ⟨rfl, rfl, rfl, by decide +kernel, rfl, by decide +kernel, by decide +kernel⟩
theorem v_q67_machine : Lc s_q67 "machine" := by decide +kernel
abbrev s_q68 : Stmt := top 91
theorem sc_q68 : FnScope ["machine"] ["machine"] (defScope s_q68) := ⟨rfl, rfl, rfl, by decide +kernel, rfl, by decide +kernel, by decide +kernel⟩
theorem v_q68_machine : Lc s_q68 "machine" := by decide +kernel
abbrev s_q69 : Stmt := top 92
theorem sc_q69 : FnScope ["machine"] ["machine"] (defScope s_q69) := ⟨rfl, rfl, rfl, by decide +kernel, rfl, by decide +kernel, by decide +kernel⟩
theorem v_q69_machine : Lc s_q69 "machine" := by decide +kernel
abbrev s_q70 : Stmt := top 93
theorem sc_q70 : FnScope ["machine"] ["machine"] (defScope s_q70) := ⟨rfl, rfl, rfl, by decide +kernel, rfl, by decide +kernel, by decide +kernel⟩
theorem v_q70_machine : Lc s_q70 "machine" := by decide +kernel
abbrev s_q71 : Stmt := top 94
theorem sc_q71 : FnScope ["machine"] ["machine"] (defScope s_q71) := ⟨rfl, rfl, rfl, by decide +kernel, rfl, by decide +kernel, by decide +kernel⟩
theorem v_q71_machine : Lc s_q71 "machine" := by decide +kernel
abbrev s_q72 : Stmt := top 95
theorem sc_q72 : FnScope ["machine"] ["machine"] (defScope s_q72) := ⟨rfl, rfl, rfl, by decide +kernel, rfl, by decide +kernel, by decide +kernel⟩
theorem v_q72_machine : Lc s_q72 "machine" := by decide +kernel
abbrev s_q73 : Stmt := top 96
theorem sc_q73 : FnScope ["machine"] ["machine"] (defScope s_q73) := ⟨rfl, rfl, rfl, by decide +kernel, rfl, by decide +kernel, by decide +kernel⟩
theorem v_q73_machine : Lc s_q73 "machine" := by decide +kernel
abbrev s_q74 : Stmt := top 98
theorem sc_q74 : FnScope ["machine", "w"] ["machine", "w"] (defScope s_q74) := ⟨rfl, rfl, rfl, by decide +kernel, rfl, by decide +kernel, by decide +kernel⟩
theorem v_q74_machine : Lc s_q74 "machine" := by decide +kernel
theorem v_q74_w : Lc s_q74 "w" := by decide +kernel
theorem g_q74_move_pc : Gc s_q74 "move_pc" := by decide +kernel
theorem g_q74_CONDITIONS : Gc s_q74 "CONDITIONS" := by decide +kernel
theorem g_q74_signed : Gc s_q74 "signed" := by decide +kernel
theorem g_q74_BYTE_TOP : Gc s_q74 "BYTE_TOP" := by decide +kernel
abbrev s_q75 : Stmt := top 99
theorem sc_q75 : FnScope ["machine", "w", "place"] ["machine", "w"] (defScope s_q75) := ⟨rfl, rfl, rfl, by decide +kernel, rfl, by decide +kernel, by decide +kernel⟩
theorem v_q75_machine : Lc s_q75 "machine" := by decide +kernel
theorem v_q75_w : Lc s_q75 "w" := by decide +kernel
theorem v_q75_place : Lc s_q75 "place" := by decide +kernel
theorem g_q75_tell : Gc s_q75 "tell" := by decide +kernel
theorem g_q75_WORD_TOP : Gc s_q75 "WORD_TOP" := by decide +kernel
theorem g_q75_NoInstruction : Gc s_q75 "NoInstruction" := by decide +kernel
theorem g_q75_OddPlace : Gc s_q75 "OddPlace" := by decide +kernel
abbrev s_q76 : Stmt := top 100
theorem sc_q76 : FnScope ["machine", "w"] ["machine", "w"] (defScope s_q76) := ⟨rfl, rfl, rfl, by decide +kernel, rfl, by decide +kernel, by decide +kernel⟩
theorem v_q76_machine : Lc s_q76 "machine" := by decide +kernel
theorem v_q76_w : Lc s_q76 "w" := by decide +kernel
theorem g_q76_PC : Gc s_q76 "PC" := by decide +kernel
theorem g_q76_tell_place : Gc s_q76 "tell_place" := by decide +kernel
abbrev s_q77 : Stmt := top 101
theorem sc_q77 : FnScope ["machine", "w", "place", "r"] ["machine", "w"] (defScope s_q77) := ⟨rfl, rfl, rfl, by decide +kernel, rfl, by decide +kernel, by decide +kernel⟩
theorem v_q77_machine : Lc s_q77 "machine" := by decide +kernel
theorem v_q77_w : Lc s_q77 "w" := by decide +kernel
theorem v_q77_place : Lc s_q77 "place" := by decide +kernel
theorem v_q77_r : Lc s_q77 "r" := by decide +kernel
theorem g_q77_tell_place : Gc s_q77 "tell_place" := by decide +kernel
theorem g_q77_PC : Gc s_q77 "PC" := by decide +kernel
abbrev s_q78 : Stmt := top 102
theorem sc_q78 : FnScope ["machine", "w", "r", "word"] ["machine", "w"] (defScope s_q78) := ⟨rfl, rfl, rfl, by decide +kernel, rfl, by decide +kernel, by decide +kernel⟩
theorem v_q78_machine : Lc s_q78 "machine" := by decide +kernel
theorem v_q78_w : Lc s_q78 "w" := by decide +kernel
theorem v_q78_r : Lc s_q78 "r" := by decide +kernel
theorem v_q78_word : Lc s_q78 "word" := by decide +kernel
theorem g_q78_PC : Gc s_q78 "PC" := by decide +kernel
abbrev s_q79 : Stmt := top 103
theorem sc_q79 : FnScope ["machine", "w"] ["machine", "w"] (defScope s_q79) := ⟨rfl, rfl, rfl, by decide +kernel, rfl, by decide +kernel, by decide +kernel⟩
theorem v_q79_machine : Lc s_q79 "machine" := by decide +kernel
theorem v_q79_w : Lc s_q79 "w" := by decide +kernel
theorem g_q79_SP : Gc s_q79 "SP" := by decide +kernel
theorem g_q79_WORD_RANGE : Gc s_q79 "WORD_RANGE" := by decide +kernel
theorem g_q79_PC : Gc s_q79 "PC" := by decide +kernel
theorem g_q79_FRAME : Gc s_q79 "FRAME" := by decide +kernel
abbrev s_q80 : Stmt := top 104
theorem sc_q80 : FnScope ["machine", "w", "bits"] ["machine", "w"] (defScope s_q80) := ⟨rfl, rfl, rfl, by decide +kernel, rfl, by decide +kernel, by decide +kernel⟩
theorem v_q80_machine : Lc s_q80 "machine" := by decide +kernel
theorem v_q80_w : Lc s_q80 "w" := by decide +kernel
theorem v_q80_bits : Lc s_q80 "bits" := by decide +kernel
abbrev s_q81 : Stmt := top 105
theorem sc_q81 : FnScope ["machine", "w"] ["machine", "w"] (defScope s_q81) := ⟨rfl, rfl, rfl, by decide +kernel, rfl, by decide +kernel, by decide +kernel⟩
theorem v_q81_machine : Lc s_q81 "machine" := by decide +kernel
theorem v_q81_w : Lc s_q81 "w" := by decide +kernel
theorem g_q81_HALTED : Gc s_q81 "HALTED" := by decide +kernel
abbrev s_q82 : Stmt := top 106
theorem sc_q82 : FnScope ["machine", "w"] ["machine", "w"] (defScope s_q82) := ⟨rfl, rfl, rfl, by decide +kernel, rfl, by decide +kernel, by decide +kernel⟩
theorem v_q82_machine : Lc s_q82 "machine" := by decide +kernel
theorem v_q82_w : Lc s_q82 "w" := by decide +kernel
theorem g_q82_WAITING : Gc s_q82 "WAITING" := by decide +kernel
abbrev s_q83 : Stmt := top 107
theorem sc_q83 : FnScope ["machine", "w"] ["machine", "w"] (defScope s_q83) := ⟨rfl, rfl, rfl, by decide +kernel, rfl, by decide +kernel, by decide +kernel⟩
theorem v_q83_machine : Lc s_q83 "machine" := by decide +kernel
theorem v_q83_w : Lc s_q83 "w" := by decide +kernel
theorem g_q83_PC : Gc s_q83 "PC" := by decide +kernel
abbrev s_q84 : Stmt := top 108
theorem sc_q84 : FnScope ["machine", "w"] ["machine", "w"] (defScope s_q84) := ⟨rfl, rfl, rfl, by decide +kernel, rfl, by decide +kernel, by decide +kernel⟩
theorem v_q84_machine : Lc s_q84 "machine" := by decide +kernel
theorem v_q84_w : Lc s_q84 "w" := by decide +kernel
abbrev s_q85 : Stmt := top 109
theorem sc_q85 : FnScope ["machine", "w"] ["machine", "w"] (defScope s_q85) := ⟨rfl, rfl, rfl, by decide +kernel, rfl, by decide +kernel, by decide +kernel⟩
theorem v_q85_machine : Lc s_q85 "machine" := by decide +kernel
theorem v_q85_w : Lc s_q85 "w" := by decide +kernel
theorem g_q85_BREAK_VECTOR : Gc s_q85 "BREAK_VECTOR" := by decide +kernel
abbrev s_q86 : Stmt := top 110
theorem sc_q86 : FnScope ["machine", "w"] ["machine", "w"] (defScope s_q86) := ⟨rfl, rfl, rfl, by decide +kernel, rfl, by decide +kernel, by decide +kernel⟩
theorem v_q86_machine : Lc s_q86 "machine" := by decide +kernel
theorem v_q86_w : Lc s_q86 "w" := by decide +kernel
theorem g_q86_OUTPUT_VECTOR : Gc s_q86 "OUTPUT_VECTOR" := by decide +kernel
abbrev s_q87 : Stmt := top 111
theorem sc_q87 : FnScope ["machine", "w"] ["machine", "w"] (defScope s_q87) := ⟨rfl, rfl, rfl, by decide +kernel, rfl, by decide +kernel, by decide +kernel⟩
theorem v_q87_machine : Lc s_q87 "machine" := by decide +kernel
theorem v_q87_w : Lc s_q87 "w" := by decide +kernel
theorem g_q87_EMULATOR_VECTOR : Gc s_q87 "EMULATOR_VECTOR" := by decide +kernel
abbrev s_q88 : Stmt := top 112
theorem sc_q88 : FnScope ["machine", "w"] ["machine", "w"] (defScope s_q88) := ⟨rfl, rfl, rfl, by decide +kernel, rfl, by decide +kernel, by decide +kernel⟩
theorem v_q88_machine : Lc s_q88 "machine" := by decide +kernel
theorem v_q88_w : Lc s_q88 "w" := by decide +kernel
theorem g_q88_TRAP_VECTOR : Gc s_q88 "TRAP_VECTOR" := by decide +kernel
abbrev s_q89 : Stmt := top 119
theorem sc_q89 : FnScope ["w", "work"] ["w"] (defScope s_q89) := ⟨rfl, rfl, rfl, by decide +kernel, rfl, by decide +kernel, by decide +kernel⟩
theorem v_q89_w : Lc s_q89 "w" := by decide +kernel
theorem v_q89_work : Lc s_q89 "work" := by decide +kernel
theorem g_q89_BY_TWO_DIGITS : Gc s_q89 "BY_TWO_DIGITS" := by decide +kernel
theorem g_q89_NoInstruction : Gc s_q89 "NoInstruction" := by decide +kernel
theorem g_q89_BY_UPPER_BYTE : Gc s_q89 "BY_UPPER_BYTE" := by decide +kernel
theorem g_q89_BY_FOUR_DIGITS : Gc s_q89 "BY_FOUR_DIGITS" := by decide +kernel
theorem g_q89_BY_THREE_DIGITS : Gc s_q89 "BY_THREE_DIGITS" := by decide +kernel
theorem g_q89_BY_FIVE_DIGITS : Gc s_q89 "BY_FIVE_DIGITS" := by decide +kernel
theorem g_q89_BY_WHOLE_WORD : Gc s_q89 "BY_WHOLE_WORD" := by decide +kernel
abbrev s_q90 : Stmt := top 120
theorem sc_q90 : FnScope ["machine", "w", "work"] ["machine"] (defScope s_q90) := ⟨rfl, rfl, rfl, by decide +kernel, rfl, by decide +kernel, by decide +kernel⟩
theorem v_q90_machine : Lc s_q90 "machine" := by decide +kernel
theorem v_q90_w : Lc s_q90 "w" := by decide +kernel
theorem v_q90_work : Lc s_q90 "work" := by decide +kernel
theorem g_q90_find_work : Gc s_q90 "find_work" := by decide +kernel
abbrev s_q91 : Stmt := top 122
theorem sc_q91 : FnScope ["machine", "n", "done"] ["machine", "n"] (defScope s_q91) := ⟨rfl, rfl, rfl, by decide +kernel, rfl, by decide +kernel, by decide +kernel⟩
theorem v_q91_machine : Lc s_q91 "machine" := by decide +kernel
theorem v_q91_n : Lc s_q91 "n" := by decide +kernel
theorem v_q91_done : Lc s_q91 "done" := by decide +kernel
theorem g_q91_ALL_DONE : Gc s_q91 "ALL_DONE" := by decide +kernel
theorem g_q91_do_one : Gc s_q91 "do_one" := by decide +kernel
abbrev s_q92 : Stmt := top 123
theorem sc_q92 : FnScope ["machine", "before"] ["machine"] (defScope s_q92) := ⟨rfl, rfl, rfl, by decide +kernel, rfl, by decide +kernel, by decide +kernel⟩
theorem v_q92_machine : Lc s_q92 "machine" := by decide +kernel
theorem v_q92_before : Lc s_q92 "before" := by decide +kernel
theorem g_q92_list : Gc s_q92 "list" := by decide +kernel
theorem g_q92_NoInstruction : Gc s_q92 "NoInstruction" := by decide +kernel
theorem g_q92_OddPlace : Gc s_q92 "OddPlace" := by decide +kernel
theorem g_q92_do_next : Gc s_q92 "do_next" := by decide +kernel
theorem g_q92_NOT_ONE : Gc s_q92 "NOT_ONE" := by decide +kernel
theorem g_q92_AT_ODD_PLACE : Gc s_q92 "AT_ODD_PLACE" := by decide +kernel
abbrev s_q93 : Stmt := top 144
theorem sc_q93 : FnScope ["calls", "machine", "reader", "given_back", "answer"] ["calls"] (defScope s_q93) := ⟨rfl, rfl, rfl, by decide +kernel, rfl, by decide +kernel, by decide +kernel⟩
theorem v_q93_calls : Lc s_q93 "calls" := by decide +kernel
theorem v_q93_machine : Lc s_q93 "machine" := by decide +kernel
theorem v_q93_reader : Lc s_q93 "reader" := by decide +kernel
theorem v_q93_given_back : Lc s_q93 "given_back" := by decide +kernel
theorem v_q93_answer : Lc s_q93 "answer" := by decide +kernel
theorem g_q93_Machine : Gc s_q93 "Machine" := by decide +kernel
theorem g_q93_CallReader : Gc s_q93 "CallReader" := by decide +kernel
theorem g_q93_answer_next : Gc s_q93 "answer_next" := by decide +kernel
theorem g_q93_len : Gc s_q93 "len" := by decide +kernel
abbrev s_q94 : Stmt := top 145
theorem sc_q94 : FnScope ["machine", "reader", "number", "at", "data", "n", "which", "value", "vector", "priority"] ["machine", "reader"] (defScope s_q94) := ⟨rfl, rfl, rfl, by decide +kernel, rfl, by decide +kernel, by decide +kernel⟩
theorem v_q94_machine : Lc s_q94 "machine" := by decide +kernel
theorem v_q94_reader : Lc s_q94 "reader" := by decide +kernel
theorem v_q94_number : Lc s_q94 "number" := by decide +kernel
theorem v_q94_at : Lc s_q94 "at" := by decide +kernel
theorem v_q94_data : Lc s_q94 "data" := by decide +kernel
theorem v_q94_n : Lc s_q94 "n" := by decide +kernel
theorem v_q94_which : Lc s_q94 "which" := by decide +kernel
theorem v_q94_value : Lc s_q94 "value" := by decide +kernel
theorem v_q94_vector : Lc s_q94 "vector" := by decide +kernel
theorem v_q94_priority : Lc s_q94 "priority" := by decide +kernel
theorem g_q94_PD_CLEAR : Gc s_q94 "PD_CLEAR" := by decide +kernel
theorem g_q94_PD_LOAD : Gc s_q94 "PD_LOAD" := by decide +kernel
theorem g_q94_PD_LOOK : Gc s_q94 "PD_LOOK" := by decide +kernel
theorem g_q94_PD_SET : Gc s_q94 "PD_SET" := by decide +kernel
theorem g_q94_PD_GET : Gc s_q94 "PD_GET" := by decide +kernel
theorem g_q94_PD_RUN : Gc s_q94 "PD_RUN" := by decide +kernel
theorem g_q94_PD_WHY : Gc s_q94 "PD_WHY" := by decide +kernel
theorem g_q94_PD_INTERRUPT : Gc s_q94 "PD_INTERRUPT" := by decide +kernel
theorem g_q94_UnknownCall : Gc s_q94 "UnknownCall" := by decide +kernel
theorem g_q94_pd_clear : Gc s_q94 "pd_clear" := by decide +kernel
theorem g_q94_pd_load : Gc s_q94 "pd_load" := by decide +kernel
theorem g_q94_pd_look : Gc s_q94 "pd_look" := by decide +kernel
theorem g_q94_pd_set : Gc s_q94 "pd_set" := by decide +kernel
theorem g_q94_pd_get : Gc s_q94 "pd_get" := by decide +kernel
theorem g_q94_pd_run : Gc s_q94 "pd_run" := by decide +kernel
theorem g_q94_pd_why : Gc s_q94 "pd_why" := by decide +kernel
theorem g_q94_pd_interrupt : Gc s_q94 "pd_interrupt" := by decide +kernel
abbrev s_q95 : Stmt := top 146
theorem sc_q95 : FnScope ["machine"] ["machine"] (defScope s_q95) := ⟨rfl, rfl, rfl, by decide +kernel, rfl, by decide +kernel, by decide +kernel⟩
theorem v_q95_machine : Lc s_q95 "machine" := by decide +kernel
theorem g_q95_DONE : Gc s_q95 "DONE" := by decide +kernel
abbrev s_q96 : Stmt := top 147
theorem sc_q96 : FnScope ["machine", "at", "data"] ["machine", "at", "data"] (defScope s_q96) := ⟨rfl, rfl, rfl, by decide +kernel, rfl, by decide +kernel, by decide +kernel⟩
theorem v_q96_machine : Lc s_q96 "machine" := by decide +kernel
theorem v_q96_at : Lc s_q96 "at" := by decide +kernel
theorem v_q96_data : Lc s_q96 "data" := by decide +kernel
theorem g_q96_DONE : Gc s_q96 "DONE" := by decide +kernel
theorem g_q96_lies_in_memory : Gc s_q96 "lies_in_memory" := by decide +kernel
theorem g_q96_REFUSED : Gc s_q96 "REFUSED" := by decide +kernel
theorem g_q96_len : Gc s_q96 "len" := by decide +kernel
abbrev s_q97 : Stmt := top 148
theorem sc_q97 : FnScope ["machine", "at", "n"] ["machine", "at", "n"] (defScope s_q97) := ⟨rfl, rfl, rfl, by decide +kernel, rfl, by decide +kernel, by decide +kernel⟩
theorem v_q97_machine : Lc s_q97 "machine" := by decide +kernel
theorem v_q97_at : Lc s_q97 "at" := by decide +kernel
theorem v_q97_n : Lc s_q97 "n" := by decide +kernel
theorem g_q97_lies_in_memory : Gc s_q97 "lies_in_memory" := by decide +kernel
theorem g_q97_REFUSED : Gc s_q97 "REFUSED" := by decide +kernel
theorem g_q97_DONE : Gc s_q97 "DONE" := by decide +kernel
abbrev s_q98 : Stmt := top 149
theorem sc_q98 : FnScope ["machine", "which", "value", "word"] ["machine", "which", "value"] (defScope s_q98) := ⟨rfl, rfl, rfl, by decide +kernel, rfl, by decide +kernel, by decide +kernel⟩
theorem v_q98_machine : Lc s_q98 "machine" := by decide +kernel
theorem v_q98_which : Lc s_q98 "which" := by decide +kernel
theorem v_q98_value : Lc s_q98 "value" := by decide +kernel
theorem v_q98_word : Lc s_q98 "word" := by decide +kernel
theorem g_q98_WORD_RANGE : Gc s_q98 "WORD_RANGE" := by decide +kernel
theorem g_q98_REGISTER_COUNT : Gc s_q98 "REGISTER_COUNT" := by decide +kernel
theorem g_q98_DONE : Gc s_q98 "DONE" := by decide +kernel
theorem g_q98_STATUS_WORD : Gc s_q98 "STATUS_WORD" := by decide +kernel
theorem g_q98_REFUSED : Gc s_q98 "REFUSED" := by decide +kernel
abbrev s_q99 : Stmt := top 150
theorem sc_q99 : FnScope ["machine", "which"] ["machine", "which"] (defScope s_q99) := ⟨rfl, rfl, rfl, by decide +kernel, rfl, by decide +kernel, by decide +kernel⟩
theorem v_q99_machine : Lc s_q99 "machine" := by decide +kernel
theorem v_q99_which : Lc s_q99 "which" := by decide +kernel
theorem g_q99_REGISTER_COUNT : Gc s_q99 "REGISTER_COUNT" := by decide +kernel
theorem g_q99_STATUS_WORD : Gc s_q99 "STATUS_WORD" := by decide +kernel
theorem g_q99_REFUSED : Gc s_q99 "REFUSED" := by decide +kernel
abbrev s_q100 : Stmt := top 151
theorem sc_q100 : FnScope ["machine", "n"] ["machine", "n"] (defScope s_q100) := ⟨rfl, rfl, rfl, by decide +kernel, rfl, by decide +kernel, by decide +kernel⟩
theorem v_q100_machine : Lc s_q100 "machine" := by decide +kernel
theorem v_q100_n : Lc s_q100 "n" := by decide +kernel
theorem g_q100_LONGEST_RUN : Gc s_q100 "LONGEST_RUN" := by decide +kernel
theorem g_q100_REFUSED : Gc s_q100 "REFUSED" := by decide +kernel
theorem g_q100_run : Gc s_q100 "run" := by decide +kernel
abbrev s_q101 : Stmt := top 152
theorem sc_q101 : FnScope ["machine"] ["machine"] (defScope s_q101) := ⟨rfl, rfl, rfl, by decide +kernel, rfl, by decide +kernel, by decide +kernel⟩
theorem v_q101_machine : Lc s_q101 "machine" := by decide +kernel
abbrev s_q102 : Stmt := top 153
theorem sc_q102 : FnScope ["machine", "vector", "priority"] ["machine", "vector", "priority"] (defScope s_q102) := ⟨rfl, rfl, rfl, by decide +kernel, rfl, by decide +kernel, by decide +kernel⟩
theorem v_q102_machine : Lc s_q102 "machine" := by decide +kernel
theorem v_q102_vector : Lc s_q102 "vector" := by decide +kernel
theorem v_q102_priority : Lc s_q102 "priority" := by decide +kernel
theorem g_q102_OddPlace : Gc s_q102 "OddPlace" := by decide +kernel
theorem g_q102_INTERRUPTED : Gc s_q102 "INTERRUPTED" := by decide +kernel
theorem g_q102_REFUSED : Gc s_q102 "REFUSED" := by decide +kernel
theorem g_q102_HIGHEST_PRIORITY : Gc s_q102 "HIGHEST_PRIORITY" := by decide +kernel
theorem g_q102_NOT_ABOVE : Gc s_q102 "NOT_ABOVE" := by decide +kernel
theorem g_q102_LAST_VECTOR : Gc s_q102 "LAST_VECTOR" := by decide +kernel
theorem g_q102_STOPPED_AT_ODD_PLACE : Gc s_q102 "STOPPED_AT_ODD_PLACE" := by decide +kernel
theorem g_q102_VECTOR_SIZE : Gc s_q102 "VECTOR_SIZE" := by decide +kernel
end My
namespace My
open Sz15 (St Place Came)
def topv (b : Bool) : Nat := if b = true then 128 else 32768
theorem size_topv (b : Bool) : Sz15.size b = 2 * topv b := by cases b <;> rfl
def fl (m : St) (n z v c : Bool) : St := { m with n := n, z := z, v := v, c := c }
structure WF (m : St) : Prop where
  rlen : m.r.length = 8
  rlt : ∀ x ∈ m.r, x < 65536
  mlt : ∀ i, i < 65536 → m.mem i < 256
  plt : m.priority < 8
theorem WF.reg {m : St} (h : WF m) (k : Nat) : m.reg k < 65536 := by
  unfold St.reg
  rw [List.getD_eq_getElem?_getD]
  cases e : m.r[k]? with
  | none => exact Nat.zero_lt_succ _
  | some x => exact h.rlt x (List.mem_of_getElem? e)
theorem WF.byte {m : St} (h : WF m) (a : Nat) : m.byte a < 256 := h.mlt _ (Nat.mod_lt _ (by decide))
theorem WF.word {m : St} (h : WF m) {a x : Nat} (e : m.word a = some x) : x < 65536 := by
  unfold St.word at e
  split at e
  · cases e
  · have := h.byte a
    have := h.byte (a + 1)
    have := Option.some.inj e
    omega
def POk : Place → Prop
  | .reg k => k < 8
  | .mem a => a < 65536
def enc : Place → Nat
  | .reg k => 65536 + k
  | .mem a => a
theorem place_mod (m : St) (b : Nat) (byte : Bool) : Sz15.place m (b % 64) byte = Sz15.place m b byte := by
  unfold Sz15.place
  have e1 : b % 64 % 8 = b % 8 := by omega
  have e2 : b % 64 / 8 % 8 = b / 8 % 8 := by omega
  rw [e1, e2]
theorem load_lt {m : St} (h : WF m) {p : Place} {byte : Bool} {x : Nat} (e : Sz15.load m p byte = some x) : x < Sz15.size byte := by
  cases p with
  | reg k =>
    have e' := Option.some.inj (show some (if byte = true then m.reg k % 256 else m.reg k) = some x from e)
    have := h.reg k
    cases byte with
    | true => rw [if_pos rfl] at e'; subst e'; exact Nat.mod_lt _ (by decide)
    | false => rw [if_neg (by decide)] at e'; subst e'; exact this
  | mem a =>
    cases byte with
    | true =>
      have e' : m.byte a = x := Option.some.inj e
      subst e'; exact h.byte a
    | false => exact h.word (show m.word a = some x from e)
theorem store_none {m : St} {p : Place} {byte : Bool} {x : Nat} (e : Sz15.load m p byte = none) : Sz15.store m p byte x = none := by
  cases p with
  | reg k => cases e
  | mem a =>
    cases byte with
    | true => cases e
    | false =>
      have e' : m.word a = none := e
      show m.putWord a x = none
      unfold St.word at e'
      unfold St.putWord
      split at e'
      · rename_i h; rw [if_pos h]
      · cases e'
theorem store_some {m : St} {p : Place} {byte : Bool} {x y : Nat} (e : Sz15.load m p byte = some y) : ∃ m', Sz15.store m p byte x = some m' := by
  cases p with
  | reg k => exact ⟨_, rfl⟩
  | mem a =>
    cases byte with
    | true => exact ⟨_, rfl⟩
    | false =>
      have e' : m.word a = some y := e
      show ∃ m', m.putWord a x = some m'
      unfold St.word at e'
      unfold St.putWord
      split at e'
      · cases e'
      · rename_i h; exact ⟨_, if_neg h⟩
theorem store_fl (m : St) (n z v c : Bool) (p : Place) (b : Bool) (x : Nat) : Sz15.store (fl m n z v c) p b x = (Sz15.store m p b x).map fun m' => fl m' n z v c := by
  cases p with
  | reg k => cases b <;> rfl
  | mem a =>
    cases b with
    | true => rfl
    | false =>
      show (fl m n z v c).putWord a x = (m.putWord a x).map _
      unfold St.putWord
      split <;> rfl
theorem setReg_self {m : St} (h : WF m) {k : Nat} (hk : k < 8) : m.setReg k (m.reg k) = m := by
  have e : m.r.set k (Sz15.w16 (m.reg k)) = m.r := by
    have := h.reg k
    rw [show Sz15.w16 (m.reg k) = m.reg k from Nat.mod_eq_of_lt this]
    unfold St.reg
    refine List.ext_getElem (by rw [List.length_set]) fun i h1 h2 => ?_
    rw [List.getElem_set]
    split
    · rename_i e; subst e
      rw [List.getD_eq_getElem?_getD, List.getElem?_eq_getElem h2]; rfl
    · rfl
  unfold St.setReg
  rw [e]
theorem putByte_self {m : St} (h : WF m) (a : Nat) : m.putByte a (m.byte a) = m := by
  have e : (fun j => if j = Sz15.w16 a then m.byte a % 256 else m.mem j) = m.mem := by
    funext j
    split
    · rename_i e; subst e; exact Nat.mod_eq_of_lt (h.byte a)
    · rfl
  unfold St.putByte
  rw [e]
theorem putByte_mod (m : St) (a x : Nat) : m.putByte a (x % 256) = m.putByte a x := by
  unfold St.putByte
  rw [Nat.mod_mod]
theorem store_self {m : St} (h : WF m) {p : Place} (hp : POk p) {byte : Bool} {y : Nat} (e : Sz15.load m p byte = some y) : Sz15.store m p byte y = some m := by
  cases p with
  | reg k =>
    have e' := Option.some.inj (show some (if byte = true then m.reg k % 256 else m.reg k) = some y from e)
    have hs := setReg_self h (show k < 8 from hp)
    cases byte with
    | true =>
      rw [if_pos rfl] at e'
      show some (m.setReg k (m.reg k / 256 * 256 + y % 256)) = some m
      rw [show m.reg k / 256 * 256 + y % 256 = m.reg k by omega, hs]
    | false =>
      rw [if_neg (by decide)] at e'
      show some (m.setReg k y) = some m
      rw [← e', hs]
  | mem a =>
    cases byte with
    | true =>
      have e' : m.byte a = y := Option.some.inj e
      subst e'
      show some (m.putByte a (m.byte a)) = some m
      rw [putByte_self h]
    | false =>
      have e' : m.word a = some y := e
      show m.putWord a y = some m
      unfold St.word at e'
      unfold St.putWord
      split at e'
      · cases e'
      · rename_i hh
        rw [if_neg hh]
        have b0 := h.byte a
        have b1 := h.byte (a + 1)
        have e2 := Option.some.inj e'
        have q1 : y % 256 = m.byte a := by omega
        have q2 : y / 256 = m.byte (a + 1) := by omega
        rw [← putByte_mod m a y, q1, putByte_self h, q2, putByte_self h]
def r2 (op : Nat) (byte : Bool) (s d : Nat) (c : Bool) : Nat × Bool × Bool :=
  let q := Sz15.size byte
  match op with
  | 1 => (s, false, c)
  | 2 => let x := (s + q - d) % q; (x, (Sz15.top byte s != Sz15.top byte d) && (Sz15.top byte x == Sz15.top byte d), decide (s < d))
  | 3 => (s &&& d, false, c)
  | 4 => (d &&& (q - 1 - s), false, c)
  | 5 => (d ||| s, false, c)
  | 6 => let x := (s + d) % q; (x, (Sz15.top byte s == Sz15.top byte d) && (Sz15.top byte x != Sz15.top byte d), decide (q ≤ s + d))
  | _ => let x := (d + q - s) % q; (x, (Sz15.top byte s != Sz15.top byte d) && (Sz15.top byte x == Sz15.top byte s), decide (d < s))
def flr (m : St) (byte : Bool) (r : Nat × Bool × Bool) : St := fl m (Sz15.top byte r.1) (decide (r.1 % Sz15.size byte = 0)) r.2.1 r.2.2
theorem two_r2 (m : St) {op : Nat} (h1 : 1 ≤ op) (h7 : op ≤ 7) (byte : Bool) (s d : Nat) : Sz15.two m op byte s d = (flr m byte (r2 op byte s d m.c), if op = 2 ∨ op = 3 then none else some (r2 op byte s d m.c).1) := by
  have : op = 1 ∨ op = 2 ∨ op = 3 ∨ op = 4 ∨ op = 5 ∨ op = 6 ∨ op = 7 := by omega
  rcases this with rfl | rfl | rfl | rfl | rfl | rfl | rfl <;> rfl
def isReg : Place → Bool
  | .reg _ => true
  | .mem _ => false
def fin2 (m : St) (p : Place) (op : Nat) (byte : Bool) (x y : Nat) : Option St :=
  let r := r2 op byte x y m.c
  if op = 1 ∧ byte = true ∧ isReg p = true then (Sz15.store m p false (if 128 ≤ x then x + 65280 else x)).map fun m' => flr m' byte r
  else if op = 2 ∨ op = 3 then some (flr m byte r)
  else (Sz15.store m p byte r.1).map fun m' => flr m' byte r
section
variable {m m1 m2 : St} {op w x y : Nat} {byte : Bool} {p q : Place}
theorem doTwo_none1 (h1 : Sz15.place m (w / 64) byte = none) : Sz15.doTwo m op byte w = none := by
  unfold Sz15.doTwo
  rw [h1]; rfl
theorem doTwo_none2 (h1 : Sz15.place m (w / 64) byte = some (m1, p)) (h2 : Sz15.load m1 p byte = none) : Sz15.doTwo m op byte w = none := by
  unfold Sz15.doTwo
  rw [h1]
  show (Sz15.load m1 p byte).bind _ = none
  rw [h2]; rfl
theorem doTwo_none3 (h1 : Sz15.place m (w / 64) byte = some (m1, p)) (h2 : Sz15.load m1 p byte = some x) (h3 : Sz15.place m1 w byte = none) : Sz15.doTwo m op byte w = none := by
  unfold Sz15.doTwo
  rw [h1]
  show (Sz15.load m1 p byte).bind _ = none
  rw [h2]
  show (Sz15.place m1 w byte).bind _ = none
  rw [h3]; rfl
def rest2 (m2 : St) (q : Place) (op : Nat) (byte : Bool) (x : Nat) : Option St :=
  if op = 1 then
    match q with
    | .reg k => if byte = true then some ((Sz15.two m2 1 byte x 0).1.setReg k (if 128 ≤ x then x + 65280 else x)) else some ((Sz15.two m2 1 byte x 0).1.setReg k x)
    | p => Sz15.store (Sz15.two m2 1 byte x 0).1 p byte x
  else (Sz15.load m2 q byte).bind fun y =>
    match (Sz15.two m2 op byte x y).2 with
    | some z => Sz15.store (Sz15.two m2 op byte x y).1 q byte z
    | none => some (Sz15.two m2 op byte x y).1
theorem doTwo_rest (h1 : Sz15.place m (w / 64) byte = some (m1, p)) (h2 : Sz15.load m1 p byte = some x) (h3 : Sz15.place m1 w byte = some (m2, q)) : Sz15.doTwo m op byte w = rest2 m2 q op byte x := by
  unfold Sz15.doTwo
  rw [h1]
  show (Sz15.load m1 p byte).bind _ = _
  rw [h2]
  show (Sz15.place m1 w byte).bind _ = _
  rw [h3]
  unfold rest2
  show (if op = 1 then _ else _) = _
  split
  · cases q with
    | reg k => cases byte <;> rfl
    | mem a => rfl
  · show (Sz15.load m2 q byte).bind _ = _
    congr 1
theorem doTwo_none4 (h1 : Sz15.place m (w / 64) byte = some (m1, p)) (h2 : Sz15.load m1 p byte = some x) (h3 : Sz15.place m1 w byte = some (m2, q)) (h4 : Sz15.load m2 q byte = none) : Sz15.doTwo m op byte w = none := by
  rw [doTwo_rest h1 h2 h3]
  unfold rest2
  split
  · cases q with
    | reg k => cases h4
    | mem a =>
      show Sz15.store (flr m2 byte (x, false, m2.c)) (.mem a) byte x = none
      unfold flr
      rw [store_fl, store_none h4]; rfl
  · rw [h4]; rfl
theorem doTwo_fin (ho : 1 ≤ op) (ho7 : op ≤ 7) (h1 : Sz15.place m (w / 64) byte = some (m1, p)) (h2 : Sz15.load m1 p byte = some x) (h3 : Sz15.place m1 w byte = some (m2, q)) (h4 : Sz15.load m2 q byte = some y) : Sz15.doTwo m op byte w = fin2 m2 q op byte x y := by
  rw [doTwo_rest h1 h2 h3]
  unfold rest2 fin2
  by_cases o1 : op = 1
  · subst o1
    rw [if_pos rfl]
    show _ = if 1 = 1 ∧ byte = true ∧ isReg q = true then (Sz15.store m2 q false _).map _ else if 1 = 2 ∨ 1 = 3 then _ else (Sz15.store m2 q byte x).map _
    cases q with
    | reg k =>
      cases byte with
      | true => rfl
      | false => rfl
    | mem a =>
      rw [if_neg (show ¬ (1 = 1 ∧ byte = true ∧ isReg (.mem a) = true) from fun h => by cases h.2.2), if_neg (show ¬ (1 = 2 ∨ 1 = 3) by decide)]
      show Sz15.store (flr m2 byte (x, false, m2.c)) (.mem a) byte x = _
      unfold flr
      rw [store_fl]; rfl
  · rw [if_neg o1, h4]
    show (match (Sz15.two m2 op byte x y).2 with | some z => Sz15.store (Sz15.two m2 op byte x y).1 q byte z | none => some (Sz15.two m2 op byte x y).1) = _
    rw [two_r2 m2 ho ho7]
    show _ = if op = 1 ∧ byte = true ∧ isReg q = true then (Sz15.store m2 q false _).map _ else if op = 2 ∨ op = 3 then _ else _
    rw [if_neg (show ¬ (op = 1 ∧ byte = true ∧ isReg q = true) from fun h => o1 h.1)]
    by_cases o2 : op = 2 ∨ op = 3
    · rw [if_pos o2, if_pos o2]
    · rw [if_neg o2, if_neg o2]
      show Sz15.store (flr m2 byte _) q byte _ = _
      unfold flr
      rw [store_fl]
end
def r1 (op : Nat) (byte : Bool) (d : Nat) (cf : Bool) : Nat × Bool × Bool :=
  let q := Sz15.size byte
  let h := q / 2
  let c := cf.toNat
  let turned (x : Nat) (out : Bool) : Nat × Bool × Bool := (x, Sz15.top byte x != out, out)
  match op with
  | 0 => (0, false, false)
  | 1 => (q - 1 - d, false, true)
  | 2 => ((d + 1) % q, decide (d = h - 1), cf)
  | 3 => ((d + q - 1) % q, decide (d = h), cf)
  | 4 => let x := (q - d) % q; (x, decide (x = h), decide (x ≠ 0))
  | 5 => ((d + c) % q, decide (d = h - 1) && cf, decide (d = q - 1) && cf)
  | 6 => ((d + q - c) % q, decide (d = h) && cf, decide (d = 0) && cf)
  | 7 => (d, false, false)
  | 8 => turned (d / 2 + c * h) (decide (d % 2 = 1))
  | 9 => turned ((2 * d + c) % q) (Sz15.top byte d)
  | 10 => turned (d / 2 + (if Sz15.top byte d = true then h else 0)) (decide (d % 2 = 1))
  | _ => turned (2 * d % q) (Sz15.top byte d)
theorem one_r1 (m : St) {op : Nat} (h : op ≤ 11) (byte : Bool) (d : Nat) : Sz15.one m op byte d = (flr m byte (r1 op byte d m.c), if op = 7 then none else some (r1 op byte d m.c).1) := by
  have : op = 0 ∨ op = 1 ∨ op = 2 ∨ op = 3 ∨ op = 4 ∨ op = 5 ∨ op = 6 ∨ op = 7 ∨ op = 8 ∨ op = 9 ∨ op = 10 ∨ op = 11 := by omega
  rcases this with rfl | rfl | rfl | rfl | rfl | rfl | rfl | rfl | rfl | rfl | rfl | rfl
  · cases byte <;> rfl
  all_goals rfl
theorem r1_zero (byte : Bool) (d e : Nat) (c : Bool) : r1 0 byte d c = r1 0 byte e c := rfl
section
variable {m m1 : St} {op w y : Nat} {byte : Bool} {p : Place}
theorem doOne_none1 (h1 : Sz15.place m w byte = none) : Sz15.doOne m op byte w = none := by
  unfold Sz15.doOne
  rw [h1]; rfl
def rest1 (m1 : St) (p : Place) (op : Nat) (byte : Bool) (y : Nat) : Option St :=
  match (Sz15.one m1 op byte y).2 with
  | some z => Sz15.store (Sz15.one m1 op byte y).1 p byte z
  | none => some (Sz15.one m1 op byte y).1
theorem doOne_rest (h1 : Sz15.place m w byte = some (m1, p)) : Sz15.doOne m op byte w = if op = 0 then rest1 m1 p 0 byte 0 else (Sz15.load m1 p byte).bind fun y => rest1 m1 p op byte y := by
  unfold Sz15.doOne
  rw [h1]
  by_cases o : op = 0
  · subst o; rfl
  · rw [if_neg o]
    show Option.bind (if op = 0 then pure 0 else Sz15.load m1 p byte) _ = _
    rw [if_neg o]
    congr 1
theorem rest1_eq (ho : op ≤ 11) : rest1 m1 p op byte y = if op = 7 then some (flr m1 byte (r1 op byte y m1.c)) else (Sz15.store m1 p byte (r1 op byte y m1.c).1).map fun m' => flr m' byte (r1 op byte y m1.c) := by
  unfold rest1
  rw [one_r1 m1 ho]
  by_cases o : op = 7
  · rw [if_pos o, if_pos o]
  · rw [if_neg o, if_neg o]
    show Sz15.store (flr m1 byte _) p byte _ = _
    unfold flr
    rw [store_fl]
theorem doOne_none2 (ho : op ≤ 11) (h1 : Sz15.place m w byte = some (m1, p)) (h2 : Sz15.load m1 p byte = none) : Sz15.doOne m op byte w = none := by
  rw [doOne_rest h1]
  split
  · rw [rest1_eq (by decide), if_neg (by decide), store_none h2]; rfl
  · rw [h2]; rfl
theorem doOne_fin (ho : op ≤ 11) (hw : WF m1) (hp : POk p) (h1 : Sz15.place m w byte = some (m1, p)) (h2 : Sz15.load m1 p byte = some y) :
    Sz15.doOne m op byte w = (Sz15.store m1 p byte (r1 op byte y m1.c).1).map fun m' => flr m' byte (r1 op byte y m1.c) := by
  rw [doOne_rest h1]
  by_cases o : op = 0
  · subst o
    rw [if_pos rfl, rest1_eq (by decide), if_neg (by decide)]
    rfl
  · rw [if_neg o, h2]
    show rest1 m1 p op byte y = _
    rw [rest1_eq ho]
    by_cases o7 : op = 7
    · subst o7
      rw [if_pos rfl]
      show _ = (Sz15.store m1 p byte y).map _
      rw [store_self hw hp h2]; rfl
    · rw [if_neg o7]
end
end My
namespace My
open Sz15 (St Place Came)
theorem top_bit (byte : Bool) (x : Nat) : Sz15.top byte x = x.testBit (if byte = true then 7 else 15) := by
  cases byte
  · show decide (32768 ≤ x % 65536) = x.testBit 15
    rw [Nat.testBit_eq_decide_div_mod_eq]
    exact decide_eq_decide.mpr (by omega)
  · show decide (128 ≤ x % 256) = x.testBit 7
    rw [Nat.testBit_eq_decide_div_mod_eq]
    exact decide_eq_decide.mpr (by omega)
theorem topv_pow (byte : Bool) : topv byte = 2 ^ (if byte = true then 7 else 15) := by cases byte <;> rfl
theorem and_top (byte : Bool) (x : Nat) : x &&& topv byte = (Sz15.top byte x).toNat * topv byte := by
  rw [topv_pow, top_bit]
  generalize (if byte = true then 7 else 15) = k
  refine Nat.eq_of_testBit_eq fun i => ?_
  rw [Nat.testBit_and, Nat.testBit_two_pow]
  by_cases e : k = i
  · subst e
    cases h : x.testBit k
    · simp
    · simp
  · rw [decide_eq_false e, Bool.and_false]
    cases x.testBit k
    · simp
    · simp [Nat.testBit_two_pow, e]
theorem and_top0 (byte : Bool) (x : Nat) : decide (x &&& topv byte = 0) = !Sz15.top byte x := by
  rw [and_top]
  cases Sz15.top byte x
  · simp
  · cases byte <;> rfl
theorem top_xor (byte : Bool) (x y : Nat) : Sz15.top byte (x ^^^ y) = (Sz15.top byte x != Sz15.top byte y) := by
  rw [top_bit, top_bit, top_bit, Nat.testBit_xor]
theorem top_and (byte : Bool) (x y : Nat) : Sz15.top byte (x &&& y) = (Sz15.top byte x && Sz15.top byte y) := by
  rw [top_bit, top_bit, top_bit, Nat.testBit_and]
theorem ovf (byte : Bool) (a b c d : Nat) : decide (((a ^^^ b) &&& (c ^^^ d)) &&& topv byte = 0) = !((Sz15.top byte a != Sz15.top byte b) && (Sz15.top byte c != Sz15.top byte d)) := by
  rw [and_top0, top_and, top_xor, top_xor]
theorem top_lt {byte : Bool} {x : Nat} (h : x < Sz15.size byte) : Sz15.top byte x = decide (topv byte ≤ x) := by
  unfold Sz15.top
  rw [Nat.mod_eq_of_lt h]
  cases byte <;> rfl
def oSum (byte : Bool) (s d : Nat) : Bool := let r := (s + d) % Sz15.size byte; (Sz15.top byte s != Sz15.top byte r) && (Sz15.top byte d != Sz15.top byte r)
def oDif (byte : Bool) (a b : Nat) : Bool := let r := (a + Sz15.size byte - b) % Sz15.size byte; (Sz15.top byte a != Sz15.top byte b) && (Sz15.top byte a != Sz15.top byte r)
theorem r2_cmp (byte : Bool) (s d : Nat) (c : Bool) : r2 2 byte s d c = ((s + Sz15.size byte - d) % Sz15.size byte, oDif byte s d, decide (s < d)) := by
  show ((s + Sz15.size byte - d) % Sz15.size byte, (Sz15.top byte s != Sz15.top byte d) && (Sz15.top byte _ == Sz15.top byte d), decide (s < d)) = _
  congr 2
  unfold oDif
  dsimp only
  cases Sz15.top byte s <;> cases Sz15.top byte d <;> cases Sz15.top byte _ <;> rfl
theorem r2_add (byte : Bool) (s d : Nat) (c : Bool) : r2 6 byte s d c = ((s + d) % Sz15.size byte, oSum byte s d, decide (Sz15.size byte ≤ s + d)) := by
  show ((s + d) % Sz15.size byte, (Sz15.top byte s == Sz15.top byte d) && (Sz15.top byte _ != Sz15.top byte d), decide (Sz15.size byte ≤ s + d)) = _
  congr 2
  unfold oSum
  dsimp only
  cases Sz15.top byte s <;> cases Sz15.top byte d <;> cases Sz15.top byte _ <;> rfl
theorem r2_sub (byte : Bool) (s d : Nat) (c : Bool) : r2 7 byte s d c = ((d + Sz15.size byte - s) % Sz15.size byte, oDif byte d s, decide (d < s)) := by
  show ((d + Sz15.size byte - s) % Sz15.size byte, (Sz15.top byte s != Sz15.top byte d) && (Sz15.top byte _ == Sz15.top byte s), decide (d < s)) = _
  congr 2
  unfold oDif
  dsimp only
  cases Sz15.top byte s <;> cases Sz15.top byte d <;> cases Sz15.top byte _ <;> rfl
theorem bne_decide {p q : Prop} [Decidable p] [Decidable q] : (decide p != decide q) = decide (¬ (p ↔ q)) := by
  by_cases hp : p <;> by_cases hq : q <;> simp [hp, hq]
theorem and_bool {p : Prop} [Decidable p] {c : Bool} : (decide p && c) = decide (p ∧ c.toNat = 1) := by
  cases c <;> simp
theorem r1_adc {byte : Bool} {d : Nat} (c : Bool) (hd : d < Sz15.size byte) : r1 5 byte d c = ((c.toNat + d) % Sz15.size byte, oSum byte c.toNat d, decide (Sz15.size byte ≤ c.toNat + d)) := by
  have hc : c.toNat < 2 := by cases c <;> decide
  show ((d + c.toNat) % Sz15.size byte, decide (d = Sz15.size byte / 2 - 1) && c, decide (d = Sz15.size byte - 1) && c) = _
  have e1 : (d + c.toNat) % Sz15.size byte = (c.toNat + d) % Sz15.size byte := by rw [Nat.add_comm]
  have e2 : (decide (d = Sz15.size byte / 2 - 1) && c) = oSum byte c.toNat d := by
    unfold oSum
    dsimp only
    rw [top_lt hd, top_lt (show c.toNat < Sz15.size byte by cases byte <;> (show _ < _; first | (show c.toNat < 65536; omega) | (show c.toNat < 256; omega))), top_lt (Nat.mod_lt _ (by cases byte <;> decide)), bne_decide, bne_decide, ← Bool.decide_and, and_bool]
    apply decide_eq_decide.mpr
    cases byte
    · show d = 32767 ∧ _ ↔ ¬ (32768 ≤ c.toNat ↔ 32768 ≤ (c.toNat + d) % 65536) ∧ ¬ (32768 ≤ d ↔ 32768 ≤ (c.toNat + d) % 65536)
      have : d < 65536 := hd
      omega
    · show d = 127 ∧ _ ↔ ¬ (128 ≤ c.toNat ↔ 128 ≤ (c.toNat + d) % 256) ∧ ¬ (128 ≤ d ↔ 128 ≤ (c.toNat + d) % 256)
      have : d < 256 := hd
      omega
  have e3 : (decide (d = Sz15.size byte - 1) && c) = decide (Sz15.size byte ≤ c.toNat + d) := by
    rw [and_bool]
    apply decide_eq_decide.mpr
    omega
  rw [e1, e2, e3]
theorem r1_sbc {byte : Bool} {d : Nat} (c : Bool) (hd : d < Sz15.size byte) : r1 6 byte d c = ((d + Sz15.size byte - c.toNat) % Sz15.size byte, oDif byte d c.toNat, decide (d < c.toNat)) := by
  have hc : c.toNat < 2 := by cases c <;> decide
  show ((d + Sz15.size byte - c.toNat) % Sz15.size byte, decide (d = Sz15.size byte / 2) && c, decide (d = 0) && c) = _
  have e2 : (decide (d = Sz15.size byte / 2) && c) = oDif byte d c.toNat := by
    unfold oDif
    dsimp only
    rw [top_lt hd, top_lt (show c.toNat < Sz15.size byte by cases byte <;> (show _ < _; first | (show c.toNat < 65536; omega) | (show c.toNat < 256; omega))), top_lt (Nat.mod_lt _ (by cases byte <;> decide)), bne_decide, bne_decide, ← Bool.decide_and, and_bool]
    apply decide_eq_decide.mpr
    cases byte
    · show d = 32768 ∧ _ ↔ ¬ (32768 ≤ d ↔ 32768 ≤ c.toNat) ∧ ¬ (32768 ≤ d ↔ 32768 ≤ (d + 65536 - c.toNat) % 65536)
      have : d < 65536 := hd
      omega
    · show d = 128 ∧ _ ↔ ¬ (128 ≤ d ↔ 128 ≤ c.toNat) ∧ ¬ (128 ≤ d ↔ 128 ≤ (d + 256 - c.toNat) % 256)
      have : d < 256 := hd
      omega
  have e3 : (decide (d = 0) && c) = decide (d < c.toNat) := by
    rw [and_bool]
    apply decide_eq_decide.mpr
    omega
  rw [e2, e3]
theorem r2_lt {op : Nat} (h1 : 1 ≤ op) (h7 : op ≤ 7) {byte : Bool} {s d : Nat} (c : Bool) (hs : s < Sz15.size byte) (hd : d < Sz15.size byte) : (r2 op byte s d c).1 < Sz15.size byte := by
  have hq : 0 < Sz15.size byte := Nat.lt_of_le_of_lt (Nat.zero_le _) hs
  have hp : ∃ n, Sz15.size byte = 2 ^ n := by cases byte; exact ⟨16, rfl⟩; exact ⟨8, rfl⟩
  obtain ⟨n, hn⟩ := hp
  have : op = 1 ∨ op = 2 ∨ op = 3 ∨ op = 4 ∨ op = 5 ∨ op = 6 ∨ op = 7 := by omega
  rcases this with rfl | rfl | rfl | rfl | rfl | rfl | rfl
  · exact hs
  · exact Nat.mod_lt _ hq
  · exact Nat.lt_of_le_of_lt Nat.and_le_left hs
  · exact Nat.lt_of_le_of_lt Nat.and_le_left hd
  · show d ||| s < _
    rw [hn] at hs hd ⊢
    exact Nat.or_lt_two_pow hd hs
  · exact Nat.mod_lt _ hq
  · exact Nat.mod_lt _ hq
theorem r1_lt {op : Nat} (h : op ≤ 11) {byte : Bool} {d : Nat} (c : Bool) (hd : d < Sz15.size byte) : (r1 op byte d c).1 < Sz15.size byte := by
  have hq : 0 < Sz15.size byte := Nat.lt_of_le_of_lt (Nat.zero_le _) hd
  have hc : c.toNat < 2 := by cases c <;> decide
  have h2 : Sz15.size byte / 2 + Sz15.size byte / 2 = Sz15.size byte := by cases byte <;> rfl
  have : op = 0 ∨ op = 1 ∨ op = 2 ∨ op = 3 ∨ op = 4 ∨ op = 5 ∨ op = 6 ∨ op = 7 ∨ op = 8 ∨ op = 9 ∨ op = 10 ∨ op = 11 := by omega
  rcases this with rfl | rfl | rfl | rfl | rfl | rfl | rfl | rfl | rfl | rfl | rfl | rfl
  · exact hq
  · show Sz15.size byte - 1 - d < _; omega
  · exact Nat.mod_lt _ hq
  · exact Nat.mod_lt _ hq
  · exact Nat.mod_lt _ hq
  · exact Nat.mod_lt _ hq
  · exact Nat.mod_lt _ hq
  · exact hd
  · show d / 2 + c.toNat * (Sz15.size byte / 2) < _
    have : c.toNat = 0 ∨ c.toNat = 1 := by omega
    rcases this with e | e <;> rw [e] <;> omega
  · exact Nat.mod_lt _ hq
  · show d / 2 + (if _ then Sz15.size byte / 2 else 0) < _
    generalize hh : Sz15.size byte / 2 = g at *
    split <;> omega
  · exact Nat.mod_lt _ hq
theorem rol_eq {byte : Bool} (d : Nat) (c : Bool) : 2 * d % Sz15.size byte + c.toNat = (2 * d + c.toNat) % Sz15.size byte := by
  have hc : c.toNat < 2 := by cases c <;> decide
  cases byte
  · show 2 * d % 65536 + _ = (2 * d + _) % 65536; omega
  · show 2 * d % 256 + _ = (2 * d + _) % 256; omega
def exec (m : St) (w : Nat) : Came :=
    let byte := decide (32768 ≤ w)
    let top4 := w / 4096 % 8
    let offset := (Sz15.signed 256 w) * 2
    let to (z : Int) : St := m.setReg 7 (((m.pc : Int) + z).emod 65536).toNat
    if 1 ≤ top4 ∧ top4 ≤ 5 then Sz15.came (Sz15.doTwo m top4 byte w)
    else if top4 = 6 then Sz15.came (Sz15.doTwo m (if byte = true then 7 else 6) false w)
    else if top4 = 7 then
      if byte = true then .none_
      else
        let k := w / 64 % 8
        match w / 512 % 8 with
        | 4 => Sz15.came (do
          let d ← Sz15.place m w false
          let y ← Sz15.load d.1 d.2 false
          let x := y ^^^ d.1.reg k
          Sz15.store { d.1.nz false x with v := false } d.2 false x)
        | 7 => let r := Sz15.w16 (m.reg k + 65535); .on (let a := m.setReg k r; if r = 0 then a else a.setReg 7 (a.pc + 65536 - 2 * (w % 64)))
        | 5 => .none_
        | 6 => .none_
        | op => if (op = 1 ∨ op = 3) ∧ k % 2 = 1 then .none_ else Sz15.came (do
          let s ← Sz15.place m w false
          let x ← Sz15.load s.1 s.2 false
          Sz15.extended s.1 op k x)
    else
      let hi := w / 256 % 128
      if byte = true ∧ 8 ≤ hi ∧ hi < 10 then Sz15.came (Sz15.trap m (if hi = 8 then 24 else 28))
      else if hi < 8 ∧ (byte = true ∨ 1 ≤ hi) then .on (if Sz15.taken m (if byte = true then 8 + hi else hi) = true then to offset else m)
      else if 40 ≤ w / 64 % 512 ∧ w / 64 % 512 ≤ 51 then Sz15.came (Sz15.doOne m (w / 64 % 512 - 40) byte w)
      else if byte = true then .none_
      else if w = 0 then .halt_ m 1
      else if w = 1 then .halt_ m 2
      else if w = 2 ∨ w = 6 then Sz15.came (m.pull.bind fun a => a.1.pull.map fun b => (b.1.setReg 7 a.2).setPsw b.2)
      else if w = 3 then Sz15.came (Sz15.trap m 12)
      else if w = 4 then Sz15.came (Sz15.trap m 16)
      else if w = 5 then .on m
      else if w / 64 = 1 then (if w / 8 % 8 = 0 then .none_ else Sz15.came ((Sz15.place m w false).bind fun d => match d.2 with
        | .mem a => if a % 2 = 1 then none else some (d.1.setReg 7 a)
        | .reg _ => none))
      else if w / 8 = 16 then Sz15.came (let a := m.setReg 7 (m.reg (w % 8)); a.pull.map fun b => b.1.setReg (w % 8) b.2)
      else if 160 ≤ w ∧ w ≤ 191 then
        let on := decide (176 ≤ w)
        .on { m with n := if w.testBit 3 = true then on else m.n, z := if w.testBit 2 = true then on else m.z, v := if w.testBit 1 = true then on else m.v, c := if w.testBit 0 = true then on else m.c }
      else if w / 64 = 3 then Sz15.came (do
        let d ← Sz15.place m w false
        let y ← Sz15.load d.1 d.2 false
        let x := y % 256 * 256 + y / 256
        Sz15.store { d.1.nz true x with v := false, c := false } d.2 false x)
      else if w / 512 = 4 then (if w / 8 % 8 = 0 then .none_ else Sz15.came ((Sz15.place m w false).bind fun d => match d.2 with
        | .mem a => if a % 2 = 1 then none else let k := w / 64 % 8; (d.1.push (d.1.reg k)).map fun p => (p.setReg k p.pc).setReg 7 a
        | .reg _ => none))
      else if w / 64 = 52 then Sz15.came (let s := m.setReg 6 (m.pc + 2 * (w % 64)); let a := s.setReg 7 (m.reg 5); a.pull.map fun b => b.1.setReg 5 b.2)
      else if w / 64 = 55 then Sz15.came ((Sz15.place m w false).bind fun d => Sz15.store { d.1 with z := !m.n, v := false } d.2 false (if m.n = true then 65535 else 0))
      else .none_
theorem step_exec (m0 : St) : Sz15.step m0 = match m0.fetch with
    | none => .odd
    | some (m, w) => exec m w := rfl
section
variable {m : St} {w : Nat}
theorem ex_two (hw : w < 65536) (h : (1 ≤ w / 4096 ∧ w / 4096 ≤ 5) ∨ (9 ≤ w / 4096 ∧ w / 4096 ≤ 13)) : exec m w = Sz15.came (Sz15.doTwo m (w / 4096 % 8) (decide (8 ≤ w / 4096)) w) := by
  unfold exec
  dsimp only
  rw [if_pos (by omega), show decide (32768 ≤ w) = decide (8 ≤ w / 4096) from decide_eq_decide.mpr (by omega)]
theorem ex_add (h : w / 4096 = 6) : exec m w = Sz15.came (Sz15.doTwo m 6 false w) := by
  unfold exec
  dsimp only
  rw [if_neg (by first | omega | (simp only [decide_eq_true_eq]; omega))]
  rw [if_pos (by omega), if_neg (by simp only [decide_eq_true_eq]; omega)]
theorem ex_sub (h : w / 4096 = 14) : exec m w = Sz15.came (Sz15.doTwo m 7 false w) := by
  unfold exec
  dsimp only
  rw [if_neg (by first | omega | (simp only [decide_eq_true_eq]; omega))]
  rw [if_pos (by omega), if_pos (by simp only [decide_eq_true_eq]; omega)]
theorem ex_xor (h : w / 512 = 60) : exec m w = Sz15.came ((Sz15.place m w false).bind fun d => (Sz15.load d.1 d.2 false).bind fun y => Sz15.store { d.1.nz false (y ^^^ d.1.reg (w / 64 % 8)) with v := false } d.2 false (y ^^^ d.1.reg (w / 64 % 8))) := by
  unfold exec
  dsimp only
  rw [if_neg (by first | omega | (simp only [decide_eq_true_eq]; omega))]; rw [if_neg (by first | omega | (simp only [decide_eq_true_eq]; omega))]
  rw [if_pos (by omega)]; rw [if_neg (by first | omega | (simp only [decide_eq_true_eq]; omega))]
  rw [show w / 512 % 8 = 4 by omega]
  rfl
theorem ex_sob (h : w / 512 = 63) : exec m w = .on (if Sz15.w16 (m.reg (w / 64 % 8) + 65535) = 0 then m.setReg (w / 64 % 8) (Sz15.w16 (m.reg (w / 64 % 8) + 65535)) else (m.setReg (w / 64 % 8) (Sz15.w16 (m.reg (w / 64 % 8) + 65535))).setReg 7 ((m.setReg (w / 64 % 8) (Sz15.w16 (m.reg (w / 64 % 8) + 65535))).pc + 65536 - 2 * (w % 64))) := by
  unfold exec
  dsimp only
  rw [if_neg (by first | omega | (simp only [decide_eq_true_eq]; omega))]; rw [if_neg (by first | omega | (simp only [decide_eq_true_eq]; omega))]
  rw [if_pos (by omega)]; rw [if_neg (by first | omega | (simp only [decide_eq_true_eq]; omega))]
  rw [show w / 512 % 8 = 7 by omega]
  rfl
theorem ex_ext {op : Nat} (ho : op ≤ 3) (h : w / 512 = 56 + op) : exec m w = if (op = 1 ∨ op = 3) ∧ w / 64 % 8 % 2 = 1 then .none_ else Sz15.came ((Sz15.place m w false).bind fun s => (Sz15.load s.1 s.2 false).bind fun x => Sz15.extended s.1 op (w / 64 % 8) x) := by
  unfold exec
  dsimp only
  rw [if_neg (by first | omega | (simp only [decide_eq_true_eq]; omega))]; rw [if_neg (by first | omega | (simp only [decide_eq_true_eq]; omega))]
  rw [if_pos (by omega)]; rw [if_neg (by first | omega | (simp only [decide_eq_true_eq]; omega))]
  have : op = 0 ∨ op = 1 ∨ op = 2 ∨ op = 3 := by omega
  rcases this with rfl | rfl | rfl | rfl
  · rw [show w / 512 % 8 = 0 by omega]; rfl
  · rw [show w / 512 % 8 = 1 by omega]; rfl
  · rw [show w / 512 % 8 = 2 by omega]; rfl
  · rw [show w / 512 % 8 = 3 by omega]; rfl
theorem ex_emt (h : w / 256 = 136) : exec m w = Sz15.came (Sz15.trap m 24) := by
  unfold exec
  dsimp only
  rw [if_neg (by first | omega | (simp only [decide_eq_true_eq]; omega))]; rw [if_neg (by first | omega | (simp only [decide_eq_true_eq]; omega))]; rw [if_neg (by first | omega | (simp only [decide_eq_true_eq]; omega))]
  rw [if_pos (by simp only [decide_eq_true_eq]; omega), if_pos (by omega)]
theorem ex_trap (h : w / 256 = 137) : exec m w = Sz15.came (Sz15.trap m 28) := by
  unfold exec
  dsimp only
  rw [if_neg (by first | omega | (simp only [decide_eq_true_eq]; omega))]; rw [if_neg (by first | omega | (simp only [decide_eq_true_eq]; omega))]; rw [if_neg (by first | omega | (simp only [decide_eq_true_eq]; omega))]
  rw [if_pos (by simp only [decide_eq_true_eq]; omega), if_neg (by omega)]
theorem ex_branch (h : (1 ≤ w / 256 ∧ w / 256 ≤ 7) ∨ (128 ≤ w / 256 ∧ w / 256 ≤ 135)) : exec m w = .on (if Sz15.taken m (if 128 ≤ w / 256 then w / 256 - 120 else w / 256) = true then m.setReg 7 (((m.pc : Int) + Sz15.signed 256 w * 2).emod 65536).toNat else m) := by
  unfold exec
  dsimp only
  rw [if_neg (by first | omega | (simp only [decide_eq_true_eq]; omega))]; rw [if_neg (by first | omega | (simp only [decide_eq_true_eq]; omega))]; rw [if_neg (by first | omega | (simp only [decide_eq_true_eq]; omega))]; rw [if_neg (by first | omega | (simp only [decide_eq_true_eq]; omega))]
  rw [if_pos (by simp only [decide_eq_true_eq]; omega)]
  have e : (if decide (32768 ≤ w) = true then 8 + w / 256 % 128 else w / 256 % 128) = if 128 ≤ w / 256 then w / 256 - 120 else w / 256 := by
    simp only [decide_eq_true_eq]
    split <;> split <;> omega
  rw [e]
theorem ex_one (h : (40 ≤ w / 64 ∧ w / 64 ≤ 51) ∨ (552 ≤ w / 64 ∧ w / 64 ≤ 563)) : exec m w = Sz15.came (Sz15.doOne m (w / 64 % 512 - 40) (decide (512 ≤ w / 64)) w) := by
  unfold exec
  dsimp only
  rw [if_neg (by first | omega | (simp only [decide_eq_true_eq]; omega))]; rw [if_neg (by first | omega | (simp only [decide_eq_true_eq]; omega))]; rw [if_neg (by first | omega | (simp only [decide_eq_true_eq]; omega))]; rw [if_neg (by first | omega | (simp only [decide_eq_true_eq]; omega))]; rw [if_neg (by first | omega | (simp only [decide_eq_true_eq]; omega))]
  rw [if_pos (by omega), show decide (32768 ≤ w) = decide (512 ≤ w / 64) from decide_eq_decide.mpr (by omega)]
theorem ex_halt : exec m 0 = .halt_ m 1 := rfl
theorem ex_wait : exec m 1 = .halt_ m 2 := rfl
theorem ex_rti (h : w = 2 ∨ w = 6) : exec m w = Sz15.came (m.pull.bind fun a => a.1.pull.map fun b => (b.1.setReg 7 a.2).setPsw b.2) := by
  rcases h with rfl | rfl <;> rfl
theorem ex_bpt : exec m 3 = Sz15.came (Sz15.trap m 12) := rfl
theorem ex_iot : exec m 4 = Sz15.came (Sz15.trap m 16) := rfl
theorem ex_reset : exec m 5 = .on m := rfl
theorem ex_jmp (h : w / 64 = 1) : exec m w = if w / 8 % 8 = 0 then .none_ else Sz15.came ((Sz15.place m w false).bind fun d => match d.2 with
        | .mem a => if a % 2 = 1 then none else some (d.1.setReg 7 a)
        | .reg _ => none) := by
  unfold exec
  dsimp only
  rw [if_neg (by first | omega | (simp only [decide_eq_true_eq]; omega))]
  rw [if_neg (by first | omega | (simp only [decide_eq_true_eq]; omega))]
  rw [if_neg (by first | omega | (simp only [decide_eq_true_eq]; omega))]
  rw [if_neg (by first | omega | (simp only [decide_eq_true_eq]; omega))]
  rw [if_neg (by first | omega | (simp only [decide_eq_true_eq]; omega))]
  rw [if_neg (by first | omega | (simp only [decide_eq_true_eq]; omega))]
  rw [if_neg (by first | omega | (simp only [decide_eq_true_eq]; omega))]
  rw [if_neg (by first | omega | (simp only [decide_eq_true_eq]; omega))]
  rw [if_neg (by first | omega | (simp only [decide_eq_true_eq]; omega))]
  rw [if_neg (by first | omega | (simp only [decide_eq_true_eq]; omega))]
  rw [if_neg (by first | omega | (simp only [decide_eq_true_eq]; omega))]
  rw [if_neg (by first | omega | (simp only [decide_eq_true_eq]; omega))]
  rw [if_neg (by first | omega | (simp only [decide_eq_true_eq]; omega))]
  rw [if_pos h]
theorem ex_rts (h : w / 8 = 16) : exec m w = Sz15.came ((m.setReg 7 (m.reg (w % 8))).pull.map fun b => b.1.setReg (w % 8) b.2) := by
  unfold exec
  dsimp only
  rw [if_neg (by first | omega | (simp only [decide_eq_true_eq]; omega))]
  rw [if_neg (by first | omega | (simp only [decide_eq_true_eq]; omega))]
  rw [if_neg (by first | omega | (simp only [decide_eq_true_eq]; omega))]
  rw [if_neg (by first | omega | (simp only [decide_eq_true_eq]; omega))]
  rw [if_neg (by first | omega | (simp only [decide_eq_true_eq]; omega))]
  rw [if_neg (by first | omega | (simp only [decide_eq_true_eq]; omega))]
  rw [if_neg (by first | omega | (simp only [decide_eq_true_eq]; omega))]
  rw [if_neg (by first | omega | (simp only [decide_eq_true_eq]; omega))]
  rw [if_neg (by first | omega | (simp only [decide_eq_true_eq]; omega))]
  rw [if_neg (by first | omega | (simp only [decide_eq_true_eq]; omega))]
  rw [if_neg (by first | omega | (simp only [decide_eq_true_eq]; omega))]
  rw [if_neg (by first | omega | (simp only [decide_eq_true_eq]; omega))]
  rw [if_neg (by first | omega | (simp only [decide_eq_true_eq]; omega))]
  rw [if_neg (by first | omega | (simp only [decide_eq_true_eq]; omega))]
  rw [if_pos h]
theorem ex_flags (h : 20 ≤ w / 8 ∧ w / 8 ≤ 23) : exec m w = .on { m with n := if w.testBit 3 = true then decide (176 ≤ w) else m.n, z := if w.testBit 2 = true then decide (176 ≤ w) else m.z, v := if w.testBit 1 = true then decide (176 ≤ w) else m.v, c := if w.testBit 0 = true then decide (176 ≤ w) else m.c } := by
  unfold exec
  dsimp only
  rw [if_neg (by first | omega | (simp only [decide_eq_true_eq]; omega))]
  rw [if_neg (by first | omega | (simp only [decide_eq_true_eq]; omega))]
  rw [if_neg (by first | omega | (simp only [decide_eq_true_eq]; omega))]
  rw [if_neg (by first | omega | (simp only [decide_eq_true_eq]; omega))]
  rw [if_neg (by first | omega | (simp only [decide_eq_true_eq]; omega))]
  rw [if_neg (by first | omega | (simp only [decide_eq_true_eq]; omega))]
  rw [if_neg (by first | omega | (simp only [decide_eq_true_eq]; omega))]
  rw [if_neg (by first | omega | (simp only [decide_eq_true_eq]; omega))]
  rw [if_neg (by first | omega | (simp only [decide_eq_true_eq]; omega))]
  rw [if_neg (by first | omega | (simp only [decide_eq_true_eq]; omega))]
  rw [if_neg (by first | omega | (simp only [decide_eq_true_eq]; omega))]
  rw [if_neg (by first | omega | (simp only [decide_eq_true_eq]; omega))]
  rw [if_neg (by first | omega | (simp only [decide_eq_true_eq]; omega))]
  rw [if_neg (by first | omega | (simp only [decide_eq_true_eq]; omega))]
  rw [if_neg (by first | omega | (simp only [decide_eq_true_eq]; omega))]
  rw [if_pos (by omega)]
theorem ex_swab (h : w / 64 = 3) : exec m w = Sz15.came ((Sz15.place m w false).bind fun d => (Sz15.load d.1 d.2 false).bind fun y => Sz15.store { d.1.nz true (y % 256 * 256 + y / 256) with v := false, c := false } d.2 false (y % 256 * 256 + y / 256)) := by
  unfold exec
  dsimp only
  rw [if_neg (by first | omega | (simp only [decide_eq_true_eq]; omega))]
  rw [if_neg (by first | omega | (simp only [decide_eq_true_eq]; omega))]
  rw [if_neg (by first | omega | (simp only [decide_eq_true_eq]; omega))]
  rw [if_neg (by first | omega | (simp only [decide_eq_true_eq]; omega))]
  rw [if_neg (by first | omega | (simp only [decide_eq_true_eq]; omega))]
  rw [if_neg (by first | omega | (simp only [decide_eq_true_eq]; omega))]
  rw [if_neg (by first | omega | (simp only [decide_eq_true_eq]; omega))]
  rw [if_neg (by first | omega | (simp only [decide_eq_true_eq]; omega))]
  rw [if_neg (by first | omega | (simp only [decide_eq_true_eq]; omega))]
  rw [if_neg (by first | omega | (simp only [decide_eq_true_eq]; omega))]
  rw [if_neg (by first | omega | (simp only [decide_eq_true_eq]; omega))]
  rw [if_neg (by first | omega | (simp only [decide_eq_true_eq]; omega))]
  rw [if_neg (by first | omega | (simp only [decide_eq_true_eq]; omega))]
  rw [if_neg (by first | omega | (simp only [decide_eq_true_eq]; omega))]
  rw [if_neg (by first | omega | (simp only [decide_eq_true_eq]; omega))]
  rw [if_neg (by first | omega | (simp only [decide_eq_true_eq]; omega))]
  rw [if_pos h]
  rfl
theorem ex_jsr (h : w / 512 = 4) : exec m w = if w / 8 % 8 = 0 then .none_ else Sz15.came ((Sz15.place m w false).bind fun d => match d.2 with
        | .mem a => if a % 2 = 1 then none else (d.1.push (d.1.reg (w / 64 % 8))).map fun p => (p.setReg (w / 64 % 8) p.pc).setReg 7 a
        | .reg _ => none) := by
  unfold exec
  dsimp only
  rw [if_neg (by first | omega | (simp only [decide_eq_true_eq]; omega))]
  rw [if_neg (by first | omega | (simp only [decide_eq_true_eq]; omega))]
  rw [if_neg (by first | omega | (simp only [decide_eq_true_eq]; omega))]
  rw [if_neg (by first | omega | (simp only [decide_eq_true_eq]; omega))]
  rw [if_neg (by first | omega | (simp only [decide_eq_true_eq]; omega))]
  rw [if_neg (by first | omega | (simp only [decide_eq_true_eq]; omega))]
  rw [if_neg (by first | omega | (simp only [decide_eq_true_eq]; omega))]
  rw [if_neg (by first | omega | (simp only [decide_eq_true_eq]; omega))]
  rw [if_neg (by first | omega | (simp only [decide_eq_true_eq]; omega))]
  rw [if_neg (by first | omega | (simp only [decide_eq_true_eq]; omega))]
  rw [if_neg (by first | omega | (simp only [decide_eq_true_eq]; omega))]
  rw [if_neg (by first | omega | (simp only [decide_eq_true_eq]; omega))]
  rw [if_neg (by first | omega | (simp only [decide_eq_true_eq]; omega))]
  rw [if_neg (by first | omega | (simp only [decide_eq_true_eq]; omega))]
  rw [if_neg (by first | omega | (simp only [decide_eq_true_eq]; omega))]
  rw [if_neg (by first | omega | (simp only [decide_eq_true_eq]; omega))]
  rw [if_neg (by first | omega | (simp only [decide_eq_true_eq]; omega))]
  rw [if_pos h]
theorem ex_mark (h : w / 64 = 52) : exec m w = Sz15.came (((m.setReg 6 (m.pc + 2 * (w % 64))).setReg 7 (m.reg 5)).pull.map fun b => b.1.setReg 5 b.2) := by
  unfold exec
  dsimp only
  rw [if_neg (by first | omega | (simp only [decide_eq_true_eq]; omega))]
  rw [if_neg (by first | omega | (simp only [decide_eq_true_eq]; omega))]
  rw [if_neg (by first | omega | (simp only [decide_eq_true_eq]; omega))]
  rw [if_neg (by first | omega | (simp only [decide_eq_true_eq]; omega))]
  rw [if_neg (by first | omega | (simp only [decide_eq_true_eq]; omega))]
  rw [if_neg (by first | omega | (simp only [decide_eq_true_eq]; omega))]
  rw [if_neg (by first | omega | (simp only [decide_eq_true_eq]; omega))]
  rw [if_neg (by first | omega | (simp only [decide_eq_true_eq]; omega))]
  rw [if_neg (by first | omega | (simp only [decide_eq_true_eq]; omega))]
  rw [if_neg (by first | omega | (simp only [decide_eq_true_eq]; omega))]
  rw [if_neg (by first | omega | (simp only [decide_eq_true_eq]; omega))]
  rw [if_neg (by first | omega | (simp only [decide_eq_true_eq]; omega))]
  rw [if_neg (by first | omega | (simp only [decide_eq_true_eq]; omega))]
  rw [if_neg (by first | omega | (simp only [decide_eq_true_eq]; omega))]
  rw [if_neg (by first | omega | (simp only [decide_eq_true_eq]; omega))]
  rw [if_neg (by first | omega | (simp only [decide_eq_true_eq]; omega))]
  rw [if_neg (by first | omega | (simp only [decide_eq_true_eq]; omega))]
  rw [if_neg (by first | omega | (simp only [decide_eq_true_eq]; omega))]
  rw [if_pos h]
theorem ex_sxt (h : w / 64 = 55) : exec m w = Sz15.came ((Sz15.place m w false).bind fun d => Sz15.store { d.1 with z := !m.n, v := false } d.2 false (if m.n = true then 65535 else 0)) := by
  unfold exec
  dsimp only
  rw [if_neg (by first | omega | (simp only [decide_eq_true_eq]; omega))]
  rw [if_neg (by first | omega | (simp only [decide_eq_true_eq]; omega))]
  rw [if_neg (by first | omega | (simp only [decide_eq_true_eq]; omega))]
  rw [if_neg (by first | omega | (simp only [decide_eq_true_eq]; omega))]
  rw [if_neg (by first | omega | (simp only [decide_eq_true_eq]; omega))]
  rw [if_neg (by first | omega | (simp only [decide_eq_true_eq]; omega))]
  rw [if_neg (by first | omega | (simp only [decide_eq_true_eq]; omega))]
  rw [if_neg (by first | omega | (simp only [decide_eq_true_eq]; omega))]
  rw [if_neg (by first | omega | (simp only [decide_eq_true_eq]; omega))]
  rw [if_neg (by first | omega | (simp only [decide_eq_true_eq]; omega))]
  rw [if_neg (by first | omega | (simp only [decide_eq_true_eq]; omega))]
  rw [if_neg (by first | omega | (simp only [decide_eq_true_eq]; omega))]
  rw [if_neg (by first | omega | (simp only [decide_eq_true_eq]; omega))]
  rw [if_neg (by first | omega | (simp only [decide_eq_true_eq]; omega))]
  rw [if_neg (by first | omega | (simp only [decide_eq_true_eq]; omega))]
  rw [if_neg (by first | omega | (simp only [decide_eq_true_eq]; omega))]
  rw [if_neg (by first | omega | (simp only [decide_eq_true_eq]; omega))]
  rw [if_neg (by first | omega | (simp only [decide_eq_true_eq]; omega))]
  rw [if_neg (by first | omega | (simp only [decide_eq_true_eq]; omega))]
  rw [if_pos h]
end
end My
namespace My
open Sz15 (St Place Came)
theorem and_pow (x k : Nat) : x &&& 2 ^ k = (x.testBit k).toNat * 2 ^ k := by
  refine Nat.eq_of_testBit_eq fun i => ?_
  rw [Nat.testBit_and, Nat.testBit_two_pow]
  by_cases e : k = i
  · subst e
    cases h : x.testBit k
    · simp
    · simp
  · rw [decide_eq_false e, Bool.and_false]
    cases x.testBit k
    · simp
    · simp [Nat.testBit_two_pow, e]
theorem nz_cast (n : Nat) : (((n : Nat) : Int) != 0) = !decide (n = 0) := by
  cases n with
  | zero => rfl
  | succ n => simp; omega
theorem nz_pow (x k : Nat) : (((x &&& 2 ^ k : Nat) : Int) != 0) = x.testBit k := by
  rw [nz_cast, and_pow]
  cases x.testBit k
  · simp
  · simp
theorem nz_top (byte : Bool) (x : Nat) : (((x &&& topv byte : Nat) : Int) != 0) = Sz15.top byte x := by
  rw [nz_cast, and_top0, Bool.not_not]
theorem bit_high {x k : Nat} (h : x < 2 ^ k * 2) : x.testBit k = decide (2 ^ k ≤ x) := by
  rw [Nat.testBit_eq_decide_div_mod_eq]
  have hk : 0 < 2 ^ k := Nat.two_pow_pos k
  have h2 : x / 2 ^ k < 2 := (Nat.div_lt_iff_lt_mul hk).mpr (by omega)
  apply decide_eq_decide.mpr
  constructor
  · intro e
    have h1 : 1 ≤ x / 2 ^ k := by
      generalize x / 2 ^ k = z at e
      omega
    have := (Nat.le_div_iff_mul_le hk).mp h1
    omega
  · intro e
    have h1 : 1 ≤ x / 2 ^ k := (Nat.le_div_iff_mul_le hk).mpr (by omega)
    generalize x / 2 ^ k = z at h1 h2
    omega
theorem signed_eq {b x : Nat} (h : x < 2 ^ b * 2) : Sz15.signed (2 ^ b * 2) x = if x.testBit b = true then (x : Int) - ((2 ^ b : Nat) : Int) * 2 else (x : Int) := by
  unfold Sz15.signed
  rw [Nat.mod_eq_of_lt h, bit_high h]
  have e : 2 ^ b * 2 / 2 = 2 ^ b := by omega
  rw [e]
  simp only [decide_eq_true_eq]
  split
  · rename_i h1; rw [if_neg (by omega)]
  · rename_i h1; rw [if_pos (by omega)]; omega
theorem signed_mod (q x : Nat) : Sz15.signed q (x % q) = Sz15.signed q x := by
  unfold Sz15.signed
  rw [Nat.mod_mod]
theorem signed_w {x : Nat} (h : x < 65536) : Sz15.signed 65536 x = if 32768 ≤ x then (x : Int) - 65536 else (x : Int) := by
  unfold Sz15.signed
  rw [Nat.mod_eq_of_lt h]
  split
  · rename_i h1; rw [if_neg (by omega)]
  · rename_i h1; rw [if_pos (by omega)]; omega
theorem signed_p {x : Nat} (h : x < 4294967296) : Sz15.signed 4294967296 x = if 2147483648 ≤ x then (x : Int) - 4294967296 else (x : Int) := by
  unfold Sz15.signed
  rw [Nat.mod_eq_of_lt h]
  split
  · rename_i h1; rw [if_neg (by omega)]
  · rename_i h1; rw [if_pos (by omega)]; omega
theorem signed_wr (x : Nat) : -32768 ≤ Sz15.signed 65536 x ∧ Sz15.signed 65536 x < 32768 := by
  unfold Sz15.signed
  split <;> omega
theorem signed_pr (x : Nat) : -2147483648 ≤ Sz15.signed 4294967296 x ∧ Sz15.signed 4294967296 x < 2147483648 := by
  unfold Sz15.signed
  split <;> omega
def byI (count : Nat) : Int := if count < 32 then (count : Int) else (count : Int) - 64
section
variable {b x c : Nat}
theorem shl_eq (hc : c < 32) : Sz15.shifted (b + 1) x c = (x * 2 ^ c % 2 ^ (b + 1), decide (c ≠ 0 ∧ Sz15.signed (2 ^ (b + 1)) (x * 2 ^ c % 2 ^ (b + 1)) ≠ Sz15.signed (2 ^ (b + 1)) x * (2 : Int) ^ c), decide (c ≠ 0 ∧ (x * 2 ^ c / 2 ^ (b + 1)) % 2 = 1)) := by
  unfold Sz15.shifted
  dsimp only
  rw [if_pos hc]
theorem shr_eq (hc : ¬ c < 32) : Sz15.shifted b x c = (((Sz15.signed (2 ^ b) x / (2 : Int) ^ (64 - c)).emod (2 ^ b : Nat)).toNat, false, decide ((Sz15.signed (2 ^ b) x / (2 : Int) ^ (64 - c - 1)).emod 2 = 1)) := by
  unfold Sz15.shifted
  dsimp only
  rw [if_neg hc]
theorem shl_v (hx : x < 2 ^ (b + 1)) : decide (c ≠ 0 ∧ Sz15.signed (2 ^ (b + 1)) (x * 2 ^ c % 2 ^ (b + 1)) ≠ Sz15.signed (2 ^ (b + 1)) x * (2 : Int) ^ c) = !decide (Sz15.signed (2 ^ (b + 1)) (x * 2 ^ c % 2 ^ (b + 1)) = Sz15.signed (2 ^ (b + 1)) x * (2 : Int) ^ c) := by
  by_cases h : c = 0
  · subst h
    rw [Nat.pow_zero, Nat.mul_one, Nat.mod_eq_of_lt hx, Int.pow_zero, Int.mul_one]
    simp
  · simp [h]
theorem shl_c (hx : x < 2 ^ (b + 1)) : decide (c ≠ 0 ∧ (x * 2 ^ c / 2 ^ (b + 1)) % 2 = 1) = (x * 2 ^ c).testBit (b + 1) := by
  rw [Nat.testBit_eq_decide_div_mod_eq]
  by_cases h : c = 0
  · subst h
    rw [Nat.pow_zero, Nat.mul_one, Nat.div_eq_of_lt hx]
    simp
  · apply decide_eq_decide.mpr
    exact ⟨fun z => z.2, fun z => ⟨h, z⟩⟩
end
theorem shifted_lt (b x c : Nat) : (Sz15.shifted b x c).1 < 2 ^ b := by
  unfold Sz15.shifted
  dsimp only
  have hq : 0 < 2 ^ b := Nat.two_pow_pos b
  split
  · exact Nat.mod_lt _ hq
  · show (Int.emod _ ((2 ^ b : Nat) : Int)).toNat < _
    have h1 : 0 ≤ Int.emod (Sz15.signed (2 ^ b) x / (2 : Int) ^ (64 - c)) ((2 ^ b : Nat) : Int) := Int.emod_nonneg _ (by omega)
    have h2 : Int.emod (Sz15.signed (2 ^ b) x / (2 : Int) ^ (64 - c)) ((2 ^ b : Nat) : Int) < ((2 ^ b : Nat) : Int) := Int.emod_lt_of_pos _ (by omega)
    omega
def absI (i : Int) : Int := if i < 0 then -i else i
theorem absI_eq (i : Int) : absI i = (i.natAbs : Int) := by unfold absI; split <;> omega
def divQ (a b : Int) : Int := if (decide (a < 0) != decide (b < 0)) = true then -(absI a / absI b) else absI a / absI b
theorem divQ_eq (a b : Int) : divQ a b = a.tdiv b := by
  unfold divQ absI
  rcases Int.lt_or_le a 0 with ha | ha <;> rcases Int.lt_or_le b 0 with hb | hb
  · rw [if_neg (by simp [ha, hb]), if_pos ha, if_pos hb]
    have := Int.tdiv_eq_ediv_of_nonneg (a := -a) (b := -b) (by omega)
    rw [← this, Int.neg_tdiv_neg]
  · rw [if_pos (by simp [ha]; omega), if_pos ha, if_neg (by omega)]
    have := Int.tdiv_eq_ediv_of_nonneg (a := -a) (b := b) (by omega)
    rw [← this, Int.neg_tdiv, Int.neg_neg]
  · rw [if_pos (by simp [hb]; omega), if_neg (by omega), if_pos hb]
    have := Int.tdiv_eq_ediv_of_nonneg (a := a) (b := -b) ha
    rw [← this, Int.tdiv_neg, Int.neg_neg]
  · rw [if_neg (by simp; omega), if_neg (by omega), if_neg (by omega)]
    exact (Int.tdiv_eq_ediv_of_nonneg ha).symm
theorem divR_eq (a b : Int) : a - divQ a b * b = a.tmod b := by
  rw [divQ_eq, Int.tmod_def, Int.mul_comm]
theorem place_ok {m m' : St} {bits : Nat} {byte : Bool} {p : Place} (h : WF m) (e : Sz15.place m bits byte = some (m', p)) : POk p := by
  have hw : ∀ (n : St) (a x : Nat), n.mem = m.mem → n.word a = some x → x < 65536 := fun n a x e1 e2 => by
    unfold St.word at e2
    split at e2
    · cases e2
    · have e3 := Option.some.inj e2
      unfold St.byte at e3
      rw [e1] at e3
      have : m.mem (Sz15.w16 a) < 256 := h.mlt _ (Nat.mod_lt a (by decide))
      have : m.mem (Sz15.w16 (a + 1)) < 256 := h.mlt _ (Nat.mod_lt (a + 1) (by decide))
      omega
  have hf : ∀ f, m.fetch = some f → f.1.mem = m.mem := fun f e1 => by
    unfold St.fetch at e1
    obtain ⟨x, _, rfl⟩ := Option.map_eq_some_iff.mp e1
    rfl
  unfold Sz15.place at e
  dsimp only at e
  split at e
  · have := Option.some.inj e; injection this with _ e2; subst e2; exact Nat.mod_lt _ (by decide)
  · have := Option.some.inj e; injection this with _ e2; subst e2; exact h.reg _
  · have := Option.some.inj e; injection this with _ e2; subst e2; exact h.reg _
  · obtain ⟨x, e1, e2⟩ := Option.map_eq_some_iff.mp e
    injection e2 with _ e2; subst e2; exact hw m _ x rfl e1
  · have := Option.some.inj e; injection this with _ e2; subst e2; exact Nat.mod_lt _ (by decide)
  · obtain ⟨x, e1, e2⟩ := Option.map_eq_some_iff.mp e
    injection e2 with _ e2; subst e2; exact hw m _ x rfl e1
  · obtain ⟨x, e1, e2⟩ := Option.map_eq_some_iff.mp e
    injection e2 with _ e2; subst e2; exact Nat.mod_lt _ (by decide)
  · obtain ⟨f, e0, e1⟩ := Option.bind_eq_some_iff.mp e
    obtain ⟨x, e3, e2⟩ := Option.map_eq_some_iff.mp e1
    injection e2 with _ e2; subst e2; exact hw f.1 _ x (hf f e0) e3
end My
namespace My
theorem or_add : ∀ (n a b : Nat), a ≤ n → (a ||| b) + (a &&& b) = a + b := by
  intro n
  induction n with
  | zero =>
    intro a b h
    obtain rfl : a = 0 := by omega
    simp
  | succ n ih =>
    intro a b h
    by_cases h0 : a = 0
    · subst h0; simp
    · have e1 := ih (a / 2) (b / 2) (by omega)
      rw [← Nat.or_div_two, ← Nat.and_div_two] at e1
      have p1 := @Nat.or_mod_two_eq_one a b
      have p2 := @Nat.and_mod_two_eq_one a b
      omega
theorem xor_add : ∀ (n a b : Nat), a ≤ n → (a ^^^ b) + 2 * (a &&& b) = a + b := by
  intro n
  induction n with
  | zero =>
    intro a b h
    obtain rfl : a = 0 := by omega
    simp
  | succ n ih =>
    intro a b h
    by_cases h0 : a = 0
    · subst h0; simp
    · have e1 := ih (a / 2) (b / 2) (by omega)
      rw [← Nat.xor_div_two, ← Nat.and_div_two] at e1
      have p1 := @Nat.xor_mod_two_eq_one a b
      have p2 := @Nat.and_mod_two_eq_one a b
      omega
theorem and_comp {n d s : Nat} (hd : d < 2 ^ n) (hs : s < 2 ^ n) : (d &&& (2 ^ n - 1 - s)) + (d &&& s) = d := by
  have e1 : (2 ^ n - 1) &&& s = s := by rw [Nat.and_comm, Nat.and_two_pow_sub_one_eq_mod, Nat.mod_eq_of_lt hs]
  have e2 : (2 ^ n - 1) ^^^ s = 2 ^ n - 1 - s := by
    have := xor_add _ (2 ^ n - 1) s (Nat.le_refl _)
    rw [e1] at this
    omega
  have e3 : d &&& (2 ^ n - 1) = d := by rw [Nat.and_two_pow_sub_one_eq_mod, Nat.mod_eq_of_lt hd]
  rw [← e2, Nat.and_xor_distrib_left, e3]
  have e4 : d &&& (d &&& s) = d &&& s := by rw [← Nat.and_assoc, Nat.and_self]
  have := xor_add _ d (d &&& s) (Nat.le_refl _)
  rw [e4] at this
  omega
theorem push_even {m a : Sz15.St} {x : Nat} (e : m.push x = some a) (hr : m.r.length = 8) : a.reg 6 % 2 = 0 := by
  unfold Sz15.St.push at e
  dsimp only at e
  unfold Sz15.St.putWord at e
  split at e
  · cases e
  · rename_i h
    have e' := Option.some.inj e
    subst e'
    show ((m.r.set 6 (Sz15.w16 (Sz15.w16 (m.reg 6 + 65534)))).getD 6 0) % 2 = 0
    rw [List.getD_eq_getElem?_getD, List.getElem?_set_self (by omega)]
    show Sz15.w16 (Sz15.w16 (m.reg 6 + 65534)) % 2 = 0
    have : ¬ Sz15.w16 (Sz15.w16 (m.reg 6 + 65534)) % 2 = 1 := h
    omega
theorem push_some {m : Sz15.St} (x : Nat) (h : m.reg 6 % 2 = 0) : ∃ a, m.push x = some a := by
  unfold Sz15.St.push
  dsimp only
  unfold Sz15.St.putWord
  refine ⟨_, if_neg ?_⟩
  unfold Sz15.w16
  omega
theorem word_some {m : Sz15.St} {a : Nat} (h : a % 2 = 0) (hl : a < 65536) : ∃ x, m.word a = some x := by
  unfold Sz15.St.word
  refine ⟨_, if_neg ?_⟩
  unfold Sz15.w16
  omega
end My
namespace My
open Sz15 (St)
theorem trap_none {st : St} {v : Nat} (e : st.push st.psw = none) : Sz15.trap st v = none := by
  unfold Sz15.trap
  rw [e, Option.bind_none]
theorem trap_some {st a b : St} {v pc ps : Nat} (ea : st.push st.psw = some a) (eb : a.push (st.reg 7) = some b) (ep : b.word v = some pc) (es : b.word (v + 2) = some ps) : Sz15.trap st v = some ((b.setReg 7 pc).setPsw ps) := by
  unfold Sz15.trap
  rw [ea, Option.bind_some]
  rw [show st.pc = st.reg 7 from rfl, eb, Option.bind_some, ep, Option.bind_some, es, Option.map_some]
end My
namespace My
open Sz15 (St)
theorem psw_bits {st : St} (hp : st.priority < 8) : st.psw < 256 ∧ st.psw / 32 = st.priority ∧ st.psw.testBit 3 = st.n ∧ st.psw.testBit 2 = st.z ∧ st.psw.testBit 1 = st.v ∧ st.psw.testBit 0 = st.c := by
  have e : st.psw = st.priority * 32 + st.n.toNat * 8 + st.z.toNat * 4 + st.v.toNat * 2 + st.c.toNat := rfl
  have hb : ∀ b : Bool, b.toNat < 2 := fun b => by cases b <;> decide
  have h1 := hb st.n
  have h2 := hb st.z
  have h3 := hb st.v
  have h4 := hb st.c
  have g : ∀ (b : Bool) (k : Nat), k = b.toNat → decide (k = 1) = b := fun b k e => by subst e; cases b <;> rfl
  rw [Nat.testBit_eq_decide_div_mod_eq, Nat.testBit_eq_decide_div_mod_eq, Nat.testBit_eq_decide_div_mod_eq, Nat.testBit_eq_decide_div_mod_eq, e]
  refine ⟨by omega, by omega, g _ _ ?_, g _ _ ?_, g _ _ ?_, g _ _ ?_⟩ <;> omega
theorem flags_set {st : St} (hp : st.priority < 8) {b : Nat} (hb : b < 16) : st.setPsw (st.psw ||| b) = { st with n := if b.testBit 3 = true then true else st.n, z := if b.testBit 2 = true then true else st.z, v := if b.testBit 1 = true then true else st.v, c := if b.testBit 0 = true then true else st.c } := by
  obtain ⟨hl, h0, h3, h2, h1, hc⟩ := psw_bits hp
  have e0 : (st.psw ||| b) / 32 % 8 = st.priority := by
    have : (st.psw ||| b) / 2 ^ 5 = st.psw / 2 ^ 5 ||| b / 2 ^ 5 := Nat.or_div_two_pow
    rw [show (32 : Nat) = 2 ^ 5 from rfl, this, show b / 2 ^ 5 = 0 by omega, Nat.or_zero, show st.psw / 2 ^ 5 = st.priority from h0]
    omega
  unfold Sz15.St.setPsw
  rw [e0, Nat.testBit_or, Nat.testBit_or, Nat.testBit_or, Nat.testBit_or, h3, h2, h1, hc]
  congr 1
  · cases b.testBit 3 <;> cases st.n <;> rfl
  · cases b.testBit 2 <;> cases st.z <;> rfl
  · cases b.testBit 1 <;> cases st.v <;> rfl
  · cases b.testBit 0 <;> cases st.c <;> rfl
theorem flags_clr {st : St} (hp : st.priority < 8) {b : Nat} (hb : b < 16) : st.setPsw (st.psw &&& (2 ^ 8 - (b + 1))) = { st with n := if b.testBit 3 = true then false else st.n, z := if b.testBit 2 = true then false else st.z, v := if b.testBit 1 = true then false else st.v, c := if b.testBit 0 = true then false else st.c } := by
  obtain ⟨hl, h0, h3, h2, h1, hc⟩ := psw_bits hp
  have hb8 : b < 2 ^ 8 := Nat.lt_trans hb (by decide)
  have e0 : (st.psw &&& (2 ^ 8 - (b + 1))) / 32 % 8 = st.priority := by
    have : (st.psw &&& (2 ^ 8 - (b + 1))) / 2 ^ 5 = st.psw / 2 ^ 5 &&& (2 ^ 8 - (b + 1)) / 2 ^ 5 := Nat.and_div_two_pow
    rw [show (32 : Nat) = 2 ^ 5 from rfl, this, show (2 ^ 8 - (b + 1)) / 2 ^ 5 = 2 ^ 3 - 1 by omega, Nat.and_two_pow_sub_one_eq_mod, show st.psw / 2 ^ 5 = st.priority from h0]
    omega
  unfold Sz15.St.setPsw
  rw [e0, Nat.testBit_and, Nat.testBit_and, Nat.testBit_and, Nat.testBit_and, h3, h2, h1, hc, Nat.testBit_two_pow_sub_succ hb8, Nat.testBit_two_pow_sub_succ hb8, Nat.testBit_two_pow_sub_succ hb8, Nat.testBit_two_pow_sub_succ hb8]
  congr 1
  · cases b.testBit 3 <;> cases st.n <;> rfl
  · cases b.testBit 2 <;> cases st.z <;> rfl
  · cases b.testBit 1 <;> cases st.v <;> rfl
  · cases b.testBit 0 <;> cases st.c <;> rfl
theorem low_bit (u : Nat) {i : Nat} (h : i < 4) : (u % 16).testBit i = u.testBit i := by
  rw [show (16 : Nat) = 2 ^ 4 from rfl, Nat.testBit_mod_two_pow, decide_eq_true h, Bool.true_and]
theorem setReg_comm (st : St) {j k : Nat} (h : j ≠ k) (x y : Nat) : (st.setReg j x).setReg k y = (st.setReg k y).setReg j x := by
  unfold Sz15.St.setReg
  dsimp only
  rw [List.set_comm _ _ h]
theorem pull_pc (st : St) (x : Nat) : (st.setReg 7 x).pull = st.pull.map fun b => (b.1.setReg 7 x, b.2) := by
  have e : (st.setReg 7 x).reg 6 = st.reg 6 := by
    show (st.r.set 7 _).getD 6 0 = st.r.getD 6 0
    rw [List.getD_eq_getElem?_getD, List.getD_eq_getElem?_getD, List.getElem?_set_ne (by decide)]
  unfold Sz15.St.pull
  rw [e, setReg_comm _ (show 7 ≠ 6 by decide), show (st.setReg 7 x).word (st.reg 6) = st.word (st.reg 6) from rfl, Option.map_map]
  rfl
end My
namespace My
open Sz15 (St Came)
theorem came_ne {o : Option St} {n : St} {y : Nat} : Sz15.came o ≠ .halt_ n y := by
  intro h
  cases o <;> cases h
def NH (c : Came) : Prop := ∀ n y, c = .halt_ n y → y ≠ 0
theorem nh_ite {c : Prop} [Decidable c] {a b : Came} (h1 : NH a) (h2 : NH b) : NH (if c then a else b) := by
  split
  · exact h1
  · exact h2
theorem nh_none : NH .none_ := fun _ _ h => by cases h
theorem nh_on (m : St) : NH (.on m) := fun _ _ h => by cases h
theorem nh_came (o : Option St) : NH (Sz15.came o) := fun _ _ h => absurd h came_ne
theorem nh_halt (m : St) {y : Nat} (hy : y ≠ 0) : NH (.halt_ m y) := fun _ _ h => by cases h; exact hy
theorem exec_halt {m n : St} {w y : Nat} (h : exec m w = .halt_ n y) : y ≠ 0 := by
  have : NH (exec m w) := by
    unfold exec
    dsimp only
    refine nh_ite (nh_came _) (nh_ite (nh_came _) (nh_ite (nh_ite nh_none ?_) ?_))
    · split
      · exact nh_came _
      · exact nh_on _
      · exact nh_none
      · exact nh_none
      · exact nh_ite nh_none (nh_came _)
    · repeat' first
        | with_reducible exact nh_none
        | with_reducible exact nh_on _
        | with_reducible exact nh_came _
        | with_reducible exact nh_halt _ (by decide)
        | with_reducible refine nh_ite ?_ ?_
  exact this n y h
theorem step_halt {m n : St} {y : Nat} (h : Sz15.step m = .halt_ n y) : y ≠ 0 := by
  rw [step_exec] at h
  split at h
  · cases h
  · exact exec_halt h
def one1 (st : St) : St × Nat × Nat := match Sz15.step st with
  | .on n => (n, 0, 1)
  | .halt_ n y => (n, y, 1)
  | .none_ => (st, 3, 0)
  | .odd => (st, 4, 0)
theorem steps_on {k : Nat} {st : St} (h : (one1 st).2.1 = 0) : Sz15.steps (k + 1) st = ((Sz15.steps k (one1 st).1).1, (Sz15.steps k (one1 st).1).2 + (one1 st).2.2) := by
  unfold one1 at h ⊢
  cases e : Sz15.step st with
  | on n => rw [Sz15.steps, e]
  | halt_ n y =>
    rw [e] at h
    exact absurd h (step_halt e)
  | none_ => rw [e] at h; cases h
  | odd => rw [e] at h; cases h
theorem steps_stop {k : Nat} {st : St} (h : (one1 st).2.1 ≠ 0) : Sz15.steps (k + 1) st = ({ (one1 st).1 with why := (one1 st).2.1 }, (one1 st).2.2) := by
  unfold one1 at h ⊢
  cases e : Sz15.step st with
  | on n => rw [e] at h; exact absurd rfl h
  | halt_ n y => rw [Sz15.steps, e]
  | none_ => rw [Sz15.steps, e]
  | odd => rw [Sz15.steps, e]
theorem one1_le (st : St) : (one1 st).2.2 ≤ 1 := by
  unfold one1
  split <;> (show _ ≤ 1; first | exact Nat.le_refl 1 | exact Nat.zero_le 1)
theorem one1_on {st : St} (h : (one1 st).2.1 = 0) : (one1 st).2.2 = 1 := by
  unfold one1 at h ⊢
  split at h
  · rfl
  · rfl
  · cases h
  · cases h
theorem push_why {m a : St} {x : Nat} (e : m.push x = some a) : a.why = m.why := by
  unfold Sz15.St.push at e
  dsimp only at e
  unfold Sz15.St.putWord at e
  split at e
  · cases e
  · have e' := Option.some.inj e
    subst e'
    rfl
theorem trap_why {m a : St} {v : Nat} (e : Sz15.trap m v = some a) : a.why = m.why := by
  unfold Sz15.trap at e
  obtain ⟨b, e1, e2⟩ := Option.bind_eq_some_iff.mp e
  obtain ⟨c, e3, e4⟩ := Option.bind_eq_some_iff.mp e2
  obtain ⟨pc, e5, e6⟩ := Option.bind_eq_some_iff.mp e4
  obtain ⟨ps, e7, e8⟩ := Option.map_eq_some_iff.mp e6
  subst e8
  show c.why = m.why
  rw [push_why e3, push_why e1]
end My
namespace My
inductive Says (ns : List Int) (j : Nat) : List (List Int) → Nat → Prop where
  | clear : ns[j]? = some 1 → Says ns j [[1]] (j + 1)
  | load (a : Int) (n : Nat) : ns[j]? = some 2 → ns[j + 1]? = some a → ns[j + 2]? = some (n : Int) → j + 3 + n ≤ ns.length → (∀ b ∈ (ns.drop (j + 3)).take n, 0 ≤ b ∧ b < 256) → Says ns j [[2, a], (ns.drop (j + 3)).take n] (j + 3 + n)
  | look (a n : Int) : ns[j]? = some 3 → ns[j + 1]? = some a → ns[j + 2]? = some n → (n ≤ 2000 ∨ 65536 < n) → Says ns j [[3, a, n]] (j + 3)
  | set (k x : Int) : ns[j]? = some 4 → ns[j + 1]? = some k → ns[j + 2]? = some x → Says ns j [[4, k, x]] (j + 3)
  | get (k : Int) : ns[j]? = some 5 → ns[j + 1]? = some k → Says ns j [[5, k]] (j + 2)
  | run (n : Int) : ns[j]? = some 6 → ns[j + 1]? = some n → Says ns j [[6, n]] (j + 2)
  | why : ns[j]? = some 7 → Says ns j [[7]] (j + 1)
  | interrupt (v p : Int) : ns[j]? = some 8 → ns[j + 1]? = some v → ns[j + 2]? = some p → Says ns j [[8, v, p]] (j + 3)
theorem at_of_drop {ns : List Int} {j i : Nat} {l : List Int} (h : ns.drop j = l) : l[i]? = ns[j + i]? := by
  rw [← h, List.getElem?_drop]
theorem call0 {p : Int} {n : Nat} {l c t} (hs : PySz15.shape p = some (n, 0)) (h : PyFlat.call PySz15.shape (p :: l) = some (c, t)) : n ≤ l.length ∧ c = [p :: l.take n] ∧ t = l.drop n := by
  unfold PyFlat.call at h
  simp only [hs, PyFlat.rows] at h
  split at h
  · cases h
  · rename_i hl
    have e := Option.some.inj h
    injection e with e1 e2
    exact ⟨by omega, e1.symm, e2.symm⟩
theorem call1 {p : Int} {n : Nat} {l c t} (hs : PySz15.shape p = some (n, 1)) (h : PyFlat.call PySz15.shape (p :: l) = some (c, t)) :
    n ≤ l.length ∧ ∃ (k : Int) (r : List Int), l.drop n = k :: r ∧ 0 ≤ k ∧ k.toNat ≤ r.length ∧ c = [p :: l.take n, r.take k.toNat] ∧ t = r.drop k.toNat := by
  unfold PyFlat.call at h
  simp only [hs, PyFlat.rows, PyFlat.row] at h
  split at h
  · cases h
  · rename_i hl
    refine ⟨by omega, ?_⟩
    cases e : l.drop n with
    | nil => rw [e] at h; cases h
    | cons k r =>
      rw [e] at h
      by_cases hk : 0 ≤ k ∧ k.toNat ≤ r.length
      · simp only [if_pos hk] at h
        have e := Option.some.inj h
        injection e with e1 e2
        exact ⟨k, r, rfl, hk.1, hk.2, e1.symm, e2.symm⟩
      · simp only [if_neg hk] at h
        cases h
theorem take1 {l : List Int} (h : 1 ≤ l.length) : ∃ a, l[0]? = some a ∧ l.take 1 = [a] := by
  cases l with
  | nil => exact absurd h (by decide)
  | cons a r => exact ⟨a, rfl, rfl⟩
theorem take2 {l : List Int} (h : 2 ≤ l.length) : ∃ a b, l[0]? = some a ∧ l[1]? = some b ∧ l.take 2 = [a, b] := by
  cases l with
  | nil => exact absurd h (by decide)
  | cons a r =>
    cases r with
    | nil => exact absurd h (by simp)
    | cons b r => exact ⟨a, b, rfl, rfl, rfl⟩
theorem says {ns : List Int} {j : Nat} {c : List (List Int)} {t : List Int} (h : PyFlat.call PySz15.shape (ns.drop j) = some (c, t)) (ha : Sz15Neutral.asked1 (PySz15.whole c) = true) :
    ∃ k, Says ns j c k ∧ t = ns.drop k ∧ j < k ∧ k ≤ ns.length := by
  cases e : ns.drop j with
  | nil => rw [e] at h; cases h
  | cons p l =>
    have p0 : ns[j]? = some p := by rw [← Nat.add_zero j, ← at_of_drop e]; rfl
    have pl : ns.drop (j + 1) = l := by rw [← List.drop_drop, e]; rfl
    have px : ∀ i, l[i]? = ns[j + 1 + i]? := fun i => at_of_drop pl
    have pd : ∀ i, l.drop i = ns.drop (j + 1 + i) := fun i => by rw [← pl, List.drop_drop]
    have ll : l.length + j + 1 = ns.length := by
      have := congrArg List.length e
      rw [List.length_drop, List.length_cons] at this
      omega
    rw [e] at h
    have sh : PySz15.shape p ≠ none := fun z => by
      unfold PyFlat.call at h
      simp only [z] at h
      cases h
    have pp : p = 1 ∨ p = 2 ∨ p = 3 ∨ p = 4 ∨ p = 5 ∨ p = 6 ∨ p = 7 ∨ p = 8 := by
      by_cases q1 : p = 1; · exact .inl q1
      by_cases q2 : p = 2; · exact .inr (.inl q2)
      by_cases q3 : p = 3; · exact .inr (.inr (.inl q3))
      by_cases q4 : p = 4; · exact .inr (.inr (.inr (.inl q4)))
      by_cases q5 : p = 5; · exact .inr (.inr (.inr (.inr (.inl q5))))
      by_cases q6 : p = 6; · exact .inr (.inr (.inr (.inr (.inr (.inl q6)))))
      by_cases q7 : p = 7; · exact .inr (.inr (.inr (.inr (.inr (.inr (.inl q7))))))
      by_cases q8 : p = 8; · exact .inr (.inr (.inr (.inr (.inr (.inr (.inr q8))))))
      exact absurd (by unfold PySz15.shape; rw [if_neg q1, if_neg q2, if_neg q3, if_neg q4, if_neg q5, if_neg q6, if_neg q7, if_neg q8]) sh
    rcases pp with rfl | rfl | rfl | rfl | rfl | rfl | rfl | rfl
    · obtain ⟨hl, rfl, rfl⟩ := call0 (n := 0) rfl h
      exact ⟨j + 1, .clear p0, pl.symm, by omega, by omega⟩
    · obtain ⟨hl, k, r, e1, k0, k1, rfl, rfl⟩ := call1 (n := 1) rfl h
      obtain ⟨a, a0, a1⟩ := take1 hl
      have e2 : ns.drop (j + 2) = k :: r := by rw [← e1, pd]
      have kk : ns[j + 2]? = some k := by rw [← Nat.add_zero (j + 2), ← at_of_drop e2]; rfl
      have er : ns.drop (j + 3) = r := by
        have : ns.drop (j + 2 + 1) = r := by rw [← List.drop_drop, e2]; rfl
        exact this
      have lr : r.length + j + 3 = ns.length := by
        have q := congrArg List.length e2
        rw [List.length_drop, List.length_cons] at q
        omega
      have hn : ((k.toNat : Nat) : Int) = k := by omega
      have hb : ∀ b ∈ r.take k.toNat, 0 ≤ b ∧ b < 256 := by
        rw [a1] at ha
        simp only [PySz15.whole, Sz15Neutral.asked1, Bool.and_eq_true, List.all_eq_true, Sz15Neutral.natural, decide_eq_true_eq] at ha
        intro b hb
        have := ha.2.2.1 b hb
        exact ⟨this.1, by have := this.2; omega⟩
      refine ⟨j + 3 + k.toNat, ?_, ?_, by omega, by omega⟩
      · rw [a1, ← er]
        exact .load a k.toNat p0 (by rw [← a0, px]) (by rw [hn]; exact kk) (by omega) (by rw [er]; exact hb)
      · rw [← er, List.drop_drop]
    · obtain ⟨hl, rfl, rfl⟩ := call0 (n := 2) rfl h
      obtain ⟨a, b, a0, a1, a2⟩ := take2 hl
      rw [a2] at ha ⊢
      simp only [PySz15.whole, Sz15Neutral.asked1, Bool.and_eq_true, Bool.or_eq_true, decide_eq_true_eq] at ha
      exact ⟨j + 3, .look a b p0 (by rw [← a0, px]) (by rw [← a1, px]) ha.2.2, by rw [pd], by omega, by omega⟩
    · obtain ⟨hl, rfl, rfl⟩ := call0 (n := 2) rfl h
      obtain ⟨a, b, a0, a1, a2⟩ := take2 hl
      rw [a2] at ha ⊢
      exact ⟨j + 3, .set a b p0 (by rw [← a0, px]) (by rw [← a1, px]), by rw [pd], by omega, by omega⟩
    · obtain ⟨hl, rfl, rfl⟩ := call0 (n := 1) rfl h
      obtain ⟨a, a0, a1⟩ := take1 hl
      rw [a1]
      exact ⟨j + 2, .get a p0 (by rw [← a0, px]), by rw [pd], by omega, by omega⟩
    · obtain ⟨hl, rfl, rfl⟩ := call0 (n := 1) rfl h
      obtain ⟨a, a0, a1⟩ := take1 hl
      rw [a1]
      exact ⟨j + 2, .run a p0 (by rw [← a0, px]), by rw [pd], by omega, by omega⟩
    · obtain ⟨hl, rfl, rfl⟩ := call0 (n := 0) rfl h
      exact ⟨j + 1, .why p0, pl.symm, by omega, by omega⟩
    · obtain ⟨hl, rfl, rfl⟩ := call0 (n := 2) rfl h
      obtain ⟨a, b, a0, a1, a2⟩ := take2 hl
      rw [a2] at ha ⊢
      exact ⟨j + 3, .interrupt a b p0 (by rw [← a0, px]) (by rw [← a1, px]), by rw [pd], by omega, by omega⟩
theorem Says.num {ns : List Int} {j k : Nat} {c : List (List Int)} (h : Says ns j c k) : ∃ p, ns[j]? = some p ∧ 1 ≤ p ∧ p ≤ 8 := by
  cases h
  all_goals exact ⟨_, by assumption, by decide, by decide⟩
theorem Says.is1 {ns : List Int} {j k : Nat} {c : List (List Int)} (h : Says ns j c k) (e : ns[j]? = some 1) : c = [[1]] ∧ k = j + 1 := by
  cases h
  case clear => exact ⟨rfl, rfl⟩
  all_goals (rename ns[j]? = _ => h0; exact absurd (Option.some.inj (h0.symm.trans e)) (by decide))
theorem Says.is2 {ns : List Int} {j k : Nat} {c : List (List Int)} (h : Says ns j c k) (e : ns[j]? = some 2) : ∃ (a : Int) (n : Nat), c = [[2, a], (ns.drop (j + 3)).take n] ∧ k = j + 3 + n ∧ ns[j + 1]? = some a ∧ ns[j + 2]? = some (n : Int) ∧ j + 3 + n ≤ ns.length ∧ (∀ b ∈ (ns.drop (j + 3)).take n, 0 ≤ b ∧ b < 256) := by
  cases h
  case load a n h0 h1 h2 h3 h4 => exact ⟨a, n, rfl, rfl, h1, h2, h3, h4⟩
  all_goals (rename ns[j]? = _ => h0; exact absurd (Option.some.inj (h0.symm.trans e)) (by decide))
theorem Says.is3 {ns : List Int} {j k : Nat} {c : List (List Int)} (h : Says ns j c k) (e : ns[j]? = some 3) : ∃ (a n : Int), c = [[3, a, n]] ∧ k = j + 3 ∧ ns[j + 1]? = some a ∧ ns[j + 2]? = some n ∧ (n ≤ 2000 ∨ 65536 < n) := by
  cases h
  case look a n h0 h1 h2 h3 => exact ⟨a, n, rfl, rfl, h1, h2, h3⟩
  all_goals (rename ns[j]? = _ => h0; exact absurd (Option.some.inj (h0.symm.trans e)) (by decide))
theorem Says.is4 {ns : List Int} {j k : Nat} {c : List (List Int)} (h : Says ns j c k) (e : ns[j]? = some 4) : ∃ (a n : Int), c = [[4, a, n]] ∧ k = j + 3 ∧ ns[j + 1]? = some a ∧ ns[j + 2]? = some n := by
  cases h
  case set a n h0 h1 h2 => exact ⟨a, n, rfl, rfl, h1, h2⟩
  all_goals (rename ns[j]? = _ => h0; exact absurd (Option.some.inj (h0.symm.trans e)) (by decide))
theorem Says.is5 {ns : List Int} {j k : Nat} {c : List (List Int)} (h : Says ns j c k) (e : ns[j]? = some 5) : ∃ (a : Int), c = [[5, a]] ∧ k = j + 2 ∧ ns[j + 1]? = some a := by
  cases h
  case get a h0 h1 => exact ⟨a, rfl, rfl, h1⟩
  all_goals (rename ns[j]? = _ => h0; exact absurd (Option.some.inj (h0.symm.trans e)) (by decide))
theorem Says.is6 {ns : List Int} {j k : Nat} {c : List (List Int)} (h : Says ns j c k) (e : ns[j]? = some 6) : ∃ (a : Int), c = [[6, a]] ∧ k = j + 2 ∧ ns[j + 1]? = some a := by
  cases h
  case run a h0 h1 => exact ⟨a, rfl, rfl, h1⟩
  all_goals (rename ns[j]? = _ => h0; exact absurd (Option.some.inj (h0.symm.trans e)) (by decide))
theorem Says.is7 {ns : List Int} {j k : Nat} {c : List (List Int)} (h : Says ns j c k) (e : ns[j]? = some 7) : c = [[7]] ∧ k = j + 1 := by
  cases h
  case why => exact ⟨rfl, rfl⟩
  all_goals (rename ns[j]? = _ => h0; exact absurd (Option.some.inj (h0.symm.trans e)) (by decide))
theorem Says.is8 {ns : List Int} {j k : Nat} {c : List (List Int)} (h : Says ns j c k) (e : ns[j]? = some 8) : ∃ (a n : Int), c = [[8, a, n]] ∧ k = j + 3 ∧ ns[j + 1]? = some a ∧ ns[j + 2]? = some n := by
  cases h
  case interrupt a n h0 h1 h2 => exact ⟨a, n, rfl, rfl, h1, h2⟩
  all_goals (rename ns[j]? = _ => h0; exact absurd (Option.some.inj (h0.symm.trans e)) (by decide))
end My
namespace My
open PySem L2
def DefAt (K : PySem.W.Frag) (mg : Str → Option Value) (x : Str) (st : Stmt) (ps : List Str) : Prop := ∃ f fd, Fun K x x st f fd ∧ mg x = some (.ref f) ∧ Binds K fd ps []
def MthAt (K : PySem.W.Frag) (C : Addr) (m qual : Str) (st : Stmt) (ps : List Str) : Prop := ∃ f fd, Fun K m qual st f fd ∧ Meth K C m f ∧ Binds K fd ps []
def MakAt (K : PySem.W.Frag) (mg : Str → Option Value) (x : Str) (C : Addr) (qual : Str) (st : Stmt) (ps : List Str) : Prop := mg x = some (.ref C) ∧ ∃ f fd, Fun K "__init__" qual st f fd ∧ Mk K C f ∧ Binds K fd ps []
def tab_TWO_OPERANDS : List (Int × Str) := [(1, "mov"), (2, "cmp"), (3, "bit"), (4, "bic"), (5, "bis"), (6, "add"), (9, "mov"), (10, "cmp"), (11, "bit"), (12, "bic"), (13, "bis"), (14, "sub")]
def tab_ONE_OPERAND : List (Int × Str) := [(40, "clr"), (41, "com"), (42, "inc"), (43, "dec"), (44, "neg"), (45, "adc"), (46, "sbc"), (47, "tst"), (48, "ror"), (49, "rol"), (50, "asr"), (51, "asl")]
def tab_CONDITIONS : List (Int × Str) := [(0, "always"), (1, "is_zero"), (2, "is_less"), (3, "is_less_or_zero"), (64, "is_negative"), (65, "is_carry_or_zero"), (66, "is_overflow"), (67, "is_carry")]
def tab_BY_TWO_DIGITS : List (Int × Str) := [(1, "two_operands"), (2, "two_operands"), (3, "two_operands"), (4, "two_operands"), (5, "two_operands"), (6, "two_operands"), (9, "two_operands"), (10, "two_operands"), (11, "two_operands"), (12, "two_operands"), (13, "two_operands"), (14, "two_operands")]
def tab_BY_UPPER_BYTE : List (Int × Str) := [(1, "branch"), (2, "branch"), (3, "branch"), (4, "branch"), (5, "branch"), (6, "branch"), (7, "branch"), (128, "branch"), (129, "branch"), (130, "branch"), (131, "branch"), (132, "branch"), (133, "branch"), (134, "branch"), (135, "branch"), (136, "emulator_trap"), (137, "trap")]
def tab_BY_FOUR_DIGITS : List (Int × Str) := [(1, "jump"), (3, "swap_bytes"), (52, "mark"), (55, "extend_sign"), (40, "one_operand"), (41, "one_operand"), (42, "one_operand"), (43, "one_operand"), (44, "one_operand"), (45, "one_operand"), (46, "one_operand"), (47, "one_operand"), (48, "one_operand"), (49, "one_operand"), (50, "one_operand"), (51, "one_operand"), (552, "one_operand"), (553, "one_operand"), (554, "one_operand"), (555, "one_operand"), (556, "one_operand"), (557, "one_operand"), (558, "one_operand"), (559, "one_operand"), (560, "one_operand"), (561, "one_operand"), (562, "one_operand"), (563, "one_operand")]
def tab_BY_THREE_DIGITS : List (Int × Str) := [(4, "jump_to_subroutine"), (56, "multiply"), (57, "divide"), (58, "shift_word"), (59, "shift_pair"), (60, "exclusive_or"), (63, "count_down")]
def tab_BY_FIVE_DIGITS : List (Int × Str) := [(16, "return_from_subroutine"), (20, "change_flags"), (21, "change_flags"), (22, "change_flags"), (23, "change_flags")]
def tab_BY_WHOLE_WORD : List (Int × Str) := [(0, "halt"), (1, "wait"), (2, "return_from_interrupt"), (3, "break_point"), (4, "output_trap"), (5, "do_nothing"), (6, "return_from_interrupt")]
def tab_PLACES : List Str := ["place_at", "place_then_step", "step_then_place", "place_by_next_word"]
structure Tx (K : PySem.W.Frag) (mg : Str → Option Value) (C_Machine C_CallReader C_NoInstruction C_OddPlace C_UnknownCall : Addr) : Prop where
  cl_Machine : Cls K C_Machine
  n_Machine_registers : NoAttr K C_Machine "registers"
  n_Machine_memory : NoAttr K C_Machine "memory"
  n_Machine_priority : NoAttr K C_Machine "priority"
  n_Machine_negative : NoAttr K C_Machine "negative"
  n_Machine_zero : NoAttr K C_Machine "zero"
  n_Machine_overflow : NoAttr K C_Machine "overflow"
  n_Machine_carry : NoAttr K C_Machine "carry"
  n_Machine_why : NoAttr K C_Machine "why"
  k_Machine : MakAt K mg "Machine" C_Machine "Machine.__init__" s_q0 ["self"]
  cl_CallReader : Cls K C_CallReader
  n_CallReader_calls : NoAttr K C_CallReader "calls"
  n_CallReader_place : NoAttr K C_CallReader "place"
  k_CallReader : MakAt K mg "CallReader" C_CallReader "CallReader.__init__" s_q13 ["self", "calls"]
  x_NoInstruction : ExcC K mg "NoInstruction" C_NoInstruction
  x_OddPlace : ExcC K mg "OddPlace" C_OddPlace
  x_UnknownCall : ExcC K mg "UnknownCall" C_UnknownCall
  q_NoInstruction_NoInstruction : PySem.W.exmOne K (.ref C_NoInstruction) (.ref C_NoInstruction) = some true
  q_NoInstruction_OddPlace : PySem.W.exmOne K (.ref C_NoInstruction) (.ref C_OddPlace) = some false
  q_OddPlace_NoInstruction : PySem.W.exmOne K (.ref C_OddPlace) (.ref C_NoInstruction) = some false
  q_OddPlace_OddPlace : PySem.W.exmOne K (.ref C_OddPlace) (.ref C_OddPlace) = some true
  m_Machine_reset : MthAt K C_Machine "reset" "Machine.reset" s_q1 ["self"]
  m_Machine_set_status : MthAt K C_Machine "set_status" "Machine.set_status" s_q2 ["self", "word"]
  m_Machine_status_word : MthAt K C_Machine "status_word" "Machine.status_word" s_q3 ["self"]
  m_Machine_set_flags : MthAt K C_Machine "set_flags" "Machine.set_flags" s_q4 ["self", "result", "top", "overflow", "carry"]
  m_Machine_store_bytes : MthAt K C_Machine "store_bytes" "Machine.store_bytes" s_q5 ["self", "at", "data"]
  m_Machine_read_word : MthAt K C_Machine "read_word" "Machine.read_word" s_q6 ["self", "place"]
  m_Machine_write_word : MthAt K C_Machine "write_word" "Machine.write_word" s_q7 ["self", "place", "word"]
  m_Machine_take_next_word : MthAt K C_Machine "take_next_word" "Machine.take_next_word" s_q8 ["self"]
  m_Machine_push : MthAt K C_Machine "push" "Machine.push" s_q9 ["self", "word"]
  m_Machine_pull : MthAt K C_Machine "pull" "Machine.pull" s_q10 ["self"]
  m_Machine_interrupt : MthAt K C_Machine "interrupt" "Machine.interrupt" s_q11 ["self", "vector"]
  d_lies_in_memory : DefAt K mg "lies_in_memory" s_q12 ["at", "n"]
  m_CallReader_has_more : MthAt K C_CallReader "has_more" "CallReader.has_more" s_q14 ["self"]
  m_CallReader_take_number : MthAt K C_CallReader "take_number" "CallReader.take_number" s_q15 ["self"]
  m_CallReader_take_row : MthAt K C_CallReader "take_row" "CallReader.take_row" s_q16 ["self"]
  d_signed : DefAt K mg "signed" s_q17 ["value", "top"]
  d_sum_of : DefAt K mg "sum_of" s_q18 ["s", "d", "top"]
  d_difference_of : DefAt K mg "difference_of" s_q19 ["a", "b", "top"]
  d_mov : DefAt K mg "mov" s_q20 ["s", "d", "carry", "top"]
  d_cmp : DefAt K mg "cmp" s_q21 ["s", "d", "carry", "top"]
  d_bit : DefAt K mg "bit" s_q22 ["s", "d", "carry", "top"]
  d_bic : DefAt K mg "bic" s_q23 ["s", "d", "carry", "top"]
  d_bis : DefAt K mg "bis" s_q24 ["s", "d", "carry", "top"]
  d_add : DefAt K mg "add" s_q25 ["s", "d", "carry", "top"]
  d_sub : DefAt K mg "sub" s_q26 ["s", "d", "carry", "top"]
  d_clr : DefAt K mg "clr" s_q27 ["d", "carry", "top"]
  d_com : DefAt K mg "com" s_q28 ["d", "carry", "top"]
  d_inc : DefAt K mg "inc" s_q29 ["d", "carry", "top"]
  d_dec : DefAt K mg "dec" s_q30 ["d", "carry", "top"]
  d_neg : DefAt K mg "neg" s_q31 ["d", "carry", "top"]
  d_adc : DefAt K mg "adc" s_q32 ["d", "carry", "top"]
  d_sbc : DefAt K mg "sbc" s_q33 ["d", "carry", "top"]
  d_tst : DefAt K mg "tst" s_q34 ["d", "carry", "top"]
  d_turned : DefAt K mg "turned" s_q35 ["result", "out", "top"]
  d_ror : DefAt K mg "ror" s_q36 ["d", "carry", "top"]
  d_rol : DefAt K mg "rol" s_q37 ["d", "carry", "top"]
  d_asr : DefAt K mg "asr" s_q38 ["d", "carry", "top"]
  d_asl : DefAt K mg "asl" s_q39 ["d", "carry", "top"]
  d_moved : DefAt K mg "moved" s_q40 ["value", "by", "top"]
  d_divided : DefAt K mg "divided" s_q41 ["number", "by"]
  d_place_at : DefAt K mg "place_at" s_q42 ["machine", "r", "step"]
  d_place_then_step : DefAt K mg "place_then_step" s_q43 ["machine", "r", "step"]
  d_step_then_place : DefAt K mg "step_then_place" s_q44 ["machine", "r", "step"]
  d_place_by_next_word : DefAt K mg "place_by_next_word" s_q45 ["machine", "r", "step"]
  d_tell : DefAt K mg "tell" s_q46 ["machine", "bits", "top"]
  d_take : DefAt K mg "take" s_q47 ["machine", "operand", "top"]
  d_put : DefAt K mg "put" s_q48 ["machine", "operand", "top", "value"]
  d_two_operands : DefAt K mg "two_operands" s_q49 ["machine", "w"]
  d_one_operand : DefAt K mg "one_operand" s_q50 ["machine", "w"]
  d_swap_bytes : DefAt K mg "swap_bytes" s_q51 ["machine", "w"]
  d_extend_sign : DefAt K mg "extend_sign" s_q52 ["machine", "w"]
  d_exclusive_or : DefAt K mg "exclusive_or" s_q53 ["machine", "w"]
  d_take_source : DefAt K mg "take_source" s_q54 ["machine", "w"]
  d_even_number : DefAt K mg "even_number" s_q55 ["w"]
  d_take_pair : DefAt K mg "take_pair" s_q56 ["machine", "r"]
  d_put_pair : DefAt K mg "put_pair" s_q57 ["machine", "r", "value"]
  d_is_within_word : DefAt K mg "is_within_word" s_q58 ["number"]
  d_multiply : DefAt K mg "multiply" s_q59 ["machine", "w"]
  d_divide : DefAt K mg "divide" s_q60 ["machine", "w"]
  d_take_shift : DefAt K mg "take_shift" s_q61 ["machine", "w"]
  d_shift_word : DefAt K mg "shift_word" s_q62 ["machine", "w"]
  d_shift_pair : DefAt K mg "shift_pair" s_q63 ["machine", "w"]
  d_move_pc : DefAt K mg "move_pc" s_q64 ["machine", "distance"]
  d_count_down : DefAt K mg "count_down" s_q65 ["machine", "w"]
  d_always : DefAt K mg "always" s_q66 ["machine"]
  d_is_zero : DefAt K mg "is_zero" s_q67 ["machine"]
  d_is_less : DefAt K mg "is_less" s_q68 ["machine"]
  d_is_less_or_zero : DefAt K mg "is_less_or_zero" s_q69 ["machine"]
  d_is_negative : DefAt K mg "is_negative" s_q70 ["machine"]
  d_is_carry_or_zero : DefAt K mg "is_carry_or_zero" s_q71 ["machine"]
  d_is_overflow : DefAt K mg "is_overflow" s_q72 ["machine"]
  d_is_carry : DefAt K mg "is_carry" s_q73 ["machine"]
  d_branch : DefAt K mg "branch" s_q74 ["machine", "w"]
  d_tell_place : DefAt K mg "tell_place" s_q75 ["machine", "w"]
  d_jump : DefAt K mg "jump" s_q76 ["machine", "w"]
  d_jump_to_subroutine : DefAt K mg "jump_to_subroutine" s_q77 ["machine", "w"]
  d_return_from_subroutine : DefAt K mg "return_from_subroutine" s_q78 ["machine", "w"]
  d_mark : DefAt K mg "mark" s_q79 ["machine", "w"]
  d_change_flags : DefAt K mg "change_flags" s_q80 ["machine", "w"]
  d_halt : DefAt K mg "halt" s_q81 ["machine", "w"]
  d_wait : DefAt K mg "wait" s_q82 ["machine", "w"]
  d_return_from_interrupt : DefAt K mg "return_from_interrupt" s_q83 ["machine", "w"]
  d_do_nothing : DefAt K mg "do_nothing" s_q84 ["machine", "w"]
  d_break_point : DefAt K mg "break_point" s_q85 ["machine", "w"]
  d_output_trap : DefAt K mg "output_trap" s_q86 ["machine", "w"]
  d_emulator_trap : DefAt K mg "emulator_trap" s_q87 ["machine", "w"]
  d_trap : DefAt K mg "trap" s_q88 ["machine", "w"]
  d_find_work : DefAt K mg "find_work" s_q89 ["w"]
  d_do_next : DefAt K mg "do_next" s_q90 ["machine"]
  d_run : DefAt K mg "run" s_q91 ["machine", "n"]
  d_do_one : DefAt K mg "do_one" s_q92 ["machine"]
  d_answers : DefAt K mg "answers" s_q93 ["calls"]
  d_answer_next : DefAt K mg "answer_next" s_q94 ["machine", "reader"]
  d_pd_clear : DefAt K mg "pd_clear" s_q95 ["machine"]
  d_pd_load : DefAt K mg "pd_load" s_q96 ["machine", "at", "data"]
  d_pd_look : DefAt K mg "pd_look" s_q97 ["machine", "at", "n"]
  d_pd_set : DefAt K mg "pd_set" s_q98 ["machine", "which", "value"]
  d_pd_get : DefAt K mg "pd_get" s_q99 ["machine", "which"]
  d_pd_run : DefAt K mg "pd_run" s_q100 ["machine", "n"]
  d_pd_why : DefAt K mg "pd_why" s_q101 ["machine"]
  d_pd_interrupt : DefAt K mg "pd_interrupt" s_q102 ["machine", "vector", "priority"]
  c_ALL_DONE : ∃ t, mg "ALL_DONE" = some (.int (0) t)
  c_HALTED : ∃ t, mg "HALTED" = some (.int (1) t)
  c_WAITING : ∃ t, mg "WAITING" = some (.int (2) t)
  c_NOT_ONE : ∃ t, mg "NOT_ONE" = some (.int (3) t)
  c_AT_ODD_PLACE : ∃ t, mg "AT_ODD_PLACE" = some (.int (4) t)
  c_MEMORY_SIZE : ∃ t, mg "MEMORY_SIZE" = some (.int (65536) t)
  c_WORD_RANGE : ∃ t, mg "WORD_RANGE" = some (.int (65536) t)
  c_REGISTER_COUNT : ∃ t, mg "REGISTER_COUNT" = some (.int (8) t)
  c_SP : ∃ t, mg "SP" = some (.int (6) t)
  c_PC : ∃ t, mg "PC" = some (.int (7) t)
  c_WORD_TOP : ∃ t, mg "WORD_TOP" = some (.int (32768) t)
  c_BYTE_TOP : ∃ t, mg "BYTE_TOP" = some (.int (128) t)
  c_REGISTER_PLACES : ∃ t, mg "REGISTER_PLACES" = some (.int (65536) t)
  c_UPPER_BYTE : ∃ t, mg "UPPER_BYTE" = some (.int (65280) t)
  c_PAIR_TOP : ∃ t, mg "PAIR_TOP" = some (.int (2147483648) t)
  c_PAIR_RANGE : ∃ t, mg "PAIR_RANGE" = some (.int (4294967296) t)
  c_UPPER_BITS : ∃ t, mg "UPPER_BITS" = some (.int (16) t)
  c_CMP : ∃ t, mg "CMP" = some (.int (2) t)
  c_BIT : ∃ t, mg "BIT" = some (.int (3) t)
  c_MOVB : ∃ t, mg "MOVB" = some (.int (9) t)
  c_SUB : ∃ t, mg "SUB" = some (.int (14) t)
  c_FRAME : ∃ t, mg "FRAME" = some (.int (5) t)
  c_BREAK_VECTOR : ∃ t, mg "BREAK_VECTOR" = some (.int (12) t)
  c_OUTPUT_VECTOR : ∃ t, mg "OUTPUT_VECTOR" = some (.int (16) t)
  c_EMULATOR_VECTOR : ∃ t, mg "EMULATOR_VECTOR" = some (.int (24) t)
  c_TRAP_VECTOR : ∃ t, mg "TRAP_VECTOR" = some (.int (28) t)
  c_PD_CLEAR : ∃ t, mg "PD_CLEAR" = some (.int (1) t)
  c_PD_LOAD : ∃ t, mg "PD_LOAD" = some (.int (2) t)
  c_PD_LOOK : ∃ t, mg "PD_LOOK" = some (.int (3) t)
  c_PD_SET : ∃ t, mg "PD_SET" = some (.int (4) t)
  c_PD_GET : ∃ t, mg "PD_GET" = some (.int (5) t)
  c_PD_RUN : ∃ t, mg "PD_RUN" = some (.int (6) t)
  c_PD_WHY : ∃ t, mg "PD_WHY" = some (.int (7) t)
  c_PD_INTERRUPT : ∃ t, mg "PD_INTERRUPT" = some (.int (8) t)
  c_STATUS_WORD : ∃ t, mg "STATUS_WORD" = some (.int (8) t)
  c_LONGEST_RUN : ∃ t, mg "LONGEST_RUN" = some (.int (1000000) t)
  c_LAST_VECTOR : ∃ t, mg "LAST_VECTOR" = some (.int (508) t)
  c_VECTOR_SIZE : ∃ t, mg "VECTOR_SIZE" = some (.int (4) t)
  c_HIGHEST_PRIORITY : ∃ t, mg "HIGHEST_PRIORITY" = some (.int (7) t)
  c_DONE : ∃ t, mg "DONE" = some (.int (0) t)
  c_REFUSED : ∃ t, mg "REFUSED" = some (.int (-1) t)
  c_NOT_ABOVE : ∃ t, mg "NOT_ABOVE" = some (.int (0) t)
  c_INTERRUPTED : ∃ t, mg "INTERRUPTED" = some (.int (1) t)
  c_STOPPED_AT_ODD_PLACE : ∃ t, mg "STOPPED_AT_ODD_PLACE" = some (.int (-2) t)
  t_TWO_OPERANDS : ∃ a, mg "TWO_OPERANDS" = some (.ref a) ∧ KTab K mg a tab_TWO_OPERANDS
  t_ONE_OPERAND : ∃ a, mg "ONE_OPERAND" = some (.ref a) ∧ KTab K mg a tab_ONE_OPERAND
  t_CONDITIONS : ∃ a, mg "CONDITIONS" = some (.ref a) ∧ KTab K mg a tab_CONDITIONS
  t_BY_TWO_DIGITS : ∃ a, mg "BY_TWO_DIGITS" = some (.ref a) ∧ KTab K mg a tab_BY_TWO_DIGITS
  t_BY_UPPER_BYTE : ∃ a, mg "BY_UPPER_BYTE" = some (.ref a) ∧ KTab K mg a tab_BY_UPPER_BYTE
  t_BY_FOUR_DIGITS : ∃ a, mg "BY_FOUR_DIGITS" = some (.ref a) ∧ KTab K mg a tab_BY_FOUR_DIGITS
  t_BY_THREE_DIGITS : ∃ a, mg "BY_THREE_DIGITS" = some (.ref a) ∧ KTab K mg a tab_BY_THREE_DIGITS
  t_BY_FIVE_DIGITS : ∃ a, mg "BY_FIVE_DIGITS" = some (.ref a) ∧ KTab K mg a tab_BY_FIVE_DIGITS
  t_BY_WHOLE_WORD : ∃ a, mg "BY_WHOLE_WORD" = some (.ref a) ∧ KTab K mg a tab_BY_WHOLE_WORD
  t_PLACES : ∃ a, mg "PLACES" = some (.ref a) ∧ KTup K mg a tab_PLACES
  b_abs : mg "abs" = none
  b_enumerate : mg "enumerate" = none
  b_len : mg "len" = none
  b_list : mg "list" = none
abbrev TX (K : PySem.W.Frag) (mg : Str → Option Value) (C_Machine C_CallReader C_NoInstruction C_OddPlace C_UnknownCall : Addr) : Prop := Tx K mg C_Machine C_CallReader C_NoInstruction C_OddPlace C_UnknownCall
structure FMachine where
  registers : Addr
  memory : Addr
  priority : Int
  negative : Int
  zero : Int
  overflow : Int
  carry : Int
  why : Int
def mf_Machine (S : FMachine) : List (Str × V) := [("registers", .ref S.registers), ("memory", .ref S.memory), ("priority", .int S.priority), ("negative", .int S.negative), ("zero", .int S.zero), ("overflow", .int S.overflow), ("carry", .int S.carry), ("why", .int S.why)]
theorem lk_Machine_registers (S : FMachine) : (mf_Machine S).lookup ("registers" : Str) = some (.ref S.registers) := by kernel_rfl
theorem pt_Machine_registers (S : FMachine) (y : Addr) : putF "registers" (.ref y) (mf_Machine S) = mf_Machine { S with registers := y } := by kernel_rfl
theorem lk_Machine_memory (S : FMachine) : (mf_Machine S).lookup ("memory" : Str) = some (.ref S.memory) := by kernel_rfl
theorem pt_Machine_memory (S : FMachine) (y : Addr) : putF "memory" (.ref y) (mf_Machine S) = mf_Machine { S with memory := y } := by kernel_rfl
theorem lk_Machine_priority (S : FMachine) : (mf_Machine S).lookup ("priority" : Str) = some (.int S.priority) := by kernel_rfl
theorem pt_Machine_priority (S : FMachine) (y : Int) : putF "priority" (.int y) (mf_Machine S) = mf_Machine { S with priority := y } := by kernel_rfl
theorem lk_Machine_negative (S : FMachine) : (mf_Machine S).lookup ("negative" : Str) = some (.int S.negative) := by kernel_rfl
theorem pt_Machine_negative (S : FMachine) (y : Int) : putF "negative" (.int y) (mf_Machine S) = mf_Machine { S with negative := y } := by kernel_rfl
theorem lk_Machine_zero (S : FMachine) : (mf_Machine S).lookup ("zero" : Str) = some (.int S.zero) := by kernel_rfl
theorem pt_Machine_zero (S : FMachine) (y : Int) : putF "zero" (.int y) (mf_Machine S) = mf_Machine { S with zero := y } := by kernel_rfl
theorem lk_Machine_overflow (S : FMachine) : (mf_Machine S).lookup ("overflow" : Str) = some (.int S.overflow) := by kernel_rfl
theorem pt_Machine_overflow (S : FMachine) (y : Int) : putF "overflow" (.int y) (mf_Machine S) = mf_Machine { S with overflow := y } := by kernel_rfl
theorem lk_Machine_carry (S : FMachine) : (mf_Machine S).lookup ("carry" : Str) = some (.int S.carry) := by kernel_rfl
theorem pt_Machine_carry (S : FMachine) (y : Int) : putF "carry" (.int y) (mf_Machine S) = mf_Machine { S with carry := y } := by kernel_rfl
theorem lk_Machine_why (S : FMachine) : (mf_Machine S).lookup ("why" : Str) = some (.int S.why) := by kernel_rfl
theorem pt_Machine_why (S : FMachine) (y : Int) : putF "why" (.int y) (mf_Machine S) = mf_Machine { S with why := y } := by kernel_rfl
theorem no_Machine_reset (S : FMachine) : (mf_Machine S).lookup ("reset" : Str) = none := by kernel_rfl
theorem no_Machine_set_status (S : FMachine) : (mf_Machine S).lookup ("set_status" : Str) = none := by kernel_rfl
theorem no_Machine_status_word (S : FMachine) : (mf_Machine S).lookup ("status_word" : Str) = none := by kernel_rfl
theorem no_Machine_set_flags (S : FMachine) : (mf_Machine S).lookup ("set_flags" : Str) = none := by kernel_rfl
theorem no_Machine_store_bytes (S : FMachine) : (mf_Machine S).lookup ("store_bytes" : Str) = none := by kernel_rfl
theorem no_Machine_read_word (S : FMachine) : (mf_Machine S).lookup ("read_word" : Str) = none := by kernel_rfl
theorem no_Machine_write_word (S : FMachine) : (mf_Machine S).lookup ("write_word" : Str) = none := by kernel_rfl
theorem no_Machine_take_next_word (S : FMachine) : (mf_Machine S).lookup ("take_next_word" : Str) = none := by kernel_rfl
theorem no_Machine_push (S : FMachine) : (mf_Machine S).lookup ("push" : Str) = none := by kernel_rfl
theorem no_Machine_pull (S : FMachine) : (mf_Machine S).lookup ("pull" : Str) = none := by kernel_rfl
theorem no_Machine_interrupt (S : FMachine) : (mf_Machine S).lookup ("interrupt" : Str) = none := by kernel_rfl
theorem ln_Machine (S : FMachine) : (mf_Machine S).length < 1000 := by show 8 < 1000; decide
structure FCallReader where
  calls : Addr
  place : Int
def mf_CallReader (S : FCallReader) : List (Str × V) := [("calls", .ref S.calls), ("place", .int S.place)]
theorem lk_CallReader_calls (S : FCallReader) : (mf_CallReader S).lookup ("calls" : Str) = some (.ref S.calls) := by kernel_rfl
theorem pt_CallReader_calls (S : FCallReader) (y : Addr) : putF "calls" (.ref y) (mf_CallReader S) = mf_CallReader { S with calls := y } := by kernel_rfl
theorem lk_CallReader_place (S : FCallReader) : (mf_CallReader S).lookup ("place" : Str) = some (.int S.place) := by kernel_rfl
theorem pt_CallReader_place (S : FCallReader) (y : Int) : putF "place" (.int y) (mf_CallReader S) = mf_CallReader { S with place := y } := by kernel_rfl
theorem no_CallReader_has_more (S : FCallReader) : (mf_CallReader S).lookup ("has_more" : Str) = none := by kernel_rfl
theorem no_CallReader_take_number (S : FCallReader) : (mf_CallReader S).lookup ("take_number" : Str) = none := by kernel_rfl
theorem no_CallReader_take_row (S : FCallReader) : (mf_CallReader S).lookup ("take_row" : Str) = none := by kernel_rfl
theorem ln_CallReader (S : FCallReader) : (mf_CallReader S).length < 1000 := by show 2 < 1000; decide
end My
namespace My
open PySem L2
local macro_rules | `(tactic| walk_at "hp") => `(tactic| first | assumption | exact upd_same | (refine Eq.trans (upd_ne (by assumption)) ?_; walk_at "hp") | (refine Eq.trans (upd_ne (Ne.symm (by assumption))) ?_; walk_at "hp"))
local macro_rules | `(tactic| walk_at "rd1") => `(tactic| with_reducible first
  | apply rd_seq | apply rd_sfld | apply rd_asg | apply rd_ifS | apply rd_drop | apply rd_ret
  | apply rd_op | apply rd_c | apply rd_fld | apply rd_test | apply rd_cons | apply rd_nil | apply rd_name | apply rd_I0 | apply rd_eqI | apply rd_neI
  | apply rd_callE | apply rd_meth | apply rd_make | apply rd_lst | apply rd_CB | apply rd_un | apply rd_U | apply rd_sub | apply rd_BM | apply rd_sl | apply rd_part | apply rd_nopart | apply rd_int | apply rd_bl | apply rd_not | apply rd_and | apply rd_or | apply rd_andV | apply rd_orV | apply rd_notV | apply rd_chain
  | apply rd_next | apply rd_retN | apply rd_B | apply rd_ifE | apply rd_try | apply rd_raise | apply rd_tup | apply rd_for | apply rd_iEnum | apply rd_iList | apply rd_iRng1 | apply rd_iRng2 | apply rd_break | apply rd_cont | apply rd_F | apply rd_T | apply rd_kget1 | apply rd_kget | apply rd_callV | apply rd_fs | apply rd_tryE | apply rd_tru | apply rd_truI | apply rd_abs | apply rd_neB | apply rd_isF | apply rd_isT | apply rd_one | apply rd_zero)
local macro_rules | `(tactic| walk_at "rd2") => `(tactic| first
  | walk_at "rd1"
  | ((with_reducible refine' rd_var ?e1 ?_); (case e1 => rfl))
  | ((with_reducible refine' rd_I ?e1 ?_); (case e1 => first | decide | (constructor <;> decide) | omega | exact Or.inr ⟨by decide, by decide⟩ | exact ⟨by decide, by decide, by decide⟩ | exact Or.inr ⟨by omega, by omega⟩ | exact Or.inl ⟨by omega, by omega⟩ | (show 0 < _; omega) | (show 0 ≤ _; omega) | exact ⟨by omega, by omega⟩ | exact ⟨by omega, by omega, by omega⟩))
  | with_reducible refine at_fld (by walk_at "hp") (by walk_at "cl") (by walk_at "na") (by walk_at "lk") ?_
  | with_reducible refine to_fld (by walk_at "hp") (by walk_at "cl") (by walk_at "na") (by walk_at "ln") ?_
  | with_reducible refine at_meth (by walk_at "hp") (by walk_at "no") ?_)
local macro_rules | `(tactic| walk_at "rd") => `(tactic| (repeat (walk_at "rd2")))

local macro_rules | `(tactic| walk_at "cl") => `(tactic| with_reducible first | exact Tx.cl_Machine (by assumption) | exact Tx.cl_CallReader (by assumption))
local macro_rules | `(tactic| walk_at "na") => `(tactic| with_reducible first | exact Tx.n_Machine_registers (by assumption) | exact Tx.n_Machine_memory (by assumption) | exact Tx.n_Machine_priority (by assumption) | exact Tx.n_Machine_negative (by assumption) | exact Tx.n_Machine_zero (by assumption) | exact Tx.n_Machine_overflow (by assumption) | exact Tx.n_Machine_carry (by assumption) | exact Tx.n_Machine_why (by assumption) | exact Tx.n_CallReader_calls (by assumption) | exact Tx.n_CallReader_place (by assumption))
local macro_rules | `(tactic| walk_at "lk") => `(tactic| with_reducible first | exact lk_Machine_registers _ | exact lk_Machine_memory _ | exact lk_Machine_priority _ | exact lk_Machine_negative _ | exact lk_Machine_zero _ | exact lk_Machine_overflow _ | exact lk_Machine_carry _ | exact lk_Machine_why _ | exact lk_CallReader_calls _ | exact lk_CallReader_place _)
local macro_rules | `(tactic| walk_at "no") => `(tactic| with_reducible first | exact no_Machine_reset _ | exact no_Machine_set_status _ | exact no_Machine_status_word _ | exact no_Machine_set_flags _ | exact no_Machine_store_bytes _ | exact no_Machine_read_word _ | exact no_Machine_write_word _ | exact no_Machine_take_next_word _ | exact no_Machine_push _ | exact no_Machine_pull _ | exact no_Machine_interrupt _ | exact no_CallReader_has_more _ | exact no_CallReader_take_number _ | exact no_CallReader_take_row _)
local macro_rules | `(tactic| walk_at "ln") => `(tactic| with_reducible first | exact ln_Machine _ | exact ln_CallReader _)
section
variable {P : Program} {w : World} {K : PySem.W.Frag} {mg : Str → Option Value} {base : Heap} {C_Machine C_CallReader C_NoInstruction C_OddPlace C_UnknownCall : Addr}
def stF (x : Int) (fs : List (Str × V)) : List (Str × V) :=
  putF "carry" (.int (Builtin.bitAnd x 1)) (putF "overflow" (.int (Builtin.bitAnd (x / 2 ^ (1 : Int).toNat) 1)) (putF "zero" (.int (Builtin.bitAnd (x / 2 ^ (2 : Int).toNat) 1)) (putF "negative" (.int (Builtin.bitAnd (x / 2 ^ (3 : Int).toNat) 1)) (putF "priority" (.int (Builtin.bitAnd (x / 2 ^ (5 : Int).toNat) 7)) fs))))
def sp_set_status (CM : Addr) : Sp := fun vs H Q _ => ∃ (m dx : Addr) (fs : List (Str × V)) (x : Int), vs = [.ref m, .int x] ∧ H m = some (.ins CM dx fs) ∧ fs.length ≤ 900 ∧ Q .non (upd H m (.ins CM dx (stF x fs)))
theorem len1 {n k : Nat} {f : Str} {v : V} {fs : List (Str × V)} (h : fs.length ≤ n) (hk : n + 1 = k) : (putF f v fs).length ≤ k := by
  have := length_putF f v fs
  omega
theorem lt1 {n : Nat} (h : n ≤ 950) : n < 1000 := by omega
theorem ok_Machine_set_status (T : Tx K mg C_Machine C_CallReader C_NoInstruction C_OddPlace C_UnknownCall) : GMt P w K mg base C_Machine "set_status" 1 ["self", "word"] (sp_set_status C_Machine) := by
  obtain ⟨f, fd, F, M, b⟩ := T.m_Machine_set_status
  refine ⟨⟨f, fd, F.okX (k := 0) sc_q2 (fun vs H Q E h => ?_) (fun cdv A outer s H vs Q E hr h => ?_), T.cl_Machine, M, b⟩⟩
  · obtain ⟨m, dx, fs, x, rfl, hm, hl, k⟩ := h
    rfl
  · obtain ⟨m, dx, fs, x, rfl, hm, hl, k⟩ := h
    refine ⟨_, (pss_cons (ps_fldK (K := K) rfl (pe_var (i := 0) rfl (Or.inl v_q2_self) nd_self nc_self) (pe_op op_and (pe_op op_shr (pe_var (i := 1) rfl (Or.inl v_q2_word) nd_word nc_word) pe_int) pe_int) rfl)
      (pss_cons (ps_fldK (K := K) rfl (pe_var (i := 0) rfl (Or.inl v_q2_self) nd_self nc_self) (pe_op op_and (pe_op op_shr (pe_var (i := 1) rfl (Or.inl v_q2_word) nd_word nc_word) pe_int) pe_int) rfl)
      (pss_cons (ps_fldK (K := K) rfl (pe_var (i := 0) rfl (Or.inl v_q2_self) nd_self nc_self) (pe_op op_and (pe_op op_shr (pe_var (i := 1) rfl (Or.inl v_q2_word) nd_word nc_word) pe_int) pe_int) rfl)
      (pss_cons (ps_fldK (K := K) rfl (pe_var (i := 0) rfl (Or.inl v_q2_self) nd_self nc_self) (pe_op op_and (pe_op op_shr (pe_var (i := 1) rfl (Or.inl v_q2_word) nd_word nc_word) pe_int) pe_int) rfl)
      (pss_one (ps_fldK (K := K) rfl (pe_var (i := 0) rfl (Or.inl v_q2_self) nd_self nc_self) (pe_op op_and (pe_var (i := 1) rfl (Or.inl v_q2_word) nd_word nc_word) pe_int) rfl)))))), ?_⟩
    walk_at "rd"
    refine to_fld hm (by walk_at "cl") (by walk_at "na") (by omega) ?_
    have l1 := len1 (f := "priority") (v := .int (Builtin.bitAnd (x / 2 ^ (5 : Int).toNat) 7)) hl rfl
    have l2 := len1 (f := "negative") (v := .int (Builtin.bitAnd (x / 2 ^ (3 : Int).toNat) 1)) l1 rfl
    have l3 := len1 (f := "zero") (v := .int (Builtin.bitAnd (x / 2 ^ (2 : Int).toNat) 1)) l2 rfl
    have l4 := len1 (f := "overflow") (v := .int (Builtin.bitAnd (x / 2 ^ (1 : Int).toNat) 1)) l3 rfl
    walk_at "rd"
    refine to_fld (by walk_at "hp") (by walk_at "cl") (by walk_at "na") (Nat.lt_of_le_of_lt l1 (by decide)) ?_
    walk_at "rd"
    refine to_fld (by walk_at "hp") (by walk_at "cl") (by walk_at "na") (Nat.lt_of_le_of_lt l2 (by decide)) ?_
    walk_at "rd"
    refine to_fld (by walk_at "hp") (by walk_at "cl") (by walk_at "na") (Nat.lt_of_le_of_lt l3 (by decide)) ?_
    walk_at "rd"
    refine to_fld (by walk_at "hp") (by walk_at "cl") (by walk_at "na") (Nat.lt_of_le_of_lt l4 (by decide)) ?_
    rw [upd_upd, upd_upd, upd_upd, upd_upd]
    exact k
def blankF (rl ml : Addr) : FMachine := ⟨rl, ml, 0, 0, 0, 0, 0, 0⟩
def zeros (n : Nat) : List V := List.replicate n (.int 0)
def sp_reset (CM : Addr) : Sp := fun vs H Q _ => ∃ (m dx : Addr) (fs : List (Str × V)), vs = [.ref m] ∧ H m = some (.ins CM dx fs) ∧ (fs = [] ∨ ∃ S, fs = mf_Machine S) ∧
  ∀ (rl ml : Addr) (H' : Hp), H' m = some (.ins CM dx (mf_Machine (blankF rl ml))) → H' rl = some (.lst (zeros 8)) → H' ml = some (.lst (zeros 65536)) → H rl = none → H ml = none → (∀ b o, H b = some o → b ≠ m → H' b = some o) → Q .non H'
theorem flat_rep (n : Nat) : (List.replicate n [V.int 0]).flatten = zeros n := by
  induction n with
  | zero => rfl
  | succ n ih => rw [List.replicate_succ, List.flatten_cons, ih]; rfl
theorem reset_fs {fs : List (Str × V)} (h : fs = [] ∨ ∃ S, fs = mf_Machine S) (rl ml : Addr) : putF "why" (.int 0) (stF 0 (putF "memory" (.ref ml) (putF "registers" (.ref rl) fs))) = mf_Machine (blankF rl ml) ∧ Nat.ble (putF "registers" (.ref rl) fs).length 10 = true ∧ Nat.ble (putF "memory" (.ref ml) (putF "registers" (.ref rl) fs)).length 10 = true ∧
    (putF "memory" (.ref ml) (putF "registers" (.ref rl) fs)).lookup ("set_status" : Str) = none ∧ Nat.ble (stF 0 (putF "memory" (.ref ml) (putF "registers" (.ref rl) fs))).length 10 = true ∧ Nat.ble fs.length 10 = true := by
  rcases h with rfl | ⟨S, rfl⟩
  · exact ⟨by kernel_rfl, by kernel_rfl, by kernel_rfl, by kernel_rfl, by kernel_rfl, by kernel_rfl⟩
  · obtain ⟨a, b, c, d, e, f, g, h⟩ := S
    exact ⟨by kernel_rfl, by kernel_rfl, by kernel_rfl, by kernel_rfl, by kernel_rfl, by kernel_rfl⟩
theorem small {n : Nat} (h : Nat.ble n 10 = true) : n < 1000 := Nat.lt_of_le_of_lt (Nat.le_of_ble_eq_true h) (by decide)
theorem ok_Machine_reset (T : Tx K mg C_Machine C_CallReader C_NoInstruction C_OddPlace C_UnknownCall) : GMt P w K mg base C_Machine "reset" 2 ["self"] (sp_reset C_Machine) := by
  obtain ⟨f, fd, F, M, b⟩ := T.m_Machine_reset
  refine ⟨⟨f, fd, F.okX (k := 1) sc_q1 (fun vs H Q E h => ?_) (fun cdv A outer s H vs Q E hr h => ?_), T.cl_Machine, M, b⟩⟩
  · obtain ⟨m, dx, fs, rfl, hm, hfs, k⟩ := h
    rfl
  · obtain ⟨m, dx, fs, rfl, hm, hfs, k⟩ := h
    have G_Machine_set_status := ok_Machine_set_status (P := P) (w := w) (base := base) T
    refine ⟨_, (pss_cons (ps_fldK (K := K) rfl (pe_var (i := 0) rfl (Or.inl v_q1_self) nd_self nc_self) (pe_op op_rep (pe_lst (pa_cons pe_int pa_nil)) (pe_globI g_q1_REGISTER_COUNT T.c_REGISTER_COUNT nd_REGISTER_COUNT)) rfl)
      (pss_cons (ps_fldK (K := K) rfl (pe_var (i := 0) rfl (Or.inl v_q1_self) nd_self nc_self) (pe_op op_rep (pe_lst (pa_cons pe_int pa_nil)) (pe_globI g_q1_MEMORY_SIZE T.c_MEMORY_SIZE nd_MEMORY_SIZE)) rfl)
      (pss_cons (ps_expr (pe_methE G_Machine_set_status (hr.mono (by decide)) pass_body (pe_var (i := 0) rfl (Or.inl v_q1_self) nd_self nc_self) (pa_cons pe_int pa_nil)))
      (pss_one (ps_fldK (K := K) rfl (pe_var (i := 0) rfl (Or.inl v_q1_self) nd_self nc_self) (pe_globI g_q1_ALL_DONE T.c_ALL_DONE nd_ALL_DONE) rfl))))), ?_⟩
    walk_at "rd"
    refine ⟨by decide, fun p0 h0 => ?_⟩
    walk_at "rd"
    refine rd_rep upd_same (by decide) (by decide) (by decide) fun rl h1 => ?_
    have m0 : m ≠ p0 := ne_of_none hm h0
    have hm1 : upd H p0 (.lst [.int 0]) m = some (.ins C_Machine dx fs) := by walk_at "hp"
    have m1 : m ≠ rl := ne_of_none hm1 h1
    have e0 := (reset_fs hfs rl rl).2.2.2.2.2
    have e2 := (reset_fs hfs rl rl).2.1
    walk_at "rd"
    refine to_fld (by walk_at "hp") (by walk_at "cl") (by walk_at "na") (small e0) ?_
    walk_at "rd"
    refine ⟨by decide, fun p1 h2 => ?_⟩
    walk_at "rd"
    refine rd_rep upd_same (by decide) (by decide) (by decide) fun ml h3 => ?_
    obtain ⟨e1, _, e3, e4, e5, _⟩ := reset_fs hfs rl ml
    generalize hH1 : upd (upd (upd H p0 (.lst [.int 0])) rl (.lst (List.replicate (8 : Int).toNat [V.int 0]).flatten)) m (.ins C_Machine dx (putF "registers" (.ref rl) fs)) = H1 at *
    have a1 : H1 m = some (.ins C_Machine dx (putF "registers" (.ref rl) fs)) := by rw [← hH1]; exact upd_same
    have a2 : H1 rl = some (.lst (zeros 8)) := by
      rw [← hH1, upd_ne m1.symm, upd_same]
      exact congrArg (fun q => some (HO.lst q)) (flat_rep 8)
    have a3 : ∀ b o, H b = some o → b ≠ m → H1 b = some o := fun b o e hb => by
      have b0 : b ≠ p0 := ne_of_none e h0
      have b1 : b ≠ rl := ne_of_none (by rw [upd_ne b0]; exact e) h1
      rw [← hH1, upd_ne hb, upd_ne b1, upd_ne b0]
      exact e
    have n1 : m ≠ p1 := ne_of_none a1 h2
    have n2 : m ≠ ml := ne_of_none (by walk_at "hp") h3
    walk_at "rd"
    refine to_fld (by walk_at "hp") (by walk_at "cl") (by walk_at "na") (small e2) ?_
    walk_at "rd"
    refine at_meth (by walk_at "hp") e4 ?_
    walk_at "rd"
    refine ⟨m, dx, _, 0, rfl, (by walk_at "hp"), Nat.le_trans (Nat.le_of_ble_eq_true e3) (by decide), ?_⟩
    walk_at "rd"
    refine to_fld (by walk_at "hp") (by walk_at "cl") (by walk_at "na") (small e5) ?_
    have f1 : H1 ml = none := by
      cases q : H1 ml with
      | none => rfl
      | some o =>
        have z : ml ≠ p1 := ne_of_none q h2
        rw [upd_ne z.symm.symm, q] at h3
        cases h3
    have r1 : rl ≠ p1 := ne_of_none a2 h2
    have r2 : rl ≠ ml := ne_of_none a2 f1
    refine k rl ml _ ?_ ?_ ?_ ?_ ?_ fun b o e hb => ?_
    · rw [upd_same, e1]
    · rw [upd_ne m1.symm, upd_ne m1.symm, upd_ne m1.symm, upd_ne r2, upd_ne r1]; exact a2
    · rw [upd_ne n2.symm, upd_ne n2.symm, upd_ne n2.symm, upd_same]
      exact congrArg (fun q => some (HO.lst q)) (flat_rep 65536)
    · cases q : H rl with
      | none => rfl
      | some o =>
        rw [upd_ne (ne_of_none q h0), q] at h1
        cases h1
    · cases q : H ml with
      | none => rfl
      | some o =>
        rw [a3 ml o q n2.symm] at f1
        cases f1
    · have c := a3 b o e hb
      rw [upd_ne hb, upd_ne hb, upd_ne hb, upd_ne (ne_of_none c f1), upd_ne (ne_of_none c h2)]
      exact c
end
section
variable {P : Program} {w : World} {K : PySem.W.Frag} {mg : Str → Option Value} {base : Heap} {C_Machine C_CallReader C_NoInstruction C_OddPlace C_UnknownCall : Addr}
def sp_Machine (CM : Addr) : Sp := fun vs H Q _ => ∃ (m dx : Addr), vs = [.ref m] ∧ H m = some (.ins CM dx []) ∧
  ∀ (rl ml : Addr) (H' : Hp), H' m = some (.ins CM dx (mf_Machine (blankF rl ml))) → H' rl = some (.lst (zeros 8)) → H' ml = some (.lst (zeros 65536)) → H rl = none → H ml = none → (∀ b o, H b = some o → b ≠ m → H' b = some o) → Q .non H'
theorem ok_Machine___init__ (T : Tx K mg C_Machine C_CallReader C_NoInstruction C_OddPlace C_UnknownCall) : GMk P w K mg base "Machine" C_Machine 3 ["self"] (sp_Machine C_Machine) := by
  obtain ⟨hmg, f, fd, F, M, b⟩ := T.k_Machine
  refine ⟨⟨f, fd, F.okX (k := 2) sc_q0 (fun vs H Q E h => ?_) (fun cdv A outer s H vs Q E hr h => ?_), hmg, M, b⟩⟩
  · obtain ⟨m, dx, rfl, hm, k⟩ := h
    rfl
  · obtain ⟨m, dx, rfl, hm, k⟩ := h
    have G_Machine_reset := ok_Machine_reset (P := P) (w := w) (base := base) T
    refine ⟨_, (pss_one (ps_expr (pe_meth0E G_Machine_reset (hr.mono (by decide)) pass_body (pe_var (i := 0) rfl (Or.inl v_q0_self) nd_self nc_self)))), ?_⟩
    walk_at "rd"
    refine at_meth hm rfl ?_
    walk_at "rd"
    exact ⟨m, dx, [], rfl, hm, .inl rfl, k⟩
def lies (a n : Int) : Bool := decide (0 ≤ a ∧ 0 ≤ n ∧ a + n ≤ 65536)
def sp_lies : Sp := fun vs H Q _ => ∃ (a n : Int), vs = [.int a, .int n] ∧ Q (.bl (lies a n)) H
theorem lies_t {a n : Int} (h1 : 0 ≤ a) (h2 : 0 ≤ n) : lies a n = decide (a + n ≤ 65536) := by
  unfold lies
  exact decide_eq_decide.mpr ⟨fun h => h.2.2, fun h => ⟨h1, h2, h⟩⟩
theorem lies_f1 {a n : Int} (h1 : ¬ 0 ≤ a) : lies a n = false := decide_eq_false fun h => h1 h.1
theorem lies_f2 {a n : Int} (h1 : ¬ 0 ≤ n) : lies a n = false := decide_eq_false fun h => h1 h.2.1
theorem ok_lies_in_memory (T : Tx K mg C_Machine C_CallReader C_NoInstruction C_OddPlace C_UnknownCall) : GFn P w K mg base "lies_in_memory" 1 ["at", "n"] sp_lies := by
  obtain ⟨f, fd, F, hmg, b⟩ := T.d_lies_in_memory
  refine ⟨⟨f, fd, F.okX (k := 0) sc_q12 (fun vs H Q E h => ?_) (fun cdv A outer s H vs Q E hr h => ?_), hmg, F.kp, b⟩⟩
  · obtain ⟨a, n, rfl, k⟩ := h
    rfl
  · obtain ⟨a, n, rfl, k⟩ := h
    refine ⟨_, (pss_one (ps_ret (pe_and (pe_cmpR op_ge (pe_var (i := 0) rfl (Or.inl v_q12_at) nd_at nc_at) pe_int (nomark _)) (pe_and (pe_cmpR op_ge (pe_var (i := 1) rfl (Or.inl v_q12_n) nd_n nc_n) pe_int (nomark _)) (pe_one (pe_cmpR op_le (pe_op op_add (pe_var (i := 0) rfl (Or.inl v_q12_at) nd_at nc_at) (pe_var (i := 1) rfl (Or.inl v_q12_n) nd_n nc_n)) (pe_globI g_q12_MEMORY_SIZE T.c_MEMORY_SIZE nd_MEMORY_SIZE) (nomark _))))))), ?_⟩
    walk_at "rd"
    refine rd_ite (fun h1 => ?_) (fun h1 => ?_)
    · walk_at "rd"
      refine rd_ite (fun h2 => ?_) (fun h2 => ?_)
      · walk_at "rd"
        rw [lies_t h1 h2] at k
        exact k
      · rw [lies_f2 h2] at k
        exact k
    · rw [lies_f1 h1] at k
      exact k
def putAt (ms : List V) (a : Nat) : List V → List V
  | [] => ms
  | x :: r => putAt (ms.set a x) (a + 1) r
theorem putAt_len : ∀ (xs : List V) (ms : List V) (a : Nat), (putAt ms a xs).length = ms.length
  | [], _, _ => rfl
  | x :: r, ms, a => by
    show (putAt (ms.set a x) (a + 1) r).length = _
    rw [putAt_len r, List.length_set]
theorem putAt_take : ∀ (xs : List V) (ms : List V) (a i : Nat) (x : V), xs[i]? = some x → putAt ms a (xs.take (i + 1)) = (putAt ms a (xs.take i)).set (a + i) x
  | [], _, _, _, _, h => by simp at h
  | y :: r, ms, a, 0, x, h => by
    have e : y = x := Option.some.inj h
    subst e
    rfl
  | y :: r, ms, a, i + 1, x, h => by
    have e := putAt_take r (ms.set a y) (a + 1) i x h
    show putAt (ms.set a y) (a + 1) (r.take (i + 1)) = (putAt (ms.set a y) (a + 1) (r.take i)).set (a + (i + 1)) x
    rw [e]
    congr 1
    omega
def sp_store (K : PySem.W.Frag) (CM : Addr) : Sp := fun vs H Q _ => ∃ (m dx d : Addr) (S : FMachine) (a : Nat) (ms xs : List V), vs = [.ref m, .int a, .ref d] ∧ H m = some (.ins CM dx (mf_Machine S)) ∧ H S.memory = some (.lst ms) ∧ SqL K H d xs ∧ d ≠ S.memory ∧ a + xs.length ≤ ms.length ∧
  ∀ H' : Hp, H' S.memory = some (.lst (putAt ms a xs)) → (∀ b o, H b = some o → b ≠ S.memory → H' b = some o) → Q .non H'
theorem ixN_of {n : Nat} {k : Int} {j : Nat} (e : k = (j : Int)) (h : j < n) : ixN n k = some j := by
  unfold ixN
  rw [if_pos (by omega), if_pos (by omega), e]
  rfl
theorem for_enum {K : PySem.W.Frag} {a : Addr} {xs : List V} {g : TG} {tb : TS} {D : Ends} {σ : St} {H : Hp} (Pv : Nat → St → Hp → Prop) (h0 : Pv 0 σ H) (hl : ∀ i σ H, i ≤ xs.length → Pv i σ H → SqL K H a xs)
    (hs : ∀ i x σ H, xs[i]? = some x → Pv i σ H → ∀ T, H T = none → g (.ref T) σ (upd H T (.tup [.int (i : Nat), x])) fun σ2 H2 => tb { D with nx := Pv (i + 1), ct := Pv (i + 1), bk := D.nx } σ2 H2) (hd : ∀ σ H, Pv xs.length σ H → D.nx σ H) :
    ∃ W : Nat → Nat → St → Hp → Prop, (∃ m, W 0 m σ H) ∧ ∀ i m σ H, W i m σ H →
      ((Ite K a).stop i H ∧ D.nx σ H) ∨ ((Ite K a).go i H ∧ ∃ N : St → Hp → Prop, (∀ σ' H', N σ' H' → ∃ m', m' < m ∧ W (i + 1) m' σ' H') ∧ ∀ x H', (Ite K a).yld i H x H' → g x σ H' fun σ2 H2 => tb { D with nx := N, ct := N, bk := D.nx } σ2 H2) := by
  refine ⟨fun i m σ H => m = xs.length - i ∧ i ≤ xs.length ∧ Pv i σ H, ⟨xs.length, by simp, Nat.zero_le _, h0⟩, ?_⟩
  rintro i m σ H ⟨rfl, hi, p⟩
  have q := hl i σ H hi p
  by_cases hlt : i < xs.length
  · refine .inr ⟨⟨xs, xs[i], q, by simp [hlt]⟩, Pv (i + 1), fun σ' H' p' => ⟨xs.length - (i + 1), by omega, rfl, hlt, p'⟩, fun x H' y => ?_⟩
    obtain ⟨T, x', e1, e2, e3, y⟩ := y
    subst e1 e3
    exact hs i x' σ _ (y xs q) p T e2
  · have e : i = xs.length := by omega
    subst e
    exact .inl ⟨⟨xs, q, Nat.le_refl _⟩, hd σ H p⟩
theorem sq_keep {K : PySem.W.Frag} {H H' : Hp} {a : Addr} {xs : List V} (h : SqL K H a xs) (k : ∀ o, H a = some o → H' a = some o) : SqL K H' a xs := by
  rcases h with (h | ⟨o, h⟩) | h
  · exact .inl (.inl (k _ h))
  · exact .inl (.inr ⟨o, k _ h⟩)
  · exact .inr h
theorem ok_Machine_store_bytes (T : Tx K mg C_Machine C_CallReader C_NoInstruction C_OddPlace C_UnknownCall) : GMt P w K mg base C_Machine "store_bytes" 1 ["self", "at", "data"] (sp_store K C_Machine) := by
  obtain ⟨f, fd, F, M, b⟩ := T.m_Machine_store_bytes
  refine ⟨⟨f, fd, F.okX (k := 0) sc_q5 (fun vs H Q E h => ?_) (fun cdv A outer s H vs Q E hr h => ?_), T.cl_Machine, M, b⟩⟩
  · obtain ⟨m, dx, d, S, a, ms, xs, rfl, hm, hms, hd, hne, hl, k⟩ := h
    rfl
  · obtain ⟨m, dx, d, S, a, ms, xs, rfl, hm, hms, hd, hne, hl, k⟩ := h
    refine ⟨_, (pss_one (ps_for PassesOwn.leaving rfl (pi_enumK (K := K) rfl g_q5_enumerate T.b_enumerate (pa_cons (pe_var (i := 2) rfl (Or.inl v_q5_data) nd_data nc_data) pa_nil)) (pg_tupK (K := K) rfl rfl (pgs_cons (pg_name (i := 3) sc_q5.nd rfl (Or.inl v_q5_offset)) (pgs_cons (pg_name (i := 4) sc_q5.nd rfl (Or.inl v_q5_byte)) pgs_nil))) (pss_one (ps_asg (pe_var (i := 4) rfl (Or.inl v_q5_byte) nd_byte nc_byte) (pg_sub (pe_fldK (K := K) rfl (pe_var (i := 0) rfl (Or.inl v_q5_self) nd_self nc_self) rfl) (pe_op op_add (pe_var (i := 1) rfl (Or.inl v_q5_at) nd_at nc_at) (pe_var (i := 3) rfl (Or.inl v_q5_offset) nd_offset nc_offset)) set_list))))), ?_⟩
    walk_at "rd"
    have hmm : m ≠ S.memory := ne_of hm hms (by intro z; cases z)
    refine ⟨d, xs, rfl, hd, for_enum (xs := xs) (fun i σ H1 => (∃ u v : Option V, σ = [some (.ref m), some (.int a), some (.ref d), u, v]) ∧ H1 S.memory = some (.lst (putAt ms a (xs.take i))) ∧ (∀ b o, H b = some o → b ≠ S.memory → H1 b = some o)) ⟨⟨none, none, rfl⟩, hms, fun b o e _ => e⟩ ?_ ?_ ?_⟩
    · rintro i σ H1 _ ⟨_, _, kp⟩
      exact sq_keep hd fun o e => kp d o e hne
    · rintro i x σ H1 hx ⟨⟨u, v, rfl⟩, h1, kp⟩ t ht
      have hm1 : H1 m = some (.ins C_Machine dx (mf_Machine S)) := kp m _ hm hmm
      have nt : S.memory ≠ t := ne_of_none h1 ht
      have nm : m ≠ t := ne_of_none hm1 ht
      refine ⟨t, _, rfl, SqT.of upd_same, rfl, ?_⟩
      refine ⟨_, _, rfl, ?_⟩
      refine ⟨_, _, rfl, ?_⟩
      refine ⟨rfl, ?_⟩
      walk_at "rd"
      have hi : i < xs.length := (List.getElem?_eq_some_iff.mp hx).1
      refine rd_setL (j := a + i) (by walk_at "hp") (ixN_of (by omega) (by rw [putAt_len]; omega)) ?_
      refine ⟨⟨_, _, rfl⟩, ?_, fun b o e hb => ?_⟩
      · rw [upd_same, putAt_take xs ms a i x hx]
      · have c := kp b o e hb
        rw [upd_ne hb, upd_ne (ne_of_none c ht)]
        exact c
    · rintro σ H1 ⟨_, h1, kp⟩
      rw [List.take_length] at h1
      exact k H1 h1 kp
end
section
variable {P : Program} {w : World} {K : PySem.W.Frag} {mg : Str → Option Value} {base : Heap} {C_Machine C_CallReader C_NoInstruction C_OddPlace C_UnknownCall : Addr}
def RdAt (CR : Addr) (H : Hp) (r a : Addr) (p : Int) : Prop := ∃ dx, H r = some (.ins CR dx (mf_CallReader ⟨a, p⟩))
def sp_CallReader (CR : Addr) : Sp := fun vs H Q _ => ∃ (r dx a : Addr), vs = [.ref r, .ref a] ∧ H r = some (.ins CR dx []) ∧ ∀ H' : Hp, RdAt CR H' r a 0 → (∀ b o, H b = some o → b ≠ r → H' b = some o) → Q .non H'
theorem ok_CallReader___init__ (T : Tx K mg C_Machine C_CallReader C_NoInstruction C_OddPlace C_UnknownCall) : GMk P w K mg base "CallReader" C_CallReader 1 ["self", "calls"] (sp_CallReader C_CallReader) := by
  obtain ⟨hmg, f, fd, F, M, b⟩ := T.k_CallReader
  refine ⟨⟨f, fd, F.okX (k := 0) sc_q13 (fun vs H Q E h => ?_) (fun cdv A outer s H vs Q E hr h => ?_), hmg, M, b⟩⟩
  · obtain ⟨r, dx, a, rfl, hr0, k⟩ := h
    rfl
  · obtain ⟨r, dx, a, rfl, hr0, k⟩ := h
    refine ⟨_, (pss_cons (ps_fldK (K := K) rfl (pe_var (i := 0) rfl (Or.inl v_q13_self) nd_self nc_self) (pe_var (i := 1) rfl (Or.inl v_q13_calls) nd_calls nc_calls) rfl)
      (pss_one (ps_fldK (K := K) rfl (pe_var (i := 0) rfl (Or.inl v_q13_self) nd_self nc_self) pe_int rfl))), ?_⟩
    walk_at "rd"
    refine to_fld hr0 (by walk_at "cl") (by walk_at "na") (by show 0 < 1000; decide) ?_
    walk_at "rd"
    refine to_fld (by walk_at "hp") (by walk_at "cl") (by walk_at "na") (by show 1 < 1000; decide) ?_
    rw [upd_upd]
    refine k _ ⟨dx, ?_⟩ fun b o e hb => by rw [upd_ne hb]; exact e
    rw [upd_same]
    exact congrArg (fun q => some (HO.ins C_CallReader dx q)) (by kernel_rfl)
def sp_has_more (K : PySem.W.Frag) (CR : Addr) : Sp := fun vs H Q _ => ∃ (r a : Addr) (p : Int) (xs : List V), vs = [.ref r] ∧ RdAt CR H r a p ∧ SqL K H a xs ∧ Q (.bl (decide (p < xs.length))) H
theorem ok_CallReader_has_more (T : Tx K mg C_Machine C_CallReader C_NoInstruction C_OddPlace C_UnknownCall) : GMt P w K mg base C_CallReader "has_more" 1 ["self"] (sp_has_more K C_CallReader) := by
  obtain ⟨f, fd, F, M, b⟩ := T.m_CallReader_has_more
  refine ⟨⟨f, fd, F.okX (k := 0) sc_q14 (fun vs H Q E h => ?_) (fun cdv A outer s H vs Q E hr h => ?_), T.cl_CallReader, M, b⟩⟩
  · obtain ⟨r, a, p, xs, rfl, ⟨dx, hr1⟩, ha, k⟩ := h
    rfl
  · obtain ⟨r, a, p, xs, rfl, ⟨dx, hr1⟩, ha, k⟩ := h
    refine ⟨_, (pss_one (ps_ret (pe_cmpR op_lt (pe_fldK (K := K) rfl (pe_var (i := 0) rfl (Or.inl v_q14_self) nd_self nc_self) rfl) (pe_lenK (K := K) rfl g_q14_len T.b_len (pa_cons (pe_fldK (K := K) rfl (pe_var (i := 0) rfl (Or.inl v_q14_self) nd_self nc_self) rfl) pa_nil)) (nomark _)))), ?_⟩
    walk_at "rd"
    refine rd_lenL ha ?_
    walk_at "rd"
    exact k
def sp_take_number (K : PySem.W.Frag) (CR : Addr) : Sp := fun vs H Q _ => ∃ (r a : Addr) (j : Nat) (x : V) (xs : List V), vs = [.ref r] ∧ RdAt CR H r a j ∧ SqL K H a xs ∧ xs[j]? = some x ∧
  ∀ H' : Hp, RdAt CR H' r a ((j : Int) + 1) → (∀ b o, H b = some o → b ≠ r → H' b = some o) → Q x H'
theorem ok_CallReader_take_number (T : Tx K mg C_Machine C_CallReader C_NoInstruction C_OddPlace C_UnknownCall) : GMt P w K mg base C_CallReader "take_number" 1 ["self"] (sp_take_number K C_CallReader) := by
  obtain ⟨f, fd, F, M, b⟩ := T.m_CallReader_take_number
  refine ⟨⟨f, fd, F.okX (k := 0) sc_q15 (fun vs H Q E h => ?_) (fun cdv A outer s H vs Q E hr h => ?_), T.cl_CallReader, M, b⟩⟩
  · obtain ⟨r, a, j, x, xs, rfl, ⟨dx, hr1⟩, ha, hx, k⟩ := h
    rfl
  · obtain ⟨r, a, j, x, xs, rfl, ⟨dx, hr1⟩, ha, hx, k⟩ := h
    refine ⟨_, (pss_cons (ps_set (i := 1) sc_q15.nd rfl (Or.inl v_q15_number) (pe_ixLK (K := K) rfl (pe_fldK (K := K) rfl (pe_var (i := 0) rfl (Or.inl v_q15_self) nd_self nc_self) rfl) (pe_fldK (K := K) rfl (pe_var (i := 0) rfl (Or.inl v_q15_self) nd_self nc_self) rfl) (fun _ _ => rfl)))
      (pss_cons (ps_fldaugK (K := K) rfl (pe_var (i := 0) rfl (Or.inl v_q15_self) nd_self nc_self) pe_int iop_add)
      (pss_one (ps_ret (pe_var (i := 1) rfl (Or.inl v_q15_number) nd_number nc_number))))), ?_⟩
    walk_at "rd"
    refine rd_ixL ha (atI_nat hx) ?_
    walk_at "rd"
    refine ⟨_, rfl, r, C_CallReader, dx, _, _, rfl, hr1, by walk_at "cl", by walk_at "na", by walk_at "lk", ?_⟩
    walk_at "rd"
    refine ⟨dx, _, hr1, by walk_at "ln", ?_⟩
    walk_at "rd"
    refine k _ ⟨dx, ?_⟩ fun b o e hb => by rw [upd_ne hb]; exact e
    rw [upd_same, pt_CallReader_place]
end
section
variable {P : Program} {w : World} {K : PySem.W.Frag} {mg : Str → Option Value} {base : Heap} {C_Machine C_CallReader C_NoInstruction C_OddPlace C_UnknownCall : Addr}
structure Rel (S : FMachine) (rs ms : List V) (st : Sz15.St) (y : Int) : Prop where
  rs : rs = st.r.map fun (x : Nat) => V.int (x : Int)
  rlen : st.r.length = 8
  rlt : ∀ x ∈ st.r, x < 65536
  mlen : ms.length = 65536
  mget : ∀ i, i < 65536 → ms[i]? = some (V.int ((st.mem i : Nat) : Int))
  mlt : ∀ i, i < 65536 → st.mem i < 256
  pr : S.priority = (st.priority : Int)
  prlt : st.priority < 8
  n : S.negative = (st.n.toNat : Int)
  z : S.zero = (st.z.toNat : Int)
  v : S.overflow = (st.v.toNat : Int)
  c : S.carry = (st.c.toNat : Int)
  why : S.why = y
structure MSy (C : Addr) (H : Hp) (m : Addr) (st : Sz15.St) (y : Int) : Prop where
  ex : ∃ dx S rs ms, H m = some (.ins C dx (mf_Machine S)) ∧ H S.registers = some (.lst rs) ∧ H S.memory = some (.lst ms) ∧ Rel S rs ms st y
abbrev MS (C : Addr) (H : Hp) (m : Addr) (st : Sz15.St) : Prop := MSy C H m st ((st.why : Nat) : Int)
def fpM (C : Addr) (H : Hp) (m b : Addr) : Prop := b = m ∨ ∃ dx S, H m = some (.ins C dx (mf_Machine S)) ∧ (b = S.registers ∨ b = S.memory)
theorem mf_inj {S S' : FMachine} (h : mf_Machine S = mf_Machine S') : S = S' := by
  obtain ⟨a, b, c, d, e, f, g, i⟩ := S
  obtain ⟨a', b', c', d', e', f', g', i'⟩ := S'
  unfold mf_Machine at h
  simp only [List.cons.injEq, Prod.mk.injEq, V.ref.injEq, V.int.injEq, true_and, and_true] at h
  obtain ⟨h1, h2, h3, h4, h5, h6, h7, h8⟩ := h
  subst h1 h2 h3 h4 h5 h6 h7 h8
  rfl
theorem fp_of {C m b : Addr} {H : Hp} {dx : Addr} {S : FMachine} (h : H m = some (.ins C dx (mf_Machine S))) : fpM C H m b ↔ b = m ∨ b = S.registers ∨ b = S.memory := by
  refine ⟨fun q => ?_, fun q => ?_⟩
  · rcases q with q | ⟨dx', S', h', q⟩
    · exact .inl q
    · rw [h] at h'
      have e := Option.some.inj h'
      injection e with e1 e2 e3
      rw [mf_inj e3]
      exact .inr q
  · rcases q with q | q
    · exact .inl q
    · exact .inr ⟨dx, S, h, q⟩
structure Stp (C : Addr) (m : Addr) (H H' : Hp) : Prop where
  keep : ∀ b o, H b = some o → ¬ fpM C H m b → H' b = some o
  fp : ∀ b, fpM C H' m b → fpM C H m b ∨ H b = none
  there : ∀ b, H' b = none → H b = none
theorem Stp.refl {C m : Addr} {H : Hp} : Stp C m H H := ⟨fun _ _ h _ => h, fun _ h => .inl h, fun _ h => h⟩
theorem Stp.trans {C m : Addr} {H H1 H2 : Hp} (a : Stp C m H H1) (b : Stp C m H1 H2) : Stp C m H H2 := by
  have nf : ∀ c o, H c = some o → ¬ fpM C H m c → ¬ fpM C H1 m c := fun c o h n q => by
    rcases a.fp c q with q | q
    · exact n q
    · rw [q] at h; cases h
  refine ⟨fun c o h n => b.keep c o (a.keep c o h n) (nf c o h n), fun c q => ?_, fun c q => a.there c (b.there c q)⟩
  by_cases n : fpM C H m c
  · exact .inl n
  · rcases b.fp c q with q | q
    · rcases a.fp c q with q | q
      · exact .inl q
      · exact .inr q
    · cases e : H c with
      | none => exact .inr rfl
      | some o => rw [a.keep c o e n] at q; cases q
theorem Stp.new {C m p : Addr} {H : Hp} {o : HO} (h : H p = none) (hm : H m ≠ none) : Stp C m H (upd H p o) := by
  have pm : m ≠ p := fun e => hm (by rw [e]; exact h)
  refine ⟨fun b u e _ => by rw [upd_ne (ne_of_none e h)]; exact e, fun b q => ?_, fun b q => ?_⟩
  · rcases q with q | ⟨dx, S, e, q⟩
    · exact .inl (.inl q)
    · rw [upd_ne pm] at e
      exact .inl (.inr ⟨dx, S, e, q⟩)
  · by_cases z : b = p
    · rw [z]; exact h
    · rw [upd_ne z] at q; exact q
theorem MSy.there {C m : Addr} {H : Hp} {st : Sz15.St} {y : Int} (h : MSy C H m st y) : H m ≠ none := by
  obtain ⟨dx, S, rs, ms, e, _⟩ := h.ex
  rw [e]
  exact fun z => by cases z
theorem MSy.keep {C m : Addr} {H H' : Hp} {st : Sz15.St} {y : Int} (h : MSy C H m st y) (k : ∀ b o, fpM C H m b → H b = some o → H' b = some o) : MSy C H' m st y := by
  obtain ⟨dx, S, rs, ms, e1, e2, e3, r⟩ := h.ex
  exact ⟨dx, S, rs, ms, k _ _ (.inl rfl) e1, k _ _ ((fp_of e1).mpr (.inr (.inl rfl))) e2, k _ _ ((fp_of e1).mpr (.inr (.inr rfl))) e3, r⟩
theorem MSy.new {C m p : Addr} {H : Hp} {o : HO} {st : Sz15.St} {y : Int} (h : MSy C H m st y) (hp : H p = none) : MSy C (upd H p o) m st y :=
  h.keep fun b u _ e => by rw [upd_ne (ne_of_none e hp)]; exact e
theorem rel_blank (rl ml : Addr) : Rel (blankF rl ml) (zeros 8) (zeros 65536) Sz15.blank ((Sz15.blank.why : Nat) : Int) where
  rs := by unfold zeros Sz15.blank; rw [List.map_replicate]; rfl
  rlen := by decide
  rlt := by decide
  mlen := List.length_replicate
  mget := fun i hi => by
    unfold zeros
    rw [List.getElem?_replicate, if_pos hi]
    rfl
  mlt := fun _ _ => Nat.zero_lt_succ _
  pr := rfl
  prlt := by decide
  n := rfl
  z := rfl
  v := rfl
  c := rfl
  why := rfl
end
section
variable {P : Program} {w : World} {K : PySem.W.Frag} {mg : Str → Option Value} {base : Heap} {C_Machine C_CallReader C_NoInstruction C_OddPlace C_UnknownCall : Addr}
def Told (ns : List Int) (j : Nat) (cs : List (List (List Int))) : Prop := (∃ f, PyFlat.calls PySz15.shape f (ns.drop j) = some cs) ∧ ∀ c ∈ cs, Sz15Neutral.asked1 (PySz15.whole c) = true
theorem Told.nil {ns : List Int} {j : Nat} {cs : List (List (List Int))} (h : Told ns j cs) (hj : ns.length ≤ j) : cs = [] := by
  obtain ⟨⟨f, h⟩, _⟩ := h
  rw [List.drop_eq_nil_of_le hj] at h
  cases f with
  | zero => exact (Option.some.inj h).symm
  | succ f => exact (Option.some.inj h).symm
theorem Told.cons {ns : List Int} {j : Nat} {cs : List (List (List Int))} (h : Told ns j cs) (hj : j < ns.length) :
    ∃ c t r, cs = c :: r ∧ PyFlat.call PySz15.shape (ns.drop j) = some (c, t) ∧ Sz15Neutral.asked1 (PySz15.whole c) = true ∧ ∀ k, ns.drop k = t → Told ns k r := by
  obtain ⟨⟨f, h⟩, ha⟩ := h
  rw [List.drop_eq_getElem_cons hj] at h ⊢
  cases f with
  | zero => cases h
  | succ f =>
    have h' : (match PyFlat.call PySz15.shape (ns[j] :: ns.drop (j + 1)) with
      | none => none
      | some (c, t) => match PyFlat.calls PySz15.shape f t with
        | none => none
        | some cs => some (c :: cs)) = some cs := h
    cases e : PyFlat.call PySz15.shape (ns[j] :: ns.drop (j + 1)) with
    | none => rw [e] at h'; cases h'
    | some q =>
      obtain ⟨c, t⟩ := q
      rw [e] at h'
      have h2 : (match PyFlat.calls PySz15.shape f t with
        | none => none
        | some cs => some (c :: cs)) = some cs := h'
      cases e2 : PyFlat.calls PySz15.shape f t with
      | none => rw [e2] at h2; cases h2
      | some r =>
        rw [e2] at h2
        have e3 : c :: r = cs := Option.some.inj h2
        subst e3
        refine ⟨c, t, r, rfl, rfl, ha c (.head _), fun k hk => ⟨⟨f, by rw [hk]; exact e2⟩, fun d hd => ha d (.tail _ hd)⟩⟩
abbrev stepW (st : Sz15.St) (c : List (List Int)) : Sz15.St × List Int := Sz15Neutral.step st (PySz15.whole c)
def Scr (K : PySem.W.Frag) (H : Hp) (a : Addr) (ns : List Int) : Prop := SqL K (fun _ => none) a (ns.map V.int) ∨ ∃ ob, H a = some (.frz ob (.lst (ns.map V.int)))
theorem Scr.sq {K : PySem.W.Frag} {H : Hp} {a : Addr} {ns : List Int} (h : Scr K H a ns) : SqL K H a (ns.map V.int) := by
  rcases h with h | ⟨ob, h⟩
  · exact sq_keep h fun o e => by cases e
  · exact .inl (.inr ⟨ob, h⟩)
theorem Scr.of {K : PySem.W.Frag} {H : Hp} {a : Addr} {ns : List Int} (h : SqL K H a (ns.map V.int)) (hf : ∀ o, H a = some o → ∃ ob xs, o = .frz ob (.lst xs)) : Scr K H a ns := by
  rcases h with (h | ⟨ob, h⟩) | h
  · obtain ⟨_, _, z⟩ := hf _ h; cases z
  · exact .inr ⟨ob, h⟩
  · exact .inl (.inr h)
theorem Scr.keep {K : PySem.W.Frag} {H H' : Hp} {a : Addr} {ns : List Int} (h : Scr K H a ns) (k : ∀ ob xs, H a = some (.frz ob (.lst xs)) → H' a = some (.frz ob (.lst xs))) : Scr K H' a ns := by
  rcases h with h | ⟨ob, h⟩
  · exact .inl h
  · exact .inr ⟨ob, k _ _ h⟩
theorem notfp_frz {C m a : Addr} {H : Hp} {st : Sz15.St} {ob : Obj} {xs : List V} (h : MS C H m st) (hf : H a = some (.frz ob (.lst xs))) : ¬ fpM C H m a := by
  obtain ⟨dx, S, rs, ms, e1, e2, e3, _⟩ := h.ex
  rw [fp_of e1]
  rintro (rfl | rfl | rfl)
  · rw [e1] at hf; cases hf
  · rw [e2] at hf; cases hf
  · rw [e3] at hf; cases hf
def sp_next (K : PySem.W.Frag) (CM CR : Addr) : Sp := fun vs H Q _ => ∃ (m r a : Addr) (j : Nat) (ns : List Int) (st : Sz15.St) (c : List (List Int)) (t : List Int), vs = [.ref m, .ref r] ∧ MS CM H m st ∧ RdAt CR H r a j ∧ Scr K H a ns ∧
  PyFlat.call PySz15.shape (ns.drop j) = some (c, t) ∧ Sz15Neutral.asked1 (PySz15.whole c) = true ∧
  ∀ (p : Addr) (k : Nat) (H' : Hp), MS CM H' m (stepW st c).1 → RdAt CR H' r a k → ns.drop k = t → j < k → k ≤ ns.length → H' p = some (.lst ((stepW st c).2.map V.int)) → H p = none → ¬ fpM CM H' m p → p ≠ r →
    (∀ b o, H b = some o → ¬ fpM CM H m b → b ≠ r → H' b = some o) → (∀ b, fpM CM H' m b → fpM CM H m b ∨ H b = none) → Q (.ref p) H'
def spec (ns : List Int) : List Int := PySz15.answers ns
def Ok (ns : List Int) : Prop := ∃ cs, PySz15.calls ns = some (cs.map PySz15.whole) ∧ Told ns 0 cs ∧ cs.length ≤ 400 ∧ ∀ x ∈ ns, -2147483648 ≤ x ∧ x ≤ 2147483647
theorem spec_of {ns : List Int} {cs : List (List (List Int))} (h : PySz15.calls ns = some (cs.map PySz15.whole)) : spec ns = PyFlat.told (PyFlat.played Sz15Neutral.step Sz15.blank (cs.map PySz15.whole)) := by
  unfold spec PySz15.answers
  rw [h]
  rfl
theorem told_cons (a : List Int) (l : List (List Int)) : PyFlat.told (a :: l) = (a.length : Int) :: (a ++ PyFlat.told l) := rfl
theorem step_len {st : Sz15.St} {c : List (List Int)} (h : Sz15Neutral.asked1 c = true) : (Sz15Neutral.step st c).2.length ≤ 2001 := by
  unfold Sz15Neutral.step
  cases e : Sz15Neutral.callTo c with
  | none => exact Nat.zero_le _
  | some x =>
    show (_ :: List.map _ (Sz15.does st x).2.bytes).length ≤ 2001
    rw [List.length_cons, List.length_map]
    have only0 : ∀ n, (Sz15.only n).bytes.length = 0 := fun _ => rfl
    cases x with
    | look a n =>
      have hn : n ≤ 2000 ∨ 65536 < n := by
        unfold Sz15Neutral.callTo at e
        split at e <;> first | cases e | skip
        simp only [Sz15Neutral.asked1, Bool.and_eq_true, Bool.or_eq_true, decide_eq_true_eq] at h
        exact h.2.2
      show (if n < 0 ∨ a < 0 ∨ 65536 < a + n then (st, Sz15.only (-1)) else (st, ⟨0, _⟩)).2.bytes.length + 1 ≤ 2001
      split
      · exact Nat.le_add_left _ _
      · rename_i hn2
        show (List.map _ (List.range n.toNat)).length + 1 ≤ 2001
        rw [List.length_map, List.length_range]
        omega
    | clear => exact Nat.le_add_left _ _
    | load a l n => show (if _ then (st, Sz15.only (-1)) else (_, Sz15.only 0)).2.bytes.length + 1 ≤ 2001; split <;> exact Nat.le_add_left _ _
    | set a n => show (if _ then (st, Sz15.only (-1)) else (_, Sz15.only 0)).2.bytes.length + 1 ≤ 2001; split <;> exact Nat.le_add_left _ _
    | get a => show (if _ then (st, Sz15.only (-1)) else (st, Sz15.only _)).2.bytes.length + 1 ≤ 2001; split <;> exact Nat.le_add_left _ _
    | run n => show (if _ then (st, Sz15.only (-1)) else (_, Sz15.only _)).2.bytes.length + 1 ≤ 2001; split <;> exact Nat.le_add_left _ _
    | why => exact Nat.le_add_left _ _
    | interrupt a b =>
      unfold Sz15.does
      dsimp only
      split
      · exact Nat.le_add_left _ _
      · split
        · exact Nat.le_add_left _ _
        · split <;> exact Nat.le_add_left _ _
def sp_answers (K : PySem.W.Frag) : Sp := fun vs H Q _ => ∃ (a : Addr) (ns : List Int), vs = [.ref a] ∧ SqL K H a (ns.map V.int) ∧ (∀ o, H a = some o → ∃ ob xs, o = .frz ob (.lst xs)) ∧ Ok ns ∧ ∀ (p : Addr) (H' : Hp), H' p = some (.lst ((spec ns).map V.int)) → Q (.ref p) H'
theorem notfp_rd {C CR m r a : Addr} {p : Int} {H : Hp} {st : Sz15.St} (h : MS C H m st) (hr : RdAt CR H r a p) : ¬ fpM C H m r := by
  obtain ⟨dx, S, rs, ms, e1, e2, e3, _⟩ := h.ex
  obtain ⟨dr, e4⟩ := hr
  rw [fp_of e1]
  rintro (rfl | rfl | rfl)
  · rw [e1] at e4
    have z := Option.some.inj e4
    injection z with _ _ z
    have l := congrArg List.length z
    exact absurd (show (8 : Nat) = 2 from l) (by decide)
  · rw [e2] at e4; cases e4
  · rw [e3] at e4; cases e4
theorem RdAt.keep {CR r a : Addr} {p : Int} {H H' : Hp} (h : RdAt CR H r a p) (k : ∀ o, H r = some o → H' r = some o) : RdAt CR H' r a p := by
  obtain ⟨dx, e⟩ := h
  exact ⟨dx, k _ e⟩
structure Turn (K : PySem.W.Frag) (CM CR : Addr) (m r g a : Addr) (ns : List Int) (j n : Nat) (H : Hp) : Prop where
  ex : ∃ cs st out, MS CM H m st ∧ RdAt CR H r a j ∧ H g = some (.lst (out.map V.int)) ∧ Scr K H a ns ∧ ¬ fpM CM H m g ∧
    Told ns j cs ∧ cs.length + n ≤ 400 ∧ out.length ≤ 2002 * n ∧ spec ns = out ++ PyFlat.told (PyFlat.played Sz15Neutral.step st (cs.map PySz15.whole))
end
section
variable {P : Program} {w : World} {K : PySem.W.Frag} {mg : Str → Option Value} {base : Heap} {C_Machine C_CallReader C_NoInstruction C_OddPlace C_UnknownCall : Addr}
theorem Rel.putByte {S : FMachine} {rs ms : List V} {st : Sz15.St} {y : Int} (h : Rel S rs ms st y) {a x : Nat} (ha : a < 65536) (hx : x < 256) : Rel S rs (ms.set a (.int (x : Nat))) (st.putByte a x) y where
  rs := h.rs
  rlen := h.rlen
  rlt := h.rlt
  mlen := by rw [List.length_set]; exact h.mlen
  mget := fun i hi => by
    show (ms.set a _)[i]? = some (V.int (((if i = Sz15.w16 a then x % 256 else st.mem i : Nat)) : Int))
    rw [List.getElem?_set, show Sz15.w16 a = a from Nat.mod_eq_of_lt ha]
    by_cases e : a = i
    · subst e; rw [if_pos rfl, if_pos (by rw [h.mlen]; exact ha), if_pos rfl, Nat.mod_eq_of_lt hx]
    · rw [if_neg e, if_neg (Ne.symm e)]; exact h.mget i hi
  mlt := fun i hi => by
    show (if i = Sz15.w16 a then x % 256 else st.mem i) < 256
    split
    · exact Nat.mod_lt _ (by decide)
    · exact h.mlt i hi
  pr := h.pr
  prlt := h.prlt
  n := h.n
  z := h.z
  v := h.v
  c := h.c
  why := h.why
theorem Rel.putAll {S : FMachine} {rs : List V} {y : Int} : ∀ (bs : List Int) {ms : List V} {st : Sz15.St} {a : Nat}, Rel S rs ms st y → a + bs.length ≤ 65536 → (∀ b ∈ bs, 0 ≤ b ∧ b < 256) → Rel S rs (putAt ms a (bs.map V.int)) (Sz15.putAll st a (Sz15Neutral.octets bs)) y
  | [], ms, st, a, h, _, _ => h
  | b :: r, ms, st, a, h, hl, hb => by
    have b0 := hb b (.head _)
    have e : ((UInt8.ofNat b.toNat).toNat : Nat) = b.toNat := by rw [UInt8.toNat_ofNat']; exact Nat.mod_eq_of_lt (by omega)
    show Rel S rs (putAt (ms.set a (.int b)) (a + 1) (r.map V.int)) (Sz15.putAll (st.putByte a (UInt8.ofNat b.toNat).toNat) (a + 1) (Sz15Neutral.octets r)) y
    rw [List.length_cons] at hl
    rw [e]
    have q := h.putByte (a := a) (x := b.toNat) (by omega) (by omega)
    rw [show ((b.toNat : Nat) : Int) = b by omega] at q
    exact Rel.putAll r q (by omega) fun c hc => hb c (.tail _ hc)
theorem Rel.setReg {S : FMachine} {rs ms : List V} {st : Sz15.St} {y : Int} (h : Rel S rs ms st y) {k x : Nat} (hx : x < 65536) : Rel S (rs.set k (.int (x : Nat))) ms (st.setReg k x) y where
  rs := by
    show rs.set k _ = (st.r.set k (x % 65536)).map _
    rw [h.rs, List.map_set, Nat.mod_eq_of_lt hx]
  rlen := by show (st.r.set k _).length = 8; rw [List.length_set]; exact h.rlen
  rlt := fun u hy => by
    rcases List.mem_or_eq_of_mem_set (show u ∈ st.r.set k (x % 65536) from hy) with q | q
    · exact h.rlt u q
    · rw [q]; exact Nat.mod_lt _ (by decide)
  mlen := h.mlen
  mget := h.mget
  mlt := h.mlt
  pr := h.pr
  prlt := h.prlt
  n := h.n
  z := h.z
  v := h.v
  c := h.c
  why := h.why
def psF (x : Int) (S : FMachine) : FMachine := { S with priority := Builtin.bitAnd (x / 2 ^ (5 : Int).toNat) 7, negative := Builtin.bitAnd (x / 2 ^ (3 : Int).toNat) 1, zero := Builtin.bitAnd (x / 2 ^ (2 : Int).toNat) 1, overflow := Builtin.bitAnd (x / 2 ^ (1 : Int).toNat) 1, carry := Builtin.bitAnd x 1 }
theorem stF_mf (x : Int) (S : FMachine) : stF x (mf_Machine S) = mf_Machine (psF x S) := by
  unfold stF
  rw [pt_Machine_priority, pt_Machine_negative, pt_Machine_zero, pt_Machine_overflow, pt_Machine_carry]
  rfl
theorem bit_at (x k : Nat) : Builtin.bitAnd (((x : Nat) : Int) / 2 ^ k) 1 = ((x.testBit k).toNat : Int) := by
  rw [PyProof.Rows.bitAnd_m1, Nat.testBit_eq_decide_div_mod_eq]
  have e : ((x : Nat) : Int) / 2 ^ k % 2 = ((x / 2 ^ k % 2 : Nat) : Int) := by rw [Int.natCast_emod, Int.natCast_ediv, Int.natCast_pow]; rfl
  rw [e]
  rcases Nat.mod_two_eq_zero_or_one (x / 2 ^ k) with q | q <;> rw [q] <;> rfl
theorem Rel.setPsw {S : FMachine} {rs ms : List V} {st : Sz15.St} {y : Int} (h : Rel S rs ms st y) (x : Nat) : Rel (psF x S) rs ms (st.setPsw x) y where
  rs := h.rs
  rlen := h.rlen
  rlt := h.rlt
  mlen := h.mlen
  mget := h.mget
  mlt := h.mlt
  pr := by
    show Builtin.bitAnd ((x : Int) / 32) 7 = ((x / 32 % 8 : Nat) : Int)
    rw [PyProof.Rows.bitAnd_m3]
    omega
  prlt := Nat.mod_lt _ (by decide)
  n := bit_at x 3
  z := bit_at x 2
  v := bit_at x 1
  c := by
    have := bit_at x 0
    rw [Int.pow_zero, Int.ediv_one] at this
    exact this
  why := h.why
def ansL (a : Sz15.Ans) : List Int := a.value :: a.bytes.map fun (b : UInt8) => (b.toNat : Int)
def AnsOk (CM m : Addr) (st' : Sz15.St) (ys : List Int) (H : Hp) (Q : VK) : Prop :=
  ∀ (p : Addr) (H' : Hp), MS CM H' m st' → H' p = some (.lst (ys.map V.int)) → H p = none → ¬ fpM CM H' m p → Stp CM m H H' → Q (.ref p) H'
abbrev Does (CM m : Addr) (st : Sz15.St) (c : Sz15.Call) (H : Hp) (Q : VK) : Prop := AnsOk CM m (Sz15.does st c).1 (ansL (Sz15.does st c).2) H Q
theorem AnsOk.lay {CM m p : Addr} {st' : Sz15.St} {ys : List Int} {H H' : Hp} {Q : VK} (k : AnsOk CM m st' ys H Q) (h : MS CM H' m st') (s : Stp CM m H H') (hp : H' p = none) : Q (.ref p) (upd H' p (.lst (ys.map V.int))) := by
  refine k p _ (h.new hp) upd_same (s.there p hp) ?_ (s.trans (.new hp h.there))
  obtain ⟨dx, S, rs, ms, e1, e2, e3, _⟩ := h.ex
  rw [fp_of (show upd H' p _ m = some (.ins CM dx (mf_Machine S)) by rw [upd_ne (ne_of_none e1 hp)]; exact e1)]
  rintro (rfl | rfl | rfl)
  · rw [e1] at hp; cases hp
  · rw [e2] at hp; cases hp
  · rw [e3] at hp; cases hp
theorem Stp.own {C m b : Addr} {H : Hp} {o : HO} (hb : fpM C H m b) (hne : H b ≠ none) (hm : ∀ dx S, upd H b o m = some (.ins C dx (mf_Machine S)) → ∃ dx' S', H m = some (.ins C dx' (mf_Machine S')) ∧ S.registers = S'.registers ∧ S.memory = S'.memory) : Stp C m H (upd H b o) := by
  refine ⟨fun a u e n => ?_, fun a q => ?_, fun a q => ?_⟩
  · have z : a ≠ b := fun z => n (by rw [z]; exact hb)
    rw [upd_ne z]; exact e
  · rcases q with q | ⟨dx, S, e, q⟩
    · exact .inl (.inl q)
    · obtain ⟨dx', S', e', r1, r2⟩ := hm dx S e
      rw [r1, r2] at q
      exact .inl (.inr ⟨dx', S', e', q⟩)
  · by_cases z : a = b
    · rw [z, upd_same] at q; cases q
    · rw [upd_ne z] at q; exact q
def sp_pd_clear (CM : Addr) : Sp := fun vs H Q _ => ∃ (m : Addr) (st : Sz15.St), vs = [.ref m] ∧ MS CM H m st ∧ Does CM m st .clear H Q
theorem ok_pd_clear (T : Tx K mg C_Machine C_CallReader C_NoInstruction C_OddPlace C_UnknownCall) : GFn P w K mg base "pd_clear" 3 ["machine"] (sp_pd_clear C_Machine) := by
  obtain ⟨f, fd, F, hmg, b⟩ := T.d_pd_clear
  refine ⟨⟨f, fd, F.okX (k := 2) sc_q95 (fun vs H Q E h => ?_) (fun cdv A outer s H vs Q E hr h => ?_), hmg, F.kp, b⟩⟩
  · obtain ⟨m, st, rfl, hms, k⟩ := h
    rfl
  · obtain ⟨m, st, rfl, hms, k⟩ := h
    have G_Machine_reset := ok_Machine_reset (P := P) (w := w) (base := base) T
    refine ⟨_, (pss_cons (ps_expr (pe_meth0E G_Machine_reset (hr.mono (by decide)) pass_body (pe_var (i := 0) rfl (Or.inl v_q95_machine) nd_machine nc_machine)))
      (pss_one (ps_ret (pe_lst (pa_cons (pe_globI g_q95_DONE T.c_DONE nd_DONE) pa_nil))))), ?_⟩
    obtain ⟨dx, S, rs, ms, e1, e2, e3, rel⟩ := hms.ex
    walk_at "rd"
    refine ⟨m, dx, _, rfl, e1, .inr ⟨S, rfl⟩, fun rl ml H1 z1 z2 z3 z4 z5 z6 => ?_⟩
    have ms1 : MS C_Machine H1 m Sz15.blank := ⟨dx, _, _, _, z1, z2, z3, rel_blank rl ml⟩
    have s1 : Stp C_Machine m H H1 := by
      refine ⟨fun b o e n => z6 b o e fun q => n (.inl q), fun b q => ?_, fun b q => ?_⟩
      · rw [fp_of z1] at q
        rcases q with q | q | q
        · exact .inl (.inl q)
        · exact .inr (by rw [q]; exact z4)
        · exact .inr (by rw [q]; exact z5)
      · cases e : H b with
        | none => rfl
        | some o =>
          by_cases bm : b = m
          · rw [bm, z1] at q; cases q
          · rw [z6 b o e bm] at q; cases q
    walk_at "rd"
    exact ⟨by decide, fun p hp => k.lay ms1 s1 hp⟩
end
section
variable {P : Program} {w : World} {K : PySem.W.Frag} {mg : Str → Option Value} {base : Heap} {C_Machine C_CallReader C_NoInstruction C_OddPlace C_UnknownCall : Addr}
theorem putAll_why : ∀ (l : List UInt8) (st : Sz15.St) (a : Nat), (Sz15.putAll st a l).why = st.why
  | [], _, _ => rfl
  | b :: r, st, a => putAll_why r (st.putByte a b.toNat) (a + 1)
theorem lies_iff {a n : Int} : lies a n = true ↔ ¬ (n < 0 ∨ a < 0 ∨ 65536 < a + n) := by
  unfold lies
  rw [decide_eq_true_iff]
  omega
theorem does_load_no {st : Sz15.St} {a n : Int} {l : List UInt8} (h : n < 0 ∨ a < 0 ∨ 65536 < a + n) : Sz15.does st (.load a l n) = (st, Sz15.only (-1)) := if_pos h
theorem does_load_yes {st : Sz15.St} {a n : Int} {l : List UInt8} (h : ¬ (n < 0 ∨ a < 0 ∨ 65536 < a + n)) : Sz15.does st (.load a l n) = (Sz15.putAll st a.toNat l, Sz15.only 0) := if_neg h
theorem does_look_no {st : Sz15.St} {a n : Int} (h : n < 0 ∨ a < 0 ∨ 65536 < a + n) : Sz15.does st (.look a n) = (st, Sz15.only (-1)) := if_pos h
theorem does_look_yes {st : Sz15.St} {a n : Int} (h : ¬ (n < 0 ∨ a < 0 ∨ 65536 < a + n)) : Sz15.does st (.look a n) = (st, ⟨0, (List.range n.toNat).map fun i => UInt8.ofNat (st.byte (a.toNat + i))⟩) := if_neg h
def sp_pd_load (K : PySem.W.Frag) (CM : Addr) : Sp := fun vs H Q _ => ∃ (m d : Addr) (a : Int) (bs : List Int) (st : Sz15.St), vs = [.ref m, .int a, .ref d] ∧ MS CM H m st ∧ H d = some (.lst (bs.map V.int)) ∧ ¬ fpM CM H m d ∧ (∀ b ∈ bs, 0 ≤ b ∧ b < 256) ∧ Does CM m st (.load a (Sz15Neutral.octets bs) bs.length) H Q
theorem ok_pd_load (T : Tx K mg C_Machine C_CallReader C_NoInstruction C_OddPlace C_UnknownCall) : GFn P w K mg base "pd_load" 2 ["machine", "at", "data"] (sp_pd_load K C_Machine) := by
  obtain ⟨f, fd, F, hmg, b⟩ := T.d_pd_load
  refine ⟨⟨f, fd, F.okX (k := 1) sc_q96 (fun vs H Q E h => ?_) (fun cdv A outer s H vs Q E hr h => ?_), hmg, F.kp, b⟩⟩
  · obtain ⟨m, d, a, bs, st, rfl, hms, hd, nfd, hbs, k⟩ := h
    rfl
  · obtain ⟨m, d, a, bs, st, rfl, hms, hd, nfd, hbs, k⟩ := h
    have G_Machine_store_bytes := ok_Machine_store_bytes (P := P) (w := w) (base := base) T
    have G_lies_in_memory := ok_lies_in_memory (P := P) (w := w) (base := base) T
    refine ⟨_, (pss_cons (ps_if (pt_not (pt_val (pe_callE G_lies_in_memory (hr.mono (by decide)) g_q96_lies_in_memory pass_body (pa_cons (pe_var (i := 1) rfl (Or.inl v_q96_at) nd_at nc_at) (pa_cons (pe_lenK (K := K) rfl g_q96_len T.b_len (pa_cons (pe_var (i := 2) rfl (Or.inl v_q96_data) nd_data nc_data) pa_nil)) pa_nil)) nd_lies_in_memory))) (pss_one (ps_ret (pe_lst (pa_cons (pe_globI g_q96_REFUSED T.c_REFUSED nd_REFUSED) pa_nil)))) pss_nil)
      (pss_cons (ps_expr (pe_methE G_Machine_store_bytes (hr.mono (by decide)) pass_body (pe_var (i := 0) rfl (Or.inl v_q96_machine) nd_machine nc_machine) (pa_cons (pe_var (i := 1) rfl (Or.inl v_q96_at) nd_at nc_at) (pa_cons (pe_var (i := 2) rfl (Or.inl v_q96_data) nd_data nc_data) pa_nil))))
      (pss_one (ps_ret (pe_lst (pa_cons (pe_globI g_q96_DONE T.c_DONE nd_DONE) pa_nil)))))), ?_⟩
    obtain ⟨dx, S, rs, ms, e1, e2, e3, rel⟩ := hms.ex
    walk_at "rd"
    refine rd_lenL (SqL.of hd) ?_
    walk_at "rd"
    refine ⟨a, bs.length, by rw [List.length_map], ?_⟩
    walk_at "rd"
    refine rd_bn _ (fun hl => ?_) (fun hl => ?_)
    · have no : ¬ ¬ ((bs.length : Int) < 0 ∨ a < 0 ∨ 65536 < a + bs.length) := fun z => by rw [lies_iff.mpr z] at hl; cases hl
      walk_at "rd"
      rw [Does, does_load_no (Classical.not_not.mp no)] at k
      exact ⟨by decide, fun p hp => k.lay hms .refl hp⟩
    · have yes := lies_iff.mp hl
      walk_at "rd"
      rw [Does, does_load_yes yes] at k
      have ha : ((a.toNat : Nat) : Int) = a := by omega
      refine ⟨m, dx, d, S, a.toNat, ms, _, by rw [ha], e1, e3, SqL.of hd, fun z => nfd (by rw [fp_of e1]; exact .inr (.inr z)), by rw [List.length_map, rel.mlen]; omega, fun H1 z1 z2 => ?_⟩
      have nm : m ≠ S.memory := ne_of e1 e3 (by intro z; cases z)
      have y1 := z2 m _ e1 nm
      have y2 : H1 S.registers = some (.lst rs) := by
        by_cases q : S.registers = S.memory
        · rw [q] at e2 ⊢
          rw [e3] at e2
          have l : ms = rs := by injection Option.some.inj e2
          have := congrArg List.length l
          rw [rel.mlen, rel.rs, List.length_map, rel.rlen] at this
          exact absurd this (by decide)
        · exact z2 _ _ e2 q
      have ms0 : MSy C_Machine H1 m (Sz15.putAll st a.toNat (Sz15Neutral.octets bs)) ((st.why : Nat) : Int) := ⟨dx, S, rs, _, y1, y2, z1, rel.putAll bs (a := a.toNat) (by omega) hbs⟩
      have ms1 : MS C_Machine H1 m (Sz15.putAll st a.toNat (Sz15Neutral.octets bs)) := by
        unfold MS
        rw [putAll_why]
        exact ms0
      have s1 : Stp C_Machine m H H1 := by
        refine ⟨fun b o e n => z2 b o e fun q => n (by rw [fp_of e1]; exact .inr (.inr q)), fun b q => ?_, fun b q => ?_⟩
        · rw [fp_of y1] at q
          rw [fp_of e1]
          exact .inl q
        · cases e : H b with
          | none => rfl
          | some o =>
            by_cases bm : b = S.memory
            · rw [bm, z1] at q; cases q
            · rw [z2 b o e bm] at q; cases q
      walk_at "rd"
      exact ⟨by decide, fun p hp => k.lay ms1 s1 hp⟩
theorem look_list {S : FMachine} {rs ms : List V} {st : Sz15.St} {y : Int} (h : Rel S rs ms st y) {a n : Nat} (hl : a + n ≤ 65536) :
    (ms.drop a).take n = (((List.range n).map fun i => UInt8.ofNat (st.byte (a + i))).map fun (b : UInt8) => (b.toNat : Int)).map V.int := by
  apply List.ext_getElem?
  intro i
  rw [List.getElem?_take, List.map_map, List.map_map, List.getElem?_map]
  by_cases hi : i < n
  · rw [if_pos hi, List.getElem?_range hi, List.getElem?_drop, h.mget (a + i) (by omega)]
    show some (V.int _) = some (V.int (((UInt8.ofNat (st.mem ((a + i) % 65536))).toNat : Nat) : Int))
    rw [UInt8.toNat_ofNat', Nat.mod_eq_of_lt (show a + i < 65536 by omega), Nat.mod_eq_of_lt (h.mlt (a + i) (by omega))]
  · rw [if_neg hi, List.getElem?_eq_none (by rw [List.length_range]; omega)]; rfl
def sp_pd_look (CM : Addr) : Sp := fun vs H Q _ => ∃ (m : Addr) (a n : Int) (st : Sz15.St), vs = [.ref m, .int a, .int n] ∧ MS CM H m st ∧ Does CM m st (.look a n) H Q
theorem cutV_nat {xs : List V} {a b : Nat} (h : a ≤ b) (hb : b ≤ xs.length) : cutV xs (some (a : Int)) (some (b : Int)) = (xs.drop a).take (b - a) := by
  unfold cutV
  have e : ∀ (d c : Nat), c ≤ xs.length → HT.sIx xs.length d (some (c : Int)) = c := fun d c hc => by
    unfold HT.sIx
    simp only []
    rw [if_neg (by omega)]
    omega
  rw [e _ a (by omega), e _ b hb]
theorem ok_pd_look (T : Tx K mg C_Machine C_CallReader C_NoInstruction C_OddPlace C_UnknownCall) : GFn P w K mg base "pd_look" 2 ["machine", "at", "n"] (sp_pd_look C_Machine) := by
  obtain ⟨f, fd, F, hmg, b⟩ := T.d_pd_look
  refine ⟨⟨f, fd, F.okX (k := 1) sc_q97 (fun vs H Q E h => ?_) (fun cdv A outer s H vs Q E hr h => ?_), hmg, F.kp, b⟩⟩
  · obtain ⟨m, a, n, st, rfl, hms, k⟩ := h
    rfl
  · obtain ⟨m, a, n, st, rfl, hms, k⟩ := h
    have G_lies_in_memory := ok_lies_in_memory (P := P) (w := w) (base := base) T
    refine ⟨_, (pss_cons (ps_if (pt_not (pt_val (pe_callE G_lies_in_memory (hr.mono (by decide)) g_q97_lies_in_memory pass_body (pa_cons (pe_var (i := 1) rfl (Or.inl v_q97_at) nd_at nc_at) (pa_cons (pe_var (i := 2) rfl (Or.inl v_q97_n) nd_n nc_n) pa_nil)) nd_lies_in_memory))) (pss_one (ps_ret (pe_lst (pa_cons (pe_globI g_q97_REFUSED T.c_REFUSED nd_REFUSED) pa_nil)))) pss_nil)
      (pss_one (ps_ret (pe_op op_cat (pe_lst (pa_cons (pe_globI g_q97_DONE T.c_DONE nd_DONE) pa_nil)) (pe_slLK (K := K) rfl (pe_fldK (K := K) rfl (pe_var (i := 0) rfl (Or.inl v_q97_machine) nd_machine nc_machine) rfl) (po_some (pe_var (i := 1) rfl (Or.inl v_q97_at) nd_at nc_at)) (po_some (pe_op op_add (pe_var (i := 1) rfl (Or.inl v_q97_at) nd_at nc_at) (pe_var (i := 2) rfl (Or.inl v_q97_n) nd_n nc_n)))))))), ?_⟩
    obtain ⟨dx, S, rs, ms, e1, e2, e3, rel⟩ := hms.ex
    walk_at "rd"
    refine ⟨a, n, rfl, ?_⟩
    walk_at "rd"
    refine rd_bn _ (fun hl => ?_) (fun hl => ?_)
    · have no : ¬ ¬ (n < 0 ∨ a < 0 ∨ 65536 < a + n) := fun z => by rw [lies_iff.mpr z] at hl; cases hl
      walk_at "rd"
      rw [Does, does_look_no (Classical.not_not.mp no)] at k
      exact ⟨by decide, fun p hp => k.lay hms .refl hp⟩
    · have yes := lies_iff.mp hl
      walk_at "rd"
      rw [Does, does_look_yes yes] at k
      have hl0 : (a.toNat : Int) = a := by omega
      have hl1 : (n.toNat : Int) = n := by omega
      refine ⟨by decide, fun p hp => ?_⟩
      have ms1 := hms.new (o := .lst [.int 0]) hp
      have s1 : Stp C_Machine m H (upd H p (.lst [.int 0])) := .new hp hms.there
      have mp : m ≠ p := ne_of_none e1 hp
      walk_at "rd"
      refine rd_slL (SqL.of (show upd H p (.lst [.int 0]) S.memory = some (.lst ms) by rw [upd_ne (ne_of_none e3 hp)]; exact e3)) fun q hq => ?_
      have cut : cutV ms (some a) (some (a + n)) = (((List.range n.toNat).map fun i => UInt8.ofNat (st.byte (a.toNat + i))).map fun (b : UInt8) => (b.toNat : Int)).map V.int := by
        have e : cutV ms (some a) (some (a + n)) = cutV ms (some (a.toNat : Int)) (some ((a.toNat + n.toNat : Nat) : Int)) := by rw [Int.natCast_add, hl0, hl1]
        rw [e, cutV_nat (by omega) (by rw [rel.mlen]; omega), Nat.add_sub_cancel_left]
        exact look_list rel (by omega)
      rw [cut]
      have hpq : p ≠ q := fun z => by rw [z, upd_same] at hq; cases hq
      refine rd_cat (show upd (upd H p (.lst [.int 0])) q _ p = some (.lst [.int 0]) by rw [upd_ne hpq, upd_same]) upd_same ?_ fun r hr3 => ?_
      · rw [List.length_map, List.length_map, List.length_map, List.length_range]
        have hsl : sizeLine = 16777216 := sizeLine_eq
        show 1 + n.toNat ≤ _
        omega
      · exact k.lay (ms1.new hq) (s1.trans (.new hq ms1.there)) hr3
def sp_pd_set (CM : Addr) : Sp := fun vs H Q _ => ∃ (m : Addr) (k x : Int) (st : Sz15.St), vs = [.ref m, .int k, .int x] ∧ MS CM H m st ∧ Does CM m st (.set k x) H Q
theorem does_set_no {st : Sz15.St} {k x : Int} (h : k < 0 ∨ 8 < k) : Sz15.does st (.set k x) = (st, Sz15.only (-1)) := if_pos h
theorem does_set_yes {st : Sz15.St} {k x : Int} (h : ¬ (k < 0 ∨ 8 < k)) : Sz15.does st (.set k x) = (if k = 8 then st.setPsw (x.emod 65536).toNat else st.setReg k.toNat (x.emod 65536).toNat, Sz15.only 0) := if_neg h
theorem MSy.putReg {C m dx : Addr} {H : Hp} {S : FMachine} {rs ms : List V} {st : Sz15.St} (e1 : H m = some (.ins C dx (mf_Machine S))) (e2 : H S.registers = some (.lst rs)) (e3 : H S.memory = some (.lst ms)) {y : Int} (rel : Rel S rs ms st y) {k x : Nat} (hx : x < 65536) :
    MSy C (upd H S.registers (.lst (rs.set k (.int (x : Nat))))) m (st.setReg k x) y ∧ Stp C m H (upd H S.registers (.lst (rs.set k (.int (x : Nat))))) := by
  have nm : m ≠ S.registers := ne_of e1 e2 (by intro z; cases z)
  have nr : S.memory ≠ S.registers := fun q => by
    rw [q, e2] at e3
    have l : rs = ms := by injection Option.some.inj e3
    have := congrArg List.length l
    rw [rel.mlen, rel.rs, List.length_map, rel.rlen] at this
    exact absurd this (by decide)
  refine ⟨⟨dx, S, _, ms, by rw [upd_ne nm]; exact e1, upd_same, by rw [upd_ne nr]; exact e3, rel.setReg hx⟩, .own (by rw [fp_of e1]; exact .inr (.inl rfl)) (by rw [e2]; exact fun z => by cases z) fun dx' S' e => ?_⟩
  rw [upd_ne nm] at e
  exact ⟨dx', S', e, rfl, rfl⟩
theorem MSy.putFs {C m dx : Addr} {H : Hp} {S S' : FMachine} {rs ms : List V} {st' : Sz15.St} (e1 : H m = some (.ins C dx (mf_Machine S))) (e2 : H S.registers = some (.lst rs)) (e3 : H S.memory = some (.lst ms)) (r1 : S'.registers = S.registers) (r2 : S'.memory = S.memory) {y : Int} (rel : Rel S' rs ms st' y) :
    MSy C (upd H m (.ins C dx (mf_Machine S'))) m st' y ∧ Stp C m H (upd H m (.ins C dx (mf_Machine S'))) := by
  have n1 : S.registers ≠ m := (ne_of e1 e2 (by intro z; cases z)).symm
  have n2 : S.memory ≠ m := (ne_of e1 e3 (by intro z; cases z)).symm
  refine ⟨⟨dx, S', rs, ms, upd_same, by rw [r1, upd_ne n1]; exact e2, by rw [r2, upd_ne n2]; exact e3, rel⟩, .own (.inl rfl) (by rw [e1]; exact fun z => by cases z) fun dx' S2 e => ?_⟩
  rw [upd_same] at e
  have e' := Option.some.inj e
  injection e' with _ _ e4
  have e5 := mf_inj e4
  subst e5
  exact ⟨dx, S, e1, r1, r2⟩
theorem reg_set {rs : List V} {st : Sz15.St} {S : FMachine} {ms : List V} {y : Int} (rel : Rel S rs ms st y) {k : Int} (h0 : 0 ≤ k) (h1 : k < 8) : ixN rs.length k = some k.toNat := ixN_of (by omega) (by rw [rel.rs, List.length_map, rel.rlen]; omega)
theorem ok_pd_set (T : Tx K mg C_Machine C_CallReader C_NoInstruction C_OddPlace C_UnknownCall) : GFn P w K mg base "pd_set" 2 ["machine", "which", "value"] (sp_pd_set C_Machine) := by
  obtain ⟨f, fd, F, hmg, b⟩ := T.d_pd_set
  refine ⟨⟨f, fd, F.okX (k := 1) sc_q98 (fun vs H Q E h => ?_) (fun cdv A outer s H vs Q E hr h => ?_), hmg, F.kp, b⟩⟩
  · obtain ⟨m, wh, x, st, rfl, hms, k⟩ := h
    rfl
  · obtain ⟨m, wh, x, st, rfl, hms, k⟩ := h
    have G_Machine_set_status := ok_Machine_set_status (P := P) (w := w) (base := base) T
    refine ⟨_, (pss_cons (ps_set (i := 3) sc_q98.nd rfl (Or.inl v_q98_word) (pe_op op_mod (pe_var (i := 2) rfl (Or.inl v_q98_value) nd_value nc_value) (pe_globI g_q98_WORD_RANGE T.c_WORD_RANGE nd_WORD_RANGE)))
      (pss_cons (ps_if (pt_chain op_le op_lt pe_int (pe_var (i := 1) rfl (Or.inl v_q98_which) nd_which nc_which) (pe_globI g_q98_REGISTER_COUNT T.c_REGISTER_COUNT nd_REGISTER_COUNT)) (pss_one (ps_asg (pe_var (i := 3) rfl (Or.inl v_q98_word) nd_word nc_word) (pg_sub (pe_fldK (K := K) rfl (pe_var (i := 0) rfl (Or.inl v_q98_machine) nd_machine nc_machine) rfl) (pe_var (i := 1) rfl (Or.inl v_q98_which) nd_which nc_which) set_list))) (pss_one (ps_if (pt_cmpR op_eq (pe_var (i := 1) rfl (Or.inl v_q98_which) nd_which nc_which) (pe_globI g_q98_STATUS_WORD T.c_STATUS_WORD nd_STATUS_WORD) (nomark _)) (pss_one (ps_expr (pe_methE G_Machine_set_status (hr.mono (by decide)) pass_body (pe_var (i := 0) rfl (Or.inl v_q98_machine) nd_machine nc_machine) (pa_cons (pe_var (i := 3) rfl (Or.inl v_q98_word) nd_word nc_word) pa_nil)))) (pss_one (ps_ret (pe_lst (pa_cons (pe_globI g_q98_REFUSED T.c_REFUSED nd_REFUSED) pa_nil)))))))
      (pss_one (ps_ret (pe_lst (pa_cons (pe_globI g_q98_DONE T.c_DONE nd_DONE) pa_nil)))))), ?_⟩
    obtain ⟨dx, S, rs, ms, e1, e2, e3, rel⟩ := hms.ex
    walk_at "rd"
    have hx0 : 0 ≤ x % 65536 := Int.emod_nonneg _ (by decide)
    have hx1 : x % 65536 < 65536 := Int.emod_lt_of_pos _ (by decide)
    have hx : (((x % 65536).toNat : Nat) : Int) = x % 65536 := by omega
    have fin : ∀ (st' : Sz15.St) (H1 : Hp), MS C_Machine H1 m st' → Stp C_Machine m H H1 → st' = (Sz15.does st (.set wh x)).1 → ¬ (wh < 0 ∨ 8 < wh) → ∀ p, H1 p = none → Q (.ref p) (upd H1 p (.lst [.int 0])) := fun st' H1 h1 h2 e hn p hp => by
      subst e
      rw [Does, does_set_yes hn] at k
      rw [does_set_yes hn] at h1
      exact k.lay h1 h2 hp
    refine rd_ite (fun h1 => ?_) (fun h1 => ?_)
    · walk_at "rd"
      refine rd_ite (fun h2 => ?_) (fun h2 => ?_)
      · walk_at "rd"
        refine rd_setL e2 (reg_set rel h1 h2) ?_
        have q := MSy.putReg (C := C_Machine) e1 e2 e3 rel (k := wh.toNat) (x := (x % 65536).toNat) (by omega)
        rw [hx] at q
        walk_at "rd"
        refine ⟨by decide, fun p hp => fin _ _ q.1 q.2 ?_ (by omega) p hp⟩
        rw [does_set_yes (by omega), if_neg (by omega)]
        rfl
      · walk_at "rd"
        refine rd_ite (fun h3 => ?_) (fun h3 => ?_)
        · walk_at "rd"
          refine ⟨m, dx, _, _, rfl, e1, by show 8 ≤ 900; decide, ?_⟩
          rw [stF_mf]
          have q := MSy.putFs (C := C_Machine) (S' := psF (x % 65536) S) e1 e2 e3 rfl rfl (by have := rel.setPsw (x % 65536).toNat; rw [hx] at this; exact this)
          walk_at "rd"
          refine ⟨by decide, fun p hp => fin _ _ q.1 q.2 ?_ (by omega) p hp⟩
          rw [does_set_yes (by omega), if_pos (by omega)]
          rfl
        · walk_at "rd"
          rw [Does, does_set_no (by omega)] at k
          exact ⟨by decide, fun p hp => k.lay hms .refl hp⟩
    · walk_at "rd"
      refine rd_ite (fun h3 => ?_) (fun h3 => ?_)
      · exact absurd h3 (by omega)
      · walk_at "rd"
        rw [Does, does_set_no (by omega)] at k
        exact ⟨by decide, fun p hp => k.lay hms .refl hp⟩
end
section
variable {P : Program} {w : World} {K : PySem.W.Frag} {mg : Str → Option Value} {base : Heap} {C_Machine C_CallReader C_NoInstruction C_OddPlace C_UnknownCall : Addr}
theorem bA (a b : Nat) : Builtin.bitAnd (a : Int) (b : Int) = ((a &&& b : Nat) : Int) := by rw [PyProof.Rows.bitAnd_pp (by omega) (by omega)]; rfl
theorem bX (a b : Nat) : Builtin.bitXor (a : Int) (b : Int) = ((a ^^^ b : Nat) : Int) := by
  rw [PyProof.Rows.bitXor_and, bA]
  have h := xor_add _ a b (Nat.le_refl _)
  omega
theorem bO (a b : Nat) : Builtin.bitOr (a : Int) (b : Int) = ((a ||| b : Nat) : Int) := by
  rw [PyProof.Rows.bitOr_and, bA]
  have h := or_add _ a b (Nat.le_refl _)
  omega
theorem bA1 (a : Nat) : Builtin.bitAnd (a : Int) 1 = ((a % 2 : Nat) : Int) := by rw [PyProof.Rows.bitAnd_m1]; omega
theorem bA7 (a : Nat) : Builtin.bitAnd (a : Int) 7 = ((a % 8 : Nat) : Int) := by rw [PyProof.Rows.bitAnd_m3]; omega
theorem bA15 (a : Nat) : Builtin.bitAnd (a : Int) 15 = ((a % 16 : Nat) : Int) := by rw [PyProof.Rows.bitAnd_m4]; omega
theorem bA63 (a : Nat) : Builtin.bitAnd (a : Int) 63 = ((a % 64 : Nat) : Int) := by rw [PyProof.Rows.bitAnd_m6]; omega
theorem bA255 (a : Nat) : Builtin.bitAnd (a : Int) 255 = ((a % 256 : Nat) : Int) := by rw [PyProof.Rows.bitAnd_m8]; omega
theorem sR (a : Nat) (k : Nat) : (a : Int) / 2 ^ k = ((a / 2 ^ k : Nat) : Int) := by rw [Int.natCast_ediv, Int.natCast_pow]; rfl
theorem sL (a : Nat) (k : Nat) : (a : Int) * 2 ^ k = ((a * 2 ^ k : Nat) : Int) := by rw [Int.natCast_mul, Int.natCast_pow]; rfl
theorem or_hi {a b : Nat} (ha : a < 256) : a ||| b * 256 = a + 256 * b := by
  have h := Nat.two_pow_add_eq_or_of_lt (i := 8) (b := a) (by omega) b
  rw [Nat.or_comm, Nat.mul_comm b 256, show (256 : Nat) = 2 ^ 8 from rfl, ← h]
  omega
theorem Rel.wf {S : FMachine} {rs ms : List V} {st : Sz15.St} {y : Int} (h : Rel S rs ms st y) : WF st := ⟨h.rlen, h.rlt, h.mlt, h.prlt⟩
theorem MSy.wf {C m : Addr} {H : Hp} {st : Sz15.St} {y : Int} (h : MSy C H m st y) : WF st := by
  obtain ⟨_, _, _, _, _, _, _, r⟩ := h.ex
  exact r.wf
theorem Rel.get {S : FMachine} {rs ms : List V} {st : Sz15.St} {y : Int} (h : Rel S rs ms st y) {i : Int} {k : Nat} (e : i = (k : Int)) (hk : k < 8) : atI rs i = some (.int ((st.reg k : Nat) : Int)) := by
  subst e
  refine atI_nat ?_
  have hl : k < st.r.length := by rw [h.rlen]; exact hk
  rw [h.rs, List.getElem?_map, List.getElem?_eq_getElem hl]
  show some (V.int ((st.r[k] : Nat) : Int)) = some (V.int ((st.r.getD k 0 : Nat) : Int))
  rw [List.getD_eq_getElem?_getD, List.getElem?_eq_getElem hl]
  rfl
theorem Rel.at {S : FMachine} {rs ms : List V} {st : Sz15.St} {y : Int} (h : Rel S rs ms st y) {i : Int} {a : Nat} (e : i = (a : Int)) (ha : a < 65536) : atI ms i = some (.int ((st.byte a : Nat) : Int)) := by
  subst e
  refine atI_nat ?_
  rw [h.mget a ha]
  unfold Sz15.St.byte
  rw [show Sz15.w16 a = a from Nat.mod_eq_of_lt ha]
theorem Rel.ixR {S : FMachine} {rs ms : List V} {st : Sz15.St} {y : Int} (h : Rel S rs ms st y) {i : Int} {k : Nat} (e : i = (k : Int)) (hk : k < 8) : ixN rs.length i = some k := ixN_of e (by rw [h.rs, List.length_map, h.rlen]; exact hk)
theorem Rel.ixM {S : FMachine} {rs ms : List V} {st : Sz15.St} {y : Int} (h : Rel S rs ms st y) {i : Int} {a : Nat} (e : i = (a : Int)) (ha : a < 65536) : ixN ms.length i = some a := ixN_of e (by rw [h.mlen]; exact ha)
theorem setReg_mod (st : Sz15.St) (k x : Nat) : st.setReg k (x % 65536) = st.setReg k x := by
  unfold Sz15.St.setReg Sz15.w16
  rw [Nat.mod_mod]
section
variable {C m dx : Addr} {H : Hp} {S : FMachine} {rs ms : List V} {st : Sz15.St} {y : Int}
theorem set_reg (e1 : H m = some (.ins C dx (mf_Machine S))) (e2 : H S.registers = some (.lst rs)) (e3 : H S.memory = some (.lst ms)) (rel : Rel S rs ms st y) {k : Nat} {v : Int} (x : Nat) (hv : v = ((x % 65536 : Nat) : Int)) :
    MSy C (upd H S.registers (.lst (rs.set k (.int v)))) m (st.setReg k x) y ∧ Stp C m H (upd H S.registers (.lst (rs.set k (.int v)))) := by
  subst hv
  rw [← setReg_mod]
  exact MSy.putReg e1 e2 e3 rel (Nat.mod_lt _ (by decide))
theorem set_mem (e1 : H m = some (.ins C dx (mf_Machine S))) (e2 : H S.registers = some (.lst rs)) (e3 : H S.memory = some (.lst ms)) (rel : Rel S rs ms st y) {a : Nat} {v : Int} (x : Nat) (ha : a < 65536) (hv : v = ((x % 256 : Nat) : Int)) :
    MSy C (upd H S.memory (.lst (ms.set a (.int v)))) m (st.putByte a x) y ∧ Stp C m H (upd H S.memory (.lst (ms.set a (.int v)))) := by
  subst hv
  rw [← putByte_mod]
  have nm : m ≠ S.memory := ne_of e1 e3 (by intro z; cases z)
  have nr : S.registers ≠ S.memory := fun q => by
    rw [← q, e2] at e3
    have l : rs = ms := by injection Option.some.inj e3
    have := congrArg List.length l
    rw [rel.mlen, rel.rs, List.length_map, rel.rlen] at this
    exact absurd this (by decide)
  refine ⟨⟨dx, S, rs, _, by rw [upd_ne nm]; exact e1, by rw [upd_ne nr]; exact e2, upd_same, rel.putByte ha (Nat.mod_lt _ (by decide))⟩, .own (by rw [fp_of e1]; exact .inr (.inr rfl)) (by rw [e3]; exact fun z => by cases z) fun dx' S' e => ?_⟩
  rw [upd_ne nm] at e
  exact ⟨dx', S', e, rfl, rfl⟩
theorem set_fs (e1 : H m = some (.ins C dx (mf_Machine S))) (e2 : H S.registers = some (.lst rs)) (e3 : H S.memory = some (.lst ms)) {S' : FMachine} {st' : Sz15.St} {y' : Int} (r1 : S'.registers = S.registers) (r2 : S'.memory = S.memory) (rel : Rel S' rs ms st' y') :
    MSy C (upd H m (.ins C dx (mf_Machine S'))) m st' y' ∧ Stp C m H (upd H m (.ins C dx (mf_Machine S'))) := MSy.putFs e1 e2 e3 r1 r2 rel
theorem Rel.setFl (h : Rel S rs ms st y) (n z v c : Bool) : Rel { S with negative := ((n.toNat : Nat) : Int), zero := ((z.toNat : Nat) : Int), overflow := ((v.toNat : Nat) : Int), carry := ((c.toNat : Nat) : Int) } rs ms (fl st n z v c) y :=
  ⟨h.rs, h.rlen, h.rlt, h.mlen, h.mget, h.mlt, h.pr, h.prlt, rfl, rfl, rfl, rfl, h.why⟩
theorem Rel.setWhy (h : Rel S rs ms st y) (y' : Int) : Rel { S with why := y' } rs ms st y' :=
  ⟨h.rs, h.rlen, h.rlt, h.mlen, h.mget, h.mlt, h.pr, h.prlt, h.n, h.z, h.v, h.c, rfl⟩
end
section
variable {C m dx : Addr} {H : Hp} {S : FMachine} {rs ms : List V} {st : Sz15.St} {y : Int}
theorem set_fl (e1 : H m = some (.ins C dx (mf_Machine S))) (e2 : H S.registers = some (.lst rs)) (e3 : H S.memory = some (.lst ms)) (rel : Rel S rs ms st y) (n z v c : Bool) :
    MSy C (upd H m (.ins C dx (mf_Machine { S with negative := ((n.toNat : Nat) : Int), zero := ((z.toNat : Nat) : Int), overflow := ((v.toNat : Nat) : Int), carry := ((c.toNat : Nat) : Int) }))) m (fl st n z v c) y ∧ Stp C m H (upd H m (.ins C dx (mf_Machine { S with negative := ((n.toNat : Nat) : Int), zero := ((z.toNat : Nat) : Int), overflow := ((v.toNat : Nat) : Int), carry := ((c.toNat : Nat) : Int) }))) :=
  MSy.putFs e1 e2 e3 (S' := { S with negative := ((n.toNat : Nat) : Int), zero := ((z.toNat : Nat) : Int), overflow := ((v.toNat : Nat) : Int), carry := ((c.toNat : Nat) : Int) }) rfl rfl (rel.setFl n z v c)
end
structure Same (a b : Sz15.St) : Prop where
  mem : b.mem = a.mem
  pr : b.priority = a.priority
  n : b.n = a.n
  z : b.z = a.z
  v : b.v = a.v
  c : b.c = a.c
theorem Same.refl {a : Sz15.St} : Same a a := ⟨rfl, rfl, rfl, rfl, rfl, rfl⟩
theorem Same.trans {a b c : Sz15.St} (x : Same a b) (y : Same b c) : Same a c := ⟨y.mem.trans x.mem, y.pr.trans x.pr, y.n.trans x.n, y.z.trans x.z, y.v.trans x.v, y.c.trans x.c⟩
theorem Same.setReg {a : Sz15.St} {k x : Nat} : Same a (a.setReg k x) := ⟨rfl, rfl, rfl, rfl, rfl, rfl⟩
def Ret (C m : Addr) (H : Hp) (st' : Sz15.St) (y : Int) (v : V) (Q : VK) : Prop := ∀ H', MSy C H' m st' y → Stp C m H H' → Q v H'
def Fall (C m X : Addr) (H : Hp) (st : Sz15.St) (y : Int) (E : XK) : Prop := ∀ st' H', MSy C H' m st' y → Same st st' → Stp C m H H' → E (.ref X) none H'
section
variable {C m X : Addr} {H H1 : Hp} {st st1 : Sz15.St} {y : Int} {v : V} {Q : VK} {E : XK}
theorem Ret.go (k : Ret C m H st y v Q) (s : Stp C m H H1) : Ret C m H1 st y v Q := fun H' h s' => k H' h (s.trans s')
theorem Fall.go (k : Fall C m X H st y E) (s : Stp C m H H1) (e : Same st st1) : Fall C m X H1 st1 y E := fun st' H' h e' s' => k st' H' h (e.trans e') (s.trans s')
theorem Fall.at (k : Fall C m X H st y E) (h : MSy C H1 m st1 y) (e : Same st st1) (s : Stp C m H H1) : E (.ref X) none H1 := k st1 H1 h e s
end
def Out (C m O : Addr) (H : Hp) (st : Sz15.St) (y : Int) (o : Option (Sz15.St × V)) (Q : VK) (E : XK) : Prop := match o with
  | some p => Ret C m H p.1 y p.2 Q
  | none => Fall C m O H st y E
def Out0 (C m O : Addr) (H : Hp) (y : Int) (o : Option (Sz15.St × V)) (Q : VK) (E : XK) : Prop := match o with
  | some p => Ret C m H p.1 y p.2 Q
  | none => E (.ref O) none H
theorem sp_ss {C m : Addr} {H : Hp} {st : Sz15.St} {y : Int} {v : Int} {Q : VK} {E : XK} (ms : MSy C H m st y) (x : Nat) (hv : v = (x : Int)) (k : Ret C m H (st.setPsw x) y .non Q) : sp_set_status C [.ref m, .int v] H Q E := by
  subst hv
  obtain ⟨dx, S, rs, mm, e1, e2, e3, rel⟩ := ms.ex
  refine ⟨m, dx, _, _, rfl, e1, by show 8 ≤ 900; decide, ?_⟩
  rw [stF_mf]
  have q := set_fs e1 e2 e3 (S' := psF x S) rfl rfl (rel.setPsw x)
  exact k _ q.1 q.2
def sp_status_word (C : Addr) : Sp := fun vs H Q _ => ∃ (m : Addr) (st : Sz15.St) (y : Int), vs = [.ref m] ∧ MSy C H m st y ∧ Q (.int ((st.psw : Nat) : Int)) H
theorem ok_Machine_status_word (T : Tx K mg C_Machine C_CallReader C_NoInstruction C_OddPlace C_UnknownCall) : GMt P w K mg base C_Machine "status_word" 1 ["self"] (sp_status_word C_Machine) := by
  obtain ⟨f, fd, F, M, b⟩ := T.m_Machine_status_word
  refine ⟨⟨f, fd, F.okX (k := 0) sc_q3 (fun vs H Q E h => ?_) (fun cdv A outer s H vs Q E hr h => ?_), T.cl_Machine, M, b⟩⟩
  · obtain ⟨m, st, y, rfl, hms, k⟩ := h
    rfl
  · obtain ⟨m, st, y, rfl, hms, k⟩ := h
    refine ⟨_, (pss_one (ps_ret (pe_op op_add (pe_op op_add (pe_op op_add (pe_op op_add (pe_op op_mul (pe_fldK (K := K) rfl (pe_var (i := 0) rfl (Or.inl v_q3_self) nd_self nc_self) rfl) pe_int) (pe_op op_mul (pe_fldK (K := K) rfl (pe_var (i := 0) rfl (Or.inl v_q3_self) nd_self nc_self) rfl) pe_int)) (pe_op op_mul (pe_fldK (K := K) rfl (pe_var (i := 0) rfl (Or.inl v_q3_self) nd_self nc_self) rfl) pe_int)) (pe_op op_mul (pe_fldK (K := K) rfl (pe_var (i := 0) rfl (Or.inl v_q3_self) nd_self nc_self) rfl) pe_int)) (pe_fldK (K := K) rfl (pe_var (i := 0) rfl (Or.inl v_q3_self) nd_self nc_self) rfl)))), ?_⟩
    obtain ⟨dx, S, rs, ms, e1, e2, e3, rel⟩ := hms.ex
    walk_at "rd"
    have e : S.priority * 32 + S.negative * 8 + S.zero * 4 + S.overflow * 2 + S.carry = ((st.psw : Nat) : Int) := by
      rw [rel.pr, rel.n, rel.z, rel.v, rel.c]
      unfold Sz15.St.psw
      omega
    rw [e]
    exact k
def sp_set_flags (C : Addr) : Sp := fun vs H Q _ => ∃ (m : Addr) (st : Sz15.St) (y : Int) (x t : Nat) (v c : Bool), vs = [.ref m, .int (x : Nat), .int (t : Nat), .int ((v.toNat : Nat) : Int), .int ((c.toNat : Nat) : Int)] ∧ MSy C H m st y ∧
  Ret C m H (fl st (((x &&& t : Nat) : Int) != 0) (decide (x = 0)) v c) y .non Q
theorem ok_Machine_set_flags (T : Tx K mg C_Machine C_CallReader C_NoInstruction C_OddPlace C_UnknownCall) : GMt P w K mg base C_Machine "set_flags" 1 ["self", "result", "top", "overflow", "carry"] (sp_set_flags C_Machine) := by
  obtain ⟨f, fd, F, M, b⟩ := T.m_Machine_set_flags
  refine ⟨⟨f, fd, F.okX (k := 0) sc_q4 (fun vs H Q E h => ?_) (fun cdv A outer s H vs Q E hr h => ?_), T.cl_Machine, M, b⟩⟩
  · obtain ⟨m, st, y, x, t, v, c, rfl, hms, k⟩ := h
    rfl
  · obtain ⟨m, st, y, x, t, v, c, rfl, hms, k⟩ := h
    refine ⟨_, (pss_cons (ps_fldK (K := K) rfl (pe_var (i := 0) rfl (Or.inl v_q4_self) nd_self nc_self) (pe_ifExp (pt_truthK (K := K) rfl (pe_op op_and (pe_var (i := 1) rfl (Or.inl v_q4_result) nd_result nc_result) (pe_var (i := 2) rfl (Or.inl v_q4_top) nd_top nc_top)) (fun _ => rfl)) pe_int pe_int) rfl)
      (pss_cons (ps_fldK (K := K) rfl (pe_var (i := 0) rfl (Or.inl v_q4_self) nd_self nc_self) (pe_ifExp (pt_cmpR op_eq (pe_var (i := 1) rfl (Or.inl v_q4_result) nd_result nc_result) pe_int (nomark _)) pe_int pe_int) rfl)
      (pss_cons (ps_fldK (K := K) rfl (pe_var (i := 0) rfl (Or.inl v_q4_self) nd_self nc_self) (pe_var (i := 3) rfl (Or.inl v_q4_overflow) nd_overflow nc_overflow) rfl)
      (pss_one (ps_fldK (K := K) rfl (pe_var (i := 0) rfl (Or.inl v_q4_self) nd_self nc_self) (pe_var (i := 4) rfl (Or.inl v_q4_carry) nd_carry nc_carry) rfl))))), ?_⟩
    obtain ⟨dx, S, rs, ms, e1, e2, e3, rel⟩ := hms.ex
    walk_at "rd"
    rw [pt_Machine_negative]
    walk_at "rd"
    rw [upd_upd, pt_Machine_zero]
    walk_at "rd"
    rw [upd_upd, pt_Machine_overflow]
    walk_at "rd"
    rw [upd_upd, pt_Machine_carry]
    have q := set_fl (C := C_Machine) e1 e2 e3 rel (((x &&& t : Nat) : Int) != 0) (decide (x = 0)) v c
    rw [bA, show decide ((x : Int) = 0) = decide (x = 0) from decide_eq_decide.mpr (by omega)]
    exact k _ q.1 q.2
def sp_read_word (C O : Addr) : Sp := fun vs H Q E => ∃ (m : Addr) (st : Sz15.St) (y : Int) (a : Nat), vs = [.ref m, .int (a : Nat)] ∧ MSy C H m st y ∧ a < 65536 ∧ (match st.word a with
  | some x => Q (.int (x : Nat)) H
  | none => E (.ref O) none H)
theorem word_even {st : Sz15.St} {a : Nat} (ha : a < 65536) (h : a % 2 = 0) : st.word a = some (st.byte a + 256 * st.byte (a + 1)) := if_neg (by unfold Sz15.w16; omega)
theorem word_odd {st : Sz15.St} {a : Nat} (ha : a < 65536) (h : a % 2 = 1) : st.word a = none := if_pos (by unfold Sz15.w16; omega)
theorem log_small {a : Nat} (h : a < 65536) : ((a : Nat) : Int).natAbs.log2 < 64 := by
  rw [Int.natAbs_natCast]
  by_cases z : a = 0
  · subst z; decide
  · exact (Nat.log2_lt z).mpr (Nat.lt_of_lt_of_le h (by decide))
theorem ok_Machine_read_word (T : Tx K mg C_Machine C_CallReader C_NoInstruction C_OddPlace C_UnknownCall) : GMt P w K mg base C_Machine "read_word" 1 ["self", "place"] (sp_read_word C_Machine C_OddPlace) := by
  obtain ⟨f, fd, F, M, b⟩ := T.m_Machine_read_word
  refine ⟨⟨f, fd, F.okX (k := 0) sc_q6 (fun vs H Q E h => ?_) (fun cdv A outer s H vs Q E hr h => ?_), T.cl_Machine, M, b⟩⟩
  · obtain ⟨m, st, y, a, rfl, hms, ha, k⟩ := h
    rfl
  · obtain ⟨m, st, y, a, rfl, hms, ha, k⟩ := h
    refine ⟨_, (pss_cons (ps_if (pt_truthK (K := K) rfl (pe_op op_and (pe_var (i := 1) rfl (Or.inl v_q6_place) nd_place nc_place) pe_int) (fun _ => rfl)) (pss_one (ps_raise rfl T.x_OddPlace raise_body g_q6_OddPlace (pa_cons (pe_fs2 (pe_var (i := 1) rfl (Or.inl v_q6_place) nd_place nc_place)) pa_nil) nd_OddPlace)) pss_nil)
      (pss_one (ps_ret (pe_op op_or (pe_ixLK (K := K) rfl (pe_fldK (K := K) rfl (pe_var (i := 0) rfl (Or.inl v_q6_self) nd_self nc_self) rfl) (pe_var (i := 1) rfl (Or.inl v_q6_place) nd_place nc_place) (fun _ _ => rfl)) (pe_op op_shl (pe_ixLK (K := K) rfl (pe_fldK (K := K) rfl (pe_var (i := 0) rfl (Or.inl v_q6_self) nd_self nc_self) rfl) (pe_op op_add (pe_var (i := 1) rfl (Or.inl v_q6_place) nd_place nc_place) pe_int) (fun _ _ => rfl)) pe_int))))), ?_⟩
    obtain ⟨dx, S, rs, ms, e1, e2, e3, rel⟩ := hms.ex
    walk_at "rd"
    rw [bA1, nz_cast]
    refine rd_iten (fun h => ?_) (fun h => ?_)
    · rw [word_odd ha (by omega)] at k
      walk_at "rd"
      refine ⟨log_small ha, fun s => ?_⟩
      walk_at "rd"
      exact ⟨by show 1 ≤ sizeLine; decide, k⟩
    · rw [word_even ha h] at k
      walk_at "rd"
      refine rd_ixL (SqL.of e3) (rel.at rfl ha) ?_
      walk_at "rd"
      refine rd_ixL (SqL.of e3) (rel.at (a := a + 1) (by omega) (by omega)) ?_
      have b0 := rel.wf.byte a
      have b1 := rel.wf.byte (a + 1)
      walk_at "rd"
      rw [show (8 : Int).toNat = 8 from rfl, sL, bO, show (2 : Nat) ^ 8 = 256 from rfl, or_hi b0]
      exact k
def sp_write_word (C O : Addr) : Sp := fun vs H Q E => ∃ (m : Addr) (st : Sz15.St) (y : Int) (a x : Nat), vs = [.ref m, .int (a : Nat), .int (x : Nat)] ∧ MSy C H m st y ∧ a < 65536 ∧ x < 65536 ∧ Out0 C m O H y ((st.putWord a x).map fun s => (s, .non)) Q E
theorem putWord_even {st : Sz15.St} {a x : Nat} (ha : a < 65536) (h : a % 2 = 0) : st.putWord a x = some ((st.putByte a x).putByte (a + 1) (x / 256)) := if_neg (by unfold Sz15.w16; omega)
theorem putWord_odd {st : Sz15.St} {a x : Nat} (ha : a < 65536) (h : a % 2 = 1) : st.putWord a x = none := if_pos (by unfold Sz15.w16; omega)
theorem ok_Machine_write_word (T : Tx K mg C_Machine C_CallReader C_NoInstruction C_OddPlace C_UnknownCall) : GMt P w K mg base C_Machine "write_word" 1 ["self", "place", "word"] (sp_write_word C_Machine C_OddPlace) := by
  obtain ⟨f, fd, F, M, b⟩ := T.m_Machine_write_word
  refine ⟨⟨f, fd, F.okX (k := 0) sc_q7 (fun vs H Q E h => ?_) (fun cdv A outer s H vs Q E hr h => ?_), T.cl_Machine, M, b⟩⟩
  · obtain ⟨m, st, y, a, x, rfl, hms, ha, hx, k⟩ := h
    rfl
  · obtain ⟨m, st, y, a, x, rfl, hms, ha, hx, k⟩ := h
    refine ⟨_, (pss_cons (ps_if (pt_truthK (K := K) rfl (pe_op op_and (pe_var (i := 1) rfl (Or.inl v_q7_place) nd_place nc_place) pe_int) (fun _ => rfl)) (pss_one (ps_raise rfl T.x_OddPlace raise_body g_q7_OddPlace (pa_cons (pe_fs2 (pe_var (i := 1) rfl (Or.inl v_q7_place) nd_place nc_place)) pa_nil) nd_OddPlace)) pss_nil)
      (pss_cons (ps_asg (pe_op op_and (pe_var (i := 2) rfl (Or.inl v_q7_word) nd_word nc_word) pe_int) (pg_sub (pe_fldK (K := K) rfl (pe_var (i := 0) rfl (Or.inl v_q7_self) nd_self nc_self) rfl) (pe_var (i := 1) rfl (Or.inl v_q7_place) nd_place nc_place) set_list))
      (pss_one (ps_asg (pe_op op_shr (pe_var (i := 2) rfl (Or.inl v_q7_word) nd_word nc_word) pe_int) (pg_sub (pe_fldK (K := K) rfl (pe_var (i := 0) rfl (Or.inl v_q7_self) nd_self nc_self) rfl) (pe_op op_add (pe_var (i := 1) rfl (Or.inl v_q7_place) nd_place nc_place) pe_int) set_list))))), ?_⟩
    obtain ⟨dx, S, rs, ms, e1, e2, e3, rel⟩ := hms.ex
    walk_at "rd"
    rw [bA1, nz_cast]
    refine rd_iten (fun h => ?_) (fun h => ?_)
    · rw [putWord_odd ha (by omega)] at k
      walk_at "rd"
      refine ⟨log_small ha, fun s => ?_⟩
      walk_at "rd"
      exact ⟨by show 1 ≤ sizeLine; decide, k⟩
    · rw [putWord_even ha h] at k
      walk_at "rd"
      refine rd_setL e3 (rel.ixM rfl ha) ?_
      have q := set_mem (C := C_Machine) e1 e2 e3 rel x ha (bA255 x)
      obtain ⟨dx', S', rs', ms', z1, z2, z3, rel'⟩ := q.1.ex
      walk_at "rd"
      refine rd_setL z3 (rel'.ixM (a := a + 1) (by omega) (by omega)) ?_
      have q2 := set_mem (C := C_Machine) z1 z2 z3 rel' (a := a + 1) (v := (x : Int) / 2 ^ (8 : Int).toNat) (x / 256) (by omega) (by rw [show (8 : Int).toNat = 8 from rfl, sR]; omega)
      exact k _ q2.1 (q.2.trans q2.2)
def sp_fetch (C O : Addr) : Sp := fun vs H Q E => ∃ (m : Addr) (st : Sz15.St) (y : Int), vs = [.ref m] ∧ MSy C H m st y ∧ Out0 C m O H y (st.fetch.map fun p => (p.1, .int (p.2 : Nat))) Q E
theorem ok_Machine_take_next_word (T : Tx K mg C_Machine C_CallReader C_NoInstruction C_OddPlace C_UnknownCall) : GMt P w K mg base C_Machine "take_next_word" 2 ["self"] (sp_fetch C_Machine C_OddPlace) := by
  obtain ⟨f, fd, F, M, b⟩ := T.m_Machine_take_next_word
  refine ⟨⟨f, fd, F.okX (k := 1) sc_q8 (fun vs H Q E h => ?_) (fun cdv A outer s H vs Q E hr h => ?_), T.cl_Machine, M, b⟩⟩
  · obtain ⟨m, st, y, rfl, hms, k⟩ := h
    rfl
  · obtain ⟨m, st, y, rfl, hms, k⟩ := h
    have G_Machine_read_word := ok_Machine_read_word (P := P) (w := w) (base := base) T
    refine ⟨_, (pss_cons (ps_set (i := 1) sc_q8.nd rfl (Or.inl v_q8_place) (pe_ixLK (K := K) rfl (pe_fldK (K := K) rfl (pe_var (i := 0) rfl (Or.inl v_q8_self) nd_self nc_self) rfl) (pe_globI g_q8_PC T.c_PC nd_PC) (fun _ _ => rfl)))
      (pss_cons (ps_set (i := 2) sc_q8.nd rfl (Or.inl v_q8_word) (pe_methE G_Machine_read_word (hr.mono (by decide)) pass_body (pe_var (i := 0) rfl (Or.inl v_q8_self) nd_self nc_self) (pa_cons (pe_var (i := 1) rfl (Or.inl v_q8_place) nd_place nc_place) pa_nil)))
      (pss_cons (ps_asg (pe_op op_mod (pe_op op_add (pe_var (i := 1) rfl (Or.inl v_q8_place) nd_place nc_place) pe_int) (pe_globI g_q8_WORD_RANGE T.c_WORD_RANGE nd_WORD_RANGE)) (pg_sub (pe_fldK (K := K) rfl (pe_var (i := 0) rfl (Or.inl v_q8_self) nd_self nc_self) rfl) (pe_globI g_q8_PC T.c_PC nd_PC) set_list))
      (pss_one (ps_ret (pe_var (i := 2) rfl (Or.inl v_q8_word) nd_word nc_word)))))), ?_⟩
    obtain ⟨dx, S, rs, ms, e1, e2, e3, rel⟩ := hms.ex
    walk_at "rd"
    refine rd_ixL (SqL.of e2) (rel.get (k := 7) rfl (by decide)) ?_
    walk_at "rd"
    refine ⟨m, st, y, st.reg 7, rfl, hms, rel.wf.reg 7, ?_⟩
    have ef : st.fetch = (st.word (st.reg 7)).map fun x => (st.setReg 7 (st.reg 7 + 2), x) := rfl
    rw [ef] at k
    cases e : st.word (st.reg 7) with
    | none => rw [e] at k; exact k
    | some x =>
      rw [e] at k
      walk_at "rd"
      refine rd_setL e2 (rel.ixR (k := 7) rfl (by decide)) ?_
      have q := set_reg (C := C_Machine) e1 e2 e3 rel (k := 7) (v := ((st.reg 7 : Nat) + 2 : Int) % 65536) (st.reg 7 + 2) (by omega)
      walk_at "rd"
      exact k _ q.1 q.2
def sp_push (C O : Addr) : Sp := fun vs H Q E => ∃ (m : Addr) (st : Sz15.St) (y : Int) (x : Nat), vs = [.ref m, .int (x : Nat)] ∧ MSy C H m st y ∧ x < 65536 ∧ Out0 C m O H y ((st.push x).map fun s => (s, .non)) Q E
theorem ok_Machine_push (T : Tx K mg C_Machine C_CallReader C_NoInstruction C_OddPlace C_UnknownCall) : GMt P w K mg base C_Machine "push" 2 ["self", "word"] (sp_push C_Machine C_OddPlace) := by
  obtain ⟨f, fd, F, M, b⟩ := T.m_Machine_push
  refine ⟨⟨f, fd, F.okX (k := 1) sc_q9 (fun vs H Q E h => ?_) (fun cdv A outer s H vs Q E hr h => ?_), T.cl_Machine, M, b⟩⟩
  · obtain ⟨m, st, y, x, rfl, hms, hx, k⟩ := h
    rfl
  · obtain ⟨m, st, y, x, rfl, hms, hx, k⟩ := h
    have G_Machine_write_word := ok_Machine_write_word (P := P) (w := w) (base := base) T
    refine ⟨_, (pss_cons (ps_set (i := 2) sc_q9.nd rfl (Or.inl v_q9_place) (pe_op op_mod (pe_op op_sub (pe_ixLK (K := K) rfl (pe_fldK (K := K) rfl (pe_var (i := 0) rfl (Or.inl v_q9_self) nd_self nc_self) rfl) (pe_globI g_q9_SP T.c_SP nd_SP) (fun _ _ => rfl)) pe_int) (pe_globI g_q9_WORD_RANGE T.c_WORD_RANGE nd_WORD_RANGE)))
      (pss_cons (ps_expr (pe_methE G_Machine_write_word (hr.mono (by decide)) pass_body (pe_var (i := 0) rfl (Or.inl v_q9_self) nd_self nc_self) (pa_cons (pe_var (i := 2) rfl (Or.inl v_q9_place) nd_place nc_place) (pa_cons (pe_var (i := 1) rfl (Or.inl v_q9_word) nd_word nc_word) pa_nil))))
      (pss_one (ps_asg (pe_var (i := 2) rfl (Or.inl v_q9_place) nd_place nc_place) (pg_sub (pe_fldK (K := K) rfl (pe_var (i := 0) rfl (Or.inl v_q9_self) nd_self nc_self) rfl) (pe_globI g_q9_SP T.c_SP nd_SP) set_list))))), ?_⟩
    obtain ⟨dx, S, rs, ms, e1, e2, e3, rel⟩ := hms.ex
    walk_at "rd"
    refine rd_ixL (SqL.of e2) (rel.get (k := 6) rfl (by decide)) ?_
    walk_at "rd"
    have hr6 := rel.wf.reg 6
    have ea : ((st.reg 6 : Nat) - 2 : Int) % 65536 = ((Sz15.w16 (st.reg 6 + 65534) : Nat) : Int) := by unfold Sz15.w16; omega
    rw [ea]
    have hl : Sz15.w16 (st.reg 6 + 65534) < 65536 := Nat.mod_lt _ (by decide)
    refine ⟨m, st, y, Sz15.w16 (st.reg 6 + 65534), x, rfl, hms, hl, hx, ?_⟩
    have ep : st.push x = (st.setReg 6 (Sz15.w16 (st.reg 6 + 65534))).putWord (Sz15.w16 (st.reg 6 + 65534)) x := rfl
    generalize Sz15.w16 (st.reg 6 + 65534) = p at *
    rw [ep] at k
    by_cases h : p % 2 = 1
    · rw [putWord_odd hl h] at k ⊢
      exact k
    · rw [putWord_even hl (by omega)] at k ⊢
      intro H1 h1 s1
      obtain ⟨dx', S', rs', ms', z1, z2, z3, rel'⟩ := h1.ex
      walk_at "rd"
      refine rd_setL z2 (rel'.ixR (k := 6) rfl (by decide)) ?_
      have q := set_reg (C := C_Machine) z1 z2 z3 rel' (k := 6) (v := (p : Int)) p (by omega)
      exact k _ q.1 (s1.trans q.2)
def sp_pull (C O : Addr) : Sp := fun vs H Q E => ∃ (m : Addr) (st : Sz15.St) (y : Int), vs = [.ref m] ∧ MSy C H m st y ∧ Out0 C m O H y (st.pull.map fun p => (p.1, .int (p.2 : Nat))) Q E
theorem ok_Machine_pull (T : Tx K mg C_Machine C_CallReader C_NoInstruction C_OddPlace C_UnknownCall) : GMt P w K mg base C_Machine "pull" 2 ["self"] (sp_pull C_Machine C_OddPlace) := by
  obtain ⟨f, fd, F, M, b⟩ := T.m_Machine_pull
  refine ⟨⟨f, fd, F.okX (k := 1) sc_q10 (fun vs H Q E h => ?_) (fun cdv A outer s H vs Q E hr h => ?_), T.cl_Machine, M, b⟩⟩
  · obtain ⟨m, st, y, rfl, hms, k⟩ := h
    rfl
  · obtain ⟨m, st, y, rfl, hms, k⟩ := h
    have G_Machine_read_word := ok_Machine_read_word (P := P) (w := w) (base := base) T
    refine ⟨_, (pss_cons (ps_set (i := 1) sc_q10.nd rfl (Or.inl v_q10_place) (pe_ixLK (K := K) rfl (pe_fldK (K := K) rfl (pe_var (i := 0) rfl (Or.inl v_q10_self) nd_self nc_self) rfl) (pe_globI g_q10_SP T.c_SP nd_SP) (fun _ _ => rfl)))
      (pss_cons (ps_set (i := 2) sc_q10.nd rfl (Or.inl v_q10_word) (pe_methE G_Machine_read_word (hr.mono (by decide)) pass_body (pe_var (i := 0) rfl (Or.inl v_q10_self) nd_self nc_self) (pa_cons (pe_var (i := 1) rfl (Or.inl v_q10_place) nd_place nc_place) pa_nil)))
      (pss_cons (ps_asg (pe_op op_mod (pe_op op_add (pe_var (i := 1) rfl (Or.inl v_q10_place) nd_place nc_place) pe_int) (pe_globI g_q10_WORD_RANGE T.c_WORD_RANGE nd_WORD_RANGE)) (pg_sub (pe_fldK (K := K) rfl (pe_var (i := 0) rfl (Or.inl v_q10_self) nd_self nc_self) rfl) (pe_globI g_q10_SP T.c_SP nd_SP) set_list))
      (pss_one (ps_ret (pe_var (i := 2) rfl (Or.inl v_q10_word) nd_word nc_word)))))), ?_⟩
    obtain ⟨dx, S, rs, ms, e1, e2, e3, rel⟩ := hms.ex
    walk_at "rd"
    refine rd_ixL (SqL.of e2) (rel.get (k := 6) rfl (by decide)) ?_
    walk_at "rd"
    refine ⟨m, st, y, st.reg 6, rfl, hms, rel.wf.reg 6, ?_⟩
    have ef : st.pull = (st.word (st.reg 6)).map fun x => (st.setReg 6 (st.reg 6 + 2), x) := rfl
    rw [ef] at k
    cases e : st.word (st.reg 6) with
    | none => rw [e] at k; exact k
    | some x =>
      rw [e] at k
      walk_at "rd"
      refine rd_setL e2 (rel.ixR (k := 6) rfl (by decide)) ?_
      have q := set_reg (C := C_Machine) e1 e2 e3 rel (k := 6) (v := ((st.reg 6 : Nat) + 2 : Int) % 65536) (st.reg 6 + 2) (by omega)
      walk_at "rd"
      exact k _ q.1 q.2
def sp_interrupt (C O : Addr) : Sp := fun vs H Q E => ∃ (m : Addr) (st : Sz15.St) (y : Int) (v : Nat), vs = [.ref m, .int (v : Nat)] ∧ MSy C H m st y ∧ v ≤ 508 ∧ v % 2 = 0 ∧ Out0 C m O H y ((Sz15.trap st v).map fun s => (s, .non)) Q E
theorem psw_lt {st : Sz15.St} (h : WF st) : st.psw < 65536 := by
  have := h.plt
  unfold Sz15.St.psw
  have a1 : st.n.toNat < 2 := by cases st.n <;> decide
  have a2 : st.z.toNat < 2 := by cases st.z <;> decide
  have a3 : st.v.toNat < 2 := by cases st.v <;> decide
  have a4 : st.c.toNat < 2 := by cases st.c <;> decide
  omega
theorem push_pc {st a : Sz15.St} {x : Nat} (e : st.push x = some a) : a.reg 7 = st.reg 7 := by
  unfold Sz15.St.push at e
  dsimp only at e
  unfold Sz15.St.putWord at e
  split at e
  · cases e
  · have e' := Option.some.inj e
    subst e'
    show (st.r.set 6 _).getD 7 0 = st.r.getD 7 0
    rw [List.getD_eq_getElem?_getD, List.getD_eq_getElem?_getD, List.getElem?_set_ne (by decide)]
theorem ok_Machine_interrupt (T : Tx K mg C_Machine C_CallReader C_NoInstruction C_OddPlace C_UnknownCall) : GMt P w K mg base C_Machine "interrupt" 3 ["self", "vector"] (sp_interrupt C_Machine C_OddPlace) := by
  obtain ⟨f, fd, F, M, b⟩ := T.m_Machine_interrupt
  refine ⟨⟨f, fd, F.okX (k := 2) sc_q11 (fun vs H Q E h => ?_) (fun cdv A outer s H vs Q E hr h => ?_), T.cl_Machine, M, b⟩⟩
  · obtain ⟨m, st, y, v, rfl, hms, hv, hv2, k⟩ := h
    rfl
  · obtain ⟨m, st, y, v, rfl, hms, hv, hv2, k⟩ := h
    have G_Machine_push := ok_Machine_push (P := P) (w := w) (base := base) T
    have G_Machine_read_word := ok_Machine_read_word (P := P) (w := w) (base := base) T
    have G_Machine_set_status := ok_Machine_set_status (P := P) (w := w) (base := base) T
    have G_Machine_status_word := ok_Machine_status_word (P := P) (w := w) (base := base) T
    refine ⟨_, (pss_cons (ps_expr (pe_methE G_Machine_push (hr.mono (by decide)) pass_body (pe_var (i := 0) rfl (Or.inl v_q11_self) nd_self nc_self) (pa_cons (pe_meth0E G_Machine_status_word (hr.mono (by decide)) pass_body (pe_var (i := 0) rfl (Or.inl v_q11_self) nd_self nc_self)) pa_nil)))
      (pss_cons (ps_expr (pe_methE G_Machine_push (hr.mono (by decide)) pass_body (pe_var (i := 0) rfl (Or.inl v_q11_self) nd_self nc_self) (pa_cons (pe_ixLK (K := K) rfl (pe_fldK (K := K) rfl (pe_var (i := 0) rfl (Or.inl v_q11_self) nd_self nc_self) rfl) (pe_globI g_q11_PC T.c_PC nd_PC) (fun _ _ => rfl)) pa_nil)))
      (pss_cons (ps_asg (pe_methE G_Machine_read_word (hr.mono (by decide)) pass_body (pe_var (i := 0) rfl (Or.inl v_q11_self) nd_self nc_self) (pa_cons (pe_var (i := 1) rfl (Or.inl v_q11_vector) nd_vector nc_vector) pa_nil)) (pg_sub (pe_fldK (K := K) rfl (pe_var (i := 0) rfl (Or.inl v_q11_self) nd_self nc_self) rfl) (pe_globI g_q11_PC T.c_PC nd_PC) set_list))
      (pss_one (ps_expr (pe_methE G_Machine_set_status (hr.mono (by decide)) pass_body (pe_var (i := 0) rfl (Or.inl v_q11_self) nd_self nc_self) (pa_cons (pe_methE G_Machine_read_word (hr.mono (by decide)) pass_body (pe_var (i := 0) rfl (Or.inl v_q11_self) nd_self nc_self) (pa_cons (pe_op op_add (pe_var (i := 1) rfl (Or.inl v_q11_vector) nd_vector nc_vector) pe_int) pa_nil)) pa_nil))))))), ?_⟩
    obtain ⟨dx, S, rs, ms, e1, e2, e3, rel⟩ := hms.ex
    walk_at "rd"
    refine ⟨m, st, y, rfl, hms, ?_⟩
    walk_at "rd"
    refine ⟨m, st, y, st.psw, rfl, hms, psw_lt rel.wf, ?_⟩
    cases ea : st.push st.psw with
    | none => rw [trap_none ea] at k; exact k
    | some a =>
      intro H1 h1 s1
      obtain ⟨dx1, S1, rs1, ms1, z1, z2, z3, rel1⟩ := h1.ex
      walk_at "rd"
      refine rd_ixL (SqL.of z2) (rel1.get (k := 7) rfl (by decide)) ?_
      walk_at "rd"
      rw [push_pc ea]
      refine ⟨m, a, y, st.reg 7, rfl, h1, rel.wf.reg 7, ?_⟩
      obtain ⟨b_, eb⟩ := push_some (st.reg 7) (push_even ea rel.rlen)
      rw [eb]
      intro H2 h2 s2
      obtain ⟨dx2, S2, rs2, ms2, y1, y2, y3, rel2⟩ := h2.ex
      obtain ⟨pc, epc⟩ := word_some (m := b_) (a := v) hv2 (by omega)
      obtain ⟨ps, eps⟩ := word_some (m := b_) (a := v + 2) (by omega) (by omega)
      rw [trap_some ea eb epc eps] at k
      have hpc := rel2.wf.word epc
      clear ea eb
      walk_at "rd"
      refine ⟨m, b_, y, v, rfl, h2, by omega, ?_⟩
      rw [epc]
      walk_at "rd"
      refine rd_setL y2 (rel2.ixR (k := 7) rfl (by decide)) ?_
      have q := set_reg (C := C_Machine) y1 y2 y3 rel2 (k := 7) (v := (pc : Int)) pc (by omega)
      obtain ⟨dx3, S3, rs3, ms3, x1, x2, x3, rel3⟩ := q.1.ex
      walk_at "rd"
      refine ⟨m, _, y, v + 2, rfl, q.1, by omega, ?_⟩
      rw [show (b_.setReg 7 pc).word (v + 2) = some ps from eps]
      walk_at "rd"
      exact sp_ss q.1 ps rfl fun H3 h3 s3 => k H3 h3 (s1.trans (s2.trans (q.2.trans s3)))
end
section
variable {P : Program} {w : World} {K : PySem.W.Frag} {mg : Str → Option Value} {base : Heap} {C_Machine C_CallReader C_NoInstruction C_OddPlace C_UnknownCall : Addr}
def TupR (H : Hp) (r : Nat × Bool × Bool) (Q : VK) : Prop := ∀ p, H p = none → Q (.ref p) (upd H p (.tup [.int (r.1 : Nat), .int ((r.2.1.toNat : Nat) : Int), .int ((r.2.2.toNat : Nat) : Int)]))
theorem tup3 {Q : VK} {H : Hp} {p : Addr} {a b c a' b' c' : Int} (k : Q (.ref p) (upd H p (.tup [.int a', .int b', .int c']))) (h1 : a = a') (h2 : b = b') (h3 : c = c') : Q (.ref p) (upd H p (.tup [.int a, .int b, .int c])) := by
  subst h1 h2 h3; exact k
theorem tq (byte : Bool) : ((topv byte : Nat) : Int) * 2 = ((Sz15.size byte : Nat) : Int) := by cases byte <;> rfl
theorem half (byte : Bool) : Sz15.size byte / 2 = topv byte := by cases byte <;> rfl
theorem tpos (byte : Bool) : 0 < topv byte := by cases byte <;> decide
theorem spos (byte : Bool) : 0 < Sz15.size byte := by cases byte <;> decide
theorem cmod (a q : Nat) : (a : Int) % (q : Int) = ((a % q : Nat) : Int) := (Int.natCast_emod a q).symm
theorem cdif {a b q : Nat} (h : b ≤ q) : ((a : Int) - (b : Int)) % (q : Int) = (((a + q - b) % q : Nat) : Int) := by
  rw [← cmod, show ((a + q - b : Nat) : Int) = (a : Int) - (b : Int) + (q : Int) by omega, Int.add_emod_right]
theorem cneg {d q : Nat} (h : d ≤ q) : (-(d : Int)) % (q : Int) = (((q - d) % q : Nat) : Int) := by
  rw [← cmod, show ((q - d : Nat) : Int) = -(d : Int) + (q : Int) by omega, Int.add_emod_right]
theorem bool_lt (c : Bool) : c.toNat < 2 := by cases c <;> decide
theorem bool_size (c byte : Bool) : c.toNat < Sz15.size byte := by cases c <;> cases byte <;> decide
theorem le3 {a b c : V} : [a, b, c].length ≤ sizeLine := by show 3 ≤ sizeLine; decide
theorem le2 {a b : V} : [a, b].length ≤ sizeLine := by show 2 ≤ sizeLine; decide
def sp_sum : Sp := fun vs H Q _ => ∃ (s d : Nat) (byte : Bool), vs = [.int (s : Nat), .int (d : Nat), .int ((topv byte : Nat) : Int)] ∧ TupR H ((s + d) % Sz15.size byte, oSum byte s d, decide (Sz15.size byte ≤ s + d)) Q
theorem ok_sum_of (T : Tx K mg C_Machine C_CallReader C_NoInstruction C_OddPlace C_UnknownCall) : GFn P w K mg base "sum_of" 1 ["s", "d", "top"] sp_sum := by
  obtain ⟨f, fd, F, hmg, b⟩ := T.d_sum_of
  refine ⟨⟨f, fd, F.okX (k := 0) sc_q18 (fun vs H Q E h => ?_) (fun cdv A outer s H vs Q E hr h => ?_), hmg, F.kp, b⟩⟩
  · obtain ⟨s_, d, byte, rfl, k⟩ := h
    rfl
  · obtain ⟨s_, d, byte, rfl, k⟩ := h
    refine ⟨_, (pss_cons (ps_set (i := 3) sc_q18.nd rfl (Or.inl v_q18_whole) (pe_op op_add (pe_var (i := 0) rfl (Or.inl v_q18_s) nd_s nc_s) (pe_var (i := 1) rfl (Or.inl v_q18_d) nd_d nc_d)))
      (pss_cons (ps_set (i := 4) sc_q18.nd rfl (Or.inl v_q18_result) (pe_op op_mod (pe_var (i := 3) rfl (Or.inl v_q18_whole) nd_whole nc_whole) (pe_op op_mul (pe_var (i := 2) rfl (Or.inl v_q18_top) nd_top nc_top) pe_int)))
      (pss_cons (ps_set (i := 5) sc_q18.nd rfl (Or.inl v_q18_overflow) (pe_ifExp (pt_truthK (K := K) rfl (pe_op op_and (pe_op op_and (pe_op op_xor (pe_var (i := 0) rfl (Or.inl v_q18_s) nd_s nc_s) (pe_var (i := 4) rfl (Or.inl v_q18_result) nd_result nc_result)) (pe_op op_xor (pe_var (i := 1) rfl (Or.inl v_q18_d) nd_d nc_d) (pe_var (i := 4) rfl (Or.inl v_q18_result) nd_result nc_result))) (pe_var (i := 2) rfl (Or.inl v_q18_top) nd_top nc_top)) (fun _ => rfl)) pe_int pe_int))
      (pss_one (ps_ret (pe_tup (pa_cons (pe_var (i := 4) rfl (Or.inl v_q18_result) nd_result nc_result) (pa_cons (pe_var (i := 5) rfl (Or.inl v_q18_overflow) nd_overflow nc_overflow) (pa_cons (pe_ifExp (pt_cmpR op_ge (pe_var (i := 3) rfl (Or.inl v_q18_whole) nd_whole nc_whole) (pe_op op_mul (pe_var (i := 2) rfl (Or.inl v_q18_top) nd_top nc_top) pe_int) (nomark _)) pe_int pe_int) pa_nil))))))))), ?_⟩
    have ht := tpos byte
    walk_at "rd"
    refine ⟨le3, fun p hp => tup3 (k p hp) ?_ ?_ ?_⟩
    · rw [tq, ← Int.natCast_add, cmod]
    · rw [tq, ← Int.natCast_add, cmod, bX, bX, bA, bA, nz_cast, ovf, Bool.not_not]
      rfl
    · rw [tq, show decide (((Sz15.size byte : Nat) : Int) ≤ (s_ : Int) + (d : Int)) = decide (Sz15.size byte ≤ s_ + d) from decide_eq_decide.mpr (by omega)]
def sp_dif : Sp := fun vs H Q _ => ∃ (a b : Nat) (byte : Bool), vs = [.int (a : Nat), .int (b : Nat), .int ((topv byte : Nat) : Int)] ∧ b < Sz15.size byte ∧ TupR H ((a + Sz15.size byte - b) % Sz15.size byte, oDif byte a b, decide (a < b)) Q
theorem ok_difference_of (T : Tx K mg C_Machine C_CallReader C_NoInstruction C_OddPlace C_UnknownCall) : GFn P w K mg base "difference_of" 1 ["a", "b", "top"] sp_dif := by
  obtain ⟨f, fd, F, hmg, b⟩ := T.d_difference_of
  refine ⟨⟨f, fd, F.okX (k := 0) sc_q19 (fun vs H Q E h => ?_) (fun cdv A outer s H vs Q E hr h => ?_), hmg, F.kp, b⟩⟩
  · obtain ⟨a, b_, byte, rfl, hb, k⟩ := h
    rfl
  · obtain ⟨a, b_, byte, rfl, hb, k⟩ := h
    refine ⟨_, (pss_cons (ps_set (i := 3) sc_q19.nd rfl (Or.inl v_q19_result) (pe_op op_mod (pe_op op_sub (pe_var (i := 0) rfl (Or.inl v_q19_a) nd_a nc_a) (pe_var (i := 1) rfl (Or.inl v_q19_b) nd_b nc_b)) (pe_op op_mul (pe_var (i := 2) rfl (Or.inl v_q19_top) nd_top nc_top) pe_int)))
      (pss_cons (ps_set (i := 4) sc_q19.nd rfl (Or.inl v_q19_overflow) (pe_ifExp (pt_truthK (K := K) rfl (pe_op op_and (pe_op op_and (pe_op op_xor (pe_var (i := 0) rfl (Or.inl v_q19_a) nd_a nc_a) (pe_var (i := 1) rfl (Or.inl v_q19_b) nd_b nc_b)) (pe_op op_xor (pe_var (i := 0) rfl (Or.inl v_q19_a) nd_a nc_a) (pe_var (i := 3) rfl (Or.inl v_q19_result) nd_result nc_result))) (pe_var (i := 2) rfl (Or.inl v_q19_top) nd_top nc_top)) (fun _ => rfl)) pe_int pe_int))
      (pss_one (ps_ret (pe_tup (pa_cons (pe_var (i := 3) rfl (Or.inl v_q19_result) nd_result nc_result) (pa_cons (pe_var (i := 4) rfl (Or.inl v_q19_overflow) nd_overflow nc_overflow) (pa_cons (pe_ifExp (pt_cmpR op_lt (pe_var (i := 0) rfl (Or.inl v_q19_a) nd_a nc_a) (pe_var (i := 1) rfl (Or.inl v_q19_b) nd_b nc_b) (nomark _)) pe_int pe_int) pa_nil)))))))), ?_⟩
    have ht := tpos byte
    walk_at "rd"
    refine ⟨le3, fun p hp => tup3 (k p hp) ?_ ?_ ?_⟩
    · rw [tq, cdif (Nat.le_of_lt hb)]
    · rw [tq, cdif (Nat.le_of_lt hb), bX, bX, bA, bA, nz_cast, ovf, Bool.not_not]
      rfl
    · rw [show decide ((a : Int) < (b_ : Int)) = decide (a < b_) from decide_eq_decide.mpr (by omega)]
def sp_two (op : Nat) : Sp := fun vs H Q _ => ∃ (s d : Nat) (c byte : Bool), vs = [.int (s : Nat), .int (d : Nat), .int ((c.toNat : Nat) : Int), .int ((topv byte : Nat) : Int)] ∧ s < Sz15.size byte ∧ d < Sz15.size byte ∧ TupR H (r2 op byte s d c) Q
theorem ok_mov (T : Tx K mg C_Machine C_CallReader C_NoInstruction C_OddPlace C_UnknownCall) : GFn P w K mg base "mov" 1 ["s", "d", "carry", "top"] (sp_two 1) := by
  obtain ⟨f, fd, F, hmg, b⟩ := T.d_mov
  refine ⟨⟨f, fd, F.okX (k := 0) sc_q20 (fun vs H Q E h => ?_) (fun cdv A outer s H vs Q E hr h => ?_), hmg, F.kp, b⟩⟩
  · obtain ⟨s_, d, c, byte, rfl, hs, hd, k⟩ := h
    rfl
  · obtain ⟨s_, d, c, byte, rfl, hs, hd, k⟩ := h
    refine ⟨_, (pss_one (ps_ret (pe_tup (pa_cons (pe_var (i := 0) rfl (Or.inl v_q20_s) nd_s nc_s) (pa_cons pe_int (pa_cons (pe_var (i := 2) rfl (Or.inl v_q20_carry) nd_carry nc_carry) pa_nil)))))), ?_⟩
    walk_at "rd"
    exact ⟨le3, fun p hp => k p hp⟩
theorem ok_cmp (T : Tx K mg C_Machine C_CallReader C_NoInstruction C_OddPlace C_UnknownCall) : GFn P w K mg base "cmp" 2 ["s", "d", "carry", "top"] (sp_two 2) := by
  obtain ⟨f, fd, F, hmg, b⟩ := T.d_cmp
  refine ⟨⟨f, fd, F.okX (k := 1) sc_q21 (fun vs H Q E h => ?_) (fun cdv A outer s H vs Q E hr h => ?_), hmg, F.kp, b⟩⟩
  · obtain ⟨s_, d, c, byte, rfl, hs, hd, k⟩ := h
    rfl
  · obtain ⟨s_, d, c, byte, rfl, hs, hd, k⟩ := h
    have G_difference_of := ok_difference_of (P := P) (w := w) (base := base) T
    refine ⟨_, (pss_one (ps_ret (pe_callE G_difference_of (hr.mono (by decide)) g_q21_difference_of pass_body (pa_cons (pe_var (i := 0) rfl (Or.inl v_q21_s) nd_s nc_s) (pa_cons (pe_var (i := 1) rfl (Or.inl v_q21_d) nd_d nc_d) (pa_cons (pe_var (i := 3) rfl (Or.inl v_q21_top) nd_top nc_top) pa_nil))) nd_difference_of))), ?_⟩
    walk_at "rd"
    rw [r2_cmp] at k
    exact ⟨s_, d, byte, rfl, hd, k⟩
theorem ok_bit (T : Tx K mg C_Machine C_CallReader C_NoInstruction C_OddPlace C_UnknownCall) : GFn P w K mg base "bit" 1 ["s", "d", "carry", "top"] (sp_two 3) := by
  obtain ⟨f, fd, F, hmg, b⟩ := T.d_bit
  refine ⟨⟨f, fd, F.okX (k := 0) sc_q22 (fun vs H Q E h => ?_) (fun cdv A outer s H vs Q E hr h => ?_), hmg, F.kp, b⟩⟩
  · obtain ⟨s_, d, c, byte, rfl, hs, hd, k⟩ := h
    rfl
  · obtain ⟨s_, d, c, byte, rfl, hs, hd, k⟩ := h
    refine ⟨_, (pss_one (ps_ret (pe_tup (pa_cons (pe_op op_and (pe_var (i := 0) rfl (Or.inl v_q22_s) nd_s nc_s) (pe_var (i := 1) rfl (Or.inl v_q22_d) nd_d nc_d)) (pa_cons pe_int (pa_cons (pe_var (i := 2) rfl (Or.inl v_q22_carry) nd_carry nc_carry) pa_nil)))))), ?_⟩
    walk_at "rd"
    exact ⟨le3, fun p hp => tup3 (k p hp) (bA s_ d) rfl rfl⟩
theorem ok_bic (T : Tx K mg C_Machine C_CallReader C_NoInstruction C_OddPlace C_UnknownCall) : GFn P w K mg base "bic" 1 ["s", "d", "carry", "top"] (sp_two 4) := by
  obtain ⟨f, fd, F, hmg, b⟩ := T.d_bic
  refine ⟨⟨f, fd, F.okX (k := 0) sc_q23 (fun vs H Q E h => ?_) (fun cdv A outer s H vs Q E hr h => ?_), hmg, F.kp, b⟩⟩
  · obtain ⟨s_, d, c, byte, rfl, hs, hd, k⟩ := h
    rfl
  · obtain ⟨s_, d, c, byte, rfl, hs, hd, k⟩ := h
    refine ⟨_, (pss_one (ps_ret (pe_tup (pa_cons (pe_op op_and (pe_var (i := 1) rfl (Or.inl v_q23_d) nd_d nc_d) (pe_un un_inv (pe_var (i := 0) rfl (Or.inl v_q23_s) nd_s nc_s))) (pa_cons pe_int (pa_cons (pe_var (i := 2) rfl (Or.inl v_q23_carry) nd_carry nc_carry) pa_nil)))))), ?_⟩
    walk_at "rd"
    refine ⟨le3, fun p hp => tup3 (k p hp) ?_ rfl rfl⟩
    rw [PyProof.Rows.bitAnd_not, bA]
    show _ = ((d &&& (Sz15.size byte - 1 - s_) : Nat) : Int)
    cases byte
    · have := and_comp (n := 16) hd hs
      show (d : Int) - _ = ((d &&& (2 ^ 16 - 1 - s_) : Nat) : Int)
      omega
    · have := and_comp (n := 8) hd hs
      show (d : Int) - _ = ((d &&& (2 ^ 8 - 1 - s_) : Nat) : Int)
      omega
theorem ok_bis (T : Tx K mg C_Machine C_CallReader C_NoInstruction C_OddPlace C_UnknownCall) : GFn P w K mg base "bis" 1 ["s", "d", "carry", "top"] (sp_two 5) := by
  obtain ⟨f, fd, F, hmg, b⟩ := T.d_bis
  refine ⟨⟨f, fd, F.okX (k := 0) sc_q24 (fun vs H Q E h => ?_) (fun cdv A outer s H vs Q E hr h => ?_), hmg, F.kp, b⟩⟩
  · obtain ⟨s_, d, c, byte, rfl, hs, hd, k⟩ := h
    rfl
  · obtain ⟨s_, d, c, byte, rfl, hs, hd, k⟩ := h
    refine ⟨_, (pss_one (ps_ret (pe_tup (pa_cons (pe_op op_or (pe_var (i := 1) rfl (Or.inl v_q24_d) nd_d nc_d) (pe_var (i := 0) rfl (Or.inl v_q24_s) nd_s nc_s)) (pa_cons pe_int (pa_cons (pe_var (i := 2) rfl (Or.inl v_q24_carry) nd_carry nc_carry) pa_nil)))))), ?_⟩
    walk_at "rd"
    exact ⟨le3, fun p hp => tup3 (k p hp) (bO d s_) rfl rfl⟩
theorem ok_add (T : Tx K mg C_Machine C_CallReader C_NoInstruction C_OddPlace C_UnknownCall) : GFn P w K mg base "add" 2 ["s", "d", "carry", "top"] (sp_two 6) := by
  obtain ⟨f, fd, F, hmg, b⟩ := T.d_add
  refine ⟨⟨f, fd, F.okX (k := 1) sc_q25 (fun vs H Q E h => ?_) (fun cdv A outer s H vs Q E hr h => ?_), hmg, F.kp, b⟩⟩
  · obtain ⟨s_, d, c, byte, rfl, hs, hd, k⟩ := h
    rfl
  · obtain ⟨s_, d, c, byte, rfl, hs, hd, k⟩ := h
    have G_sum_of := ok_sum_of (P := P) (w := w) (base := base) T
    refine ⟨_, (pss_one (ps_ret (pe_callE G_sum_of (hr.mono (by decide)) g_q25_sum_of pass_body (pa_cons (pe_var (i := 0) rfl (Or.inl v_q25_s) nd_s nc_s) (pa_cons (pe_var (i := 1) rfl (Or.inl v_q25_d) nd_d nc_d) (pa_cons (pe_var (i := 3) rfl (Or.inl v_q25_top) nd_top nc_top) pa_nil))) nd_sum_of))), ?_⟩
    walk_at "rd"
    rw [r2_add] at k
    exact ⟨s_, d, byte, rfl, k⟩
theorem ok_sub (T : Tx K mg C_Machine C_CallReader C_NoInstruction C_OddPlace C_UnknownCall) : GFn P w K mg base "sub" 2 ["s", "d", "carry", "top"] (sp_two 7) := by
  obtain ⟨f, fd, F, hmg, b⟩ := T.d_sub
  refine ⟨⟨f, fd, F.okX (k := 1) sc_q26 (fun vs H Q E h => ?_) (fun cdv A outer s H vs Q E hr h => ?_), hmg, F.kp, b⟩⟩
  · obtain ⟨s_, d, c, byte, rfl, hs, hd, k⟩ := h
    rfl
  · obtain ⟨s_, d, c, byte, rfl, hs, hd, k⟩ := h
    have G_difference_of := ok_difference_of (P := P) (w := w) (base := base) T
    refine ⟨_, (pss_one (ps_ret (pe_callE G_difference_of (hr.mono (by decide)) g_q26_difference_of pass_body (pa_cons (pe_var (i := 1) rfl (Or.inl v_q26_d) nd_d nc_d) (pa_cons (pe_var (i := 0) rfl (Or.inl v_q26_s) nd_s nc_s) (pa_cons (pe_var (i := 3) rfl (Or.inl v_q26_top) nd_top nc_top) pa_nil))) nd_difference_of))), ?_⟩
    walk_at "rd"
    rw [r2_sub] at k
    exact ⟨d, s_, byte, rfl, hs, k⟩
def sp_one (op : Nat) : Sp := fun vs H Q _ => ∃ (d : Nat) (c byte : Bool), vs = [.int (d : Nat), .int ((c.toNat : Nat) : Int), .int ((topv byte : Nat) : Int)] ∧ d < Sz15.size byte ∧ TupR H (r1 op byte d c) Q
theorem ok_clr (T : Tx K mg C_Machine C_CallReader C_NoInstruction C_OddPlace C_UnknownCall) : GFn P w K mg base "clr" 1 ["d", "carry", "top"] (sp_one 0) := by
  obtain ⟨f, fd, F, hmg, b⟩ := T.d_clr
  refine ⟨⟨f, fd, F.okX (k := 0) sc_q27 (fun vs H Q E h => ?_) (fun cdv A outer s H vs Q E hr h => ?_), hmg, F.kp, b⟩⟩
  · obtain ⟨d, c, byte, rfl, hd, k⟩ := h
    rfl
  · obtain ⟨d, c, byte, rfl, hd, k⟩ := h
    refine ⟨_, (pss_one (ps_ret (pe_tup (pa_cons pe_int (pa_cons pe_int (pa_cons pe_int pa_nil)))))), ?_⟩
    walk_at "rd"
    exact ⟨le3, fun p hp => k p hp⟩
theorem ok_com (T : Tx K mg C_Machine C_CallReader C_NoInstruction C_OddPlace C_UnknownCall) : GFn P w K mg base "com" 1 ["d", "carry", "top"] (sp_one 1) := by
  obtain ⟨f, fd, F, hmg, b⟩ := T.d_com
  refine ⟨⟨f, fd, F.okX (k := 0) sc_q28 (fun vs H Q E h => ?_) (fun cdv A outer s H vs Q E hr h => ?_), hmg, F.kp, b⟩⟩
  · obtain ⟨d, c, byte, rfl, hd, k⟩ := h
    rfl
  · obtain ⟨d, c, byte, rfl, hd, k⟩ := h
    refine ⟨_, (pss_one (ps_ret (pe_tup (pa_cons (pe_op op_sub (pe_op op_sub (pe_op op_mul (pe_var (i := 2) rfl (Or.inl v_q28_top) nd_top nc_top) pe_int) pe_int) (pe_var (i := 0) rfl (Or.inl v_q28_d) nd_d nc_d)) (pa_cons pe_int (pa_cons pe_int pa_nil)))))), ?_⟩
    walk_at "rd"
    refine ⟨le3, fun p hp => tup3 (k p hp) ?_ rfl rfl⟩
    rw [tq]
    show _ = ((Sz15.size byte - 1 - d : Nat) : Int)
    omega
theorem ok_inc (T : Tx K mg C_Machine C_CallReader C_NoInstruction C_OddPlace C_UnknownCall) : GFn P w K mg base "inc" 1 ["d", "carry", "top"] (sp_one 2) := by
  obtain ⟨f, fd, F, hmg, b⟩ := T.d_inc
  refine ⟨⟨f, fd, F.okX (k := 0) sc_q29 (fun vs H Q E h => ?_) (fun cdv A outer s H vs Q E hr h => ?_), hmg, F.kp, b⟩⟩
  · obtain ⟨d, c, byte, rfl, hd, k⟩ := h
    rfl
  · obtain ⟨d, c, byte, rfl, hd, k⟩ := h
    refine ⟨_, (pss_one (ps_ret (pe_tup (pa_cons (pe_op op_mod (pe_op op_add (pe_var (i := 0) rfl (Or.inl v_q29_d) nd_d nc_d) pe_int) (pe_op op_mul (pe_var (i := 2) rfl (Or.inl v_q29_top) nd_top nc_top) pe_int)) (pa_cons (pe_ifExp (pt_cmpR op_eq (pe_var (i := 0) rfl (Or.inl v_q29_d) nd_d nc_d) (pe_op op_sub (pe_var (i := 2) rfl (Or.inl v_q29_top) nd_top nc_top) pe_int) (nomark _)) pe_int pe_int) (pa_cons (pe_var (i := 1) rfl (Or.inl v_q29_carry) nd_carry nc_carry) pa_nil)))))), ?_⟩
    have ht := tpos byte
    walk_at "rd"
    refine ⟨le3, fun p hp => tup3 (k p hp) ?_ ?_ rfl⟩
    · rw [tq, show (d : Int) + 1 = ((d + 1 : Nat) : Int) by omega, cmod]
      rfl
    · show _ = (((decide (d = Sz15.size byte / 2 - 1)).toNat : Nat) : Int)
      rw [half, show decide ((d : Int) = ((topv byte : Nat) : Int) - 1) = decide (d = topv byte - 1) from decide_eq_decide.mpr (by omega)]
theorem ok_dec (T : Tx K mg C_Machine C_CallReader C_NoInstruction C_OddPlace C_UnknownCall) : GFn P w K mg base "dec" 1 ["d", "carry", "top"] (sp_one 3) := by
  obtain ⟨f, fd, F, hmg, b⟩ := T.d_dec
  refine ⟨⟨f, fd, F.okX (k := 0) sc_q30 (fun vs H Q E h => ?_) (fun cdv A outer s H vs Q E hr h => ?_), hmg, F.kp, b⟩⟩
  · obtain ⟨d, c, byte, rfl, hd, k⟩ := h
    rfl
  · obtain ⟨d, c, byte, rfl, hd, k⟩ := h
    refine ⟨_, (pss_one (ps_ret (pe_tup (pa_cons (pe_op op_mod (pe_op op_sub (pe_var (i := 0) rfl (Or.inl v_q30_d) nd_d nc_d) pe_int) (pe_op op_mul (pe_var (i := 2) rfl (Or.inl v_q30_top) nd_top nc_top) pe_int)) (pa_cons (pe_ifExp (pt_cmpR op_eq (pe_var (i := 0) rfl (Or.inl v_q30_d) nd_d nc_d) (pe_var (i := 2) rfl (Or.inl v_q30_top) nd_top nc_top) (nomark _)) pe_int pe_int) (pa_cons (pe_var (i := 1) rfl (Or.inl v_q30_carry) nd_carry nc_carry) pa_nil)))))), ?_⟩
    have ht := tpos byte
    have hq := spos byte
    walk_at "rd"
    refine ⟨le3, fun p hp => tup3 (k p hp) ?_ ?_ rfl⟩
    · rw [tq]
      exact cdif (a := d) (b := 1) hq
    · show _ = (((decide (d = Sz15.size byte / 2)).toNat : Nat) : Int)
      rw [half, show decide ((d : Int) = ((topv byte : Nat) : Int)) = decide (d = topv byte) from decide_eq_decide.mpr (by omega)]
theorem ok_neg (T : Tx K mg C_Machine C_CallReader C_NoInstruction C_OddPlace C_UnknownCall) : GFn P w K mg base "neg" 1 ["d", "carry", "top"] (sp_one 4) := by
  obtain ⟨f, fd, F, hmg, b⟩ := T.d_neg
  refine ⟨⟨f, fd, F.okX (k := 0) sc_q31 (fun vs H Q E h => ?_) (fun cdv A outer s H vs Q E hr h => ?_), hmg, F.kp, b⟩⟩
  · obtain ⟨d, c, byte, rfl, hd, k⟩ := h
    rfl
  · obtain ⟨d, c, byte, rfl, hd, k⟩ := h
    refine ⟨_, (pss_cons (ps_set (i := 3) sc_q31.nd rfl (Or.inl v_q31_result) (pe_op op_mod (pe_un un_neg (pe_var (i := 0) rfl (Or.inl v_q31_d) nd_d nc_d)) (pe_op op_mul (pe_var (i := 2) rfl (Or.inl v_q31_top) nd_top nc_top) pe_int)))
      (pss_one (ps_ret (pe_tup (pa_cons (pe_var (i := 3) rfl (Or.inl v_q31_result) nd_result nc_result) (pa_cons (pe_ifExp (pt_cmpR op_eq (pe_var (i := 3) rfl (Or.inl v_q31_result) nd_result nc_result) (pe_var (i := 2) rfl (Or.inl v_q31_top) nd_top nc_top) (nomark _)) pe_int pe_int) (pa_cons (pe_ifExp (pt_cmpR op_ne (pe_var (i := 3) rfl (Or.inl v_q31_result) nd_result nc_result) pe_int (nomark _)) pe_int pe_int) pa_nil))))))), ?_⟩
    have ht := tpos byte
    walk_at "rd"
    refine ⟨le3, fun p hp => tup3 (k p hp) ?_ ?_ ?_⟩
    · rw [tq, cneg (Nat.le_of_lt hd)]
      rfl
    · show _ = (((decide ((Sz15.size byte - d) % Sz15.size byte = Sz15.size byte / 2)).toNat : Nat) : Int)
      rw [tq, cneg (Nat.le_of_lt hd), half]
      generalize (Sz15.size byte - d) % Sz15.size byte = x
      rw [show decide ((x : Int) = ((topv byte : Nat) : Int)) = decide (x = topv byte) from decide_eq_decide.mpr (by omega)]
    · show _ = (((decide ((Sz15.size byte - d) % Sz15.size byte ≠ 0)).toNat : Nat) : Int)
      rw [tq, cneg (Nat.le_of_lt hd)]
      generalize (Sz15.size byte - d) % Sz15.size byte = x
      rw [show decide ((x : Int) = 0) = decide (x = 0) from decide_eq_decide.mpr (by omega), decide_not]
theorem ok_adc (T : Tx K mg C_Machine C_CallReader C_NoInstruction C_OddPlace C_UnknownCall) : GFn P w K mg base "adc" 2 ["d", "carry", "top"] (sp_one 5) := by
  obtain ⟨f, fd, F, hmg, b⟩ := T.d_adc
  refine ⟨⟨f, fd, F.okX (k := 1) sc_q32 (fun vs H Q E h => ?_) (fun cdv A outer s H vs Q E hr h => ?_), hmg, F.kp, b⟩⟩
  · obtain ⟨d, c, byte, rfl, hd, k⟩ := h
    rfl
  · obtain ⟨d, c, byte, rfl, hd, k⟩ := h
    have G_sum_of := ok_sum_of (P := P) (w := w) (base := base) T
    refine ⟨_, (pss_one (ps_ret (pe_callE G_sum_of (hr.mono (by decide)) g_q32_sum_of pass_body (pa_cons (pe_var (i := 1) rfl (Or.inl v_q32_carry) nd_carry nc_carry) (pa_cons (pe_var (i := 0) rfl (Or.inl v_q32_d) nd_d nc_d) (pa_cons (pe_var (i := 2) rfl (Or.inl v_q32_top) nd_top nc_top) pa_nil))) nd_sum_of))), ?_⟩
    walk_at "rd"
    rw [r1_adc c hd] at k
    exact ⟨c.toNat, d, byte, rfl, k⟩
theorem ok_sbc (T : Tx K mg C_Machine C_CallReader C_NoInstruction C_OddPlace C_UnknownCall) : GFn P w K mg base "sbc" 2 ["d", "carry", "top"] (sp_one 6) := by
  obtain ⟨f, fd, F, hmg, b⟩ := T.d_sbc
  refine ⟨⟨f, fd, F.okX (k := 1) sc_q33 (fun vs H Q E h => ?_) (fun cdv A outer s H vs Q E hr h => ?_), hmg, F.kp, b⟩⟩
  · obtain ⟨d, c, byte, rfl, hd, k⟩ := h
    rfl
  · obtain ⟨d, c, byte, rfl, hd, k⟩ := h
    have G_difference_of := ok_difference_of (P := P) (w := w) (base := base) T
    refine ⟨_, (pss_one (ps_ret (pe_callE G_difference_of (hr.mono (by decide)) g_q33_difference_of pass_body (pa_cons (pe_var (i := 0) rfl (Or.inl v_q33_d) nd_d nc_d) (pa_cons (pe_var (i := 1) rfl (Or.inl v_q33_carry) nd_carry nc_carry) (pa_cons (pe_var (i := 2) rfl (Or.inl v_q33_top) nd_top nc_top) pa_nil))) nd_difference_of))), ?_⟩
    walk_at "rd"
    rw [r1_sbc c hd] at k
    exact ⟨d, c.toNat, byte, rfl, bool_size c byte, k⟩
theorem ok_tst (T : Tx K mg C_Machine C_CallReader C_NoInstruction C_OddPlace C_UnknownCall) : GFn P w K mg base "tst" 1 ["d", "carry", "top"] (sp_one 7) := by
  obtain ⟨f, fd, F, hmg, b⟩ := T.d_tst
  refine ⟨⟨f, fd, F.okX (k := 0) sc_q34 (fun vs H Q E h => ?_) (fun cdv A outer s H vs Q E hr h => ?_), hmg, F.kp, b⟩⟩
  · obtain ⟨d, c, byte, rfl, hd, k⟩ := h
    rfl
  · obtain ⟨d, c, byte, rfl, hd, k⟩ := h
    refine ⟨_, (pss_one (ps_ret (pe_tup (pa_cons (pe_var (i := 0) rfl (Or.inl v_q34_d) nd_d nc_d) (pa_cons pe_int (pa_cons pe_int pa_nil)))))), ?_⟩
    walk_at "rd"
    exact ⟨le3, fun p hp => k p hp⟩
def sp_turned : Sp := fun vs H Q _ => ∃ (x : Nat) (o byte : Bool) (v u : Int), vs = [.int v, .int u, .int ((topv byte : Nat) : Int)] ∧ v = (x : Int) ∧ u = ((o.toNat : Nat) : Int) ∧ TupR H (x, Sz15.top byte x != o, o) Q
theorem ok_turned (T : Tx K mg C_Machine C_CallReader C_NoInstruction C_OddPlace C_UnknownCall) : GFn P w K mg base "turned" 1 ["result", "out", "top"] sp_turned := by
  obtain ⟨f, fd, F, hmg, b⟩ := T.d_turned
  refine ⟨⟨f, fd, F.okX (k := 0) sc_q35 (fun vs H Q E h => ?_) (fun cdv A outer s H vs Q E hr h => ?_), hmg, F.kp, b⟩⟩
  · obtain ⟨x, o, byte, v, u, rfl, hv, hu, k⟩ := h
    rfl
  · obtain ⟨x, o, byte, v, u, rfl, hv, hu, k⟩ := h
    refine ⟨_, (pss_cons (ps_set (i := 3) sc_q35.nd rfl (Or.inl v_q35_negative) (pe_ifExp (pt_truthK (K := K) rfl (pe_op op_and (pe_var (i := 0) rfl (Or.inl v_q35_result) nd_result nc_result) (pe_var (i := 2) rfl (Or.inl v_q35_top) nd_top nc_top)) (fun _ => rfl)) pe_int pe_int))
      (pss_one (ps_ret (pe_tup (pa_cons (pe_var (i := 0) rfl (Or.inl v_q35_result) nd_result nc_result) (pa_cons (pe_op op_xor (pe_var (i := 3) rfl (Or.inl v_q35_negative) nd_negative nc_negative) (pe_var (i := 1) rfl (Or.inl v_q35_out) nd_out nc_out)) (pa_cons (pe_var (i := 1) rfl (Or.inl v_q35_out) nd_out nc_out) pa_nil))))))), ?_⟩
    subst hv hu
    walk_at "rd"
    refine ⟨le3, fun p hp => tup3 (k p hp) rfl ?_ rfl⟩
    rw [bA, nz_top, bX]
    cases Sz15.top byte x <;> cases o <;> rfl
theorem odd_bit (d : Nat) : ((d % 2 : Nat) : Int) = (((decide (d % 2 = 1)).toNat : Nat) : Int) := by
  rcases Nat.mod_two_eq_zero_or_one d with e | e <;> rw [e] <;> rfl
theorem ok_ror (T : Tx K mg C_Machine C_CallReader C_NoInstruction C_OddPlace C_UnknownCall) : GFn P w K mg base "ror" 2 ["d", "carry", "top"] (sp_one 8) := by
  obtain ⟨f, fd, F, hmg, b⟩ := T.d_ror
  refine ⟨⟨f, fd, F.okX (k := 1) sc_q36 (fun vs H Q E h => ?_) (fun cdv A outer s H vs Q E hr h => ?_), hmg, F.kp, b⟩⟩
  · obtain ⟨d, c, byte, rfl, hd, k⟩ := h
    rfl
  · obtain ⟨d, c, byte, rfl, hd, k⟩ := h
    have G_turned := ok_turned (P := P) (w := w) (base := base) T
    refine ⟨_, (pss_one (ps_ret (pe_callE G_turned (hr.mono (by decide)) g_q36_turned pass_body (pa_cons (pe_op op_add (pe_op op_shr (pe_var (i := 0) rfl (Or.inl v_q36_d) nd_d nc_d) pe_int) (pe_op op_mul (pe_var (i := 1) rfl (Or.inl v_q36_carry) nd_carry nc_carry) (pe_var (i := 2) rfl (Or.inl v_q36_top) nd_top nc_top))) (pa_cons (pe_op op_and (pe_var (i := 0) rfl (Or.inl v_q36_d) nd_d nc_d) pe_int) (pa_cons (pe_var (i := 2) rfl (Or.inl v_q36_top) nd_top nc_top) pa_nil))) nd_turned))), ?_⟩
    have ht := tpos byte
    have hc := bool_lt c
    walk_at "rd"
    refine ⟨d / 2 + c.toNat * (Sz15.size byte / 2), decide (d % 2 = 1), byte, _, _, rfl, ?_, ?_, k⟩
    · rw [half, show (1 : Int).toNat = 1 from rfl, Int.natCast_add, Int.natCast_mul]
      omega
    · rw [bA1]; exact odd_bit d
theorem ok_rol (T : Tx K mg C_Machine C_CallReader C_NoInstruction C_OddPlace C_UnknownCall) : GFn P w K mg base "rol" 2 ["d", "carry", "top"] (sp_one 9) := by
  obtain ⟨f, fd, F, hmg, b⟩ := T.d_rol
  refine ⟨⟨f, fd, F.okX (k := 1) sc_q37 (fun vs H Q E h => ?_) (fun cdv A outer s H vs Q E hr h => ?_), hmg, F.kp, b⟩⟩
  · obtain ⟨d, c, byte, rfl, hd, k⟩ := h
    rfl
  · obtain ⟨d, c, byte, rfl, hd, k⟩ := h
    have G_turned := ok_turned (P := P) (w := w) (base := base) T
    refine ⟨_, (pss_one (ps_ret (pe_callE G_turned (hr.mono (by decide)) g_q37_turned pass_body (pa_cons (pe_op op_add (pe_op op_mod (pe_op op_mul (pe_var (i := 0) rfl (Or.inl v_q37_d) nd_d nc_d) pe_int) (pe_op op_mul (pe_var (i := 2) rfl (Or.inl v_q37_top) nd_top nc_top) pe_int)) (pe_var (i := 1) rfl (Or.inl v_q37_carry) nd_carry nc_carry)) (pa_cons (pe_ifExp (pt_truthK (K := K) rfl (pe_op op_and (pe_var (i := 0) rfl (Or.inl v_q37_d) nd_d nc_d) (pe_var (i := 2) rfl (Or.inl v_q37_top) nd_top nc_top)) (fun _ => rfl)) pe_int pe_int) (pa_cons (pe_var (i := 2) rfl (Or.inl v_q37_top) nd_top nc_top) pa_nil))) nd_turned))), ?_⟩
    have ht := tpos byte
    walk_at "rd"
    refine ⟨(2 * d + c.toNat) % Sz15.size byte, Sz15.top byte d, byte, _, _, rfl, ?_, ?_, k⟩
    · rw [tq, ← rol_eq, show (d : Int) * 2 = ((2 * d : Nat) : Int) by omega, cmod]
      rfl
    · rw [bA, nz_top]
theorem ok_asr (T : Tx K mg C_Machine C_CallReader C_NoInstruction C_OddPlace C_UnknownCall) : GFn P w K mg base "asr" 2 ["d", "carry", "top"] (sp_one 10) := by
  obtain ⟨f, fd, F, hmg, b⟩ := T.d_asr
  refine ⟨⟨f, fd, F.okX (k := 1) sc_q38 (fun vs H Q E h => ?_) (fun cdv A outer s H vs Q E hr h => ?_), hmg, F.kp, b⟩⟩
  · obtain ⟨d, c, byte, rfl, hd, k⟩ := h
    rfl
  · obtain ⟨d, c, byte, rfl, hd, k⟩ := h
    have G_turned := ok_turned (P := P) (w := w) (base := base) T
    refine ⟨_, (pss_one (ps_ret (pe_callE G_turned (hr.mono (by decide)) g_q38_turned pass_body (pa_cons (pe_op op_add (pe_op op_shr (pe_var (i := 0) rfl (Or.inl v_q38_d) nd_d nc_d) pe_int) (pe_op op_and (pe_var (i := 0) rfl (Or.inl v_q38_d) nd_d nc_d) (pe_var (i := 2) rfl (Or.inl v_q38_top) nd_top nc_top))) (pa_cons (pe_op op_and (pe_var (i := 0) rfl (Or.inl v_q38_d) nd_d nc_d) pe_int) (pa_cons (pe_var (i := 2) rfl (Or.inl v_q38_top) nd_top nc_top) pa_nil))) nd_turned))), ?_⟩
    walk_at "rd"
    refine ⟨d / 2 + (if Sz15.top byte d = true then Sz15.size byte / 2 else 0), decide (d % 2 = 1), byte, _, _, rfl, ?_, ?_, k⟩
    · rw [bA, and_top, half, show (1 : Int).toNat = 1 from rfl]
      cases Sz15.top byte d
      · simp
      · simp
    · rw [bA1]; exact odd_bit d
theorem ok_asl (T : Tx K mg C_Machine C_CallReader C_NoInstruction C_OddPlace C_UnknownCall) : GFn P w K mg base "asl" 2 ["d", "carry", "top"] (sp_one 11) := by
  obtain ⟨f, fd, F, hmg, b⟩ := T.d_asl
  refine ⟨⟨f, fd, F.okX (k := 1) sc_q39 (fun vs H Q E h => ?_) (fun cdv A outer s H vs Q E hr h => ?_), hmg, F.kp, b⟩⟩
  · obtain ⟨d, c, byte, rfl, hd, k⟩ := h
    rfl
  · obtain ⟨d, c, byte, rfl, hd, k⟩ := h
    have G_turned := ok_turned (P := P) (w := w) (base := base) T
    refine ⟨_, (pss_one (ps_ret (pe_callE G_turned (hr.mono (by decide)) g_q39_turned pass_body (pa_cons (pe_op op_mod (pe_op op_mul (pe_var (i := 0) rfl (Or.inl v_q39_d) nd_d nc_d) pe_int) (pe_op op_mul (pe_var (i := 2) rfl (Or.inl v_q39_top) nd_top nc_top) pe_int)) (pa_cons (pe_ifExp (pt_truthK (K := K) rfl (pe_op op_and (pe_var (i := 0) rfl (Or.inl v_q39_d) nd_d nc_d) (pe_var (i := 2) rfl (Or.inl v_q39_top) nd_top nc_top)) (fun _ => rfl)) pe_int pe_int) (pa_cons (pe_var (i := 2) rfl (Or.inl v_q39_top) nd_top nc_top) pa_nil))) nd_turned))), ?_⟩
    have ht := tpos byte
    walk_at "rd"
    refine ⟨2 * d % Sz15.size byte, Sz15.top byte d, byte, _, _, rfl, ?_, ?_, k⟩
    · rw [tq, show (d : Int) * 2 = ((2 * d : Nat) : Int) by omega, cmod]
    · rw [bA, nz_top]
def sp_signed : Sp := fun vs H Q _ => ∃ (x b : Nat) (v t : Int), vs = [.int v, .int t] ∧ v = (x : Int) ∧ t = ((2 ^ b : Nat) : Int) ∧ x < 2 ^ b * 2 ∧ Q (.int (Sz15.signed (2 ^ b * 2) x)) H
theorem ok_signed (T : Tx K mg C_Machine C_CallReader C_NoInstruction C_OddPlace C_UnknownCall) : GFn P w K mg base "signed" 1 ["value", "top"] sp_signed := by
  obtain ⟨f, fd, F, hmg, b⟩ := T.d_signed
  refine ⟨⟨f, fd, F.okX (k := 0) sc_q17 (fun vs H Q E h => ?_) (fun cdv A outer s H vs Q E hr h => ?_), hmg, F.kp, b⟩⟩
  · obtain ⟨x, b_, v, t, rfl, hv, ht, hx, k⟩ := h
    rfl
  · obtain ⟨x, b_, v, t, rfl, hv, ht, hx, k⟩ := h
    refine ⟨_, (pss_one (ps_ret (pe_ifExp (pt_truthK (K := K) rfl (pe_op op_and (pe_var (i := 0) rfl (Or.inl v_q17_value) nd_value nc_value) (pe_var (i := 1) rfl (Or.inl v_q17_top) nd_top nc_top)) (fun _ => rfl)) (pe_op op_sub (pe_var (i := 0) rfl (Or.inl v_q17_value) nd_value nc_value) (pe_op op_mul (pe_var (i := 1) rfl (Or.inl v_q17_top) nd_top nc_top) pe_int)) (pe_var (i := 0) rfl (Or.inl v_q17_value) nd_value nc_value)))), ?_⟩
    subst hv ht
    walk_at "rd"
    rw [bA, nz_pow]
    rw [signed_eq hx] at k
    refine rd_bt _ (fun e => ?_) (fun e => ?_)
    · rw [if_pos e] at k
      walk_at "rd"
      exact k
    · rw [if_neg (by rw [e]; decide)] at k
      walk_at "rd"
      exact k
def sp_moved : Sp := fun vs H Q _ => ∃ (x b c : Nat) (v u t : Int), vs = [.int v, .int u, .int t] ∧ v = (x : Int) ∧ u = byI c ∧ t = ((2 ^ b : Nat) : Int) ∧ b < 32 ∧ c < 64 ∧ x < 2 ^ (b + 1) ∧ TupR H (Sz15.shifted (b + 1) x c) Q
theorem pow32 {b : Nat} (h : b < 32) : 2 ^ b ≤ 2147483648 := by
  have := Nat.pow_le_pow_right (n := 2) (by decide) (show b ≤ 31 by omega)
  exact this
theorem ok_moved (T : Tx K mg C_Machine C_CallReader C_NoInstruction C_OddPlace C_UnknownCall) : GFn P w K mg base "moved" 2 ["value", "by", "top"] sp_moved := by
  obtain ⟨f, fd, F, hmg, b⟩ := T.d_moved
  refine ⟨⟨f, fd, F.okX (k := 1) sc_q40 (fun vs H Q E h => ?_) (fun cdv A outer s H vs Q E hr h => ?_), hmg, F.kp, b⟩⟩
  · obtain ⟨x, b_, c, v, u, t, rfl, hv, hu, ht, hb, hc, hx, k⟩ := h
    rfl
  · obtain ⟨x, b_, c, v, u, t, rfl, hv, hu, ht, hb, hc, hx, k⟩ := h
    have G_signed := ok_signed (P := P) (w := w) (base := base) T
    refine ⟨_, (pss_cons (ps_set (i := 3) sc_q40.nd rfl (Or.inl v_q40_number) (pe_callE G_signed (hr.mono (by decide)) g_q40_signed pass_body (pa_cons (pe_var (i := 0) rfl (Or.inl v_q40_value) nd_value nc_value) (pa_cons (pe_var (i := 2) rfl (Or.inl v_q40_top) nd_top nc_top) pa_nil)) nd_signed))
      (pss_cons (ps_if (pt_cmpR op_lt (pe_var (i := 1) rfl (Or.inl v_q40_by) nd_by nc_by) pe_int (nomark _)) (pss_one (ps_ret (pe_tup (pa_cons (pe_op op_mod (pe_op op_shr (pe_var (i := 3) rfl (Or.inl v_q40_number) nd_number nc_number) (pe_un un_neg (pe_var (i := 1) rfl (Or.inl v_q40_by) nd_by nc_by))) (pe_op op_mul (pe_var (i := 2) rfl (Or.inl v_q40_top) nd_top nc_top) pe_int)) (pa_cons pe_int (pa_cons (pe_op op_and (pe_op op_shr (pe_var (i := 3) rfl (Or.inl v_q40_number) nd_number nc_number) (pe_op op_sub (pe_un un_neg (pe_var (i := 1) rfl (Or.inl v_q40_by) nd_by nc_by)) pe_int)) pe_int) pa_nil)))))) pss_nil)
      (pss_cons (ps_set (i := 4) sc_q40.nd rfl (Or.inl v_q40_result) (pe_op op_mod (pe_op op_shl (pe_var (i := 0) rfl (Or.inl v_q40_value) nd_value nc_value) (pe_var (i := 1) rfl (Or.inl v_q40_by) nd_by nc_by)) (pe_op op_mul (pe_var (i := 2) rfl (Or.inl v_q40_top) nd_top nc_top) pe_int)))
      (pss_cons (ps_set (i := 5) sc_q40.nd rfl (Or.inl v_q40_overflow) (pe_ifExp (pt_cmpR op_ne (pe_callE G_signed (hr.mono (by decide)) g_q40_signed pass_body (pa_cons (pe_var (i := 4) rfl (Or.inl v_q40_result) nd_result nc_result) (pa_cons (pe_var (i := 2) rfl (Or.inl v_q40_top) nd_top nc_top) pa_nil)) nd_signed) (pe_op op_shl (pe_var (i := 3) rfl (Or.inl v_q40_number) nd_number nc_number) (pe_var (i := 1) rfl (Or.inl v_q40_by) nd_by nc_by)) (nomark _)) pe_int pe_int))
      (pss_one (ps_ret (pe_tup (pa_cons (pe_var (i := 4) rfl (Or.inl v_q40_result) nd_result nc_result) (pa_cons (pe_var (i := 5) rfl (Or.inl v_q40_overflow) nd_overflow nc_overflow) (pa_cons (pe_ifExp (pt_truthK (K := K) rfl (pe_op op_and (pe_op op_shl (pe_var (i := 0) rfl (Or.inl v_q40_value) nd_value nc_value) (pe_var (i := 1) rfl (Or.inl v_q40_by) nd_by nc_by)) (pe_op op_mul (pe_var (i := 2) rfl (Or.inl v_q40_top) nd_top nc_top) pe_int)) (fun _ => rfl)) pe_int pe_int) pa_nil)))))))))), ?_⟩
    subst hv hu ht
    have e2 : 2 ^ (b_ + 1) = 2 ^ b_ * 2 := Nat.pow_succ 2 b_
    have hp := pow32 hb
    have hp0 : 0 < 2 ^ b_ := Nat.two_pow_pos b_
    have tq2 : ((2 ^ b_ : Nat) : Int) * 2 = ((2 ^ (b_ + 1) : Nat) : Int) := by rw [e2]; omega
    walk_at "rd"
    refine ⟨x, b_, _, _, rfl, rfl, rfl, by rw [← e2]; exact hx, ?_⟩
    rw [← e2]
    walk_at "rd"
    have hu : byI c = if c < 32 then (c : Int) else (c : Int) - 64 := rfl
    refine rd_ite (fun h => ?_) (fun h => ?_)
    · have hc32 : ¬ c < 32 := fun z => by rw [hu, if_pos z] at h; omega
      rw [if_neg hc32] at hu
      rw [hu]
      rw [shr_eq hc32] at k
      walk_at "rd"
      refine ⟨le3, fun p hp' => tup3 (k p hp') ?_ rfl ?_⟩
      · rw [tq2, show (-((c : Int) - 64)).toNat = 64 - c by omega]
        have h0 : 0 ≤ (Sz15.signed (2 ^ (b_ + 1)) x / (2 : Int) ^ (64 - c)).emod ((2 ^ (b_ + 1) : Nat) : Int) := Int.emod_nonneg _ (by omega)
        show (Sz15.signed (2 ^ (b_ + 1)) x / (2 : Int) ^ (64 - c)).emod ((2 ^ (b_ + 1) : Nat) : Int) = _
        omega
      · rw [show (-((c : Int) - 64) - 1).toNat = 64 - c - 1 by omega, PyProof.Rows.bitAnd_m1]
        generalize Sz15.signed (2 ^ (b_ + 1)) x / (2 : Int) ^ (64 - c - 1) = z
        show z.emod 2 = (((decide (z.emod 2 = 1)).toNat : Nat) : Int)
        have : z.emod 2 = 0 ∨ z.emod 2 = 1 := Int.emod_two_eq z
        rcases this with e | e <;> rw [e] <;> rfl
    · have hc32 : c < 32 := by
        by_cases z : c < 32
        · exact z
        · rw [hu, if_neg z] at h; omega
      rw [if_pos hc32] at hu
      rw [hu]
      rw [shl_eq hc32, shl_v hx, shl_c hx] at k
      walk_at "rd"
      rw [show ((c : Nat) : Int).toNat = c from rfl, sL, tq2, cmod]
      refine ⟨x * 2 ^ c % 2 ^ (b_ + 1), b_, _, _, rfl, rfl, rfl, by rw [← e2]; exact Nat.mod_lt _ (by omega), ?_⟩
      rw [← e2]
      have hs : (Sz15.signed (2 ^ (b_ + 1)) x).natAbs < 2 ^ 64 := by
        unfold Sz15.signed
        have hm : x % 2 ^ (b_ + 1) < 2 ^ (b_ + 1) := Nat.mod_lt _ (by omega)
        generalize 2 ^ (b_ + 1) = q at *
        split <;> omega
      walk_at "rd"
      rw [show ((c : Nat) : Int).toNat = c from rfl, sL]
      refine ⟨le3, fun p hp' => tup3 (k p hp') rfl rfl ?_⟩
      rw [tq2, bA, nz_pow]
def sp_divided : Sp := fun vs H Q _ => ∃ (a b : Int), vs = [.int a, .int b] ∧ b ≠ 0 ∧ -32768 ≤ b ∧ b ≤ 32768 ∧ ∀ p, H p = none → Q (.ref p) (upd H p (.tup [.int (a.tdiv b), .int (a.tmod b)]))
theorem ok_divided (T : Tx K mg C_Machine C_CallReader C_NoInstruction C_OddPlace C_UnknownCall) : GFn P w K mg base "divided" 1 ["number", "by"] sp_divided := by
  obtain ⟨f, fd, F, hmg, b⟩ := T.d_divided
  refine ⟨⟨f, fd, F.okX (k := 0) sc_q41 (fun vs H Q E h => ?_) (fun cdv A outer s H vs Q E hr h => ?_), hmg, F.kp, b⟩⟩
  · obtain ⟨a, b_, rfl, hb, h1, h2, k⟩ := h
    rfl
  · obtain ⟨a, b_, rfl, hb, h1, h2, k⟩ := h
    refine ⟨_, (pss_cons (ps_set (i := 2) sc_q41.nd rfl (Or.inl v_q41_quotient) (pe_op op_fdiv (pe_abs g_q41_abs T.b_abs (pa_cons (pe_var (i := 0) rfl (Or.inl v_q41_number) nd_number nc_number) pa_nil)) (pe_abs g_q41_abs T.b_abs (pa_cons (pe_var (i := 1) rfl (Or.inl v_q41_by) nd_by nc_by) pa_nil))))
      (pss_cons (ps_if (pt_cmpR op_ne (pe_cmpR op_lt (pe_var (i := 0) rfl (Or.inl v_q41_number) nd_number nc_number) pe_int (nomark _)) (pe_cmpR op_lt (pe_var (i := 1) rfl (Or.inl v_q41_by) nd_by nc_by) pe_int (nomark _)) (nomark _)) (pss_one (ps_set (i := 2) sc_q41.nd rfl (Or.inl v_q41_quotient) (pe_un un_neg (pe_var (i := 2) rfl (Or.inl v_q41_quotient) nd_quotient nc_quotient)))) pss_nil)
      (pss_one (ps_ret (pe_tup (pa_cons (pe_var (i := 2) rfl (Or.inl v_q41_quotient) nd_quotient nc_quotient) (pa_cons (pe_op op_sub (pe_var (i := 0) rfl (Or.inl v_q41_number) nd_number nc_number) (pe_op op_mul (pe_var (i := 2) rfl (Or.inl v_q41_quotient) nd_quotient nc_quotient) (pe_var (i := 1) rfl (Or.inl v_q41_by) nd_by nc_by))) pa_nil))))))), ?_⟩
    walk_at "rd"
    have fin : ∀ (q : Int), q = divQ a b_ → ∀ p, H p = none → Q (.ref p) (upd H p (.tup [.int q, .int (a - q * b_)])) := fun q e p hp => by
      subst e
      rw [divR_eq, divQ_eq]
      exact k p hp
    refine rd_bt _ (fun h => ?_) (fun h => ?_)
    · walk_at "rd"
      exact ⟨le2, fun p hp => fin _ (by unfold divQ absI; rw [if_pos h]) p hp⟩
    · walk_at "rd"
      exact ⟨le2, fun p hp => fin _ (by unfold divQ absI; rw [if_neg (show ¬ (decide (a < 0) != decide (b_ < 0)) = true by rw [h]; decide)]) p hp⟩
def sp_within : Sp := fun vs H Q _ => ∃ (n : Int), vs = [.int n] ∧ Q (.bl (decide (-32768 ≤ n ∧ n < 32768))) H
theorem ok_is_within_word (T : Tx K mg C_Machine C_CallReader C_NoInstruction C_OddPlace C_UnknownCall) : GFn P w K mg base "is_within_word" 1 ["number"] sp_within := by
  obtain ⟨f, fd, F, hmg, b⟩ := T.d_is_within_word
  refine ⟨⟨f, fd, F.okX (k := 0) sc_q58 (fun vs H Q E h => ?_) (fun cdv A outer s H vs Q E hr h => ?_), hmg, F.kp, b⟩⟩
  · obtain ⟨n, rfl, k⟩ := h
    rfl
  · obtain ⟨n, rfl, k⟩ := h
    refine ⟨_, (pss_one (ps_ret (pe_chain op_le op_lt (pe_un un_neg (pe_globI g_q58_WORD_TOP T.c_WORD_TOP nd_WORD_TOP)) (pe_var (i := 0) rfl (Or.inl v_q58_number) nd_number nc_number) (pe_globI g_q58_WORD_TOP T.c_WORD_TOP nd_WORD_TOP)))), ?_⟩
    walk_at "rd"
    refine rd_ite (fun h1 => ?_) (fun h1 => ?_)
    · walk_at "rd"
      rw [show decide (-32768 ≤ n ∧ n < 32768) = decide (n < 32768) from decide_eq_decide.mpr ⟨fun h => h.2, fun h => ⟨h1, h⟩⟩] at k
      exact k
    · rw [decide_eq_false (fun h => h1 h.1)] at k
      exact k
end
section
variable {P : Program} {w : World} {K : PySem.W.Frag} {mg : Str → Option Value} {base : Heap} {C_Machine C_CallReader C_NoInstruction C_OddPlace C_UnknownCall : Addr}
theorem rd_yes {c A B : Prop} [Decidable c] (hc : c) (h : A) : if decide c = true then A else B := by rw [decide_eq_true hc, if_pos rfl]; exact h
theorem rd_no {c A B : Prop} [Decidable c] (hc : ¬ c) (h : B) : if decide c = true then A else B := by rw [decide_eq_false hc, if_neg Bool.false_ne_true]; exact h
def sp_pat (C : Addr) : Sp := fun vs H Q _ => ∃ (m : Addr) (st : Sz15.St) (y : Int) (r : Nat) (s : Int), vs = [.ref m, .int (r : Nat), .int s] ∧ MSy C H m st y ∧ r < 8 ∧ Q (.int ((st.reg r : Nat) : Int)) H
theorem ok_place_at (T : Tx K mg C_Machine C_CallReader C_NoInstruction C_OddPlace C_UnknownCall) : GFn P w K mg base "place_at" 1 ["machine", "r", "step"] (sp_pat C_Machine) := by
  obtain ⟨f, fd, F, hmg, b⟩ := T.d_place_at
  refine ⟨⟨f, fd, F.okX (k := 0) sc_q42 (fun vs H Q E h => ?_) (fun cdv A outer s H vs Q E hr h => ?_), hmg, F.kp, b⟩⟩
  · obtain ⟨m, st, y, r, sp, rfl, hms, hr8, k⟩ := h
    rfl
  · obtain ⟨m, st, y, r, sp, rfl, hms, hr8, k⟩ := h
    refine ⟨_, (pss_one (ps_ret (pe_ixLK (K := K) rfl (pe_fldK (K := K) rfl (pe_var (i := 0) rfl (Or.inl v_q42_machine) nd_machine nc_machine) rfl) (pe_var (i := 1) rfl (Or.inl v_q42_r) nd_r nc_r) (fun _ _ => rfl)))), ?_⟩
    obtain ⟨dx, S, rs, ms, e1, e2, e3, rel⟩ := hms.ex
    walk_at "rd"
    exact rd_ixL (SqL.of e2) (rel.get rfl hr8) k
def sp_pts (C : Addr) : Sp := fun vs H Q _ => ∃ (m : Addr) (st : Sz15.St) (y : Int) (r s : Nat), vs = [.ref m, .int (r : Nat), .int (s : Nat)] ∧ MSy C H m st y ∧ r < 8 ∧ Ret C m H (st.setReg r (st.reg r + s)) y (.int ((st.reg r : Nat) : Int)) Q
theorem ok_place_then_step (T : Tx K mg C_Machine C_CallReader C_NoInstruction C_OddPlace C_UnknownCall) : GFn P w K mg base "place_then_step" 1 ["machine", "r", "step"] (sp_pts C_Machine) := by
  obtain ⟨f, fd, F, hmg, b⟩ := T.d_place_then_step
  refine ⟨⟨f, fd, F.okX (k := 0) sc_q43 (fun vs H Q E h => ?_) (fun cdv A outer s H vs Q E hr h => ?_), hmg, F.kp, b⟩⟩
  · obtain ⟨m, st, y, r, sp, rfl, hms, hr8, k⟩ := h
    rfl
  · obtain ⟨m, st, y, r, sp, rfl, hms, hr8, k⟩ := h
    refine ⟨_, (pss_cons (ps_set (i := 3) sc_q43.nd rfl (Or.inl v_q43_place) (pe_ixLK (K := K) rfl (pe_fldK (K := K) rfl (pe_var (i := 0) rfl (Or.inl v_q43_machine) nd_machine nc_machine) rfl) (pe_var (i := 1) rfl (Or.inl v_q43_r) nd_r nc_r) (fun _ _ => rfl)))
      (pss_cons (ps_asg (pe_op op_mod (pe_op op_add (pe_var (i := 3) rfl (Or.inl v_q43_place) nd_place nc_place) (pe_var (i := 2) rfl (Or.inl v_q43_step) nd_step nc_step)) (pe_globI g_q43_WORD_RANGE T.c_WORD_RANGE nd_WORD_RANGE)) (pg_sub (pe_fldK (K := K) rfl (pe_var (i := 0) rfl (Or.inl v_q43_machine) nd_machine nc_machine) rfl) (pe_var (i := 1) rfl (Or.inl v_q43_r) nd_r nc_r) set_list))
      (pss_one (ps_ret (pe_var (i := 3) rfl (Or.inl v_q43_place) nd_place nc_place))))), ?_⟩
    obtain ⟨dx, S, rs, ms, e1, e2, e3, rel⟩ := hms.ex
    walk_at "rd"
    refine rd_ixL (SqL.of e2) (rel.get rfl hr8) ?_
    walk_at "rd"
    refine rd_setL e2 (rel.ixR rfl hr8) ?_
    have q := set_reg (C := C_Machine) e1 e2 e3 rel (k := r) (v := ((st.reg r : Nat) + (sp : Nat) : Int) % 65536) (st.reg r + sp) (by omega)
    walk_at "rd"
    exact k _ q.1 q.2
def sp_stp (C : Addr) : Sp := fun vs H Q _ => ∃ (m : Addr) (st : Sz15.St) (y : Int) (r s : Nat), vs = [.ref m, .int (r : Nat), .int (s : Nat)] ∧ MSy C H m st y ∧ r < 8 ∧ s ≤ 2 ∧ Ret C m H (st.setReg r (Sz15.w16 (st.reg r + 65536 - s))) y (.int ((Sz15.w16 (st.reg r + 65536 - s) : Nat) : Int)) Q
theorem ok_step_then_place (T : Tx K mg C_Machine C_CallReader C_NoInstruction C_OddPlace C_UnknownCall) : GFn P w K mg base "step_then_place" 1 ["machine", "r", "step"] (sp_stp C_Machine) := by
  obtain ⟨f, fd, F, hmg, b⟩ := T.d_step_then_place
  refine ⟨⟨f, fd, F.okX (k := 0) sc_q44 (fun vs H Q E h => ?_) (fun cdv A outer s H vs Q E hr h => ?_), hmg, F.kp, b⟩⟩
  · obtain ⟨m, st, y, r, sp, rfl, hms, hr8, hs2, k⟩ := h
    rfl
  · obtain ⟨m, st, y, r, sp, rfl, hms, hr8, hs2, k⟩ := h
    refine ⟨_, (pss_cons (ps_set (i := 3) sc_q44.nd rfl (Or.inl v_q44_place) (pe_op op_mod (pe_op op_sub (pe_ixLK (K := K) rfl (pe_fldK (K := K) rfl (pe_var (i := 0) rfl (Or.inl v_q44_machine) nd_machine nc_machine) rfl) (pe_var (i := 1) rfl (Or.inl v_q44_r) nd_r nc_r) (fun _ _ => rfl)) (pe_var (i := 2) rfl (Or.inl v_q44_step) nd_step nc_step)) (pe_globI g_q44_WORD_RANGE T.c_WORD_RANGE nd_WORD_RANGE)))
      (pss_cons (ps_asg (pe_var (i := 3) rfl (Or.inl v_q44_place) nd_place nc_place) (pg_sub (pe_fldK (K := K) rfl (pe_var (i := 0) rfl (Or.inl v_q44_machine) nd_machine nc_machine) rfl) (pe_var (i := 1) rfl (Or.inl v_q44_r) nd_r nc_r) set_list))
      (pss_one (ps_ret (pe_var (i := 3) rfl (Or.inl v_q44_place) nd_place nc_place))))), ?_⟩
    obtain ⟨dx, S, rs, ms, e1, e2, e3, rel⟩ := hms.ex
    walk_at "rd"
    refine rd_ixL (SqL.of e2) (rel.get rfl hr8) ?_
    walk_at "rd"
    rw [show ((st.reg r : Nat) - (sp : Nat) : Int) % 65536 = ((Sz15.w16 (st.reg r + 65536 - sp) : Nat) : Int) by unfold Sz15.w16; omega]
    have hw : Sz15.w16 (st.reg r + 65536 - sp) < 65536 := Nat.mod_lt _ (by decide)
    refine rd_setL e2 (rel.ixR rfl hr8) ?_
    have q := set_reg (C := C_Machine) e1 e2 e3 rel (k := r) (v := ((Sz15.w16 (st.reg r + 65536 - sp) : Nat) : Int)) (Sz15.w16 (st.reg r + 65536 - sp)) (by omega)
    walk_at "rd"
    exact k _ q.1 q.2
def sp_pnw (C O : Addr) : Sp := fun vs H Q E => ∃ (m : Addr) (st : Sz15.St) (y : Int) (r : Nat) (s : Int), vs = [.ref m, .int (r : Nat), .int s] ∧ MSy C H m st y ∧ r < 8 ∧ Out0 C m O H y (st.fetch.map fun f => (f.1, .int ((Sz15.w16 (f.1.reg r + f.2) : Nat) : Int))) Q E
theorem ok_place_by_next_word (T : Tx K mg C_Machine C_CallReader C_NoInstruction C_OddPlace C_UnknownCall) : GFn P w K mg base "place_by_next_word" 3 ["machine", "r", "step"] (sp_pnw C_Machine C_OddPlace) := by
  obtain ⟨f, fd, F, hmg, b⟩ := T.d_place_by_next_word
  refine ⟨⟨f, fd, F.okX (k := 2) sc_q45 (fun vs H Q E h => ?_) (fun cdv A outer s H vs Q E hr h => ?_), hmg, F.kp, b⟩⟩
  · obtain ⟨m, st, y, r, sp, rfl, hms, hr8, k⟩ := h
    rfl
  · obtain ⟨m, st, y, r, sp, rfl, hms, hr8, k⟩ := h
    have G_Machine_take_next_word := ok_Machine_take_next_word (P := P) (w := w) (base := base) T
    refine ⟨_, (pss_cons (ps_set (i := 3) sc_q45.nd rfl (Or.inl v_q45_word) (pe_meth0E G_Machine_take_next_word (hr.mono (by decide)) pass_body (pe_var (i := 0) rfl (Or.inl v_q45_machine) nd_machine nc_machine)))
      (pss_one (ps_ret (pe_op op_mod (pe_op op_add (pe_ixLK (K := K) rfl (pe_fldK (K := K) rfl (pe_var (i := 0) rfl (Or.inl v_q45_machine) nd_machine nc_machine) rfl) (pe_var (i := 1) rfl (Or.inl v_q45_r) nd_r nc_r) (fun _ _ => rfl)) (pe_var (i := 3) rfl (Or.inl v_q45_word) nd_word nc_word)) (pe_globI g_q45_WORD_RANGE T.c_WORD_RANGE nd_WORD_RANGE))))), ?_⟩
    obtain ⟨dx, S, rs, ms, e1, e2, e3, rel⟩ := hms.ex
    walk_at "rd"
    refine ⟨m, st, y, rfl, hms, ?_⟩
    cases e : st.fetch with
    | none => rw [e] at k; exact k
    | some f =>
      obtain ⟨st1, x⟩ := f
      rw [e] at k
      intro H1 h1 s1
      obtain ⟨dx', S', rs', ms', z1, z2, z3, rel'⟩ := h1.ex
      walk_at "rd"
      refine rd_ixL (SqL.of z2) (rel'.get rfl hr8) ?_
      walk_at "rd"
      rw [show ((st1.reg r : Nat) + (x : Nat) : Int) % 65536 = ((Sz15.w16 (st1.reg r + x) : Nat) : Int) by unfold Sz15.w16; omega]
      exact k H1 h1 s1
theorem rd_or3 {i : Nat} {σ : St} {H : Hp} {Q : VK} {x a b c : Int} (e : σ[i]? = some (some (.int x))) (h : Q (.bl (decide (x = a ∨ x = b ∨ x = c))) H) : tOrV (tOp rEq (tVar i) (tC (.int a))) (tOrV (tOp rEq (tVar i) (tC (.int b))) (tOp rEq (tVar i) (tC (.int c)))) σ H Q := by
  refine rd_orV (rd_op (rd_var e (rd_c (rd_eqI (rd_bl ?_)))))
  refine rd_ite (fun h1 => ?_) (fun h1 => ?_)
  · rw [decide_eq_true (.inl h1)] at h; exact h
  · refine rd_orV (rd_op (rd_var e (rd_c (rd_eqI (rd_bl ?_)))))
    refine rd_ite (fun h2 => ?_) (fun h2 => ?_)
    · rw [decide_eq_true (.inr (.inl h2))] at h; exact h
    · refine rd_op (rd_var e (rd_c (rd_eqI ?_)))
      rw [show decide (x = a ∨ x = b ∨ x = c) = decide (x = c) from decide_eq_decide.mpr ⟨fun z => by rcases z with z | z | z; exact (h1 z).elim; exact (h2 z).elim; exact z, fun z => .inr (.inr z)⟩] at h
      exact h
theorem rd_step {σ : St} {H : Hp} {Q : VK} {x r : Int} {bw : Bool} (e2 : σ[2]? = some (some (.int x))) (e4 : σ[4]? = some (some (.int r))) (e5 : σ[5]? = some (some (.bl bw))) (h : Q (.int ((if x = 128 ∧ r < 6 ∧ bw = false then 1 else 2 : Nat) : Int)) H) :
    tIf (tAnd (tTest (tOp rEq (tVar 2) (tC (.int 128)))) (tAnd (tTest (tOp (rI0 fun i j => .bl (decide (i < j))) (tVar 4) (tC (.int 6)))) (tNot (tB (tVar 5))))) (tC (.int 1)) (tC (.int 2)) σ H Q := by
  refine rd_ifE (rd_and (rd_test (rd_op (rd_var e2 (rd_c (rd_eqI (rd_bl ?_)))))))
  refine rd_ite (fun h1 => ?_) (fun h1 => ?_)
  · refine rd_and (rd_test (rd_op (rd_var e4 (rd_c (rd_I0 (rd_bl ?_))))))
    refine rd_ite (fun h2 => ?_) (fun h2 => ?_)
    · refine rd_not (rd_B (rd_var e5 (rd_bl ?_)))
      refine rd_bn _ (fun h3 => ?_) (fun h3 => ?_)
      · rw [if_pos ⟨h1, h2, h3⟩] at h; exact h
      · rw [if_neg (fun z => by rw [h3] at z; cases z.2.2)] at h; exact h
    · refine rd_F ?_
      rw [if_neg (fun z => h2 z.2.1)] at h; exact h
  · refine rd_F ?_
    rw [if_neg (fun z => h1 z.1)] at h; exact h
local macro_rules | `(tactic| walk_at "rd2") => `(tactic| first
  | ((with_reducible refine' rd_or3 ?e1 ?_); (case e1 => rfl))
  | ((with_reducible refine' rd_step ?e1 ?e2 ?e3 ?_); (case e1 => rfl); (case e2 => rfl); (case e3 => rfl)))
def sp_tell (C O : Addr) : Sp := fun vs H Q E => ∃ (m : Addr) (st : Sz15.St) (y : Int) (bits : Nat) (byte : Bool) (t : Int), vs = [.ref m, .int (bits : Nat), .int t] ∧ t = ((topv byte : Nat) : Int) ∧ MSy C H m st y ∧ bits < 64 ∧ Out C m O H st y ((Sz15.place st bits byte).map fun p => (p.1, .int ((enc p.2 : Nat) : Int))) Q E
theorem places {K : PySem.W.Frag} {mg : Str → Option Value} {a : Addr} (h : KTup K mg a tab_PLACES) : ∃ f0 f1 f2 f3 : Addr, (∀ H, SqT K H a [.ref f0, .ref f1, .ref f2, .ref f3]) ∧ mg "place_at" = some (.ref f0) ∧ mg "place_then_step" = some (.ref f1) ∧ mg "step_then_place" = some (.ref f2) ∧ mg "place_by_next_word" = some (.ref f3) := by
  obtain ⟨fs, h1, h2⟩ := h
  unfold tab_PLACES at h2
  cases h2 with
  | cons a0 h2 => cases h2 with
    | cons a1 h2 => cases h2 with
      | cons a2 h2 => cases h2 with
        | cons a3 h2 =>
          cases h2
          exact ⟨_, _, _, _, h1, a0, a1, a2, a3⟩
theorem step_v (byte : Bool) (r : Nat) (b : Bool) : (if ((topv byte : Nat) : Int) = 128 ∧ ((r : Nat) : Int) < 6 ∧ b = false then 1 else 2 : Nat) = if byte = true ∧ r < 6 ∧ b = false then 1 else 2 := by
  cases byte
  · rw [if_neg (fun z => by have := z.1; revert this; decide), if_neg (fun z => by cases z.1)]
  · by_cases h : r < 6 ∧ b = false
    · rw [if_pos ⟨rfl, by omega, h.2⟩, if_pos ⟨rfl, h.1, h.2⟩]
    · rw [if_neg (fun z => h ⟨by omega, z.2.2⟩), if_neg (fun z => h z.2)]
theorem step_f (byte : Bool) (r : Nat) {b : Bool} (h : b = false) : (if byte = true ∧ r < 6 ∧ b = false then 1 else 2 : Nat) = if byte = true ∧ r < 6 then 1 else 2 := by
  subst h
  by_cases z : byte = true ∧ r < 6
  · rw [if_pos z, if_pos ⟨z.1, z.2, rfl⟩]
  · rw [if_neg z, if_neg (fun q => z ⟨q.1, q.2.1⟩)]
theorem step_t (byte : Bool) (r : Nat) {b : Bool} (h : b = true) : (if byte = true ∧ r < 6 ∧ b = false then 1 else 2 : Nat) = 2 := by
  subst h
  exact if_neg (fun q => by cases q.2.2)
theorem fetch_same {st st1 : Sz15.St} {x : Nat} (e : st.fetch = some (st1, x)) : Same st st1 := by
  unfold Sz15.St.fetch at e
  obtain ⟨z, _, e2⟩ := Option.map_eq_some_iff.mp e
  injection e2 with e3 _
  subst e3
  exact .setReg
theorem place_way {st : Sz15.St} {bits wy : Nat} (h : bits / 8 = wy) (hb : bits < 64) : bits / 8 % 8 = wy := by omega
theorem ok_tell (T : Tx K mg C_Machine C_CallReader C_NoInstruction C_OddPlace C_UnknownCall) : GFn P w K mg base "tell" 4 ["machine", "bits", "top"] (sp_tell C_Machine C_OddPlace) := by
  obtain ⟨f, fd, F, hmg, b⟩ := T.d_tell
  refine ⟨⟨f, fd, F.okX (k := 3) sc_q46 (fun vs H Q E h => ?_) (fun cdv A outer s H vs Q E hr h => ?_), hmg, F.kp, b⟩⟩
  · obtain ⟨m, st, y, bits, byte, t, rfl, ht, hms, hb64, k⟩ := h
    rfl
  · obtain ⟨m, st, y, bits, byte, t, rfl, ht, hms, hb64, k⟩ := h
    have G_place_at := ok_place_at (P := P) (w := w) (base := base) T
    have G_place_then_step := ok_place_then_step (P := P) (w := w) (base := base) T
    have G_step_then_place := ok_step_then_place (P := P) (w := w) (base := base) T
    have G_place_by_next_word := ok_place_by_next_word (P := P) (w := w) (base := base) T
    have G_Machine_read_word := ok_Machine_read_word (P := P) (w := w) (base := base) T
    obtain ⟨a_PLACES, ha_PLACES, hd_PLACES⟩ := T.t_PLACES
    refine ⟨_, (pss_cons (ps_set (i := 3) sc_q46.nd rfl (Or.inl v_q46_way) (pe_op op_shr (pe_var (i := 1) rfl (Or.inl v_q46_bits) nd_bits nc_bits) pe_int))
      (pss_cons (ps_set (i := 4) sc_q46.nd rfl (Or.inl v_q46_r) (pe_op op_and (pe_var (i := 1) rfl (Or.inl v_q46_bits) nd_bits nc_bits) pe_int))
      (pss_cons (ps_if (pt_cmpR op_eq (pe_var (i := 3) rfl (Or.inl v_q46_way) nd_way nc_way) pe_int (nomark _)) (pss_one (ps_ret (pe_op op_add (pe_globI g_q46_REGISTER_PLACES T.c_REGISTER_PLACES nd_REGISTER_PLACES) (pe_var (i := 4) rfl (Or.inl v_q46_r) nd_r nc_r)))) pss_nil)
      (pss_cons (ps_set (i := 5) sc_q46.nd rfl (Or.inl v_q46_is_by_word) (pe_or (pe_cmpR op_eq (pe_var (i := 3) rfl (Or.inl v_q46_way) nd_way nc_way) pe_int (nomark _)) (pe_or (pe_cmpR op_eq (pe_var (i := 3) rfl (Or.inl v_q46_way) nd_way nc_way) pe_int (nomark _)) (pe_one (pe_cmpR op_eq (pe_var (i := 3) rfl (Or.inl v_q46_way) nd_way nc_way) pe_int (nomark _))))))
      (pss_cons (ps_set (i := 6) sc_q46.nd rfl (Or.inl v_q46_step) (pe_ifExp (PW.pt (pw_and (pt_cmpR op_eq (pe_var (i := 2) rfl (Or.inl v_q46_top) nd_top nc_top) (pe_globI g_q46_BYTE_TOP T.c_BYTE_TOP nd_BYTE_TOP) (nomark _)) (pw_and (pt_cmpR op_lt (pe_var (i := 4) rfl (Or.inl v_q46_r) nd_r nc_r) (pe_globI g_q46_SP T.c_SP nd_SP) (nomark _)) (pw_and1 (pt_not (pt_val (pe_var (i := 5) rfl (Or.inl v_q46_is_by_word) nd_is_by_word nc_is_by_word))))))) pe_int pe_int))
      (pss_cons (ps_set (i := 7) sc_q46.nd rfl (Or.inl v_q46_place) (pe_callV (P := P) (w := w) (K := K) (mg := mg) (base := base) (k := 3) rfl rfl rfl rfl rfl hr pass_body (pe_ixTK (K := K) rfl (pe_glob (v := .ref a_PLACES) g_q46_PLACES ha_PLACES rfl nd_PLACES) (pe_op op_shr (pe_var (i := 3) rfl (Or.inl v_q46_way) nd_way nc_way) pe_int) (fun _ _ => rfl)) (pa_cons (pe_var (i := 0) rfl (Or.inl v_q46_machine) nd_machine nc_machine) (pa_cons (pe_var (i := 4) rfl (Or.inl v_q46_r) nd_r nc_r) (pa_cons (pe_var (i := 6) rfl (Or.inl v_q46_step) nd_step nc_step) pa_nil)))))
      (pss_one (ps_ret (pe_ifExp (pt_val (pe_var (i := 5) rfl (Or.inl v_q46_is_by_word) nd_is_by_word nc_is_by_word)) (pe_methE G_Machine_read_word (hr.mono (by decide)) pass_body (pe_var (i := 0) rfl (Or.inl v_q46_machine) nd_machine nc_machine) (pa_cons (pe_var (i := 7) rfl (Or.inl v_q46_place) nd_place nc_place) pa_nil)) (pe_var (i := 7) rfl (Or.inl v_q46_place) nd_place nc_place)))))))))), ?_⟩
    subst ht
    obtain ⟨dx, S, rs, ms, e1, e2, e3, rel⟩ := hms.ex
    obtain ⟨f0, f1, f2, f3, hsq, m0, m1, m2, m3⟩ := places hd_PLACES
    have hr8 : bits % 8 < 8 := Nat.mod_lt _ (by decide)
    walk_at "rd"
    rw [show (3 : Int).toNat = 3 from rfl, sR, show (2 : Nat) ^ 3 = 8 from rfl, bA7]
    have hw8 : bits / 8 < 8 := by omega
    unfold Sz15.place at k
    dsimp only at k
    rw [show bits / 8 % 8 = bits / 8 from Nat.mod_eq_of_lt hw8] at k
    generalize hwy : bits / 8 = wy at *
    generalize hrr : bits % 8 = r at *
    have hcase : wy = 0 ∨ wy = 1 ∨ wy = 2 ∨ wy = 3 ∨ wy = 4 ∨ wy = 5 ∨ wy = 6 ∨ wy = 7 := by omega
    rcases hcase with rfl | rfl | rfl | rfl | rfl | rfl | rfl | rfl
    · refine rd_yes rfl ?_
      walk_at "rd"
      have k1 : Ret C_Machine m H st y (.int ((65536 + r : Nat) : Int)) Q := k
      rw [Int.natCast_add] at k1
      exact k1 H hms .refl
    · refine rd_no (by decide) ?_
      walk_at "rd"
      refine rd_ixT (hsq _) (v := .ref f0) (by kernel_rfl) ⟨f0, _, rfl, G_place_at.gv m0 (by decide), ?_⟩
      walk_at "rd"
      refine ⟨m, st, y, r, _, rfl, hms, hr8, ?_⟩
      walk_at "rd"
      refine rd_no (by decide) ?_
      walk_at "rd"
      exact (show Ret C_Machine m H st y (.int ((st.reg r : Nat) : Int)) Q from k) H hms .refl
    · refine rd_no (by decide) ?_
      walk_at "rd"
      rw [step_v, step_f _ _ (by decide)]
      refine rd_ixT (hsq _) (v := .ref f1) (by kernel_rfl) ⟨f1, _, rfl, G_place_then_step.gv m1 (by decide), ?_⟩
      walk_at "rd"
      refine ⟨m, st, y, r, _, rfl, hms, hr8, fun H1 h1 s1 => ?_⟩
      walk_at "rd"
      refine rd_no (by decide) ?_
      walk_at "rd"
      exact (show Ret C_Machine m H (st.setReg r (st.reg r + if byte = true ∧ r < 6 then 1 else 2)) y (.int ((st.reg r : Nat) : Int)) Q from k) H1 h1 s1
    · refine rd_no (by decide) ?_
      walk_at "rd"
      rw [step_v, step_t _ _ (by decide)]
      refine rd_ixT (hsq _) (v := .ref f1) (by kernel_rfl) ⟨f1, _, rfl, G_place_then_step.gv m1 (by decide), ?_⟩
      walk_at "rd"
      refine ⟨m, st, y, r, _, rfl, hms, hr8, fun H1 h1 s1 => ?_⟩
      obtain ⟨dx1, S1, rs1, ms1, z1, z2, z3, rel1⟩ := h1.ex
      walk_at "rd"
      refine rd_yes (by decide) ?_
      walk_at "rd"
      refine ⟨m, _, y, st.reg r, rfl, h1, rel.wf.reg r, ?_⟩
      rw [show (st.setReg r (st.reg r + 2)).word (st.reg r) = st.word (st.reg r) from rfl]
      cases e : st.word (st.reg r) with
      | none => rw [e] at k; exact Fall.at k h1 .setReg s1
      | some x => rw [e] at k; exact (show Ret C_Machine m H (st.setReg r (st.reg r + 2)) y (.int (x : Nat)) Q from k) H1 h1 s1
    · refine rd_no (by decide) ?_
      walk_at "rd"
      rw [step_v, step_f _ _ (by decide)]
      refine rd_ixT (hsq _) (v := .ref f2) (by kernel_rfl) ⟨f2, _, rfl, G_step_then_place.gv m2 (by decide), ?_⟩
      walk_at "rd"
      refine ⟨m, st, y, r, _, rfl, hms, hr8, by split <;> decide, fun H1 h1 s1 => ?_⟩
      walk_at "rd"
      refine rd_no (by decide) ?_
      walk_at "rd"
      exact (show Ret C_Machine m H (st.setReg r (Sz15.w16 (st.reg r + 65536 - if byte = true ∧ r < 6 then 1 else 2))) y (.int ((Sz15.w16 (st.reg r + 65536 - if byte = true ∧ r < 6 then 1 else 2) : Nat) : Int)) Q from k) H1 h1 s1
    · refine rd_no (by decide) ?_
      walk_at "rd"
      rw [step_v, step_t _ _ (by decide)]
      refine rd_ixT (hsq _) (v := .ref f2) (by kernel_rfl) ⟨f2, _, rfl, G_step_then_place.gv m2 (by decide), ?_⟩
      walk_at "rd"
      refine ⟨m, st, y, r, _, rfl, hms, hr8, by decide, fun H1 h1 s1 => ?_⟩
      rw [show st.reg r + 65536 - 2 = st.reg r + 65534 by omega] at h1 ⊢
      have hlt : Sz15.w16 (st.reg r + 65534) < 65536 := Nat.mod_lt _ (by decide)
      generalize Sz15.w16 (st.reg r + 65534) = a at *
      obtain ⟨dx1, S1, rs1, ms1, z1, z2, z3, rel1⟩ := h1.ex
      walk_at "rd"
      refine rd_yes (by decide) ?_
      walk_at "rd"
      refine ⟨m, _, y, a, rfl, h1, hlt, ?_⟩
      rw [show (st.setReg r a).word a = st.word a from rfl]
      cases e : st.word a with
      | none => rw [e] at k; exact Fall.at k h1 .setReg s1
      | some x => rw [e] at k; exact (show Ret C_Machine m H (st.setReg r a) y (.int (x : Nat)) Q from k) H1 h1 s1
    · refine rd_no (by decide) ?_
      walk_at "rd"
      refine rd_ixT (hsq _) (v := .ref f3) (by kernel_rfl) ⟨f3, _, rfl, G_place_by_next_word.gv m3 (by decide), ?_⟩
      walk_at "rd"
      refine ⟨m, st, y, r, _, rfl, hms, hr8, ?_⟩
      cases e : st.fetch with
      | none => rw [e] at k; exact Fall.at k hms .refl .refl
      | some f =>
        obtain ⟨st1, x⟩ := f
        rw [e] at k
        intro H1 h1 s1
        walk_at "rd"
        refine rd_no (by decide) ?_
        walk_at "rd"
        exact (show Ret C_Machine m H st1 y (.int ((Sz15.w16 (st1.reg r + x) : Nat) : Int)) Q from k) H1 h1 s1
    · refine rd_no (by decide) ?_
      walk_at "rd"
      refine rd_ixT (hsq _) (v := .ref f3) (by kernel_rfl) ⟨f3, _, rfl, G_place_by_next_word.gv m3 (by decide), ?_⟩
      walk_at "rd"
      refine ⟨m, st, y, r, _, rfl, hms, hr8, ?_⟩
      cases e : st.fetch with
      | none => rw [e] at k; exact Fall.at k hms .refl .refl
      | some f =>
        obtain ⟨st1, x⟩ := f
        rw [e] at k
        have k1 : Out C_Machine m C_OddPlace H st y (((st1.word (Sz15.w16 (st1.reg r + x))).map fun b => (st1, Sz15.Place.mem b)).map fun p => (p.1, .int ((enc p.2 : Nat) : Int))) Q E := k
        intro H1 h1 s1
        dsimp only at h1 ⊢
        have hlt : Sz15.w16 (st1.reg r + x) < 65536 := Nat.mod_lt _ (by decide)
        generalize Sz15.w16 (st1.reg r + x) = a at *
        obtain ⟨dx1, S1, rs1, ms1, z1, z2, z3, rel1⟩ := h1.ex
        walk_at "rd"
        refine rd_yes (by decide) ?_
        walk_at "rd"
        refine ⟨m, st1, y, a, rfl, h1, hlt, ?_⟩
        cases e2 : st1.word a with
        | none => rw [e2] at k1; exact Fall.at k1 h1 (fetch_same e) s1
        | some b => rw [e2] at k1; exact (show Ret C_Machine m H st1 y (.int (b : Nat)) Q from k1) H1 h1 s1
def sp_take (C O : Addr) : Sp := fun vs H Q E => ∃ (m : Addr) (st : Sz15.St) (y : Int) (p : Sz15.Place) (byte : Bool) (t : Int), vs = [.ref m, .int ((enc p : Nat) : Int), .int t] ∧ t = ((topv byte : Nat) : Int) ∧ MSy C H m st y ∧ POk p ∧ (match Sz15.load st p byte with
  | some x => Q (.int (x : Nat)) H
  | none => E (.ref O) none H)
theorem ok_take (T : Tx K mg C_Machine C_CallReader C_NoInstruction C_OddPlace C_UnknownCall) : GFn P w K mg base "take" 2 ["machine", "operand", "top"] (sp_take C_Machine C_OddPlace) := by
  obtain ⟨f, fd, F, hmg, b⟩ := T.d_take
  refine ⟨⟨f, fd, F.okX (k := 1) sc_q47 (fun vs H Q E h => ?_) (fun cdv A outer s H vs Q E hr h => ?_), hmg, F.kp, b⟩⟩
  · obtain ⟨m, st, y, p, byte, t, rfl, ht, hms, hp, k⟩ := h
    rfl
  · obtain ⟨m, st, y, p, byte, t, rfl, ht, hms, hp, k⟩ := h
    have G_Machine_read_word := ok_Machine_read_word (P := P) (w := w) (base := base) T
    refine ⟨_, (pss_cons (ps_if (pt_cmpR op_ge (pe_var (i := 1) rfl (Or.inl v_q47_operand) nd_operand nc_operand) (pe_globI g_q47_REGISTER_PLACES T.c_REGISTER_PLACES nd_REGISTER_PLACES) (nomark _)) (pss_cons (ps_set (i := 3) sc_q47.nd rfl (Or.inl v_q47_word) (pe_ixLK (K := K) rfl (pe_fldK (K := K) rfl (pe_var (i := 0) rfl (Or.inl v_q47_machine) nd_machine nc_machine) rfl) (pe_op op_sub (pe_var (i := 1) rfl (Or.inl v_q47_operand) nd_operand nc_operand) (pe_globI g_q47_REGISTER_PLACES T.c_REGISTER_PLACES nd_REGISTER_PLACES)) (fun _ _ => rfl)))
      (pss_one (ps_ret (pe_ifExp (pt_cmpR op_eq (pe_var (i := 2) rfl (Or.inl v_q47_top) nd_top nc_top) (pe_globI g_q47_BYTE_TOP T.c_BYTE_TOP nd_BYTE_TOP) (nomark _)) (pe_op op_and (pe_var (i := 3) rfl (Or.inl v_q47_word) nd_word nc_word) pe_int) (pe_var (i := 3) rfl (Or.inl v_q47_word) nd_word nc_word))))) pss_nil)
      (pss_cons (ps_if (pt_cmpR op_eq (pe_var (i := 2) rfl (Or.inl v_q47_top) nd_top nc_top) (pe_globI g_q47_BYTE_TOP T.c_BYTE_TOP nd_BYTE_TOP) (nomark _)) (pss_one (ps_ret (pe_ixLK (K := K) rfl (pe_fldK (K := K) rfl (pe_var (i := 0) rfl (Or.inl v_q47_machine) nd_machine nc_machine) rfl) (pe_var (i := 1) rfl (Or.inl v_q47_operand) nd_operand nc_operand) (fun _ _ => rfl)))) pss_nil)
      (pss_one (ps_ret (pe_methE G_Machine_read_word (hr.mono (by decide)) pass_body (pe_var (i := 0) rfl (Or.inl v_q47_machine) nd_machine nc_machine) (pa_cons (pe_var (i := 1) rfl (Or.inl v_q47_operand) nd_operand nc_operand) pa_nil)))))), ?_⟩
    subst ht
    obtain ⟨dx, S, rs, ms, e1, e2, e3, rel⟩ := hms.ex
    walk_at "rd"
    cases p with
    | reg j =>
      have hj : j < 8 := hp
      refine rd_yes (by show (65536 : Int) ≤ ((65536 + j : Nat) : Int); omega) ?_
      walk_at "rd"
      refine rd_ixL (SqL.of e2) (rel.get (k := j) (by show ((65536 + j : Nat) : Int) - 65536 = _; omega) hj) ?_
      walk_at "rd"
      cases byte with
      | true =>
        refine rd_yes (by decide) ?_
        walk_at "rd"
        rw [bA255]
        exact k
      | false =>
        refine rd_no (by decide) ?_
        walk_at "rd"
        exact k
    | mem a =>
      have ha : a < 65536 := hp
      refine rd_no (by show ¬ (65536 : Int) ≤ ((a : Nat) : Int); omega) ?_
      walk_at "rd"
      cases byte with
      | true =>
        refine rd_yes (by decide) ?_
        walk_at "rd"
        exact rd_ixL (SqL.of e3) (rel.at rfl ha) k
      | false =>
        refine rd_no (by decide) ?_
        walk_at "rd"
        exact ⟨m, st, y, a, rfl, hms, ha, k⟩
def sp_put (C O : Addr) : Sp := fun vs H Q E => ∃ (m : Addr) (st : Sz15.St) (y : Int) (p : Sz15.Place) (byte : Bool) (t : Int) (x : Nat) (v : Int), vs = [.ref m, .int ((enc p : Nat) : Int), .int t, .int v] ∧ t = ((topv byte : Nat) : Int) ∧ v = (x : Int) ∧ MSy C H m st y ∧ POk p ∧ x < Sz15.size byte ∧ Out0 C m O H y ((Sz15.store st p byte x).map fun s => (s, .non)) Q E
theorem or_low {a x : Nat} (hx : x < 256) : (a &&& 65280) ||| x = (a % 65536) / 256 * 256 + x := by
  have e1 : a &&& 65280 = (a % 65536) / 256 * 256 := by
    have h1 : a &&& 65280 = (a &&& 65535) - (a &&& 255) := by
      have h := and_comp (n := 16) (d := a % 65536) (s := 255) (Nat.mod_lt _ (by decide)) (by decide)
      have g1 : a % 65536 = a &&& 65535 := (Nat.and_two_pow_sub_one_eq_mod a 16).symm
      rw [g1, show (2 : Nat) ^ 16 - 1 - 255 = 65280 from rfl, Nat.and_assoc, Nat.and_assoc, show (65535 : Nat) &&& 65280 = 65280 from rfl, show (65535 : Nat) &&& 255 = 255 from rfl] at h
      omega
    have g1 : a &&& 65535 = a % 65536 := Nat.and_two_pow_sub_one_eq_mod a 16
    have g2 : a &&& 255 = a % 256 := Nat.and_two_pow_sub_one_eq_mod a 8
    omega
  have h := Nat.two_pow_add_eq_or_of_lt (i := 8) (b := x) hx ((a % 65536) / 256)
  rw [e1, Nat.mul_comm, show (256 : Nat) = 2 ^ 8 from rfl, ← h]
theorem ok_put (T : Tx K mg C_Machine C_CallReader C_NoInstruction C_OddPlace C_UnknownCall) : GFn P w K mg base "put" 2 ["machine", "operand", "top", "value"] (sp_put C_Machine C_OddPlace) := by
  obtain ⟨f, fd, F, hmg, b⟩ := T.d_put
  refine ⟨⟨f, fd, F.okX (k := 1) sc_q48 (fun vs H Q E h => ?_) (fun cdv A outer s H vs Q E hr h => ?_), hmg, F.kp, b⟩⟩
  · obtain ⟨m, st, y, p, byte, t, x, v, rfl, ht, hv, hms, hp, hx, k⟩ := h
    rfl
  · obtain ⟨m, st, y, p, byte, t, x, v, rfl, ht, hv, hms, hp, hx, k⟩ := h
    have G_Machine_write_word := ok_Machine_write_word (P := P) (w := w) (base := base) T
    refine ⟨_, (pss_one (ps_if (pt_cmpR op_ge (pe_var (i := 1) rfl (Or.inl v_q48_operand) nd_operand nc_operand) (pe_globI g_q48_REGISTER_PLACES T.c_REGISTER_PLACES nd_REGISTER_PLACES) (nomark _)) (pss_cons (ps_set (i := 4) sc_q48.nd rfl (Or.inl v_q48_r) (pe_op op_sub (pe_var (i := 1) rfl (Or.inl v_q48_operand) nd_operand nc_operand) (pe_globI g_q48_REGISTER_PLACES T.c_REGISTER_PLACES nd_REGISTER_PLACES)))
      (pss_cons (ps_set (i := 5) sc_q48.nd rfl (Or.inl v_q48_kept) (pe_ifExp (pt_cmpR op_eq (pe_var (i := 2) rfl (Or.inl v_q48_top) nd_top nc_top) (pe_globI g_q48_BYTE_TOP T.c_BYTE_TOP nd_BYTE_TOP) (nomark _)) (pe_op op_and (pe_ixLK (K := K) rfl (pe_fldK (K := K) rfl (pe_var (i := 0) rfl (Or.inl v_q48_machine) nd_machine nc_machine) rfl) (pe_var (i := 4) rfl (Or.inl v_q48_r) nd_r nc_r) (fun _ _ => rfl)) (pe_globI g_q48_UPPER_BYTE T.c_UPPER_BYTE nd_UPPER_BYTE)) pe_int))
      (pss_one (ps_asg (pe_op op_or (pe_var (i := 5) rfl (Or.inl v_q48_kept) nd_kept nc_kept) (pe_var (i := 3) rfl (Or.inl v_q48_value) nd_value nc_value)) (pg_sub (pe_fldK (K := K) rfl (pe_var (i := 0) rfl (Or.inl v_q48_machine) nd_machine nc_machine) rfl) (pe_var (i := 4) rfl (Or.inl v_q48_r) nd_r nc_r) set_list))))) (pss_one (ps_if (pt_cmpR op_eq (pe_var (i := 2) rfl (Or.inl v_q48_top) nd_top nc_top) (pe_globI g_q48_BYTE_TOP T.c_BYTE_TOP nd_BYTE_TOP) (nomark _)) (pss_one (ps_asg (pe_var (i := 3) rfl (Or.inl v_q48_value) nd_value nc_value) (pg_sub (pe_fldK (K := K) rfl (pe_var (i := 0) rfl (Or.inl v_q48_machine) nd_machine nc_machine) rfl) (pe_var (i := 1) rfl (Or.inl v_q48_operand) nd_operand nc_operand) set_list))) (pss_one (ps_expr (pe_methE G_Machine_write_word (hr.mono (by decide)) pass_body (pe_var (i := 0) rfl (Or.inl v_q48_machine) nd_machine nc_machine) (pa_cons (pe_var (i := 1) rfl (Or.inl v_q48_operand) nd_operand nc_operand) (pa_cons (pe_var (i := 3) rfl (Or.inl v_q48_value) nd_value nc_value) pa_nil))))))))), ?_⟩
    subst ht hv
    obtain ⟨dx, S, rs, ms, e1, e2, e3, rel⟩ := hms.ex
    walk_at "rd"
    cases p with
    | reg j =>
      have hj : j < 8 := hp
      have hrj := rel.wf.reg j
      have ej : ((65536 + j : Nat) : Int) - 65536 = (j : Int) := by omega
      refine rd_yes (by show (65536 : Int) ≤ ((65536 + j : Nat) : Int); omega) ?_
      walk_at "rd"
      cases byte with
      | true =>
        have hx' : x < 256 := hx
        refine rd_yes (by decide) ?_
        walk_at "rd"
        refine rd_ixL (SqL.of e2) (rel.get (k := j) ej hj) ?_
        walk_at "rd"
        refine rd_setL e2 (rel.ixR (k := j) ej hj) ?_
        have q := set_reg (C := C_Machine) e1 e2 e3 rel (k := j) (v := Builtin.bitOr (Builtin.bitAnd ((st.reg j : Nat) : Int) 65280) ((x : Nat) : Int)) (st.reg j / 256 * 256 + x % 256) (by
          rw [show (65280 : Int) = ((65280 : Nat) : Int) from rfl, bA, bO, or_low hx']
          omega)
        exact (show Ret C_Machine m H (st.setReg j (st.reg j / 256 * 256 + x % 256)) y .non Q from k) _ q.1 q.2
      | false =>
        have hx' : x < 65536 := hx
        refine rd_no (by decide) ?_
        walk_at "rd"
        refine rd_setL e2 (rel.ixR (k := j) ej hj) ?_
        have q := set_reg (C := C_Machine) e1 e2 e3 rel (k := j) (v := Builtin.bitOr 0 ((x : Nat) : Int)) x (by
          rw [show (0 : Int) = ((0 : Nat) : Int) from rfl, bO, Nat.zero_or]
          omega)
        exact (show Ret C_Machine m H (st.setReg j x) y .non Q from k) _ q.1 q.2
    | mem a =>
      have ha : a < 65536 := hp
      refine rd_no (by show ¬ (65536 : Int) ≤ ((a : Nat) : Int); omega) ?_
      walk_at "rd"
      cases byte with
      | true =>
        have hx' : x < 256 := hx
        refine rd_yes (by decide) ?_
        walk_at "rd"
        refine rd_setL e3 (rel.ixM (a := a) rfl ha) ?_
        have q := set_mem (C := C_Machine) e1 e2 e3 rel (a := a) (v := ((x : Nat) : Int)) x ha (by omega)
        exact (show Ret C_Machine m H (st.putByte a x) y .non Q from k) _ q.1 q.2
      | false =>
        refine rd_no (by decide) ?_
        walk_at "rd"
        refine ⟨m, st, y, a, x, rfl, hms, ha, hx, ?_⟩
        have k1 : Out0 C_Machine m C_OddPlace H y ((st.putWord a x).map fun s => (s, .non)) Q E := k
        cases e : st.putWord a x with
        | none => rw [e] at k1; exact k1
        | some st' => rw [e] at k1; exact fun H1 h1 s1 => k1 H1 h1 s1
end
section
variable {P : Program} {w : World} {K : PySem.W.Frag} {mg : Str → Option Value} {base : Heap} {C_Machine C_CallReader C_NoInstruction C_OddPlace C_UnknownCall : Addr}
theorem place_same {m m' : Sz15.St} {bits : Nat} {byte : Bool} {p : Sz15.Place} (e : Sz15.place m bits byte = some (m', p)) : Same m m' := by
  unfold Sz15.place at e
  dsimp only at e
  split at e
  · have := Option.some.inj e; injection this with e1 _; subst e1; exact .refl
  · have := Option.some.inj e; injection this with e1 _; subst e1; exact .refl
  · have := Option.some.inj e; injection this with e1 _; subst e1; exact .setReg
  · obtain ⟨x, e1, e2⟩ := Option.map_eq_some_iff.mp e
    injection e2 with e2 _; subst e2; exact .setReg
  · have := Option.some.inj e; injection this with e1 _; subst e1; exact .setReg
  · obtain ⟨x, e1, e2⟩ := Option.map_eq_some_iff.mp e
    injection e2 with e2 _; subst e2; exact .setReg
  · obtain ⟨f, e1, e2⟩ := Option.map_eq_some_iff.mp e
    injection e2 with e2 _; subst e2; exact fetch_same (x := f.2) e1
  · obtain ⟨f, e0, e1⟩ := Option.bind_eq_some_iff.mp e
    obtain ⟨x, e3, e2⟩ := Option.map_eq_some_iff.mp e1
    injection e2 with e2 _; subst e2; exact fetch_same (x := f.2) e0
theorem store_c {m m' : Sz15.St} {p : Sz15.Place} {byte : Bool} {x : Nat} (e : Sz15.store m p byte x = some m') : m'.c = m.c := by
  cases p with
  | reg k => cases byte <;> (have e' := Option.some.inj e; subst e'; rfl)
  | mem a =>
    cases byte with
    | true => have e' := Option.some.inj e; subst e'; rfl
    | false =>
      have e1 : m.putWord a x = some m' := e
      unfold Sz15.St.putWord at e1
      split at e1
      · cases e1
      · have e' := Option.some.inj e1; subst e'; rfl
theorem nfp_new2 {C m p : Addr} {H : Hp} {o : HO} {st : Sz15.St} {y : Int} (h : MSy C H m st y) (hp : H p = none) : ¬ fpM C (upd H p o) m p := by
  obtain ⟨dx, S, rs, ms, e1, e2, e3, _⟩ := h.ex
  rw [fp_of (show upd H p o m = some (.ins C dx (mf_Machine S)) by rw [upd_ne (ne_of_none e1 hp)]; exact e1)]
  rintro (rfl | rfl | rfl)
  · rw [e1] at hp; cases hp
  · rw [e2] at hp; cases hp
  · rw [e3] at hp; cases hp
def valS (ps : List (Int × Str)) (k : Int) : Option Str := (ps.find? fun p => decide (p.1 = k)).map (·.2)
theorem ktab_val {mg : Str → Option Value} {k : Int} {n : Str} : ∀ {ps : List (Int × Str)} {kvs : List (Int × Addr)}, Paired (fun (p : Int × Str) (q : Int × Addr) => p.1 = q.1 ∧ mg p.2 = some (.ref q.2)) ps kvs → valS ps k = some n → ∃ f, valI kvs k = some f ∧ mg n = some (.ref f)
  | _, _, .nil, e => by cases e
  | _, _, .cons (a := p) (b := q) (l₁ := ps) (l₂ := kvs) h t, e => by
    unfold valS at e
    unfold valI
    rw [List.find?_cons] at e ⊢
    by_cases z : q.1 = k
    · rw [decide_eq_true (h.1.trans z)] at e
      rw [decide_eq_true z]
      have e' : p.2 = n := Option.some.inj e
      subst e'
      exact ⟨q.2, rfl, h.2⟩
    · rw [decide_eq_false (fun y => z (h.1.symm.trans y))] at e
      rw [decide_eq_false z]
      exact ktab_val t e
def OutI (C O N m : Addr) (H : Hp) (st : Sz15.St) (c : Sz15.Came) (Q : VK) (E : XK) : Prop := match c with
  | .on n => Ret C m H n 0 .non Q
  | .halt_ n y => Ret C m H n (y : Nat) .non Q
  | .none_ => Fall C m N H st 0 E
  | .odd => Fall C m O H st 0 E
def sp_ins (C O N : Addr) (cond : Nat → Prop) : Sp := fun vs H Q E => ∃ (m : Addr) (st : Sz15.St) (u : Nat), vs = [.ref m, .int (u : Nat)] ∧ MSy C H m st 0 ∧ u < 65536 ∧ cond u ∧ OutI C O N m H st (exec st u) Q E
theorem flr_eq {st : Sz15.St} {byte : Bool} {r : Nat × Bool × Bool} (h : r.1 < Sz15.size byte) : fl st (((r.1 &&& topv byte : Nat) : Int) != 0) (decide (r.1 = 0)) r.2.1 r.2.2 = flr st byte r := by
  unfold flr
  rw [nz_top, Nat.mod_eq_of_lt h]
end
section
variable {P : Program} {w : World} {K : PySem.W.Frag} {mg : Str → Option Value} {base : Heap} {C_Machine C_CallReader C_NoInstruction C_OddPlace C_UnknownCall : Addr}
def op2 (u : Nat) : Nat := if u / 4096 = 14 then 7 else u / 4096 % 8
def by2 (u : Nat) : Bool := decide (8 ≤ u / 4096 ∧ u / 4096 ≠ 14)
def c_two (u : Nat) : Prop := (1 ≤ u / 4096 ∧ u / 4096 ≤ 6) ∨ (9 ≤ u / 4096 ∧ u / 4096 ≤ 14)
theorem ex2 {st : Sz15.St} {u : Nat} (hu : u < 65536) (h : c_two u) : exec st u = Sz15.came (Sz15.doTwo st (op2 u) (by2 u) u) := by
  unfold op2 by2
  by_cases h14 : u / 4096 = 14
  · rw [if_pos h14, decide_eq_false (fun z => z.2 h14), ex_sub h14]
  · rw [if_neg h14]
    by_cases h6 : u / 4096 = 6
    · rw [h6, ex_add h6]; rfl
    · unfold c_two at h
      rw [ex_two hu (by omega), show decide (8 ≤ u / 4096) = decide (8 ≤ u / 4096 ∧ u / 4096 ≠ 14) from decide_eq_decide.mpr (by omega)]
theorem rd_top2 {σ : St} {H : Hp} {Q : VK} {x : Nat} (e : σ[2]? = some (some (.int (x : Nat)))) (h : Q (.int ((topv (decide (8 ≤ x ∧ x ≠ 14)) : Nat) : Int)) H) :
    tIf (tAnd (tTest (tOp (rI0 fun i j => .bl (decide (j < i))) (tVar 2) (tC (.int 7)))) (tTest (tOp rNe (tVar 2) (tC (.int 14))))) (tC (.int 128)) (tC (.int 32768)) σ H Q := by
  refine rd_ifE (rd_and (rd_test (rd_op (rd_var e (rd_c (rd_I0 (rd_bl ?_)))))))
  refine rd_ite (fun h1 => ?_) (fun h1 => ?_)
  · refine rd_test (rd_op (rd_var e (rd_c (rd_neI (rd_bl ?_)))))
    refine rd_iten (fun h2 => ?_) (fun h2 => ?_)
    · rw [decide_eq_true ⟨by omega, by omega⟩] at h; exact h
    · rw [decide_eq_false (by omega)] at h; exact h
  · refine rd_F ?_
    rw [decide_eq_false (by omega)] at h; exact h
local macro_rules | `(tactic| walk_at "rd2") => `(tactic| ((with_reducible refine' rd_top2 ?e1 ?_); (case e1 => rfl)))
theorem sg_byte {x : Nat} (h : x < 256) : Sz15.signed (2 ^ 7 * 2) x % 65536 = ((if 128 ≤ x then x + 65280 else x : Nat) : Int) := by
  unfold Sz15.signed
  rw [show 2 ^ 7 * 2 = 256 from rfl, Nat.mod_eq_of_lt h]
  split <;> split <;> omega
theorem ok_two_operands (T : Tx K mg C_Machine C_CallReader C_NoInstruction C_OddPlace C_UnknownCall) : GFn P w K mg base "two_operands" 5 ["machine", "w"] (sp_ins C_Machine C_OddPlace C_NoInstruction c_two) := by
  obtain ⟨f, fd, F, hmg, b⟩ := T.d_two_operands
  refine ⟨⟨f, fd, F.okX (k := 4) sc_q49 (fun vs H Q E h => ?_) (fun cdv A outer s H vs Q E hr h => ?_), hmg, F.kp, b⟩⟩
  · obtain ⟨m, st, u, rfl, hms, hu, hc, k⟩ := h
    rfl
  · obtain ⟨m, st, u, rfl, hms, hu, hc, k⟩ := h
    have G_take := ok_take (P := P) (w := w) (base := base) T
    have G_tell := ok_tell (P := P) (w := w) (base := base) T
    have G_mov := ok_mov (P := P) (w := w) (base := base) T
    have G_cmp := ok_cmp (P := P) (w := w) (base := base) T
    have G_bit := ok_bit (P := P) (w := w) (base := base) T
    have G_bic := ok_bic (P := P) (w := w) (base := base) T
    have G_bis := ok_bis (P := P) (w := w) (base := base) T
    have G_add := ok_add (P := P) (w := w) (base := base) T
    have G_sub := ok_sub (P := P) (w := w) (base := base) T
    have G_Machine_set_flags := ok_Machine_set_flags (P := P) (w := w) (base := base) T
    have G_put := ok_put (P := P) (w := w) (base := base) T
    have G_signed := ok_signed (P := P) (w := w) (base := base) T
    obtain ⟨a_TWO_OPERANDS, ha_TWO_OPERANDS, hd_TWO_OPERANDS⟩ := T.t_TWO_OPERANDS
    refine ⟨_, (pss_cons (ps_set (i := 2) sc_q49.nd rfl (Or.inl v_q49_code) (pe_op op_shr (pe_var (i := 1) rfl (Or.inl v_q49_w) nd_w nc_w) pe_int))
      (pss_cons (ps_set (i := 3) sc_q49.nd rfl (Or.inl v_q49_top) (pe_ifExp (PW.pt (pw_and (pt_cmpR op_gt (pe_var (i := 2) rfl (Or.inl v_q49_code) nd_code nc_code) pe_int (nomark _)) (pw_and1 (pt_cmpR op_ne (pe_var (i := 2) rfl (Or.inl v_q49_code) nd_code nc_code) (pe_globI g_q49_SUB T.c_SUB nd_SUB) (nomark _))))) (pe_globI g_q49_BYTE_TOP T.c_BYTE_TOP nd_BYTE_TOP) (pe_globI g_q49_WORD_TOP T.c_WORD_TOP nd_WORD_TOP)))
      (pss_cons (ps_set (i := 4) sc_q49.nd rfl (Or.inl v_q49_s) (pe_callE G_take (hr.mono (by decide)) g_q49_take pass_body (pa_cons (pe_var (i := 0) rfl (Or.inl v_q49_machine) nd_machine nc_machine) (pa_cons (pe_callE G_tell (hr.mono (by decide)) g_q49_tell pass_body (pa_cons (pe_var (i := 0) rfl (Or.inl v_q49_machine) nd_machine nc_machine) (pa_cons (pe_op op_and (pe_op op_shr (pe_var (i := 1) rfl (Or.inl v_q49_w) nd_w nc_w) pe_int) pe_int) (pa_cons (pe_var (i := 3) rfl (Or.inl v_q49_top) nd_top nc_top) pa_nil))) nd_tell) (pa_cons (pe_var (i := 3) rfl (Or.inl v_q49_top) nd_top nc_top) pa_nil))) nd_take))
      (pss_cons (ps_set (i := 5) sc_q49.nd rfl (Or.inl v_q49_operand) (pe_callE G_tell (hr.mono (by decide)) g_q49_tell pass_body (pa_cons (pe_var (i := 0) rfl (Or.inl v_q49_machine) nd_machine nc_machine) (pa_cons (pe_op op_and (pe_var (i := 1) rfl (Or.inl v_q49_w) nd_w nc_w) pe_int) (pa_cons (pe_var (i := 3) rfl (Or.inl v_q49_top) nd_top nc_top) pa_nil))) nd_tell))
      (pss_cons (ps_set (i := 6) sc_q49.nd rfl (Or.inl v_q49_d) (pe_callE G_take (hr.mono (by decide)) g_q49_take pass_body (pa_cons (pe_var (i := 0) rfl (Or.inl v_q49_machine) nd_machine nc_machine) (pa_cons (pe_var (i := 5) rfl (Or.inl v_q49_operand) nd_operand nc_operand) (pa_cons (pe_var (i := 3) rfl (Or.inl v_q49_top) nd_top nc_top) pa_nil))) nd_take))
      (pss_cons (ps_set (i := 7) sc_q49.nd rfl (Or.inl v_q49_outcome) (pe_callV (P := P) (w := w) (K := K) (mg := mg) (base := base) (k := 4) rfl rfl rfl rfl rfl hr pass_body (pe_kget (K := K) rfl (pe_glob (v := .ref a_TWO_OPERANDS) g_q49_TWO_OPERANDS ha_TWO_OPERANDS rfl nd_TWO_OPERANDS) (pe_var (i := 2) rfl (Or.inl v_q49_code) nd_code nc_code) (fun _ _ => rfl)) (pa_cons (pe_var (i := 4) rfl (Or.inl v_q49_s) nd_s nc_s) (pa_cons (pe_var (i := 6) rfl (Or.inl v_q49_d) nd_d nc_d) (pa_cons (pe_fldK (K := K) rfl (pe_var (i := 0) rfl (Or.inl v_q49_machine) nd_machine nc_machine) rfl) (pa_cons (pe_var (i := 3) rfl (Or.inl v_q49_top) nd_top nc_top) pa_nil))))))
      (pss_cons (ps_set (i := 8) sc_q49.nd rfl (Or.inl v_q49_result) (pe_ixTK (K := K) rfl (pe_var (i := 7) rfl (Or.inl v_q49_outcome) nd_outcome nc_outcome) pe_int (fun _ _ => rfl)))
      (pss_cons (ps_if (PW.pt (pw_and (pt_cmpR op_eq (pe_var (i := 2) rfl (Or.inl v_q49_code) nd_code nc_code) (pe_globI g_q49_MOVB T.c_MOVB nd_MOVB) (nomark _)) (pw_and1 (pt_cmpR op_ge (pe_var (i := 5) rfl (Or.inl v_q49_operand) nd_operand nc_operand) (pe_globI g_q49_REGISTER_PLACES T.c_REGISTER_PLACES nd_REGISTER_PLACES) (nomark _))))) (pss_one (ps_expr (pe_callE G_put (hr.mono (by decide)) g_q49_put pass_body (pa_cons (pe_var (i := 0) rfl (Or.inl v_q49_machine) nd_machine nc_machine) (pa_cons (pe_var (i := 5) rfl (Or.inl v_q49_operand) nd_operand nc_operand) (pa_cons (pe_globI g_q49_WORD_TOP T.c_WORD_TOP nd_WORD_TOP) (pa_cons (pe_op op_mod (pe_callE G_signed (hr.mono (by decide)) g_q49_signed pass_body (pa_cons (pe_var (i := 8) rfl (Or.inl v_q49_result) nd_result nc_result) (pa_cons (pe_globI g_q49_BYTE_TOP T.c_BYTE_TOP nd_BYTE_TOP) pa_nil)) nd_signed) (pe_globI g_q49_WORD_RANGE T.c_WORD_RANGE nd_WORD_RANGE)) pa_nil)))) nd_put))) (pss_one (ps_if (PW.pt (pw_and (pt_cmpR op_ne (pe_op op_and (pe_var (i := 2) rfl (Or.inl v_q49_code) nd_code nc_code) pe_int) (pe_globI g_q49_CMP T.c_CMP nd_CMP) (nomark _)) (pw_and1 (pt_cmpR op_ne (pe_op op_and (pe_var (i := 2) rfl (Or.inl v_q49_code) nd_code nc_code) pe_int) (pe_globI g_q49_BIT T.c_BIT nd_BIT) (nomark _))))) (pss_one (ps_expr (pe_callE G_put (hr.mono (by decide)) g_q49_put pass_body (pa_cons (pe_var (i := 0) rfl (Or.inl v_q49_machine) nd_machine nc_machine) (pa_cons (pe_var (i := 5) rfl (Or.inl v_q49_operand) nd_operand nc_operand) (pa_cons (pe_var (i := 3) rfl (Or.inl v_q49_top) nd_top nc_top) (pa_cons (pe_var (i := 8) rfl (Or.inl v_q49_result) nd_result nc_result) pa_nil)))) nd_put))) pss_nil)))
      (pss_one (ps_expr (pe_methE G_Machine_set_flags (hr.mono (by decide)) pass_body (pe_var (i := 0) rfl (Or.inl v_q49_machine) nd_machine nc_machine) (pa_cons (pe_var (i := 8) rfl (Or.inl v_q49_result) nd_result nc_result) (pa_cons (pe_var (i := 3) rfl (Or.inl v_q49_top) nd_top nc_top) (pa_cons (pe_ixTK (K := K) rfl (pe_var (i := 7) rfl (Or.inl v_q49_outcome) nd_outcome nc_outcome) pe_int (fun _ _ => rfl)) (pa_cons (pe_ixTK (K := K) rfl (pe_var (i := 7) rfl (Or.inl v_q49_outcome) nd_outcome nc_outcome) pe_int (fun _ _ => rfl)) pa_nil))))))))))))))), ?_⟩
    obtain ⟨dx, S, rs, ms, e1, e2, e3, rel⟩ := hms.ex
    obtain ⟨kvs, hkd, hpr⟩ := hd_TWO_OPERANDS
    rw [ex2 hu hc] at k
    have hop : 1 ≤ op2 u ∧ op2 u ≤ 7 := by unfold op2 c_two at *; split <;> omega
    have hb2 : by2 u = decide (8 ≤ u / 4096 ∧ u / 4096 ≠ 14) := rfl
    have htab : ∃ f, valI kvs ((u / 4096 : Nat) : Int) = some f ∧ GV P w K mg base f 4 (sp_two (op2 u)) := by
      unfold c_two at hc
      unfold op2
      have hcase : u / 4096 = 1 ∨ u / 4096 = 2 ∨ u / 4096 = 3 ∨ u / 4096 = 4 ∨ u / 4096 = 5 ∨ u / 4096 = 6 ∨ u / 4096 = 9 ∨ u / 4096 = 10 ∨ u / 4096 = 11 ∨ u / 4096 = 12 ∨ u / 4096 = 13 ∨ u / 4096 = 14 := by omega
      rcases hcase with h | h | h | h | h | h | h | h | h | h | h | h <;> rw [h]
      · obtain ⟨f, a, b_⟩ := ktab_val hpr (show valS tab_TWO_OPERANDS ((1 : Nat) : Int) = some "mov" by kernel_rfl); exact ⟨f, a, G_mov.gv b_ (by decide)⟩
      · obtain ⟨f, a, b_⟩ := ktab_val hpr (show valS tab_TWO_OPERANDS ((2 : Nat) : Int) = some "cmp" by kernel_rfl); exact ⟨f, a, G_cmp.gv b_ (by decide)⟩
      · obtain ⟨f, a, b_⟩ := ktab_val hpr (show valS tab_TWO_OPERANDS ((3 : Nat) : Int) = some "bit" by kernel_rfl); exact ⟨f, a, G_bit.gv b_ (by decide)⟩
      · obtain ⟨f, a, b_⟩ := ktab_val hpr (show valS tab_TWO_OPERANDS ((4 : Nat) : Int) = some "bic" by kernel_rfl); exact ⟨f, a, G_bic.gv b_ (by decide)⟩
      · obtain ⟨f, a, b_⟩ := ktab_val hpr (show valS tab_TWO_OPERANDS ((5 : Nat) : Int) = some "bis" by kernel_rfl); exact ⟨f, a, G_bis.gv b_ (by decide)⟩
      · obtain ⟨f, a, b_⟩ := ktab_val hpr (show valS tab_TWO_OPERANDS ((6 : Nat) : Int) = some "add" by kernel_rfl); exact ⟨f, a, G_add.gv b_ (by decide)⟩
      · obtain ⟨f, a, b_⟩ := ktab_val hpr (show valS tab_TWO_OPERANDS ((9 : Nat) : Int) = some "mov" by kernel_rfl); exact ⟨f, a, G_mov.gv b_ (by decide)⟩
      · obtain ⟨f, a, b_⟩ := ktab_val hpr (show valS tab_TWO_OPERANDS ((10 : Nat) : Int) = some "cmp" by kernel_rfl); exact ⟨f, a, G_cmp.gv b_ (by decide)⟩
      · obtain ⟨f, a, b_⟩ := ktab_val hpr (show valS tab_TWO_OPERANDS ((11 : Nat) : Int) = some "bit" by kernel_rfl); exact ⟨f, a, G_bit.gv b_ (by decide)⟩
      · obtain ⟨f, a, b_⟩ := ktab_val hpr (show valS tab_TWO_OPERANDS ((12 : Nat) : Int) = some "bic" by kernel_rfl); exact ⟨f, a, G_bic.gv b_ (by decide)⟩
      · obtain ⟨f, a, b_⟩ := ktab_val hpr (show valS tab_TWO_OPERANDS ((13 : Nat) : Int) = some "bis" by kernel_rfl); exact ⟨f, a, G_bis.gv b_ (by decide)⟩
      · obtain ⟨f, a, b_⟩ := ktab_val hpr (show valS tab_TWO_OPERANDS ((14 : Nat) : Int) = some "sub" by kernel_rfl); exact ⟨f, a, G_sub.gv b_ (by decide)⟩
    walk_at "rd"
    rw [show (12 : Int).toNat = 12 from rfl, sR, show (2 : Nat) ^ 12 = 4096 from rfl]
    walk_at "rd"
    rw [← hb2, show (6 : Int).toNat = 6 from rfl, sR, show (2 : Nat) ^ 6 = 64 from rfl, bA63]
    refine ⟨m, st, 0, u / 64 % 64, by2 u, _, rfl, rfl, hms, by omega, ?_⟩
    rw [place_mod]
    have h9 : u / 4096 = 9 ↔ (op2 u = 1 ∧ by2 u = true) := by
      unfold op2 by2 c_two at *
      simp only [decide_eq_true_eq]
      split <;> omega
    have h23 : (u / 4096 % 8 = 2 ∨ u / 4096 % 8 = 3) ↔ (op2 u = 2 ∨ op2 u = 3) := by
      unfold op2
      split <;> omega
    generalize op2 u = op at *
    generalize by2 u = byte at *
    cases p1 : Sz15.place st (u / 64) byte with
    | none => rw [doTwo_none1 p1] at k; exact k
    | some r1 =>
      obtain ⟨st1, p⟩ := r1
      have hp := place_ok rel.wf p1
      have sm1 := place_same p1
      intro H1 h1 s1
      walk_at "rd"
      refine ⟨m, st1, 0, p, byte, _, rfl, rfl, h1, hp, ?_⟩
      cases l1 : Sz15.load st1 p byte with
      | none => rw [doTwo_none2 p1 l1] at k; exact Fall.at k h1 sm1 s1
      | some x =>
        have hx := load_lt h1.wf l1
        walk_at "rd"
        rw [bA63]
        refine ⟨m, st1, 0, u % 64, byte, _, rfl, rfl, h1, by omega, ?_⟩
        rw [place_mod]
        cases p2 : Sz15.place st1 u byte with
        | none => rw [doTwo_none3 p1 l1 p2] at k; exact Fall.go k s1 sm1
        | some r2' =>
          obtain ⟨st2, q⟩ := r2'
          have hq := place_ok h1.wf p2
          have sm2 := sm1.trans (place_same p2)
          intro H2 h2 s2
          have s12 := s1.trans s2
          walk_at "rd"
          refine ⟨m, st2, 0, q, byte, _, rfl, rfl, h2, hq, ?_⟩
          cases l2 : Sz15.load st2 q byte with
          | none => rw [doTwo_none4 p1 l1 p2 l2] at k; exact Fall.at k h2 sm2 s12
          | some y =>
            have hy := load_lt h2.wf l2
            rw [doTwo_fin hop.1 hop.2 p1 l1 p2 l2] at k
            obtain ⟨dx2, S2, rs2, ms2, z1, z2, z3, rel2⟩ := h2.ex
            obtain ⟨f_, hvf, gv⟩ := htab
            walk_at "rd"
            refine ⟨_, kvs, _, f_, rfl, rfl, hkd, hvf, f_, _, rfl, gv, ?_⟩
            walk_at "rd"
            rw [rel2.c]
            refine ⟨x, y, st2.c, byte, rfl, hx, hy, fun t0 ht0 => ?_⟩
            have hrl := r2_lt hop.1 hop.2 st2.c hx hy
            have hr1 : op = 1 → (r2 op byte x y st2.c).1 = x := by rintro rfl; rfl
            unfold fin2 at k
            dsimp only at k
            generalize r2 op byte x y st2.c = r at *
            have h3 := h2.new (o := .tup [.int (r.1 : Nat), .int ((r.2.1.toNat : Nat) : Int), .int ((r.2.2.toNat : Nat) : Int)]) ht0
            have s3 := s12.trans (.new (o := .tup [.int (r.1 : Nat), .int ((r.2.1.toNat : Nat) : Int), .int ((r.2.2.toNat : Nat) : Int)]) ht0 h2.there)
            generalize hH3 : upd H2 t0 (.tup [.int (r.1 : Nat), .int ((r.2.1.toNat : Nat) : Int), .int ((r.2.2.toNat : Nat) : Int)]) = H3 at *
            have t3 : H3 t0 = some (.tup [.int (r.1 : Nat), .int ((r.2.1.toNat : Nat) : Int), .int ((r.2.2.toNat : Nat) : Int)]) := by rw [← hH3]; exact upd_same
            have nt : ¬ fpM C_Machine H3 m t0 := by
              rw [← hH3]
              exact nfp_new2 h2 ht0
            walk_at "rd"
            refine rd_ixT (SqT.of t3) (v := .int (r.1 : Nat)) (by kernel_rfl) ?_
            walk_at "rd"
            refine rd_ite (fun c9 => ?_) (fun c9 => ?_)
            · walk_at "rd"
              obtain ⟨ho1, hby⟩ := h9.mp (by omega)
              refine rd_ite (fun creg => ?_) (fun creg => ?_)
              · have hreg : isReg q = true := by
                  cases q with
                  | reg _ => rfl
                  | mem a => exact absurd creg (by have : a < 65536 := hq; show ¬ (65536 : Int) ≤ ((a : Nat) : Int); omega)
                have hxr := hr1 ho1
                rw [hby] at hx
                have hx' : x < 256 := hx
                walk_at "rd"
                refine ⟨r.1, 7, _, _, rfl, rfl, rfl, by rw [hxr]; exact hx', ?_⟩
                walk_at "rd"
                rw [hxr, sg_byte hx']
                obtain ⟨st3, e5⟩ : ∃ st3, Sz15.store st2 q false (if 128 ≤ x then x + 65280 else x) = some st3 := by
                  cases q with
                  | reg _ => exact ⟨_, rfl⟩
                  | mem a => cases hreg
                rw [if_pos ⟨ho1, hby, hreg⟩, e5] at k
                refine ⟨m, st2, 0, q, false, _, _, _, rfl, rfl, rfl, h3, hq, by show _ < 65536; split <;> omega, ?_⟩
                rw [e5]
                intro H4 h4 s4
                have t4 := s4.keep t0 _ t3 nt
                obtain ⟨dx4, S4, rs4, ms4, y1, y2, y3, rel4⟩ := h4.ex
                walk_at "rd"
                refine rd_ixT (SqT.of t4) (v := .int ((r.2.1.toNat : Nat) : Int)) (by kernel_rfl) ?_
                walk_at "rd"
                refine rd_ixT (SqT.of t4) (v := .int ((r.2.2.toNat : Nat) : Int)) (by kernel_rfl) ?_
                walk_at "rd"
                refine ⟨m, st3, 0, r.1, topv byte, r.2.1, r.2.2, by rw [hxr], h4, ?_⟩
                rw [flr_eq hrl]
                intro H5 h5 s5
                walk_at "rd"
                exact k H5 h5 (s3.trans (s4.trans s5))
              · have hreg : ¬ isReg q = true := by
                  cases q with
                  | reg j => exact fun _ => creg (by show (65536 : Int) ≤ ((65536 + j : Nat) : Int); omega)
                  | mem a => exact fun z => by cases z
                walk_at "rd"
                rw [bA7]
                obtain ⟨st3, e5⟩ := store_some (x := r.1) l2
                rw [if_neg (show ¬ (op = 1 ∧ byte = true ∧ isReg q = true) from fun z => hreg z.2.2), if_neg (show ¬ (op = 2 ∨ op = 3) by omega), e5] at k
                have h82 : ¬ (u / 4096 % 8 = 2 ∨ u / 4096 % 8 = 3) := by rw [h23]; omega
                refine rd_iten (fun c2 => ?_) (fun c2 => absurd c2 (by omega))
                walk_at "rd"
                rw [bA7]
                refine rd_iten (fun c3 => ?_) (fun c3 => absurd c3 (by omega))
                walk_at "rd"
                refine ⟨m, st2, 0, q, byte, _, r.1, _, rfl, rfl, rfl, h3, hq, hrl, ?_⟩
                rw [e5]
                intro H4 h4 s4
                have t4 := s4.keep t0 _ t3 nt
                obtain ⟨dx4, S4, rs4, ms4, y1, y2, y3, rel4⟩ := h4.ex
                walk_at "rd"
                refine rd_ixT (SqT.of t4) (v := .int ((r.2.1.toNat : Nat) : Int)) (by kernel_rfl) ?_
                walk_at "rd"
                refine rd_ixT (SqT.of t4) (v := .int ((r.2.2.toNat : Nat) : Int)) (by kernel_rfl) ?_
                walk_at "rd"
                refine ⟨m, st3, 0, r.1, topv byte, r.2.1, r.2.2, rfl, h4, ?_⟩
                rw [flr_eq hrl]
                intro H5 h5 s5
                walk_at "rd"
                exact k H5 h5 (s3.trans (s4.trans s5))
            · have hn9 : ¬ (op = 1 ∧ byte = true) := fun z => c9 (by have := h9.mpr z; omega)
              walk_at "rd"
              rw [bA7]
              rw [if_neg (show ¬ (op = 1 ∧ byte = true ∧ isReg q = true) from fun z => hn9 ⟨z.1, z.2.1⟩)] at k
              by_cases hcb : op = 2 ∨ op = 3
              · rw [if_pos hcb] at k
                have tail : ∀ σ1 : St, True := fun _ => trivial
                obtain ⟨dx4, S4, rs4, ms4, y1, y2, y3, rel4⟩ := h3.ex
                refine rd_iten (fun c2 => ?_) (fun c2 => ?_)
                · walk_at "rd"
                  rw [bA7]
                  refine rd_iten (fun c3 => absurd (h23.mpr hcb) (by omega)) (fun c3 => ?_)
                  walk_at "rd"
                  refine rd_ixT (SqT.of t3) (v := .int ((r.2.1.toNat : Nat) : Int)) (by kernel_rfl) ?_
                  walk_at "rd"
                  refine rd_ixT (SqT.of t3) (v := .int ((r.2.2.toNat : Nat) : Int)) (by kernel_rfl) ?_
                  walk_at "rd"
                  refine ⟨m, st2, 0, r.1, topv byte, r.2.1, r.2.2, rfl, h3, ?_⟩
                  rw [flr_eq hrl]
                  intro H5 h5 s5
                  walk_at "rd"
                  exact k H5 h5 (s3.trans s5)
                · walk_at "rd"
                  refine rd_ixT (SqT.of t3) (v := .int ((r.2.1.toNat : Nat) : Int)) (by kernel_rfl) ?_
                  walk_at "rd"
                  refine rd_ixT (SqT.of t3) (v := .int ((r.2.2.toNat : Nat) : Int)) (by kernel_rfl) ?_
                  walk_at "rd"
                  refine ⟨m, st2, 0, r.1, topv byte, r.2.1, r.2.2, rfl, h3, ?_⟩
                  rw [flr_eq hrl]
                  intro H5 h5 s5
                  walk_at "rd"
                  exact k H5 h5 (s3.trans s5)
              · obtain ⟨st3, e5⟩ := store_some (x := r.1) l2
                rw [if_neg hcb, e5] at k
                have h82 : ¬ (u / 4096 % 8 = 2 ∨ u / 4096 % 8 = 3) := by rw [h23]; exact hcb
                refine rd_iten (fun c2 => ?_) (fun c2 => absurd c2 (by omega))
                walk_at "rd"
                rw [bA7]
                refine rd_iten (fun c3 => ?_) (fun c3 => absurd c3 (by omega))
                walk_at "rd"
                refine ⟨m, st2, 0, q, byte, _, r.1, _, rfl, rfl, rfl, h3, hq, hrl, ?_⟩
                rw [e5]
                intro H4 h4 s4
                have t4 := s4.keep t0 _ t3 nt
                obtain ⟨dx4, S4, rs4, ms4, y1, y2, y3, rel4⟩ := h4.ex
                walk_at "rd"
                refine rd_ixT (SqT.of t4) (v := .int ((r.2.1.toNat : Nat) : Int)) (by kernel_rfl) ?_
                walk_at "rd"
                refine rd_ixT (SqT.of t4) (v := .int ((r.2.2.toNat : Nat) : Int)) (by kernel_rfl) ?_
                walk_at "rd"
                refine ⟨m, st3, 0, r.1, topv byte, r.2.1, r.2.2, rfl, h4, ?_⟩
                rw [flr_eq hrl]
                intro H5 h5 s5
                walk_at "rd"
                exact k H5 h5 (s3.trans (s4.trans s5))
end
section
variable {P : Program} {w : World} {K : PySem.W.Frag} {mg : Str → Option Value} {base : Heap} {C_Machine C_CallReader C_NoInstruction C_OddPlace C_UnknownCall : Addr}
theorem rd_topb {σ : St} {H : Hp} {Q : VK} {b : Bool} (h : Q (.int ((topv b : Nat) : Int)) H) : if b = true then tC (.int 128) σ H Q else tC (.int 32768) σ H Q := by
  cases b with
  | true => rw [if_pos rfl]; exact h
  | false => rw [if_neg (by simp)]; exact h
local macro_rules | `(tactic| walk_at "rd2") => `(tactic| with_reducible apply rd_topb)
def c_one (u : Nat) : Prop := (40 ≤ u / 64 ∧ u / 64 ≤ 51) ∨ (552 ≤ u / 64 ∧ u / 64 ≤ 563)
theorem ok_one_operand (T : Tx K mg C_Machine C_CallReader C_NoInstruction C_OddPlace C_UnknownCall) : GFn P w K mg base "one_operand" 5 ["machine", "w"] (sp_ins C_Machine C_OddPlace C_NoInstruction c_one) := by
  obtain ⟨f, fd, F, hmg, b⟩ := T.d_one_operand
  refine ⟨⟨f, fd, F.okX (k := 4) sc_q50 (fun vs H Q E h => ?_) (fun cdv A outer s H vs Q E hr h => ?_), hmg, F.kp, b⟩⟩
  · obtain ⟨m, st, u, rfl, hms, hu, hc, k⟩ := h
    rfl
  · obtain ⟨m, st, u, rfl, hms, hu, hc, k⟩ := h
    have G_tell := ok_tell (P := P) (w := w) (base := base) T
    have G_take := ok_take (P := P) (w := w) (base := base) T
    have G_clr := ok_clr (P := P) (w := w) (base := base) T
    have G_com := ok_com (P := P) (w := w) (base := base) T
    have G_inc := ok_inc (P := P) (w := w) (base := base) T
    have G_dec := ok_dec (P := P) (w := w) (base := base) T
    have G_neg := ok_neg (P := P) (w := w) (base := base) T
    have G_adc := ok_adc (P := P) (w := w) (base := base) T
    have G_sbc := ok_sbc (P := P) (w := w) (base := base) T
    have G_tst := ok_tst (P := P) (w := w) (base := base) T
    have G_ror := ok_ror (P := P) (w := w) (base := base) T
    have G_rol := ok_rol (P := P) (w := w) (base := base) T
    have G_asr := ok_asr (P := P) (w := w) (base := base) T
    have G_asl := ok_asl (P := P) (w := w) (base := base) T
    have G_put := ok_put (P := P) (w := w) (base := base) T
    have G_Machine_set_flags := ok_Machine_set_flags (P := P) (w := w) (base := base) T
    obtain ⟨a_ONE_OPERAND, ha_ONE_OPERAND, hd_ONE_OPERAND⟩ := T.t_ONE_OPERAND
    refine ⟨_, (pss_cons (ps_set (i := 2) sc_q50.nd rfl (Or.inl v_q50_top) (pe_ifExp (pt_truthK (K := K) rfl (pe_op op_shr (pe_var (i := 1) rfl (Or.inl v_q50_w) nd_w nc_w) pe_int) (fun _ => rfl)) (pe_globI g_q50_BYTE_TOP T.c_BYTE_TOP nd_BYTE_TOP) (pe_globI g_q50_WORD_TOP T.c_WORD_TOP nd_WORD_TOP)))
      (pss_cons (ps_set (i := 3) sc_q50.nd rfl (Or.inl v_q50_operand) (pe_callE G_tell (hr.mono (by decide)) g_q50_tell pass_body (pa_cons (pe_var (i := 0) rfl (Or.inl v_q50_machine) nd_machine nc_machine) (pa_cons (pe_op op_and (pe_var (i := 1) rfl (Or.inl v_q50_w) nd_w nc_w) pe_int) (pa_cons (pe_var (i := 2) rfl (Or.inl v_q50_top) nd_top nc_top) pa_nil))) nd_tell))
      (pss_cons (ps_set (i := 4) sc_q50.nd rfl (Or.inl v_q50_d) (pe_callE G_take (hr.mono (by decide)) g_q50_take pass_body (pa_cons (pe_var (i := 0) rfl (Or.inl v_q50_machine) nd_machine nc_machine) (pa_cons (pe_var (i := 3) rfl (Or.inl v_q50_operand) nd_operand nc_operand) (pa_cons (pe_var (i := 2) rfl (Or.inl v_q50_top) nd_top nc_top) pa_nil))) nd_take))
      (pss_cons (ps_set (i := 5) sc_q50.nd rfl (Or.inl v_q50_outcome) (pe_callV (P := P) (w := w) (K := K) (mg := mg) (base := base) (k := 4) rfl rfl rfl rfl rfl hr pass_body (pe_kget (K := K) rfl (pe_glob (v := .ref a_ONE_OPERAND) g_q50_ONE_OPERAND ha_ONE_OPERAND rfl nd_ONE_OPERAND) (pe_op op_and (pe_op op_shr (pe_var (i := 1) rfl (Or.inl v_q50_w) nd_w nc_w) pe_int) pe_int) (fun _ _ => rfl)) (pa_cons (pe_var (i := 4) rfl (Or.inl v_q50_d) nd_d nc_d) (pa_cons (pe_fldK (K := K) rfl (pe_var (i := 0) rfl (Or.inl v_q50_machine) nd_machine nc_machine) rfl) (pa_cons (pe_var (i := 2) rfl (Or.inl v_q50_top) nd_top nc_top) pa_nil)))))
      (pss_cons (ps_expr (pe_callE G_put (hr.mono (by decide)) g_q50_put pass_body (pa_cons (pe_var (i := 0) rfl (Or.inl v_q50_machine) nd_machine nc_machine) (pa_cons (pe_var (i := 3) rfl (Or.inl v_q50_operand) nd_operand nc_operand) (pa_cons (pe_var (i := 2) rfl (Or.inl v_q50_top) nd_top nc_top) (pa_cons (pe_ixTK (K := K) rfl (pe_var (i := 5) rfl (Or.inl v_q50_outcome) nd_outcome nc_outcome) pe_int (fun _ _ => rfl)) pa_nil)))) nd_put))
      (pss_one (ps_expr (pe_methE G_Machine_set_flags (hr.mono (by decide)) pass_body (pe_var (i := 0) rfl (Or.inl v_q50_machine) nd_machine nc_machine) (pa_cons (pe_ixTK (K := K) rfl (pe_var (i := 5) rfl (Or.inl v_q50_outcome) nd_outcome nc_outcome) pe_int (fun _ _ => rfl)) (pa_cons (pe_var (i := 2) rfl (Or.inl v_q50_top) nd_top nc_top) (pa_cons (pe_ixTK (K := K) rfl (pe_var (i := 5) rfl (Or.inl v_q50_outcome) nd_outcome nc_outcome) pe_int (fun _ _ => rfl)) (pa_cons (pe_ixTK (K := K) rfl (pe_var (i := 5) rfl (Or.inl v_q50_outcome) nd_outcome nc_outcome) pe_int (fun _ _ => rfl)) pa_nil)))))))))))), ?_⟩
    obtain ⟨dx, S, rs, ms, e1, e2, e3, rel⟩ := hms.ex
    obtain ⟨kvs, hkd, hpr⟩ := hd_ONE_OPERAND
    rw [ex_one hc] at k
    have hop : u / 64 % 512 - 40 ≤ 11 := by unfold c_one at hc; omega
    have htab : ∃ f, valI kvs ((u / 64 % 512 : Nat) : Int) = some f ∧ GV P w K mg base f 4 (sp_one (u / 64 % 512 - 40)) := by
      unfold c_one at hc
      have hcase : u / 64 % 512 = 40 ∨ u / 64 % 512 = 41 ∨ u / 64 % 512 = 42 ∨ u / 64 % 512 = 43 ∨ u / 64 % 512 = 44 ∨ u / 64 % 512 = 45 ∨ u / 64 % 512 = 46 ∨ u / 64 % 512 = 47 ∨ u / 64 % 512 = 48 ∨ u / 64 % 512 = 49 ∨ u / 64 % 512 = 50 ∨ u / 64 % 512 = 51 := by omega
      rcases hcase with h | h | h | h | h | h | h | h | h | h | h | h <;> rw [h]
      · obtain ⟨f, a, b_⟩ := ktab_val hpr (show valS tab_ONE_OPERAND ((40 : Nat) : Int) = some "clr" by kernel_rfl); exact ⟨f, a, G_clr.gv b_ (by decide)⟩
      · obtain ⟨f, a, b_⟩ := ktab_val hpr (show valS tab_ONE_OPERAND ((41 : Nat) : Int) = some "com" by kernel_rfl); exact ⟨f, a, G_com.gv b_ (by decide)⟩
      · obtain ⟨f, a, b_⟩ := ktab_val hpr (show valS tab_ONE_OPERAND ((42 : Nat) : Int) = some "inc" by kernel_rfl); exact ⟨f, a, G_inc.gv b_ (by decide)⟩
      · obtain ⟨f, a, b_⟩ := ktab_val hpr (show valS tab_ONE_OPERAND ((43 : Nat) : Int) = some "dec" by kernel_rfl); exact ⟨f, a, G_dec.gv b_ (by decide)⟩
      · obtain ⟨f, a, b_⟩ := ktab_val hpr (show valS tab_ONE_OPERAND ((44 : Nat) : Int) = some "neg" by kernel_rfl); exact ⟨f, a, G_neg.gv b_ (by decide)⟩
      · obtain ⟨f, a, b_⟩ := ktab_val hpr (show valS tab_ONE_OPERAND ((45 : Nat) : Int) = some "adc" by kernel_rfl); exact ⟨f, a, G_adc.gv b_ (by decide)⟩
      · obtain ⟨f, a, b_⟩ := ktab_val hpr (show valS tab_ONE_OPERAND ((46 : Nat) : Int) = some "sbc" by kernel_rfl); exact ⟨f, a, G_sbc.gv b_ (by decide)⟩
      · obtain ⟨f, a, b_⟩ := ktab_val hpr (show valS tab_ONE_OPERAND ((47 : Nat) : Int) = some "tst" by kernel_rfl); exact ⟨f, a, G_tst.gv b_ (by decide)⟩
      · obtain ⟨f, a, b_⟩ := ktab_val hpr (show valS tab_ONE_OPERAND ((48 : Nat) : Int) = some "ror" by kernel_rfl); exact ⟨f, a, G_ror.gv b_ (by decide)⟩
      · obtain ⟨f, a, b_⟩ := ktab_val hpr (show valS tab_ONE_OPERAND ((49 : Nat) : Int) = some "rol" by kernel_rfl); exact ⟨f, a, G_rol.gv b_ (by decide)⟩
      · obtain ⟨f, a, b_⟩ := ktab_val hpr (show valS tab_ONE_OPERAND ((50 : Nat) : Int) = some "asr" by kernel_rfl); exact ⟨f, a, G_asr.gv b_ (by decide)⟩
      · obtain ⟨f, a, b_⟩ := ktab_val hpr (show valS tab_ONE_OPERAND ((51 : Nat) : Int) = some "asl" by kernel_rfl); exact ⟨f, a, G_asl.gv b_ (by decide)⟩
    walk_at "rd"
    rw [show (15 : Int).toNat = 15 from rfl, sR, nz_cast, show (!decide (u / 2 ^ 15 = 0)) = decide (512 ≤ u / 64) by rw [← decide_not]; exact decide_eq_decide.mpr (by omega), bA63]
    refine ⟨m, st, 0, u % 64, decide (512 ≤ u / 64), _, rfl, rfl, hms, by omega, ?_⟩
    rw [place_mod]
    generalize u / 64 % 512 - 40 = op at *
    generalize decide (512 ≤ u / 64) = byte at *
    cases p1 : Sz15.place st u byte with
    | none => rw [doOne_none1 p1] at k; exact k
    | some r1' =>
      obtain ⟨st1, p⟩ := r1'
      have hp := place_ok rel.wf p1
      have sm1 := place_same p1
      intro H1 h1 s1
      walk_at "rd"
      refine ⟨m, st1, 0, p, byte, _, rfl, rfl, h1, hp, ?_⟩
      cases l1 : Sz15.load st1 p byte with
      | none => rw [doOne_none2 hop p1 l1] at k; exact Fall.at k h1 sm1 s1
      | some y =>
        have hy := load_lt h1.wf l1
        rw [doOne_fin hop h1.wf hp p1 l1] at k
        obtain ⟨dx2, S2, rs2, ms2, z1, z2, z3, rel2⟩ := h1.ex
        obtain ⟨f_, hvf, gv⟩ := htab
        walk_at "rd"
        rw [show (6 : Int).toNat = 6 from rfl, sR, show (2 : Nat) ^ 6 = 64 from rfl, show Builtin.bitAnd ((u / 64 : Nat) : Int) 511 = ((u / 64 % 512 : Nat) : Int) by rw [show (511 : Int) = ((511 : Nat) : Int) from rfl, bA, show (511 : Nat) = 2 ^ 9 - 1 from rfl, Nat.and_two_pow_sub_one_eq_mod]]
        refine ⟨_, kvs, _, f_, rfl, rfl, hkd, hvf, f_, _, rfl, gv, ?_⟩
        walk_at "rd"
        rw [rel2.c]
        refine ⟨y, st1.c, byte, rfl, hy, fun t0 ht0 => ?_⟩
        have hrl := r1_lt hop st1.c hy
        generalize r1 op byte y st1.c = r at *
        have h3 := h1.new (o := .tup [.int (r.1 : Nat), .int ((r.2.1.toNat : Nat) : Int), .int ((r.2.2.toNat : Nat) : Int)]) ht0
        have s3 := s1.trans (.new (o := .tup [.int (r.1 : Nat), .int ((r.2.1.toNat : Nat) : Int), .int ((r.2.2.toNat : Nat) : Int)]) ht0 h1.there)
        have nt : ¬ fpM C_Machine (upd H1 t0 (.tup [.int (r.1 : Nat), .int ((r.2.1.toNat : Nat) : Int), .int ((r.2.2.toNat : Nat) : Int)])) m t0 := nfp_new2 h1 ht0
        have t3 : upd H1 t0 (.tup [.int (r.1 : Nat), .int ((r.2.1.toNat : Nat) : Int), .int ((r.2.2.toNat : Nat) : Int)]) t0 = some (.tup [.int (r.1 : Nat), .int ((r.2.1.toNat : Nat) : Int), .int ((r.2.2.toNat : Nat) : Int)]) := upd_same
        generalize upd H1 t0 (.tup [.int (r.1 : Nat), .int ((r.2.1.toNat : Nat) : Int), .int ((r.2.2.toNat : Nat) : Int)]) = H3 at *
        obtain ⟨st3, e5⟩ := store_some (x := r.1) l1
        rw [e5] at k
        walk_at "rd"
        refine rd_ixT (SqT.of t3) (v := .int (r.1 : Nat)) (by kernel_rfl) ?_
        walk_at "rd"
        refine ⟨m, st1, 0, p, byte, _, r.1, _, rfl, rfl, rfl, h3, hp, hrl, ?_⟩
        rw [e5]
        intro H4 h4 s4
        have t4 := s4.keep t0 _ t3 nt
        obtain ⟨dx4, S4, rs4, ms4, y1, y2, y3, rel4⟩ := h4.ex
        walk_at "rd"
        refine rd_ixT (SqT.of t4) (v := .int (r.1 : Nat)) (by kernel_rfl) ?_
        walk_at "rd"
        refine rd_ixT (SqT.of t4) (v := .int ((r.2.1.toNat : Nat) : Int)) (by kernel_rfl) ?_
        walk_at "rd"
        refine rd_ixT (SqT.of t4) (v := .int ((r.2.2.toNat : Nat) : Int)) (by kernel_rfl) ?_
        walk_at "rd"
        refine ⟨m, st3, 0, r.1, topv byte, r.2.1, r.2.2, rfl, h4, ?_⟩
        rw [flr_eq hrl]
        intro H5 h5 s5
        walk_at "rd"
        exact k H5 h5 (s3.trans (s4.trans s5))
theorem or_lo2 {a b : Nat} (hb : b < 256) : a * 256 ||| b = a * 256 + b := by
  have h := Nat.two_pow_add_eq_or_of_lt (i := 8) (b := b) hb a
  rw [Nat.mul_comm a 256, show (256 : Nat) = 2 ^ 8 from rfl, ← h]
theorem store_fl' {st st' st3 : Sz15.St} {p : Sz15.Place} {x : Nat} {n z v c : Bool} (e : st' = fl st n z v c) (e5 : Sz15.store st p false x = some st3) : Sz15.store st' p false x = some (fl st3 n z v c) := by
  subst e
  rw [store_fl, e5]; rfl
def c_swab (u : Nat) : Prop := u / 64 = 3
theorem ok_swap_bytes (T : Tx K mg C_Machine C_CallReader C_NoInstruction C_OddPlace C_UnknownCall) : GFn P w K mg base "swap_bytes" 5 ["machine", "w"] (sp_ins C_Machine C_OddPlace C_NoInstruction c_swab) := by
  obtain ⟨f, fd, F, hmg, b⟩ := T.d_swap_bytes
  refine ⟨⟨f, fd, F.okX (k := 4) sc_q51 (fun vs H Q E h => ?_) (fun cdv A outer s H vs Q E hr h => ?_), hmg, F.kp, b⟩⟩
  · obtain ⟨m, st, u, rfl, hms, hu, hc, k⟩ := h
    rfl
  · obtain ⟨m, st, u, rfl, hms, hu, hc, k⟩ := h
    have G_tell := ok_tell (P := P) (w := w) (base := base) T
    have G_take := ok_take (P := P) (w := w) (base := base) T
    have G_put := ok_put (P := P) (w := w) (base := base) T
    have G_Machine_set_flags := ok_Machine_set_flags (P := P) (w := w) (base := base) T
    refine ⟨_, (pss_cons (ps_set (i := 2) sc_q51.nd rfl (Or.inl v_q51_operand) (pe_callE G_tell (hr.mono (by decide)) g_q51_tell pass_body (pa_cons (pe_var (i := 0) rfl (Or.inl v_q51_machine) nd_machine nc_machine) (pa_cons (pe_op op_and (pe_var (i := 1) rfl (Or.inl v_q51_w) nd_w nc_w) pe_int) (pa_cons (pe_globI g_q51_WORD_TOP T.c_WORD_TOP nd_WORD_TOP) pa_nil))) nd_tell))
      (pss_cons (ps_set (i := 3) sc_q51.nd rfl (Or.inl v_q51_d) (pe_callE G_take (hr.mono (by decide)) g_q51_take pass_body (pa_cons (pe_var (i := 0) rfl (Or.inl v_q51_machine) nd_machine nc_machine) (pa_cons (pe_var (i := 2) rfl (Or.inl v_q51_operand) nd_operand nc_operand) (pa_cons (pe_globI g_q51_WORD_TOP T.c_WORD_TOP nd_WORD_TOP) pa_nil))) nd_take))
      (pss_cons (ps_expr (pe_callE G_put (hr.mono (by decide)) g_q51_put pass_body (pa_cons (pe_var (i := 0) rfl (Or.inl v_q51_machine) nd_machine nc_machine) (pa_cons (pe_var (i := 2) rfl (Or.inl v_q51_operand) nd_operand nc_operand) (pa_cons (pe_globI g_q51_WORD_TOP T.c_WORD_TOP nd_WORD_TOP) (pa_cons (pe_op op_or (pe_op op_shl (pe_op op_and (pe_var (i := 3) rfl (Or.inl v_q51_d) nd_d nc_d) pe_int) pe_int) (pe_op op_shr (pe_var (i := 3) rfl (Or.inl v_q51_d) nd_d nc_d) pe_int)) pa_nil)))) nd_put))
      (pss_one (ps_expr (pe_methE G_Machine_set_flags (hr.mono (by decide)) pass_body (pe_var (i := 0) rfl (Or.inl v_q51_machine) nd_machine nc_machine) (pa_cons (pe_op op_shr (pe_var (i := 3) rfl (Or.inl v_q51_d) nd_d nc_d) pe_int) (pa_cons (pe_globI g_q51_BYTE_TOP T.c_BYTE_TOP nd_BYTE_TOP) (pa_cons pe_int (pa_cons pe_int pa_nil)))))))))), ?_⟩
    obtain ⟨dx, S, rs, ms, e1, e2, e3, rel⟩ := hms.ex
    rw [ex_swab hc] at k
    walk_at "rd"
    rw [bA63]
    refine ⟨m, st, 0, u % 64, false, _, rfl, rfl, hms, by omega, ?_⟩
    rw [place_mod]
    cases p1 : Sz15.place st u false with
    | none => rw [p1] at k; exact k
    | some r1' =>
      obtain ⟨st1, p⟩ := r1'
      rw [p1] at k
      have hp := place_ok rel.wf p1
      have sm1 := place_same p1
      intro H1 h1 s1
      walk_at "rd"
      refine ⟨m, st1, 0, p, false, _, rfl, rfl, h1, hp, ?_⟩
      have k1 : OutI C_Machine C_OddPlace C_NoInstruction m H st (Sz15.came ((Sz15.load st1 p false).bind fun y => Sz15.store { st1.nz true (y % 256 * 256 + y / 256) with v := false, c := false } p false (y % 256 * 256 + y / 256))) Q E := k
      cases l1 : Sz15.load st1 p false with
      | none => rw [l1] at k1; exact Fall.at k1 h1 sm1 s1
      | some y =>
        rw [l1] at k1
        have hy : y < 65536 := load_lt h1.wf l1
        obtain ⟨st3, e5⟩ := store_some (x := y % 256 * 256 + y / 256) l1
        have k2 : OutI C_Machine C_OddPlace C_NoInstruction m H st (Sz15.came (Sz15.store { st1.nz true (y % 256 * 256 + y / 256) with v := false, c := false } p false (y % 256 * 256 + y / 256))) Q E := k1
        rw [store_fl' (st := st1) (n := ((((y / 256) &&& 128 : Nat) : Int) != 0)) (z := decide (y / 256 = 0)) (v := false) (c := false) ?eq e5] at k2
        case eq =>
          have a0 : (y % 256 * 256 + y / 256) % 256 = y / 256 % 256 := by rw [Nat.add_comm, Nat.add_mul_mod_self_right]
          have a1 : ((((y / 256) &&& 128 : Nat) : Int) != 0) = Sz15.top true (y % 256 * 256 + y / 256) := by
            rw [show (128 : Nat) = topv true from rfl, nz_top]
            show decide (128 ≤ y / 256 % 256) = decide (128 ≤ (y % 256 * 256 + y / 256) % 256)
            rw [a0]
          have a2 : decide (y / 256 = 0) = decide ((y % 256 * 256 + y / 256) % Sz15.size true = 0) := decide_eq_decide.mpr (by show _ ↔ (y % 256 * 256 + y / 256) % 256 = 0; rw [a0]; omega)
          rw [a1, a2]; rfl
        obtain ⟨dx2, S2, rs2, ms2, z1, z2, z3, rel2⟩ := h1.ex
        walk_at "rd"
        rw [bA255]
        walk_at "rd"
        refine ⟨m, st1, 0, p, false, _, y % 256 * 256 + y / 256, _, rfl, rfl, ?_, h1, hp, by show _ < 65536; omega, ?_⟩
        · rw [show (8 : Int).toNat = 8 from rfl, sL, sR, bO, show (2 : Nat) ^ 8 = 256 from rfl, or_lo2 (by omega)]
        rw [e5]
        intro H4 h4 s4
        obtain ⟨dx4, S4, rs4, ms4, y1, y2, y3, rel4⟩ := h4.ex
        walk_at "rd"
        refine ⟨m, st3, 0, y / 256, 128, false, false, by rw [show (8 : Int).toNat = 8 from rfl, sR]; rfl, h4, ?_⟩
        intro H5 h5 s5
        walk_at "rd"
        exact k2 H5 h5 (s1.trans (s4.trans s5))
def c_sxt (u : Nat) : Prop := u / 64 = 55
theorem ok_extend_sign (T : Tx K mg C_Machine C_CallReader C_NoInstruction C_OddPlace C_UnknownCall) : GFn P w K mg base "extend_sign" 5 ["machine", "w"] (sp_ins C_Machine C_OddPlace C_NoInstruction c_sxt) := by
  obtain ⟨f, fd, F, hmg, b⟩ := T.d_extend_sign
  refine ⟨⟨f, fd, F.okX (k := 4) sc_q52 (fun vs H Q E h => ?_) (fun cdv A outer s H vs Q E hr h => ?_), hmg, F.kp, b⟩⟩
  · obtain ⟨m, st, u, rfl, hms, hu, hc, k⟩ := h
    rfl
  · obtain ⟨m, st, u, rfl, hms, hu, hc, k⟩ := h
    have G_tell := ok_tell (P := P) (w := w) (base := base) T
    have G_put := ok_put (P := P) (w := w) (base := base) T
    have G_Machine_set_flags := ok_Machine_set_flags (P := P) (w := w) (base := base) T
    refine ⟨_, (pss_cons (ps_set (i := 2) sc_q52.nd rfl (Or.inl v_q52_operand) (pe_callE G_tell (hr.mono (by decide)) g_q52_tell pass_body (pa_cons (pe_var (i := 0) rfl (Or.inl v_q52_machine) nd_machine nc_machine) (pa_cons (pe_op op_and (pe_var (i := 1) rfl (Or.inl v_q52_w) nd_w nc_w) pe_int) (pa_cons (pe_globI g_q52_WORD_TOP T.c_WORD_TOP nd_WORD_TOP) pa_nil))) nd_tell))
      (pss_cons (ps_set (i := 3) sc_q52.nd rfl (Or.inl v_q52_result) (pe_op op_mul (pe_fldK (K := K) rfl (pe_var (i := 0) rfl (Or.inl v_q52_machine) nd_machine nc_machine) rfl) (pe_op op_sub (pe_globI g_q52_WORD_RANGE T.c_WORD_RANGE nd_WORD_RANGE) pe_int)))
      (pss_cons (ps_expr (pe_callE G_put (hr.mono (by decide)) g_q52_put pass_body (pa_cons (pe_var (i := 0) rfl (Or.inl v_q52_machine) nd_machine nc_machine) (pa_cons (pe_var (i := 2) rfl (Or.inl v_q52_operand) nd_operand nc_operand) (pa_cons (pe_globI g_q52_WORD_TOP T.c_WORD_TOP nd_WORD_TOP) (pa_cons (pe_var (i := 3) rfl (Or.inl v_q52_result) nd_result nc_result) pa_nil)))) nd_put))
      (pss_one (ps_expr (pe_methE G_Machine_set_flags (hr.mono (by decide)) pass_body (pe_var (i := 0) rfl (Or.inl v_q52_machine) nd_machine nc_machine) (pa_cons (pe_var (i := 3) rfl (Or.inl v_q52_result) nd_result nc_result) (pa_cons (pe_globI g_q52_WORD_TOP T.c_WORD_TOP nd_WORD_TOP) (pa_cons pe_int (pa_cons (pe_fldK (K := K) rfl (pe_var (i := 0) rfl (Or.inl v_q52_machine) nd_machine nc_machine) rfl) pa_nil)))))))))), ?_⟩
    obtain ⟨dx, S, rs, ms, e1, e2, e3, rel⟩ := hms.ex
    rw [ex_sxt hc] at k
    walk_at "rd"
    rw [bA63]
    refine ⟨m, st, 0, u % 64, false, _, rfl, rfl, hms, by omega, ?_⟩
    rw [place_mod]
    cases p1 : Sz15.place st u false with
    | none => rw [p1] at k; exact k
    | some r1' =>
      obtain ⟨st1, p⟩ := r1'
      rw [p1] at k
      have hp := place_ok rel.wf p1
      have sm1 := place_same p1
      intro H1 h1 s1
      obtain ⟨dx2, S2, rs2, ms2, z1, z2, z3, rel2⟩ := h1.ex
      have hn := bool_lt st.n
      have en : S2.negative = ((st.n.toNat : Nat) : Int) := by rw [rel2.n, sm1.n]
      walk_at "rd"
      rw [en]
      have ev : ((st.n.toNat : Nat) : Int) * (65536 - 1) = ((if st.n = true then 65535 else 0 : Nat) : Int) := by cases st.n <;> rfl
      rw [ev]
      walk_at "rd"
      have k1 : OutI C_Machine C_OddPlace C_NoInstruction m H st (Sz15.came (Sz15.store { st1 with z := !st.n, v := false } p false (if st.n = true then 65535 else 0))) Q E := k
      generalize hval : (if st.n = true then 65535 else 0 : Nat) = val at *
      have hvl : val < 65536 := by rw [← hval]; split <;> decide
      have a1 : (((val &&& 32768 : Nat) : Int) != 0) = st1.n := by rw [← hval, sm1.n]; cases st.n <;> rfl
      have a2 : decide (val = 0) = !st.n := by rw [← hval]; cases st.n <;> rfl
      refine ⟨m, st1, 0, p, false, _, val, _, rfl, rfl, rfl, h1, hp, hvl, ?_⟩
      cases e5 : Sz15.store st1 p false val with
      | none =>
        have e6 : Sz15.store { st1 with z := !st.n, v := false } p false val = none := by
          have := store_fl st1 st1.n (!st.n) false st1.c p false val
          rw [e5] at this
          exact this
        rw [e6] at k1
        exact Fall.at k1 h1 sm1 s1
      | some st3 =>
        rw [store_fl' (st := st1) (n := (((val &&& 32768 : Nat) : Int) != 0)) (z := decide (val = 0)) (v := false) (c := st3.c) ?eq e5] at k1
        case eq => rw [a1, a2, store_c e5]; rfl
        intro H4 h4 s4
        obtain ⟨dx4, S4, rs4, ms4, y1, y2, y3, rel4⟩ := h4.ex
        walk_at "rd"
        rw [rel4.c]
        refine ⟨m, st3, 0, val, 32768, false, st3.c, rfl, h4, ?_⟩
        intro H5 h5 s5
        walk_at "rd"
        exact k1 H5 h5 (s1.trans (s4.trans s5))
def c_xor (u : Nat) : Prop := u / 512 = 60
theorem ok_exclusive_or (T : Tx K mg C_Machine C_CallReader C_NoInstruction C_OddPlace C_UnknownCall) : GFn P w K mg base "exclusive_or" 5 ["machine", "w"] (sp_ins C_Machine C_OddPlace C_NoInstruction c_xor) := by
  obtain ⟨f, fd, F, hmg, b⟩ := T.d_exclusive_or
  refine ⟨⟨f, fd, F.okX (k := 4) sc_q53 (fun vs H Q E h => ?_) (fun cdv A outer s H vs Q E hr h => ?_), hmg, F.kp, b⟩⟩
  · obtain ⟨m, st, u, rfl, hms, hu, hc, k⟩ := h
    rfl
  · obtain ⟨m, st, u, rfl, hms, hu, hc, k⟩ := h
    have G_tell := ok_tell (P := P) (w := w) (base := base) T
    have G_put := ok_put (P := P) (w := w) (base := base) T
    have G_Machine_set_flags := ok_Machine_set_flags (P := P) (w := w) (base := base) T
    have G_take := ok_take (P := P) (w := w) (base := base) T
    refine ⟨_, (pss_cons (ps_set (i := 2) sc_q53.nd rfl (Or.inl v_q53_operand) (pe_callE G_tell (hr.mono (by decide)) g_q53_tell pass_body (pa_cons (pe_var (i := 0) rfl (Or.inl v_q53_machine) nd_machine nc_machine) (pa_cons (pe_op op_and (pe_var (i := 1) rfl (Or.inl v_q53_w) nd_w nc_w) pe_int) (pa_cons (pe_globI g_q53_WORD_TOP T.c_WORD_TOP nd_WORD_TOP) pa_nil))) nd_tell))
      (pss_cons (ps_set (i := 3) sc_q53.nd rfl (Or.inl v_q53_result) (pe_op op_xor (pe_callE G_take (hr.mono (by decide)) g_q53_take pass_body (pa_cons (pe_var (i := 0) rfl (Or.inl v_q53_machine) nd_machine nc_machine) (pa_cons (pe_var (i := 2) rfl (Or.inl v_q53_operand) nd_operand nc_operand) (pa_cons (pe_globI g_q53_WORD_TOP T.c_WORD_TOP nd_WORD_TOP) pa_nil))) nd_take) (pe_ixLK (K := K) rfl (pe_fldK (K := K) rfl (pe_var (i := 0) rfl (Or.inl v_q53_machine) nd_machine nc_machine) rfl) (pe_op op_and (pe_op op_shr (pe_var (i := 1) rfl (Or.inl v_q53_w) nd_w nc_w) pe_int) pe_int) (fun _ _ => rfl))))
      (pss_cons (ps_expr (pe_callE G_put (hr.mono (by decide)) g_q53_put pass_body (pa_cons (pe_var (i := 0) rfl (Or.inl v_q53_machine) nd_machine nc_machine) (pa_cons (pe_var (i := 2) rfl (Or.inl v_q53_operand) nd_operand nc_operand) (pa_cons (pe_globI g_q53_WORD_TOP T.c_WORD_TOP nd_WORD_TOP) (pa_cons (pe_var (i := 3) rfl (Or.inl v_q53_result) nd_result nc_result) pa_nil)))) nd_put))
      (pss_one (ps_expr (pe_methE G_Machine_set_flags (hr.mono (by decide)) pass_body (pe_var (i := 0) rfl (Or.inl v_q53_machine) nd_machine nc_machine) (pa_cons (pe_var (i := 3) rfl (Or.inl v_q53_result) nd_result nc_result) (pa_cons (pe_globI g_q53_WORD_TOP T.c_WORD_TOP nd_WORD_TOP) (pa_cons pe_int (pa_cons (pe_fldK (K := K) rfl (pe_var (i := 0) rfl (Or.inl v_q53_machine) nd_machine nc_machine) rfl) pa_nil)))))))))), ?_⟩
    obtain ⟨dx, S, rs, ms, e1, e2, e3, rel⟩ := hms.ex
    rw [ex_xor hc] at k
    walk_at "rd"
    rw [bA63]
    refine ⟨m, st, 0, u % 64, false, _, rfl, rfl, hms, by omega, ?_⟩
    rw [place_mod]
    cases p1 : Sz15.place st u false with
    | none => rw [p1] at k; exact k
    | some r1' =>
      obtain ⟨st1, p⟩ := r1'
      rw [p1] at k
      have hp := place_ok rel.wf p1
      have sm1 := place_same p1
      intro H1 h1 s1
      obtain ⟨dx2, S2, rs2, ms2, z1, z2, z3, rel2⟩ := h1.ex
      walk_at "rd"
      refine ⟨m, st1, 0, p, false, _, rfl, rfl, h1, hp, ?_⟩
      have k1 : OutI C_Machine C_OddPlace C_NoInstruction m H st (Sz15.came ((Sz15.load st1 p false).bind fun y => Sz15.store { st1.nz false (y ^^^ st1.reg (u / 64 % 8)) with v := false } p false (y ^^^ st1.reg (u / 64 % 8)))) Q E := k
      cases l1 : Sz15.load st1 p false with
      | none => rw [l1] at k1; exact Fall.at k1 h1 sm1 s1
      | some y =>
        rw [l1] at k1
        have hy : y < 65536 := load_lt h1.wf l1
        walk_at "rd"
        rw [show (6 : Int).toNat = 6 from rfl, sR, show (2 : Nat) ^ 6 = 64 from rfl, bA7]
        refine rd_ixL (SqL.of z2) (rel2.get rfl (Nat.mod_lt _ (by decide))) ?_
        walk_at "rd"
        rw [bX]
        have hrg := h1.wf.reg (u / 64 % 8)
        have hxl : y ^^^ st1.reg (u / 64 % 8) < 65536 := Nat.xor_lt_two_pow (n := 16) hy hrg
        have k2 : OutI C_Machine C_OddPlace C_NoInstruction m H st (Sz15.came (Sz15.store { st1.nz false (y ^^^ st1.reg (u / 64 % 8)) with v := false } p false (y ^^^ st1.reg (u / 64 % 8)))) Q E := k1
        obtain ⟨st3, e5⟩ := store_some (x := y ^^^ st1.reg (u / 64 % 8)) l1
        generalize y ^^^ st1.reg (u / 64 % 8) = x at *
        rw [store_fl' (st := st1) (n := (((x &&& 32768 : Nat) : Int) != 0)) (z := decide (x = 0)) (v := false) (c := st3.c) ?eq e5] at k2
        case eq =>
          rw [show (32768 : Nat) = topv false from rfl, nz_top, store_c e5, show decide (x = 0) = decide (x % Sz15.size false = 0) from decide_eq_decide.mpr (by show _ ↔ x % 65536 = 0; omega)]
          rfl
        refine ⟨m, st1, 0, p, false, _, x, _, rfl, rfl, rfl, h1, hp, hxl, ?_⟩
        rw [e5]
        intro H4 h4 s4
        obtain ⟨dx4, S4, rs4, ms4, y1, y2, y3, rel4⟩ := h4.ex
        walk_at "rd"
        rw [rel4.c]
        refine ⟨m, st3, 0, x, 32768, false, st3.c, rfl, h4, ?_⟩
        intro H5 h5 s5
        walk_at "rd"
        exact k2 H5 h5 (s1.trans (s4.trans s5))
end
section
variable {P : Program} {w : World} {K : PySem.W.Frag} {mg : Str → Option Value} {base : Heap} {C_Machine C_CallReader C_NoInstruction C_OddPlace C_UnknownCall : Addr}
def src (st : Sz15.St) (u : Nat) : Option (Sz15.St × Nat) := (Sz15.place st u false).bind fun s => (Sz15.load s.1 s.2 false).map fun x => (s.1, x)
theorem src_bind (st : Sz15.St) (u op k : Nat) : ((Sz15.place st u false).bind fun s => (Sz15.load s.1 s.2 false).bind fun x => Sz15.extended s.1 op k x) = (src st u).bind fun p => Sz15.extended p.1 op k p.2 := by
  unfold src
  cases Sz15.place st u false with
  | none => rfl
  | some s =>
    show (Sz15.load s.1 s.2 false).bind _ = ((Sz15.load s.1 s.2 false).map fun x => (s.1, x)).bind _
    cases Sz15.load s.1 s.2 false <;> rfl
theorem src_same {st st1 : Sz15.St} {u x : Nat} (e : src st u = some (st1, x)) : Same st st1 := by
  unfold src at e
  obtain ⟨s, e1, e2⟩ := Option.bind_eq_some_iff.mp e
  obtain ⟨x', _, e3⟩ := Option.map_eq_some_iff.mp e2
  injection e3 with e4 _
  subst e4
  exact place_same (p := s.2) e1
def sp_src (C O : Addr) : Sp := fun vs H Q E => ∃ (m : Addr) (st : Sz15.St) (u : Nat), vs = [.ref m, .int (u : Nat)] ∧ MSy C H m st 0 ∧ (match src st u with
  | some p => p.2 < 65536 → Ret C m H p.1 0 (.int (p.2 : Nat)) Q
  | none => Fall C m O H st 0 E)
theorem ok_take_source (T : Tx K mg C_Machine C_CallReader C_NoInstruction C_OddPlace C_UnknownCall) : GFn P w K mg base "take_source" 5 ["machine", "w"] (sp_src C_Machine C_OddPlace) := by
  obtain ⟨f, fd, F, hmg, b⟩ := T.d_take_source
  refine ⟨⟨f, fd, F.okX (k := 4) sc_q54 (fun vs H Q E h => ?_) (fun cdv A outer s H vs Q E hr h => ?_), hmg, F.kp, b⟩⟩
  · obtain ⟨m, st, u, rfl, hms, k⟩ := h
    rfl
  · obtain ⟨m, st, u, rfl, hms, k⟩ := h
    have G_take := ok_take (P := P) (w := w) (base := base) T
    have G_tell := ok_tell (P := P) (w := w) (base := base) T
    refine ⟨_, (pss_one (ps_ret (pe_callE G_take (hr.mono (by decide)) g_q54_take pass_body (pa_cons (pe_var (i := 0) rfl (Or.inl v_q54_machine) nd_machine nc_machine) (pa_cons (pe_callE G_tell (hr.mono (by decide)) g_q54_tell pass_body (pa_cons (pe_var (i := 0) rfl (Or.inl v_q54_machine) nd_machine nc_machine) (pa_cons (pe_op op_and (pe_var (i := 1) rfl (Or.inl v_q54_w) nd_w nc_w) pe_int) (pa_cons (pe_globI g_q54_WORD_TOP T.c_WORD_TOP nd_WORD_TOP) pa_nil))) nd_tell) (pa_cons (pe_globI g_q54_WORD_TOP T.c_WORD_TOP nd_WORD_TOP) pa_nil))) nd_take))), ?_⟩
    walk_at "rd"
    rw [bA63]
    refine ⟨m, st, 0, u % 64, false, _, rfl, rfl, hms, by omega, ?_⟩
    rw [place_mod]
    unfold src at k
    cases p1 : Sz15.place st u false with
    | none => rw [p1] at k; exact k
    | some r1' =>
      obtain ⟨st1, p⟩ := r1'
      rw [p1] at k
      have hp := place_ok hms.wf p1
      intro H1 h1 s1
      walk_at "rd"
      refine ⟨m, st1, 0, p, false, _, rfl, rfl, h1, hp, ?_⟩
      have k1 : (match (Sz15.load st1 p false).map fun x => (st1, x) with
        | some p => p.2 < 65536 → Ret C_Machine m H p.1 0 (.int (p.2 : Nat)) Q
        | none => Fall C_Machine m C_OddPlace H st 0 E) := k
      cases l1 : Sz15.load st1 p false with
      | none => rw [l1] at k1; exact Fall.at k1 h1 (place_same p1) s1
      | some x => rw [l1] at k1; exact k1 (load_lt h1.wf l1) H1 h1 s1
def sp_even (N : Addr) : Sp := fun vs H Q E => ∃ (u : Nat), vs = [.int (u : Nat)] ∧ (if u / 64 % 8 % 2 = 1 then E (.ref N) none H else Q (.int ((u / 64 % 8 : Nat) : Int)) H)
theorem ok_even_number (T : Tx K mg C_Machine C_CallReader C_NoInstruction C_OddPlace C_UnknownCall) : GFn P w K mg base "even_number" 1 ["w"] (sp_even C_NoInstruction) := by
  obtain ⟨f, fd, F, hmg, b⟩ := T.d_even_number
  refine ⟨⟨f, fd, F.okX (k := 0) sc_q55 (fun vs H Q E h => ?_) (fun cdv A outer s H vs Q E hr h => ?_), hmg, F.kp, b⟩⟩
  · obtain ⟨u, rfl, k⟩ := h
    rfl
  · obtain ⟨u, rfl, k⟩ := h
    refine ⟨_, (pss_cons (ps_set (i := 1) sc_q55.nd rfl (Or.inl v_q55_r) (pe_op op_and (pe_op op_shr (pe_var (i := 0) rfl (Or.inl v_q55_w) nd_w nc_w) pe_int) pe_int))
      (pss_cons (ps_if (pt_truthK (K := K) rfl (pe_op op_and (pe_var (i := 1) rfl (Or.inl v_q55_r) nd_r nc_r) pe_int) (fun _ => rfl)) (pss_one (ps_raise rfl T.x_NoInstruction raise_body g_q55_NoInstruction (pa_cons (pe_fs3 (pe_var (i := 1) rfl (Or.inl v_q55_r) nd_r nc_r)) pa_nil) nd_NoInstruction)) pss_nil)
      (pss_one (ps_ret (pe_var (i := 1) rfl (Or.inl v_q55_r) nd_r nc_r))))), ?_⟩
    walk_at "rd"
    rw [show (6 : Int).toNat = 6 from rfl, sR, show (2 : Nat) ^ 6 = 64 from rfl, bA7, bA1, nz_cast]
    refine rd_iten (fun h => ?_) (fun h => ?_)
    · rw [if_pos (by omega)] at k
      walk_at "rd"
      refine ⟨log_small (by omega), fun s => ?_⟩
      walk_at "rd"
      exact ⟨by show 1 ≤ sizeLine; decide, k⟩
    · rw [if_neg (by omega)] at k
      walk_at "rd"
      exact k
def sp_pair (C : Addr) : Sp := fun vs H Q _ => ∃ (m : Addr) (st : Sz15.St) (y : Int) (r : Nat), vs = [.ref m, .int (r : Nat)] ∧ MSy C H m st y ∧ r < 7 ∧ Q (.int ((st.reg r * 65536 + st.reg (r + 1) : Nat) : Int)) H
theorem or_pair {a b : Nat} (hb : b < 65536) : a * 65536 ||| b = a * 65536 + b := by
  have h := Nat.two_pow_add_eq_or_of_lt (i := 16) (b := b) hb a
  rw [Nat.mul_comm a 65536, show (65536 : Nat) = 2 ^ 16 from rfl, ← h]
theorem ok_take_pair (T : Tx K mg C_Machine C_CallReader C_NoInstruction C_OddPlace C_UnknownCall) : GFn P w K mg base "take_pair" 1 ["machine", "r"] (sp_pair C_Machine) := by
  obtain ⟨f, fd, F, hmg, b⟩ := T.d_take_pair
  refine ⟨⟨f, fd, F.okX (k := 0) sc_q56 (fun vs H Q E h => ?_) (fun cdv A outer s H vs Q E hr h => ?_), hmg, F.kp, b⟩⟩
  · obtain ⟨m, st, y, r, rfl, hms, hr7, k⟩ := h
    rfl
  · obtain ⟨m, st, y, r, rfl, hms, hr7, k⟩ := h
    refine ⟨_, (pss_one (ps_ret (pe_op op_or (pe_op op_shl (pe_ixLK (K := K) rfl (pe_fldK (K := K) rfl (pe_var (i := 0) rfl (Or.inl v_q56_machine) nd_machine nc_machine) rfl) (pe_var (i := 1) rfl (Or.inl v_q56_r) nd_r nc_r) (fun _ _ => rfl)) (pe_globI g_q56_UPPER_BITS T.c_UPPER_BITS nd_UPPER_BITS)) (pe_ixLK (K := K) rfl (pe_fldK (K := K) rfl (pe_var (i := 0) rfl (Or.inl v_q56_machine) nd_machine nc_machine) rfl) (pe_op op_add (pe_var (i := 1) rfl (Or.inl v_q56_r) nd_r nc_r) pe_int) (fun _ _ => rfl))))), ?_⟩
    obtain ⟨dx, S, rs, ms, e1, e2, e3, rel⟩ := hms.ex
    have b0 := rel.wf.reg r
    have b1 := rel.wf.reg (r + 1)
    walk_at "rd"
    refine rd_ixL (SqL.of e2) (rel.get rfl (by omega)) ?_
    walk_at "rd"
    refine rd_ixL (SqL.of e2) (rel.get (k := r + 1) (by omega) (by omega)) ?_
    walk_at "rd"
    rw [show (16 : Int).toNat = 16 from rfl, sL, bO, show (2 : Nat) ^ 16 = 65536 from rfl, or_pair b1]
    exact k
def sp_ppair (C : Addr) : Sp := fun vs H Q _ => ∃ (m : Addr) (st : Sz15.St) (y : Int) (r x : Nat) (v : Int), vs = [.ref m, .int (r : Nat), .int v] ∧ v = (x : Int) ∧ MSy C H m st y ∧ r < 7 ∧ x < 4294967296 ∧ Ret C m H ((st.setReg r (x / 65536)).setReg (r + 1) x) y .non Q
theorem ok_put_pair (T : Tx K mg C_Machine C_CallReader C_NoInstruction C_OddPlace C_UnknownCall) : GFn P w K mg base "put_pair" 1 ["machine", "r", "value"] (sp_ppair C_Machine) := by
  obtain ⟨f, fd, F, hmg, b⟩ := T.d_put_pair
  refine ⟨⟨f, fd, F.okX (k := 0) sc_q57 (fun vs H Q E h => ?_) (fun cdv A outer s H vs Q E hr h => ?_), hmg, F.kp, b⟩⟩
  · obtain ⟨m, st, y, r, x, v, rfl, hv, hms, hr7, hx, k⟩ := h
    rfl
  · obtain ⟨m, st, y, r, x, v, rfl, hv, hms, hr7, hx, k⟩ := h
    refine ⟨_, (pss_cons (ps_asg (pe_op op_shr (pe_var (i := 2) rfl (Or.inl v_q57_value) nd_value nc_value) (pe_globI g_q57_UPPER_BITS T.c_UPPER_BITS nd_UPPER_BITS)) (pg_sub (pe_fldK (K := K) rfl (pe_var (i := 0) rfl (Or.inl v_q57_machine) nd_machine nc_machine) rfl) (pe_var (i := 1) rfl (Or.inl v_q57_r) nd_r nc_r) set_list))
      (pss_one (ps_asg (pe_op op_mod (pe_var (i := 2) rfl (Or.inl v_q57_value) nd_value nc_value) (pe_globI g_q57_WORD_RANGE T.c_WORD_RANGE nd_WORD_RANGE)) (pg_sub (pe_fldK (K := K) rfl (pe_var (i := 0) rfl (Or.inl v_q57_machine) nd_machine nc_machine) rfl) (pe_op op_add (pe_var (i := 1) rfl (Or.inl v_q57_r) nd_r nc_r) pe_int) set_list)))), ?_⟩
    subst hv
    obtain ⟨dx, S, rs, ms, e1, e2, e3, rel⟩ := hms.ex
    walk_at "rd"
    refine rd_setL e2 (rel.ixR rfl (by omega)) ?_
    have q := set_reg (C := C_Machine) e1 e2 e3 rel (k := r) (v := (x : Int) / 2 ^ (16 : Int).toNat) (x / 65536) (by rw [show (16 : Int).toNat = 16 from rfl, sR]; omega)
    obtain ⟨dx2, S2, rs2, ms2, z1, z2, z3, rel2⟩ := q.1.ex
    walk_at "rd"
    refine rd_setL z2 (rel2.ixR (k := r + 1) (by omega) (by omega)) ?_
    have q2 := set_reg (C := C_Machine) z1 z2 z3 rel2 (k := r + 1) (v := (x : Int) % 65536) x (by omega)
    exact k _ q2.1 (q.2.trans q2.2)
theorem or1 {k : Nat} (h : k < 8) (e : k % 2 = 0) : k ||| 1 = k + 1 := by
  have : k = 0 ∨ k = 2 ∨ k = 4 ∨ k = 6 := by omega
  rcases this with rfl | rfl | rfl | rfl <;> rfl
theorem mul_flags {p : Int} (h1 : -1073741824 ≤ p) (h2 : p ≤ 1073741824) {n : Nat} (hn : (n : Int) = p % 4294967296) :
    ((((n &&& 2147483648 : Nat) : Int) != 0) = decide (p < 0)) ∧ (decide (n = 0) = decide (p = 0)) := by
  constructor
  · rw [show (2147483648 : Nat) = 2 ^ 31 from rfl, nz_pow, bit_high (by show n < 4294967296; omega)]
    exact decide_eq_decide.mpr (by show 2147483648 ≤ n ↔ _; omega)
  · exact decide_eq_decide.mpr (by omega)
theorem mul_range (a b : Nat) : -1073741824 ≤ Sz15.signed 65536 a * Sz15.signed 65536 b ∧ Sz15.signed 65536 a * Sz15.signed 65536 b ≤ 1073741824 := by
  have h1 := signed_wr a
  have h2 := signed_wr b
  generalize Sz15.signed 65536 a = x at *
  generalize Sz15.signed 65536 b = y at *
  have q : x.natAbs * y.natAbs ≤ 32768 * 32768 := Nat.mul_le_mul (by omega) (by omega)
  rw [← Int.natAbs_mul] at q
  omega
def c_mul (u : Nat) : Prop := u / 512 = 56
theorem ok_multiply (T : Tx K mg C_Machine C_CallReader C_NoInstruction C_OddPlace C_UnknownCall) : GFn P w K mg base "multiply" 6 ["machine", "w"] (sp_ins C_Machine C_OddPlace C_NoInstruction c_mul) := by
  obtain ⟨f, fd, F, hmg, b⟩ := T.d_multiply
  refine ⟨⟨f, fd, F.okX (k := 5) sc_q59 (fun vs H Q E h => ?_) (fun cdv A outer s H vs Q E hr h => ?_), hmg, F.kp, b⟩⟩
  · obtain ⟨m, st, u, rfl, hms, hu, hc, k⟩ := h
    rfl
  · obtain ⟨m, st, u, rfl, hms, hu, hc, k⟩ := h
    have G_signed := ok_signed (P := P) (w := w) (base := base) T
    have G_Machine_set_flags := ok_Machine_set_flags (P := P) (w := w) (base := base) T
    have G_take_source := ok_take_source (P := P) (w := w) (base := base) T
    have G_put_pair := ok_put_pair (P := P) (w := w) (base := base) T
    have G_is_within_word := ok_is_within_word (P := P) (w := w) (base := base) T
    refine ⟨_, (pss_cons (ps_set (i := 2) sc_q59.nd rfl (Or.inl v_q59_s) (pe_callE G_signed (hr.mono (by decide)) g_q59_signed pass_body (pa_cons (pe_callE G_take_source (hr.mono (by decide)) g_q59_take_source pass_body (pa_cons (pe_var (i := 0) rfl (Or.inl v_q59_machine) nd_machine nc_machine) (pa_cons (pe_var (i := 1) rfl (Or.inl v_q59_w) nd_w nc_w) pa_nil)) nd_take_source) (pa_cons (pe_globI g_q59_WORD_TOP T.c_WORD_TOP nd_WORD_TOP) pa_nil)) nd_signed))
      (pss_cons (ps_set (i := 3) sc_q59.nd rfl (Or.inl v_q59_r) (pe_op op_and (pe_op op_shr (pe_var (i := 1) rfl (Or.inl v_q59_w) nd_w nc_w) pe_int) pe_int))
      (pss_cons (ps_set (i := 4) sc_q59.nd rfl (Or.inl v_q59_product) (pe_op op_mul (pe_callE G_signed (hr.mono (by decide)) g_q59_signed pass_body (pa_cons (pe_ixLK (K := K) rfl (pe_fldK (K := K) rfl (pe_var (i := 0) rfl (Or.inl v_q59_machine) nd_machine nc_machine) rfl) (pe_var (i := 3) rfl (Or.inl v_q59_r) nd_r nc_r) (fun _ _ => rfl)) (pa_cons (pe_globI g_q59_WORD_TOP T.c_WORD_TOP nd_WORD_TOP) pa_nil)) nd_signed) (pe_var (i := 2) rfl (Or.inl v_q59_s) nd_s nc_s)))
      (pss_cons (ps_set (i := 5) sc_q59.nd rfl (Or.inl v_q59_pair) (pe_op op_mod (pe_var (i := 4) rfl (Or.inl v_q59_product) nd_product nc_product) (pe_globI g_q59_PAIR_RANGE T.c_PAIR_RANGE nd_PAIR_RANGE)))
      (pss_cons (ps_if (pt_truthK (K := K) rfl (pe_op op_and (pe_var (i := 3) rfl (Or.inl v_q59_r) nd_r nc_r) pe_int) (fun _ => rfl)) (pss_one (ps_asg (pe_op op_mod (pe_var (i := 5) rfl (Or.inl v_q59_pair) nd_pair nc_pair) (pe_globI g_q59_WORD_RANGE T.c_WORD_RANGE nd_WORD_RANGE)) (pg_sub (pe_fldK (K := K) rfl (pe_var (i := 0) rfl (Or.inl v_q59_machine) nd_machine nc_machine) rfl) (pe_var (i := 3) rfl (Or.inl v_q59_r) nd_r nc_r) set_list))) (pss_one (ps_expr (pe_callE G_put_pair (hr.mono (by decide)) g_q59_put_pair pass_body (pa_cons (pe_var (i := 0) rfl (Or.inl v_q59_machine) nd_machine nc_machine) (pa_cons (pe_var (i := 3) rfl (Or.inl v_q59_r) nd_r nc_r) (pa_cons (pe_var (i := 5) rfl (Or.inl v_q59_pair) nd_pair nc_pair) pa_nil))) nd_put_pair))))
      (pss_one (ps_expr (pe_methE G_Machine_set_flags (hr.mono (by decide)) pass_body (pe_var (i := 0) rfl (Or.inl v_q59_machine) nd_machine nc_machine) (pa_cons (pe_var (i := 5) rfl (Or.inl v_q59_pair) nd_pair nc_pair) (pa_cons (pe_globI g_q59_PAIR_TOP T.c_PAIR_TOP nd_PAIR_TOP) (pa_cons pe_int (pa_cons (pe_ifExp (pt_val (pe_callE G_is_within_word (hr.mono (by decide)) g_q59_is_within_word pass_body (pa_cons (pe_var (i := 4) rfl (Or.inl v_q59_product) nd_product nc_product) pa_nil) nd_is_within_word)) pe_int pe_int) pa_nil)))))))))))), ?_⟩
    rw [ex_ext (op := 0) (by decide) hc, if_neg (by simp), src_bind] at k
    walk_at "rd"
    refine ⟨m, st, u, rfl, hms, ?_⟩
    cases e : src st u with
    | none => rw [e] at k; exact k
    | some p0 =>
      obtain ⟨st1, x⟩ := p0
      rw [e] at k
      intro hx H1 h1 s1
      dsimp only at h1
      have hx' : x < 65536 := hx
      obtain ⟨dx2, S2, rs2, ms2, z1, z2, z3, rel2⟩ := h1.ex
      walk_at "rd"
      refine ⟨x, 15, _, _, rfl, rfl, rfl, hx', ?_⟩
      walk_at "rd"
      rw [show (6 : Int).toNat = 6 from rfl, sR, show (2 : Nat) ^ 6 = 64 from rfl, bA7]
      have hk8 : u / 64 % 8 < 8 := Nat.mod_lt _ (by decide)
      have k0 : OutI C_Machine C_OddPlace C_NoInstruction m H st (Sz15.came (Sz15.extended st1 0 (u / 64 % 8) x)) Q E := k
      generalize u / 64 % 8 = kk at *
      have hreg := rel2.wf.reg kk
      refine rd_ixL (SqL.of z2) (rel2.get rfl hk8) ?_
      walk_at "rd"
      refine ⟨st1.reg kk, 15, _, _, rfl, rfl, rfl, hreg, ?_⟩
      have r1 := signed_wr x
      have r2 := signed_wr (st1.reg kk)
      rw [show 2 ^ 15 * 2 = 65536 from rfl]
      walk_at "rd"
      have rg := mul_range (st1.reg kk) x
      generalize hpp : Sz15.signed 65536 (st1.reg kk) * Sz15.signed 65536 x = pp at *
      obtain ⟨n, hn⟩ : ∃ n : Nat, (n : Int) = pp % 4294967296 := ⟨(pp % 4294967296).toNat, by omega⟩
      have hnl : n < 4294967296 := by omega
      have hun : ((Sz15.signed 65536 x * Sz15.signed 65536 (st1.reg kk)).emod (2 ^ 32)).toNat = n := by
        rw [Int.mul_comm, hpp]
        show (pp % 4294967296).toNat = n
        omega
      obtain ⟨f1, f2⟩ := mul_flags rg.1 rg.2 hn
      rw [← hn, bA1, nz_cast]
      have hcf : (!decide (-32768 ≤ pp ∧ pp < 32768)) = (decide (pp < -(2 ^ 15)) || decide (2 ^ 15 ≤ pp)) := by
        rw [← decide_not, ← Bool.decide_or]
        exact decide_eq_decide.mpr (by omega)
      refine rd_iten (fun h => ?_) (fun h => ?_)
      · walk_at "rd"
        refine rd_setL z2 (rel2.ixR rfl hk8) ?_
        have q := set_reg (C := C_Machine) z1 z2 z3 rel2 (k := kk) (v := (n : Int) % 65536) n (by omega)
        obtain ⟨dx3, S3, rs3, ms3, y1, y2, y3, rel3⟩ := q.1.ex
        walk_at "rd"
        refine ⟨pp, rfl, ?_⟩
        walk_at "rd"
        refine ⟨m, _, 0, n, 2147483648, false, _, rfl, q.1, ?_⟩
        rw [f1, f2, hcf]
        intro H5 h5 s5
        walk_at "rd"
        have k1 : Ret C_Machine m H { (if kk % 2 = 0 then (st1.setReg kk (((Sz15.signed 65536 x * Sz15.signed 65536 (st1.reg kk)).emod (2 ^ 32)).toNat / 65536)).setReg (kk ||| 1) ((Sz15.signed 65536 x * Sz15.signed 65536 (st1.reg kk)).emod (2 ^ 32)).toNat else st1.setReg kk ((Sz15.signed 65536 x * Sz15.signed 65536 (st1.reg kk)).emod (2 ^ 32)).toNat) with n := decide (Sz15.signed 65536 x * Sz15.signed 65536 (st1.reg kk) < 0), z := decide (Sz15.signed 65536 x * Sz15.signed 65536 (st1.reg kk) = 0), v := false, c := decide (Sz15.signed 65536 x * Sz15.signed 65536 (st1.reg kk) < -(2 ^ 15)) || decide (2 ^ 15 ≤ Sz15.signed 65536 x * Sz15.signed 65536 (st1.reg kk)) } 0 .non Q := k0
        rw [if_neg (by omega), hun, Int.mul_comm, hpp] at k1
        exact k1 H5 h5 (s1.trans (q.2.trans s5))
      · walk_at "rd"
        refine ⟨m, st1, 0, kk, n, _, rfl, rfl, h1, by omega, hnl, ?_⟩
        intro H4 h4 s4
        obtain ⟨dx3, S3, rs3, ms3, y1, y2, y3, rel3⟩ := h4.ex
        walk_at "rd"
        refine ⟨pp, rfl, ?_⟩
        walk_at "rd"
        refine ⟨m, _, 0, n, 2147483648, false, _, rfl, h4, ?_⟩
        rw [f1, f2, hcf]
        intro H5 h5 s5
        walk_at "rd"
        have k1 : Ret C_Machine m H { (if kk % 2 = 0 then (st1.setReg kk (((Sz15.signed 65536 x * Sz15.signed 65536 (st1.reg kk)).emod (2 ^ 32)).toNat / 65536)).setReg (kk ||| 1) ((Sz15.signed 65536 x * Sz15.signed 65536 (st1.reg kk)).emod (2 ^ 32)).toNat else st1.setReg kk ((Sz15.signed 65536 x * Sz15.signed 65536 (st1.reg kk)).emod (2 ^ 32)).toNat) with n := decide (Sz15.signed 65536 x * Sz15.signed 65536 (st1.reg kk) < 0), z := decide (Sz15.signed 65536 x * Sz15.signed 65536 (st1.reg kk) = 0), v := false, c := decide (Sz15.signed 65536 x * Sz15.signed 65536 (st1.reg kk) < -(2 ^ 15)) || decide (2 ^ 15 ≤ Sz15.signed 65536 x * Sz15.signed 65536 (st1.reg kk)) } 0 .non Q := k0
        rw [if_pos (by omega), hun, or1 hk8 (by omega), Int.mul_comm, hpp] at k1
        exact k1 H5 h5 (s1.trans (s4.trans s5))
theorem Rel.setVC {S : FMachine} {rs ms : List V} {st : Sz15.St} {y : Int} (h : Rel S rs ms st y) (v c : Bool) : Rel { S with overflow := ((v.toNat : Nat) : Int), carry := ((c.toNat : Nat) : Int) } rs ms { st with v := v, c := c } y :=
  ⟨h.rs, h.rlen, h.rlt, h.mlen, h.mget, h.mlt, h.pr, h.prlt, h.n, h.z, rfl, rfl, h.why⟩
theorem set_vc {C m dx : Addr} {H : Hp} {S : FMachine} {rs ms : List V} {st : Sz15.St} {y : Int} (e1 : H m = some (.ins C dx (mf_Machine S))) (e2 : H S.registers = some (.lst rs)) (e3 : H S.memory = some (.lst ms)) (rel : Rel S rs ms st y) (v c : Bool) :
    MSy C (upd H m (.ins C dx (mf_Machine { S with overflow := ((v.toNat : Nat) : Int), carry := ((c.toNat : Nat) : Int) }))) m { st with v := v, c := c } y ∧ Stp C m H (upd H m (.ins C dx (mf_Machine { S with overflow := ((v.toNat : Nat) : Int), carry := ((c.toNat : Nat) : Int) }))) :=
  MSy.putFs e1 e2 e3 (S' := { S with overflow := ((v.toNat : Nat) : Int), carry := ((c.toNat : Nat) : Int) }) rfl rfl (rel.setVC v c)
def c_div (u : Nat) : Prop := u / 512 = 57
theorem ok_divide (T : Tx K mg C_Machine C_CallReader C_NoInstruction C_OddPlace C_UnknownCall) : GFn P w K mg base "divide" 6 ["machine", "w"] (sp_ins C_Machine C_OddPlace C_NoInstruction c_div) := by
  obtain ⟨f, fd, F, hmg, b⟩ := T.d_divide
  refine ⟨⟨f, fd, F.okX (k := 5) sc_q60 (fun vs H Q E h => ?_) (fun cdv A outer s H vs Q E hr h => ?_), hmg, F.kp, b⟩⟩
  · obtain ⟨m, st, u, rfl, hms, hu, hc, k⟩ := h
    rfl
  · obtain ⟨m, st, u, rfl, hms, hu, hc, k⟩ := h
    have G_even_number := ok_even_number (P := P) (w := w) (base := base) T
    have G_signed := ok_signed (P := P) (w := w) (base := base) T
    have G_divided := ok_divided (P := P) (w := w) (base := base) T
    have G_Machine_set_flags := ok_Machine_set_flags (P := P) (w := w) (base := base) T
    have G_take_source := ok_take_source (P := P) (w := w) (base := base) T
    have G_is_within_word := ok_is_within_word (P := P) (w := w) (base := base) T
    have G_take_pair := ok_take_pair (P := P) (w := w) (base := base) T
    refine ⟨_, (pss_cons (ps_set (i := 2) sc_q60.nd rfl (Or.inl v_q60_r) (pe_callE G_even_number (hr.mono (by decide)) g_q60_even_number pass_body (pa_cons (pe_var (i := 1) rfl (Or.inl v_q60_w) nd_w nc_w) pa_nil) nd_even_number))
      (pss_cons (ps_set (i := 3) sc_q60.nd rfl (Or.inl v_q60_s) (pe_callE G_signed (hr.mono (by decide)) g_q60_signed pass_body (pa_cons (pe_callE G_take_source (hr.mono (by decide)) g_q60_take_source pass_body (pa_cons (pe_var (i := 0) rfl (Or.inl v_q60_machine) nd_machine nc_machine) (pa_cons (pe_var (i := 1) rfl (Or.inl v_q60_w) nd_w nc_w) pa_nil)) nd_take_source) (pa_cons (pe_globI g_q60_WORD_TOP T.c_WORD_TOP nd_WORD_TOP) pa_nil)) nd_signed))
      (pss_cons (ps_if (pt_cmpR op_eq (pe_var (i := 3) rfl (Or.inl v_q60_s) nd_s nc_s) pe_int (nomark _)) (pss_cons (ps_fldK (K := K) rfl (pe_var (i := 0) rfl (Or.inl v_q60_machine) nd_machine nc_machine) pe_int rfl)
      (pss_cons (ps_fldK (K := K) rfl (pe_var (i := 0) rfl (Or.inl v_q60_machine) nd_machine nc_machine) pe_int rfl)
      (pss_one ps_retN))) pss_nil)
      (pss_cons (ps_set (i := 4) sc_q60.nd rfl (Or.inl v_q60_parts) (pe_callE G_divided (hr.mono (by decide)) g_q60_divided pass_body (pa_cons (pe_callE G_signed (hr.mono (by decide)) g_q60_signed pass_body (pa_cons (pe_callE G_take_pair (hr.mono (by decide)) g_q60_take_pair pass_body (pa_cons (pe_var (i := 0) rfl (Or.inl v_q60_machine) nd_machine nc_machine) (pa_cons (pe_var (i := 2) rfl (Or.inl v_q60_r) nd_r nc_r) pa_nil)) nd_take_pair) (pa_cons (pe_globI g_q60_PAIR_TOP T.c_PAIR_TOP nd_PAIR_TOP) pa_nil)) nd_signed) (pa_cons (pe_var (i := 3) rfl (Or.inl v_q60_s) nd_s nc_s) pa_nil)) nd_divided))
      (pss_cons (ps_if (pt_not (pt_val (pe_callE G_is_within_word (hr.mono (by decide)) g_q60_is_within_word pass_body (pa_cons (pe_ixTK (K := K) rfl (pe_var (i := 4) rfl (Or.inl v_q60_parts) nd_parts nc_parts) pe_int (fun _ _ => rfl)) pa_nil) nd_is_within_word))) (pss_cons (ps_fldK (K := K) rfl (pe_var (i := 0) rfl (Or.inl v_q60_machine) nd_machine nc_machine) pe_int rfl)
      (pss_cons (ps_fldK (K := K) rfl (pe_var (i := 0) rfl (Or.inl v_q60_machine) nd_machine nc_machine) pe_int rfl)
      (pss_one ps_retN))) pss_nil)
      (pss_cons (ps_set (i := 5) sc_q60.nd rfl (Or.inl v_q60_quotient) (pe_op op_mod (pe_ixTK (K := K) rfl (pe_var (i := 4) rfl (Or.inl v_q60_parts) nd_parts nc_parts) pe_int (fun _ _ => rfl)) (pe_globI g_q60_WORD_RANGE T.c_WORD_RANGE nd_WORD_RANGE)))
      (pss_cons (ps_asg (pe_var (i := 5) rfl (Or.inl v_q60_quotient) nd_quotient nc_quotient) (pg_sub (pe_fldK (K := K) rfl (pe_var (i := 0) rfl (Or.inl v_q60_machine) nd_machine nc_machine) rfl) (pe_var (i := 2) rfl (Or.inl v_q60_r) nd_r nc_r) set_list))
      (pss_cons (ps_asg (pe_op op_mod (pe_ixTK (K := K) rfl (pe_var (i := 4) rfl (Or.inl v_q60_parts) nd_parts nc_parts) pe_int (fun _ _ => rfl)) (pe_globI g_q60_WORD_RANGE T.c_WORD_RANGE nd_WORD_RANGE)) (pg_sub (pe_fldK (K := K) rfl (pe_var (i := 0) rfl (Or.inl v_q60_machine) nd_machine nc_machine) rfl) (pe_op op_add (pe_var (i := 2) rfl (Or.inl v_q60_r) nd_r nc_r) pe_int) set_list))
      (pss_one (ps_expr (pe_methE G_Machine_set_flags (hr.mono (by decide)) pass_body (pe_var (i := 0) rfl (Or.inl v_q60_machine) nd_machine nc_machine) (pa_cons (pe_var (i := 5) rfl (Or.inl v_q60_quotient) nd_quotient nc_quotient) (pa_cons (pe_globI g_q60_WORD_TOP T.c_WORD_TOP nd_WORD_TOP) (pa_cons pe_int (pa_cons pe_int pa_nil))))))))))))))), ?_⟩
    rw [ex_ext (op := 1) (by decide) hc, src_bind] at k
    walk_at "rd"
    refine ⟨u, rfl, ?_⟩
    have hk8 : u / 64 % 8 < 8 := Nat.mod_lt _ (by decide)
    generalize u / 64 % 8 = kk at *
    by_cases hodd : kk % 2 = 1
    · rw [if_pos hodd]
      rw [if_pos ⟨.inl rfl, hodd⟩] at k
      exact Fall.at k hms .refl .refl
    · rw [if_neg hodd]
      rw [if_neg (fun z => hodd z.2)] at k
      walk_at "rd"
      refine ⟨m, st, u, rfl, hms, ?_⟩
      cases e : src st u with
      | none => rw [e] at k; exact k
      | some p0 =>
        obtain ⟨st1, x⟩ := p0
        rw [e] at k
        intro hx H1 h1 s1
        dsimp only at h1
        have hx' : x < 65536 := hx
        obtain ⟨dx2, S2, rs2, ms2, z1, z2, z3, rel2⟩ := h1.ex
        walk_at "rd"
        refine ⟨x, 15, _, _, rfl, rfl, rfl, hx', ?_⟩
        rw [show 2 ^ 15 * 2 = 65536 from rfl]
        have rb := signed_wr x
        have ho1 := or1 hk8 (by omega)
        have k0 : OutI C_Machine C_OddPlace C_NoInstruction m H st (Sz15.came (
          let a := Sz15.signed (2 ^ 32) (st1.reg kk * 65536 + st1.reg (kk ||| 1))
          let b := Sz15.signed 65536 x
          if kk % 2 = 1 then none else
          if b = 0 then some { st1 with v := true, c := true }
          else
            let q := a.tdiv b
            if q < -(2 ^ 15) ∨ 2 ^ 15 ≤ q then some { st1 with v := true, c := false }
            else some { (st1.setReg kk (q.emod 65536).toNat).setReg (kk ||| 1) ((a.tmod b).emod 65536).toNat with n := decide (q < 0), z := decide (q = 0), v := false, c := false })) Q E := k
        dsimp only at k0
        rw [if_neg hodd, ho1, show (2 : Nat) ^ 32 = 4294967296 from rfl] at k0
        generalize Sz15.signed 65536 x = b_ at *
        walk_at "rd"
        refine rd_ite (fun hb0 => ?_) (fun hb0 => ?_)
        · rw [if_pos hb0] at k0
          have q := set_vc (C := C_Machine) z1 z2 z3 rel2 true true
          walk_at "rd"
          rw [pt_Machine_overflow]
          walk_at "rd"
          rw [upd_upd, pt_Machine_carry]
          exact k0 _ q.1 (s1.trans q.2)
        · rw [if_neg hb0] at k0
          walk_at "rd"
          refine ⟨m, st1, 0, kk, rfl, h1, by omega, ?_⟩
          have hr0 := rel2.wf.reg kk
          have hr1 := rel2.wf.reg (kk + 1)
          walk_at "rd"
          refine ⟨st1.reg kk * 65536 + st1.reg (kk + 1), 31, _, _, rfl, rfl, rfl, by show _ < 4294967296; omega, ?_⟩
          rw [show 2 ^ 31 * 2 = 4294967296 from rfl]
          generalize Sz15.signed 4294967296 (st1.reg kk * 65536 + st1.reg (kk + 1)) = a_ at *
          walk_at "rd"
          refine ⟨a_, b_, rfl, hb0, by omega, by omega, fun t0 ht0 => ?_⟩
          have h3 := h1.new (o := .tup [.int (a_.tdiv b_), .int (a_.tmod b_)]) ht0
          have s3 := s1.trans (.new (o := .tup [.int (a_.tdiv b_), .int (a_.tmod b_)]) ht0 h1.there)
          have nt : ¬ fpM C_Machine (upd H1 t0 (.tup [.int (a_.tdiv b_), .int (a_.tmod b_)])) m t0 := nfp_new2 h1 ht0
          have t3 : upd H1 t0 (.tup [.int (a_.tdiv b_), .int (a_.tmod b_)]) t0 = some (.tup [.int (a_.tdiv b_), .int (a_.tmod b_)]) := upd_same
          generalize upd H1 t0 (.tup [.int (a_.tdiv b_), .int (a_.tmod b_)]) = H3 at *
          generalize a_.tdiv b_ = q_ at *
          generalize a_.tmod b_ = m_ at *
          obtain ⟨dx3, S3, rs3, ms3, y1, y2, y3, rel3⟩ := h3.ex
          walk_at "rd"
          refine rd_ixT (SqT.of t3) (v := .int q_) (by kernel_rfl) ?_
          walk_at "rd"
          refine ⟨q_, rfl, ?_⟩
          walk_at "rd"
          refine rd_iten (fun hw => ?_) (fun hw => ?_)
          · rw [if_pos (show q_ < -(2 ^ 15) ∨ 2 ^ 15 ≤ q_ by omega)] at k0
            have q := set_vc (C := C_Machine) y1 y2 y3 rel3 true false
            walk_at "rd"
            rw [pt_Machine_overflow]
            walk_at "rd"
            rw [upd_upd, pt_Machine_carry]
            exact k0 _ q.1 (s3.trans q.2)
          · rw [if_neg (show ¬ (q_ < -(2 ^ 15) ∨ 2 ^ 15 ≤ q_) by omega)] at k0
            walk_at "rd"
            refine rd_ixT (SqT.of t3) (v := .int q_) (by kernel_rfl) ?_
            obtain ⟨n, hn⟩ : ∃ n : Nat, (n : Int) = q_ % 65536 := ⟨(q_ % 65536).toNat, by omega⟩
            obtain ⟨n2, hn2⟩ : ∃ n : Nat, (n : Int) = m_ % 65536 := ⟨(m_ % 65536).toNat, by omega⟩
            walk_at "rd"
            rw [← hn]
            refine rd_setL y2 (rel3.ixR rfl hk8) ?_
            have qa := set_reg (C := C_Machine) y1 y2 y3 rel3 (k := kk) (v := (n : Int)) n (by omega)
            have t4 := qa.2.keep t0 _ t3 nt
            obtain ⟨dx4, S4, rs4, ms4, x1, x2, x3, rel4⟩ := qa.1.ex
            walk_at "rd"
            refine rd_ixT (SqT.of t4) (v := .int m_) (by kernel_rfl) ?_
            walk_at "rd"
            rw [← hn2]
            refine rd_setL x2 (rel4.ixR (k := kk + 1) (by omega) (by omega)) ?_
            have qb := set_reg (C := C_Machine) x1 x2 x3 rel4 (k := kk + 1) (v := (n2 : Int)) n2 (by omega)
            obtain ⟨dx5, S5, rs5, ms5, w1, w2, w3, rel5⟩ := qb.1.ex
            walk_at "rd"
            refine ⟨m, _, 0, n, 32768, false, false, rfl, qb.1, ?_⟩
            have f1 : (((n &&& 32768 : Nat) : Int) != 0) = decide (q_ < 0) := by
              rw [show (32768 : Nat) = 2 ^ 15 from rfl, nz_pow, bit_high (by show n < 65536; omega)]
              exact decide_eq_decide.mpr (by show 32768 ≤ n ↔ _; omega)
            have f2 : decide (n = 0) = decide (q_ = 0) := decide_eq_decide.mpr (by omega)
            rw [f1, f2]
            intro H5 h5 s5
            walk_at "rd"
            rw [show (q_.emod 65536).toNat = n by show (q_ % 65536).toNat = n; omega, show (m_.emod 65536).toNat = n2 by show (m_ % 65536).toNat = n2; omega] at k0
            exact k0 H5 h5 (s3.trans (qa.2.trans (qb.2.trans s5)))
def sp_shift (C O : Addr) : Sp := fun vs H Q E => ∃ (m : Addr) (st : Sz15.St) (u : Nat), vs = [.ref m, .int (u : Nat)] ∧ MSy C H m st 0 ∧ (match src st u with
  | some p => Ret C m H p.1 0 (.int (byI (p.2 % 64))) Q
  | none => Fall C m O H st 0 E)
theorem ok_take_shift (T : Tx K mg C_Machine C_CallReader C_NoInstruction C_OddPlace C_UnknownCall) : GFn P w K mg base "take_shift" 6 ["machine", "w"] (sp_shift C_Machine C_OddPlace) := by
  obtain ⟨f, fd, F, hmg, b⟩ := T.d_take_shift
  refine ⟨⟨f, fd, F.okX (k := 5) sc_q61 (fun vs H Q E h => ?_) (fun cdv A outer s H vs Q E hr h => ?_), hmg, F.kp, b⟩⟩
  · obtain ⟨m, st, u, rfl, hms, k⟩ := h
    rfl
  · obtain ⟨m, st, u, rfl, hms, k⟩ := h
    have G_take_source := ok_take_source (P := P) (w := w) (base := base) T
    refine ⟨_, (pss_cons (ps_set (i := 2) sc_q61.nd rfl (Or.inl v_q61_bits) (pe_op op_and (pe_callE G_take_source (hr.mono (by decide)) g_q61_take_source pass_body (pa_cons (pe_var (i := 0) rfl (Or.inl v_q61_machine) nd_machine nc_machine) (pa_cons (pe_var (i := 1) rfl (Or.inl v_q61_w) nd_w nc_w) pa_nil)) nd_take_source) pe_int))
      (pss_one (ps_ret (pe_ifExp (pt_truthK (K := K) rfl (pe_op op_and (pe_var (i := 2) rfl (Or.inl v_q61_bits) nd_bits nc_bits) pe_int) (fun _ => rfl)) (pe_op op_sub (pe_var (i := 2) rfl (Or.inl v_q61_bits) nd_bits nc_bits) pe_int) (pe_var (i := 2) rfl (Or.inl v_q61_bits) nd_bits nc_bits))))), ?_⟩
    walk_at "rd"
    refine ⟨m, st, u, rfl, hms, ?_⟩
    cases e : src st u with
    | none => rw [e] at k; exact k
    | some p0 =>
      obtain ⟨st1, x⟩ := p0
      rw [e] at k
      intro hx H1 h1 s1
      walk_at "rd"
      rw [bA63, show (32 : Int) = ((2 ^ 5 : Nat) : Int) from rfl, bA, nz_pow, bit_high (by show x % 64 < 64; omega), show (2 : Nat) ^ 5 = 32 from rfl]
      have k1 : Ret C_Machine m H st1 0 (.int (byI (x % 64))) Q := k
      unfold byI at k1
      refine rd_ite (fun h => ?_) (fun h => ?_)
      · rw [if_neg (by omega)] at k1
        walk_at "rd"
        exact k1 H1 h1 s1
      · rw [if_pos (by omega)] at k1
        walk_at "rd"
        exact k1 H1 h1 s1
def c_ash (u : Nat) : Prop := u / 512 = 58
theorem ok_shift_word (T : Tx K mg C_Machine C_CallReader C_NoInstruction C_OddPlace C_UnknownCall) : GFn P w K mg base "shift_word" 7 ["machine", "w"] (sp_ins C_Machine C_OddPlace C_NoInstruction c_ash) := by
  obtain ⟨f, fd, F, hmg, b⟩ := T.d_shift_word
  refine ⟨⟨f, fd, F.okX (k := 6) sc_q62 (fun vs H Q E h => ?_) (fun cdv A outer s H vs Q E hr h => ?_), hmg, F.kp, b⟩⟩
  · obtain ⟨m, st, u, rfl, hms, hu, hc, k⟩ := h
    rfl
  · obtain ⟨m, st, u, rfl, hms, hu, hc, k⟩ := h
    have G_take_shift := ok_take_shift (P := P) (w := w) (base := base) T
    have G_moved := ok_moved (P := P) (w := w) (base := base) T
    have G_Machine_set_flags := ok_Machine_set_flags (P := P) (w := w) (base := base) T
    refine ⟨_, (pss_cons (ps_set (i := 2) sc_q62.nd rfl (Or.inl v_q62_by) (pe_callE G_take_shift (hr.mono (by decide)) g_q62_take_shift pass_body (pa_cons (pe_var (i := 0) rfl (Or.inl v_q62_machine) nd_machine nc_machine) (pa_cons (pe_var (i := 1) rfl (Or.inl v_q62_w) nd_w nc_w) pa_nil)) nd_take_shift))
      (pss_cons (ps_set (i := 3) sc_q62.nd rfl (Or.inl v_q62_r) (pe_op op_and (pe_op op_shr (pe_var (i := 1) rfl (Or.inl v_q62_w) nd_w nc_w) pe_int) pe_int))
      (pss_cons (ps_set (i := 4) sc_q62.nd rfl (Or.inl v_q62_outcome) (pe_callE G_moved (hr.mono (by decide)) g_q62_moved pass_body (pa_cons (pe_ixLK (K := K) rfl (pe_fldK (K := K) rfl (pe_var (i := 0) rfl (Or.inl v_q62_machine) nd_machine nc_machine) rfl) (pe_var (i := 3) rfl (Or.inl v_q62_r) nd_r nc_r) (fun _ _ => rfl)) (pa_cons (pe_var (i := 2) rfl (Or.inl v_q62_by) nd_by nc_by) (pa_cons (pe_globI g_q62_WORD_TOP T.c_WORD_TOP nd_WORD_TOP) pa_nil))) nd_moved))
      (pss_cons (ps_asg (pe_ixTK (K := K) rfl (pe_var (i := 4) rfl (Or.inl v_q62_outcome) nd_outcome nc_outcome) pe_int (fun _ _ => rfl)) (pg_sub (pe_fldK (K := K) rfl (pe_var (i := 0) rfl (Or.inl v_q62_machine) nd_machine nc_machine) rfl) (pe_var (i := 3) rfl (Or.inl v_q62_r) nd_r nc_r) set_list))
      (pss_one (ps_expr (pe_methE G_Machine_set_flags (hr.mono (by decide)) pass_body (pe_var (i := 0) rfl (Or.inl v_q62_machine) nd_machine nc_machine) (pa_cons (pe_ixTK (K := K) rfl (pe_var (i := 4) rfl (Or.inl v_q62_outcome) nd_outcome nc_outcome) pe_int (fun _ _ => rfl)) (pa_cons (pe_globI g_q62_WORD_TOP T.c_WORD_TOP nd_WORD_TOP) (pa_cons (pe_ixTK (K := K) rfl (pe_var (i := 4) rfl (Or.inl v_q62_outcome) nd_outcome nc_outcome) pe_int (fun _ _ => rfl)) (pa_cons (pe_ixTK (K := K) rfl (pe_var (i := 4) rfl (Or.inl v_q62_outcome) nd_outcome nc_outcome) pe_int (fun _ _ => rfl)) pa_nil))))))))))), ?_⟩
    rw [ex_ext (op := 2) (by decide) hc, if_neg (by simp), src_bind] at k
    walk_at "rd"
    refine ⟨m, st, u, rfl, hms, ?_⟩
    cases e : src st u with
    | none => rw [e] at k; exact k
    | some p0 =>
      obtain ⟨st1, x⟩ := p0
      rw [e] at k
      intro H1 h1 s1
      dsimp only at h1
      obtain ⟨dx2, S2, rs2, ms2, z1, z2, z3, rel2⟩ := h1.ex
      have hk8 : u / 64 % 8 < 8 := Nat.mod_lt _ (by decide)
      have k0 : Ret C_Machine m H (flr (st1.setReg (u / 64 % 8) (Sz15.shifted 16 (st1.reg (u / 64 % 8)) (x % 64)).1) false (Sz15.shifted 16 (st1.reg (u / 64 % 8)) (x % 64))) 0 .non Q := k
      walk_at "rd"
      rw [show (6 : Int).toNat = 6 from rfl, sR, show (2 : Nat) ^ 6 = 64 from rfl, bA7]
      generalize u / 64 % 8 = kk at *
      refine rd_ixL (SqL.of z2) (rel2.get rfl hk8) ?_
      walk_at "rd"
      have hsl := shifted_lt 16 (st1.reg kk) (x % 64)
      refine ⟨st1.reg kk, 15, x % 64, _, _, _, rfl, rfl, rfl, rfl, by decide, Nat.mod_lt _ (by decide), rel2.wf.reg kk, fun t0 ht0 => ?_⟩
      rw [show 15 + 1 = 16 from rfl] at *
      generalize Sz15.shifted 16 (st1.reg kk) (x % 64) = r at *
      have h3 := h1.new (o := .tup [.int (r.1 : Nat), .int ((r.2.1.toNat : Nat) : Int), .int ((r.2.2.toNat : Nat) : Int)]) ht0
      have s3 := s1.trans (.new (o := .tup [.int (r.1 : Nat), .int ((r.2.1.toNat : Nat) : Int), .int ((r.2.2.toNat : Nat) : Int)]) ht0 h1.there)
      have nt : ¬ fpM C_Machine (upd H1 t0 (.tup [.int (r.1 : Nat), .int ((r.2.1.toNat : Nat) : Int), .int ((r.2.2.toNat : Nat) : Int)])) m t0 := nfp_new2 h1 ht0
      have t3 : upd H1 t0 (.tup [.int (r.1 : Nat), .int ((r.2.1.toNat : Nat) : Int), .int ((r.2.2.toNat : Nat) : Int)]) t0 = some (.tup [.int (r.1 : Nat), .int ((r.2.1.toNat : Nat) : Int), .int ((r.2.2.toNat : Nat) : Int)]) := upd_same
      generalize upd H1 t0 (.tup [.int (r.1 : Nat), .int ((r.2.1.toNat : Nat) : Int), .int ((r.2.2.toNat : Nat) : Int)]) = H3 at *
      obtain ⟨dx3, S3, rs3, ms3, y1, y2, y3, rel3⟩ := h3.ex
      walk_at "rd"
      refine rd_ixT (SqT.of t3) (v := .int (r.1 : Nat)) (by kernel_rfl) ?_
      walk_at "rd"
      refine rd_setL y2 (rel3.ixR rfl hk8) ?_
      have qa := set_reg (C := C_Machine) y1 y2 y3 rel3 (k := kk) (v := (r.1 : Int)) r.1 (by have : r.1 < 65536 := hsl; omega)
      have t4 := qa.2.keep t0 _ t3 nt
      obtain ⟨dx4, S4, rs4, ms4, x1, x2, x3, rel4⟩ := qa.1.ex
      walk_at "rd"
      refine rd_ixT (SqT.of t4) (v := .int (r.1 : Nat)) (by kernel_rfl) ?_
      walk_at "rd"
      refine rd_ixT (SqT.of t4) (v := .int ((r.2.1.toNat : Nat) : Int)) (by kernel_rfl) ?_
      walk_at "rd"
      refine rd_ixT (SqT.of t4) (v := .int ((r.2.2.toNat : Nat) : Int)) (by kernel_rfl) ?_
      walk_at "rd"
      refine ⟨m, _, 0, r.1, topv false, r.2.1, r.2.2, rfl, qa.1, ?_⟩
      rw [flr_eq (byte := false) hsl]
      intro H5 h5 s5
      walk_at "rd"
      exact k0 H5 h5 (s3.trans (qa.2.trans s5))
def c_ashc (u : Nat) : Prop := u / 512 = 59
theorem ok_shift_pair (T : Tx K mg C_Machine C_CallReader C_NoInstruction C_OddPlace C_UnknownCall) : GFn P w K mg base "shift_pair" 7 ["machine", "w"] (sp_ins C_Machine C_OddPlace C_NoInstruction c_ashc) := by
  obtain ⟨f, fd, F, hmg, b⟩ := T.d_shift_pair
  refine ⟨⟨f, fd, F.okX (k := 6) sc_q63 (fun vs H Q E h => ?_) (fun cdv A outer s H vs Q E hr h => ?_), hmg, F.kp, b⟩⟩
  · obtain ⟨m, st, u, rfl, hms, hu, hc, k⟩ := h
    rfl
  · obtain ⟨m, st, u, rfl, hms, hu, hc, k⟩ := h
    have G_even_number := ok_even_number (P := P) (w := w) (base := base) T
    have G_take_shift := ok_take_shift (P := P) (w := w) (base := base) T
    have G_moved := ok_moved (P := P) (w := w) (base := base) T
    have G_put_pair := ok_put_pair (P := P) (w := w) (base := base) T
    have G_Machine_set_flags := ok_Machine_set_flags (P := P) (w := w) (base := base) T
    have G_take_pair := ok_take_pair (P := P) (w := w) (base := base) T
    refine ⟨_, (pss_cons (ps_set (i := 2) sc_q63.nd rfl (Or.inl v_q63_r) (pe_callE G_even_number (hr.mono (by decide)) g_q63_even_number pass_body (pa_cons (pe_var (i := 1) rfl (Or.inl v_q63_w) nd_w nc_w) pa_nil) nd_even_number))
      (pss_cons (ps_set (i := 3) sc_q63.nd rfl (Or.inl v_q63_by) (pe_callE G_take_shift (hr.mono (by decide)) g_q63_take_shift pass_body (pa_cons (pe_var (i := 0) rfl (Or.inl v_q63_machine) nd_machine nc_machine) (pa_cons (pe_var (i := 1) rfl (Or.inl v_q63_w) nd_w nc_w) pa_nil)) nd_take_shift))
      (pss_cons (ps_set (i := 4) sc_q63.nd rfl (Or.inl v_q63_outcome) (pe_callE G_moved (hr.mono (by decide)) g_q63_moved pass_body (pa_cons (pe_callE G_take_pair (hr.mono (by decide)) g_q63_take_pair pass_body (pa_cons (pe_var (i := 0) rfl (Or.inl v_q63_machine) nd_machine nc_machine) (pa_cons (pe_var (i := 2) rfl (Or.inl v_q63_r) nd_r nc_r) pa_nil)) nd_take_pair) (pa_cons (pe_var (i := 3) rfl (Or.inl v_q63_by) nd_by nc_by) (pa_cons (pe_globI g_q63_PAIR_TOP T.c_PAIR_TOP nd_PAIR_TOP) pa_nil))) nd_moved))
      (pss_cons (ps_expr (pe_callE G_put_pair (hr.mono (by decide)) g_q63_put_pair pass_body (pa_cons (pe_var (i := 0) rfl (Or.inl v_q63_machine) nd_machine nc_machine) (pa_cons (pe_var (i := 2) rfl (Or.inl v_q63_r) nd_r nc_r) (pa_cons (pe_ixTK (K := K) rfl (pe_var (i := 4) rfl (Or.inl v_q63_outcome) nd_outcome nc_outcome) pe_int (fun _ _ => rfl)) pa_nil))) nd_put_pair))
      (pss_one (ps_expr (pe_methE G_Machine_set_flags (hr.mono (by decide)) pass_body (pe_var (i := 0) rfl (Or.inl v_q63_machine) nd_machine nc_machine) (pa_cons (pe_ixTK (K := K) rfl (pe_var (i := 4) rfl (Or.inl v_q63_outcome) nd_outcome nc_outcome) pe_int (fun _ _ => rfl)) (pa_cons (pe_globI g_q63_PAIR_TOP T.c_PAIR_TOP nd_PAIR_TOP) (pa_cons (pe_ixTK (K := K) rfl (pe_var (i := 4) rfl (Or.inl v_q63_outcome) nd_outcome nc_outcome) pe_int (fun _ _ => rfl)) (pa_cons (pe_ixTK (K := K) rfl (pe_var (i := 4) rfl (Or.inl v_q63_outcome) nd_outcome nc_outcome) pe_int (fun _ _ => rfl)) pa_nil))))))))))), ?_⟩
    rw [ex_ext (op := 3) (by decide) hc, src_bind] at k
    walk_at "rd"
    refine ⟨u, rfl, ?_⟩
    have hk8 : u / 64 % 8 < 8 := Nat.mod_lt _ (by decide)
    generalize u / 64 % 8 = kk at *
    by_cases hodd : kk % 2 = 1
    · rw [if_pos hodd]
      rw [if_pos ⟨.inr rfl, hodd⟩] at k
      exact Fall.at k hms .refl .refl
    · rw [if_neg hodd]
      rw [if_neg (fun z => hodd z.2)] at k
      walk_at "rd"
      refine ⟨m, st, u, rfl, hms, ?_⟩
      cases e : src st u with
      | none => rw [e] at k; exact k
      | some p0 =>
        obtain ⟨st1, x⟩ := p0
        rw [e] at k
        intro H1 h1 s1
        dsimp only at h1
        obtain ⟨dx2, S2, rs2, ms2, z1, z2, z3, rel2⟩ := h1.ex
        have ho1 := or1 hk8 (by omega)
        have k0 : OutI C_Machine C_OddPlace C_NoInstruction m H st (Sz15.came (if kk % 2 = 1 then none else let x := Sz15.shifted 32 (st1.reg kk * 65536 + st1.reg (kk ||| 1)) (x % 64); some { (st1.setReg kk (x.1 / 65536)).setReg (kk ||| 1) x.1 with n := decide (2 ^ 31 ≤ x.1), z := decide (x.1 = 0), v := x.2.1, c := x.2.2 })) Q E := k
        rw [if_neg hodd, ho1] at k0
        dsimp only at k0
        have hr0 := rel2.wf.reg kk
        have hr1 := rel2.wf.reg (kk + 1)
        walk_at "rd"
        refine ⟨m, st1, 0, kk, rfl, h1, by omega, ?_⟩
        walk_at "rd"
        have hsl := shifted_lt 32 (st1.reg kk * 65536 + st1.reg (kk + 1)) (x % 64)
        refine ⟨st1.reg kk * 65536 + st1.reg (kk + 1), 31, x % 64, _, _, _, rfl, rfl, rfl, rfl, by decide, Nat.mod_lt _ (by decide), by show _ < 4294967296; omega, fun t0 ht0 => ?_⟩
        rw [show 31 + 1 = 32 from rfl] at *
        generalize Sz15.shifted 32 (st1.reg kk * 65536 + st1.reg (kk + 1)) (x % 64) = r at *
        have hsl' : r.1 < 4294967296 := hsl
        have h3 := h1.new (o := .tup [.int (r.1 : Nat), .int ((r.2.1.toNat : Nat) : Int), .int ((r.2.2.toNat : Nat) : Int)]) ht0
        have s3 := s1.trans (.new (o := .tup [.int (r.1 : Nat), .int ((r.2.1.toNat : Nat) : Int), .int ((r.2.2.toNat : Nat) : Int)]) ht0 h1.there)
        have nt : ¬ fpM C_Machine (upd H1 t0 (.tup [.int (r.1 : Nat), .int ((r.2.1.toNat : Nat) : Int), .int ((r.2.2.toNat : Nat) : Int)])) m t0 := nfp_new2 h1 ht0
        have t3 : upd H1 t0 (.tup [.int (r.1 : Nat), .int ((r.2.1.toNat : Nat) : Int), .int ((r.2.2.toNat : Nat) : Int)]) t0 = some (.tup [.int (r.1 : Nat), .int ((r.2.1.toNat : Nat) : Int), .int ((r.2.2.toNat : Nat) : Int)]) := upd_same
        generalize upd H1 t0 (.tup [.int (r.1 : Nat), .int ((r.2.1.toNat : Nat) : Int), .int ((r.2.2.toNat : Nat) : Int)]) = H3 at *
        obtain ⟨dx3, S3, rs3, ms3, y1, y2, y3, rel3⟩ := h3.ex
        walk_at "rd"
        refine rd_ixT (SqT.of t3) (v := .int (r.1 : Nat)) (by kernel_rfl) ?_
        walk_at "rd"
        refine ⟨m, st1, 0, kk, r.1, _, rfl, rfl, h3, by omega, hsl', fun H4 h4 s4 => ?_⟩
        have t4 := s4.keep t0 _ t3 nt
        obtain ⟨dx4, S4, rs4, ms4, x1, x2, x3, rel4⟩ := h4.ex
        walk_at "rd"
        refine rd_ixT (SqT.of t4) (v := .int (r.1 : Nat)) (by kernel_rfl) ?_
        walk_at "rd"
        refine rd_ixT (SqT.of t4) (v := .int ((r.2.1.toNat : Nat) : Int)) (by kernel_rfl) ?_
        walk_at "rd"
        refine rd_ixT (SqT.of t4) (v := .int ((r.2.2.toNat : Nat) : Int)) (by kernel_rfl) ?_
        walk_at "rd"
        refine ⟨m, _, 0, r.1, 2147483648, r.2.1, r.2.2, rfl, h4, ?_⟩
        rw [show (2147483648 : Nat) = 2 ^ 31 from rfl, nz_pow, bit_high (by show r.1 < 4294967296; exact hsl')]
        intro H5 h5 s5
        walk_at "rd"
        exact k0 H5 h5 (s3.trans (s4.trans s5))
end
section
variable {P : Program} {w : World} {K : PySem.W.Frag} {mg : Str → Option Value} {base : Heap} {C_Machine C_CallReader C_NoInstruction C_OddPlace C_UnknownCall : Addr}
theorem reg_ne {st : Sz15.St} {j k x : Nat} (h : j ≠ k) : (st.setReg j x).reg k = st.reg k := by
  show (st.r.set j _).getD k 0 = st.r.getD k 0
  rw [List.getD_eq_getElem?_getD, List.getD_eq_getElem?_getD, List.getElem?_set_ne h]
theorem setReg_congr {st : Sz15.St} {k x x' : Nat} (h : x % 65536 = x' % 65536) : st.setReg k x = st.setReg k x' := by
  rw [← setReg_mod, h, setReg_mod]
theorem pull_lt {st st1 : Sz15.St} {x : Nat} (h : WF st) (e : st.pull = some (st1, x)) : x < 65536 := by
  unfold Sz15.St.pull at e
  obtain ⟨z, e1, e2⟩ := Option.map_eq_some_iff.mp e
  injection e2 with _ e3
  subst e3
  exact h.word e1
def sp_move_pc (C : Addr) : Sp := fun vs H Q _ => ∃ (m : Addr) (st : Sz15.St) (d : Int), vs = [.ref m, .int d] ∧ MSy C H m st 0 ∧ Ret C m H (st.setReg 7 (((st.pc : Nat) + d : Int).emod 65536).toNat) 0 .non Q
theorem ok_move_pc (T : Tx K mg C_Machine C_CallReader C_NoInstruction C_OddPlace C_UnknownCall) : GFn P w K mg base "move_pc" 1 ["machine", "distance"] (sp_move_pc C_Machine) := by
  obtain ⟨f, fd, F, hmg, b⟩ := T.d_move_pc
  refine ⟨⟨f, fd, F.okX (k := 0) sc_q64 (fun vs H Q E h => ?_) (fun cdv A outer s H vs Q E hr h => ?_), hmg, F.kp, b⟩⟩
  · obtain ⟨m, st, d, rfl, hms, k⟩ := h
    rfl
  · obtain ⟨m, st, d, rfl, hms, k⟩ := h
    refine ⟨_, (pss_one (ps_asg (pe_op op_mod (pe_op op_add (pe_ixLK (K := K) rfl (pe_fldK (K := K) rfl (pe_var (i := 0) rfl (Or.inl v_q64_machine) nd_machine nc_machine) rfl) (pe_globI g_q64_PC T.c_PC nd_PC) (fun _ _ => rfl)) (pe_var (i := 1) rfl (Or.inl v_q64_distance) nd_distance nc_distance)) (pe_globI g_q64_WORD_RANGE T.c_WORD_RANGE nd_WORD_RANGE)) (pg_sub (pe_fldK (K := K) rfl (pe_var (i := 0) rfl (Or.inl v_q64_machine) nd_machine nc_machine) rfl) (pe_globI g_q64_PC T.c_PC nd_PC) set_list))), ?_⟩
    obtain ⟨dx, S, rs, ms, e1, e2, e3, rel⟩ := hms.ex
    walk_at "rd"
    refine rd_ixL (SqL.of e2) (rel.get (k := 7) rfl (by decide)) ?_
    walk_at "rd"
    refine rd_setL e2 (rel.ixR (k := 7) rfl (by decide)) ?_
    have h0 : 0 ≤ ((st.reg 7 : Nat) + d : Int) % 65536 := Int.emod_nonneg _ (by decide)
    have h1 : ((st.reg 7 : Nat) + d : Int) % 65536 < 65536 := Int.emod_lt_of_pos _ (by decide)
    have q := set_reg (C := C_Machine) e1 e2 e3 rel (k := 7) (v := ((st.reg 7 : Nat) + d : Int) % 65536) (((st.pc : Nat) + d : Int).emod 65536).toNat (by
      show _ = (((((st.reg 7 : Nat) + d : Int) % 65536).toNat % 65536 : Nat) : Int)
      omega)
    exact k _ q.1 q.2
def c_sob (u : Nat) : Prop := u / 512 = 63
theorem ok_count_down (T : Tx K mg C_Machine C_CallReader C_NoInstruction C_OddPlace C_UnknownCall) : GFn P w K mg base "count_down" 2 ["machine", "w"] (sp_ins C_Machine C_OddPlace C_NoInstruction c_sob) := by
  obtain ⟨f, fd, F, hmg, b⟩ := T.d_count_down
  refine ⟨⟨f, fd, F.okX (k := 1) sc_q65 (fun vs H Q E h => ?_) (fun cdv A outer s H vs Q E hr h => ?_), hmg, F.kp, b⟩⟩
  · obtain ⟨m, st, u, rfl, hms, hu, hc, k⟩ := h
    rfl
  · obtain ⟨m, st, u, rfl, hms, hu, hc, k⟩ := h
    have G_move_pc := ok_move_pc (P := P) (w := w) (base := base) T
    refine ⟨_, (pss_cons (ps_set (i := 2) sc_q65.nd rfl (Or.inl v_q65_r) (pe_op op_and (pe_op op_shr (pe_var (i := 1) rfl (Or.inl v_q65_w) nd_w nc_w) pe_int) pe_int))
      (pss_cons (ps_set (i := 3) sc_q65.nd rfl (Or.inl v_q65_rest) (pe_op op_mod (pe_op op_sub (pe_ixLK (K := K) rfl (pe_fldK (K := K) rfl (pe_var (i := 0) rfl (Or.inl v_q65_machine) nd_machine nc_machine) rfl) (pe_var (i := 2) rfl (Or.inl v_q65_r) nd_r nc_r) (fun _ _ => rfl)) pe_int) (pe_globI g_q65_WORD_RANGE T.c_WORD_RANGE nd_WORD_RANGE)))
      (pss_cons (ps_asg (pe_var (i := 3) rfl (Or.inl v_q65_rest) nd_rest nc_rest) (pg_sub (pe_fldK (K := K) rfl (pe_var (i := 0) rfl (Or.inl v_q65_machine) nd_machine nc_machine) rfl) (pe_var (i := 2) rfl (Or.inl v_q65_r) nd_r nc_r) set_list))
      (pss_one (ps_if (pt_cmpR op_ne (pe_var (i := 3) rfl (Or.inl v_q65_rest) nd_rest nc_rest) pe_int (nomark _)) (pss_one (ps_expr (pe_callE G_move_pc (hr.mono (by decide)) g_q65_move_pc pass_body (pa_cons (pe_var (i := 0) rfl (Or.inl v_q65_machine) nd_machine nc_machine) (pa_cons (pe_op op_mul (pe_un un_neg pe_int) (pe_op op_and (pe_var (i := 1) rfl (Or.inl v_q65_w) nd_w nc_w) pe_int)) pa_nil)) nd_move_pc))) pss_nil))))), ?_⟩
    obtain ⟨dx, S, rs, ms, e1, e2, e3, rel⟩ := hms.ex
    rw [ex_sob hc] at k
    have hk8 : u / 64 % 8 < 8 := Nat.mod_lt _ (by decide)
    walk_at "rd"
    rw [show (6 : Int).toNat = 6 from rfl, sR, show (2 : Nat) ^ 6 = 64 from rfl, bA7]
    generalize u / 64 % 8 = kk at *
    refine rd_ixL (SqL.of e2) (rel.get rfl hk8) ?_
    walk_at "rd"
    have hrl := rel.wf.reg kk
    rw [show ((st.reg kk : Nat) - 1 : Int) % 65536 = ((Sz15.w16 (st.reg kk + 65535) : Nat) : Int) by unfold Sz15.w16; omega]
    have hw : Sz15.w16 (st.reg kk + 65535) < 65536 := Nat.mod_lt _ (by decide)
    generalize Sz15.w16 (st.reg kk + 65535) = r at *
    refine rd_setL e2 (rel.ixR rfl hk8) ?_
    have q := set_reg (C := C_Machine) e1 e2 e3 rel (k := kk) (v := (r : Int)) r (by omega)
    obtain ⟨dx2, S2, rs2, ms2, z1, z2, z3, rel2⟩ := q.1.ex
    walk_at "rd"
    refine rd_iten (fun h => ?_) (fun h => ?_)
    · rw [if_neg (by omega)] at k
      walk_at "rd"
      rw [bA63]
      refine ⟨m, _, _, rfl, q.1, fun H5 h5 s5 => ?_⟩
      walk_at "rd"
      have hpc := rel2.wf.reg 7
      rw [setReg_congr (x' := (st.setReg kk r).pc + 65536 - 2 * (u % 64)) (by
        show (((((st.setReg kk r).reg 7 : Nat) : Int) + -2 * ((u % 64 : Nat) : Int)) % 65536).toNat % 65536 = ((st.setReg kk r).reg 7 + 65536 - 2 * (u % 64)) % 65536
        omega)] at h5
      exact k H5 h5 (q.2.trans s5)
    · rw [if_pos (by omega)] at k
      walk_at "rd"
      exact k _ q.1 q.2
def sp_cond (C : Addr) (fc : Sz15.St → Bool) : Sp := fun vs H Q _ => ∃ (m : Addr) (st : Sz15.St), vs = [.ref m] ∧ MSy C H m st 0 ∧ Q (.int (((fc st).toNat : Nat) : Int)) H
theorem ok_always (T : Tx K mg C_Machine C_CallReader C_NoInstruction C_OddPlace C_UnknownCall) : GFn P w K mg base "always" 1 ["machine"] (sp_cond C_Machine fun _ => true) := by
  obtain ⟨f, fd, F, hmg, b⟩ := T.d_always
  refine ⟨⟨f, fd, F.okX (k := 0) sc_q66 (fun vs H Q E h => ?_) (fun cdv A outer s H vs Q E hr h => ?_), hmg, F.kp, b⟩⟩
  · obtain ⟨m, st, rfl, hms, k⟩ := h
    rfl
  · obtain ⟨m, st, rfl, hms, k⟩ := h
    refine ⟨_, (pss_one (ps_ret pe_int)), ?_⟩
    walk_at "rd"
    exact k
theorem ok_is_zero (T : Tx K mg C_Machine C_CallReader C_NoInstruction C_OddPlace C_UnknownCall) : GFn P w K mg base "is_zero" 1 ["machine"] (sp_cond C_Machine fun st => st.z) := by
  obtain ⟨f, fd, F, hmg, b⟩ := T.d_is_zero
  refine ⟨⟨f, fd, F.okX (k := 0) sc_q67 (fun vs H Q E h => ?_) (fun cdv A outer s H vs Q E hr h => ?_), hmg, F.kp, b⟩⟩
  · obtain ⟨m, st, rfl, hms, k⟩ := h
    rfl
  · obtain ⟨m, st, rfl, hms, k⟩ := h
    refine ⟨_, (pss_one (ps_ret (pe_fldK (K := K) rfl (pe_var (i := 0) rfl (Or.inl v_q67_machine) nd_machine nc_machine) rfl))), ?_⟩
    obtain ⟨dx, S, rs, ms, e1, e2, e3, rel⟩ := hms.ex
    walk_at "rd"
    rw [rel.z]
    exact k
theorem ok_is_less (T : Tx K mg C_Machine C_CallReader C_NoInstruction C_OddPlace C_UnknownCall) : GFn P w K mg base "is_less" 1 ["machine"] (sp_cond C_Machine fun st => st.n != st.v) := by
  obtain ⟨f, fd, F, hmg, b⟩ := T.d_is_less
  refine ⟨⟨f, fd, F.okX (k := 0) sc_q68 (fun vs H Q E h => ?_) (fun cdv A outer s H vs Q E hr h => ?_), hmg, F.kp, b⟩⟩
  · obtain ⟨m, st, rfl, hms, k⟩ := h
    rfl
  · obtain ⟨m, st, rfl, hms, k⟩ := h
    refine ⟨_, (pss_one (ps_ret (pe_op op_xor (pe_fldK (K := K) rfl (pe_var (i := 0) rfl (Or.inl v_q68_machine) nd_machine nc_machine) rfl) (pe_fldK (K := K) rfl (pe_var (i := 0) rfl (Or.inl v_q68_machine) nd_machine nc_machine) rfl)))), ?_⟩
    obtain ⟨dx, S, rs, ms, e1, e2, e3, rel⟩ := hms.ex
    walk_at "rd"
    rw [rel.n, rel.v, bX, show st.n.toNat ^^^ st.v.toNat = (st.n != st.v).toNat by cases st.n <;> cases st.v <;> rfl]
    exact k
theorem ok_is_less_or_zero (T : Tx K mg C_Machine C_CallReader C_NoInstruction C_OddPlace C_UnknownCall) : GFn P w K mg base "is_less_or_zero" 1 ["machine"] (sp_cond C_Machine fun st => st.z || (st.n != st.v)) := by
  obtain ⟨f, fd, F, hmg, b⟩ := T.d_is_less_or_zero
  refine ⟨⟨f, fd, F.okX (k := 0) sc_q69 (fun vs H Q E h => ?_) (fun cdv A outer s H vs Q E hr h => ?_), hmg, F.kp, b⟩⟩
  · obtain ⟨m, st, rfl, hms, k⟩ := h
    rfl
  · obtain ⟨m, st, rfl, hms, k⟩ := h
    refine ⟨_, (pss_one (ps_ret (pe_op op_or (pe_fldK (K := K) rfl (pe_var (i := 0) rfl (Or.inl v_q69_machine) nd_machine nc_machine) rfl) (pe_op op_xor (pe_fldK (K := K) rfl (pe_var (i := 0) rfl (Or.inl v_q69_machine) nd_machine nc_machine) rfl) (pe_fldK (K := K) rfl (pe_var (i := 0) rfl (Or.inl v_q69_machine) nd_machine nc_machine) rfl))))), ?_⟩
    obtain ⟨dx, S, rs, ms, e1, e2, e3, rel⟩ := hms.ex
    walk_at "rd"
    rw [rel.n, rel.v, rel.z, bX, bO, show st.z.toNat ||| (st.n.toNat ^^^ st.v.toNat) = (st.z || (st.n != st.v)).toNat by cases st.z <;> cases st.n <;> cases st.v <;> rfl]
    exact k
theorem ok_is_negative (T : Tx K mg C_Machine C_CallReader C_NoInstruction C_OddPlace C_UnknownCall) : GFn P w K mg base "is_negative" 1 ["machine"] (sp_cond C_Machine fun st => st.n) := by
  obtain ⟨f, fd, F, hmg, b⟩ := T.d_is_negative
  refine ⟨⟨f, fd, F.okX (k := 0) sc_q70 (fun vs H Q E h => ?_) (fun cdv A outer s H vs Q E hr h => ?_), hmg, F.kp, b⟩⟩
  · obtain ⟨m, st, rfl, hms, k⟩ := h
    rfl
  · obtain ⟨m, st, rfl, hms, k⟩ := h
    refine ⟨_, (pss_one (ps_ret (pe_fldK (K := K) rfl (pe_var (i := 0) rfl (Or.inl v_q70_machine) nd_machine nc_machine) rfl))), ?_⟩
    obtain ⟨dx, S, rs, ms, e1, e2, e3, rel⟩ := hms.ex
    walk_at "rd"
    rw [rel.n]
    exact k
theorem ok_is_carry_or_zero (T : Tx K mg C_Machine C_CallReader C_NoInstruction C_OddPlace C_UnknownCall) : GFn P w K mg base "is_carry_or_zero" 1 ["machine"] (sp_cond C_Machine fun st => st.c || st.z) := by
  obtain ⟨f, fd, F, hmg, b⟩ := T.d_is_carry_or_zero
  refine ⟨⟨f, fd, F.okX (k := 0) sc_q71 (fun vs H Q E h => ?_) (fun cdv A outer s H vs Q E hr h => ?_), hmg, F.kp, b⟩⟩
  · obtain ⟨m, st, rfl, hms, k⟩ := h
    rfl
  · obtain ⟨m, st, rfl, hms, k⟩ := h
    refine ⟨_, (pss_one (ps_ret (pe_op op_or (pe_fldK (K := K) rfl (pe_var (i := 0) rfl (Or.inl v_q71_machine) nd_machine nc_machine) rfl) (pe_fldK (K := K) rfl (pe_var (i := 0) rfl (Or.inl v_q71_machine) nd_machine nc_machine) rfl)))), ?_⟩
    obtain ⟨dx, S, rs, ms, e1, e2, e3, rel⟩ := hms.ex
    walk_at "rd"
    rw [rel.c, rel.z, bO, show st.c.toNat ||| st.z.toNat = (st.c || st.z).toNat by cases st.c <;> cases st.z <;> rfl]
    exact k
theorem ok_is_overflow (T : Tx K mg C_Machine C_CallReader C_NoInstruction C_OddPlace C_UnknownCall) : GFn P w K mg base "is_overflow" 1 ["machine"] (sp_cond C_Machine fun st => st.v) := by
  obtain ⟨f, fd, F, hmg, b⟩ := T.d_is_overflow
  refine ⟨⟨f, fd, F.okX (k := 0) sc_q72 (fun vs H Q E h => ?_) (fun cdv A outer s H vs Q E hr h => ?_), hmg, F.kp, b⟩⟩
  · obtain ⟨m, st, rfl, hms, k⟩ := h
    rfl
  · obtain ⟨m, st, rfl, hms, k⟩ := h
    refine ⟨_, (pss_one (ps_ret (pe_fldK (K := K) rfl (pe_var (i := 0) rfl (Or.inl v_q72_machine) nd_machine nc_machine) rfl))), ?_⟩
    obtain ⟨dx, S, rs, ms, e1, e2, e3, rel⟩ := hms.ex
    walk_at "rd"
    rw [rel.v]
    exact k
theorem ok_is_carry (T : Tx K mg C_Machine C_CallReader C_NoInstruction C_OddPlace C_UnknownCall) : GFn P w K mg base "is_carry" 1 ["machine"] (sp_cond C_Machine fun st => st.c) := by
  obtain ⟨f, fd, F, hmg, b⟩ := T.d_is_carry
  refine ⟨⟨f, fd, F.okX (k := 0) sc_q73 (fun vs H Q E h => ?_) (fun cdv A outer s H vs Q E hr h => ?_), hmg, F.kp, b⟩⟩
  · obtain ⟨m, st, rfl, hms, k⟩ := h
    rfl
  · obtain ⟨m, st, rfl, hms, k⟩ := h
    refine ⟨_, (pss_one (ps_ret (pe_fldK (K := K) rfl (pe_var (i := 0) rfl (Or.inl v_q73_machine) nd_machine nc_machine) rfl))), ?_⟩
    obtain ⟨dx, S, rs, ms, e1, e2, e3, rel⟩ := hms.ex
    walk_at "rd"
    rw [rel.c]
    exact k
def c_branch (u : Nat) : Prop := (1 ≤ u / 256 ∧ u / 256 ≤ 7) ∨ (128 ≤ u / 256 ∧ u / 256 ≤ 135)
theorem ok_branch (T : Tx K mg C_Machine C_CallReader C_NoInstruction C_OddPlace C_UnknownCall) : GFn P w K mg base "branch" 2 ["machine", "w"] (sp_ins C_Machine C_OddPlace C_NoInstruction c_branch) := by
  obtain ⟨f, fd, F, hmg, b⟩ := T.d_branch
  refine ⟨⟨f, fd, F.okX (k := 1) sc_q74 (fun vs H Q E h => ?_) (fun cdv A outer s H vs Q E hr h => ?_), hmg, F.kp, b⟩⟩
  · obtain ⟨m, st, u, rfl, hms, hu, hc, k⟩ := h
    rfl
  · obtain ⟨m, st, u, rfl, hms, hu, hc, k⟩ := h
    have G_always := ok_always (P := P) (w := w) (base := base) T
    have G_is_zero := ok_is_zero (P := P) (w := w) (base := base) T
    have G_is_less := ok_is_less (P := P) (w := w) (base := base) T
    have G_is_less_or_zero := ok_is_less_or_zero (P := P) (w := w) (base := base) T
    have G_is_negative := ok_is_negative (P := P) (w := w) (base := base) T
    have G_is_carry_or_zero := ok_is_carry_or_zero (P := P) (w := w) (base := base) T
    have G_is_overflow := ok_is_overflow (P := P) (w := w) (base := base) T
    have G_is_carry := ok_is_carry (P := P) (w := w) (base := base) T
    have G_move_pc := ok_move_pc (P := P) (w := w) (base := base) T
    have G_signed := ok_signed (P := P) (w := w) (base := base) T
    obtain ⟨a_CONDITIONS, ha_CONDITIONS, hd_CONDITIONS⟩ := T.t_CONDITIONS
    refine ⟨_, (pss_one (ps_if (pt_cmpR op_eq (pe_callV (P := P) (w := w) (K := K) (mg := mg) (base := base) (k := 1) rfl rfl rfl rfl rfl hr pass_body (pe_kget (K := K) rfl (pe_glob (v := .ref a_CONDITIONS) g_q74_CONDITIONS ha_CONDITIONS rfl nd_CONDITIONS) (pe_op op_shr (pe_var (i := 1) rfl (Or.inl v_q74_w) nd_w nc_w) pe_int) (fun _ _ => rfl)) (pa_cons (pe_var (i := 0) rfl (Or.inl v_q74_machine) nd_machine nc_machine) pa_nil)) (pe_op op_and (pe_op op_shr (pe_var (i := 1) rfl (Or.inl v_q74_w) nd_w nc_w) pe_int) pe_int) (nomark _)) (pss_one (ps_expr (pe_callE G_move_pc (hr.mono (by decide)) g_q74_move_pc pass_body (pa_cons (pe_var (i := 0) rfl (Or.inl v_q74_machine) nd_machine nc_machine) (pa_cons (pe_op op_mul pe_int (pe_callE G_signed (hr.mono (by decide)) g_q74_signed pass_body (pa_cons (pe_op op_and (pe_var (i := 1) rfl (Or.inl v_q74_w) nd_w nc_w) pe_int) (pa_cons (pe_globI g_q74_BYTE_TOP T.c_BYTE_TOP nd_BYTE_TOP) pa_nil)) nd_signed)) pa_nil)) nd_move_pc))) pss_nil)), ?_⟩
    obtain ⟨kvs, hkd, hpr⟩ := hd_CONDITIONS
    rw [ex_branch hc] at k
    have htab : ∃ f fc, valI kvs ((u / 512 : Nat) : Int) = some f ∧ GV P w K mg base f 1 (sp_cond C_Machine fc) ∧ Sz15.taken st (if 128 ≤ u / 256 then u / 256 - 120 else u / 256) = (fc st == decide (u / 256 % 2 = 1)) := by
      unfold c_branch at hc
      have h512 : u / 512 = u / 256 / 2 := by omega
      rw [h512]
      have hcase : u / 256 = 1 ∨ u / 256 = 2 ∨ u / 256 = 3 ∨ u / 256 = 4 ∨ u / 256 = 5 ∨ u / 256 = 6 ∨ u / 256 = 7 ∨ u / 256 = 128 ∨ u / 256 = 129 ∨ u / 256 = 130 ∨ u / 256 = 131 ∨ u / 256 = 132 ∨ u / 256 = 133 ∨ u / 256 = 134 ∨ u / 256 = 135 := by omega
      have go : ∀ (key : Nat) (n : Str) (fc : Sz15.St → Bool) (j : Nat) (ps : List Str), ((key : Int), n) ∈ tab_CONDITIONS → (∀ n', ((key : Int), n') ∈ tab_CONDITIONS → n' = n) → GFn P w K mg base n j ps (sp_cond C_Machine fc) → j ≤ 1 → ∃ f, valI kvs (key : Int) = some f ∧ GV P w K mg base f 1 (sp_cond C_Machine fc) := fun key n fc j ps hin hun G hj => by
        rcases ktab_get (key : Int) hpr with ⟨n', f, hmem, hv, hm⟩ | ⟨_, hno⟩
        · have e := hun n' hmem
          subst e
          exact ⟨f, hv, G.gv hm hj⟩
        · exact absurd hin (hno n)
      have g0 := go 0 "always" _ _ _ (by simp [tab_CONDITIONS]) (fun n' h => by simpa [tab_CONDITIONS] using h) G_always (by decide)
      have g1 := go 1 "is_zero" _ _ _ (by simp [tab_CONDITIONS]) (fun n' h => by simpa [tab_CONDITIONS] using h) G_is_zero (by decide)
      have g2 := go 2 "is_less" _ _ _ (by simp [tab_CONDITIONS]) (fun n' h => by simpa [tab_CONDITIONS] using h) G_is_less (by decide)
      have g3 := go 3 "is_less_or_zero" _ _ _ (by simp [tab_CONDITIONS]) (fun n' h => by simpa [tab_CONDITIONS] using h) G_is_less_or_zero (by decide)
      have g4 := go 64 "is_negative" _ _ _ (by simp [tab_CONDITIONS]) (fun n' h => by simpa [tab_CONDITIONS] using h) G_is_negative (by decide)
      have g5 := go 65 "is_carry_or_zero" _ _ _ (by simp [tab_CONDITIONS]) (fun n' h => by simpa [tab_CONDITIONS] using h) G_is_carry_or_zero (by decide)
      have g6 := go 66 "is_overflow" _ _ _ (by simp [tab_CONDITIONS]) (fun n' h => by simpa [tab_CONDITIONS] using h) G_is_overflow (by decide)
      have g7 := go 67 "is_carry" _ _ _ (by simp [tab_CONDITIONS]) (fun n' h => by simpa [tab_CONDITIONS] using h) G_is_carry (by decide)
      rcases hcase with h | h | h | h | h | h | h | h | h | h | h | h | h | h | h <;> rw [h]
      · obtain ⟨f, a, b⟩ := g0; exact ⟨f, _, a, b, rfl⟩
      · obtain ⟨f, a, b⟩ := g1; exact ⟨f, _, a, b, by show (!st.z) = (st.z == false); cases st.z <;> rfl⟩
      · obtain ⟨f, a, b⟩ := g1; exact ⟨f, _, a, b, by show st.z = (st.z == true); cases st.z <;> rfl⟩
      · obtain ⟨f, a, b⟩ := g2; exact ⟨f, _, a, b, by show (st.n == st.v) = ((st.n != st.v) == false); cases st.n <;> cases st.v <;> rfl⟩
      · obtain ⟨f, a, b⟩ := g2; exact ⟨f, _, a, b, by show (st.n != st.v) = ((st.n != st.v) == true); cases st.n <;> cases st.v <;> rfl⟩
      · obtain ⟨f, a, b⟩ := g3; exact ⟨f, _, a, b, by show (!st.z && st.n == st.v) = ((st.z || (st.n != st.v)) == false); cases st.z <;> cases st.n <;> cases st.v <;> rfl⟩
      · obtain ⟨f, a, b⟩ := g3; exact ⟨f, _, a, b, by show (st.z || st.n != st.v) = ((st.z || (st.n != st.v)) == true); cases st.z <;> cases st.n <;> cases st.v <;> rfl⟩
      · obtain ⟨f, a, b⟩ := g4; exact ⟨f, _, a, b, by show (!st.n) = (st.n == false); cases st.n <;> rfl⟩
      · obtain ⟨f, a, b⟩ := g4; exact ⟨f, _, a, b, by show st.n = (st.n == true); cases st.n <;> rfl⟩
      · obtain ⟨f, a, b⟩ := g5; exact ⟨f, _, a, b, by show (!st.c && !st.z) = ((st.c || st.z) == false); cases st.c <;> cases st.z <;> rfl⟩
      · obtain ⟨f, a, b⟩ := g5; exact ⟨f, _, a, b, by show (st.c || st.z) = ((st.c || st.z) == true); cases st.c <;> cases st.z <;> rfl⟩
      · obtain ⟨f, a, b⟩ := g6; exact ⟨f, _, a, b, by show (!st.v) = (st.v == false); cases st.v <;> rfl⟩
      · obtain ⟨f, a, b⟩ := g6; exact ⟨f, _, a, b, by show st.v = (st.v == true); cases st.v <;> rfl⟩
      · obtain ⟨f, a, b⟩ := g7; exact ⟨f, _, a, b, by show (!st.c) = (st.c == false); cases st.c <;> rfl⟩
      · obtain ⟨f, a, b⟩ := g7; exact ⟨f, _, a, b, by show st.c = (st.c == true); cases st.c <;> rfl⟩
    obtain ⟨f_, fc, hvf, gv, htk⟩ := htab
    rw [htk] at k
    walk_at "rd"
    rw [show (9 : Int).toNat = 9 from rfl, sR, show (2 : Nat) ^ 9 = 512 from rfl]
    refine ⟨_, kvs, _, f_, rfl, rfl, hkd, hvf, f_, _, rfl, gv, ?_⟩
    walk_at "rd"
    refine ⟨m, st, rfl, hms, ?_⟩
    walk_at "rd"
    rw [show (8 : Int).toNat = 8 from rfl, sR, show (2 : Nat) ^ 8 = 256 from rfl, bA1]
    have hb : decide ((((fc st).toNat : Nat) : Int) = ((u / 256 % 2 : Nat) : Int)) = (fc st == decide (u / 256 % 2 = 1)) := by
      rcases Nat.mod_two_eq_zero_or_one (u / 256) with e | e <;> rw [e] <;> cases fc st <;> rfl
    rw [hb]
    refine rd_bt _ (fun h => ?_) (fun h => ?_)
    · rw [if_pos h] at k
      walk_at "rd"
      rw [bA255]
      refine ⟨u % 256, 7, _, _, rfl, rfl, rfl, by show _ < 256; omega, ?_⟩
      rw [show 2 ^ 7 * 2 = 256 from rfl, signed_mod]
      walk_at "rd"
      refine ⟨m, st, _, rfl, hms, fun H5 h5 s5 => ?_⟩
      walk_at "rd"
      rw [Int.mul_comm] at h5
      exact k H5 h5 s5
    · rw [if_neg (by rw [h]; decide)] at k
      walk_at "rd"
      exact k _ hms .refl
theorem place_mem {st st1 : Sz15.St} {u : Nat} {byte : Bool} {p : Sz15.Place} (h : u / 8 % 8 ≠ 0) (e : Sz15.place st u byte = some (st1, p)) : ∃ a, p = .mem a := by
  unfold Sz15.place at e
  dsimp only at e
  split at e
  · rename_i z; exact absurd z h
  · have := Option.some.inj e; injection this with _ e2; exact ⟨_, e2.symm⟩
  · have := Option.some.inj e; injection this with _ e2; exact ⟨_, e2.symm⟩
  · obtain ⟨x, e1, e2⟩ := Option.map_eq_some_iff.mp e
    injection e2 with _ e2; exact ⟨_, e2.symm⟩
  · have := Option.some.inj e; injection this with _ e2; exact ⟨_, e2.symm⟩
  · obtain ⟨x, e1, e2⟩ := Option.map_eq_some_iff.mp e
    injection e2 with _ e2; exact ⟨_, e2.symm⟩
  · obtain ⟨x, e1, e2⟩ := Option.map_eq_some_iff.mp e
    injection e2 with _ e2; exact ⟨_, e2.symm⟩
  · obtain ⟨f, e0, e1⟩ := Option.bind_eq_some_iff.mp e
    obtain ⟨x, e3, e2⟩ := Option.map_eq_some_iff.mp e1
    injection e2 with _ e2; exact ⟨_, e2.symm⟩
def goal (st : Sz15.St) (u : Nat) : Option (Sz15.St × Nat) := (Sz15.place st u false).bind fun d => match d.2 with
  | .mem a => if a % 2 = 1 then none else some (d.1, a)
  | .reg _ => none
theorem goal_same {st st1 : Sz15.St} {u a : Nat} (e : goal st u = some (st1, a)) : Same st st1 := by
  unfold goal at e
  obtain ⟨s, e1, e2⟩ := Option.bind_eq_some_iff.mp e
  split at e2
  · split at e2
    · cases e2
    · have e3 := Option.some.inj e2
      injection e3 with e4 _
      subst e4
      exact place_same (p := s.2) e1
  · cases e2
def sp_goal (C O N : Addr) : Sp := fun vs H Q E => ∃ (m : Addr) (st : Sz15.St) (u : Nat), vs = [.ref m, .int (u : Nat)] ∧ MSy C H m st 0 ∧ (if u / 8 % 8 = 0 then E (.ref N) none H else match goal st u with
  | some p => p.2 < 65536 → Ret C m H p.1 0 (.int (p.2 : Nat)) Q
  | none => Fall C m O H st 0 E)
theorem ok_tell_place (T : Tx K mg C_Machine C_CallReader C_NoInstruction C_OddPlace C_UnknownCall) : GFn P w K mg base "tell_place" 5 ["machine", "w"] (sp_goal C_Machine C_OddPlace C_NoInstruction) := by
  obtain ⟨f, fd, F, hmg, b⟩ := T.d_tell_place
  refine ⟨⟨f, fd, F.okX (k := 4) sc_q75 (fun vs H Q E h => ?_) (fun cdv A outer s H vs Q E hr h => ?_), hmg, F.kp, b⟩⟩
  · obtain ⟨m, st, u, rfl, hms, k⟩ := h
    rfl
  · obtain ⟨m, st, u, rfl, hms, k⟩ := h
    have G_tell := ok_tell (P := P) (w := w) (base := base) T
    refine ⟨_, (pss_cons (ps_if (pt_cmpR op_lt (pe_op op_and (pe_var (i := 1) rfl (Or.inl v_q75_w) nd_w nc_w) pe_int) pe_int (nomark _)) (pss_one (ps_raise rfl T.x_NoInstruction raise_body g_q75_NoInstruction (pa_cons pe_str pa_nil) nd_NoInstruction)) pss_nil)
      (pss_cons (ps_set (i := 2) sc_q75.nd rfl (Or.inl v_q75_place) (pe_callE G_tell (hr.mono (by decide)) g_q75_tell pass_body (pa_cons (pe_var (i := 0) rfl (Or.inl v_q75_machine) nd_machine nc_machine) (pa_cons (pe_op op_and (pe_var (i := 1) rfl (Or.inl v_q75_w) nd_w nc_w) pe_int) (pa_cons (pe_globI g_q75_WORD_TOP T.c_WORD_TOP nd_WORD_TOP) pa_nil))) nd_tell))
      (pss_cons (ps_if (pt_truthK (K := K) rfl (pe_op op_and (pe_var (i := 2) rfl (Or.inl v_q75_place) nd_place nc_place) pe_int) (fun _ => rfl)) (pss_one (ps_raise rfl T.x_OddPlace raise_body g_q75_OddPlace (pa_cons (pe_fs2 (pe_var (i := 2) rfl (Or.inl v_q75_place) nd_place nc_place)) pa_nil) nd_OddPlace)) pss_nil)
      (pss_one (ps_ret (pe_var (i := 2) rfl (Or.inl v_q75_place) nd_place nc_place)))))), ?_⟩
    walk_at "rd"
    rw [bA63]
    refine rd_ite (fun h => ?_) (fun h => ?_)
    · rw [if_pos (by omega)] at k
      walk_at "rd"
      exact ⟨by show 1 ≤ sizeLine; decide, k⟩
    · have h8 : u / 8 % 8 ≠ 0 := by omega
      rw [if_neg h8] at k
      walk_at "rd"
      rw [bA63]
      refine ⟨m, st, 0, u % 64, false, _, rfl, rfl, hms, by omega, ?_⟩
      rw [place_mod]
      unfold goal at k
      cases p1 : Sz15.place st u false with
      | none => rw [p1] at k; exact k
      | some r1' =>
        obtain ⟨st1, p⟩ := r1'
        rw [p1] at k
        have hp := place_ok hms.wf p1
        obtain ⟨a, rfl⟩ := place_mem h8 p1
        have ha : a < 65536 := hp
        have k1 : (match (if a % 2 = 1 then none else some (st1, a) : Option (Sz15.St × Nat)) with
          | some p => p.2 < 65536 → Ret C_Machine m H p.1 0 (.int (p.2 : Nat)) Q
          | none => Fall C_Machine m C_OddPlace H st 0 E) := k
        intro H1 h1 s1
        walk_at "rd"
        rw [show ((enc (.mem a) : Nat) : Int) = (a : Int) from rfl, bA1, nz_cast]
        refine rd_iten (fun h2 => ?_) (fun h2 => ?_)
        · rw [if_pos (by omega)] at k1
          walk_at "rd"
          refine ⟨log_small ha, fun s => ?_⟩
          walk_at "rd"
          exact ⟨by show 1 ≤ sizeLine; decide, Fall.at k1 h1 (place_same p1) s1⟩
        · rw [if_neg (by omega)] at k1
          walk_at "rd"
          exact k1 ha H1 h1 s1
def c_jmp (u : Nat) : Prop := u / 64 = 1
theorem jmp_goal (st : Sz15.St) (u : Nat) : ((Sz15.place st u false).bind fun d => match d.2 with
        | .mem a => if a % 2 = 1 then none else some (d.1.setReg 7 a)
        | .reg _ => none) = (goal st u).map fun p => p.1.setReg 7 p.2 := by
  unfold goal
  cases Sz15.place st u false with
  | none => rfl
  | some d =>
    obtain ⟨s, p⟩ := d
    cases p with
    | reg _ => rfl
    | mem a =>
      show (if a % 2 = 1 then none else some (s.setReg 7 a)) = Option.map _ (if a % 2 = 1 then none else some (s, a))
      by_cases h : a % 2 = 1
      · rw [if_pos h, if_pos h]; rfl
      · rw [if_neg h, if_neg h, Option.map_some]
theorem ok_jump (T : Tx K mg C_Machine C_CallReader C_NoInstruction C_OddPlace C_UnknownCall) : GFn P w K mg base "jump" 6 ["machine", "w"] (sp_ins C_Machine C_OddPlace C_NoInstruction c_jmp) := by
  obtain ⟨f, fd, F, hmg, b⟩ := T.d_jump
  refine ⟨⟨f, fd, F.okX (k := 5) sc_q76 (fun vs H Q E h => ?_) (fun cdv A outer s H vs Q E hr h => ?_), hmg, F.kp, b⟩⟩
  · obtain ⟨m, st, u, rfl, hms, hu, hc, k⟩ := h
    rfl
  · obtain ⟨m, st, u, rfl, hms, hu, hc, k⟩ := h
    have G_tell_place := ok_tell_place (P := P) (w := w) (base := base) T
    refine ⟨_, (pss_one (ps_asg (pe_callE G_tell_place (hr.mono (by decide)) g_q76_tell_place pass_body (pa_cons (pe_var (i := 0) rfl (Or.inl v_q76_machine) nd_machine nc_machine) (pa_cons (pe_var (i := 1) rfl (Or.inl v_q76_w) nd_w nc_w) pa_nil)) nd_tell_place) (pg_sub (pe_fldK (K := K) rfl (pe_var (i := 0) rfl (Or.inl v_q76_machine) nd_machine nc_machine) rfl) (pe_globI g_q76_PC T.c_PC nd_PC) set_list))), ?_⟩
    rw [ex_jmp hc] at k
    replace k : OutI C_Machine C_OddPlace C_NoInstruction m H st (if u / 8 % 8 = 0 then .none_ else Sz15.came ((goal st u).map fun p => p.1.setReg 7 p.2)) Q E := by
      rw [← jmp_goal]; exact k
    walk_at "rd"
    refine ⟨m, st, u, rfl, hms, ?_⟩
    by_cases h8 : u / 8 % 8 = 0
    · rw [if_pos h8] at k ⊢
      exact Fall.at k hms .refl .refl
    · rw [if_neg h8] at k ⊢
      cases e : goal st u with
      | none => rw [e] at k; exact k
      | some p0 =>
        obtain ⟨st1, a⟩ := p0
        rw [e] at k
        intro ha H1 h1 s1
        dsimp only at h1
        have ha' : a < 65536 := ha
        obtain ⟨dx2, S2, rs2, ms2, z1, z2, z3, rel2⟩ := h1.ex
        walk_at "rd"
        refine rd_setL z2 (rel2.ixR (k := 7) rfl (by decide)) ?_
        have q := set_reg (C := C_Machine) z1 z2 z3 rel2 (k := 7) (v := (a : Int)) a (by omega)
        exact k _ q.1 (s1.trans q.2)
def c_jsr (u : Nat) : Prop := u / 512 = 4
theorem jsr_goal (st : Sz15.St) (u k : Nat) : ((Sz15.place st u false).bind fun d => match d.2 with
        | .mem a => if a % 2 = 1 then none else (d.1.push (d.1.reg k)).map fun p => (p.setReg k p.pc).setReg 7 a
        | .reg _ => none) = (goal st u).bind fun p => (p.1.push (p.1.reg k)).map fun b => (b.setReg k b.pc).setReg 7 p.2 := by
  unfold goal
  cases Sz15.place st u false with
  | none => rfl
  | some d =>
    obtain ⟨s, p⟩ := d
    cases p with
    | reg _ => rfl
    | mem a =>
      show (if a % 2 = 1 then none else (s.push (s.reg k)).map fun p => (p.setReg k p.pc).setReg 7 a) = Option.bind (if a % 2 = 1 then none else some (s, a)) _
      by_cases h : a % 2 = 1
      · rw [if_pos h, if_pos h]; rfl
      · rw [if_neg h, if_neg h, Option.bind_some]
theorem ok_jump_to_subroutine (T : Tx K mg C_Machine C_CallReader C_NoInstruction C_OddPlace C_UnknownCall) : GFn P w K mg base "jump_to_subroutine" 6 ["machine", "w"] (sp_ins C_Machine C_OddPlace C_NoInstruction c_jsr) := by
  obtain ⟨f, fd, F, hmg, b⟩ := T.d_jump_to_subroutine
  refine ⟨⟨f, fd, F.okX (k := 5) sc_q77 (fun vs H Q E h => ?_) (fun cdv A outer s H vs Q E hr h => ?_), hmg, F.kp, b⟩⟩
  · obtain ⟨m, st, u, rfl, hms, hu, hc, k⟩ := h
    rfl
  · obtain ⟨m, st, u, rfl, hms, hu, hc, k⟩ := h
    have G_tell_place := ok_tell_place (P := P) (w := w) (base := base) T
    have G_Machine_push := ok_Machine_push (P := P) (w := w) (base := base) T
    refine ⟨_, (pss_cons (ps_set (i := 2) sc_q77.nd rfl (Or.inl v_q77_place) (pe_callE G_tell_place (hr.mono (by decide)) g_q77_tell_place pass_body (pa_cons (pe_var (i := 0) rfl (Or.inl v_q77_machine) nd_machine nc_machine) (pa_cons (pe_var (i := 1) rfl (Or.inl v_q77_w) nd_w nc_w) pa_nil)) nd_tell_place))
      (pss_cons (ps_set (i := 3) sc_q77.nd rfl (Or.inl v_q77_r) (pe_op op_and (pe_op op_shr (pe_var (i := 1) rfl (Or.inl v_q77_w) nd_w nc_w) pe_int) pe_int))
      (pss_cons (ps_expr (pe_methE G_Machine_push (hr.mono (by decide)) pass_body (pe_var (i := 0) rfl (Or.inl v_q77_machine) nd_machine nc_machine) (pa_cons (pe_ixLK (K := K) rfl (pe_fldK (K := K) rfl (pe_var (i := 0) rfl (Or.inl v_q77_machine) nd_machine nc_machine) rfl) (pe_var (i := 3) rfl (Or.inl v_q77_r) nd_r nc_r) (fun _ _ => rfl)) pa_nil)))
      (pss_cons (ps_asg (pe_ixLK (K := K) rfl (pe_fldK (K := K) rfl (pe_var (i := 0) rfl (Or.inl v_q77_machine) nd_machine nc_machine) rfl) (pe_globI g_q77_PC T.c_PC nd_PC) (fun _ _ => rfl)) (pg_sub (pe_fldK (K := K) rfl (pe_var (i := 0) rfl (Or.inl v_q77_machine) nd_machine nc_machine) rfl) (pe_var (i := 3) rfl (Or.inl v_q77_r) nd_r nc_r) set_list))
      (pss_one (ps_asg (pe_var (i := 2) rfl (Or.inl v_q77_place) nd_place nc_place) (pg_sub (pe_fldK (K := K) rfl (pe_var (i := 0) rfl (Or.inl v_q77_machine) nd_machine nc_machine) rfl) (pe_globI g_q77_PC T.c_PC nd_PC) set_list))))))), ?_⟩
    rw [ex_jsr hc] at k
    replace k : OutI C_Machine C_OddPlace C_NoInstruction m H st (if u / 8 % 8 = 0 then .none_ else Sz15.came ((goal st u).bind fun p => (p.1.push (p.1.reg (u / 64 % 8))).map fun b => (b.setReg (u / 64 % 8) b.pc).setReg 7 p.2)) Q E := by
      rw [← jsr_goal]; exact k
    walk_at "rd"
    refine ⟨m, st, u, rfl, hms, ?_⟩
    by_cases h8 : u / 8 % 8 = 0
    · rw [if_pos h8] at k ⊢
      exact Fall.at k hms .refl .refl
    · rw [if_neg h8] at k ⊢
      have hk8 : u / 64 % 8 < 8 := Nat.mod_lt _ (by decide)
      cases e : goal st u with
      | none => rw [e] at k; exact k
      | some p0 =>
        obtain ⟨st1, a⟩ := p0
        rw [e, Option.bind_some] at k
        dsimp only at k
        intro ha H1 h1 s1
        dsimp only at h1
        have ha' : a < 65536 := ha
        obtain ⟨dx2, S2, rs2, ms2, z1, z2, z3, rel2⟩ := h1.ex
        walk_at "rd"
        rw [show (6 : Int).toNat = 6 from rfl, sR, show (2 : Nat) ^ 6 = 64 from rfl, bA7]
        generalize u / 64 % 8 = kk at *
        refine rd_ixL (SqL.of z2) (rel2.get rfl hk8) ?_
        walk_at "rd"
        refine ⟨m, st1, 0, st1.reg kk, rfl, h1, rel2.wf.reg kk, ?_⟩
        cases ep : st1.push (st1.reg kk) with
        | none => rw [ep] at k; exact Fall.at k h1 (goal_same e) s1
        | some b_ =>
          rw [ep] at k
          intro H2 h2 s2
          dsimp only at h2
          obtain ⟨dx3, S3, rs3, ms3, y1, y2, y3, rel3⟩ := h2.ex
          walk_at "rd"
          refine rd_ixL (SqL.of y2) (rel3.get (k := 7) rfl (by decide)) ?_
          walk_at "rd"
          refine rd_setL y2 (rel3.ixR rfl hk8) ?_
          have hpc := rel3.wf.reg 7
          have qa := set_reg (C := C_Machine) y1 y2 y3 rel3 (k := kk) (v := ((b_.reg 7 : Nat) : Int)) (b_.reg 7) (by omega)
          obtain ⟨dx4, S4, rs4, ms4, x1, x2, x3, rel4⟩ := qa.1.ex
          walk_at "rd"
          refine rd_setL x2 (rel4.ixR (k := 7) rfl (by decide)) ?_
          have qb := set_reg (C := C_Machine) x1 x2 x3 rel4 (k := 7) (v := (a : Int)) a (by omega)
          exact k _ qb.1 (s1.trans (s2.trans (qa.2.trans qb.2)))
def c_rts (u : Nat) : Prop := u / 8 = 16
theorem ok_return_from_subroutine (T : Tx K mg C_Machine C_CallReader C_NoInstruction C_OddPlace C_UnknownCall) : GFn P w K mg base "return_from_subroutine" 3 ["machine", "w"] (sp_ins C_Machine C_OddPlace C_NoInstruction c_rts) := by
  obtain ⟨f, fd, F, hmg, b⟩ := T.d_return_from_subroutine
  refine ⟨⟨f, fd, F.okX (k := 2) sc_q78 (fun vs H Q E h => ?_) (fun cdv A outer s H vs Q E hr h => ?_), hmg, F.kp, b⟩⟩
  · obtain ⟨m, st, u, rfl, hms, hu, hc, k⟩ := h
    rfl
  · obtain ⟨m, st, u, rfl, hms, hu, hc, k⟩ := h
    have G_Machine_pull := ok_Machine_pull (P := P) (w := w) (base := base) T
    refine ⟨_, (pss_cons (ps_set (i := 2) sc_q78.nd rfl (Or.inl v_q78_r) (pe_op op_and (pe_var (i := 1) rfl (Or.inl v_q78_w) nd_w nc_w) pe_int))
      (pss_cons (ps_asg (pe_ixLK (K := K) rfl (pe_fldK (K := K) rfl (pe_var (i := 0) rfl (Or.inl v_q78_machine) nd_machine nc_machine) rfl) (pe_var (i := 2) rfl (Or.inl v_q78_r) nd_r nc_r) (fun _ _ => rfl)) (pg_sub (pe_fldK (K := K) rfl (pe_var (i := 0) rfl (Or.inl v_q78_machine) nd_machine nc_machine) rfl) (pe_globI g_q78_PC T.c_PC nd_PC) set_list))
      (pss_cons (ps_set (i := 3) sc_q78.nd rfl (Or.inl v_q78_word) (pe_meth0E G_Machine_pull (hr.mono (by decide)) pass_body (pe_var (i := 0) rfl (Or.inl v_q78_machine) nd_machine nc_machine)))
      (pss_one (ps_asg (pe_var (i := 3) rfl (Or.inl v_q78_word) nd_word nc_word) (pg_sub (pe_fldK (K := K) rfl (pe_var (i := 0) rfl (Or.inl v_q78_machine) nd_machine nc_machine) rfl) (pe_var (i := 2) rfl (Or.inl v_q78_r) nd_r nc_r) set_list)))))), ?_⟩
    obtain ⟨dx, S, rs, ms, e1, e2, e3, rel⟩ := hms.ex
    rw [ex_rts hc] at k
    have hk8 : u % 8 < 8 := Nat.mod_lt _ (by decide)
    walk_at "rd"
    rw [bA7]
    generalize u % 8 = kk at *
    refine rd_ixL (SqL.of e2) (rel.get rfl hk8) ?_
    walk_at "rd"
    refine rd_setL e2 (rel.ixR (k := 7) rfl (by decide)) ?_
    have hr := rel.wf.reg kk
    have q := set_reg (C := C_Machine) e1 e2 e3 rel (k := 7) (v := ((st.reg kk : Nat) : Int)) (st.reg kk) (by omega)
    obtain ⟨dx2, S2, rs2, ms2, z1, z2, z3, rel2⟩ := q.1.ex
    walk_at "rd"
    refine ⟨m, _, 0, rfl, q.1, ?_⟩
    cases ep : (st.setReg 7 (st.reg kk)).pull with
    | none => rw [ep] at k; exact Fall.at k q.1 .setReg q.2
    | some b_ =>
      obtain ⟨st2, x⟩ := b_
      rw [ep] at k
      have hx : x < 65536 := pull_lt q.1.wf ep
      intro H2 h2 s2
      dsimp only at h2
      obtain ⟨dx3, S3, rs3, ms3, y1, y2, y3, rel3⟩ := h2.ex
      walk_at "rd"
      refine rd_setL y2 (rel3.ixR rfl hk8) ?_
      have qa := set_reg (C := C_Machine) y1 y2 y3 rel3 (k := kk) (v := (x : Int)) x (by omega)
      exact k _ qa.1 (q.2.trans (s2.trans qa.2))
def c_mark (u : Nat) : Prop := u / 64 = 52
theorem ok_mark (T : Tx K mg C_Machine C_CallReader C_NoInstruction C_OddPlace C_UnknownCall) : GFn P w K mg base "mark" 3 ["machine", "w"] (sp_ins C_Machine C_OddPlace C_NoInstruction c_mark) := by
  obtain ⟨f, fd, F, hmg, b⟩ := T.d_mark
  refine ⟨⟨f, fd, F.okX (k := 2) sc_q79 (fun vs H Q E h => ?_) (fun cdv A outer s H vs Q E hr h => ?_), hmg, F.kp, b⟩⟩
  · obtain ⟨m, st, u, rfl, hms, hu, hc, k⟩ := h
    rfl
  · obtain ⟨m, st, u, rfl, hms, hu, hc, k⟩ := h
    have G_Machine_pull := ok_Machine_pull (P := P) (w := w) (base := base) T
    refine ⟨_, (pss_cons (ps_asg (pe_op op_mod (pe_op op_add (pe_ixLK (K := K) rfl (pe_fldK (K := K) rfl (pe_var (i := 0) rfl (Or.inl v_q79_machine) nd_machine nc_machine) rfl) (pe_globI g_q79_PC T.c_PC nd_PC) (fun _ _ => rfl)) (pe_op op_mul pe_int (pe_op op_and (pe_var (i := 1) rfl (Or.inl v_q79_w) nd_w nc_w) pe_int))) (pe_globI g_q79_WORD_RANGE T.c_WORD_RANGE nd_WORD_RANGE)) (pg_sub (pe_fldK (K := K) rfl (pe_var (i := 0) rfl (Or.inl v_q79_machine) nd_machine nc_machine) rfl) (pe_globI g_q79_SP T.c_SP nd_SP) set_list))
      (pss_cons (ps_asg (pe_ixLK (K := K) rfl (pe_fldK (K := K) rfl (pe_var (i := 0) rfl (Or.inl v_q79_machine) nd_machine nc_machine) rfl) (pe_globI g_q79_FRAME T.c_FRAME nd_FRAME) (fun _ _ => rfl)) (pg_sub (pe_fldK (K := K) rfl (pe_var (i := 0) rfl (Or.inl v_q79_machine) nd_machine nc_machine) rfl) (pe_globI g_q79_PC T.c_PC nd_PC) set_list))
      (pss_one (ps_asg (pe_meth0E G_Machine_pull (hr.mono (by decide)) pass_body (pe_var (i := 0) rfl (Or.inl v_q79_machine) nd_machine nc_machine)) (pg_sub (pe_fldK (K := K) rfl (pe_var (i := 0) rfl (Or.inl v_q79_machine) nd_machine nc_machine) rfl) (pe_globI g_q79_FRAME T.c_FRAME nd_FRAME) set_list))))), ?_⟩
    obtain ⟨dx, S, rs, ms, e1, e2, e3, rel⟩ := hms.ex
    rw [ex_mark hc] at k
    walk_at "rd"
    refine rd_ixL (SqL.of e2) (rel.get (k := 7) rfl (by decide)) ?_
    walk_at "rd"
    rw [bA63]
    refine rd_setL e2 (rel.ixR (k := 6) rfl (by decide)) ?_
    have q := set_reg (C := C_Machine) e1 e2 e3 rel (k := 6) (v := (((st.reg 7 : Nat) : Int) + 2 * ((u % 64 : Nat) : Int)) % 65536) (st.reg 7 + 2 * (u % 64)) (by omega)
    obtain ⟨dx2, S2, rs2, ms2, z1, z2, z3, rel2⟩ := q.1.ex
    walk_at "rd"
    refine rd_ixL (SqL.of z2) (rel2.get (k := 5) rfl (by decide)) ?_
    walk_at "rd"
    rw [reg_ne (show 6 ≠ 5 by decide)]
    refine rd_setL z2 (rel2.ixR (k := 7) rfl (by decide)) ?_
    have hr := rel.wf.reg 5
    have qa := set_reg (C := C_Machine) z1 z2 z3 rel2 (k := 7) (v := ((st.reg 5 : Nat) : Int)) (st.reg 5) (by omega)
    obtain ⟨dx3, S3, rs3, ms3, y1, y2, y3, rel3⟩ := qa.1.ex
    walk_at "rd"
    refine ⟨m, _, 0, rfl, qa.1, ?_⟩
    have k1 : OutI C_Machine C_OddPlace C_NoInstruction m H st (Sz15.came (((st.setReg 6 (st.reg 7 + 2 * (u % 64))).setReg 7 (st.reg 5)).pull.map fun b => b.1.setReg 5 b.2)) Q E := k
    cases ep : ((st.setReg 6 (st.reg 7 + 2 * (u % 64))).setReg 7 (st.reg 5)).pull with
    | none => rw [ep] at k1; exact Fall.at k1 qa.1 (Same.trans .setReg .setReg) (q.2.trans qa.2)
    | some b_ =>
      obtain ⟨st2, x⟩ := b_
      rw [ep] at k1
      have hx : x < 65536 := pull_lt qa.1.wf ep
      intro H2 h2 s2
      dsimp only at h2
      obtain ⟨dx4, S4, rs4, ms4, x1, x2, x3, rel4⟩ := h2.ex
      walk_at "rd"
      refine rd_setL x2 (rel4.ixR (k := 5) rfl (by decide)) ?_
      have qb := set_reg (C := C_Machine) x1 x2 x3 rel4 (k := 5) (v := (x : Int)) x (by omega)
      exact k1 _ qb.1 (q.2.trans (qa.2.trans (s2.trans qb.2)))
end
section
variable {P : Program} {w : World} {K : PySem.W.Frag} {mg : Str → Option Value} {base : Heap} {C_Machine C_CallReader C_NoInstruction C_OddPlace C_UnknownCall : Addr}
def c_flags (u : Nat) : Prop := 20 ≤ u / 8 ∧ u / 8 ≤ 23
theorem ok_change_flags (T : Tx K mg C_Machine C_CallReader C_NoInstruction C_OddPlace C_UnknownCall) : GFn P w K mg base "change_flags" 2 ["machine", "w"] (sp_ins C_Machine C_OddPlace C_NoInstruction c_flags) := by
  obtain ⟨f, fd, F, hmg, b⟩ := T.d_change_flags
  refine ⟨⟨f, fd, F.okX (k := 1) sc_q80 (fun vs H Q E h => ?_) (fun cdv A outer s H vs Q E hr h => ?_), hmg, F.kp, b⟩⟩
  · obtain ⟨m, st, u, rfl, hms, hu, hc, k⟩ := h
    rfl
  · obtain ⟨m, st, u, rfl, hms, hu, hc, k⟩ := h
    have G_Machine_set_status := ok_Machine_set_status (P := P) (w := w) (base := base) T
    have G_Machine_status_word := ok_Machine_status_word (P := P) (w := w) (base := base) T
    refine ⟨_, (pss_cons (ps_set (i := 2) sc_q80.nd rfl (Or.inl v_q80_bits) (pe_op op_and (pe_var (i := 1) rfl (Or.inl v_q80_w) nd_w nc_w) pe_int))
      (pss_one (ps_if (pt_truthK (K := K) rfl (pe_op op_and (pe_var (i := 1) rfl (Or.inl v_q80_w) nd_w nc_w) pe_int) (fun _ => rfl)) (pss_one (ps_expr (pe_methE G_Machine_set_status (hr.mono (by decide)) pass_body (pe_var (i := 0) rfl (Or.inl v_q80_machine) nd_machine nc_machine) (pa_cons (pe_op op_or (pe_meth0E G_Machine_status_word (hr.mono (by decide)) pass_body (pe_var (i := 0) rfl (Or.inl v_q80_machine) nd_machine nc_machine)) (pe_var (i := 2) rfl (Or.inl v_q80_bits) nd_bits nc_bits)) pa_nil)))) (pss_one (ps_expr (pe_methE G_Machine_set_status (hr.mono (by decide)) pass_body (pe_var (i := 0) rfl (Or.inl v_q80_machine) nd_machine nc_machine) (pa_cons (pe_op op_and (pe_meth0E G_Machine_status_word (hr.mono (by decide)) pass_body (pe_var (i := 0) rfl (Or.inl v_q80_machine) nd_machine nc_machine)) (pe_un un_inv (pe_var (i := 2) rfl (Or.inl v_q80_bits) nd_bits nc_bits))) pa_nil))))))), ?_⟩
    obtain ⟨dx, S, rs, ms, e1, e2, e3, rel⟩ := hms.ex
    rw [ex_flags hc] at k
    walk_at "rd"
    rw [bA15, show (16 : Int) = ((2 ^ 4 : Nat) : Int) from rfl, bA, nz_pow, show u.testBit 4 = decide (176 ≤ u) by
      rw [Nat.testBit_eq_decide_div_mod_eq]; unfold c_flags at hc; exact decide_eq_decide.mpr (by omega)]
    have hb : u % 16 < 16 := Nat.mod_lt _ (by decide)
    refine rd_ite (fun h => ?_) (fun h => ?_)
    · rw [decide_eq_true h] at k
      walk_at "rd"
      refine ⟨m, st, 0, rfl, hms, ?_⟩
      walk_at "rd"
      refine sp_ss hms (st.psw ||| u % 16) (bO _ _) fun H3 h3 s3 => ?_
      rw [flags_set rel.prlt hb, low_bit u (by decide), low_bit u (by decide), low_bit u (by decide), low_bit u (by decide)] at h3
      exact k H3 h3 s3
    · rw [decide_eq_false h] at k
      walk_at "rd"
      refine ⟨m, st, 0, rfl, hms, ?_⟩
      walk_at "rd"
      have hp := (psw_bits rel.prlt).1
      have hac := and_comp (n := 8) (d := st.psw) (s := u % 16) hp (Nat.lt_trans hb (by decide))
      refine sp_ss hms (st.psw &&& (2 ^ 8 - (u % 16 + 1))) ?_ fun H3 h3 s3 => ?_
      · rw [PyProof.Rows.bitAnd_not, bA, show 2 ^ 8 - (u % 16 + 1) = 2 ^ 8 - 1 - u % 16 by omega]
        omega
      · rw [flags_clr rel.prlt hb, low_bit u (by decide), low_bit u (by decide), low_bit u (by decide), low_bit u (by decide)] at h3
        exact k H3 h3 s3
theorem set_why {C m dx : Addr} {H : Hp} {S : FMachine} {rs ms : List V} {st : Sz15.St} {y : Int} (e1 : H m = some (.ins C dx (mf_Machine S))) (e2 : H S.registers = some (.lst rs)) (e3 : H S.memory = some (.lst ms)) (rel : Rel S rs ms st y) (y' : Int) :
    MSy C (upd H m (.ins C dx (mf_Machine { S with why := y' }))) m st y' ∧ Stp C m H (upd H m (.ins C dx (mf_Machine { S with why := y' }))) :=
  MSy.putFs e1 e2 e3 (S' := { S with why := y' }) rfl rfl (rel.setWhy y')
def c_w (j u : Nat) : Prop := u = j
theorem ok_halt (T : Tx K mg C_Machine C_CallReader C_NoInstruction C_OddPlace C_UnknownCall) : GFn P w K mg base "halt" 1 ["machine", "w"] (sp_ins C_Machine C_OddPlace C_NoInstruction (c_w 0)) := by
  obtain ⟨f, fd, F, hmg, b⟩ := T.d_halt
  refine ⟨⟨f, fd, F.okX (k := 0) sc_q81 (fun vs H Q E h => ?_) (fun cdv A outer s H vs Q E hr h => ?_), hmg, F.kp, b⟩⟩
  · obtain ⟨m, st, u, rfl, hms, hu, hc, k⟩ := h
    rfl
  · obtain ⟨m, st, u, rfl, hms, hu, hc, k⟩ := h
    refine ⟨_, (pss_one (ps_fldK (K := K) rfl (pe_var (i := 0) rfl (Or.inl v_q81_machine) nd_machine nc_machine) (pe_globI g_q81_HALTED T.c_HALTED nd_HALTED) rfl)), ?_⟩
    obtain ⟨dx, S, rs, ms, e1, e2, e3, rel⟩ := hms.ex
    obtain rfl : u = 0 := hc
    rw [ex_halt] at k
    walk_at "rd"
    rw [pt_Machine_why]
    have q := set_why (C := C_Machine) e1 e2 e3 rel 1
    exact k _ q.1 q.2
theorem ok_wait (T : Tx K mg C_Machine C_CallReader C_NoInstruction C_OddPlace C_UnknownCall) : GFn P w K mg base "wait" 1 ["machine", "w"] (sp_ins C_Machine C_OddPlace C_NoInstruction (c_w 1)) := by
  obtain ⟨f, fd, F, hmg, b⟩ := T.d_wait
  refine ⟨⟨f, fd, F.okX (k := 0) sc_q82 (fun vs H Q E h => ?_) (fun cdv A outer s H vs Q E hr h => ?_), hmg, F.kp, b⟩⟩
  · obtain ⟨m, st, u, rfl, hms, hu, hc, k⟩ := h
    rfl
  · obtain ⟨m, st, u, rfl, hms, hu, hc, k⟩ := h
    refine ⟨_, (pss_one (ps_fldK (K := K) rfl (pe_var (i := 0) rfl (Or.inl v_q82_machine) nd_machine nc_machine) (pe_globI g_q82_WAITING T.c_WAITING nd_WAITING) rfl)), ?_⟩
    obtain ⟨dx, S, rs, ms, e1, e2, e3, rel⟩ := hms.ex
    obtain rfl : u = 1 := hc
    rw [ex_wait] at k
    walk_at "rd"
    rw [pt_Machine_why]
    have q := set_why (C := C_Machine) e1 e2 e3 rel 2
    exact k _ q.1 q.2
def c_rti (u : Nat) : Prop := u = 2 ∨ u = 6
theorem pull_lt' {st st1 : Sz15.St} {x : Nat} (h : WF st) (e : st.pull = some (st1, x)) : x < 65536 := by
  unfold Sz15.St.pull at e
  obtain ⟨z, e1, e2⟩ := Option.map_eq_some_iff.mp e
  injection e2 with _ e3
  subst e3
  exact h.word e1
theorem pull_same {st st1 : Sz15.St} {x : Nat} (e : st.pull = some (st1, x)) : Same st st1 := by
  unfold Sz15.St.pull at e
  obtain ⟨z, _, e2⟩ := Option.map_eq_some_iff.mp e
  injection e2 with e3 _
  subst e3
  exact .setReg
theorem ok_return_from_interrupt (T : Tx K mg C_Machine C_CallReader C_NoInstruction C_OddPlace C_UnknownCall) : GFn P w K mg base "return_from_interrupt" 3 ["machine", "w"] (sp_ins C_Machine C_OddPlace C_NoInstruction c_rti) := by
  obtain ⟨f, fd, F, hmg, b⟩ := T.d_return_from_interrupt
  refine ⟨⟨f, fd, F.okX (k := 2) sc_q83 (fun vs H Q E h => ?_) (fun cdv A outer s H vs Q E hr h => ?_), hmg, F.kp, b⟩⟩
  · obtain ⟨m, st, u, rfl, hms, hu, hc, k⟩ := h
    rfl
  · obtain ⟨m, st, u, rfl, hms, hu, hc, k⟩ := h
    have G_Machine_pull := ok_Machine_pull (P := P) (w := w) (base := base) T
    have G_Machine_set_status := ok_Machine_set_status (P := P) (w := w) (base := base) T
    refine ⟨_, (pss_cons (ps_asg (pe_meth0E G_Machine_pull (hr.mono (by decide)) pass_body (pe_var (i := 0) rfl (Or.inl v_q83_machine) nd_machine nc_machine)) (pg_sub (pe_fldK (K := K) rfl (pe_var (i := 0) rfl (Or.inl v_q83_machine) nd_machine nc_machine) rfl) (pe_globI g_q83_PC T.c_PC nd_PC) set_list))
      (pss_one (ps_expr (pe_methE G_Machine_set_status (hr.mono (by decide)) pass_body (pe_var (i := 0) rfl (Or.inl v_q83_machine) nd_machine nc_machine) (pa_cons (pe_meth0E G_Machine_pull (hr.mono (by decide)) pass_body (pe_var (i := 0) rfl (Or.inl v_q83_machine) nd_machine nc_machine)) pa_nil))))), ?_⟩
    obtain ⟨dx, S, rs, ms, e1, e2, e3, rel⟩ := hms.ex
    rw [ex_rti hc] at k
    walk_at "rd"
    refine ⟨m, st, 0, rfl, hms, ?_⟩
    cases ea : st.pull with
    | none => rw [ea] at k; exact Fall.at k hms .refl .refl
    | some a =>
      obtain ⟨st1, pc⟩ := a
      rw [ea] at k
      have hpc := pull_lt' rel.wf ea
      have k1 : OutI C_Machine C_OddPlace C_NoInstruction m H st (Sz15.came (st1.pull.map fun b => (b.1.setReg 7 pc).setPsw b.2)) Q E := k
      intro H1 h1 s1
      dsimp only at h1
      obtain ⟨dx1, S1, rs1, ms1, z1, z2, z3, rel1⟩ := h1.ex
      walk_at "rd"
      refine rd_setL z2 (rel1.ixR (k := 7) rfl (by decide)) ?_
      have q := set_reg (C := C_Machine) z1 z2 z3 rel1 (k := 7) (v := (pc : Int)) pc (by omega)
      obtain ⟨dx2, S2, rs2, ms2, y1, y2, y3, rel2⟩ := q.1.ex
      walk_at "rd"
      refine ⟨m, _, 0, rfl, q.1, ?_⟩
      rw [pull_pc]
      cases eb : st1.pull with
      | none => rw [eb] at k1; exact Fall.at k1 q.1 ((pull_same ea).trans .setReg) (s1.trans q.2)
      | some b_ =>
        obtain ⟨st2, ps⟩ := b_
        rw [eb] at k1
        intro H2 h2 s2
        dsimp only at h2
        obtain ⟨dx3, S3, rs3, ms3, x1, x2, x3, rel3⟩ := h2.ex
        walk_at "rd"
        exact sp_ss h2 ps rfl fun H3 h3 s3 => k1 H3 h3 (s1.trans (q.2.trans (s2.trans s3)))
theorem ok_do_nothing (T : Tx K mg C_Machine C_CallReader C_NoInstruction C_OddPlace C_UnknownCall) : GFn P w K mg base "do_nothing" 1 ["machine", "w"] (sp_ins C_Machine C_OddPlace C_NoInstruction (c_w 5)) := by
  obtain ⟨f, fd, F, hmg, b⟩ := T.d_do_nothing
  refine ⟨⟨f, fd, F.okX (k := 0) sc_q84 (fun vs H Q E h => ?_) (fun cdv A outer s H vs Q E hr h => ?_), hmg, F.kp, b⟩⟩
  · obtain ⟨m, st, u, rfl, hms, hu, hc, k⟩ := h
    rfl
  · obtain ⟨m, st, u, rfl, hms, hu, hc, k⟩ := h
    refine ⟨_, (pss_one ps_pass), ?_⟩
    obtain rfl : u = 5 := hc
    rw [ex_reset] at k
    walk_at "rd"
    exact k _ hms .refl
theorem go_trap {C O N m : Addr} {H : Hp} {st : Sz15.St} {v : Nat} {Q : VK} {E : XK} (hms : MSy C H m st 0) (k : OutI C O N m H st (Sz15.came (Sz15.trap st v)) Q E) (hv : v ≤ 508) (h2 : v % 2 = 0) {Q' : VK} {v' : Int} (hv' : v' = (v : Int)) (hQ : ∀ H', Q .non H' → Q' .non H') : sp_interrupt C O [.ref m, .int v'] H Q' E := by
  subst hv'
  refine ⟨m, st, 0, v, rfl, hms, hv, h2, ?_⟩
  cases e : Sz15.trap st v with
  | none => rw [e] at k; exact Fall.at k hms .refl .refl
  | some st' => rw [e] at k; exact fun H1 h1 s1 => hQ _ (k H1 h1 s1)
theorem ok_break_point (T : Tx K mg C_Machine C_CallReader C_NoInstruction C_OddPlace C_UnknownCall) : GFn P w K mg base "break_point" 4 ["machine", "w"] (sp_ins C_Machine C_OddPlace C_NoInstruction (c_w 3)) := by
  obtain ⟨f, fd, F, hmg, b⟩ := T.d_break_point
  refine ⟨⟨f, fd, F.okX (k := 3) sc_q85 (fun vs H Q E h => ?_) (fun cdv A outer s H vs Q E hr h => ?_), hmg, F.kp, b⟩⟩
  · obtain ⟨m, st, u, rfl, hms, hu, hc, k⟩ := h
    rfl
  · obtain ⟨m, st, u, rfl, hms, hu, hc, k⟩ := h
    have G_Machine_interrupt := ok_Machine_interrupt (P := P) (w := w) (base := base) T
    refine ⟨_, (pss_one (ps_expr (pe_methE G_Machine_interrupt (hr.mono (by decide)) pass_body (pe_var (i := 0) rfl (Or.inl v_q85_machine) nd_machine nc_machine) (pa_cons (pe_globI g_q85_BREAK_VECTOR T.c_BREAK_VECTOR nd_BREAK_VECTOR) pa_nil)))), ?_⟩
    obtain ⟨dx, S, rs, ms, e1, e2, e3, rel⟩ := hms.ex
    obtain rfl : u = 3 := hc
    rw [ex_bpt] at k
    walk_at "rd"
    exact go_trap (v := 12) hms k (by decide) (by decide) (by decide) fun _ z => z
theorem ok_output_trap (T : Tx K mg C_Machine C_CallReader C_NoInstruction C_OddPlace C_UnknownCall) : GFn P w K mg base "output_trap" 4 ["machine", "w"] (sp_ins C_Machine C_OddPlace C_NoInstruction (c_w 4)) := by
  obtain ⟨f, fd, F, hmg, b⟩ := T.d_output_trap
  refine ⟨⟨f, fd, F.okX (k := 3) sc_q86 (fun vs H Q E h => ?_) (fun cdv A outer s H vs Q E hr h => ?_), hmg, F.kp, b⟩⟩
  · obtain ⟨m, st, u, rfl, hms, hu, hc, k⟩ := h
    rfl
  · obtain ⟨m, st, u, rfl, hms, hu, hc, k⟩ := h
    have G_Machine_interrupt := ok_Machine_interrupt (P := P) (w := w) (base := base) T
    refine ⟨_, (pss_one (ps_expr (pe_methE G_Machine_interrupt (hr.mono (by decide)) pass_body (pe_var (i := 0) rfl (Or.inl v_q86_machine) nd_machine nc_machine) (pa_cons (pe_globI g_q86_OUTPUT_VECTOR T.c_OUTPUT_VECTOR nd_OUTPUT_VECTOR) pa_nil)))), ?_⟩
    obtain ⟨dx, S, rs, ms, e1, e2, e3, rel⟩ := hms.ex
    obtain rfl : u = 4 := hc
    rw [ex_iot] at k
    walk_at "rd"
    exact go_trap (v := 16) hms k (by decide) (by decide) (by decide) fun _ z => z
def c_emt (u : Nat) : Prop := u / 256 = 136
theorem ok_emulator_trap (T : Tx K mg C_Machine C_CallReader C_NoInstruction C_OddPlace C_UnknownCall) : GFn P w K mg base "emulator_trap" 4 ["machine", "w"] (sp_ins C_Machine C_OddPlace C_NoInstruction c_emt) := by
  obtain ⟨f, fd, F, hmg, b⟩ := T.d_emulator_trap
  refine ⟨⟨f, fd, F.okX (k := 3) sc_q87 (fun vs H Q E h => ?_) (fun cdv A outer s H vs Q E hr h => ?_), hmg, F.kp, b⟩⟩
  · obtain ⟨m, st, u, rfl, hms, hu, hc, k⟩ := h
    rfl
  · obtain ⟨m, st, u, rfl, hms, hu, hc, k⟩ := h
    have G_Machine_interrupt := ok_Machine_interrupt (P := P) (w := w) (base := base) T
    refine ⟨_, (pss_one (ps_expr (pe_methE G_Machine_interrupt (hr.mono (by decide)) pass_body (pe_var (i := 0) rfl (Or.inl v_q87_machine) nd_machine nc_machine) (pa_cons (pe_globI g_q87_EMULATOR_VECTOR T.c_EMULATOR_VECTOR nd_EMULATOR_VECTOR) pa_nil)))), ?_⟩
    obtain ⟨dx, S, rs, ms, e1, e2, e3, rel⟩ := hms.ex
    rw [ex_emt hc] at k
    walk_at "rd"
    exact go_trap (v := 24) hms k (by decide) (by decide) (by decide) fun _ z => z
def c_trap (u : Nat) : Prop := u / 256 = 137
theorem ok_trap (T : Tx K mg C_Machine C_CallReader C_NoInstruction C_OddPlace C_UnknownCall) : GFn P w K mg base "trap" 4 ["machine", "w"] (sp_ins C_Machine C_OddPlace C_NoInstruction c_trap) := by
  obtain ⟨f, fd, F, hmg, b⟩ := T.d_trap
  refine ⟨⟨f, fd, F.okX (k := 3) sc_q88 (fun vs H Q E h => ?_) (fun cdv A outer s H vs Q E hr h => ?_), hmg, F.kp, b⟩⟩
  · obtain ⟨m, st, u, rfl, hms, hu, hc, k⟩ := h
    rfl
  · obtain ⟨m, st, u, rfl, hms, hu, hc, k⟩ := h
    have G_Machine_interrupt := ok_Machine_interrupt (P := P) (w := w) (base := base) T
    refine ⟨_, (pss_one (ps_expr (pe_methE G_Machine_interrupt (hr.mono (by decide)) pass_body (pe_var (i := 0) rfl (Or.inl v_q88_machine) nd_machine nc_machine) (pa_cons (pe_globI g_q88_TRAP_VECTOR T.c_TRAP_VECTOR nd_TRAP_VECTOR) pa_nil)))), ?_⟩
    obtain ⟨dx, S, rs, ms, e1, e2, e3, rel⟩ := hms.ex
    rw [ex_trap hc] at k
    walk_at "rd"
    exact go_trap (v := 28) hms k (by decide) (by decide) (by decide) fun _ z => z
end
section
variable {P : Program} {w : World} {K : PySem.W.Frag} {mg : Str → Option Value} {base : Heap} {C_Machine C_CallReader C_NoInstruction C_OddPlace C_UnknownCall : Addr}
def pick (u : Nat) : Option Str :=
  match valS tab_BY_TWO_DIGITS ((u / 4096 : Nat) : Int) with
  | some n => some n
  | none => match valS tab_BY_UPPER_BYTE ((u / 256 : Nat) : Int) with
    | some n => some n
    | none => match valS tab_BY_FOUR_DIGITS ((u / 64 : Nat) : Int) with
      | some n => some n
      | none => match valS tab_BY_THREE_DIGITS ((u / 512 : Nat) : Int) with
        | some n => some n
        | none => match valS tab_BY_FIVE_DIGITS ((u / 8 : Nat) : Int) with
          | some n => some n
          | none => valS tab_BY_WHOLE_WORD ((u : Nat) : Int)
theorem valS_mem {k : Int} {n : Str} : ∀ {ps : List (Int × Str)}, valS ps k = some n → (k, n) ∈ ps
  | [], e => by cases e
  | p :: ps, e => by
    unfold valS at e
    rw [List.find?_cons] at e
    by_cases z : p.1 = k
    · rw [decide_eq_true z] at e
      have e' : p.2 = n := Option.some.inj e
      subst e' z
      exact .head _
    · rw [decide_eq_false z] at e
      exact .tail _ (valS_mem e)
theorem valS_none {k : Int} : ∀ {ps : List (Int × Str)}, valS ps k = none → ∀ p ∈ ps, p.1 ≠ k
  | [], _, _, h => by cases h
  | q :: ps, e, p, h => by
    unfold valS at e
    rw [List.find?_cons] at e
    by_cases z : q.1 = k
    · rw [decide_eq_true z] at e; cases e
    · rw [decide_eq_false z] at e
      cases h with
      | head => exact z
      | tail _ h => exact valS_none e p h
theorem ktab_or {mg : Str → Option Value} {k : Int} : ∀ {ps : List (Int × Str)} {kvs : List (Int × Addr)}, Paired (fun (p : Int × Str) (q : Int × Addr) => p.1 = q.1 ∧ mg p.2 = some (.ref q.2)) ps kvs → valS ps k = none → valI kvs k = none
  | _, _, .nil, _ => rfl
  | _, _, .cons (a := p) (b := q) (l₁ := ps) (l₂ := kvs) h t, e => by
    unfold valS at e
    unfold valI
    rw [List.find?_cons] at e ⊢
    by_cases z : q.1 = k
    · rw [decide_eq_true (h.1.trans z)] at e; cases e
    · rw [decide_eq_false (fun y => z (h.1.symm.trans y))] at e
      rw [decide_eq_false z]
      exact ktab_or t e
theorem t1_all : ∀ p ∈ tab_BY_TWO_DIGITS, p.2 = "two_operands" ∧ ((1 ≤ p.1 ∧ p.1 ≤ 6) ∨ (9 ≤ p.1 ∧ p.1 ≤ 14)) := by decide +kernel
theorem t2_all : ∀ p ∈ tab_BY_UPPER_BYTE, (p.2 = "branch" ∧ ((1 ≤ p.1 ∧ p.1 ≤ 7) ∨ (128 ≤ p.1 ∧ p.1 ≤ 135))) ∨ (p.2 = "emulator_trap" ∧ p.1 = 136) ∨ (p.2 = "trap" ∧ p.1 = 137) := by decide +kernel
theorem t3_all : ∀ p ∈ tab_BY_FOUR_DIGITS, (p.2 = "one_operand" ∧ ((40 ≤ p.1 ∧ p.1 ≤ 51) ∨ (552 ≤ p.1 ∧ p.1 ≤ 563))) ∨ (p.2 = "jump" ∧ p.1 = 1) ∨ (p.2 = "swap_bytes" ∧ p.1 = 3) ∨ (p.2 = "mark" ∧ p.1 = 52) ∨ (p.2 = "extend_sign" ∧ p.1 = 55) := by decide +kernel
theorem t4_all : ∀ p ∈ tab_BY_THREE_DIGITS, (p.2 = "jump_to_subroutine" ∧ p.1 = 4) ∨ (p.2 = "multiply" ∧ p.1 = 56) ∨ (p.2 = "divide" ∧ p.1 = 57) ∨ (p.2 = "shift_word" ∧ p.1 = 58) ∨ (p.2 = "shift_pair" ∧ p.1 = 59) ∨ (p.2 = "exclusive_or" ∧ p.1 = 60) ∨ (p.2 = "count_down" ∧ p.1 = 63) := by decide +kernel
theorem t5_all : ∀ p ∈ tab_BY_FIVE_DIGITS, (p.2 = "return_from_subroutine" ∧ p.1 = 16) ∨ (p.2 = "change_flags" ∧ 20 ≤ p.1 ∧ p.1 ≤ 23) := by decide +kernel
theorem t6_all : ∀ p ∈ tab_BY_WHOLE_WORD, (p.2 = "halt" ∧ p.1 = 0) ∨ (p.2 = "wait" ∧ p.1 = 1) ∨ (p.2 = "return_from_interrupt" ∧ (p.1 = 2 ∨ p.1 = 6)) ∨ (p.2 = "break_point" ∧ p.1 = 3) ∨ (p.2 = "output_trap" ∧ p.1 = 4) ∨ (p.2 = "do_nothing" ∧ p.1 = 5) := by decide +kernel
theorem t1_no : ∀ k : Nat, k < 16 → valS tab_BY_TWO_DIGITS (k : Int) = none → k = 0 ∨ k = 7 ∨ k = 8 ∨ k = 15 := by decide +kernel
theorem t2_no : ∀ k : Nat, k < 256 → valS tab_BY_UPPER_BYTE (k : Int) = none → ¬ (1 ≤ k ∧ k ≤ 7) ∧ ¬ (128 ≤ k ∧ k ≤ 137) := by decide +kernel
theorem t3_no : ∀ k : Nat, k < 1024 → valS tab_BY_FOUR_DIGITS (k : Int) = none → k ≠ 1 ∧ k ≠ 3 ∧ k ≠ 52 ∧ k ≠ 55 ∧ ¬ (40 ≤ k ∧ k ≤ 51) ∧ ¬ (552 ≤ k ∧ k ≤ 563) := by decide +kernel
theorem t4_no : ∀ k : Nat, k < 128 → valS tab_BY_THREE_DIGITS (k : Int) = none → k ≠ 4 ∧ ¬ (56 ≤ k ∧ k ≤ 60) ∧ k ≠ 63 := by decide +kernel
theorem t5_no {k : Nat} (h : valS tab_BY_FIVE_DIGITS (k : Int) = none) : k ≠ 16 ∧ ¬ (20 ≤ k ∧ k ≤ 23) := by
  have a := valS_none h (16, "return_from_subroutine") (by decide +kernel)
  have b := valS_none h (20, "change_flags") (by decide +kernel)
  have c := valS_none h (21, "change_flags") (by decide +kernel)
  have d := valS_none h (22, "change_flags") (by decide +kernel)
  have e := valS_none h (23, "change_flags") (by decide +kernel)
  dsimp only at a b c d e
  omega
theorem t6_no {k : Nat} (h : valS tab_BY_WHOLE_WORD (k : Int) = none) : 7 ≤ k := by
  have a := valS_none h (0, "halt") (by decide +kernel)
  have b := valS_none h (1, "wait") (by decide +kernel)
  have c := valS_none h (2, "return_from_interrupt") (by decide +kernel)
  have d := valS_none h (3, "break_point") (by decide +kernel)
  have e := valS_none h (4, "output_trap") (by decide +kernel)
  have f := valS_none h (5, "do_nothing") (by decide +kernel)
  have g := valS_none h (6, "return_from_interrupt") (by decide +kernel)
  dsimp only at a b c d e f g
  omega
theorem exec_none {st : Sz15.St} {u : Nat} (hu : u < 65536) (h1 : u / 4096 = 0 ∨ u / 4096 = 7 ∨ u / 4096 = 8 ∨ u / 4096 = 15) (h2 : ¬ (1 ≤ u / 256 ∧ u / 256 ≤ 7) ∧ ¬ (128 ≤ u / 256 ∧ u / 256 ≤ 137))
    (h3 : u / 64 ≠ 1 ∧ u / 64 ≠ 3 ∧ u / 64 ≠ 52 ∧ u / 64 ≠ 55 ∧ ¬ (40 ≤ u / 64 ∧ u / 64 ≤ 51) ∧ ¬ (552 ≤ u / 64 ∧ u / 64 ≤ 563)) (h4 : u / 512 ≠ 4 ∧ ¬ (56 ≤ u / 512 ∧ u / 512 ≤ 60) ∧ u / 512 ≠ 63) (h5 : u / 8 ≠ 16 ∧ ¬ (20 ≤ u / 8 ∧ u / 8 ≤ 23)) (h6 : 7 ≤ u) : exec st u = .none_ := by
  unfold exec
  dsimp only
  rw [if_neg (by omega), if_neg (by omega)]
  by_cases h7 : u / 4096 % 8 = 7
  · rw [if_pos h7]
    by_cases hb : 32768 ≤ u
    · rw [if_pos (by simp only [decide_eq_true_eq]; exact hb)]
    · rw [if_neg (by simp only [decide_eq_true_eq]; exact hb)]
      have : u / 512 % 8 = 5 ∨ u / 512 % 8 = 6 := by omega
      rcases this with e | e <;> rw [e] <;> rfl
  · rw [if_neg h7, if_neg (by simp only [decide_eq_true_eq]; omega), if_neg (by simp only [decide_eq_true_eq]; omega), if_neg (by omega)]
    by_cases hb : 32768 ≤ u
    · rw [if_pos (by simp only [decide_eq_true_eq]; exact hb)]
    · rw [if_neg (by simp only [decide_eq_true_eq]; exact hb)]
      rw [if_neg (by omega), if_neg (by omega), if_neg (by omega), if_neg (by omega), if_neg (by omega), if_neg (by omega), if_neg (by omega), if_neg (by omega), if_neg (by omega), if_neg (by omega), if_neg (by omega), if_neg (by omega), if_neg (by omega)]
theorem pick_none {u : Nat} (hu : u < 65536) (h : pick u = none) (st : Sz15.St) : exec st u = .none_ := by
  unfold pick at h
  split at h
  · cases h
  rename_i a1
  split at h
  · cases h
  rename_i a2
  split at h
  · cases h
  rename_i a3
  split at h
  · cases h
  rename_i a4
  split at h
  · cases h
  rename_i a5
  exact exec_none hu (t1_no _ (by omega) a1) (t2_no _ (by omega) a2) (t3_no _ (by omega) a3) (t4_no _ (by omega) a4) (t5_no a5) (t6_no h)
inductive Does1 (u : Nat) : Str → Prop where
  | two : c_two u → Does1 u "two_operands"
  | branch : c_branch u → Does1 u "branch"
  | emt : c_emt u → Does1 u "emulator_trap"
  | trap : c_trap u → Does1 u "trap"
  | one : c_one u → Does1 u "one_operand"
  | jmp : c_jmp u → Does1 u "jump"
  | swab : c_swab u → Does1 u "swap_bytes"
  | mark : c_mark u → Does1 u "mark"
  | sxt : c_sxt u → Does1 u "extend_sign"
  | jsr : c_jsr u → Does1 u "jump_to_subroutine"
  | mul : c_mul u → Does1 u "multiply"
  | div : c_div u → Does1 u "divide"
  | ash : c_ash u → Does1 u "shift_word"
  | ashc : c_ashc u → Does1 u "shift_pair"
  | xor : c_xor u → Does1 u "exclusive_or"
  | sob : c_sob u → Does1 u "count_down"
  | rts : c_rts u → Does1 u "return_from_subroutine"
  | flags : c_flags u → Does1 u "change_flags"
  | halt : c_w 0 u → Does1 u "halt"
  | wait : c_w 1 u → Does1 u "wait"
  | rti : c_rti u → Does1 u "return_from_interrupt"
  | bpt : c_w 3 u → Does1 u "break_point"
  | iot : c_w 4 u → Does1 u "output_trap"
  | reset : c_w 5 u → Does1 u "do_nothing"
theorem pick_some {u : Nat} {n : Str} (h : pick u = some n) : Does1 u n := by
  unfold pick at h
  split at h
  · rename_i a1
    have e := Option.some.inj h
    subst e
    obtain ⟨e, z⟩ := t1_all _ (valS_mem a1)
    dsimp only at e z
    subst e
    exact .two (by unfold c_two; omega)
  split at h
  · rename_i a1
    have e := Option.some.inj h
    subst e
    rcases t2_all _ (valS_mem a1) with ⟨e, z⟩ | ⟨e, z⟩ | ⟨e, z⟩ <;> dsimp only at e z <;> subst e
    · exact .branch (by unfold c_branch; omega)
    · exact .emt (by unfold c_emt; omega)
    · exact .trap (by unfold c_trap; omega)
  split at h
  · rename_i a1
    have e := Option.some.inj h
    subst e
    rcases t3_all _ (valS_mem a1) with ⟨e, z⟩ | ⟨e, z⟩ | ⟨e, z⟩ | ⟨e, z⟩ | ⟨e, z⟩ <;> dsimp only at e z <;> subst e
    · exact .one (by unfold c_one; omega)
    · exact .jmp (by unfold c_jmp; omega)
    · exact .swab (by unfold c_swab; omega)
    · exact .mark (by unfold c_mark; omega)
    · exact .sxt (by unfold c_sxt; omega)
  split at h
  · rename_i a1
    have e := Option.some.inj h
    subst e
    rcases t4_all _ (valS_mem a1) with ⟨e, z⟩ | ⟨e, z⟩ | ⟨e, z⟩ | ⟨e, z⟩ | ⟨e, z⟩ | ⟨e, z⟩ | ⟨e, z⟩ <;> dsimp only at e z <;> subst e
    · exact .jsr (by unfold c_jsr; omega)
    · exact .mul (by unfold c_mul; omega)
    · exact .div (by unfold c_div; omega)
    · exact .ash (by unfold c_ash; omega)
    · exact .ashc (by unfold c_ashc; omega)
    · exact .xor (by unfold c_xor; omega)
    · exact .sob (by unfold c_sob; omega)
  split at h
  · rename_i a1
    have e := Option.some.inj h
    subst e
    rcases t5_all _ (valS_mem a1) with ⟨e, z⟩ | ⟨e, z⟩ <;> dsimp only at e z <;> subst e
    · exact .rts (by unfold c_rts; omega)
    · exact .flags (by unfold c_flags; omega)
  rcases t6_all _ (valS_mem h) with ⟨e, z⟩ | ⟨e, z⟩ | ⟨e, z⟩ | ⟨e, z⟩ | ⟨e, z⟩ | ⟨e, z⟩ <;> dsimp only at e z <;> subst e
  · exact .halt (by unfold c_w; omega)
  · exact .wait (by unfold c_w; omega)
  · exact .rti (by unfold c_rti; omega)
  · exact .bpt (by unfold c_w; omega)
  · exact .iot (by unfold c_w; omega)
  · exact .reset (by unfold c_w; omega)
theorem rd_isF3 {f : Addr} {A : Bool → Prop} {i : Decidable (V.ref f = V.non)} (h : A false) : V.non = V.non ∧ ∃ k, V.bl (@decide (V.ref f = V.non) i) = V.bl k ∧ A k := ⟨rfl, false, congrArg V.bl (decide_eq_false fun z => by cases z), h⟩
theorem rd_isT3 {A : Bool → Prop} {i : Decidable (V.non = V.non)} (h : A true) : V.non = V.non ∧ ∃ k, V.bl (@decide (V.non = V.non) i) = V.bl k ∧ A k := ⟨rfl, true, congrArg V.bl (decide_eq_true rfl), h⟩
local macro_rules | `(tactic| walk_at "rd2") => `(tactic| first | refine' rd_isF3 ?_ | refine' rd_isT3 ?_)
def sp_find (mg : Str → Option Value) (N : Addr) : Sp := fun vs H Q E => ∃ (u : Nat), vs = [.int (u : Nat)] ∧ u < 65536 ∧ (∀ n f, pick u = some n → mg n = some (.ref f) → Q (.ref f) H) ∧ (pick u = none → E (.ref N) none H)
theorem ok_find_work (T : Tx K mg C_Machine C_CallReader C_NoInstruction C_OddPlace C_UnknownCall) : GFn P w K mg base "find_work" 1 ["w"] (sp_find mg C_NoInstruction) := by
  obtain ⟨f, fd, F, hmg, b⟩ := T.d_find_work
  refine ⟨⟨f, fd, F.okX (k := 0) sc_q89 (fun vs H Q E h => ?_) (fun cdv A outer s H vs Q E hr h => ?_), hmg, F.kp, b⟩⟩
  · obtain ⟨u, rfl, hu, k, kn⟩ := h
    rfl
  · obtain ⟨u, rfl, hu, k, kn⟩ := h
    obtain ⟨a_BY_TWO_DIGITS, ha_BY_TWO_DIGITS, hd_BY_TWO_DIGITS⟩ := T.t_BY_TWO_DIGITS
    obtain ⟨a_BY_UPPER_BYTE, ha_BY_UPPER_BYTE, hd_BY_UPPER_BYTE⟩ := T.t_BY_UPPER_BYTE
    obtain ⟨a_BY_FOUR_DIGITS, ha_BY_FOUR_DIGITS, hd_BY_FOUR_DIGITS⟩ := T.t_BY_FOUR_DIGITS
    obtain ⟨a_BY_THREE_DIGITS, ha_BY_THREE_DIGITS, hd_BY_THREE_DIGITS⟩ := T.t_BY_THREE_DIGITS
    obtain ⟨a_BY_FIVE_DIGITS, ha_BY_FIVE_DIGITS, hd_BY_FIVE_DIGITS⟩ := T.t_BY_FIVE_DIGITS
    obtain ⟨a_BY_WHOLE_WORD, ha_BY_WHOLE_WORD, hd_BY_WHOLE_WORD⟩ := T.t_BY_WHOLE_WORD
    refine ⟨_, (pss_cons (ps_set (i := 1) sc_q89.nd rfl (Or.inl v_q89_work) (pe_kget1 (K := K) rfl (pe_glob (v := .ref a_BY_TWO_DIGITS) g_q89_BY_TWO_DIGITS ha_BY_TWO_DIGITS rfl nd_BY_TWO_DIGITS) (pe_op op_shr (pe_var (i := 0) rfl (Or.inl v_q89_w) nd_w nc_w) pe_int) ⟨rfl, rfl, rfl, rfl⟩))
      (pss_cons (ps_if (pt_cmpR op_isN (pe_var (i := 1) rfl (Or.inl v_q89_work) nd_work nc_work) pe_non (nomark _)) (pss_one (ps_set (i := 1) sc_q89.nd rfl (Or.inl v_q89_work) (pe_kget1 (K := K) rfl (pe_glob (v := .ref a_BY_UPPER_BYTE) g_q89_BY_UPPER_BYTE ha_BY_UPPER_BYTE rfl nd_BY_UPPER_BYTE) (pe_op op_shr (pe_var (i := 0) rfl (Or.inl v_q89_w) nd_w nc_w) pe_int) ⟨rfl, rfl, rfl, rfl⟩))) pss_nil)
      (pss_cons (ps_if (pt_cmpR op_isN (pe_var (i := 1) rfl (Or.inl v_q89_work) nd_work nc_work) pe_non (nomark _)) (pss_one (ps_set (i := 1) sc_q89.nd rfl (Or.inl v_q89_work) (pe_kget1 (K := K) rfl (pe_glob (v := .ref a_BY_FOUR_DIGITS) g_q89_BY_FOUR_DIGITS ha_BY_FOUR_DIGITS rfl nd_BY_FOUR_DIGITS) (pe_op op_shr (pe_var (i := 0) rfl (Or.inl v_q89_w) nd_w nc_w) pe_int) ⟨rfl, rfl, rfl, rfl⟩))) pss_nil)
      (pss_cons (ps_if (pt_cmpR op_isN (pe_var (i := 1) rfl (Or.inl v_q89_work) nd_work nc_work) pe_non (nomark _)) (pss_one (ps_set (i := 1) sc_q89.nd rfl (Or.inl v_q89_work) (pe_kget1 (K := K) rfl (pe_glob (v := .ref a_BY_THREE_DIGITS) g_q89_BY_THREE_DIGITS ha_BY_THREE_DIGITS rfl nd_BY_THREE_DIGITS) (pe_op op_shr (pe_var (i := 0) rfl (Or.inl v_q89_w) nd_w nc_w) pe_int) ⟨rfl, rfl, rfl, rfl⟩))) pss_nil)
      (pss_cons (ps_if (pt_cmpR op_isN (pe_var (i := 1) rfl (Or.inl v_q89_work) nd_work nc_work) pe_non (nomark _)) (pss_one (ps_set (i := 1) sc_q89.nd rfl (Or.inl v_q89_work) (pe_kget1 (K := K) rfl (pe_glob (v := .ref a_BY_FIVE_DIGITS) g_q89_BY_FIVE_DIGITS ha_BY_FIVE_DIGITS rfl nd_BY_FIVE_DIGITS) (pe_op op_shr (pe_var (i := 0) rfl (Or.inl v_q89_w) nd_w nc_w) pe_int) ⟨rfl, rfl, rfl, rfl⟩))) pss_nil)
      (pss_cons (ps_if (pt_cmpR op_isN (pe_var (i := 1) rfl (Or.inl v_q89_work) nd_work nc_work) pe_non (nomark _)) (pss_one (ps_set (i := 1) sc_q89.nd rfl (Or.inl v_q89_work) (pe_kget1 (K := K) rfl (pe_glob (v := .ref a_BY_WHOLE_WORD) g_q89_BY_WHOLE_WORD ha_BY_WHOLE_WORD rfl nd_BY_WHOLE_WORD) (pe_var (i := 0) rfl (Or.inl v_q89_w) nd_w nc_w) ⟨rfl, rfl, rfl, rfl⟩))) pss_nil)
      (pss_cons (ps_if (pt_cmpR op_isN (pe_var (i := 1) rfl (Or.inl v_q89_work) nd_work nc_work) pe_non (nomark _)) (pss_one (ps_raise rfl T.x_NoInstruction raise_body g_q89_NoInstruction (pa_cons (pe_fs3 (pe_var (i := 0) rfl (Or.inl v_q89_w) nd_w nc_w)) pa_nil) nd_NoInstruction)) pss_nil)
      (pss_one (ps_ret (pe_var (i := 1) rfl (Or.inl v_q89_work) nd_work nc_work)))))))))), ?_⟩
    obtain ⟨kv1, kd1, pr1⟩ := hd_BY_TWO_DIGITS
    obtain ⟨kv2, kd2, pr2⟩ := hd_BY_UPPER_BYTE
    obtain ⟨kv3, kd3, pr3⟩ := hd_BY_FOUR_DIGITS
    obtain ⟨kv4, kd4, pr4⟩ := hd_BY_THREE_DIGITS
    obtain ⟨kv5, kd5, pr5⟩ := hd_BY_FIVE_DIGITS
    obtain ⟨kv6, kd6, pr6⟩ := hd_BY_WHOLE_WORD
    walk_at "rd"
    refine ⟨_, kv1, rfl, kd1, ?_⟩
    walk_at "rd"
    rw [show (12 : Int).toNat = 12 from rfl, sR, show (2 : Nat) ^ 12 = 4096 from rfl]
    unfold pick at k kn
    cases v1 : valS tab_BY_TWO_DIGITS ((u / 4096 : Nat) : Int) with
    | some n =>
      obtain ⟨f_, a, b_⟩ := ktab_val pr1 v1
      rw [v1] at k
      rw [a]
      dsimp only [refO]
      walk_at "rd"
      exact k n f_ rfl b_
    | none =>
    rw [v1] at k kn
    rw [ktab_or pr1 v1]
    dsimp only [refO] at k kn ⊢
    walk_at "rd"
    refine ⟨_, kv2, rfl, kd2, ?_⟩
    walk_at "rd"
    rw [show (8 : Int).toNat = 8 from rfl, sR, show (2 : Nat) ^ 8 = 256 from rfl]
    cases v2 : valS tab_BY_UPPER_BYTE ((u / 256 : Nat) : Int) with
    | some n =>
      obtain ⟨f_, a, b_⟩ := ktab_val pr2 v2
      rw [v2] at k
      rw [a]
      dsimp only [refO]
      walk_at "rd"
      exact k n f_ rfl b_
    | none =>
    rw [v2] at k kn
    rw [ktab_or pr2 v2]
    dsimp only [refO] at k kn ⊢
    walk_at "rd"
    refine ⟨_, kv3, rfl, kd3, ?_⟩
    walk_at "rd"
    rw [show (6 : Int).toNat = 6 from rfl, sR, show (2 : Nat) ^ 6 = 64 from rfl]
    cases v3 : valS tab_BY_FOUR_DIGITS ((u / 64 : Nat) : Int) with
    | some n =>
      obtain ⟨f_, a, b_⟩ := ktab_val pr3 v3
      rw [v3] at k
      rw [a]
      dsimp only [refO]
      walk_at "rd"
      exact k n f_ rfl b_
    | none =>
    rw [v3] at k kn
    rw [ktab_or pr3 v3]
    dsimp only [refO] at k kn ⊢
    walk_at "rd"
    refine ⟨_, kv4, rfl, kd4, ?_⟩
    walk_at "rd"
    rw [show (9 : Int).toNat = 9 from rfl, sR, show (2 : Nat) ^ 9 = 512 from rfl]
    cases v4 : valS tab_BY_THREE_DIGITS ((u / 512 : Nat) : Int) with
    | some n =>
      obtain ⟨f_, a, b_⟩ := ktab_val pr4 v4
      rw [v4] at k
      rw [a]
      dsimp only [refO]
      walk_at "rd"
      exact k n f_ rfl b_
    | none =>
    rw [v4] at k kn
    rw [ktab_or pr4 v4]
    dsimp only [refO] at k kn ⊢
    walk_at "rd"
    refine ⟨_, kv5, rfl, kd5, ?_⟩
    walk_at "rd"
    rw [show (3 : Int).toNat = 3 from rfl, sR, show (2 : Nat) ^ 3 = 8 from rfl]
    cases v5 : valS tab_BY_FIVE_DIGITS ((u / 8 : Nat) : Int) with
    | some n =>
      obtain ⟨f_, a, b_⟩ := ktab_val pr5 v5
      rw [v5] at k
      rw [a]
      dsimp only [refO]
      walk_at "rd"
      exact k n f_ rfl b_
    | none =>
    rw [v5] at k kn
    rw [ktab_or pr5 v5]
    dsimp only [refO] at k kn ⊢
    walk_at "rd"
    refine ⟨_, kv6, rfl, kd6, ?_⟩
    walk_at "rd"
    cases v6 : valS tab_BY_WHOLE_WORD ((u : Nat) : Int) with
    | some n =>
      obtain ⟨f_, a, b_⟩ := ktab_val pr6 v6
      rw [v6] at k
      rw [a]
      dsimp only [refO]
      walk_at "rd"
      exact k n f_ rfl b_
    | none =>
    rw [v6] at kn
    rw [ktab_or pr6 v6]
    dsimp only [refO]
    walk_at "rd"
    refine ⟨log_small hu, fun s => ?_⟩
    walk_at "rd"
    exact ⟨by show 1 ≤ sizeLine; decide, kn rfl⟩
end
section
variable {P : Program} {w : World} {K : PySem.W.Frag} {mg : Str → Option Value} {base : Heap} {C_Machine C_CallReader C_NoInstruction C_OddPlace C_UnknownCall : Addr}
theorem OutI.to {C O N m : Addr} {H H1 : Hp} {st st1 : Sz15.St} {c : Sz15.Came} {Q Q' : VK} {E : XK} (k : OutI C O N m H st c Q E) (s : Stp C m H H1) (e : Same st st1) (hq : ∀ H', Q .non H' → Q' .non H') : OutI C O N m H1 st1 c Q' E := by
  cases c with
  | on n => exact fun H' h s' => hq H' (k H' h (s.trans s'))
  | halt_ n y => exact fun H' h s' => hq H' (k H' h (s.trans s'))
  | none_ => exact Fall.go k s e
  | odd => exact Fall.go k s e
def sp_do_next (C O N : Addr) : Sp := fun vs H Q E => ∃ (m : Addr) (st : Sz15.St), vs = [.ref m] ∧ MSy C H m st 0 ∧ OutI C O N m H st (Sz15.step st) Q E
theorem fetch_lt {st st1 : Sz15.St} {x : Nat} (h : WF st) (e : st.fetch = some (st1, x)) : x < 65536 := by
  unfold Sz15.St.fetch at e
  obtain ⟨z, e1, e2⟩ := Option.map_eq_some_iff.mp e
  injection e2 with _ e3
  subst e3
  exact h.word e1
theorem ok_do_next (T : Tx K mg C_Machine C_CallReader C_NoInstruction C_OddPlace C_UnknownCall) : GFn P w K mg base "do_next" 8 ["machine"] (sp_do_next C_Machine C_OddPlace C_NoInstruction) := by
  obtain ⟨f, fd, F, hmg, b⟩ := T.d_do_next
  refine ⟨⟨f, fd, F.okX (k := 7) sc_q90 (fun vs H Q E h => ?_) (fun cdv A outer s H vs Q E hr h => ?_), hmg, F.kp, b⟩⟩
  · obtain ⟨m, st, rfl, hms, k⟩ := h
    rfl
  · obtain ⟨m, st, rfl, hms, k⟩ := h
    have G_Machine_take_next_word := ok_Machine_take_next_word (P := P) (w := w) (base := base) T
    have G_find_work := ok_find_work (P := P) (w := w) (base := base) T
    have G_two_operands := ok_two_operands (P := P) (w := w) (base := base) T
    have G_branch := ok_branch (P := P) (w := w) (base := base) T
    have G_emulator_trap := ok_emulator_trap (P := P) (w := w) (base := base) T
    have G_trap := ok_trap (P := P) (w := w) (base := base) T
    have G_jump := ok_jump (P := P) (w := w) (base := base) T
    have G_swap_bytes := ok_swap_bytes (P := P) (w := w) (base := base) T
    have G_mark := ok_mark (P := P) (w := w) (base := base) T
    have G_extend_sign := ok_extend_sign (P := P) (w := w) (base := base) T
    have G_one_operand := ok_one_operand (P := P) (w := w) (base := base) T
    have G_jump_to_subroutine := ok_jump_to_subroutine (P := P) (w := w) (base := base) T
    have G_multiply := ok_multiply (P := P) (w := w) (base := base) T
    have G_divide := ok_divide (P := P) (w := w) (base := base) T
    have G_shift_word := ok_shift_word (P := P) (w := w) (base := base) T
    have G_shift_pair := ok_shift_pair (P := P) (w := w) (base := base) T
    have G_exclusive_or := ok_exclusive_or (P := P) (w := w) (base := base) T
    have G_count_down := ok_count_down (P := P) (w := w) (base := base) T
    have G_return_from_subroutine := ok_return_from_subroutine (P := P) (w := w) (base := base) T
    have G_change_flags := ok_change_flags (P := P) (w := w) (base := base) T
    have G_halt := ok_halt (P := P) (w := w) (base := base) T
    have G_wait := ok_wait (P := P) (w := w) (base := base) T
    have G_return_from_interrupt := ok_return_from_interrupt (P := P) (w := w) (base := base) T
    have G_break_point := ok_break_point (P := P) (w := w) (base := base) T
    have G_output_trap := ok_output_trap (P := P) (w := w) (base := base) T
    have G_do_nothing := ok_do_nothing (P := P) (w := w) (base := base) T
    refine ⟨_, (pss_cons (ps_set (i := 1) sc_q90.nd rfl (Or.inl v_q90_w) (pe_meth0E G_Machine_take_next_word (hr.mono (by decide)) pass_body (pe_var (i := 0) rfl (Or.inl v_q90_machine) nd_machine nc_machine)))
      (pss_cons (ps_set (i := 2) sc_q90.nd rfl (Or.inl v_q90_work) (pe_callE G_find_work (hr.mono (by decide)) g_q90_find_work pass_body (pa_cons (pe_var (i := 1) rfl (Or.inl v_q90_w) nd_w nc_w) pa_nil) nd_find_work))
      (pss_one (ps_expr (pe_callV (P := P) (w := w) (K := K) (mg := mg) (base := base) (k := 7) rfl rfl rfl rfl rfl hr pass_body (pe_var (i := 2) rfl (Or.inl v_q90_work) nd_work nc_work) (pa_cons (pe_var (i := 0) rfl (Or.inl v_q90_machine) nd_machine nc_machine) (pa_cons (pe_var (i := 1) rfl (Or.inl v_q90_w) nd_w nc_w) pa_nil))))))), ?_⟩
    obtain ⟨dx, S, rs, ms, e1, e2, e3, rel⟩ := hms.ex
    rw [step_exec] at k
    walk_at "rd"
    refine ⟨m, st, 0, rfl, hms, ?_⟩
    cases ef : st.fetch with
    | none => rw [ef] at k; exact Fall.at k hms .refl .refl
    | some p0 =>
      obtain ⟨st1, u⟩ := p0
      rw [ef] at k
      have hu := fetch_lt rel.wf ef
      have k1 : OutI C_Machine C_OddPlace C_NoInstruction m H st (exec st1 u) Q E := k
      intro H1 h1 s1
      dsimp only at h1
      walk_at "rd"
      refine ⟨u, rfl, hu, fun n f_ hn hf => ?_, fun hn => ?_⟩
      · have fin : ∀ (cond : Nat → Prop) (Q' : VK), (∀ H', Q .non H' → Q' .non H') → cond u → sp_ins C_Machine C_OddPlace C_NoInstruction cond [.ref m, .int (u : Nat)] H1 Q' E := fun cond Q' hq hc =>
          ⟨m, st1, u, rfl, h1, hu, hc, k1.to s1 (fetch_same ef) hq⟩
        have hd := pick_some hn
        clear hn k k1
        walk_at "rd"
        cases hd with
        | two hc =>
          refine ⟨f_, _, rfl, G_two_operands.gv hf (by decide), ?_⟩
          walk_at "rd"
          exact fin _ _ (fun _ z => z) hc
        | branch hc =>
          refine ⟨f_, _, rfl, G_branch.gv hf (by decide), ?_⟩
          walk_at "rd"
          exact fin _ _ (fun _ z => z) hc
        | emt hc =>
          refine ⟨f_, _, rfl, G_emulator_trap.gv hf (by decide), ?_⟩
          walk_at "rd"
          exact fin _ _ (fun _ z => z) hc
        | trap hc =>
          refine ⟨f_, _, rfl, G_trap.gv hf (by decide), ?_⟩
          walk_at "rd"
          exact fin _ _ (fun _ z => z) hc
        | one hc =>
          refine ⟨f_, _, rfl, G_one_operand.gv hf (by decide), ?_⟩
          walk_at "rd"
          exact fin _ _ (fun _ z => z) hc
        | jmp hc =>
          refine ⟨f_, _, rfl, G_jump.gv hf (by decide), ?_⟩
          walk_at "rd"
          exact fin _ _ (fun _ z => z) hc
        | swab hc =>
          refine ⟨f_, _, rfl, G_swap_bytes.gv hf (by decide), ?_⟩
          walk_at "rd"
          exact fin _ _ (fun _ z => z) hc
        | mark hc =>
          refine ⟨f_, _, rfl, G_mark.gv hf (by decide), ?_⟩
          walk_at "rd"
          exact fin _ _ (fun _ z => z) hc
        | sxt hc =>
          refine ⟨f_, _, rfl, G_extend_sign.gv hf (by decide), ?_⟩
          walk_at "rd"
          exact fin _ _ (fun _ z => z) hc
        | jsr hc =>
          refine ⟨f_, _, rfl, G_jump_to_subroutine.gv hf (by decide), ?_⟩
          walk_at "rd"
          exact fin _ _ (fun _ z => z) hc
        | mul hc =>
          refine ⟨f_, _, rfl, G_multiply.gv hf (by decide), ?_⟩
          walk_at "rd"
          exact fin _ _ (fun _ z => z) hc
        | div hc =>
          refine ⟨f_, _, rfl, G_divide.gv hf (by decide), ?_⟩
          walk_at "rd"
          exact fin _ _ (fun _ z => z) hc
        | ash hc =>
          refine ⟨f_, _, rfl, G_shift_word.gv hf (by decide), ?_⟩
          walk_at "rd"
          exact fin _ _ (fun _ z => z) hc
        | ashc hc =>
          refine ⟨f_, _, rfl, G_shift_pair.gv hf (by decide), ?_⟩
          walk_at "rd"
          exact fin _ _ (fun _ z => z) hc
        | xor hc =>
          refine ⟨f_, _, rfl, G_exclusive_or.gv hf (by decide), ?_⟩
          walk_at "rd"
          exact fin _ _ (fun _ z => z) hc
        | sob hc =>
          refine ⟨f_, _, rfl, G_count_down.gv hf (by decide), ?_⟩
          walk_at "rd"
          exact fin _ _ (fun _ z => z) hc
        | rts hc =>
          refine ⟨f_, _, rfl, G_return_from_subroutine.gv hf (by decide), ?_⟩
          walk_at "rd"
          exact fin _ _ (fun _ z => z) hc
        | flags hc =>
          refine ⟨f_, _, rfl, G_change_flags.gv hf (by decide), ?_⟩
          walk_at "rd"
          exact fin _ _ (fun _ z => z) hc
        | halt hc =>
          refine ⟨f_, _, rfl, G_halt.gv hf (by decide), ?_⟩
          walk_at "rd"
          exact fin _ _ (fun _ z => z) hc
        | wait hc =>
          refine ⟨f_, _, rfl, G_wait.gv hf (by decide), ?_⟩
          walk_at "rd"
          exact fin _ _ (fun _ z => z) hc
        | rti hc =>
          refine ⟨f_, _, rfl, G_return_from_interrupt.gv hf (by decide), ?_⟩
          walk_at "rd"
          exact fin _ _ (fun _ z => z) hc
        | bpt hc =>
          refine ⟨f_, _, rfl, G_break_point.gv hf (by decide), ?_⟩
          walk_at "rd"
          exact fin _ _ (fun _ z => z) hc
        | iot hc =>
          refine ⟨f_, _, rfl, G_output_trap.gv hf (by decide), ?_⟩
          walk_at "rd"
          exact fin _ _ (fun _ z => z) hc
        | reset hc =>
          refine ⟨f_, _, rfl, G_do_nothing.gv hf (by decide), ?_⟩
          walk_at "rd"
          exact fin _ _ (fun _ z => z) hc
      · rw [pick_none hu hn] at k1
        exact Fall.at k1 h1 (fetch_same ef) s1
theorem Stp.swap {C m b dx : Addr} {H H2 : Hp} {S2 : FMachine} {y : Int} (s : Stp C m H H2) (e1 : H2 m = some (.ins C dx (mf_Machine S2))) (hb : H b = none) : Stp C m H (upd H2 m (.ins C dx (mf_Machine { S2 with registers := b, why := y }))) := by
  refine ⟨fun c o h n => ?_, fun c q => ?_, fun c q => ?_⟩
  · have z : c ≠ m := fun z => n (.inl z)
    rw [upd_ne z]
    exact s.keep c o h n
  · rw [fp_of (S := { S2 with registers := b, why := y }) upd_same] at q
    rcases q with q | q | q
    · exact .inl (.inl q)
    · rw [show c = b from q]; exact .inr hb
    · exact s.fp c (by rw [fp_of e1]; exact .inr (.inr q))
  · by_cases z : c = m
    · rw [z, upd_same] at q; cases q
    · rw [upd_ne z] at q
      exact s.there c q
theorem back {C m b dx2 : Addr} {H2 : Hp} {S S2 : FMachine} {rs ms rs2 ms2 : List V} {st st' : Sz15.St} {y : Int} (rel : Rel S rs ms st 0) (e1 : H2 m = some (.ins C dx2 (mf_Machine S2))) (e3 : H2 S2.memory = some (.lst ms2)) (rel2 : Rel S2 rs2 ms2 st' 0) (sm : Same st st') (hb2 : H2 b = some (.lst rs)) :
    MSy C (upd H2 m (.ins C dx2 (mf_Machine { S2 with registers := b, why := y }))) m st y := by
  have nb : b ≠ m := (ne_of e1 hb2 (by intro z; cases z)).symm
  have nm : S2.memory ≠ m := (ne_of e1 e3 (by intro z; cases z)).symm
  refine ⟨dx2, { S2 with registers := b, why := y }, rs, ms2, upd_same, by rw [upd_ne nb]; exact hb2, by rw [upd_ne nm]; exact e3, ⟨rel.rs, rel.rlen, rel.rlt, rel2.mlen, ?_, rel.mlt, ?_, rel.prlt, ?_, ?_, ?_, ?_, rfl⟩⟩
  · intro i hi
    rw [rel2.mget i hi, sm.mem]
  · show S2.priority = _
    rw [rel2.pr, sm.pr]
  · show S2.negative = _
    rw [rel2.n, sm.n]
  · show S2.zero = _
    rw [rel2.z, sm.z]
  · show S2.overflow = _
    rw [rel2.v, sm.v]
  · show S2.carry = _
    rw [rel2.c, sm.c]
def sp_do_one (C : Addr) : Sp := fun vs H Q _ => ∃ (m : Addr) (st : Sz15.St), vs = [.ref m] ∧ MSy C H m st 0 ∧ Ret C m H (one1 st).1 ((one1 st).2.1 : Nat) (.int ((one1 st).2.2 : Nat)) Q
theorem pt_swap (S : FMachine) (b : Addr) (y : Int) : putF "registers" (.ref b) (putF "why" (.int y) (mf_Machine S)) = mf_Machine { S with registers := b, why := y } := by
  rw [pt_Machine_why, pt_Machine_registers]
theorem ok_do_one (T : Tx K mg C_Machine C_CallReader C_NoInstruction C_OddPlace C_UnknownCall) : GFn P w K mg base "do_one" 9 ["machine"] (sp_do_one C_Machine) := by
  obtain ⟨f, fd, F, hmg, b⟩ := T.d_do_one
  refine ⟨⟨f, fd, F.okX (k := 8) sc_q92 (fun vs H Q E h => ?_) (fun cdv A outer s H vs Q E hr h => ?_), hmg, F.kp, b⟩⟩
  · obtain ⟨m, st, rfl, hms, k⟩ := h
    rfl
  · obtain ⟨m, st, rfl, hms, k⟩ := h
    have G_do_next := ok_do_next (P := P) (w := w) (base := base) T
    refine ⟨_, (pss_cons (ps_set (i := 1) sc_q92.nd rfl (Or.inl v_q92_before) (pe_listK (K := K) rfl g_q92_list T.b_list (pa_cons (pe_fldK (K := K) rfl (pe_var (i := 0) rfl (Or.inl v_q92_machine) nd_machine nc_machine) rfl) pa_nil)))
      (pss_cons (ps_tryE rfl rfl (fun _ _ => (pss_one (ps_expr (pe_callE G_do_next (hr.mono (by decide)) g_q92_do_next pass_try (pa_cons (pe_var (i := 0) rfl (Or.inl v_q92_machine) nd_machine nc_machine) pa_nil) nd_do_next)))) (hd_cons T.x_NoInstruction.bound g_q92_NoInstruction (fun _ => (pss_one (ps_fldK (K := K) rfl (pe_var (i := 0) rfl (Or.inl v_q92_machine) nd_machine nc_machine) (pe_globI g_q92_NOT_ONE T.c_NOT_ONE nd_NOT_ONE) rfl))) (hd_cons T.x_OddPlace.bound g_q92_OddPlace (fun _ => (pss_one (ps_fldK (K := K) rfl (pe_var (i := 0) rfl (Or.inl v_q92_machine) nd_machine nc_machine) (pe_globI g_q92_AT_ODD_PLACE T.c_AT_ODD_PLACE nd_AT_ODD_PLACE) rfl))) hd_nil nd_OddPlace) nd_NoInstruction) (pss_one (ps_ret pe_int)))
      (pss_cons (ps_fldK (K := K) rfl (pe_var (i := 0) rfl (Or.inl v_q92_machine) nd_machine nc_machine) (pe_var (i := 1) rfl (Or.inl v_q92_before) nd_before nc_before) rfl)
      (pss_one (ps_ret pe_int))))), ?_⟩
    obtain ⟨dx, S, rs, ms, e1, e2, e3, rel⟩ := hms.ex
    walk_at "rd"
    refine rd_listOf (SqL.of e2) fun b_ hb => ?_
    have h1 := hms.new (o := .lst rs) hb
    have s1 : Stp C_Machine m H (upd H b_ (.lst rs)) := .new hb hms.there
    have nb : ¬ fpM C_Machine (upd H b_ (.lst rs)) m b_ := nfp_new2 hms hb
    have tb : upd H b_ (.lst rs) b_ = some (.lst rs) := upd_same
    generalize upd H b_ (.lst rs) = H1 at *
    walk_at "rd"
    refine ⟨m, st, rfl, h1, ?_⟩
    unfold one1 at k
    cases es : Sz15.step st with
    | on n =>
      rw [es] at k
      intro H2 h2 s2
      walk_at "rd"
      exact k H2 h2 (s1.trans s2)
    | halt_ n y =>
      rw [es] at k
      intro H2 h2 s2
      walk_at "rd"
      exact k H2 h2 (s1.trans s2)
    | none_ =>
      rw [es] at k
      intro st' H2 h2 sm s2
      have t2 := s2.keep b_ _ tb nb
      obtain ⟨dx2, S2, rs2, ms2, z1, z2, z3, rel2⟩ := h2.ex
      refine .inl ⟨T.q_NoInstruction_NoInstruction, ?_⟩
      walk_at "rd"
      rw [pt_Machine_why]
      walk_at "rd"
      rw [upd_upd, pt_Machine_registers]
      have b1 := back (C := C_Machine) (y := 3) (S2 := S2) rel z1 z3 rel2 sm t2
      have b2 := Stp.swap (C := C_Machine) (S2 := S2) (y := 3) (s1.trans s2) z1 hb
      exact k _ b1 b2
    | odd =>
      rw [es] at k
      intro st' H2 h2 sm s2
      have t2 := s2.keep b_ _ tb nb
      obtain ⟨dx2, S2, rs2, ms2, z1, z2, z3, rel2⟩ := h2.ex
      refine .inr ⟨T.q_OddPlace_NoInstruction, .inl ⟨T.q_OddPlace_OddPlace, ?_⟩⟩
      walk_at "rd"
      rw [pt_Machine_why]
      walk_at "rd"
      rw [upd_upd, pt_Machine_registers]
      have b1 := back (C := C_Machine) (y := 4) (S2 := S2) rel z1 z3 rel2 sm t2
      have b2 := Stp.swap (C := C_Machine) (S2 := S2) (y := 4) (s1.trans s2) z1 hb
      exact k _ b1 b2
theorem MSy.anyWhy {C m : Addr} {H : Hp} {st : Sz15.St} {y : Int} (h : MSy C H m st y) (k : Nat) : MSy C H m { st with why := k } y := by
  obtain ⟨dx, S, rs, ms, e1, e2, e3, r⟩ := h.ex
  exact ⟨dx, S, rs, ms, e1, e2, e3, ⟨r.rs, r.rlen, r.rlt, r.mlen, r.mget, r.mlt, r.pr, r.prlt, r.n, r.z, r.v, r.c, r.why⟩⟩
def Mid (n : Nat) (st : Sz15.St) (d : Nat) (cur : Sz15.St) (y : Nat) : Prop := d ≤ n ∧
  ((y = 0 ∧ Sz15.steps n st = ((Sz15.steps (n - d) cur).1, (Sz15.steps (n - d) cur).2 + d)) ∨ (y ≠ 0 ∧ Sz15.steps n st = ({ cur with why := y }, d)))
theorem Mid.next {n d : Nat} {st cur : Sz15.St} (h : Mid n st d cur 0) (hd : d < n) : Mid n st (d + (one1 cur).2.2) (one1 cur).1 (one1 cur).2.1 := by
  obtain ⟨_, h | h⟩ := h
  · obtain ⟨_, e⟩ := h
    obtain ⟨k, hk⟩ : ∃ k, n - d = k + 1 := ⟨n - d - 1, by omega⟩
    have hl := one1_le cur
    by_cases z : (one1 cur).2.1 = 0
    · have h1 := one1_on z
      refine ⟨by omega, .inl ⟨z, ?_⟩⟩
      rw [e, hk, steps_on z, show n - (d + (one1 cur).2.2) = k by omega]
      dsimp only
      rw [show (Sz15.steps k (one1 cur).1).2 + (one1 cur).2.2 + d = (Sz15.steps k (one1 cur).1).2 + (d + (one1 cur).2.2) by omega]
    · refine ⟨by omega, .inr ⟨z, ?_⟩⟩
      rw [e, hk, steps_stop z]
      dsimp only
      rw [Nat.add_comm]
  · exact absurd rfl h.1
theorem Mid.fin {n d y : Nat} {st cur : Sz15.St} (h : Mid n st d cur y) (hz : y ≠ 0 ∨ d = n) : Sz15.steps n st = ({ cur with why := y }, d) := by
  obtain ⟨_, ⟨h0, e⟩ | ⟨_, e⟩⟩ := h
  · rcases hz with hz | hz
    · exact absurd h0 hz
    · rw [e, hz, Nat.sub_self, h0]
      show ({ cur with why := 0 }, 0 + n) = _
      rw [Nat.zero_add]
  · exact e
def sp_run (C : Addr) : Sp := fun vs H Q _ => ∃ (m : Addr) (st : Sz15.St) (y : Int) (n : Nat), vs = [.ref m, .int (n : Nat)] ∧ MSy C H m st y ∧ Ret C m H (Sz15.steps n st).1 (((Sz15.steps n st).1.why : Nat) : Int) (.int (((Sz15.steps n st).2 : Nat) : Int)) Q
theorem ok_run (T : Tx K mg C_Machine C_CallReader C_NoInstruction C_OddPlace C_UnknownCall) : GFn P w K mg base "run" 10 ["machine", "n"] (sp_run C_Machine) := by
  obtain ⟨f, fd, F, hmg, b⟩ := T.d_run
  refine ⟨⟨f, fd, F.okX (k := 9) sc_q91 (fun vs H Q E h => ?_) (fun cdv A outer s H vs Q E hr h => ?_), hmg, F.kp, b⟩⟩
  · obtain ⟨m, st, y, n, rfl, hms, k⟩ := h
    rfl
  · obtain ⟨m, st, y, n, rfl, hms, k⟩ := h
    have G_do_one := ok_do_one (P := P) (w := w) (base := base) T
    refine ⟨_, (pss_cons (ps_fldK (K := K) rfl (pe_var (i := 0) rfl (Or.inl v_q91_machine) nd_machine nc_machine) (pe_globI g_q91_ALL_DONE T.c_ALL_DONE nd_ALL_DONE) rfl)
      (pss_cons (ps_set (i := 2) sc_q91.nd rfl (Or.inl v_q91_done) pe_int)
      (pss_cons (ps_while PassesOwn.leaving (PW.pt (pw_and (pt_cmpR op_lt (pe_var (i := 2) rfl (Or.inl v_q91_done) nd_done nc_done) (pe_var (i := 1) rfl (Or.inl v_q91_n) nd_n nc_n) (nomark _)) (pw_and1 (pt_cmpR op_eq (pe_fldK (K := K) rfl (pe_var (i := 0) rfl (Or.inl v_q91_machine) nd_machine nc_machine) rfl) (pe_globI g_q91_ALL_DONE T.c_ALL_DONE nd_ALL_DONE) (nomark _))))) (pss_one (ps_aug (i := 2) sc_q91.nd rfl (Or.inl v_q91_done) (pe_callE G_do_one (hr.mono (by decide)) g_q91_do_one pass_body (pa_cons (pe_var (i := 0) rfl (Or.inl v_q91_machine) nd_machine nc_machine) pa_nil) nd_do_one) iop_add)))
      (pss_one (ps_ret (pe_var (i := 2) rfl (Or.inl v_q91_done) nd_done nc_done)))))), ?_⟩
    obtain ⟨dx, S, rs, ms, e1, e2, e3, rel⟩ := hms.ex
    walk_at "rd"
    rw [pt_Machine_why]
    have q := set_why (C := C_Machine) e1 e2 e3 rel 0
    walk_at "rd"
    refine ⟨fun μ σ H' => ∃ (d : Nat) (cur : Sz15.St) (y' : Nat), μ = 2 * (n - d) + (if y' = 0 then 1 else 0) ∧ σ = [some (.ref m), some (.int (n : Nat)), some (.int (d : Nat))] ∧ MSy C_Machine H' m cur (y' : Nat) ∧ Stp C_Machine m H H' ∧ Mid n st d cur y', ⟨_, 0, st, 0, rfl, rfl, q.1, q.2, Nat.zero_le _, .inl ⟨rfl, by rw [Nat.sub_zero]; rfl⟩⟩, ?_⟩
    rintro μ σ H1 ⟨d, cur, y', rfl, rfl, h1, s1, mid⟩
    obtain ⟨dx1, S1, rs1, ms1, z1, z2, z3, rel1⟩ := h1.ex
    have stop : (y' ≠ 0 ∨ d = n) → Q (.int ((d : Nat) : Int)) H1 := fun hz => by
      rw [mid.fin hz] at k
      exact k H1 (h1.anyWhy y') s1
    walk_at "rd"
    refine rd_ite (fun hlt => ?_) (fun hlt => ?_)
    · walk_at "rd"
      rw [rel1.why]
      refine rd_ite (fun hy0 => ?_) (fun hy0 => ?_)
      · obtain rfl : y' = 0 := by omega
        refine ⟨fun σ' H' => ∃ (d' : Nat) (cur' : Sz15.St) (y2 : Nat), 2 * (n - d') + (if y2 = 0 then 1 else 0) < 2 * (n - d) + 1 ∧ σ' = [some (.ref m), some (.int (n : Nat)), some (.int (d' : Nat))] ∧ MSy C_Machine H' m cur' (y2 : Nat) ∧ Stp C_Machine m H H' ∧ Mid n st d' cur' y2, ?_, ?_⟩
        · rintro σ' H' ⟨d', cur', y2, hl, rfl, h2, s2, mid2⟩
          exact ⟨_, hl, d', cur', y2, rfl, rfl, h2, s2, mid2⟩
        · walk_at "rd"
          refine rd_aug rfl ?_
          walk_at "rd"
          refine ⟨m, cur, rfl, h1, fun H2 h2 s2 => ?_⟩
          walk_at "rd"
          have md := mid.next (by omega)
          refine ⟨d + (one1 cur).2.2, (one1 cur).1, (one1 cur).2.1, ?_, by rw [Int.natCast_add]; rfl, h2, s1.trans s2, md⟩
          have hl := one1_le cur
          by_cases z : (one1 cur).2.1 = 0
          · have := one1_on z
            rw [if_pos z]
            omega
          · rw [if_neg z]
            omega
      · walk_at "rd"
        exact stop (.inl fun z => hy0 (by rw [z]; rfl))
    · walk_at "rd"
      exact stop (.inr (by have := mid.1; omega))
def sp_pd_get (CM : Addr) : Sp := fun vs H Q _ => ∃ (m : Addr) (k : Int) (st : Sz15.St), vs = [.ref m, .int k] ∧ MS CM H m st ∧ Does CM m st (.get k) H Q
theorem le1 {a : V} : [a].length ≤ sizeLine := by show 1 ≤ sizeLine; decide
theorem ok_pd_get (T : Tx K mg C_Machine C_CallReader C_NoInstruction C_OddPlace C_UnknownCall) : GFn P w K mg base "pd_get" 2 ["machine", "which"] (sp_pd_get C_Machine) := by
  obtain ⟨f, fd, F, hmg, b⟩ := T.d_pd_get
  refine ⟨⟨f, fd, F.okX (k := 1) sc_q99 (fun vs H Q E h => ?_) (fun cdv A outer s H vs Q E hr h => ?_), hmg, F.kp, b⟩⟩
  · obtain ⟨m, wh, st, rfl, hms, k⟩ := h
    rfl
  · obtain ⟨m, wh, st, rfl, hms, k⟩ := h
    have G_Machine_status_word := ok_Machine_status_word (P := P) (w := w) (base := base) T
    refine ⟨_, (pss_cons (ps_if (pt_chain op_le op_lt pe_int (pe_var (i := 1) rfl (Or.inl v_q99_which) nd_which nc_which) (pe_globI g_q99_REGISTER_COUNT T.c_REGISTER_COUNT nd_REGISTER_COUNT)) (pss_one (ps_ret (pe_lst (pa_cons (pe_ixLK (K := K) rfl (pe_fldK (K := K) rfl (pe_var (i := 0) rfl (Or.inl v_q99_machine) nd_machine nc_machine) rfl) (pe_var (i := 1) rfl (Or.inl v_q99_which) nd_which nc_which) (fun _ _ => rfl)) pa_nil)))) pss_nil)
      (pss_cons (ps_if (pt_cmpR op_eq (pe_var (i := 1) rfl (Or.inl v_q99_which) nd_which nc_which) (pe_globI g_q99_STATUS_WORD T.c_STATUS_WORD nd_STATUS_WORD) (nomark _)) (pss_one (ps_ret (pe_lst (pa_cons (pe_meth0E G_Machine_status_word (hr.mono (by decide)) pass_body (pe_var (i := 0) rfl (Or.inl v_q99_machine) nd_machine nc_machine)) pa_nil)))) pss_nil)
      (pss_one (ps_ret (pe_lst (pa_cons (pe_globI g_q99_REFUSED T.c_REFUSED nd_REFUSED) pa_nil)))))), ?_⟩
    obtain ⟨dx, S, rs, ms, e1, e2, e3, rel⟩ := hms.ex
    have no : (wh < 0 ∨ 8 < wh) → AnsOk C_Machine m st [-1] H Q := fun h => by
      rw [Does, show Sz15.does st (.get wh) = (st, Sz15.only (-1)) from if_pos h] at k
      exact k
    have yes : ¬ (wh < 0 ∨ 8 < wh) → AnsOk C_Machine m st [if wh = 8 then ((st.psw : Nat) : Int) else ((st.reg wh.toNat : Nat) : Int)] H Q := fun h => by
      rw [Does, show Sz15.does st (.get wh) = (st, Sz15.only (if wh = 8 then ((st.psw : Nat) : Int) else ((st.reg wh.toNat : Nat) : Int))) from if_neg h] at k
      exact k
    walk_at "rd"
    refine rd_ite (fun h1 => ?_) (fun h1 => ?_)
    · walk_at "rd"
      refine rd_ite (fun h2 => ?_) (fun h2 => ?_)
      · walk_at "rd"
        refine rd_ixL (SqL.of e2) (rel.get (k := wh.toNat) (by omega) (by omega)) ?_
        walk_at "rd"
        have y1 := yes (by omega)
        rw [if_neg (by omega)] at y1
        exact ⟨le1, fun p hp => y1.lay hms .refl hp⟩
      · walk_at "rd"
        refine rd_ite (fun h3 => ?_) (fun h3 => ?_)
        · walk_at "rd"
          refine ⟨m, st, _, rfl, hms, ?_⟩
          walk_at "rd"
          have y1 := yes (by omega)
          rw [if_pos h3] at y1
          exact ⟨le1, fun p hp => y1.lay hms .refl hp⟩
        · walk_at "rd"
          exact ⟨le1, fun p hp => (no (by omega)).lay hms .refl hp⟩
    · walk_at "rd"
      refine rd_ite (fun h3 => absurd h3 (by omega)) (fun h3 => ?_)
      walk_at "rd"
      exact ⟨le1, fun p hp => (no (by omega)).lay hms .refl hp⟩
def sp_pd_why (CM : Addr) : Sp := fun vs H Q _ => ∃ (m : Addr) (st : Sz15.St), vs = [.ref m] ∧ MS CM H m st ∧ Does CM m st .why H Q
theorem ok_pd_why (T : Tx K mg C_Machine C_CallReader C_NoInstruction C_OddPlace C_UnknownCall) : GFn P w K mg base "pd_why" 1 ["machine"] (sp_pd_why C_Machine) := by
  obtain ⟨f, fd, F, hmg, b⟩ := T.d_pd_why
  refine ⟨⟨f, fd, F.okX (k := 0) sc_q101 (fun vs H Q E h => ?_) (fun cdv A outer s H vs Q E hr h => ?_), hmg, F.kp, b⟩⟩
  · obtain ⟨m, st, rfl, hms, k⟩ := h
    rfl
  · obtain ⟨m, st, rfl, hms, k⟩ := h
    refine ⟨_, (pss_one (ps_ret (pe_lst (pa_cons (pe_fldK (K := K) rfl (pe_var (i := 0) rfl (Or.inl v_q101_machine) nd_machine nc_machine) rfl) pa_nil)))), ?_⟩
    obtain ⟨dx, S, rs, ms, e1, e2, e3, rel⟩ := hms.ex
    walk_at "rd"
    rw [rel.why]
    exact ⟨le1, fun p hp => k.lay hms .refl hp⟩
def sp_pd_run (CM : Addr) : Sp := fun vs H Q _ => ∃ (m : Addr) (n : Int) (st : Sz15.St), vs = [.ref m, .int n] ∧ MS CM H m st ∧ Does CM m st (.run n) H Q
theorem ok_pd_run (T : Tx K mg C_Machine C_CallReader C_NoInstruction C_OddPlace C_UnknownCall) : GFn P w K mg base "pd_run" 11 ["machine", "n"] (sp_pd_run C_Machine) := by
  obtain ⟨f, fd, F, hmg, b⟩ := T.d_pd_run
  refine ⟨⟨f, fd, F.okX (k := 10) sc_q100 (fun vs H Q E h => ?_) (fun cdv A outer s H vs Q E hr h => ?_), hmg, F.kp, b⟩⟩
  · obtain ⟨m, n, st, rfl, hms, k⟩ := h
    rfl
  · obtain ⟨m, n, st, rfl, hms, k⟩ := h
    have G_run := ok_run (P := P) (w := w) (base := base) T
    refine ⟨_, (pss_cons (ps_if (pt_not (pt_chain op_le op_le pe_int (pe_var (i := 1) rfl (Or.inl v_q100_n) nd_n nc_n) (pe_globI g_q100_LONGEST_RUN T.c_LONGEST_RUN nd_LONGEST_RUN))) (pss_one (ps_ret (pe_lst (pa_cons (pe_globI g_q100_REFUSED T.c_REFUSED nd_REFUSED) pa_nil)))) pss_nil)
      (pss_one (ps_ret (pe_lst (pa_cons (pe_callE G_run (hr.mono (by decide)) g_q100_run pass_body (pa_cons (pe_var (i := 0) rfl (Or.inl v_q100_machine) nd_machine nc_machine) (pa_cons (pe_var (i := 1) rfl (Or.inl v_q100_n) nd_n nc_n) pa_nil)) nd_run) pa_nil))))), ?_⟩
    have no : (n < 0 ∨ 1000000 < n) → AnsOk C_Machine m st [-1] H Q := fun h => by
      rw [Does, show Sz15.does st (.run n) = (st, Sz15.only (-1)) from if_pos h] at k
      exact k
    walk_at "rd"
    refine rd_ite (fun h1 => ?_) (fun h1 => ?_)
    · walk_at "rd"
      refine rd_iten (fun h2 => ?_) (fun h2 => ?_)
      · walk_at "rd"
        exact ⟨le1, fun p hp => (no (by omega)).lay hms .refl hp⟩
      · rw [Does, show Sz15.does st (.run n) = ((Sz15.steps n.toNat st).1, Sz15.only (Sz15.steps n.toNat st).2) from if_neg (by omega)] at k
        have en : n = ((n.toNat : Nat) : Int) := by omega
        generalize n.toNat = j at *
        subst en
        walk_at "rd"
        refine ⟨m, st, _, j, rfl, hms, fun H1 h1 s1 => ?_⟩
        walk_at "rd"
        exact ⟨le1, fun p hp => k.lay h1 s1 hp⟩
    · walk_at "rd"
      refine rd_bn _ (fun _ => ?_) (fun z => by cases z)
      walk_at "rd"
      exact ⟨le1, fun p hp => (no (by omega)).lay hms .refl hp⟩
def sp_pd_interrupt (CM : Addr) : Sp := fun vs H Q _ => ∃ (m : Addr) (a p : Int) (st : Sz15.St), vs = [.ref m, .int a, .int p] ∧ MS CM H m st ∧ Does CM m st (.interrupt a p) H Q
theorem ok_pd_interrupt (T : Tx K mg C_Machine C_CallReader C_NoInstruction C_OddPlace C_UnknownCall) : GFn P w K mg base "pd_interrupt" 4 ["machine", "vector", "priority"] (sp_pd_interrupt C_Machine) := by
  obtain ⟨f, fd, F, hmg, b⟩ := T.d_pd_interrupt
  refine ⟨⟨f, fd, F.okX (k := 3) sc_q102 (fun vs H Q E h => ?_) (fun cdv A outer s H vs Q E hr h => ?_), hmg, F.kp, b⟩⟩
  · obtain ⟨m, a, pr, st, rfl, hms, k⟩ := h
    rfl
  · obtain ⟨m, a, pr, st, rfl, hms, k⟩ := h
    have G_Machine_interrupt := ok_Machine_interrupt (P := P) (w := w) (base := base) T
    refine ⟨_, (pss_cons (ps_if (pt_not (PW.pt (pw_and (pt_chain op_le op_le pe_int (pe_var (i := 1) rfl (Or.inl v_q102_vector) nd_vector nc_vector) (pe_globI g_q102_LAST_VECTOR T.c_LAST_VECTOR nd_LAST_VECTOR)) (pw_and1 (pt_cmpR op_eq (pe_op op_mod (pe_var (i := 1) rfl (Or.inl v_q102_vector) nd_vector nc_vector) (pe_globI g_q102_VECTOR_SIZE T.c_VECTOR_SIZE nd_VECTOR_SIZE)) pe_int (nomark _)))))) (pss_one (ps_ret (pe_lst (pa_cons (pe_globI g_q102_REFUSED T.c_REFUSED nd_REFUSED) pa_nil)))) pss_nil)
      (pss_cons (ps_if (pt_not (pt_chain op_le op_le pe_int (pe_var (i := 2) rfl (Or.inl v_q102_priority) nd_priority nc_priority) (pe_globI g_q102_HIGHEST_PRIORITY T.c_HIGHEST_PRIORITY nd_HIGHEST_PRIORITY))) (pss_one (ps_ret (pe_lst (pa_cons (pe_globI g_q102_REFUSED T.c_REFUSED nd_REFUSED) pa_nil)))) pss_nil)
      (pss_cons (ps_if (pt_cmpR op_le (pe_var (i := 2) rfl (Or.inl v_q102_priority) nd_priority nc_priority) (pe_fldK (K := K) rfl (pe_var (i := 0) rfl (Or.inl v_q102_machine) nd_machine nc_machine) rfl) (nomark _)) (pss_one (ps_ret (pe_lst (pa_cons (pe_globI g_q102_NOT_ABOVE T.c_NOT_ABOVE nd_NOT_ABOVE) pa_nil)))) pss_nil)
      (pss_cons (ps_try rfl rfl (fun _ _ => (pss_one (ps_expr (pe_methE G_Machine_interrupt (hr.mono (by decide)) pass_try (pe_var (i := 0) rfl (Or.inl v_q102_machine) nd_machine nc_machine) (pa_cons (pe_var (i := 1) rfl (Or.inl v_q102_vector) nd_vector nc_vector) pa_nil))))) (hd_cons T.x_OddPlace.bound g_q102_OddPlace (fun _ => (pss_one (ps_ret (pe_lst (pa_cons (pe_globI g_q102_STOPPED_AT_ODD_PLACE T.c_STOPPED_AT_ODD_PLACE nd_STOPPED_AT_ODD_PLACE) pa_nil))))) hd_nil nd_OddPlace))
      (pss_one (ps_ret (pe_lst (pa_cons (pe_globI g_q102_INTERRUPTED T.c_INTERRUPTED nd_INTERRUPTED) pa_nil)))))))), ?_⟩
    obtain ⟨dx, S, rs, ms, e1, e2, e3, rel⟩ := hms.ex
    have no : (a < 0 ∨ 508 < a ∨ a % 4 ≠ 0 ∨ pr < 0 ∨ 7 < pr) → AnsOk C_Machine m st [-1] H Q := fun h => by
      rw [Does, show Sz15.does st (.interrupt a pr) = (st, Sz15.only (-1)) from if_pos h] at k
      exact k
    have refuse : (a < 0 ∨ 508 < a ∨ a % 4 ≠ 0 ∨ pr < 0 ∨ 7 < pr) → ∀ p, H p = none → Q (.ref p) (upd H p (.lst [.int (-1)])) := fun h p hp => (no h).lay hms .refl hp
    walk_at "rd"
    refine rd_ite (fun h1 => ?_) (fun h1 => ?_)
    · walk_at "rd"
      refine rd_ite (fun h2 => ?_) (fun h2 => ?_)
      · walk_at "rd"
        refine rd_iten (fun h3 => ?_) (fun h3 => ?_)
        · walk_at "rd"
          exact ⟨le1, refuse (by omega)⟩
        · walk_at "rd"
          refine rd_ite (fun h4 => ?_) (fun h4 => ?_)
          · walk_at "rd"
            refine rd_iten (fun h5 => ?_) (fun h5 => ?_)
            · walk_at "rd"
              exact ⟨le1, refuse (by omega)⟩
            · have hn : ¬ (a < 0 ∨ 508 < a ∨ a % 4 ≠ 0 ∨ pr < 0 ∨ 7 < pr) := by omega
              walk_at "rd"
              rw [rel.pr]
              refine rd_ite (fun h6 => ?_) (fun h6 => ?_)
              · walk_at "rd"
                rw [Does, show Sz15.does st (.interrupt a pr) = (st, Sz15.only 0) from (if_neg hn).trans (if_pos h6)] at k
                exact ⟨le1, fun p hp => k.lay hms .refl hp⟩
              · have ea : a = ((a.toNat : Nat) : Int) := by omega
                walk_at "rd"
                cases et : Sz15.trap st a.toNat with
                | none =>
                  have ed : Sz15.does st (.interrupt a pr) = (st, Sz15.only (-2)) := (if_neg hn).trans ((if_neg h6).trans (by rw [et]))
                  rw [Does, ed] at k
                  refine ⟨m, st, _, a.toNat, by rw [← ea], hms, by omega, by omega, ?_⟩
                  rw [et]
                  refine .inl ⟨T.q_OddPlace_OddPlace, ?_⟩
                  walk_at "rd"
                  exact ⟨le1, fun p hp => k.lay hms .refl hp⟩
                | some x =>
                  have ed : Sz15.does st (.interrupt a pr) = (x, Sz15.only 1) := (if_neg hn).trans ((if_neg h6).trans (by rw [et]))
                  rw [Does, ed] at k
                  refine ⟨m, st, _, a.toNat, by rw [← ea], hms, by omega, by omega, ?_⟩
                  rw [et]
                  intro H1 h1 s1
                  have h1' : MS C_Machine H1 m x := by
                    unfold MS
                    rw [trap_why et]
                    exact h1
                  walk_at "rd"
                  exact ⟨le1, fun p hp => k.lay h1' s1 hp⟩
          · walk_at "rd"
            refine rd_bn _ (fun _ => ?_) (fun z => by cases z)
            walk_at "rd"
            exact ⟨le1, refuse (by omega)⟩
      · walk_at "rd"
        refine rd_bn _ (fun _ => ?_) (fun z => by cases z)
        walk_at "rd"
        exact ⟨le1, refuse (by omega)⟩
    · walk_at "rd"
      refine rd_bn _ (fun _ => ?_) (fun z => by cases z)
      walk_at "rd"
      exact ⟨le1, refuse (by omega)⟩
end
section
variable {P : Program} {w : World} {K : PySem.W.Frag} {mg : Str → Option Value} {base : Heap} {C_Machine C_CallReader C_NoInstruction C_OddPlace C_UnknownCall : Addr}
theorem sq_ins {K : PySem.W.Frag} {H H' : Hp} {a r C dx : Addr} {xs : List V} {fs : List (Str × V)} (h : SqL K H a xs) (hr : H r = some (.ins C dx fs)) (k : ∀ b o, H b = some o → b ≠ r → H' b = some o) : SqL K H' a xs := by
  rcases h with (h | ⟨o, h⟩) | h
  · exact .inl (.inl (k _ _ h (ne_of h hr (by intro z; cases z))))
  · exact .inl (.inr ⟨o, k _ _ h (ne_of h hr (by intro z; cases z))⟩)
  · exact .inr h
def sp_take_row (K : PySem.W.Frag) (CR : Addr) : Sp := fun vs H Q _ => ∃ (r a : Addr) (j n : Nat) (xs : List V), vs = [.ref r] ∧ RdAt CR H r a j ∧ SqL K H a xs ∧ xs[j]? = some (.int (n : Nat)) ∧ j + 1 + n ≤ xs.length ∧
  ∀ (q : Addr) (H' : Hp), RdAt CR H' r a ((j + 1 + n : Nat) : Int) → H' q = some (.lst ((xs.drop (j + 1)).take n)) → H q = none → (∀ b o, H b = some o → b ≠ r → H' b = some o) → (∀ b, H' b = none → H b = none) → Q (.ref q) H'
theorem ok_CallReader_take_row (T : Tx K mg C_Machine C_CallReader C_NoInstruction C_OddPlace C_UnknownCall) : GMt P w K mg base C_CallReader "take_row" 2 ["self"] (sp_take_row K C_CallReader) := by
  obtain ⟨f, fd, F, M, b⟩ := T.m_CallReader_take_row
  refine ⟨⟨f, fd, F.okX (k := 1) sc_q16 (fun vs H Q E h => ?_) (fun cdv A outer s H vs Q E hr h => ?_), T.cl_CallReader, M, b⟩⟩
  · obtain ⟨r, a, j, n, xs, rfl, ⟨dx, hr1⟩, ha, hx, hl, k⟩ := h
    rfl
  · obtain ⟨r, a, j, n, xs, rfl, ⟨dx, hr1⟩, ha, hx, hl, k⟩ := h
    have G_CallReader_take_number := ok_CallReader_take_number (P := P) (w := w) (base := base) T
    refine ⟨_, (pss_cons (ps_set (i := 1) sc_q16.nd rfl (Or.inl v_q16_length) (pe_meth0E G_CallReader_take_number (hr.mono (by decide)) pass_body (pe_var (i := 0) rfl (Or.inl v_q16_self) nd_self nc_self)))
      (pss_cons (ps_set (i := 2) sc_q16.nd rfl (Or.inl v_q16_start) (pe_fldK (K := K) rfl (pe_var (i := 0) rfl (Or.inl v_q16_self) nd_self nc_self) rfl))
      (pss_cons (ps_fldaugK (K := K) rfl (pe_var (i := 0) rfl (Or.inl v_q16_self) nd_self nc_self) (pe_var (i := 1) rfl (Or.inl v_q16_length) nd_length nc_length) iop_add)
      (pss_one (ps_ret (pe_slLK (K := K) rfl (pe_fldK (K := K) rfl (pe_var (i := 0) rfl (Or.inl v_q16_self) nd_self nc_self) rfl) (po_some (pe_var (i := 2) rfl (Or.inl v_q16_start) nd_start nc_start)) (po_some (pe_fldK (K := K) rfl (pe_var (i := 0) rfl (Or.inl v_q16_self) nd_self nc_self) rfl)))))))), ?_⟩
    walk_at "rd"
    refine ⟨r, a, j, _, xs, rfl, ⟨dx, hr1⟩, ha, hx, fun H1 ⟨dx1, hr2⟩ kp => ?_⟩
    have ha1 : SqL K H1 a xs := sq_ins ha hr1 kp
    walk_at "rd"
    refine ⟨_, rfl, r, C_CallReader, dx1, _, _, rfl, hr2, by walk_at "cl", by walk_at "na", by walk_at "lk", ?_⟩
    walk_at "rd"
    refine ⟨dx1, _, hr2, by walk_at "ln", ?_⟩
    rw [pt_CallReader_place]
    walk_at "rd"
    have ha2 : ∀ o, SqL K (upd H1 r o) a xs := fun o => sq_ins ha1 hr2 fun b u e hb => by rw [upd_ne hb]; exact e
    refine rd_slL (ha2 _) fun q hq => ?_
    have e : cutV xs (some ((j : Int) + 1)) (some ((j : Int) + 1 + (n : Int))) = (xs.drop (j + 1)).take n := by
      have := cutV_nat (xs := xs) (a := j + 1) (b := j + 1 + n) (by omega) hl
      rw [Nat.add_sub_cancel_left] at this
      exact this
    rw [e]
    have qr : r ≠ q := fun z => by rw [← z, upd_same] at hq; cases hq
    refine k q _ ⟨dx1, by rw [upd_ne qr, upd_same]; rfl⟩ upd_same ?_ (fun b o e hb => ?_) fun b hb => ?_
    · cases z : H q with
      | none => rfl
      | some o =>
        by_cases zr : q = r
        · exact absurd zr.symm qr
        · rw [upd_ne zr, kp q o z zr] at hq; cases hq
    · have c := kp b o e hb
      rw [upd_ne (fun z => by rw [← z, upd_ne hb, c] at hq; cases hq), upd_ne hb]
      exact c
    · cases z : H b with
      | none => rfl
      | some o =>
        by_cases zr : b = r
        · rw [zr, upd_ne qr, upd_same] at hb; cases hb
        · by_cases zq : b = q
          · rw [zq, upd_same] at hb; cases hb
          · rw [upd_ne zq, upd_ne zr, kp b o z zr] at hb; cases hb
structure Mv (CR r a : Addr) (H H1 : Hp) (k : Nat) : Prop where
  rd : RdAt CR H1 r a k
  keep : ∀ b o, H b = some o → b ≠ r → H1 b = some o
  there : ∀ b, H1 b = none → H b = none
theorem Mv.of {CR r a : Addr} {H H1 : Hp} {k : Nat} (h : RdAt CR H1 r a k) (kp : ∀ b o, H b = some o → b ≠ r → H1 b = some o) : Mv CR r a H H1 k := by
  refine ⟨h, kp, fun b hb => ?_⟩
  cases z : H b with
  | none => rfl
  | some o =>
    by_cases zr : b = r
    · obtain ⟨dx, e⟩ := h
      rw [zr, e] at hb; cases hb
    · rw [kp b o z zr] at hb; cases hb
theorem Mv.trans {CR r a : Addr} {H H1 H2 : Hp} {j k : Nat} (x : Mv CR r a H H1 j) (y : Mv CR r a H1 H2 k) : Mv CR r a H H2 k :=
  ⟨y.rd, fun b o e hb => y.keep b o (x.keep b o e hb) hb, fun b e => x.there b (y.there b e)⟩
theorem Mv.scr {K : PySem.W.Frag} {CR r a : Addr} {H H1 : Hp} {j k : Nat} {ns : List Int} (x : Mv CR r a H H1 k) (hr : RdAt CR H r a j) (s : Scr K H a ns) : Scr K H1 a ns := by
  refine s.keep fun ob xs e => x.keep a _ e fun z => ?_
  obtain ⟨dx, e'⟩ := hr
  rw [z, e'] at e; cases e
theorem Mv.ms {CM CR m r a : Addr} {H H1 : Hp} {j k : Nat} {st : Sz15.St} (x : Mv CR r a H H1 k) (hr : RdAt CR H r a j) (h : MS CM H m st) : MS CM H1 m st :=
  h.keep fun b o q e => x.keep b o e fun z => notfp_rd h hr (z ▸ q)
theorem Mv.fp {CM CR m r a b : Addr} {H H1 : Hp} {j k : Nat} {st : Sz15.St} (x : Mv CR r a H H1 k) (hr : RdAt CR H r a j) (h : MS CM H m st) : fpM CM H1 m b ↔ fpM CM H m b := by
  obtain ⟨dx, S, rs, ms, e1, e2, e3, _⟩ := h.ex
  have mr : m ≠ r := fun z => notfp_rd h hr (.inl z.symm)
  rw [fp_of e1, fp_of (x.keep m _ e1 mr)]
theorem next_fin {CM CR m r a : Addr} {H H1 : Hp} {j k' : Nat} {ns ys : List Int} {st st' : Sz15.St} {Q : VK} (hms : MS CM H m st) (hr : RdAt CR H r a j) (mv : Mv CR r a H H1 k') (hjk : j < k') (hkl : k' ≤ ns.length)
    (k : ∀ (p : Addr) (k : Nat) (H' : Hp), MS CM H' m st' → RdAt CR H' r a k → ns.drop k = ns.drop k' → j < k → k ≤ ns.length → H' p = some (.lst (ys.map V.int)) → H p = none → ¬ fpM CM H' m p → p ≠ r →
      (∀ b o, H b = some o → ¬ fpM CM H m b → b ≠ r → H' b = some o) → (∀ b, fpM CM H' m b → fpM CM H m b ∨ H b = none) → Q (.ref p) H') : AnsOk CM m st' ys H1 Q := by
  intro p H' ms' hp hpn nfp stp
  have nfr : ¬ fpM CM H1 m r := notfp_rd (mv.ms hr hms) mv.rd
  refine k p k' H' ms' (mv.rd.keep fun o e => stp.keep r o e nfr) rfl hjk hkl hp (mv.there p hpn) nfp (fun z => ?_) (fun b o e n hb => ?_) fun b q => ?_
  · obtain ⟨dx, e⟩ := mv.rd
    rw [z, e] at hpn; cases hpn
  · exact stp.keep b o (mv.keep b o e hb) (by rw [mv.fp hr hms]; exact n)
  · rcases stp.fp b q with q | q
    · rw [mv.fp hr hms] at q; exact .inl q
    · exact .inr (mv.there b q)
theorem at_map {ns : List Int} {j : Nat} {x : Int} (h : ns[j]? = some x) : (ns.map V.int)[j]? = some (V.int x) := by rw [List.getElem?_map, h]; rfl
theorem nfp_new {CM m q : Addr} {H H1 : Hp} {st : Sz15.St} (h : MS CM H m st) (hq : H q = none) (e : ∀ b, fpM CM H1 m b ↔ fpM CM H m b) : ¬ fpM CM H1 m q := fun z => by
  rw [e] at z
  obtain ⟨dx, S, rs, ms, e1, e2, e3, _⟩ := h.ex
  rw [fp_of e1] at z
  rcases z with rfl | rfl | rfl
  · rw [e1] at hq; cases hq
  · rw [e2] at hq; cases hq
  · rw [e3] at hq; cases hq
theorem ok_answer_next (T : Tx K mg C_Machine C_CallReader C_NoInstruction C_OddPlace C_UnknownCall) : GFn P w K mg base "answer_next" 12 ["machine", "reader"] (sp_next K C_Machine C_CallReader) := by
  obtain ⟨f, fd, F, hmg, b⟩ := T.d_answer_next
  refine ⟨⟨f, fd, F.okX (k := 11) sc_q94 (fun vs H Q E h => ?_) (fun cdv A outer s H vs Q E hr h => ?_), hmg, F.kp, b⟩⟩
  · obtain ⟨m, r, a, j, ns, st, c, t, rfl, hms, hrd, sc, hcall, hask, k⟩ := h
    rfl
  · obtain ⟨m, r, a, j, ns, st, c, t, rfl, hms, hrd, sc, hcall, hask, k⟩ := h
    have G_CallReader_take_number := ok_CallReader_take_number (P := P) (w := w) (base := base) T
    have G_pd_clear := ok_pd_clear (P := P) (w := w) (base := base) T
    have G_CallReader_take_row := ok_CallReader_take_row (P := P) (w := w) (base := base) T
    have G_pd_load := ok_pd_load (P := P) (w := w) (base := base) T
    have G_pd_look := ok_pd_look (P := P) (w := w) (base := base) T
    have G_pd_set := ok_pd_set (P := P) (w := w) (base := base) T
    have G_pd_get := ok_pd_get (P := P) (w := w) (base := base) T
    have G_pd_run := ok_pd_run (P := P) (w := w) (base := base) T
    have G_pd_why := ok_pd_why (P := P) (w := w) (base := base) T
    have G_pd_interrupt := ok_pd_interrupt (P := P) (w := w) (base := base) T
    refine ⟨_, (pss_cons (ps_set (i := 2) sc_q94.nd rfl (Or.inl v_q94_number) (pe_meth0E G_CallReader_take_number (hr.mono (by decide)) pass_body (pe_var (i := 1) rfl (Or.inl v_q94_reader) nd_reader nc_reader)))
      (pss_cons (ps_if (pt_cmpR op_eq (pe_var (i := 2) rfl (Or.inl v_q94_number) nd_number nc_number) (pe_globI g_q94_PD_CLEAR T.c_PD_CLEAR nd_PD_CLEAR) (nomark _)) (pss_one (ps_ret (pe_callE G_pd_clear (hr.mono (by decide)) g_q94_pd_clear pass_body (pa_cons (pe_var (i := 0) rfl (Or.inl v_q94_machine) nd_machine nc_machine) pa_nil) nd_pd_clear))) pss_nil)
      (pss_cons (ps_if (pt_cmpR op_eq (pe_var (i := 2) rfl (Or.inl v_q94_number) nd_number nc_number) (pe_globI g_q94_PD_LOAD T.c_PD_LOAD nd_PD_LOAD) (nomark _)) (pss_cons (ps_set (i := 3) sc_q94.nd rfl (Or.inl v_q94_at) (pe_meth0E G_CallReader_take_number (hr.mono (by decide)) pass_body (pe_var (i := 1) rfl (Or.inl v_q94_reader) nd_reader nc_reader)))
      (pss_cons (ps_set (i := 4) sc_q94.nd rfl (Or.inl v_q94_data) (pe_meth0E G_CallReader_take_row (hr.mono (by decide)) pass_body (pe_var (i := 1) rfl (Or.inl v_q94_reader) nd_reader nc_reader)))
      (pss_one (ps_ret (pe_callE G_pd_load (hr.mono (by decide)) g_q94_pd_load pass_body (pa_cons (pe_var (i := 0) rfl (Or.inl v_q94_machine) nd_machine nc_machine) (pa_cons (pe_var (i := 3) rfl (Or.inl v_q94_at) nd_at nc_at) (pa_cons (pe_var (i := 4) rfl (Or.inl v_q94_data) nd_data nc_data) pa_nil))) nd_pd_load))))) pss_nil)
      (pss_cons (ps_if (pt_cmpR op_eq (pe_var (i := 2) rfl (Or.inl v_q94_number) nd_number nc_number) (pe_globI g_q94_PD_LOOK T.c_PD_LOOK nd_PD_LOOK) (nomark _)) (pss_cons (ps_set (i := 3) sc_q94.nd rfl (Or.inl v_q94_at) (pe_meth0E G_CallReader_take_number (hr.mono (by decide)) pass_body (pe_var (i := 1) rfl (Or.inl v_q94_reader) nd_reader nc_reader)))
      (pss_cons (ps_set (i := 5) sc_q94.nd rfl (Or.inl v_q94_n) (pe_meth0E G_CallReader_take_number (hr.mono (by decide)) pass_body (pe_var (i := 1) rfl (Or.inl v_q94_reader) nd_reader nc_reader)))
      (pss_one (ps_ret (pe_callE G_pd_look (hr.mono (by decide)) g_q94_pd_look pass_body (pa_cons (pe_var (i := 0) rfl (Or.inl v_q94_machine) nd_machine nc_machine) (pa_cons (pe_var (i := 3) rfl (Or.inl v_q94_at) nd_at nc_at) (pa_cons (pe_var (i := 5) rfl (Or.inl v_q94_n) nd_n nc_n) pa_nil))) nd_pd_look))))) pss_nil)
      (pss_cons (ps_if (pt_cmpR op_eq (pe_var (i := 2) rfl (Or.inl v_q94_number) nd_number nc_number) (pe_globI g_q94_PD_SET T.c_PD_SET nd_PD_SET) (nomark _)) (pss_cons (ps_set (i := 6) sc_q94.nd rfl (Or.inl v_q94_which) (pe_meth0E G_CallReader_take_number (hr.mono (by decide)) pass_body (pe_var (i := 1) rfl (Or.inl v_q94_reader) nd_reader nc_reader)))
      (pss_cons (ps_set (i := 7) sc_q94.nd rfl (Or.inl v_q94_value) (pe_meth0E G_CallReader_take_number (hr.mono (by decide)) pass_body (pe_var (i := 1) rfl (Or.inl v_q94_reader) nd_reader nc_reader)))
      (pss_one (ps_ret (pe_callE G_pd_set (hr.mono (by decide)) g_q94_pd_set pass_body (pa_cons (pe_var (i := 0) rfl (Or.inl v_q94_machine) nd_machine nc_machine) (pa_cons (pe_var (i := 6) rfl (Or.inl v_q94_which) nd_which nc_which) (pa_cons (pe_var (i := 7) rfl (Or.inl v_q94_value) nd_value nc_value) pa_nil))) nd_pd_set))))) pss_nil)
      (pss_cons (ps_if (pt_cmpR op_eq (pe_var (i := 2) rfl (Or.inl v_q94_number) nd_number nc_number) (pe_globI g_q94_PD_GET T.c_PD_GET nd_PD_GET) (nomark _)) (pss_one (ps_ret (pe_callE G_pd_get (hr.mono (by decide)) g_q94_pd_get pass_body (pa_cons (pe_var (i := 0) rfl (Or.inl v_q94_machine) nd_machine nc_machine) (pa_cons (pe_meth0E G_CallReader_take_number (hr.mono (by decide)) pass_body (pe_var (i := 1) rfl (Or.inl v_q94_reader) nd_reader nc_reader)) pa_nil)) nd_pd_get))) pss_nil)
      (pss_cons (ps_if (pt_cmpR op_eq (pe_var (i := 2) rfl (Or.inl v_q94_number) nd_number nc_number) (pe_globI g_q94_PD_RUN T.c_PD_RUN nd_PD_RUN) (nomark _)) (pss_one (ps_ret (pe_callE G_pd_run (hr.mono (by decide)) g_q94_pd_run pass_body (pa_cons (pe_var (i := 0) rfl (Or.inl v_q94_machine) nd_machine nc_machine) (pa_cons (pe_meth0E G_CallReader_take_number (hr.mono (by decide)) pass_body (pe_var (i := 1) rfl (Or.inl v_q94_reader) nd_reader nc_reader)) pa_nil)) nd_pd_run))) pss_nil)
      (pss_cons (ps_if (pt_cmpR op_eq (pe_var (i := 2) rfl (Or.inl v_q94_number) nd_number nc_number) (pe_globI g_q94_PD_WHY T.c_PD_WHY nd_PD_WHY) (nomark _)) (pss_one (ps_ret (pe_callE G_pd_why (hr.mono (by decide)) g_q94_pd_why pass_body (pa_cons (pe_var (i := 0) rfl (Or.inl v_q94_machine) nd_machine nc_machine) pa_nil) nd_pd_why))) pss_nil)
      (pss_cons (ps_if (pt_cmpR op_eq (pe_var (i := 2) rfl (Or.inl v_q94_number) nd_number nc_number) (pe_globI g_q94_PD_INTERRUPT T.c_PD_INTERRUPT nd_PD_INTERRUPT) (nomark _)) (pss_cons (ps_set (i := 8) sc_q94.nd rfl (Or.inl v_q94_vector) (pe_meth0E G_CallReader_take_number (hr.mono (by decide)) pass_body (pe_var (i := 1) rfl (Or.inl v_q94_reader) nd_reader nc_reader)))
      (pss_cons (ps_set (i := 9) sc_q94.nd rfl (Or.inl v_q94_priority) (pe_meth0E G_CallReader_take_number (hr.mono (by decide)) pass_body (pe_var (i := 1) rfl (Or.inl v_q94_reader) nd_reader nc_reader)))
      (pss_one (ps_ret (pe_callE G_pd_interrupt (hr.mono (by decide)) g_q94_pd_interrupt pass_body (pa_cons (pe_var (i := 0) rfl (Or.inl v_q94_machine) nd_machine nc_machine) (pa_cons (pe_var (i := 8) rfl (Or.inl v_q94_vector) nd_vector nc_vector) (pa_cons (pe_var (i := 9) rfl (Or.inl v_q94_priority) nd_priority nc_priority) pa_nil))) nd_pd_interrupt))))) pss_nil)
      (pss_one ps_never)))))))))), ?_⟩
    obtain ⟨k', hsays, rfl, hjk, hkl⟩ := says hcall hask
    obtain ⟨num, hnum, hn1, hn8⟩ := hsays.num
    obtain ⟨dr, hr0⟩ := id hrd
    have sp1 : ∀ (H1 : Hp) (i : Nat) (x : Int) (Q1 : VK) (E1 : XK), Mv C_CallReader r a H H1 i → ns[i]? = some x → (∀ H2, Mv C_CallReader r a H H2 (i + 1) → Q1 (.int x) H2) → sp_take_number K C_CallReader [.ref r] H1 Q1 E1 := fun H1 i x Q1 E1 mv hx q =>
      ⟨r, a, i, .int x, ns.map V.int, rfl, mv.rd, (mv.scr hrd sc).sq, at_map hx, fun H2 h2 kp => q H2 (mv.trans (.of h2 kp))⟩
    have mv0 : Mv C_CallReader r a H H j := ⟨hrd, fun _ _ e _ => e, fun _ e => e⟩
    walk_at "rd"
    refine sp1 H j num _ _ mv0 hnum fun H1 mv1 => ?_
    obtain ⟨d1, r1⟩ := id mv1.rd
    walk_at "rd"
    refine rd_ite (fun h => ?_) (fun g1 => ?_)
    · subst h
      obtain ⟨rfl, rfl⟩ := hsays.is1 hnum
      walk_at "rd"
      exact ⟨m, st, rfl, mv1.ms hrd hms, next_fin hms hrd mv1 hjk hkl k⟩
    walk_at "rd"
    refine rd_ite (fun h => ?_) (fun g2 => ?_)
    · subst h
      obtain ⟨x, n, rfl, rfl, e1, e2, e3, e4⟩ := hsays.is2 hnum
      walk_at "rd"
      refine sp1 H1 _ x _ _ mv1 e1 fun H2 mv2 => ?_
      obtain ⟨d2, r2⟩ := id mv2.rd
      walk_at "rd"
      refine ⟨r, a, j + 2, n, ns.map V.int, rfl, mv2.rd, (mv2.scr hrd sc).sq, at_map e2, by rw [List.length_map]; omega, fun q H3 h1 h2 h3 h4 h5 => ?_⟩
      have mv3 : Mv C_CallReader r a H H3 (j + 3 + n) := mv2.trans ⟨h1, h4, h5⟩
      walk_at "rd"
      refine ⟨m, q, x, (ns.drop (j + 3)).take n, st, rfl, mv3.ms hrd hms, by rw [h2, List.map_take, List.map_drop], nfp_new (mv2.ms hrd hms) h3 (fun b => by rw [mv3.fp hrd hms, mv2.fp hrd hms]), e4, ?_⟩
      exact next_fin hms hrd mv3 hjk hkl k
    walk_at "rd"
    refine rd_ite (fun h => ?_) (fun g3 => ?_)
    · subst h
      obtain ⟨x, n, rfl, rfl, e1, e2, e3⟩ := hsays.is3 hnum
      walk_at "rd"
      refine sp1 H1 _ x _ _ mv1 e1 fun H2 mv2 => ?_
      obtain ⟨d2, r2⟩ := id mv2.rd
      walk_at "rd"
      refine sp1 H2 _ n _ _ mv2 e2 fun H3 mv3 => ?_
      walk_at "rd"
      exact ⟨m, x, n, st, rfl, mv3.ms hrd hms, next_fin hms hrd mv3 hjk hkl k⟩
    walk_at "rd"
    refine rd_ite (fun h => ?_) (fun g4 => ?_)
    · subst h
      obtain ⟨x, n, rfl, rfl, e1, e2⟩ := hsays.is4 hnum
      walk_at "rd"
      refine sp1 H1 _ x _ _ mv1 e1 fun H2 mv2 => ?_
      obtain ⟨d2, r2⟩ := id mv2.rd
      walk_at "rd"
      refine sp1 H2 _ n _ _ mv2 e2 fun H3 mv3 => ?_
      walk_at "rd"
      exact ⟨m, x, n, st, rfl, mv3.ms hrd hms, next_fin hms hrd mv3 hjk hkl k⟩
    walk_at "rd"
    refine rd_ite (fun h => ?_) (fun g5 => ?_)
    · subst h
      obtain ⟨x, rfl, rfl, e1⟩ := hsays.is5 hnum
      walk_at "rd"
      refine sp1 H1 _ x _ _ mv1 e1 fun H2 mv2 => ?_
      walk_at "rd"
      exact ⟨m, x, st, rfl, mv2.ms hrd hms, next_fin hms hrd mv2 hjk hkl k⟩
    walk_at "rd"
    refine rd_ite (fun h => ?_) (fun g6 => ?_)
    · subst h
      obtain ⟨x, rfl, rfl, e1⟩ := hsays.is6 hnum
      walk_at "rd"
      refine sp1 H1 _ x _ _ mv1 e1 fun H2 mv2 => ?_
      walk_at "rd"
      exact ⟨m, x, st, rfl, mv2.ms hrd hms, next_fin hms hrd mv2 hjk hkl k⟩
    walk_at "rd"
    refine rd_ite (fun h => ?_) (fun g7 => ?_)
    · subst h
      obtain ⟨rfl, rfl⟩ := hsays.is7 hnum
      walk_at "rd"
      exact ⟨m, st, rfl, mv1.ms hrd hms, next_fin hms hrd mv1 hjk hkl k⟩
    walk_at "rd"
    refine rd_ite (fun h => ?_) (fun g8 => ?_)
    · subst h
      obtain ⟨x, n, rfl, rfl, e1, e2⟩ := hsays.is8 hnum
      walk_at "rd"
      refine sp1 H1 _ x _ _ mv1 e1 fun H2 mv2 => ?_
      obtain ⟨d2, r2⟩ := id mv2.rd
      walk_at "rd"
      refine sp1 H2 _ n _ _ mv2 e2 fun H3 mv3 => ?_
      walk_at "rd"
      exact ⟨m, x, n, st, rfl, mv3.ms hrd hms, next_fin hms hrd mv3 hjk hkl k⟩
    exact absurd hn8 (by omega)
end
section
variable {P : Program} {w : World} {K : PySem.W.Frag} {mg : Str → Option Value} {base : Heap} {C_Machine C_CallReader C_NoInstruction C_OddPlace C_UnknownCall : Addr}
theorem fn_answers (T : Tx K mg C_Machine C_CallReader C_NoInstruction C_OddPlace C_UnknownCall) {f : Addr} {fd : FuncData} (F : Fun K "answers" "answers" s_q93 f fd) : FnOk P w K mg base (CX1 P w) 13 f fd ["calls"] (sp_answers K) := by
  
  refine F.okX (k := 12) sc_q93 (fun vs H Q E h => ?_) (fun cdv A outer s H vs Q E hr h => ?_)
  · obtain ⟨a, ns, rfl, ha, hf, hok, k⟩ := h
    rfl
  · obtain ⟨a, ns, rfl, ha, hf, hok, k⟩ := h
    have G_Machine := ok_Machine___init__ (P := P) (w := w) (base := base) T
    have G_CallReader := ok_CallReader___init__ (P := P) (w := w) (base := base) T
    have G_CallReader_has_more := ok_CallReader_has_more (P := P) (w := w) (base := base) T
    have G_answer_next := ok_answer_next (P := P) (w := w) (base := base) T
    refine ⟨_, (pss_cons (ps_set (i := 1) sc_q93.nd rfl (Or.inl v_q93_machine) (pe_make0E G_Machine (hr.mono (by decide)) g_q93_Machine nd_Machine))
      (pss_cons (ps_set (i := 2) sc_q93.nd rfl (Or.inl v_q93_reader) (pe_makeE G_CallReader (hr.mono (by decide)) g_q93_CallReader (pa_cons (pe_var (i := 0) rfl (Or.inl v_q93_calls) nd_calls nc_calls) pa_nil) nd_CallReader))
      (pss_cons (ps_set (i := 3) sc_q93.nd rfl (Or.inl v_q93_given_back) (pe_lst pa_nil))
      (pss_cons (ps_while PassesOwn.leaving (pt_val (pe_meth0E G_CallReader_has_more (hr.mono (by decide)) pass_body (pe_var (i := 2) rfl (Or.inl v_q93_reader) nd_reader nc_reader))) (pss_cons (ps_set (i := 4) sc_q93.nd rfl (Or.inl v_q93_answer) (pe_callE G_answer_next (hr.mono (by decide)) g_q93_answer_next pass_body (pa_cons (pe_var (i := 1) rfl (Or.inl v_q93_machine) nd_machine nc_machine) (pa_cons (pe_var (i := 2) rfl (Or.inl v_q93_reader) nd_reader nc_reader) pa_nil)) nd_answer_next))
      (pss_cons (ps_expr (pe_appK (K := K) rfl (pe_var (i := 3) rfl (Or.inl v_q93_given_back) nd_given_back nc_given_back) (pa_cons (pe_lenK (K := K) rfl g_q93_len T.b_len (pa_cons (pe_var (i := 4) rfl (Or.inl v_q93_answer) nd_answer nc_answer) pa_nil)) pa_nil)))
      (pss_one (ps_expr (pe_extK (K := K) rfl (pe_var (i := 3) rfl (Or.inl v_q93_given_back) nd_given_back nc_given_back) (pa_cons (pe_var (i := 4) rfl (Or.inl v_q93_answer) nd_answer nc_answer) pa_nil)))))))
      (pss_one (ps_ret (pe_var (i := 3) rfl (Or.inl v_q93_given_back) nd_given_back nc_given_back))))))), ?_⟩
    walk_at "rd"
    intro m dm nm ndm ned
    refine ⟨m, dm, rfl, upd_same, fun rl ml H1 e1 e2 e3 n2 n3 kp1 => ⟨rfl, ?_⟩⟩
    have s0 : ∀ b o, H b = some o → H1 b = some o := fun b o e => kp1 b o (by rw [upd_ne (ne_of_none e nm), upd_ne (ne_of_none e ndm)]; exact e) (ne_of_none e nm)
    have ms1 : MS C_Machine H1 m Sz15.blank := ⟨dm, _, _, _, e1, e2, e3, rel_blank rl ml⟩
    walk_at "rd"
    intro r dr nr ndr ner
    refine ⟨r, dr, a, rfl, upd_same, fun H2 hr2 kp2 => ⟨rfl, ?_⟩⟩
    have s1 : ∀ b o, H1 b = some o → H2 b = some o := fun b o e => kp2 b o (by rw [upd_ne (ne_of_none e nr), upd_ne (ne_of_none e ndr)]; exact e) (ne_of_none e nr)
    walk_at "rd"
    refine ⟨by decide, fun g hg => ?_⟩
    obtain ⟨cs, hcs, htold, hlen, _⟩ := hok
    have ms2 : MS C_Machine H2 m Sz15.blank := ms1.keep fun b o _ e => s1 b o e
    have sc2 : Scr K H2 a ns := (Scr.of ha hf).keep fun ob xs e => s1 a _ (s0 a _ e)
    have ms3 : MS C_Machine (upd H2 g (.lst [])) m Sz15.blank := ms2.new hg
    have nfg : ¬ fpM C_Machine (upd H2 g (.lst [])) m g := by
      have mg' : m ≠ g := fun e => ms2.there (by rw [e]; exact hg)
      obtain ⟨dx, S, rs, mm, z1, z2, z3, _⟩ := ms2.ex
      rw [fp_of (show upd H2 g (.lst []) m = some (.ins C_Machine dx (mf_Machine S)) by rw [upd_ne mg']; exact z1)]
      rintro (rfl | rfl | rfl)
      · exact mg' rfl
      · rw [z2] at hg; cases hg
      · rw [z3] at hg; cases hg
    have t0 : Turn K C_Machine C_CallReader m r g a ns 0 0 (upd H2 g (.lst [])) := by
      refine ⟨cs, Sz15.blank, [], ms3, hr2.keep fun o e => by rw [upd_ne (ne_of_none e hg)]; exact e, upd_same, sc2.keep fun ob xs e => by rw [upd_ne (ne_of_none e hg)]; exact e, nfg, htold, by omega, Nat.zero_le _, ?_⟩
      rw [spec_of hcs]
      rfl
    clear ms3 nfg sc2 ms2 hr2 s1 s0 kp1 kp2 ms1 e1 e2 e3 n2 n3 ha hf htold hcs hg nm ndm nr ndr
    walk_at "rd"
    refine ⟨fun μ σ H3 => ∃ (j n : Nat) (u : Option V), μ = ns.length - j ∧ σ = [some (.ref a), some (.ref m), some (.ref r), some (.ref g), u] ∧ j ≤ ns.length ∧ Turn K C_Machine C_CallReader m r g a ns j n H3, ⟨_, 0, 0, none, rfl, rfl, Nat.zero_le _, t0⟩, ?_⟩
    rintro μ σ H3 ⟨j, n, u, rfl, rfl, hj, tn⟩
    obtain ⟨cs, st, out, ms3, hr3, hg3, sc3, nfg, ht, hn, ho, hspec⟩ := tn.ex
    obtain ⟨dr3, hr3'⟩ := id hr3
    walk_at "rd"
    refine ⟨r, a, j, _, rfl, hr3, sc3.sq, ?_⟩
    walk_at "rd"
    refine rd_ite (fun hlt => ?_) (fun hge => ?_)
    · have hlt' : j < ns.length := by rw [List.length_map] at hlt; omega
      obtain ⟨c, t, rest, rfl, hcall, hask, hrest⟩ := ht.cons hlt'
      refine ⟨fun σ' H' => ∃ (j' : Nat), j < j' ∧ j' ≤ ns.length ∧ ∃ u, σ' = [some (.ref a), some (.ref m), some (.ref r), some (.ref g), u] ∧ Turn K C_Machine C_CallReader m r g a ns j' (n + 1) H', ?_, ?_⟩
      · rintro σ' H' ⟨j', h1, h2, u', rfl, t'⟩
        exact ⟨ns.length - j', by omega, j', n + 1, u', rfl, rfl, h2, t'⟩
      · walk_at "rd"
        refine ⟨m, r, a, j, ns, st, c, t, rfl, ms3, hr3, sc3, hcall, hask, fun p k' H4 ms4 hr4 hk hjk hkl hp4 hp0 nfp npr kp4 fp4 => ?_⟩
        have gr : g ≠ r := fun e => by rw [e, hr3'] at hg3; cases hg3
        have hg4 : H4 g = some (.lst (out.map V.int)) := kp4 g _ hg3 nfg gr
        have gp : g ≠ p := ne_of_none hg3 hp0
        walk_at "rd"
        refine ⟨rd_tyL (SqL.of hg4), ?_⟩
        walk_at "rd"
        refine rd_lenL (SqL.of hp4) ?_
        have al : (stepW st c).2.length ≤ 2001 := step_len (st := st) hask
        have hsl : sizeLine = 16777216 := sizeLine_eq
        have nfg4 : ¬ fpM C_Machine H4 m g := fun q => by
          rcases fp4 g q with q | q
          · exact nfg q
          · rw [q] at hg3; cases hg3
        walk_at "rd"
        refine rd_app hg4 (by rw [List.length_map]; simp only [List.length_cons] at hn; omega) ?_
        walk_at "rd"
        refine ⟨rd_tyL (SqL.of upd_same), ?_⟩
        walk_at "rd"
        have hp5 : upd H4 g (.lst (List.map V.int out ++ [V.int ((List.map V.int (stepW st c).2).length : Nat)])) p = some (.lst ((stepW st c).2.map V.int)) := by rw [upd_ne gp.symm]; exact hp4
        refine rd_ext upd_same hp5 (by rw [List.length_append, List.length_map, List.length_map, List.length_singleton]; simp only [List.length_cons] at hn; omega) ?_
        refine ⟨k', hjk, hkl, _, rfl, rest, (stepW st c).1, out ++ (((stepW st c).2.length : Int) :: (stepW st c).2), ?_, ?_, ?_, ?_, ?_, hrest k' hk, by simp only [List.length_cons] at hn; omega, ?_, ?_⟩
        · exact ms4.keep fun b o q e => by
            have bg : b ≠ g := fun z => nfg4 (z ▸ q)
            rw [upd_ne bg, upd_ne bg]; exact e
        · exact hr4.keep fun o e => by rw [upd_ne gr.symm, upd_ne gr.symm]; exact e
        · rw [upd_same]
          simp only [List.map_append, List.map_cons, List.length_map, List.append_assoc, List.singleton_append]
        · refine sc3.keep fun ob xs e => ?_
          have ar : a ≠ r := fun z => by rw [z, hr3'] at e; cases e
          have ag : a ≠ g := fun z => by rw [z, hg3] at e; cases e
          rw [upd_ne ag, upd_ne ag]
          exact kp4 a _ e (notfp_frz ms3 e) ar
        · obtain ⟨dx, S, rs, mm, z1, z2, z3, _⟩ := ms4.ex
          have mg' : m ≠ g := fun z => nfg4 (.inl z.symm)
          rw [fp_of (show upd (upd H4 g _) g _ m = some (.ins C_Machine dx (mf_Machine S)) by rw [upd_ne mg', upd_ne mg']; exact z1)]
          rw [fp_of z1] at nfg4
          exact nfg4
        · rw [List.length_append, List.length_cons]; omega
        · rw [hspec, List.map_cons]
          show out ++ PyFlat.told ((Sz15Neutral.step st (PySz15.whole c)).2 :: PyFlat.played Sz15Neutral.step (Sz15Neutral.step st (PySz15.whole c)).1 (rest.map PySz15.whole)) = _
          rw [told_cons, List.append_assoc]
          rfl
    · walk_at "rd"
      have hcs0 := ht.nil (by rw [List.length_map] at hge; omega)
      subst hcs0
      have e : spec ns = out := by
        rw [hspec]
        show out ++ [] = out
        rw [List.append_nil]
      exact k g H3 (by rw [e]; exact hg3)
end
end My
namespace My
open PySem L2
section
variable {K : PySem.W.Frag} {mg : Str → Option Value} {h : Heap} {goal : Prop} {x qual m : Str} {st : Stmt} {ps : List Str} {f C : Addr} {oc : Value} {od an : Option Addr} {osl : Array (Option Value)} {kV doc pm cdv ct : Value}
theorem cls_then (X : K.In h) (G : h.Ns mainGlobals mg) (a : PySem.W.nsIn K mainGlobals x = some (some (.ref C))) (k : mg x = some (.ref C) → goal) : goal := k (PySem.W.mg_of X G a)
theorem facts_then (_ : K.In h) (_ : mg x = some (.ref C)) (pg : PySem.W.plainGet K C Str.empty = true) (hd : PySem.W.hasDictIn K C = true) (po : PySem.W.plainOver K C = true) (sa : PySem.W.findIn K (.ref C) "__setattr__" = some (some (.builtin "object.__setattr__"))) (k : Cls K C → goal) : goal := k ⟨pg, hd, po, sa⟩
theorem na_then {f : Str} (_ : K.In h) (_ : mg x = some (.ref C)) (a : PySem.W.findIn K (.ref C) f = some none) (k : NoAttr K C f → goal) : goal := k a
theorem mak_then (_ : K.In h) (hC : mg x = some (.ref C)) (mk : PySem.W.makesIn K C = true) (a : PySem.W.findIn K (.ref C) "__init__" = some (some (.ref f))) (i : PySem.W.isFn K (.ref f) = true) (kc : PySem.W.keepIn K (.ref C) = true) (l : K.lookup f = some ⟨oc, od, .func (PySem.W.fnOf "__init__" qual (defArgs st) (defBody st) (defScope st) .none kV doc pm an cdv ct), osl⟩)
    (c : PySem.W.codeIn K cdv qual = true) (k : PySem.W.keepIn K (.ref f) = true) (hb : ∀ (kV doc pm : Value) (an : Option Addr) (cdv ct : Value) (us : List Value), us.length = ps.length → bindArgs (PySem.W.fnOf "__init__" qual (defArgs st) (defBody st) (defScope st) .none kV doc pm an cdv ct) ⟨us, []⟩ = pure (ps.zip us)) (q : MakAt K mg x C qual st ps → goal) : goal :=
  q ⟨hC, f, _, fun_mk l c k, ⟨mk, a, i, kc⟩, (fun_mk l c k).binds hb⟩
theorem def_then (X : K.In h) (G : h.Ns mainGlobals mg) (a : PySem.W.nsIn K mainGlobals x = some (some (.ref f))) (l : K.lookup f = some ⟨oc, od, .func (PySem.W.fnOf x x (defArgs st) (defBody st) (defScope st) .none kV doc pm an cdv ct), osl⟩)
    (c : PySem.W.codeIn K cdv x = true) (k : PySem.W.keepIn K (.ref f) = true) (hb : ∀ (kV doc pm : Value) (an : Option Addr) (cdv ct : Value) (us : List Value), us.length = ps.length → bindArgs (PySem.W.fnOf x x (defArgs st) (defBody st) (defScope st) .none kV doc pm an cdv ct) ⟨us, []⟩ = pure (ps.zip us)) (q : DefAt K mg x st ps → goal) : goal :=
  q ⟨f, _, fun_mk l c k, PySem.W.mg_of X G a, (fun_mk l c k).binds hb⟩
theorem mth_then (_ : K.In h) (_ : mg x = some (.ref C)) (a : PySem.W.findIn K (.ref C) m = some (some (.ref f))) (i : PySem.W.isFn K (.ref f) = true) (l : K.lookup f = some ⟨oc, od, .func (PySem.W.fnOf m qual (defArgs st) (defBody st) (defScope st) .none kV doc pm an cdv ct), osl⟩)
    (c : PySem.W.codeIn K cdv qual = true) (k : PySem.W.keepIn K (.ref f) = true) (hb : ∀ (kV doc pm : Value) (an : Option Addr) (cdv ct : Value) (us : List Value), us.length = ps.length → bindArgs (PySem.W.fnOf m qual (defArgs st) (defBody st) (defScope st) .none kV doc pm an cdv ct) ⟨us, []⟩ = pure (ps.zip us)) (q : MthAt K C m qual st ps → goal) : goal :=
  q ⟨f, _, fun_mk l c k, ⟨a, i, k⟩, (fun_mk l c k).binds hb⟩
theorem con_then {i : Int} {t : Nat} (X : K.In h) (G : h.Ns mainGlobals mg) (a : PySem.W.nsIn K mainGlobals x = some (some (.int i t))) (k : (∃ t, mg x = some (.int i t)) → goal) : goal := k ⟨t, PySem.W.mg_of X G a⟩
theorem bui_then (X : K.In h) (G : h.Ns mainGlobals mg) (a : PySem.W.nsIn K mainGlobals x = some none) (k : mg x = none → goal) : goal := k (PySem.W.mg_none_of X G a)
theorem exc_then {B newId initId : String} {bm : List Value} (_ : K.In h) (hC : mg x = some (.ref C)) (F : ExcBaseFacts B newId initId bm) (e : PySem.W.excIn K C bm newId = true) (k : ExcC K mg x C → goal) : goal := k ⟨hC, B, newId, initId, bm, F, e⟩
theorem tab_then {ps : List (Int × Str)} {A : Addr} (X : K.In h) (G : h.Ns mainGlobals mg) (a : PySem.W.nsIn K mainGlobals x = some (some (.ref A))) (c : tabAt K A ps = true) (nd : (ps.map (·.1)).Nodup) (k : (∃ a, mg x = some (.ref a) ∧ KTab K mg a ps) → goal) : goal := k ⟨A, PySem.W.mg_of X G a, ktab_of X G c nd⟩
theorem tup_then {ns : List Str} {A : Addr} (X : K.In h) (G : h.Ns mainGlobals mg) (a : PySem.W.nsIn K mainGlobals x = some (some (.ref A))) (c : tupAt K A ns = true) (k : (∃ a, mg x = some (.ref a) ∧ KTup K mg a ns) → goal) : goal := k ⟨A, PySem.W.mg_of X G a, ktup_of X G c⟩
theorem exm_then {z : Str} {D : Addr} {b : Bool} (_ : K.In h) (_ : mg x = some (.ref C)) (_ : mg z = some (.ref D)) (e : PySem.W.exmOne K (.ref C) (.ref D) = some b) (k : PySem.W.exmOne K (.ref C) (.ref D) = some b → goal) : goal := k e
end
theorem ok_of {ns : List Int} (h : PySz15.answers_asked ns = true) (hb : ∀ x ∈ ns, -2147483648 ≤ x ∧ x ≤ 2147483647) : Ok ns := by
  unfold PySz15.answers_asked at h
  cases e : PyFlat.calls PySz15.shape ns.length ns with
  | none =>
    have e' : PySz15.calls ns = none := by unfold PySz15.calls; rw [e]
    rw [e'] at h; cases h
  | some cs =>
    have e' : PySz15.calls ns = some (cs.map PySz15.whole) := by unfold PySz15.calls; rw [e]
    rw [e'] at h
    have h' : (PyFlat.atMost 400 (cs.map PySz15.whole) && Sz15Neutral.asked (cs.map PySz15.whole)) = true := h
    simp only [PyFlat.atMost, Sz15Neutral.asked, Bool.and_eq_true, decide_eq_true_eq, List.length_map, List.all_eq_true] at h'
    refine ⟨cs, e', ⟨⟨ns.length, by rw [List.drop_zero]; exact e⟩, fun c hc => h'.2.1.1 _ (List.mem_map_of_mem hc)⟩, h'.1, hb⟩
theorem pre_of (args : List PySem.W.WData) (h : PySem.Challenge.rw_sixteenbit_s01_answers.pre args = true) : ∃ ns : List Int, args = [.list (ns.map .int)] ∧ ns.length ≤ 30000 ∧ Ok ns := by
  obtain ⟨a, hw, hq, rfl⟩ := (PySem.W.OpenSpec.pre_iff said args).mp h
  obtain ⟨ns, u⟩ := a
  have hw1 : PySem.W.Codec.inList 0 30000 (PySem.W.Codec.inInt (-2147483648) 2147483647) ns = true := (Bool.and_eq_true_iff.mp hw).1
  have hw2 := Bool.and_eq_true_iff.mp hw1
  have hl := PySem.W.Codec.inNat_iff.mp (show PySem.W.Codec.inNat 0 30000 ns.length = true from hw2.1)
  exact ⟨ns, rfl, hl.2, ok_of hq fun x hx => PySem.W.Codec.inInt_iff.mp (List.all_eq_true.mp hw2.2 x hx)⟩
theorem post_of (ns : List Int) (hl : ns.length ≤ 30000) (h : Ok ns) : PySem.Challenge.rw_sixteenbit_s01_answers.post [.list (ns.map .int)] (.list ((spec ns).map .int)) = true := by
  obtain ⟨cs, _, _, _, hb⟩ := h
  have hw : PySem.W.Codec.withinAll PySem.Challenge.rw_sixteenbit_s01_answers.args (ns, ()) = true := by
    refine Bool.and_eq_true_iff.mpr ⟨?_, rfl⟩
    refine Bool.and_eq_true_iff.mpr ⟨PySem.W.Codec.inNat_iff.mpr ⟨Nat.zero_le _, hl⟩, ?_⟩
    exact List.all_eq_true.mpr fun x hx => PySem.W.Codec.inInt_iff.mpr (hb x hx)
  exact (PySem.W.OpenSpec.post_iff said (a := (ns, ())) hw (.list ((spec ns).map .int)) []).mpr rfl
theorem sp_of {K : PySem.W.Frag} (H : Hp) (a : Addr) (ns : List Int) (h : Ok ns) (hO : Only H) (hS : SqL K H a (ns.map V.int)) : sp_answers K [.ref a] H (fun v H' => ∃ p, v = .ref p ∧ H' p = some (.lst ((spec ns).map V.int))) fun _ _ _ => False :=
  ⟨a, ns, rfl, hS, fun o e => by
    rcases hO a with z | ⟨ob, xs, z⟩
    · rw [e] at z; cases z
    · rw [e] at z; exact ⟨ob, xs, Option.some.inj z⟩, h, fun p H' e => ⟨p, rfl, e⟩⟩
end My
open PySem PySem.W PyProof.Rows
set_option maxRecDepth 100000 in
set_option maxHeartbeats 0 in
theorem PySem.Challenge.cw_sixteenbit_s01_answers_holds : PySem.Challenge.rw_sixteenbit_s01_answers.Holds := by
  w_on
  refine hd0 ?_
  k_fillS
  refine L2.walkS_of (r := PySem.Challenge.rw_sixteenbit_s01_answers) (n := 30000) (k := 13) (x := "calls") (CX := fun w => L2.CX1 PySem.Challenge.rw_sixteenbit_s01_answers.prog w) (sp := fun w => My.sp_answers _) (Ok := My.Ok) (f := My.spec) (by decide) rfl ⟨rfl, by decide, by decide⟩ My.pre_of My.post_of (fun w h Y => PySem.W.kIn_of Y) ?F (fun w H a ns hl hok hO hS => My.sp_of H a ns hok hO hS) ?cx
  case cx =>
    intro w H s e s' z
    obtain ⟨_, _, _, _, _, _, _, _, _, _, _, _, _, z⟩ := z
    exact z
  case F =>
    intro w mg fa h KX G hmg
    refine' My.cls_then (x := "Machine") KX G ?a fun mC_Machine => ?_; (case a => k_is)
    refine' My.facts_then KX mC_Machine ?pg ?hd ?po ?sa fun cl_Machine => ?_; (case pg => k_is); (case hd => k_is); (case po => k_is); (case sa => k_is)
    refine' My.na_then (f := "registers") KX mC_Machine ?a fun n_Machine_registers => ?_; (case a => k_is)
    refine' My.na_then (f := "memory") KX mC_Machine ?a fun n_Machine_memory => ?_; (case a => k_is)
    refine' My.na_then (f := "priority") KX mC_Machine ?a fun n_Machine_priority => ?_; (case a => k_is)
    refine' My.na_then (f := "negative") KX mC_Machine ?a fun n_Machine_negative => ?_; (case a => k_is)
    refine' My.na_then (f := "zero") KX mC_Machine ?a fun n_Machine_zero => ?_; (case a => k_is)
    refine' My.na_then (f := "overflow") KX mC_Machine ?a fun n_Machine_overflow => ?_; (case a => k_is)
    refine' My.na_then (f := "carry") KX mC_Machine ?a fun n_Machine_carry => ?_; (case a => k_is)
    refine' My.na_then (f := "why") KX mC_Machine ?a fun n_Machine_why => ?_; (case a => k_is)
    refine' My.mak_then (st := My.s_q0) (ps := ["self"]) KX mC_Machine ?m ?a ?i ?z ?l ?c ?k (fun _ _ _ _ _ _ us hl => match us, hl with | [_], _ => rfl) fun k_Machine => ?_; (case m => k_is); (case a => k_is); (case i => k_is); (case z => k_is); (case l => k_is); (case c => k_is); (case k => k_is)
    refine' My.cls_then (x := "CallReader") KX G ?a fun mC_CallReader => ?_; (case a => k_is)
    refine' My.facts_then KX mC_CallReader ?pg ?hd ?po ?sa fun cl_CallReader => ?_; (case pg => k_is); (case hd => k_is); (case po => k_is); (case sa => k_is)
    refine' My.na_then (f := "calls") KX mC_CallReader ?a fun n_CallReader_calls => ?_; (case a => k_is)
    refine' My.na_then (f := "place") KX mC_CallReader ?a fun n_CallReader_place => ?_; (case a => k_is)
    refine' My.mak_then (st := My.s_q13) (ps := ["self", "calls"]) KX mC_CallReader ?m ?a ?i ?z ?l ?c ?k (fun _ _ _ _ _ _ us hl => match us, hl with | [_, _], _ => rfl) fun k_CallReader => ?_; (case m => k_is); (case a => k_is); (case i => k_is); (case z => k_is); (case l => k_is); (case c => k_is); (case k => k_is)
    refine' My.cls_then (x := "NoInstruction") KX G ?a fun mC_NoInstruction => ?_; (case a => k_is)
    refine' My.exc_then KX mC_NoInstruction PySem.F.excBase_ValueError ?e fun x_NoInstruction => ?_; (case e => kernel_rfl)
    refine' My.cls_then (x := "OddPlace") KX G ?a fun mC_OddPlace => ?_; (case a => k_is)
    refine' My.exc_then KX mC_OddPlace PySem.F.excBase_ValueError ?e fun x_OddPlace => ?_; (case e => kernel_rfl)
    refine' My.cls_then (x := "UnknownCall") KX G ?a fun mC_UnknownCall => ?_; (case a => k_is)
    refine' My.exc_then KX mC_UnknownCall PySem.F.excBase_ValueError ?e fun x_UnknownCall => ?_; (case e => kernel_rfl)
    refine' My.exm_then KX mC_NoInstruction mC_NoInstruction (b := true) ?e fun q_NoInstruction_NoInstruction => ?_; (case e => first | k_is | kernel_rfl)
    refine' My.exm_then KX mC_NoInstruction mC_OddPlace (b := false) ?e fun q_NoInstruction_OddPlace => ?_; (case e => first | k_is | kernel_rfl)
    refine' My.exm_then KX mC_OddPlace mC_NoInstruction (b := false) ?e fun q_OddPlace_NoInstruction => ?_; (case e => first | k_is | kernel_rfl)
    refine' My.exm_then KX mC_OddPlace mC_OddPlace (b := true) ?e fun q_OddPlace_OddPlace => ?_; (case e => first | k_is | kernel_rfl)
    refine' My.mth_then (m := "reset") (st := My.s_q1) (ps := ["self"]) KX mC_Machine ?a ?i ?l ?c ?k (fun _ _ _ _ _ _ us hl => match us, hl with | [_], _ => rfl) fun m_Machine_reset => ?_; (case a => k_is); (case i => k_is); (case l => k_is); (case c => k_is); (case k => k_is)
    refine' My.mth_then (m := "set_status") (st := My.s_q2) (ps := ["self", "word"]) KX mC_Machine ?a ?i ?l ?c ?k (fun _ _ _ _ _ _ us hl => match us, hl with | [_, _], _ => rfl) fun m_Machine_set_status => ?_; (case a => k_is); (case i => k_is); (case l => k_is); (case c => k_is); (case k => k_is)
    refine' My.mth_then (m := "status_word") (st := My.s_q3) (ps := ["self"]) KX mC_Machine ?a ?i ?l ?c ?k (fun _ _ _ _ _ _ us hl => match us, hl with | [_], _ => rfl) fun m_Machine_status_word => ?_; (case a => k_is); (case i => k_is); (case l => k_is); (case c => k_is); (case k => k_is)
    refine' My.mth_then (m := "set_flags") (st := My.s_q4) (ps := ["self", "result", "top", "overflow", "carry"]) KX mC_Machine ?a ?i ?l ?c ?k (fun _ _ _ _ _ _ us hl => match us, hl with | [_, _, _, _, _], _ => rfl) fun m_Machine_set_flags => ?_; (case a => k_is); (case i => k_is); (case l => k_is); (case c => k_is); (case k => k_is)
    refine' My.mth_then (m := "store_bytes") (st := My.s_q5) (ps := ["self", "at", "data"]) KX mC_Machine ?a ?i ?l ?c ?k (fun _ _ _ _ _ _ us hl => match us, hl with | [_, _, _], _ => rfl) fun m_Machine_store_bytes => ?_; (case a => k_is); (case i => k_is); (case l => k_is); (case c => k_is); (case k => k_is)
    refine' My.mth_then (m := "read_word") (st := My.s_q6) (ps := ["self", "place"]) KX mC_Machine ?a ?i ?l ?c ?k (fun _ _ _ _ _ _ us hl => match us, hl with | [_, _], _ => rfl) fun m_Machine_read_word => ?_; (case a => k_is); (case i => k_is); (case l => k_is); (case c => k_is); (case k => k_is)
    refine' My.mth_then (m := "write_word") (st := My.s_q7) (ps := ["self", "place", "word"]) KX mC_Machine ?a ?i ?l ?c ?k (fun _ _ _ _ _ _ us hl => match us, hl with | [_, _, _], _ => rfl) fun m_Machine_write_word => ?_; (case a => k_is); (case i => k_is); (case l => k_is); (case c => k_is); (case k => k_is)
    refine' My.mth_then (m := "take_next_word") (st := My.s_q8) (ps := ["self"]) KX mC_Machine ?a ?i ?l ?c ?k (fun _ _ _ _ _ _ us hl => match us, hl with | [_], _ => rfl) fun m_Machine_take_next_word => ?_; (case a => k_is); (case i => k_is); (case l => k_is); (case c => k_is); (case k => k_is)
    refine' My.mth_then (m := "push") (st := My.s_q9) (ps := ["self", "word"]) KX mC_Machine ?a ?i ?l ?c ?k (fun _ _ _ _ _ _ us hl => match us, hl with | [_, _], _ => rfl) fun m_Machine_push => ?_; (case a => k_is); (case i => k_is); (case l => k_is); (case c => k_is); (case k => k_is)
    refine' My.mth_then (m := "pull") (st := My.s_q10) (ps := ["self"]) KX mC_Machine ?a ?i ?l ?c ?k (fun _ _ _ _ _ _ us hl => match us, hl with | [_], _ => rfl) fun m_Machine_pull => ?_; (case a => k_is); (case i => k_is); (case l => k_is); (case c => k_is); (case k => k_is)
    refine' My.mth_then (m := "interrupt") (st := My.s_q11) (ps := ["self", "vector"]) KX mC_Machine ?a ?i ?l ?c ?k (fun _ _ _ _ _ _ us hl => match us, hl with | [_, _], _ => rfl) fun m_Machine_interrupt => ?_; (case a => k_is); (case i => k_is); (case l => k_is); (case c => k_is); (case k => k_is)
    refine' My.def_then (x := "lies_in_memory") (st := My.s_q12) (ps := ["at", "n"]) KX G ?a ?l ?c ?k (fun _ _ _ _ _ _ us hl => match us, hl with | [_, _], _ => rfl) fun d_lies_in_memory => ?_; (case a => k_is); (case l => k_is); (case c => k_is); (case k => k_is)
    refine' My.mth_then (m := "has_more") (st := My.s_q14) (ps := ["self"]) KX mC_CallReader ?a ?i ?l ?c ?k (fun _ _ _ _ _ _ us hl => match us, hl with | [_], _ => rfl) fun m_CallReader_has_more => ?_; (case a => k_is); (case i => k_is); (case l => k_is); (case c => k_is); (case k => k_is)
    refine' My.mth_then (m := "take_number") (st := My.s_q15) (ps := ["self"]) KX mC_CallReader ?a ?i ?l ?c ?k (fun _ _ _ _ _ _ us hl => match us, hl with | [_], _ => rfl) fun m_CallReader_take_number => ?_; (case a => k_is); (case i => k_is); (case l => k_is); (case c => k_is); (case k => k_is)
    refine' My.mth_then (m := "take_row") (st := My.s_q16) (ps := ["self"]) KX mC_CallReader ?a ?i ?l ?c ?k (fun _ _ _ _ _ _ us hl => match us, hl with | [_], _ => rfl) fun m_CallReader_take_row => ?_; (case a => k_is); (case i => k_is); (case l => k_is); (case c => k_is); (case k => k_is)
    refine' My.def_then (x := "signed") (st := My.s_q17) (ps := ["value", "top"]) KX G ?a ?l ?c ?k (fun _ _ _ _ _ _ us hl => match us, hl with | [_, _], _ => rfl) fun d_signed => ?_; (case a => k_is); (case l => k_is); (case c => k_is); (case k => k_is)
    refine' My.def_then (x := "sum_of") (st := My.s_q18) (ps := ["s", "d", "top"]) KX G ?a ?l ?c ?k (fun _ _ _ _ _ _ us hl => match us, hl with | [_, _, _], _ => rfl) fun d_sum_of => ?_; (case a => k_is); (case l => k_is); (case c => k_is); (case k => k_is)
    refine' My.def_then (x := "difference_of") (st := My.s_q19) (ps := ["a", "b", "top"]) KX G ?a ?l ?c ?k (fun _ _ _ _ _ _ us hl => match us, hl with | [_, _, _], _ => rfl) fun d_difference_of => ?_; (case a => k_is); (case l => k_is); (case c => k_is); (case k => k_is)
    refine' My.def_then (x := "mov") (st := My.s_q20) (ps := ["s", "d", "carry", "top"]) KX G ?a ?l ?c ?k (fun _ _ _ _ _ _ us hl => match us, hl with | [_, _, _, _], _ => rfl) fun d_mov => ?_; (case a => k_is); (case l => k_is); (case c => k_is); (case k => k_is)
    refine' My.def_then (x := "cmp") (st := My.s_q21) (ps := ["s", "d", "carry", "top"]) KX G ?a ?l ?c ?k (fun _ _ _ _ _ _ us hl => match us, hl with | [_, _, _, _], _ => rfl) fun d_cmp => ?_; (case a => k_is); (case l => k_is); (case c => k_is); (case k => k_is)
    refine' My.def_then (x := "bit") (st := My.s_q22) (ps := ["s", "d", "carry", "top"]) KX G ?a ?l ?c ?k (fun _ _ _ _ _ _ us hl => match us, hl with | [_, _, _, _], _ => rfl) fun d_bit => ?_; (case a => k_is); (case l => k_is); (case c => k_is); (case k => k_is)
    refine' My.def_then (x := "bic") (st := My.s_q23) (ps := ["s", "d", "carry", "top"]) KX G ?a ?l ?c ?k (fun _ _ _ _ _ _ us hl => match us, hl with | [_, _, _, _], _ => rfl) fun d_bic => ?_; (case a => k_is); (case l => k_is); (case c => k_is); (case k => k_is)
    refine' My.def_then (x := "bis") (st := My.s_q24) (ps := ["s", "d", "carry", "top"]) KX G ?a ?l ?c ?k (fun _ _ _ _ _ _ us hl => match us, hl with | [_, _, _, _], _ => rfl) fun d_bis => ?_; (case a => k_is); (case l => k_is); (case c => k_is); (case k => k_is)
    refine' My.def_then (x := "add") (st := My.s_q25) (ps := ["s", "d", "carry", "top"]) KX G ?a ?l ?c ?k (fun _ _ _ _ _ _ us hl => match us, hl with | [_, _, _, _], _ => rfl) fun d_add => ?_; (case a => k_is); (case l => k_is); (case c => k_is); (case k => k_is)
    refine' My.def_then (x := "sub") (st := My.s_q26) (ps := ["s", "d", "carry", "top"]) KX G ?a ?l ?c ?k (fun _ _ _ _ _ _ us hl => match us, hl with | [_, _, _, _], _ => rfl) fun d_sub => ?_; (case a => k_is); (case l => k_is); (case c => k_is); (case k => k_is)
    refine' My.def_then (x := "clr") (st := My.s_q27) (ps := ["d", "carry", "top"]) KX G ?a ?l ?c ?k (fun _ _ _ _ _ _ us hl => match us, hl with | [_, _, _], _ => rfl) fun d_clr => ?_; (case a => k_is); (case l => k_is); (case c => k_is); (case k => k_is)
    refine' My.def_then (x := "com") (st := My.s_q28) (ps := ["d", "carry", "top"]) KX G ?a ?l ?c ?k (fun _ _ _ _ _ _ us hl => match us, hl with | [_, _, _], _ => rfl) fun d_com => ?_; (case a => k_is); (case l => k_is); (case c => k_is); (case k => k_is)
    refine' My.def_then (x := "inc") (st := My.s_q29) (ps := ["d", "carry", "top"]) KX G ?a ?l ?c ?k (fun _ _ _ _ _ _ us hl => match us, hl with | [_, _, _], _ => rfl) fun d_inc => ?_; (case a => k_is); (case l => k_is); (case c => k_is); (case k => k_is)
    refine' My.def_then (x := "dec") (st := My.s_q30) (ps := ["d", "carry", "top"]) KX G ?a ?l ?c ?k (fun _ _ _ _ _ _ us hl => match us, hl with | [_, _, _], _ => rfl) fun d_dec => ?_; (case a => k_is); (case l => k_is); (case c => k_is); (case k => k_is)
    refine' My.def_then (x := "neg") (st := My.s_q31) (ps := ["d", "carry", "top"]) KX G ?a ?l ?c ?k (fun _ _ _ _ _ _ us hl => match us, hl with | [_, _, _], _ => rfl) fun d_neg => ?_; (case a => k_is); (case l => k_is); (case c => k_is); (case k => k_is)
    refine' My.def_then (x := "adc") (st := My.s_q32) (ps := ["d", "carry", "top"]) KX G ?a ?l ?c ?k (fun _ _ _ _ _ _ us hl => match us, hl with | [_, _, _], _ => rfl) fun d_adc => ?_; (case a => k_is); (case l => k_is); (case c => k_is); (case k => k_is)
    refine' My.def_then (x := "sbc") (st := My.s_q33) (ps := ["d", "carry", "top"]) KX G ?a ?l ?c ?k (fun _ _ _ _ _ _ us hl => match us, hl with | [_, _, _], _ => rfl) fun d_sbc => ?_; (case a => k_is); (case l => k_is); (case c => k_is); (case k => k_is)
    refine' My.def_then (x := "tst") (st := My.s_q34) (ps := ["d", "carry", "top"]) KX G ?a ?l ?c ?k (fun _ _ _ _ _ _ us hl => match us, hl with | [_, _, _], _ => rfl) fun d_tst => ?_; (case a => k_is); (case l => k_is); (case c => k_is); (case k => k_is)
    refine' My.def_then (x := "turned") (st := My.s_q35) (ps := ["result", "out", "top"]) KX G ?a ?l ?c ?k (fun _ _ _ _ _ _ us hl => match us, hl with | [_, _, _], _ => rfl) fun d_turned => ?_; (case a => k_is); (case l => k_is); (case c => k_is); (case k => k_is)
    refine' My.def_then (x := "ror") (st := My.s_q36) (ps := ["d", "carry", "top"]) KX G ?a ?l ?c ?k (fun _ _ _ _ _ _ us hl => match us, hl with | [_, _, _], _ => rfl) fun d_ror => ?_; (case a => k_is); (case l => k_is); (case c => k_is); (case k => k_is)
    refine' My.def_then (x := "rol") (st := My.s_q37) (ps := ["d", "carry", "top"]) KX G ?a ?l ?c ?k (fun _ _ _ _ _ _ us hl => match us, hl with | [_, _, _], _ => rfl) fun d_rol => ?_; (case a => k_is); (case l => k_is); (case c => k_is); (case k => k_is)
    refine' My.def_then (x := "asr") (st := My.s_q38) (ps := ["d", "carry", "top"]) KX G ?a ?l ?c ?k (fun _ _ _ _ _ _ us hl => match us, hl with | [_, _, _], _ => rfl) fun d_asr => ?_; (case a => k_is); (case l => k_is); (case c => k_is); (case k => k_is)
    refine' My.def_then (x := "asl") (st := My.s_q39) (ps := ["d", "carry", "top"]) KX G ?a ?l ?c ?k (fun _ _ _ _ _ _ us hl => match us, hl with | [_, _, _], _ => rfl) fun d_asl => ?_; (case a => k_is); (case l => k_is); (case c => k_is); (case k => k_is)
    refine' My.def_then (x := "moved") (st := My.s_q40) (ps := ["value", "by", "top"]) KX G ?a ?l ?c ?k (fun _ _ _ _ _ _ us hl => match us, hl with | [_, _, _], _ => rfl) fun d_moved => ?_; (case a => k_is); (case l => k_is); (case c => k_is); (case k => k_is)
    refine' My.def_then (x := "divided") (st := My.s_q41) (ps := ["number", "by"]) KX G ?a ?l ?c ?k (fun _ _ _ _ _ _ us hl => match us, hl with | [_, _], _ => rfl) fun d_divided => ?_; (case a => k_is); (case l => k_is); (case c => k_is); (case k => k_is)
    refine' My.def_then (x := "place_at") (st := My.s_q42) (ps := ["machine", "r", "step"]) KX G ?a ?l ?c ?k (fun _ _ _ _ _ _ us hl => match us, hl with | [_, _, _], _ => rfl) fun d_place_at => ?_; (case a => k_is); (case l => k_is); (case c => k_is); (case k => k_is)
    refine' My.def_then (x := "place_then_step") (st := My.s_q43) (ps := ["machine", "r", "step"]) KX G ?a ?l ?c ?k (fun _ _ _ _ _ _ us hl => match us, hl with | [_, _, _], _ => rfl) fun d_place_then_step => ?_; (case a => k_is); (case l => k_is); (case c => k_is); (case k => k_is)
    refine' My.def_then (x := "step_then_place") (st := My.s_q44) (ps := ["machine", "r", "step"]) KX G ?a ?l ?c ?k (fun _ _ _ _ _ _ us hl => match us, hl with | [_, _, _], _ => rfl) fun d_step_then_place => ?_; (case a => k_is); (case l => k_is); (case c => k_is); (case k => k_is)
    refine' My.def_then (x := "place_by_next_word") (st := My.s_q45) (ps := ["machine", "r", "step"]) KX G ?a ?l ?c ?k (fun _ _ _ _ _ _ us hl => match us, hl with | [_, _, _], _ => rfl) fun d_place_by_next_word => ?_; (case a => k_is); (case l => k_is); (case c => k_is); (case k => k_is)
    refine' My.def_then (x := "tell") (st := My.s_q46) (ps := ["machine", "bits", "top"]) KX G ?a ?l ?c ?k (fun _ _ _ _ _ _ us hl => match us, hl with | [_, _, _], _ => rfl) fun d_tell => ?_; (case a => k_is); (case l => k_is); (case c => k_is); (case k => k_is)
    refine' My.def_then (x := "take") (st := My.s_q47) (ps := ["machine", "operand", "top"]) KX G ?a ?l ?c ?k (fun _ _ _ _ _ _ us hl => match us, hl with | [_, _, _], _ => rfl) fun d_take => ?_; (case a => k_is); (case l => k_is); (case c => k_is); (case k => k_is)
    refine' My.def_then (x := "put") (st := My.s_q48) (ps := ["machine", "operand", "top", "value"]) KX G ?a ?l ?c ?k (fun _ _ _ _ _ _ us hl => match us, hl with | [_, _, _, _], _ => rfl) fun d_put => ?_; (case a => k_is); (case l => k_is); (case c => k_is); (case k => k_is)
    refine' My.def_then (x := "two_operands") (st := My.s_q49) (ps := ["machine", "w"]) KX G ?a ?l ?c ?k (fun _ _ _ _ _ _ us hl => match us, hl with | [_, _], _ => rfl) fun d_two_operands => ?_; (case a => k_is); (case l => k_is); (case c => k_is); (case k => k_is)
    refine' My.def_then (x := "one_operand") (st := My.s_q50) (ps := ["machine", "w"]) KX G ?a ?l ?c ?k (fun _ _ _ _ _ _ us hl => match us, hl with | [_, _], _ => rfl) fun d_one_operand => ?_; (case a => k_is); (case l => k_is); (case c => k_is); (case k => k_is)
    refine' My.def_then (x := "swap_bytes") (st := My.s_q51) (ps := ["machine", "w"]) KX G ?a ?l ?c ?k (fun _ _ _ _ _ _ us hl => match us, hl with | [_, _], _ => rfl) fun d_swap_bytes => ?_; (case a => k_is); (case l => k_is); (case c => k_is); (case k => k_is)
    refine' My.def_then (x := "extend_sign") (st := My.s_q52) (ps := ["machine", "w"]) KX G ?a ?l ?c ?k (fun _ _ _ _ _ _ us hl => match us, hl with | [_, _], _ => rfl) fun d_extend_sign => ?_; (case a => k_is); (case l => k_is); (case c => k_is); (case k => k_is)
    refine' My.def_then (x := "exclusive_or") (st := My.s_q53) (ps := ["machine", "w"]) KX G ?a ?l ?c ?k (fun _ _ _ _ _ _ us hl => match us, hl with | [_, _], _ => rfl) fun d_exclusive_or => ?_; (case a => k_is); (case l => k_is); (case c => k_is); (case k => k_is)
    refine' My.def_then (x := "take_source") (st := My.s_q54) (ps := ["machine", "w"]) KX G ?a ?l ?c ?k (fun _ _ _ _ _ _ us hl => match us, hl with | [_, _], _ => rfl) fun d_take_source => ?_; (case a => k_is); (case l => k_is); (case c => k_is); (case k => k_is)
    refine' My.def_then (x := "even_number") (st := My.s_q55) (ps := ["w"]) KX G ?a ?l ?c ?k (fun _ _ _ _ _ _ us hl => match us, hl with | [_], _ => rfl) fun d_even_number => ?_; (case a => k_is); (case l => k_is); (case c => k_is); (case k => k_is)
    refine' My.def_then (x := "take_pair") (st := My.s_q56) (ps := ["machine", "r"]) KX G ?a ?l ?c ?k (fun _ _ _ _ _ _ us hl => match us, hl with | [_, _], _ => rfl) fun d_take_pair => ?_; (case a => k_is); (case l => k_is); (case c => k_is); (case k => k_is)
    refine' My.def_then (x := "put_pair") (st := My.s_q57) (ps := ["machine", "r", "value"]) KX G ?a ?l ?c ?k (fun _ _ _ _ _ _ us hl => match us, hl with | [_, _, _], _ => rfl) fun d_put_pair => ?_; (case a => k_is); (case l => k_is); (case c => k_is); (case k => k_is)
    refine' My.def_then (x := "is_within_word") (st := My.s_q58) (ps := ["number"]) KX G ?a ?l ?c ?k (fun _ _ _ _ _ _ us hl => match us, hl with | [_], _ => rfl) fun d_is_within_word => ?_; (case a => k_is); (case l => k_is); (case c => k_is); (case k => k_is)
    refine' My.def_then (x := "multiply") (st := My.s_q59) (ps := ["machine", "w"]) KX G ?a ?l ?c ?k (fun _ _ _ _ _ _ us hl => match us, hl with | [_, _], _ => rfl) fun d_multiply => ?_; (case a => k_is); (case l => k_is); (case c => k_is); (case k => k_is)
    refine' My.def_then (x := "divide") (st := My.s_q60) (ps := ["machine", "w"]) KX G ?a ?l ?c ?k (fun _ _ _ _ _ _ us hl => match us, hl with | [_, _], _ => rfl) fun d_divide => ?_; (case a => k_is); (case l => k_is); (case c => k_is); (case k => k_is)
    refine' My.def_then (x := "take_shift") (st := My.s_q61) (ps := ["machine", "w"]) KX G ?a ?l ?c ?k (fun _ _ _ _ _ _ us hl => match us, hl with | [_, _], _ => rfl) fun d_take_shift => ?_; (case a => k_is); (case l => k_is); (case c => k_is); (case k => k_is)
    refine' My.def_then (x := "shift_word") (st := My.s_q62) (ps := ["machine", "w"]) KX G ?a ?l ?c ?k (fun _ _ _ _ _ _ us hl => match us, hl with | [_, _], _ => rfl) fun d_shift_word => ?_; (case a => k_is); (case l => k_is); (case c => k_is); (case k => k_is)
    refine' My.def_then (x := "shift_pair") (st := My.s_q63) (ps := ["machine", "w"]) KX G ?a ?l ?c ?k (fun _ _ _ _ _ _ us hl => match us, hl with | [_, _], _ => rfl) fun d_shift_pair => ?_; (case a => k_is); (case l => k_is); (case c => k_is); (case k => k_is)
    refine' My.def_then (x := "move_pc") (st := My.s_q64) (ps := ["machine", "distance"]) KX G ?a ?l ?c ?k (fun _ _ _ _ _ _ us hl => match us, hl with | [_, _], _ => rfl) fun d_move_pc => ?_; (case a => k_is); (case l => k_is); (case c => k_is); (case k => k_is)
    refine' My.def_then (x := "count_down") (st := My.s_q65) (ps := ["machine", "w"]) KX G ?a ?l ?c ?k (fun _ _ _ _ _ _ us hl => match us, hl with | [_, _], _ => rfl) fun d_count_down => ?_; (case a => k_is); (case l => k_is); (case c => k_is); (case k => k_is)
    refine' My.def_then (x := "always") (st := My.s_q66) (ps := ["machine"]) KX G ?a ?l ?c ?k (fun _ _ _ _ _ _ us hl => match us, hl with | [_], _ => rfl) fun d_always => ?_; (case a => k_is); (case l => k_is); (case c => k_is); (case k => k_is)
    refine' My.def_then (x := "is_zero") (st := My.s_q67) (ps := ["machine"]) KX G ?a ?l ?c ?k (fun _ _ _ _ _ _ us hl => match us, hl with | [_], _ => rfl) fun d_is_zero => ?_; (case a => k_is); (case l => k_is); (case c => k_is); (case k => k_is)
    refine' My.def_then (x := "is_less") (st := My.s_q68) (ps := ["machine"]) KX G ?a ?l ?c ?k (fun _ _ _ _ _ _ us hl => match us, hl with | [_], _ => rfl) fun d_is_less => ?_; (case a => k_is); (case l => k_is); (case c => k_is); (case k => k_is)
    refine' My.def_then (x := "is_less_or_zero") (st := My.s_q69) (ps := ["machine"]) KX G ?a ?l ?c ?k (fun _ _ _ _ _ _ us hl => match us, hl with | [_], _ => rfl) fun d_is_less_or_zero => ?_; (case a => k_is); (case l => k_is); (case c => k_is); (case k => k_is)
    refine' My.def_then (x := "is_negative") (st := My.s_q70) (ps := ["machine"]) KX G ?a ?l ?c ?k (fun _ _ _ _ _ _ us hl => match us, hl with | [_], _ => rfl) fun d_is_negative => ?_; (case a => k_is); (case l => k_is); (case c => k_is); (case k => k_is)
    refine' My.def_then (x := "is_carry_or_zero") (st := My.s_q71) (ps := ["machine"]) KX G ?a ?l ?c ?k (fun _ _ _ _ _ _ us hl => match us, hl with | [_], _ => rfl) fun d_is_carry_or_zero => ?_; (case a => k_is); (case l => k_is); (case c => k_is); (case k => k_is)
    refine' My.def_then (x := "is_overflow") (st := My.s_q72) (ps := ["machine"]) KX G ?a ?l ?c ?k (fun _ _ _ _ _ _ us hl => match us, hl with | [_], _ => rfl) fun d_is_overflow => ?_; (case a => k_is); (case l => k_is); (case c => k_is); (case k => k_is)
    refine' My.def_then (x := "is_carry") (st := My.s_q73) (ps := ["machine"]) KX G ?a ?l ?c ?k (fun _ _ _ _ _ _ us hl => match us, hl with | [_], _ => rfl) fun d_is_carry => ?_; (case a => k_is); (case l => k_is); (case c => k_is); (case k => k_is)
    refine' My.def_then (x := "branch") (st := My.s_q74) (ps := ["machine", "w"]) KX G ?a ?l ?c ?k (fun _ _ _ _ _ _ us hl => match us, hl with | [_, _], _ => rfl) fun d_branch => ?_; (case a => k_is); (case l => k_is); (case c => k_is); (case k => k_is)
    refine' My.def_then (x := "tell_place") (st := My.s_q75) (ps := ["machine", "w"]) KX G ?a ?l ?c ?k (fun _ _ _ _ _ _ us hl => match us, hl with | [_, _], _ => rfl) fun d_tell_place => ?_; (case a => k_is); (case l => k_is); (case c => k_is); (case k => k_is)
    refine' My.def_then (x := "jump") (st := My.s_q76) (ps := ["machine", "w"]) KX G ?a ?l ?c ?k (fun _ _ _ _ _ _ us hl => match us, hl with | [_, _], _ => rfl) fun d_jump => ?_; (case a => k_is); (case l => k_is); (case c => k_is); (case k => k_is)
    refine' My.def_then (x := "jump_to_subroutine") (st := My.s_q77) (ps := ["machine", "w"]) KX G ?a ?l ?c ?k (fun _ _ _ _ _ _ us hl => match us, hl with | [_, _], _ => rfl) fun d_jump_to_subroutine => ?_; (case a => k_is); (case l => k_is); (case c => k_is); (case k => k_is)
    refine' My.def_then (x := "return_from_subroutine") (st := My.s_q78) (ps := ["machine", "w"]) KX G ?a ?l ?c ?k (fun _ _ _ _ _ _ us hl => match us, hl with | [_, _], _ => rfl) fun d_return_from_subroutine => ?_; (case a => k_is); (case l => k_is); (case c => k_is); (case k => k_is)
    refine' My.def_then (x := "mark") (st := My.s_q79) (ps := ["machine", "w"]) KX G ?a ?l ?c ?k (fun _ _ _ _ _ _ us hl => match us, hl with | [_, _], _ => rfl) fun d_mark => ?_; (case a => k_is); (case l => k_is); (case c => k_is); (case k => k_is)
    refine' My.def_then (x := "change_flags") (st := My.s_q80) (ps := ["machine", "w"]) KX G ?a ?l ?c ?k (fun _ _ _ _ _ _ us hl => match us, hl with | [_, _], _ => rfl) fun d_change_flags => ?_; (case a => k_is); (case l => k_is); (case c => k_is); (case k => k_is)
    refine' My.def_then (x := "halt") (st := My.s_q81) (ps := ["machine", "w"]) KX G ?a ?l ?c ?k (fun _ _ _ _ _ _ us hl => match us, hl with | [_, _], _ => rfl) fun d_halt => ?_; (case a => k_is); (case l => k_is); (case c => k_is); (case k => k_is)
    refine' My.def_then (x := "wait") (st := My.s_q82) (ps := ["machine", "w"]) KX G ?a ?l ?c ?k (fun _ _ _ _ _ _ us hl => match us, hl with | [_, _], _ => rfl) fun d_wait => ?_; (case a => k_is); (case l => k_is); (case c => k_is); (case k => k_is)
    refine' My.def_then (x := "return_from_interrupt") (st := My.s_q83) (ps := ["machine", "w"]) KX G ?a ?l ?c ?k (fun _ _ _ _ _ _ us hl => match us, hl with | [_, _], _ => rfl) fun d_return_from_interrupt => ?_; (case a => k_is); (case l => k_is); (case c => k_is); (case k => k_is)
    refine' My.def_then (x := "do_nothing") (st := My.s_q84) (ps := ["machine", "w"]) KX G ?a ?l ?c ?k (fun _ _ _ _ _ _ us hl => match us, hl with | [_, _], _ => rfl) fun d_do_nothing => ?_; (case a => k_is); (case l => k_is); (case c => k_is); (case k => k_is)
    refine' My.def_then (x := "break_point") (st := My.s_q85) (ps := ["machine", "w"]) KX G ?a ?l ?c ?k (fun _ _ _ _ _ _ us hl => match us, hl with | [_, _], _ => rfl) fun d_break_point => ?_; (case a => k_is); (case l => k_is); (case c => k_is); (case k => k_is)
    refine' My.def_then (x := "output_trap") (st := My.s_q86) (ps := ["machine", "w"]) KX G ?a ?l ?c ?k (fun _ _ _ _ _ _ us hl => match us, hl with | [_, _], _ => rfl) fun d_output_trap => ?_; (case a => k_is); (case l => k_is); (case c => k_is); (case k => k_is)
    refine' My.def_then (x := "emulator_trap") (st := My.s_q87) (ps := ["machine", "w"]) KX G ?a ?l ?c ?k (fun _ _ _ _ _ _ us hl => match us, hl with | [_, _], _ => rfl) fun d_emulator_trap => ?_; (case a => k_is); (case l => k_is); (case c => k_is); (case k => k_is)
    refine' My.def_then (x := "trap") (st := My.s_q88) (ps := ["machine", "w"]) KX G ?a ?l ?c ?k (fun _ _ _ _ _ _ us hl => match us, hl with | [_, _], _ => rfl) fun d_trap => ?_; (case a => k_is); (case l => k_is); (case c => k_is); (case k => k_is)
    refine' My.def_then (x := "find_work") (st := My.s_q89) (ps := ["w"]) KX G ?a ?l ?c ?k (fun _ _ _ _ _ _ us hl => match us, hl with | [_], _ => rfl) fun d_find_work => ?_; (case a => k_is); (case l => k_is); (case c => k_is); (case k => k_is)
    refine' My.def_then (x := "do_next") (st := My.s_q90) (ps := ["machine"]) KX G ?a ?l ?c ?k (fun _ _ _ _ _ _ us hl => match us, hl with | [_], _ => rfl) fun d_do_next => ?_; (case a => k_is); (case l => k_is); (case c => k_is); (case k => k_is)
    refine' My.def_then (x := "run") (st := My.s_q91) (ps := ["machine", "n"]) KX G ?a ?l ?c ?k (fun _ _ _ _ _ _ us hl => match us, hl with | [_, _], _ => rfl) fun d_run => ?_; (case a => k_is); (case l => k_is); (case c => k_is); (case k => k_is)
    refine' My.def_then (x := "do_one") (st := My.s_q92) (ps := ["machine"]) KX G ?a ?l ?c ?k (fun _ _ _ _ _ _ us hl => match us, hl with | [_], _ => rfl) fun d_do_one => ?_; (case a => k_is); (case l => k_is); (case c => k_is); (case k => k_is)
    refine' My.def_then (x := "answers") (st := My.s_q93) (ps := ["calls"]) KX G ?a ?l ?c ?k (fun _ _ _ _ _ _ us hl => match us, hl with | [_], _ => rfl) fun d_answers => ?_; (case a => k_is); (case l => k_is); (case c => k_is); (case k => k_is)
    refine' My.def_then (x := "answer_next") (st := My.s_q94) (ps := ["machine", "reader"]) KX G ?a ?l ?c ?k (fun _ _ _ _ _ _ us hl => match us, hl with | [_, _], _ => rfl) fun d_answer_next => ?_; (case a => k_is); (case l => k_is); (case c => k_is); (case k => k_is)
    refine' My.def_then (x := "pd_clear") (st := My.s_q95) (ps := ["machine"]) KX G ?a ?l ?c ?k (fun _ _ _ _ _ _ us hl => match us, hl with | [_], _ => rfl) fun d_pd_clear => ?_; (case a => k_is); (case l => k_is); (case c => k_is); (case k => k_is)
    refine' My.def_then (x := "pd_load") (st := My.s_q96) (ps := ["machine", "at", "data"]) KX G ?a ?l ?c ?k (fun _ _ _ _ _ _ us hl => match us, hl with | [_, _, _], _ => rfl) fun d_pd_load => ?_; (case a => k_is); (case l => k_is); (case c => k_is); (case k => k_is)
    refine' My.def_then (x := "pd_look") (st := My.s_q97) (ps := ["machine", "at", "n"]) KX G ?a ?l ?c ?k (fun _ _ _ _ _ _ us hl => match us, hl with | [_, _, _], _ => rfl) fun d_pd_look => ?_; (case a => k_is); (case l => k_is); (case c => k_is); (case k => k_is)
    refine' My.def_then (x := "pd_set") (st := My.s_q98) (ps := ["machine", "which", "value"]) KX G ?a ?l ?c ?k (fun _ _ _ _ _ _ us hl => match us, hl with | [_, _, _], _ => rfl) fun d_pd_set => ?_; (case a => k_is); (case l => k_is); (case c => k_is); (case k => k_is)
    refine' My.def_then (x := "pd_get") (st := My.s_q99) (ps := ["machine", "which"]) KX G ?a ?l ?c ?k (fun _ _ _ _ _ _ us hl => match us, hl with | [_, _], _ => rfl) fun d_pd_get => ?_; (case a => k_is); (case l => k_is); (case c => k_is); (case k => k_is)
    refine' My.def_then (x := "pd_run") (st := My.s_q100) (ps := ["machine", "n"]) KX G ?a ?l ?c ?k (fun _ _ _ _ _ _ us hl => match us, hl with | [_, _], _ => rfl) fun d_pd_run => ?_; (case a => k_is); (case l => k_is); (case c => k_is); (case k => k_is)
    refine' My.def_then (x := "pd_why") (st := My.s_q101) (ps := ["machine"]) KX G ?a ?l ?c ?k (fun _ _ _ _ _ _ us hl => match us, hl with | [_], _ => rfl) fun d_pd_why => ?_; (case a => k_is); (case l => k_is); (case c => k_is); (case k => k_is)
    refine' My.def_then (x := "pd_interrupt") (st := My.s_q102) (ps := ["machine", "vector", "priority"]) KX G ?a ?l ?c ?k (fun _ _ _ _ _ _ us hl => match us, hl with | [_, _, _], _ => rfl) fun d_pd_interrupt => ?_; (case a => k_is); (case l => k_is); (case c => k_is); (case k => k_is)
    refine' My.con_then (x := "ALL_DONE") KX G ?a fun c_ALL_DONE => ?_; (case a => k_is)
    refine' My.con_then (x := "HALTED") KX G ?a fun c_HALTED => ?_; (case a => k_is)
    refine' My.con_then (x := "WAITING") KX G ?a fun c_WAITING => ?_; (case a => k_is)
    refine' My.con_then (x := "NOT_ONE") KX G ?a fun c_NOT_ONE => ?_; (case a => k_is)
    refine' My.con_then (x := "AT_ODD_PLACE") KX G ?a fun c_AT_ODD_PLACE => ?_; (case a => k_is)
    refine' My.con_then (x := "MEMORY_SIZE") KX G ?a fun c_MEMORY_SIZE => ?_; (case a => k_is)
    refine' My.con_then (x := "WORD_RANGE") KX G ?a fun c_WORD_RANGE => ?_; (case a => k_is)
    refine' My.con_then (x := "REGISTER_COUNT") KX G ?a fun c_REGISTER_COUNT => ?_; (case a => k_is)
    refine' My.con_then (x := "SP") KX G ?a fun c_SP => ?_; (case a => k_is)
    refine' My.con_then (x := "PC") KX G ?a fun c_PC => ?_; (case a => k_is)
    refine' My.con_then (x := "WORD_TOP") KX G ?a fun c_WORD_TOP => ?_; (case a => k_is)
    refine' My.con_then (x := "BYTE_TOP") KX G ?a fun c_BYTE_TOP => ?_; (case a => k_is)
    refine' My.con_then (x := "REGISTER_PLACES") KX G ?a fun c_REGISTER_PLACES => ?_; (case a => k_is)
    refine' My.con_then (x := "UPPER_BYTE") KX G ?a fun c_UPPER_BYTE => ?_; (case a => k_is)
    refine' My.con_then (x := "PAIR_TOP") KX G ?a fun c_PAIR_TOP => ?_; (case a => k_is)
    refine' My.con_then (x := "PAIR_RANGE") KX G ?a fun c_PAIR_RANGE => ?_; (case a => k_is)
    refine' My.con_then (x := "UPPER_BITS") KX G ?a fun c_UPPER_BITS => ?_; (case a => k_is)
    refine' My.con_then (x := "CMP") KX G ?a fun c_CMP => ?_; (case a => k_is)
    refine' My.con_then (x := "BIT") KX G ?a fun c_BIT => ?_; (case a => k_is)
    refine' My.con_then (x := "MOVB") KX G ?a fun c_MOVB => ?_; (case a => k_is)
    refine' My.con_then (x := "SUB") KX G ?a fun c_SUB => ?_; (case a => k_is)
    refine' My.con_then (x := "FRAME") KX G ?a fun c_FRAME => ?_; (case a => k_is)
    refine' My.con_then (x := "BREAK_VECTOR") KX G ?a fun c_BREAK_VECTOR => ?_; (case a => k_is)
    refine' My.con_then (x := "OUTPUT_VECTOR") KX G ?a fun c_OUTPUT_VECTOR => ?_; (case a => k_is)
    refine' My.con_then (x := "EMULATOR_VECTOR") KX G ?a fun c_EMULATOR_VECTOR => ?_; (case a => k_is)
    refine' My.con_then (x := "TRAP_VECTOR") KX G ?a fun c_TRAP_VECTOR => ?_; (case a => k_is)
    refine' My.con_then (x := "PD_CLEAR") KX G ?a fun c_PD_CLEAR => ?_; (case a => k_is)
    refine' My.con_then (x := "PD_LOAD") KX G ?a fun c_PD_LOAD => ?_; (case a => k_is)
    refine' My.con_then (x := "PD_LOOK") KX G ?a fun c_PD_LOOK => ?_; (case a => k_is)
    refine' My.con_then (x := "PD_SET") KX G ?a fun c_PD_SET => ?_; (case a => k_is)
    refine' My.con_then (x := "PD_GET") KX G ?a fun c_PD_GET => ?_; (case a => k_is)
    refine' My.con_then (x := "PD_RUN") KX G ?a fun c_PD_RUN => ?_; (case a => k_is)
    refine' My.con_then (x := "PD_WHY") KX G ?a fun c_PD_WHY => ?_; (case a => k_is)
    refine' My.con_then (x := "PD_INTERRUPT") KX G ?a fun c_PD_INTERRUPT => ?_; (case a => k_is)
    refine' My.con_then (x := "STATUS_WORD") KX G ?a fun c_STATUS_WORD => ?_; (case a => k_is)
    refine' My.con_then (x := "LONGEST_RUN") KX G ?a fun c_LONGEST_RUN => ?_; (case a => k_is)
    refine' My.con_then (x := "LAST_VECTOR") KX G ?a fun c_LAST_VECTOR => ?_; (case a => k_is)
    refine' My.con_then (x := "VECTOR_SIZE") KX G ?a fun c_VECTOR_SIZE => ?_; (case a => k_is)
    refine' My.con_then (x := "HIGHEST_PRIORITY") KX G ?a fun c_HIGHEST_PRIORITY => ?_; (case a => k_is)
    refine' My.con_then (x := "DONE") KX G ?a fun c_DONE => ?_; (case a => k_is)
    refine' My.con_then (x := "REFUSED") KX G ?a fun c_REFUSED => ?_; (case a => k_is)
    refine' My.con_then (x := "NOT_ABOVE") KX G ?a fun c_NOT_ABOVE => ?_; (case a => k_is)
    refine' My.con_then (x := "INTERRUPTED") KX G ?a fun c_INTERRUPTED => ?_; (case a => k_is)
    refine' My.con_then (x := "STOPPED_AT_ODD_PLACE") KX G ?a fun c_STOPPED_AT_ODD_PLACE => ?_; (case a => k_is)
    refine' My.tab_then (x := "TWO_OPERANDS") (ps := My.tab_TWO_OPERANDS) KX G ?a ?c (by decide) fun t_TWO_OPERANDS => ?_; (case a => k_is); (case c => kernel_rfl)
    refine' My.tab_then (x := "ONE_OPERAND") (ps := My.tab_ONE_OPERAND) KX G ?a ?c (by decide) fun t_ONE_OPERAND => ?_; (case a => k_is); (case c => kernel_rfl)
    refine' My.tab_then (x := "CONDITIONS") (ps := My.tab_CONDITIONS) KX G ?a ?c (by decide) fun t_CONDITIONS => ?_; (case a => k_is); (case c => kernel_rfl)
    refine' My.tab_then (x := "BY_TWO_DIGITS") (ps := My.tab_BY_TWO_DIGITS) KX G ?a ?c (by decide) fun t_BY_TWO_DIGITS => ?_; (case a => k_is); (case c => kernel_rfl)
    refine' My.tab_then (x := "BY_UPPER_BYTE") (ps := My.tab_BY_UPPER_BYTE) KX G ?a ?c (by decide) fun t_BY_UPPER_BYTE => ?_; (case a => k_is); (case c => kernel_rfl)
    refine' My.tab_then (x := "BY_FOUR_DIGITS") (ps := My.tab_BY_FOUR_DIGITS) KX G ?a ?c (by decide) fun t_BY_FOUR_DIGITS => ?_; (case a => k_is); (case c => kernel_rfl)
    refine' My.tab_then (x := "BY_THREE_DIGITS") (ps := My.tab_BY_THREE_DIGITS) KX G ?a ?c (by decide) fun t_BY_THREE_DIGITS => ?_; (case a => k_is); (case c => kernel_rfl)
    refine' My.tab_then (x := "BY_FIVE_DIGITS") (ps := My.tab_BY_FIVE_DIGITS) KX G ?a ?c (by decide) fun t_BY_FIVE_DIGITS => ?_; (case a => k_is); (case c => kernel_rfl)
    refine' My.tab_then (x := "BY_WHOLE_WORD") (ps := My.tab_BY_WHOLE_WORD) KX G ?a ?c (by decide) fun t_BY_WHOLE_WORD => ?_; (case a => k_is); (case c => kernel_rfl)
    refine' My.tup_then (x := "PLACES") (ns := My.tab_PLACES) KX G ?a ?c fun t_PLACES => ?_; (case a => k_is); (case c => kernel_rfl)
    refine' My.bui_then (x := "abs") KX G ?a fun b_abs => ?_; (case a => k_is)
    refine' My.bui_then (x := "enumerate") KX G ?a fun b_enumerate => ?_; (case a => k_is)
    refine' My.bui_then (x := "len") KX G ?a fun b_len => ?_; (case a => k_is)
    refine' My.bui_then (x := "list") KX G ?a fun b_list => ?_; (case a => k_is)
    have T : My.TX _ mg _ _ _ _ _ := ⟨cl_Machine, n_Machine_registers, n_Machine_memory, n_Machine_priority, n_Machine_negative, n_Machine_zero, n_Machine_overflow, n_Machine_carry, n_Machine_why, k_Machine, cl_CallReader, n_CallReader_calls, n_CallReader_place, k_CallReader, x_NoInstruction, x_OddPlace, x_UnknownCall, q_NoInstruction_NoInstruction, q_NoInstruction_OddPlace, q_OddPlace_NoInstruction, q_OddPlace_OddPlace, m_Machine_reset, m_Machine_set_status, m_Machine_status_word, m_Machine_set_flags, m_Machine_store_bytes, m_Machine_read_word, m_Machine_write_word, m_Machine_take_next_word, m_Machine_push, m_Machine_pull, m_Machine_interrupt, d_lies_in_memory, m_CallReader_has_more, m_CallReader_take_number, m_CallReader_take_row, d_signed, d_sum_of, d_difference_of, d_mov, d_cmp, d_bit, d_bic, d_bis, d_add, d_sub, d_clr, d_com, d_inc, d_dec, d_neg, d_adc, d_sbc, d_tst, d_turned, d_ror, d_rol, d_asr, d_asl, d_moved, d_divided, d_place_at, d_place_then_step, d_step_then_place, d_place_by_next_word, d_tell, d_take, d_put, d_two_operands, d_one_operand, d_swap_bytes, d_extend_sign, d_exclusive_or, d_take_source, d_even_number, d_take_pair, d_put_pair, d_is_within_word, d_multiply, d_divide, d_take_shift, d_shift_word, d_shift_pair, d_move_pc, d_count_down, d_always, d_is_zero, d_is_less, d_is_less_or_zero, d_is_negative, d_is_carry_or_zero, d_is_overflow, d_is_carry, d_branch, d_tell_place, d_jump, d_jump_to_subroutine, d_return_from_subroutine, d_mark, d_change_flags, d_halt, d_wait, d_return_from_interrupt, d_do_nothing, d_break_point, d_output_trap, d_emulator_trap, d_trap, d_find_work, d_do_next, d_run, d_do_one, d_answers, d_answer_next, d_pd_clear, d_pd_load, d_pd_look, d_pd_set, d_pd_get, d_pd_run, d_pd_why, d_pd_interrupt, c_ALL_DONE, c_HALTED, c_WAITING, c_NOT_ONE, c_AT_ODD_PLACE, c_MEMORY_SIZE, c_WORD_RANGE, c_REGISTER_COUNT, c_SP, c_PC, c_WORD_TOP, c_BYTE_TOP, c_REGISTER_PLACES, c_UPPER_BYTE, c_PAIR_TOP, c_PAIR_RANGE, c_UPPER_BITS, c_CMP, c_BIT, c_MOVB, c_SUB, c_FRAME, c_BREAK_VECTOR, c_OUTPUT_VECTOR, c_EMULATOR_VECTOR, c_TRAP_VECTOR, c_PD_CLEAR, c_PD_LOAD, c_PD_LOOK, c_PD_SET, c_PD_GET, c_PD_RUN, c_PD_WHY, c_PD_INTERRUPT, c_STATUS_WORD, c_LONGEST_RUN, c_LAST_VECTOR, c_VECTOR_SIZE, c_HIGHEST_PRIORITY, c_DONE, c_REFUSED, c_NOT_ABOVE, c_INTERRUPTED, c_STOPPED_AT_ODD_PLACE, t_TWO_OPERANDS, t_ONE_OPERAND, t_CONDITIONS, t_BY_TWO_DIGITS, t_BY_UPPER_BYTE, t_BY_FOUR_DIGITS, t_BY_THREE_DIGITS, t_BY_FIVE_DIGITS, t_BY_WHOLE_WORD, t_PLACES, b_abs, b_enumerate, b_len, b_list⟩
    obtain ⟨f, fd, Fn, hf, hb⟩ := T.d_answers
    cases hmg.symm.trans hf
    have FF := fun base => My.fn_answers (P := PySem.Challenge.rw_sixteenbit_s01_answers.prog) (w := w) (base := base) T Fn
    obtain ⟨oc, od, kV, doc, pm, an, cdv, ct, osl, rfl, lk, hcd⟩ := Fn.ex
    exact ⟨_, fun s u => .of_eq rfl, fun base _ _ => FF base⟩
