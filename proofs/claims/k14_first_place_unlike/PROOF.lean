import PyProof.Rows.All
import Wide.All
import OpenK.AllK
import Wide.FinOn
import Lean
import PyProof.EqAt
import PyProof.EqKinds
import PyProof.TupleCall
import PySem.Challenge.RW_quartersheet_k14_first_place_unlike
set_option Elab.async false
set_option linter.all false
set_option maxRecDepth 100000

namespace L2
open PySem PySem.Spec PyProof.Rows


abbrev Key := Sum Int Str
def keyIs : Key → Value → Bool
  | .inl k, v => Value.isInt k v
  | .inr x, v => Value.isStrOf x v
def keyH (w : World) : Key → Int
  | .inl k => hashInt k
  | .inr x => hashStr w x
theorem keyIs_shape : ∀ {k : Key} {v : Value}, keyIs k v = true → (∃ i t, k = Sum.inl i ∧ v = Value.int i t) ∨ (∃ x t, k = Sum.inr x ∧ v = Value.str x t)
  | .inl i, v, h => by
    obtain ⟨t, e⟩ := Value.isInt_shape (k := i) (v := v) h
    exact .inl ⟨i, t, rfl, e⟩
  | .inr x, v, h => by
    obtain ⟨t, e⟩ := Value.isStrOf_shape (x := x) (v := v) h
    exact .inr ⟨x, t, rfl, e⟩
theorem key_ll (a b : Int) : decide ((Sum.inl a : Key) = Sum.inl b) = (a == b) := by
  by_cases e : a = b
  · subst e; simp
  · have h : ¬ (Sum.inl a : Key) = Sum.inl b := fun q => e (Sum.inl.inj q)
    rw [decide_eq_false h]
    exact (beq_eq_false_iff_ne.mpr e).symm
theorem key_rr (a b : Str) : decide ((Sum.inr a : Key) = Sum.inr b) = decide (a = b) := by
  by_cases e : a = b
  · subst e; simp
  · have h : ¬ (Sum.inr a : Key) = Sum.inr b := fun q => e (Sum.inr.inj q)
    rw [decide_eq_false h, decide_eq_false e]
theorem key_lr (a : Int) (b : Str) : decide ((Sum.inl a : Key) = Sum.inr b) = false := decide_eq_false (fun q => nomatch q)
theorem key_rl (a : Str) (b : Int) : decide ((Sum.inr a : Key) = Sum.inl b) = false := decide_eq_false (fun q => nomatch q)

def mixKind (prog : Program) (w : World) : PySem.KeyKind prog w Key where
  is := keyIs
  hash := keyH w
  inj := fun v a b ha hb => by
    rcases keyIs_shape ha with ⟨i, t, rfl, rfl⟩ | ⟨x, t, rfl, rfl⟩
    · rcases keyIs_shape hb with ⟨j, u, rfl, e⟩ | ⟨y, u, rfl, e⟩
      · injection e with e1 _; rw [e1]
      · exact nomatch e
    · rcases keyIs_shape hb with ⟨j, u, rfl, e⟩ | ⟨y, u, rfl, e⟩
      · exact nomatch e
      · injection e with e1 _; rw [e1]
  byValue := fun k v h => by
    rcases keyIs_shape h with ⟨i, t, rfl, rfl⟩ | ⟨x, t, rfl, rfl⟩ <;> rfl
  pyHash := fun hv h => by
    rcases keyIs_shape hv with ⟨i, t, rfl, rfl⟩ | ⟨x, t, rfl, rfl⟩
    · exact wpAny_pyHash_int h
    · exact wpAny_pyHash_str h
  eqBool := fun hu hv h => by
    rcases keyIs_shape hu with ⟨i, t, rfl, rfl⟩ | ⟨x, t, rfl, rfl⟩
    · rcases keyIs_shape hv with ⟨j, u, rfl, rfl⟩ | ⟨y, u, rfl, rfl⟩
      · rw [key_ll] at h; exact wpAny_eqBool_int h
      · rw [key_lr] at h; exact SeqAt.EqAt.int_str i t y u _ _ _ _ h
    · rcases keyIs_shape hv with ⟨j, u, rfl, rfl⟩ | ⟨y, u, rfl, rfl⟩
      · rw [key_rl] at h; exact SeqAt.EqAt.str_int x t j u _ _ _ _ h
      · rw [key_rr] at h; exact wpAny_eqBool_str h
  «strs» := fun k x t v h => by
    rcases keyIs_shape h with ⟨i, u, rfl, e⟩ | ⟨y, u, rfl, e⟩
    · exact nomatch e
    · injection e with e1 _
      subst e1
      cases v <;> rfl

end L2

namespace L2
open PySem PySem.Spec PyProof.Rows


inductive V where
  | non | bl (b : Bool) | int (i : Int) | str (x : Str) | byt (b : Array UInt8) | flt (b : UInt64) | ref (a : Addr) | ty (n : String)
  deriving DecidableEq

def RelV : V → Value → Prop
  | .non, u => u = Value.none
  | .bl b, u => u = Value.bool b
  | .int i, u => ∃ t, u = Value.int i t
  | .str x, u => ∃ t, u = Value.str x t
  | .byt b, u => ∃ t, u = Value.bytes b t
  | .flt b, u => ∃ t, u = Value.float b t
  | .ref a, u => u = Value.ref a
  | .ty n, u => u = Value.type n

abbrev Vals : List V → List Value → Prop := Paired RelV
theorem Vals.length {xs : List V} {us : List Value} (r : Vals xs us) : xs.length = us.length := Paired.length r
theorem Vals.get : ∀ {xs : List V} {us : List Value} {i : Nat} {x : V}, Vals xs us → xs[i]? = some x → ∃ u, us[i]? = some u ∧ RelV x u
  | _, _, _, _, .nil, e => by simp at e
  | _, _, 0, _, .cons r _, e => by simp at e; subst e; exact ⟨_, rfl, r⟩
  | _, _, i + 1, x, .cons _ t, e => by
    obtain ⟨u, h1, h2⟩ := Vals.get (i := i) (x := x) t (by simpa using e)
    exact ⟨u, by simpa using h1, h2⟩
theorem Vals.set {x : V} {u : Value} (r : RelV x u) : ∀ {xs : List V} {us : List Value} (i : Nat), Vals xs us → Vals (xs.set i x) (us.set i u)
  | _, _, _, .nil => .nil
  | _, _, 0, .cons _ t => .cons r t
  | _, _, i + 1, .cons q t => .cons q (Vals.set r i t)
theorem Vals.append : ∀ {xs ys : List V} {us ws : List Value}, Vals xs us → Vals ys ws → Vals (xs ++ ys) (us ++ ws)
  | _, _, _, _, .nil, s => s
  | _, _, _, _, .cons r t, s => .cons r (Vals.append t s)
theorem Vals.take : ∀ {xs : List V} {us : List Value} (n : Nat), Vals xs us → Vals (xs.take n) (us.take n)
  | _, _, 0, _ => .nil
  | _, _, _ + 1, .nil => .nil
  | _, _, n + 1, .cons r t => .cons r (Vals.take n t)
theorem Vals.drop : ∀ {xs : List V} {us : List Value} (n : Nat), Vals xs us → Vals (xs.drop n) (us.drop n)
  | _, _, 0, r => r
  | _, _, _ + 1, .nil => .nil
  | _, _, n + 1, .cons _ t => Vals.drop n t
def RelO : Option V → Option Value → Prop
  | some v, some u => RelV v u
  | none, none => True
  | _, _ => False
def KV {κ : Type} : List (κ × V) → List (κ × Value) → Prop := Paired fun (p : κ × V) (q : κ × Value) => p.1 = q.1 ∧ RelV p.2 q.2


def kV : Key → V
  | .inl i => .int i
  | .inr x => .str x


inductive HO where
  
  | lst (xs : List V)
  
  | tup (xs : List V)
  
  | dK (kvs : List (Key × V)) | dT (kvs : List (List Key × V))
  
  | set (S : Int → Bool) (n : Nat)
  
  | ins (C dx : Addr) (fs : List (Str × V))
  
  | own (x : Addr)
  
  | xd (fs : List (Str × V))
  
  | met (f x : Addr)
  
  | rng (lo hi : Int)
  
  | frz (o : Obj) (u : HO)
  
  | tbl (ps : Array Value)
  
  | ext (φ : Heap → Prop)

abbrev Hp := Addr → Option HO
def upd (H : Hp) (a : Addr) (o : HO) : Hp := fun b => if b = a then some o else H b
theorem upd_same {H : Hp} {a : Addr} {o : HO} : upd H a o a = some o := by unfold upd; rw [if_pos rfl]
theorem upd_ne {H : Hp} {a b : Addr} {o : HO} (h : b ≠ a) : upd H a o b = H b := by unfold upd; rw [if_neg h]
theorem upd_upd {H : Hp} {a : Addr} {o u : HO} : upd (upd H a o) a u = upd H a u := by
  funext b; unfold upd; split <;> rfl

theorem ne_of {H : Hp} {a b : Addr} {o u : HO} (h : H a = some o) (h' : H b = some u) (d : o ≠ u) : a ≠ b := by
  intro e; subst e; rw [h] at h'; exact d (Option.some.inj h')
theorem ne_of_none {H : Hp} {a b : Addr} {o : HO} (h : H a = some o) (h' : H b = none) : a ≠ b := by
  intro e; subst e; rw [h] at h'; cases h'

section
variable (P : Program) (w : World)
def ObjOk (H : Hp) (h : Heap) (a : Addr) : HO → Prop
  | .lst xs => xs.length ≤ sizeLine ∧ ∃ (its : List Value) (n : Nat), Vals xs its ∧ h.get? a = some { cls := .type "list", data := .seq its.toArray n }
  | .tup xs => xs.length ≤ sizeLine ∧ ∃ its : List Value, Vals xs its ∧ IsTup h a its.toArray
  | .dK kvs => kvs.length ≤ sizeLine ∧ (a == sysModules) = false ∧ ∃ vs, KV kvs vs ∧ h.DictOf (mixKind P w) a vs
  | .dT kvs => kvs.length ≤ sizeLine ∧ (a == sysModules) = false ∧ ∃ xs : List (List Key × Addr × Value),
      Paired (fun (p : List Key × V) (q : List Key × Addr × Value) => p.1 = q.1 ∧ H q.2.1 = some (.tup (p.1.map kV)) ∧ RelV p.2 q.2.2) kvs xs ∧
      ∃ o es ep, h.get? a = some o ∧ o.ExactDict ∧ o.data = .dict es ep ∧ es.toList = xs.map (entryOfKey (tupleKind (mixKind P w))) ∧ (xs.map (·.1)).Nodup
  | .set S n => h.SetOf (intKind P w) a S n
  | .ins C dx fs => H dx = some (.own a) ∧ fs.length ≤ 1000 ∧ dx ≠ a ∧ h.get? a = some (PySem.W.instObj C dx) ∧
      ∃ mA, h.Ns1 dx mA ∧ (∀ f, RelO (fs.lookup f) (mA f)) ∧ PySem.Within mA (fs.map (·.1))
  | .own _ => ∃ o, h.get? a = some o
  | .xd fs => ∃ mA, h.Ns1 a mA ∧ ∀ f, RelO (fs.lookup f) (mA f)
  | .rng lo hi => ∃ t u v, h.get? a = some { cls := .type "range", data := .fields #[.int lo t, .int hi u, .int 1 v] }
  | .frz o u => h.get? a = some o ∧ ObjOk H h a u
  | .tbl ps => h.get? a = some { cls := .none, data := .fields ps }
  | .met f x => h.get? a = some (PySem.W.methodObj (.ref f) (.ref x))
  | .ext φ => φ h ∧ (∃ o, h.get? a = some o) ∧ ∀ h1 h2 : Heap, φ h1 → (∀ o, h1.get? a = some o → h2.get? a = some o) → φ h2

def HOk (H : Hp) (h : Heap) : Prop := ∀ a o, H a = some o → ObjOk P w H h a o
end

section
variable {P : Program} {w : World} {H H' : Hp} {h h' : Heap} {a : Addr} {o : HO}
theorem ObjOk.lt (x : ObjOk P w H h a o) : a < h.objs.size := by
  cases o with
  | lst xs => obtain ⟨_, _, _, _, e⟩ := x; exact Heap.lt_size e
  | tup xs => obtain ⟨_, _, _, p⟩ := x; exact p.lt
  | dK kvs => obtain ⟨_, _, _, _, o, _, _, e, _⟩ := x; exact Heap.lt_size e
  | dT kvs => obtain ⟨_, _, _, _, o, _, _, e, _⟩ := x; exact Heap.lt_size e
  | set S n => obtain ⟨o, _, _, _, e, _⟩ := x; exact Heap.lt_size e
  | ins C dx fs => obtain ⟨_, _, _, e, _⟩ := x; exact Heap.lt_size e
  | own y => obtain ⟨_, e⟩ := x; exact Heap.lt_size e
  | xd fs => obtain ⟨_, ⟨_, _, _, e, _⟩, _⟩ := x; exact Heap.lt_size e
  | rng lo hi => obtain ⟨_, _, _, e⟩ := x; exact Heap.lt_size e
  | frz ob u => obtain ⟨e, _⟩ := x; exact Heap.lt_size e
  | tbl ps => exact Heap.lt_size (show h.get? a = some _ from x)
  | met f y => exact Heap.lt_size (show h.get? a = some _ from x)
  | ext φ => obtain ⟨_, ⟨_, e⟩, _⟩ := x; exact Heap.lt_size e
theorem Paired.mapP {α β : Type} {F G : α → β → Prop} : ∀ {l₁ : List α} {l₂ : List β}, Paired F l₁ l₂ → (∀ a b, F a b → G a b) → Paired G l₁ l₂
  | _, _, .nil, _ => .nil
  | _, _, .cons r t, f => .cons (f _ _ r) (Paired.mapP t f)
theorem ObjOk.stay (x : ObjOk P w H h a o) (k : ∀ b u, (b = a ∨ H b = some (.own a)) → h.get? b = some u → h'.get? b = some u)
    (ho : ∀ b, H b = some (.own a) → H' b = some (.own a)) (ht : ∀ b xs, H b = some (.tup xs) → H' b = some (.tup xs)) : ObjOk P w H' h' a o := by
  induction o with
  | lst xs => obtain ⟨z, its, n, r, e⟩ := x; exact ⟨z, its, n, r, k _ _ (.inl rfl) e⟩
  | tup xs => obtain ⟨z, its, r, ob, e, c⟩ := x; exact ⟨z, its, r, ob, k _ _ (.inl rfl) e, c⟩
  | dK kvs => obtain ⟨z, y, vs, r, ob, es, ep, e, c⟩ := x; exact ⟨z, y, vs, r, ob, es, ep, k _ _ (.inl rfl) e, c⟩
  | dT kvs =>
    obtain ⟨z, y, xs, r, ob, es, ep, e, c⟩ := x
    exact ⟨z, y, xs, Paired.mapP r fun p q z => ⟨z.1, ht _ _ z.2.1, z.2.2⟩, ob, es, ep, k _ _ (.inl rfl) e, c⟩
  | set S n => obtain ⟨ob, es, ep, t, e, c⟩ := x; exact ⟨ob, es, ep, t, k _ _ (.inl rfl) e, c⟩
  | ins C dx fs =>
    obtain ⟨d, z, ne, e, mA, ⟨od, es, ep, e2, c⟩, r⟩ := x
    exact ⟨ho _ d, z, ne, k _ _ (.inl rfl) e, mA, ⟨od, es, ep, k _ _ (.inr d) e2, c⟩, r⟩
  | own y => obtain ⟨ob, e⟩ := x; exact ⟨ob, k _ _ (.inl rfl) e⟩
  | xd fs => obtain ⟨mA, ⟨od, es, ep, e, c⟩, r⟩ := x; exact ⟨mA, ⟨od, es, ep, k _ _ (.inl rfl) e, c⟩, r⟩
  | rng lo hi => obtain ⟨t, u, v, e⟩ := x; exact ⟨t, u, v, k _ _ (.inl rfl) e⟩
  | frz ob u ih => obtain ⟨e, q⟩ := x; exact ⟨k _ _ (.inl rfl) e, ih q⟩
  | tbl ps =>
    have e : h.get? a = some { cls := .none, data := .fields ps } := x
    show h'.get? a = some { cls := .none, data := .fields ps }
    exact k a _ (.inl rfl) e
  | met f y =>
    have e : h.get? a = some (PySem.W.methodObj (.ref f) (.ref y)) := x
    show h'.get? a = some (PySem.W.methodObj (.ref f) (.ref y))
    exact k a _ (.inl rfl) e
  | ext φ => obtain ⟨p, ⟨o, e⟩, st⟩ := x; exact ⟨st _ _ p fun o q => k _ _ (.inl rfl) q, ⟨o, k _ _ (.inl rfl) e⟩, st⟩
theorem HOk.lt (x : HOk P w H h) (e : H a = some o) : a < h.objs.size := (x a o e).lt
theorem HOk.fresh (x : HOk P w H h) (e : h.objs.size ≤ a) : H a = none := by
  cases q : H a with
  | none => rfl
  | some u => exact absurd (Nat.lt_of_lt_of_le (x.lt q) e) (Nat.lt_irrefl _)

theorem HOk.kept (x : HOk P w H h) (k : ∀ b u, h.get? b = some u → h'.get? b = some u) : HOk P w H h' := fun a o e =>
  (x a o e).stay (fun b u _ q => k b u q) (fun _ q => q) fun _ _ q => q

theorem HOk.laid (x : HOk P w H h) (k : ∀ b u, h.get? b = some u → h'.get? b = some u) (hp : h.objs.size ≤ a) (new : ObjOk P w (upd H a o) h' a o) : HOk P w (upd H a o) h' := fun b u e => by
  have hn := x.fresh hp
  by_cases hb : b = a
  · subst hb; rw [upd_same] at e; cases e; exact new
  · rw [upd_ne hb] at e
    exact (x b u e).stay (fun c v _ q => k c v q) (fun c q => by rw [upd_ne (ne_of_none q hn)]; exact q) fun c xs q => by rw [upd_ne (ne_of_none q hn)]; exact q
end


def Rd (H : Hp) (a : Addr) (u : HO) : Prop := H a = some u ∨ ∃ o, H a = some (.frz o u)
theorem Rd.ok {P : Program} {w : World} {H : Hp} {h : Heap} {a : Addr} {u : HO} (r : Rd H a u) (x : HOk P w H h) : ObjOk P w H h a u := by
  rcases r with r | ⟨o, r⟩
  · exact x a u r
  · obtain ⟨_, q⟩ := x a _ r
    exact q

def Mut : Option HO → Prop
  | some (.lst _) => True
  | some (.dK _) => True
  | some (.dT _) => True
  | some (.set _ _) => True
  | some (.ins _ _ _) => True
  | some (.ext _) => True
  | _ => False
section
variable {P : Program} {w : World} {H : Hp} {h h' : Heap} {x e : Addr} {o' : HO}

theorem HOk.write (ok : HOk P w H h) (mu : Mut (H x)) (he : e = x ∨ H e = some (.own x)) (k : ∀ b u, b ≠ e → h.get? b = some u → h'.get? b = some u) (heo : ∃ u, h'.get? e = some u)
    (new : ObjOk P w (upd H x o') h' x o') : HOk P w (upd H x o') h' := fun b u q => by
  have nown : ∀ c y, H c = some (.own y) → c ≠ x := fun c y r z => by subst z; rw [r] at mu; exact mu
  have ntup : ∀ c xs, H c = some (.tup xs) → c ≠ x := fun c xs r z => by subst z; rw [r] at mu; exact mu
  by_cases hb : b = x
  · subst hb; rw [upd_same] at q; cases q; exact new
  · rw [upd_ne hb] at q
    by_cases hbe : b = e
    · have q' : H b = some (.own x) := by
        rcases he with z | z
        · exact absurd (hbe.trans z) hb
        · rw [hbe]; exact z
      rw [q] at q'; cases q'
      obtain ⟨v, hv⟩ := heo
      exact ⟨v, by rw [hbe]; exact hv⟩
    · refine (ok b u q).stay (fun c v hc r => k c v ?_ r) (fun c r => by rw [upd_ne (nown c b r)]; exact r) fun c xs r => by rw [upd_ne (ntup c xs r)]; exact r
      rcases hc with rfl | hc
      · exact hbe
      · rintro rfl
        rcases he with z | z
        · exact nown c b hc z
        · rw [hc] at z; cases z; exact hb rfl
end


structure Un (fs ex : List Addr) (H H' : Hp) (h h' : Heap) : Prop where
  keep : ∀ b o, h.get? b = some o → H b = none → b ∉ fs → b ∉ ex → h'.get? b = some o
  slot : ∀ b o, h.get? b = some o → H b = none → b ∈ fs → b ∉ ex → ∃ sl, h'.get? b = some { o with slots := sl }
  free : ∀ b o, h.get? b = some o → H b = none → b ∉ ex → H' b = none
  there : ∀ b o, h.get? b = some o → b ∉ ex → ∃ o', h'.get? b = some o'
  tups : ∀ b xs, H b = some (.tup xs) → H' b = some (.tup xs)
  frzs : ∀ b o u, H b = some (.frz o u) → H' b = some (.frz o u)
  tbls : ∀ b ps, H b = some (.tbl ps) → ∃ more, H' b = some (.tbl (ps ++ more))
section
variable {fs fs' ex ex' : List Addr} {H H1 H2 : Hp} {h h1 h2 h' : Heap} {a x e : Addr} {o : HO}
theorem Un.any (u : Un fs ex H H1 h h1) {b : Addr} {ob : Obj} (q : h.get? b = some ob) (n : H b = none) (hx : b ∉ ex) : ∃ sl, h1.get? b = some { ob with slots := sl } := by
  by_cases hb : b ∈ fs
  · exact u.slot b ob q n hb hx
  · exact ⟨ob.slots, u.keep b ob q n hb hx⟩
theorem Un.kept (k : ∀ b u, h.get? b = some u → h'.get? b = some u) : Un fs ex H H h h' :=
  ⟨fun b ob q _ _ _ => k b ob q, fun b ob q _ _ _ => ⟨ob.slots, k b ob q⟩, fun _ _ _ n _ => n, fun b ob q _ => ⟨ob, k b ob q⟩, fun _ _ q => q, fun _ _ _ q => q, fun _ ps q => ⟨#[], by rw [q]; simp⟩⟩
theorem Un.refl : Un fs ex H H h h := Un.kept fun _ _ q => q
theorem Un.laid (k : ∀ b u, h.get? b = some u → h'.get? b = some u) (hp : h.objs.size ≤ a) (hn : H a = none) : Un fs ex H (upd H a o) h h' where
  keep := fun b u q _ _ _ => k b u q
  slot := fun b u q _ _ _ => ⟨u.slots, k b u q⟩
  free := fun b u q n _ => by rw [upd_ne (Nat.ne_of_lt (Nat.lt_of_lt_of_le (Heap.lt_size q) hp))]; exact n
  there := fun b u q _ => ⟨u, k b u q⟩
  tups := fun b xs q => by rw [upd_ne (ne_of_none q hn)]; exact q
  frzs := fun b u xs q => by rw [upd_ne (ne_of_none q hn)]; exact q
  tbls := fun b ps q => ⟨#[], by rw [upd_ne (ne_of_none q hn), q]; simp⟩
theorem Un.write (mu : Mut (H x)) (he : e = x ∨ H e = some (.own x)) (k : ∀ b u, b ≠ e → h.get? b = some u → h'.get? b = some u) (heo : ∃ u, h'.get? e = some u) : Un fs ex H (upd H x o) h h' := by
  have hx : ∀ b, H b = none → b ≠ x := fun b n z => by subst z; rw [n] at mu; exact mu
  have hb : ∀ b, H b = none → b ≠ e := fun b n z => by
    subst z
    rcases he with r | r
    · exact hx b n r
    · rw [n] at r; cases r
  have hm : ∀ b u, H b = some u → ¬ Mut (some u) → b ≠ x := fun b u q nm z => by subst z; rw [q] at mu; exact nm mu
  refine ⟨fun b u q n _ _ => k b u (hb b n) q, fun b u q n _ _ => ⟨u.slots, k b u (hb b n) q⟩, fun b u q n _ => by rw [upd_ne (hx b n)]; exact n, fun b u q _ => ?_,
    fun b xs q => by rw [upd_ne (hm b _ q fun z => z)]; exact q, fun b u xs q => by rw [upd_ne (hm b _ q fun z => z)]; exact q, fun b ps q => ⟨#[], by rw [upd_ne (hm b _ q fun z => z), q]; simp⟩⟩
  by_cases hbe : b = e
  · subst hbe; exact heo
  · exact ⟨u, k b u hbe q⟩
end


def trk (h : Heap) (H : Hp) : List Addr := (List.range h.objs.size).filter fun a => (H a).isSome
def hidT (h : Heap) (H : Hp) : Heap := PySem.W.hideAll h (trk h H)
theorem hidT_size (h : Heap) (H : Hp) : (hidT h H).objs.size = h.objs.size := PySem.W.hideAll_size _ _
theorem hidT_get {h : Heap} {H : Hp} {b : Addr} {o : Obj} (e : h.get? b = some o) (n : H b = none) : (hidT h H).get? b = some o :=
  PySem.W.hideAll_get _ e fun hm => by
    have q : (H b).isSome = true := (List.mem_filter.mp hm).2
    rw [n] at q; simp at q
theorem of_hidT {h : Heap} {H : Hp} {b : Addr} {o : Obj} (e : (hidT h H).get? b = some o) : h.get? b = some o ∧ H b = none := by
  have e' : h.get? b = some o := PySem.W.of_hideAll (trk h H) e
  refine ⟨e', ?_⟩
  cases q : H b with
  | none => rfl
  | some x =>
    have hm : b ∈ trk h H := List.mem_filter.mpr ⟨List.mem_range.mpr (Heap.lt_size e'), by simp [q]⟩
    have z : (hidT h H).get? b = none := PySem.W.hideAll_none (trk h H) hm
    rw [z] at e; cases e


end L2

namespace L2
open PySem PySem.Spec PyProof.Rows


structure Mod (K : PySem.W.Frag) (mg : Str → Option Value) (base : Heap) : Prop where
  kin : K.In base
  glob : base.Ns mainGlobals mg
  blt : ∃ mb, base.Ns builtinsNs mb ∧ ∀ x : Str, x ≠ "__name__" → mb x = bootBuiltins x
  nolimit : base.NoLimit


structure Cx where
  prog : Program
  w : World
  K : PySem.W.Frag
  mg : Str → Option Value
  base : Heap
  A : Around
  N : List Str
  s₀ : Shared
  H₀ : Hp
  env : Env
  outer : List Env
  stack : List Env
  ex : List Addr
  fn : Str → Bool
  calm : Bool
  pn : List (Addr × Obj)
  xe : Value → Shared → Prop

def frs (l : List Env) : List Addr := l.filterMap (·.frame)
abbrev Cx.fs (X : Cx) : List Addr := frs X.outer

def Vis (sc : Scope) (x : Str) : Prop := sc.names.lookup x = some .local ∨ sc.names.lookup x = some .cell ∨ sc.names.lookup x = some .free
def Loc (sc : Scope) (x : Str) : Prop := sc.names.lookup x = some .local ∨ sc.names.lookup x = some .cell
def Look (env : Env) (h : Heap) (m : Str → Option Value) (x : Str) (u : Value) : Prop :=
  (env.kindOf x = some .local ∧ m x = some u) ∨ ((env.kindOf x = some .cell ∨ env.kindOf x = some .free) ∧ ∃ c, env.cells.lookup x = some c ∧ h.IsCell c (some u))

structure Cx.Ok (X : Cx) : Prop where
  mod : Mod X.K X.mg X.base
  kind : X.env.scope.kind = .function
  glob : X.env.globals = mainGlobals
  blt : X.env.builtins = builtinsNs
  above : X.s₀.heap.objs.size ≤ X.env.locals
  inj : ∀ x y c, X.env.cells.lookup x = some c → X.env.cells.lookup y = some c → x = y
  has : ∀ x, (X.env.kindOf x = some .cell ∨ X.env.kindOf x = some .free) → ∃ c, X.env.cells.lookup x = some c
  cab : ∀ x c, X.fn x = true → X.env.cells.lookup x = some c → X.s₀.heap.objs.size ≤ c
  hd : X.calm = true → X.A.handled = none
  frames : X.A.frames = some X.stack
  stk : X.stack = X.outer ∨ (X.stack = X.env :: X.outer ∧ X.env.frame = some X.env.locals)
  exf : ∀ b ∈ X.ex, b ≠ X.env.locals ∧ ∀ x c, X.env.cells.lookup x = some c → c ≠ b
  bs : ∀ b o, X.base.get? b = some o → X.s₀.heap.get? b = some o ∧ X.H₀ b = none
  bsz : X.base.objs.size ≤ X.s₀.heap.objs.size
  noex : ∀ b o, X.base.get? b = some o → b ∉ X.ex
  exfs : ∀ b ∈ X.ex, b ∉ X.fs
  funs : X.s₀.heap.FunFrames X.base X.outer
  frf : ∀ b ∈ X.fs, X.H₀ b = none

structure Inv (X : Cx) (pins : List (Addr × Obj)) (σ : List (Option V)) (H : Hp) (s : Shared) : Prop where
  ok : X.Ok
  os : s.os = X.s₀.os
  bare : AllBare s.gens
  base : Un X.fs X.ex X.H₀ H X.s₀.heap s.heap
  loc : ∃ m, s.heap.Ns X.env.locals m ∧ ∀ (i : Nat) (x : Str) (v : V), X.N[i]? = some x → σ[i]? = some (some v) → Vis X.env.scope x → ∃ u, RelV v u ∧ Look X.env s.heap m x u
  cell : ∀ x c, X.env.cells.lookup x = some c → ∃ v, s.heap.IsCell c v
  free : H X.env.locals = none
  freeC : ∀ x c, X.env.cells.lookup x = some c → H c = none
  pin : ∀ p ∈ X.pn ++ pins, s.heap.get? p.1 = some p.2 ∧ H p.1 = none ∧ p.1 ≠ X.env.locals ∧ p.1 ∉ X.fs ∧ ∀ v, p.2.data ≠ .cell v
  hok : HOk X.prog X.w H s.heap
  len : σ.length = X.N.length

section
variable {X : Cx} {pins : List (Addr × Obj)} {σ : List (Option V)} {H H' : Hp} {s : Shared} {h' : Heap}

theorem Cx.Ok.nofr (ok : X.Ok) {b : Addr} {o : Obj} (e : X.base.get? b = some o) : b ∉ X.fs := fun hb => by
  have := (ok.funs.mem hb).1
  rw [e] at this; cases this
theorem Inv.bs (I : Inv X pins σ H s) : ∀ b o, X.base.get? b = some o → s.heap.get? b = some o ∧ H b = none := fun b o e =>
  ⟨I.base.keep b o (I.ok.bs b o e).1 (I.ok.bs b o e).2 (I.ok.nofr e) (I.ok.noex b o e), I.base.free b o (I.ok.bs b o e).1 (I.ok.bs b o e).2 (I.ok.noex b o e)⟩
theorem Inv.bk (I : Inv X pins σ H s) : ∀ b o, X.base.get? b = some o → s.heap.get? b = some o := fun b o e => (I.bs b o e).1
theorem Inv.mod (I : Inv X pins σ H s) : Mod X.K X.mg X.base := I.ok.mod
theorem Inv.kIn (I : Inv X pins σ H s) : X.K.In s.heap := I.ok.mod.kin.keeps I.bk
theorem Inv.lt (I : Inv X pins σ H s) : X.env.locals < s.heap.objs.size := let ⟨_, hn, _⟩ := I.loc; hn.lt
theorem Inv.sz (I : Inv X pins σ H s) : X.s₀.heap.objs.size ≤ s.heap.objs.size := Nat.le_trans I.ok.above (Nat.le_of_lt I.lt)
theorem Inv.nofs (I : Inv X pins σ H s) {a : Addr} (h : s.heap.objs.size ≤ a) : a ∉ X.fs := fun hb => by
  obtain ⟨_, o, ho, _⟩ := I.ok.funs.mem hb
  exact absurd (Nat.lt_of_lt_of_le (Heap.lt_size ho) (Nat.le_trans I.sz h)) (Nat.lt_irrefl _)
theorem Inv.cne (I : Inv X pins σ H s) : ∀ x c, X.env.cells.lookup x = some c → c ≠ X.env.locals := fun x c e z => by
  obtain ⟨v, o, ho, hd⟩ := I.cell x c e
  obtain ⟨m, ⟨o', es, ep, ho', hd', _⟩, _⟩ := I.loc
  rw [z, ho'] at ho; cases ho; rw [hd'] at hd; cases hd
theorem Inv.funs (I : Inv X pins σ H s) : s.heap.FunFrames X.base X.outer := by
  have all : ∀ (l : List Env), (∀ b ∈ frs l, b ∈ X.fs) → X.s₀.heap.FunFrames X.base l → s.heap.FunFrames X.base l := by
    intro l
    induction l with
    | nil => intro _ _; trivial
    | cons env r ih =>
      intro hs hl
      obtain ⟨hk, ⟨L, o, hf, hn, ho, hd⟩, hr⟩ := hl
      have hL : L ∈ X.fs := hs L (by unfold frs; rw [List.filterMap_cons, hf]; exact List.mem_cons_self)
      obtain ⟨sl, e⟩ := I.base.slot L o ho (I.ok.frf L hL) hL fun z => I.ok.exfs L z hL
      exact ⟨hk, ⟨L, _, hf, hn, e, hd⟩, ih (fun b hb => hs b (by unfold frs; rw [List.filterMap_cons, hf]; exact List.mem_cons_of_mem _ hb)) hr⟩
  exact all X.outer (fun _ hb => hb) I.ok.funs


theorem Inv.stack (I : Inv X pins σ H s) : s.heap.FunFrames X.base X.stack := by
  rcases I.ok.stk with e | ⟨e, hf⟩
  · rw [e]; exact I.funs
  · rw [e]
    obtain ⟨m, hn, _⟩ := I.loc
    refine .cons (by rw [I.ok.kind]; decide) hf hn ?_ I.funs
    exact Heap.get?_none_of_le (Nat.le_trans I.ok.bsz I.ok.above)
theorem Inv.stkSub (I : Inv X pins σ H s) : ∀ b ∈ frs X.stack, b ∈ X.env.locals :: X.fs := fun b hb => by
  rcases I.ok.stk with e | ⟨e, hf⟩
  · rw [e] at hb; exact List.mem_cons_of_mem _ hb
  · rw [e] at hb
    unfold frs at hb
    rw [List.filterMap_cons, hf] at hb
    exact hb
theorem Inv.stkFree (I : Inv X pins σ H s) : ∀ b ∈ frs X.stack, H b = none := fun b hb => by
  rcases List.mem_cons.mp (I.stkSub b hb) with e | hb
  · rw [e]; exact I.free
  · obtain ⟨_, o, ho, _⟩ := I.ok.funs.mem hb
    exact I.base.free b o ho (I.ok.frf b hb) fun z => I.ok.exfs b z hb


theorem Inv.step {g' : Array GenState} {t' : Nat} {d' : Drawn} {ch : List Addr} (I : Inv X pins σ H s)
    (hch : ∀ b ∈ ch, (b ∈ X.ex ∨ X.s₀.heap.objs.size ≤ b) ∧ b ≠ X.env.locals ∧ (∀ x c, X.env.cells.lookup x = some c → c ≠ b) ∧ ∀ p ∈ X.pn ++ pins, p.1 ≠ b)
    (keep : ∀ b o, b ≠ X.env.locals → b ∉ X.fs → b ∉ ch → s.heap.get? b = some o → H b = none → h'.get? b = some o)
    (slot : ∀ b o, b ≠ X.env.locals → b ∈ X.fs → b ∉ ch → s.heap.get? b = some o → H b = none → ∃ sl, h'.get? b = some { o with slots := sl }) (free : ∀ b o, b ∉ ch → s.heap.get? b = some o → H b = none → H' b = none)
    (there : ∀ b o, b ∉ ch → s.heap.get? b = some o → ∃ o', h'.get? b = some o')
    (tups : ∀ b xs, H b = some (.tup xs) → H' b = some (.tup xs)) (frzs : ∀ b o u, H b = some (.frz o u) → H' b = some (.frz o u)) (tbls : ∀ b ps, H b = some (.tbl ps) → ∃ more, H' b = some (.tbl (ps ++ more)))
    (ns : ∀ m, s.heap.Ns X.env.locals m → h'.Ns X.env.locals m) (hok : HOk X.prog X.w H' h') (hg : AllBare g') :
    Inv X pins σ H' { s with heap := h', gens := g', drawn := d', toks := t' } := by
  have neL : ∀ b o, X.s₀.heap.get? b = some o → b ≠ X.env.locals := fun b o e => Nat.ne_of_lt (Nat.lt_of_lt_of_le (Heap.lt_size e) I.ok.above)
  have neC : ∀ b o, X.s₀.heap.get? b = some o → b ∉ X.ex → b ∉ ch := fun b o e hx hb => by
    rcases (hch b hb).1 with z | z
    · exact hx z
    · exact absurd (Nat.lt_of_lt_of_le (Heap.lt_size e) z) (Nat.lt_irrefl _)
  have cellK : ∀ x c, X.env.cells.lookup x = some c → ∀ v, s.heap.IsCell c v → h'.IsCell c v := fun x c e v ⟨o, ho, hd⟩ => by
    have nch : c ∉ ch := fun z => (hch c z).2.2.1 x c e rfl
    by_cases hc : c ∈ X.fs
    · obtain ⟨sl, q⟩ := slot c o (I.cne x c e) hc nch ho (I.freeC x c e)
      exact ⟨_, q, hd⟩
    · exact ⟨o, keep c o (I.cne x c e) hc nch ho (I.freeC x c e), hd⟩
  refine ⟨I.ok, I.os, hg, ⟨fun b o e n hb hx => ?_, fun b o e n hb hx => ?_, fun b o e n hx => ?_, fun b o e hx => ?_, fun b xs e => tups b xs (I.base.tups b xs e), fun b o xs e => frzs b o xs (I.base.frzs b o xs e), fun b ps e => ?_⟩, ?_, fun x c e => ?_, ?_, fun x c e => ?_, fun p hp => ?_, hok, I.len⟩
  · exact keep b o (neL b o e) hb (neC b o e hx) (I.base.keep b o e n hb hx) (I.base.free b o e n hx)
  · obtain ⟨sl, e1⟩ := I.base.slot b o e n hb hx
    obtain ⟨sl', e2⟩ := slot b _ (neL b o e) hb (neC b o e hx) e1 (I.base.free b o e n hx)
    exact ⟨sl', e2⟩
  · obtain ⟨o', e1⟩ := I.base.there b o e hx
    exact free b o' (neC b o e hx) e1 (I.base.free b o e n hx)
  · obtain ⟨o', e1⟩ := I.base.there b o e hx
    exact there b o' (neC b o e hx) e1
  · obtain ⟨m1, e1⟩ := I.base.tbls b ps e
    obtain ⟨m2, e2⟩ := tbls b _ e1
    exact ⟨m1 ++ m2, by rw [e2, Array.append_assoc]⟩
  · obtain ⟨m, hn, hl⟩ := I.loc
    refine ⟨m, ns m hn, fun i x v e1 e2 e3 => ?_⟩
    obtain ⟨u, r, l⟩ := hl i x v e1 e2 e3
    refine ⟨u, r, ?_⟩
    rcases l with l | ⟨k, c, e, z⟩
    · exact .inl l
    · exact .inr ⟨k, c, e, cellK x c e _ z⟩
  · obtain ⟨v, z⟩ := I.cell x c e
    exact ⟨v, cellK x c e v z⟩
  · obtain ⟨m, ⟨o, _, _, ho, _⟩, _⟩ := I.loc
    exact free _ o (fun z => (hch _ z).2.1 rfl) ho I.free
  · obtain ⟨v, o, ho, hd⟩ := I.cell x c e
    exact free c o (fun z => (hch c z).2.2.1 x c e rfl) ho (I.freeC x c e)
  · obtain ⟨e, n, ne, nf, d⟩ := I.pin p hp
    have nch : p.1 ∉ ch := fun z => (hch p.1 z).2.2.2 p hp rfl
    exact ⟨keep p.1 p.2 ne nf nch e n, free p.1 p.2 nch e n, ne, nf, d⟩

theorem Inv.un {t' : Nat} (I : Inv X pins σ H s) (u : Un X.fs [] H H' s.heap h') (hok : HOk X.prog X.w H' h') : Inv X pins σ H' { s with heap := h', toks := t' } := by
  obtain ⟨m, ⟨o, es, ep, ho, r⟩, _⟩ := id I.loc
  obtain ⟨sl, hL⟩ := u.any ho I.free (by simp)
  exact I.step (g' := s.gens) (d' := s.drawn) (ch := []) (fun _ z => nomatch z) (fun b o _ hb _ e n => u.keep b o e n hb (by simp)) (fun b o _ hb _ e n => u.slot b o e n hb (by simp)) (fun b o _ e n => u.free b o e n (by simp)) (fun b o _ e => u.there b o e (by simp)) u.tups u.frzs u.tbls (fun m' hm => by
    obtain ⟨o', es', ep', ho', r'⟩ := hm
    rw [ho] at ho'; cases ho'
    exact ⟨_, es', ep', hL, r'⟩) hok I.bare

theorem Inv.call {g' : Array GenState} {t' : Nat} {d' : Drawn} {ch : List Addr} (I : Inv X pins σ H s) (u : Un (frs X.stack) ch H H' s.heap h') (hok : HOk X.prog X.w H' h') (hg : AllBare g')
    (hch : ∀ b ∈ ch, (b ∈ X.ex ∨ X.s₀.heap.objs.size ≤ b) ∧ b ≠ X.env.locals ∧ (∀ x c, X.env.cells.lookup x = some c → c ≠ b) ∧ ∀ p ∈ X.pn ++ pins, p.1 ≠ b) :
    Inv X pins σ H' { s with heap := h', gens := g', drawn := d', toks := t' } := by
  obtain ⟨m, ⟨o, es, ep, ho, r⟩, _⟩ := id I.loc
  obtain ⟨sl, hL⟩ := u.any ho I.free fun z => (hch _ z).2.1 rfl
  exact I.step (ch := ch) hch (fun b o hL hb hc e n => u.keep b o e n (fun z => (List.mem_cons.mp (I.stkSub b z)).elim hL hb) hc) (fun b o _ _ hc e n => u.any e n hc) (fun b o hc e n => u.free b o e n hc) (fun b o hc e => u.there b o e hc) u.tups u.frzs u.tbls (fun m' hm => by
    obtain ⟨o', es', ep', ho', r'⟩ := hm
    rw [ho] at ho'; cases ho'
    exact ⟨_, es', ep', hL, r'⟩) hok hg

theorem Inv.turned {t' : Nat} {it : Addr} (I : Inv X pins σ H s) (k : ∀ b o, b ≠ it → s.heap.get? b = some o → h'.get? b = some o) (hn : H it = none) (hL : it ≠ X.env.locals)
    (h1 : it ∈ X.ex ∨ X.s₀.heap.objs.size ≤ it) (h2 : ∀ x c, X.env.cells.lookup x = some c → c ≠ it) (h3 : ∀ p ∈ X.pn ++ pins, p.1 ≠ it) : Inv X pins σ H { s with heap := h', toks := t' } := by
  have nit : ∀ b u, H b = some u → b ≠ it := fun b u e z => by rw [z, hn] at e; cases e
  refine I.step (g' := s.gens) (d' := s.drawn) (ch := [it]) (fun b hb => ?_) (fun b o _ _ hc e _ => k b o (fun z => hc (by simp [z])) e) (fun b o _ _ hc e _ => ⟨o.slots, k b o (fun z => hc (by simp [z])) e⟩) (fun _ _ _ _ n => n)
    (fun b o hc e => ⟨o, k b o (fun z => hc (by simp [z])) e⟩) (fun _ _ e => e) (fun _ _ _ e => e) (fun b ps e => ⟨#[], by rw [e]; simp⟩) (fun m hm => ?_) (fun b u e => ?_) I.bare
  · have e : b = it := by simpa using hb
    subst e
    exact ⟨h1, hL, h2, h3⟩
  · obtain ⟨o, es, ep, ho, r⟩ := hm
    exact ⟨o, es, ep, k _ o (Ne.symm hL) ho, r⟩
  · refine (I.hok b u e).stay (fun c v hc q => k c v ?_ q) (fun _ q => q) fun _ _ q => q
    rcases hc with z | z
    · rw [z]; exact nit b u e
    · exact nit c _ z
theorem Inv.tok (I : Inv X pins σ H s) (t : Nat) : Inv X pins σ H { s with toks := t } := I.un (h' := s.heap) (t' := t) Un.refl I.hok

theorem Inv.kept {t' : Nat} (I : Inv X pins σ H s) (k : ∀ b u, s.heap.get? b = some u → h'.get? b = some u) : Inv X pins σ H { s with heap := h', toks := t' } := I.un (Un.kept k) (I.hok.kept k)

theorem Inv.laid {a : Addr} {o : HO} {t' : Nat} (I : Inv X pins σ H s) (k : ∀ b u, s.heap.get? b = some u → h'.get? b = some u) (hp : s.heap.objs.size ≤ a) (new : ObjOk X.prog X.w (upd H a o) h' a o) :
    Inv X pins σ (upd H a o) { s with heap := h', toks := t' } := I.un (Un.laid k hp (I.hok.fresh hp)) (I.hok.laid k hp new)

theorem Inv.write {x e : Addr} {o : HO} {t' : Nat} (I : Inv X pins σ H s) (mu : Mut (H x)) (he : e = x ∨ H e = some (.own x)) (k : ∀ b u, b ≠ e → s.heap.get? b = some u → h'.get? b = some u) (heo : ∃ u, h'.get? e = some u)
    (new : ObjOk X.prog X.w (upd H x o) h' x o) : Inv X pins σ (upd H x o) { s with heap := h', toks := t' } := I.un (Un.write mu he k heo) (I.hok.write mu he k heo new)

theorem Inv.weak {σ' : List (Option V)} (I : Inv X pins σ H s) (hl : σ'.length = σ.length) (w : ∀ (i : Nat) v, σ'[i]? = some (some v) → σ[i]? = some (some v)) : Inv X pins σ' H s :=
  ⟨I.ok, I.os, I.bare, I.base, let ⟨m, hn, hl'⟩ := I.loc; ⟨m, hn, fun i x v e1 e2 e3 => hl' i x v e1 (w i v e2) e3⟩, I.cell, I.free, I.freeC, I.pin, I.hok, hl.trans I.len⟩
theorem Inv.pins_of {pins' : List (Addr × Obj)} (I : Inv X pins σ H s) (h : ∀ p ∈ pins', s.heap.get? p.1 = some p.2 ∧ H p.1 = none ∧ p.1 ≠ X.env.locals ∧ p.1 ∉ X.fs ∧ ∀ v, p.2.data ≠ .cell v) : Inv X pins' σ H s :=
  ⟨I.ok, I.os, I.bare, I.base, I.loc, I.cell, I.free, I.freeC, fun p hp => (List.mem_append.mp hp).elim (fun z => I.pin p (List.mem_append_left _ z)) (h p), I.hok, I.len⟩

theorem nodup_ix {N : List Str} (hN : N.Nodup) {i j : Nat} {x : Str} (a : N[i]? = some x) (b : N[j]? = some x) : i = j := by
  obtain ⟨h1, e1⟩ := List.getElem?_eq_some_iff.mp a
  obtain ⟨h2, e2⟩ := List.getElem?_eq_some_iff.mp b
  exact (List.getElem_inj hN).mp (e1.trans e2.symm)


theorem store_ok2 {M : Model} {A : Around} {E : Value → Shared → Prop} {i : Nat} {x : Str} {v : V} {u : Value} {Q : Unit → Shared → Prop} (I : Inv X pins σ H s) (hN : X.N.Nodup) (hi : X.N[i]? = some x) (hx : Loc X.env.scope x) (r : RelV v u)
    (h : ∀ s', Inv X pins (σ.set i (some v)) H s' → (∃ a, Heap.SameBut a s.heap s'.heap ∧ (a = X.env.locals ∨ X.env.cells.lookup x = some a)) → Q () s') (hf : X.fn x = true ∨ X.env.scope.names.lookup x = some .local := by first | exact .inl rfl | exact .inr rfl | assumption) : wpAny M A (storeName X.env x u) Q E s := by
  obtain ⟨m, hn, hl⟩ := id I.loc
  have hcls : (X.env.scope.kind == .class || (X.env.scope.kind == .module && X.env.locals != X.env.globals)) = false := by rw [I.ok.kind]; rfl
  have hiσ : i < σ.length := by rw [I.len]; exact (List.getElem?_eq_some_iff.mp hi).1
  have cne := I.cne
  have tracked : ∀ {a : Addr} {h' : Heap}, (∃ o, s.heap.get? a = some o ∧ H a = none) → Heap.SameBut a s.heap h' → HOk X.prog X.w H h' := fun {a h'} ha hs b ob e => by
    obtain ⟨_, _, hfree⟩ := ha
    refine (I.hok b ob e).stay (fun c w' hc q => (hs.2 c ?_).trans q) (fun _ q => q) fun _ _ q => q
    rintro rfl
    rcases hc with rfl | hc
    · rw [hfree] at e; cases e
    · rw [hfree] at hc; cases hc
  rcases hx with hk | hk
  · refine wpAny_storeName_local hk hn (fun h' hn' hs => ?_) hcls
    obtain ⟨oL, _, _, hoL, _⟩ := id hn
    refine h _ ⟨I.ok, I.os, I.bare, ⟨fun b o e n hb hx => ?_, fun b o e n hb hx => ?_, I.base.free, fun b o e hx => ?_, I.base.tups, I.base.frzs, I.base.tbls⟩, ⟨_, hn', fun j y v' e1 e2 e3 => ?_⟩, fun y c e => ?_, I.free, I.freeC, fun p hp => ?_, tracked ⟨oL, hoL, I.free⟩ hs, by simpa using I.len⟩ ⟨_, hs, .inl rfl⟩
    · exact (hs.2 b (Nat.ne_of_lt (Nat.lt_of_lt_of_le (Heap.lt_size e) I.ok.above))).trans (I.base.keep b o e n hb hx)
    · obtain ⟨sl, e1⟩ := I.base.slot b o e n hb hx
      exact ⟨sl, (hs.2 b (Nat.ne_of_lt (Nat.lt_of_lt_of_le (Heap.lt_size e) I.ok.above))).trans e1⟩
    · obtain ⟨o', e1⟩ := I.base.there b o e hx
      exact ⟨o', (hs.2 b (Nat.ne_of_lt (Nat.lt_of_lt_of_le (Heap.lt_size e) I.ok.above))).trans e1⟩
    · by_cases hj : j = i
      · subst hj
        rw [hi] at e1; cases e1
        rw [List.getElem?_set_self hiσ] at e2
        cases e2
        exact ⟨u, r, .inl ⟨hk, by simp⟩⟩
      · rw [List.getElem?_set_ne (Ne.symm hj)] at e2
        obtain ⟨u', r', q⟩ := hl j y v' e1 e2 e3
        refine ⟨u', r', ?_⟩
        rcases q with ⟨k, e⟩ | ⟨k, c, e, z⟩
        · refine .inl ⟨k, ?_⟩
          have : y ≠ x := fun e => hj (nodup_ix hN e1 (e ▸ hi))
          simp [this, e]
        · exact .inr ⟨k, c, e, z.sameBut hs (cne y c e)⟩
    · obtain ⟨w', z⟩ := I.cell y c e
      exact ⟨w', z.sameBut hs (cne y c e)⟩
    · obtain ⟨e, n, ne, nf, d⟩ := I.pin p hp
      exact ⟨(hs.2 p.1 ne).trans e, n, ne, nf, d⟩
  · have hfn : X.fn x = true := by
      rcases hf with z | z
      · exact z
      · rw [z] at hk; cases hk
    obtain ⟨c, hc⟩ := I.ok.has x (.inl hk)
    obtain ⟨w', z⟩ := I.cell x c hc
    refine wpAny_storeName_cell I.ok.kind hk hc z (fun h' hc' hs => ?_)
    obtain ⟨oc, hoc, hocd⟩ := id z
    refine h { s with heap := h' } ⟨I.ok, I.os, I.bare, ⟨fun b o e n hb hx => ?_, fun b o e n hb hx => ?_, I.base.free, fun b o e hx => ?_, I.base.tups, I.base.frzs, I.base.tbls⟩, ⟨m, hn.sameBut hs (Ne.symm (cne x c hc)), fun j y v' e1 e2 e3 => ?_⟩, fun y c' e => ?_, I.free, I.freeC, fun p hp => ?_, tracked ⟨oc, hoc, I.freeC x c hc⟩ hs, by simpa using I.len⟩ ⟨c, hs, .inr hc⟩
    · exact (hs.2 b (Nat.ne_of_lt (Nat.lt_of_lt_of_le (Heap.lt_size e) (I.ok.cab x c hfn hc)))).trans (I.base.keep b o e n hb hx)
    · obtain ⟨sl, e1⟩ := I.base.slot b o e n hb hx
      exact ⟨sl, (hs.2 b (Nat.ne_of_lt (Nat.lt_of_lt_of_le (Heap.lt_size e) (I.ok.cab x c hfn hc)))).trans e1⟩
    · obtain ⟨o', e1⟩ := I.base.there b o e hx
      exact ⟨o', (hs.2 b (Nat.ne_of_lt (Nat.lt_of_lt_of_le (Heap.lt_size e) (I.ok.cab x c hfn hc)))).trans e1⟩
    · by_cases hj : j = i
      · subst hj
        rw [hi] at e1; cases e1
        rw [List.getElem?_set_self hiσ] at e2
        cases e2
        exact ⟨u, r, .inr ⟨.inl hk, c, hc, hc'⟩⟩
      · rw [List.getElem?_set_ne (Ne.symm hj)] at e2
        obtain ⟨u', r', q⟩ := hl j y v' e1 e2 e3
        refine ⟨u', r', ?_⟩
        rcases q with q | ⟨k, c', e, z'⟩
        · exact .inl q
        · refine .inr ⟨k, c', e, z'.sameBut hs ?_⟩
          rintro rfl
          exact hj (nodup_ix hN e1 (I.ok.inj _ _ _ e hc ▸ hi))
    · by_cases hcc : c' = c
      · subst hcc; exact ⟨_, hc'⟩
      · obtain ⟨w2, z2⟩ := I.cell y c' e
        exact ⟨w2, z2.sameBut hs hcc⟩
    · obtain ⟨e, n, ne, nf, d⟩ := I.pin p hp
      refine ⟨(hs.2 p.1 ?_).trans e, n, ne, nf, d⟩
      intro q
      rw [q, hoc] at e
      have q' : oc = p.2 := Option.some.inj e
      exact d w' (by rw [← q']; exact hocd)
theorem store_ok {M : Model} {A : Around} {E : Value → Shared → Prop} {i : Nat} {x : Str} {v : V} {u : Value} {Q : Unit → Shared → Prop} (I : Inv X pins σ H s) (hN : X.N.Nodup) (hi : X.N[i]? = some x) (hx : Loc X.env.scope x) (r : RelV v u)
    (h : ∀ s', Inv X pins (σ.set i (some v)) H s' → Q () s') (hf : X.fn x = true ∨ X.env.scope.names.lookup x = some .local := by first | exact .inl rfl | exact .inr rfl | assumption) : wpAny M A (storeName X.env x u) Q E s :=
  store_ok2 I hN hi hx r (fun s' I' _ => h s' I') hf

theorem Inv.call' {s' : Shared} {ch : List Addr} (I : Inv X pins σ H s) (ho : s'.os = s.os) (u : Un (frs X.stack) ch H H' s.heap s'.heap) (hok : HOk X.prog X.w H' s'.heap) (hg : AllBare s'.gens)
    (hch : ∀ b ∈ ch, (b ∈ X.ex ∨ X.s₀.heap.objs.size ≤ b) ∧ b ≠ X.env.locals ∧ (∀ x c, X.env.cells.lookup x = some c → c ≠ b) ∧ ∀ p ∈ X.pn ++ pins, p.1 ≠ b) : Inv X pins σ H' s' := by
  obtain ⟨h', g', d', t', o'⟩ := s'
  have e : o' = s.os := ho
  subst e
  exact I.call (g' := g') (t' := t') (d' := d') u hok hg hch
end



abbrev XK := Value → Option Addr → Hp → Prop
abbrev St := List (Option V)
abbrev VK := V → Hp → Prop

abbrev TE := St → Hp → VK → Prop
abbrev TT := St → Hp → (Bool → Hp → Prop) → Prop
abbrev TA := St → Hp → (List V → Hp → Prop) → Prop

structure Ends where
  nx : St → Hp → Prop
  rt : VK
  bk : St → Hp → Prop := fun _ _ => False
  ct : St → Hp → Prop := fun _ _ => False
abbrev TS := Ends → St → Hp → Prop

def EP (X : Cx) (pins : List (Addr × Obj)) (σ : St) (Q : VK) (u : Value) (s' : Shared) : Prop := ∃ v H', Inv X pins σ H' s' ∧ RelV v u ∧ Q v H'
def TP (X : Cx) (pins : List (Addr × Obj)) (σ : St) (Q : Bool → Hp → Prop) (b : Bool) (s' : Shared) : Prop := ∃ H', Inv X pins σ H' s' ∧ Q b H'
def AP (X : Cx) (pins : List (Addr × Obj)) (σ : St) (Q : List V → Hp → Prop) (us : List Value) (s' : Shared) : Prop := ∃ vs H', Inv X pins σ H' s' ∧ Vals vs us ∧ Q vs H'
def SP (X : Cx) (pins : List (Addr × Obj)) (D : Ends) (f : Flow) (s' : Shared) : Prop :=
  match f with
  | .next => ∃ σ' H', Inv X pins σ' H' s' ∧ D.nx σ' H'
  | .brk => ∃ σ' H', Inv X pins σ' H' s' ∧ D.bk σ' H'
  | .cont => ∃ σ' H', Inv X pins σ' H' s' ∧ D.ct σ' H'
  | .ret u => ∃ v σ' H', Inv X pins σ' H' s' ∧ RelV v u ∧ D.rt v H'

def PE (X : Cx) (e : Expr) (t : TE) : Prop :=
  ∀ (pins : List (Addr × Obj)) (s : Shared) (σ : St) (H : Hp) (Q : VK), Inv X pins σ H s → t σ H Q → wpAny (model X.prog X.w) X.A (eval e X.env) (EP X pins σ Q) X.xe s
def PT (X : Cx) (e : Expr) (t : TT) : Prop :=
  ∀ (pins : List (Addr × Obj)) (s : Shared) (σ : St) (H : Hp) (Q : Bool → Hp → Prop), Inv X pins σ H s → t σ H Q → wpAny (model X.prog X.w) X.A (isTrue e X.env (eval e X.env)) (TP X pins σ Q) X.xe s

def PW (X : Cx) (e : Expr) (t : TT) : Prop :=
  ∀ (whole : Sem Value) (pins : List (Addr × Obj)) (s : Shared) (σ : St) (H : Hp) (Q : Bool → Hp → Prop), Inv X pins σ H s → t σ H Q → wpAny (model X.prog X.w) X.A (isTrue e X.env whole) (TP X pins σ Q) X.xe s
theorem PW.pt {X : Cx} {e : Expr} {t : TT} (h : PW X e t) : PT X e t := h _

def PA (X : Cx) (es : List Expr) (t : TA) : Prop :=
  ∀ (pos : Pos) (pins : List (Addr × Obj)) (s : Shared) (σ : St) (H : Hp) (Q : List V → Hp → Prop), Inv X pins σ H s → t σ H Q → wpAny (model X.prog X.w) X.A (spliced (backTo pos (starEach es X.env))) (AP X pins σ Q) X.xe s
def PS (X : Cx) (st : Stmt) (t : TS) : Prop :=
  ∀ (pins : List (Addr × Obj)) (s : Shared) (σ : St) (H : Hp) (D : Ends), Inv X pins σ H s → t D σ H → wpAny (model X.prog X.w) X.A (exec st X.env) (SP X pins D) X.xe s
def PSs (X : Cx) (st : List Stmt) (t : TS) : Prop :=
  ∀ (pins : List (Addr × Obj)) (s : Shared) (σ : St) (H : Hp) (D : Ends), Inv X pins σ H s → t D σ H → wpAny (model X.prog X.w) X.A (execs st X.env) (SP X pins D) X.xe s

theorem thn {α : Type} {t : Sem α} {Q Q' : α → Shared → Prop} {M : Model} {A : Around} {E : Value → Shared → Prop} {s : Shared} (h : wpAny M A t Q E s) (hQ : ∀ a s, Q a s → Q' a s) : wpAny M A t Q' E s := wpAny_mono h hQ fun _ _ x => x
end L2

namespace L2
open PySem PySem.Spec PyProof.Rows
section
variable {X : Cx}


def tVar (i : Nat) : TE := fun σ H Q => ∃ v, σ[i]? = some (some v) ∧ Q v H
def tC (v : V) : TE := fun _ H Q => Q v H
theorem pe_var {i : Nat} {x : Str} {pos : Pos} (hN : X.N[i]? = some x) (hv : Vis X.env.scope x) (hd : (x == ("__debug__" : Str)) = false := by decide) (hcd : (x == ("__classdict__" : Str)) = false := by decide) : PE X (.Name x pos) (tVar i) := by
  intro pins s σ H Q I h
  obtain ⟨v, e, h⟩ := h
  obtain ⟨m, hn, hl⟩ := I.loc
  obtain ⟨u, r, l⟩ := hl i x v hN e hv
  have fin : EP X pins σ Q u s := ⟨v, H, I, r, h⟩
  rcases l with ⟨hk, hm⟩ | ⟨hk, c, hc, hcell⟩
  · exact wpAny_Name (wpAny_loadName_local I.ok.kind hk hn hm fin) hd
  · rcases hk with hk | hk
    · exact wpAny_Name (wpAny_loadName_cell I.ok.kind hk hc hcell fin) hd
    · exact wpAny_Name (wpAny_loadName_free I.ok.kind hk hc hcell fin hcd) hd
theorem pe_int {i j pos} : PE X (.Constant (.int i) j pos) (tC (.int i)) := fun _ _ _ H _ I h => wpAny_Constant_int ⟨.int i, H, I.tok _, ⟨_, rfl⟩, h⟩
theorem pe_bl {b j pos} : PE X (.Constant (.bool b) j pos) (tC (.bl b)) := fun _ _ _ H _ I h => Constant_bool ⟨.bl b, H, I, rfl, h⟩
theorem pe_non {j pos} : PE X (.Constant .none j pos) (tC .non) := fun _ _ _ H _ I h => Constant_none ⟨.non, H, I, rfl, h⟩
theorem pe_str {x j pos} : PE X (.Constant (.str x) j pos) (tC (.str x)) := fun _ _ _ H _ I h => Calls.Constant_str ⟨.str x, H, I.tok _, ⟨_, rfl⟩, h⟩


def Gl (X : Cx) (x : Str) : Prop := X.env.kindOf x = some .globalImplicit
theorem ld_glob {E : Value → Shared → Prop} {pins : List (Addr × Obj)} {s : Shared} {σ : St} {H : Hp} {x : Str} {u : Value} {pos : Pos} {Q : Value → Shared → Prop} (I : Inv X pins σ H s) (hg : Gl X x) (hm : X.mg x = some u) (h : Q u s)
    (hd : (x == ("__debug__" : Str)) = false := by decide) : wpAny (model X.prog X.w) X.A (eval (.Name x pos) X.env) Q E s :=
  Calls.Name_function_global I.ok.kind hg (Calls.loadGlobal_global (by rw [I.ok.glob]; exact I.mod.glob.keeps I.bk) hm h) hd
theorem ld_blt {E : Value → Shared → Prop} {pins : List (Addr × Obj)} {s : Shared} {σ : St} {H : Hp} {x : Str} {u : Value} {pos : Pos} {Q : Value → Shared → Prop} (I : Inv X pins σ H s) (hg : Gl X x) (hm : X.mg x = none) (hv : bootBuiltins x = some u) (h : Q u s)
    (hn : x ≠ "__name__" := by decide) (hd : (x == ("__debug__" : Str)) = false := by decide) : wpAny (model X.prog X.w) X.A (eval (.Name x pos) X.env) Q E s := by
  obtain ⟨mb, h1, h2⟩ := I.mod.blt
  exact Calls.Name_function_global I.ok.kind hg (Calls.loadGlobal_builtin (by rw [I.ok.glob]; exact I.mod.glob.keeps I.bk) hm (by rw [I.ok.blt]; exact h1.keeps I.bk) ((h2 x hn).trans hv) h) hd

theorem pe_glob {x : Str} {v : V} {u : Value} {pos : Pos} (hg : Gl X x) (hm : X.mg x = some u) (r : RelV v u) (hd : (x == ("__debug__" : Str)) = false := by decide) : PE X (.Name x pos) (tC v) :=
  fun _ _ _ H _ I h => ld_glob I hg hm ⟨v, H, I, r, h⟩ hd
theorem pe_bltn {x : Str} {v : V} {u : Value} {pos : Pos} (hg : Gl X x) (hm : X.mg x = none) (hv : bootBuiltins x = some u) (r : RelV v u) (hn : x ≠ "__name__" := by decide) (hd : (x == ("__debug__" : Str)) = false := by decide) : PE X (.Name x pos) (tC v) :=
  fun _ _ _ H _ I h => ld_blt I hg hm hv ⟨v, H, I, r, h⟩ hn hd



variable {a b : Expr} {ta tb : TE} {pos : Pos}
def tB (t : TE) : TT := fun σ H Q => t σ H fun x H1 => ∃ c, x = .bl c ∧ Q c H1
theorem pt_val {e : Expr} {t : TE} (h : PE X e t) (he : ∀ whole, isTrue e X.env whole = (do let v ← whole; standAt e.pos; holding [v] (truthy v)) := by intro _; rfl) : PT X e (tB t) := by
  intro pins s σ H Q I hw
  refine isTrue_plain (thn (h pins s σ H _ I hw) fun v s1 ⟨x, H1, I1, r1, q1⟩ => ?_) (he _)
  obtain ⟨d, rfl, q⟩ := q1
  cases r1
  exact wpAny_truthy_bool ⟨H1, I1, q⟩


variable {tA tB' : TT} {rest : List Expr}
def tAnd (t u : TT) : TT := fun σ H Q => t σ H fun c H1 => if c = true then u σ H1 Q else Q false H1
def tOr (t u : TT) : TT := fun σ H Q => t σ H fun c H1 => if c = true then Q true H1 else u σ H1 Q
def tNot (t : TT) : TT := fun σ H Q => t σ H fun c H1 => Q (!c) H1
theorem pw_and1 (ha : PT X a tA) : PW X (.BoolOp .And [a] pos) tA := by
  intro wh pins s σ H Q I h
  refine isTrue_and (thn (ha pins s σ H Q I h) fun c s1 e => ?_)
  cases c with
  | true => exact isTrue_and_nil e
  | false => exact e
theorem pw_or1 (ha : PT X a tA) : PW X (.BoolOp .Or [a] pos) tA := by
  intro wh pins s σ H Q I h
  refine isTrue_or (thn (ha pins s σ H Q I h) fun c s1 e => ?_)
  cases c with
  | false => exact isTrue_or_nil e
  | true => exact e
theorem pw_and (ha : PT X a tA) (hb : PW X (.BoolOp .And (b :: rest) pos) tB') : PW X (.BoolOp .And (a :: b :: rest) pos) (tAnd tA tB') := by
  intro wh pins s σ H Q I h
  refine isTrue_and (thn (ha pins s σ H _ I h) fun c s1 ⟨H1, I1, q1⟩ => ?_)
  cases c with
  | true => exact hb wh pins s1 σ H1 Q I1 q1
  | false => exact ⟨H1, I1, q1⟩
theorem pw_or (ha : PT X a tA) (hb : PW X (.BoolOp .Or (b :: rest) pos) tB') : PW X (.BoolOp .Or (a :: b :: rest) pos) (tOr tA tB') := by
  intro wh pins s σ H Q I h
  refine isTrue_or (thn (ha pins s σ H _ I h) fun c s1 ⟨H1, I1, q1⟩ => ?_)
  cases c with
  | true => exact ⟨H1, I1, q1⟩
  | false => exact hb wh pins s1 σ H1 Q I1 q1
theorem pt_not (ha : PT X a tA) : PT X (.UnaryOp .Not a pos) (tNot tA) := by
  intro pins s σ H Q I h
  exact isTrue_not (ha pins s σ H (fun c H1 => Q (!c) H1) I h)

def tAndV (ta tb : TE) : TE := fun σ H Q => ta σ H fun x H1 => ∃ c, x = .bl c ∧ if c = true then tb σ H1 Q else Q (.bl false) H1
def tNotV (ta : TE) : TE := fun σ H Q => ta σ H fun x H1 => ∃ c, x = .bl c ∧ Q (.bl (!c)) H1
theorem pe_one {op} {t : TE} (h : PE X a t) : PE X (.BoolOp op [a] pos) t := fun pins s σ H Q I hw => BoolOp_one (h pins s σ H Q I hw)
theorem pe_and (ha : PE X a ta) (hb : PE X (.BoolOp .And (b :: rest) pos) tb) : PE X (.BoolOp .And (a :: b :: rest) pos) (tAndV ta tb) := by
  intro pins s σ H Q I h
  refine BoolOp_and (thn (ha pins s σ H _ I h) fun v s1 ⟨x, H1, I1, r1, q1⟩ => ?_)
  obtain ⟨c, rfl, q1⟩ := q1
  cases r1
  refine wpAny_truthy_bool ?_
  cases c with
  | true => exact hb pins s1 σ H1 Q I1 q1
  | false => exact ⟨.bl false, H1, I1, rfl, q1⟩
theorem pe_not (ha : PE X a ta) : PE X (.UnaryOp .Not a pos) (tNotV ta) := by
  intro pins s σ H Q I h
  refine UnaryOp_ (thn (ha pins s σ H _ I h) fun v s1 ⟨x, H1, I1, r1, q1⟩ => ?_)
  obtain ⟨c, rfl, q1⟩ := q1
  cases r1
  exact not_of (wpAny_truthy_bool ⟨.bl (!c), H1, I1, rfl, q1⟩)

def tIf (t : TT) (ta tb : TE) : TE := fun σ H Q => t σ H fun c H1 => if c = true then ta σ H1 Q else tb σ H1 Q
theorem pe_ifExp {c : Expr} (hc : PT X c tA) (ha : PE X a ta) (hb : PE X b tb) : PE X (.IfExp c a b pos) (tIf tA ta tb) := by
  intro pins s σ H Q I h
  refine wpAny_IfExp (thn (hc pins s σ H _ I h) fun d s1 ⟨H1, I1, q1⟩ => ?_)
  cases d with
  | true => exact ha pins s1 σ H1 Q I1 q1
  | false => exact hb pins s1 σ H1 Q I1 q1
end
end L2

namespace L2
open PySem PySem.Spec PyProof.Rows


def SqL (K : PySem.W.Frag) (H : Hp) (a : Addr) (xs : List V) : Prop :=
  Rd H a (.lst xs) ∨
    ∃ (o : Obj) (its : Array Value) (n : Nat), K.lookup a = some o ∧ o.cls = .type "list" ∧ o.dict = none ∧ o.data = .seq its n ∧ its.size ≤ sizeLine ∧ Vals xs its.toList
def SqT (K : PySem.W.Frag) (H : Hp) (a : Addr) (xs : List V) : Prop :=
  Rd H a (.tup xs) ∨
    ∃ (o : Obj) (its : Array Value) (n : Nat), K.lookup a = some o ∧ o.cls = .type "tuple" ∧ o.data = .seq its n ∧ its.size ≤ sizeLine ∧ Vals xs its.toList
def absV : Value → Option V
  | .none => some .non
  | .bool b => some (.bl b)
  | .int i _ => some (.int i)
  | .str x _ => some (.str x)
  | .bytes b _ => some (.byt b)
  | .float b _ => some (.flt b)
  | .ref a => some (.ref a)
  | .type n => some (.ty n)
  | _ => none
theorem RelV.abs {x : V} {u : Value} (r : RelV x u) : absV u = some x := by
  cases x with
  | non => cases r; rfl
  | bl _ => cases r; rfl
  | int _ => obtain ⟨t, rfl⟩ := r; rfl
  | str _ => obtain ⟨t, rfl⟩ := r; rfl
  | byt _ => obtain ⟨t, rfl⟩ := r; rfl
  | flt _ => obtain ⟨t, rfl⟩ := r; rfl
  | ref _ => cases r; rfl
  | ty _ => cases r; rfl
theorem RelV.inj {x y : V} {u : Value} (r : RelV x u) (q : RelV y u) : x = y := Option.some.inj (r.abs.symm.trans q.abs)
theorem Vals.inj : ∀ {xs ys : List V} {us : List Value}, Vals xs us → Vals ys us → xs = ys
  | _, _, _, .nil, .nil => rfl
  | _, _, _, .cons r t, .cons r' t' => by rw [r.inj r', Vals.inj t t']
section
variable {X : Cx} {pins : List (Addr × Obj)} {σ : St} {H : Hp} {s : Shared} {a : Addr} {xs ys : List V}
theorem SqL.of {K : PySem.W.Frag} (h : H a = some (.lst xs)) : SqL K H a xs := .inl (.inl h)
theorem SqT.of {K : PySem.W.Frag} (h : H a = some (.tup xs)) : SqT K H a xs := .inl (.inl h)
theorem Inv.list (I : Inv X pins σ H s) (h : SqL X.K H a xs) : ∃ its : List Value, Vals xs its ∧ PlainL s.heap a its.toArray ∧ xs.length ≤ sizeLine := by
  rcases h with h | ⟨o, its, n, hk, hc, hd, hs, hz, r⟩
  · obtain ⟨z, its, n, r, e⟩ := h.ok I.hok
    exact ⟨its, r, ⟨_, n, e, rfl, rfl, rfl⟩, z⟩
  · refine ⟨its.toList, r, ⟨o, n, I.kIn a o hk, hc, hd, by simpa using hs⟩, ?_⟩
    have e := r.length
    simp only [Array.length_toList] at e
    omega
theorem Inv.tuple (I : Inv X pins σ H s) (h : SqT X.K H a xs) : ∃ its : List Value, Vals xs its ∧ IsTup s.heap a its.toArray ∧ xs.length ≤ sizeLine := by
  rcases h with h | ⟨o, its, n, hk, hc, hs, hz, r⟩
  · obtain ⟨z, its, r, p⟩ := h.ok I.hok
    exact ⟨its, r, p, z⟩
  · refine ⟨its.toList, r, ⟨o, I.kIn a o hk, hc, n, by simpa using hs⟩, ?_⟩
    have e := r.length
    simp only [Array.length_toList] at e
    omega
theorem Inv.list_inj (I : Inv X pins σ H s) (h : SqL X.K H a xs) (h' : SqL X.K H a ys) : xs = ys := by
  obtain ⟨its, r, ⟨o, n, e, _, _, d⟩, _⟩ := I.list h
  obtain ⟨its', r', ⟨o', n', e', _, _, d'⟩, _⟩ := I.list h'
  rw [e] at e'; cases e'
  rw [d] at d'
  injection d' with d1 _
  have : its = its' := by simpa using congrArg Array.toList d1
  subst this
  exact r.inj r'
theorem Inv.tuple_inj (I : Inv X pins σ H s) (h : SqT X.K H a xs) (h' : SqT X.K H a ys) : xs = ys := by
  obtain ⟨its, r, ⟨o, e, _, n, d⟩, _⟩ := I.tuple h
  obtain ⟨its', r', ⟨o', e', _, n', d'⟩, _⟩ := I.tuple h'
  rw [e] at e'; cases e'
  rw [d] at d'
  injection d' with d1 _
  have : its = its' := by simpa using congrArg Array.toList d1
  subst this
  exact r.inj r'
end


abbrev Cx.wish (X : Cx) (E : Value → Shared → Prop) : Cx := { X with xe := E }

abbrev Cx.nox (X : Cx) : Cx := X.wish fun _ _ => False
theorem Cx.Ok.wish {X : Cx} (ok : X.Ok) (E : Value → Shared → Prop) : (X.wish E).Ok :=
  ⟨ok.mod, ok.kind, ok.glob, ok.blt, ok.above, ok.inj, ok.has, ok.cab, ok.hd, ok.frames, ok.stk, ok.exf, ok.bs, ok.bsz, ok.noex, ok.exfs, ok.funs, ok.frf⟩
theorem Cx.Ok.unwish {X : Cx} {E : Value → Shared → Prop} (ok : (X.wish E).Ok) : X.Ok :=
  ⟨ok.mod, ok.kind, ok.glob, ok.blt, ok.above, ok.inj, ok.has, ok.cab, ok.hd, ok.frames, ok.stk, ok.exf, ok.bs, ok.bsz, ok.noex, ok.exfs, ok.funs, ok.frf⟩
section
variable {X : Cx} {pins : List (Addr × Obj)} {σ : St} {H : Hp} {s : Shared} {E : Value → Shared → Prop}
theorem Inv.wish (I : Inv X pins σ H s) (E : Value → Shared → Prop) : Inv (X.wish E) pins σ H s := ⟨I.ok.wish E, I.os, I.bare, I.base, I.loc, I.cell, I.free, I.freeC, I.pin, I.hok, I.len⟩
theorem Inv.unwish (I : Inv (X.wish E) pins σ H s) : Inv X pins σ H s := ⟨I.ok.unwish, I.os, I.bare, I.base, I.loc, I.cell, I.free, I.freeC, I.pin, I.hok, I.len⟩
theorem SP.unwish {D : Ends} {f : Flow} {s' : Shared} (h : SP (X.wish E) pins D f s') : SP X pins D f s' := by
  cases f with
  | next => obtain ⟨σ', H', I, q⟩ := h; exact ⟨σ', H', I.unwish, q⟩
  | brk => obtain ⟨σ', H', I, q⟩ := h; exact ⟨σ', H', I.unwish, q⟩
  | cont => obtain ⟨σ', H', I, q⟩ := h; exact ⟨σ', H', I.unwish, q⟩
  | ret u => obtain ⟨v, σ', H', I, r, q⟩ := h; exact ⟨v, σ', H', I.unwish, r, q⟩
theorem PSs.nox {st : List Stmt} {t : TS} (h : PSs X.nox st t) : PSs X st t := fun pins s σ H D I hw =>
  wpAny_mono (h pins s σ H D (I.wish _) hw) (fun _ _ q => q.unwish) fun _ _ z => False.elim z
end


section
variable {X : Cx} {st : Stmt} {rest : List Stmt} {t u : TS} {e : Expr} {te : TE} {pos : Pos}
def tNext : TS := fun D σ H => D.nx σ H
def tSeq (t u : TS) : TS := fun D σ H => t { D with nx := u D } σ H
theorem pss_nil : PSs X [] tNext := fun _ _ σ H _ I h => wpAny_execs_nil ⟨σ, H, I, h⟩
theorem pss_cons (h1 : PS X st t) (h2 : PSs X rest u) : PSs X (st :: rest) (tSeq t u) := by
  intro pins s σ H D I h
  refine wpAny_execs_cons (thn (h1 pins s σ H { D with nx := u D } I h) fun f s1 q => ?_)
  cases f with
  | next =>
    obtain ⟨σ', H', I', q⟩ := q
    exact h2 pins s1 σ' H' D I' q
  | ret v => exact q
  | brk => exact q
  | cont => exact q
theorem pss_one (h1 : PS X st t) : PSs X [st] t := by
  intro pins s σ H D I h
  refine wpAny_execs_cons (thn (h1 pins s σ H D I h) fun f s1 q => ?_)
  cases f with
  | next => exact wpAny_execs_nil q
  | ret v => exact q
  | brk => exact q
  | cont => exact q
def tBreak : TS := fun D σ H => D.bk σ H
theorem ps_break : PS X (.Break pos) tBreak := fun _ _ σ H _ I h => wpAny_Break ⟨σ, H, I, h⟩
theorem Inv.quiet {pins : List (Addr × Obj)} {σ : St} {H : Hp} {s : Shared} (I : Inv X pins σ H s) : interactive X.env = false := by simp [interactive, I.ok.kind]

def tDrop (te : TE) : TS := fun D σ H => te σ H fun _ H1 => D.nx σ H1
theorem ps_expr (he : PE X e te) (hs : swapsWith e none pos.line X.env = pure false := by rfl) : PS X (.Expr e pos) (tDrop te) := by
  intro pins s σ H D I h
  exact wpAny_Expr_any (thn (he pins s σ H _ I h) fun v s1 ⟨x, H1, I1, r1, q1⟩ => ⟨σ, H1, I1, q1⟩) I.quiet hs
def tRet (te : TE) : TS := fun D σ H => te σ H D.rt
theorem ps_ret (he : PE X e te) : PS X (.Return (some e) pos) (tRet te) := by
  intro pins s σ H D I h
  exact wpAny_Return_some (thn (he pins s σ H _ I h) fun v s1 ⟨x, H1, I1, r1, q1⟩ => ⟨x, σ, H1, I1, r1, q1⟩)
def tIfS (c : TT) (t u : TS) : TS := fun D σ H => c σ H fun b H1 => if b = true then t D σ H1 else u D σ H1
theorem ps_if {c : Expr} {a b : List Stmt} {tc : TT} (hc : PT X c tc) (ha : PSs X a t) (hb : PSs X b u) : PS X (.If c a b pos) (tIfS tc t u) := by
  intro pins s σ H D I h
  refine wpAny_If (thn (hc pins s σ H _ I h) fun d s1 ⟨H1, I1, q1⟩ => ?_)
  cases d with
  | true => exact ha pins s1 σ H1 D I1 q1
  | false => exact hb pins s1 σ H1 D I1 q1

def tNever : TS := fun _ _ _ => False
theorem ps_never : PS X st tNever := fun _ _ _ _ _ _ h => h.elim
end


abbrev TG := V → St → Hp → (St → Hp → Prop) → Prop
abbrev TGs := List V → St → Hp → (St → Hp → Prop) → Prop
def PG (X : Cx) (target : Expr) (t : TG) : Prop :=
  ∀ (pins : List (Addr × Obj)) (s : Shared) (σ : St) (H : Hp) (v : V) (u : Value) (Q : St → Hp → Prop), Inv X pins σ H s → RelV v u → t v σ H Q →
    wpAny (model X.prog X.w) X.A (assign target X.env u) (fun _ s' => ∃ σ' H', Inv X pins σ' H' s' ∧ Q σ' H') X.xe s

def PGs (X : Cx) (ts : List Expr) (t : TGs) : Prop :=
  ∀ (pins : List (Addr × Obj)) (s : Shared) (σ : St) (H : Hp) (vs : List V) (us : List Value) (Q : St → Hp → Prop), Inv X pins σ H s → Vals vs us → t vs σ H Q →
    wpAny (model X.prog X.w) X.A (assignInOrder ((assignEach ts X.env).map (·.2)) us) (fun _ s' => ∃ σ' H', Inv X pins σ' H' s' ∧ Q σ' H') X.xe s

abbrev TSet := V → V → V → Hp → (Hp → Prop) → Prop
def PSet (X : Cx) (t : TSet) : Prop :=
  ∀ (pins : List (Addr × Obj)) (s : Shared) (σ : St) (H : Hp) (o i v : V) (ov iv u : Value) (Q : Hp → Prop), Inv X pins σ H s → RelV o ov → RelV i iv → RelV v u → t o i v H Q →
    wpAny (model X.prog X.w) X.A (setItem ov iv u) (fun _ s' => ∃ H', Inv X pins σ H' s' ∧ Q H') X.xe s

section
variable {X : Cx} {pos : Pos}
def gName (i : Nat) : TG := fun v σ H Q => Q (σ.set i (some v)) H
theorem pg_name {i : Nat} {x : Str} (hN : X.N.Nodup) (hi : X.N[i]? = some x) (hx : Loc X.env.scope x) (hf : X.fn x = true ∨ X.env.scope.names.lookup x = some .local := by first | exact .inl rfl | exact .inr rfl | assumption) : PG X (.Name x pos) (gName i) := by
  intro pins s σ H v u Q I r h
  exact wpAny_assign_Name (store_ok I hN hi hx r (fun s' I' => ⟨_, H, I', h⟩) hf)
def gNil : TGs := fun vs σ H Q => vs = [] ∧ Q σ H
def gCons (t : TG) (u : TGs) : TGs := fun vs σ H Q => ∃ v r, vs = v :: r ∧ t v σ H fun σ' H' => u r σ' H' Q
theorem pgs_nil : PGs X [] gNil := by
  intro pins s σ H vs us Q I r h
  obtain ⟨e, h⟩ := h
  subst e
  cases r
  exact assignInOrder_nil ⟨σ, H, I, h⟩
theorem pgs_cons {e : Expr} {es : List Expr} {t : TG} {u : TGs} (h1 : PG X e t) (h2 : PGs X es u)
    (hs : (assignEach (e :: es) X.env).map (·.2) = assign e X.env :: (assignEach es X.env).map (·.2) := by rfl) : PGs X (e :: es) (gCons t u) := by
  intro pins s σ H vs us Q I r h
  obtain ⟨v, vr, e1, h⟩ := h
  subst e1
  cases r with
  | cons r rr =>
    rw [hs]
    refine assignInOrder_cons (thn (h1 pins s σ H _ _ _ I r h) fun _ s1 ⟨σ1, H1, I1, q1⟩ => ?_)
    exact h2 pins s1 σ1 H1 _ _ Q I1 rr q1

def gTup (K : PySem.W.Frag) (n : Nat) (t : TGs) : TG := fun v σ H Q => ∃ a xs, v = .ref a ∧ SqT K H a xs ∧ xs.length = n ∧ t xs σ H Q
theorem pg_tup {es : List Expr} {k : Nat} {t : TGs} {n : Nat} (hc : X.calm = true) (h : PGs X es t)
    (hn : (assignEach es X.env).length = n := by rfl) (hst : (assignEach es X.env).findIdx? (·.1) = none := by rfl) : PG X (.Tuple es k pos) (gTup X.K n t) := by
  intro pins s σ H v u Q I r hw
  obtain ⟨a, xs, e1, hq, hl, hw⟩ := hw
  subst e1
  cases r
  obtain ⟨its, rv, ht, hz⟩ := I.tuple hq
  refine assign_Tuple_tuple (I.ok.hd hc) ht (by simp [hn, ← hl, rv.length]) hst fun h' hx => ?_
  have I1 : Inv X pins σ H { s with heap := h' } := I.kept (t' := s.toks) fun b o e => hx b o (Nat.ne_of_lt (Heap.lt_size e)) e
  exact h pins _ σ H xs _ Q I1 (by simpa using rv) hw

def gSub (to ti : TE) (t : TSet) : TG := fun v σ H Q => to σ H fun o H1 => ti σ H1 fun i H2 => t o i v H2 fun H3 => Q σ H3
theorem pg_sub {o i : Expr} {to ti : TE} {t : TSet} (ho : PE X o to) (hi : PE X i ti) (hs : PSet X t)
    (ha : ∀ v, assign (.Subscript o i pos) X.env v = (do
      let ov ← holding [v] (eval o X.env)
      let iv ← holding [v, ov] (eval i X.env)
      standAt pos
      holding [v, ov, iv] (setItem ov iv v)
      release [v, ov, iv] []) := by intro _; rfl) : PG X (.Subscript o i pos) (gSub to ti t) := by
  intro pins s σ H v u Q I r h
  rw [ha]
  refine wpAny_bind (wpAny_holding (thn (ho pins s σ H _ I h) fun ov s1 ⟨x, H1, I1, r1, q1⟩ => ?_))
  refine wpAny_bind (wpAny_holding (thn (hi pins s1 σ H1 _ I1 q1) fun iv s2 ⟨y, H2, I2, r2, q2⟩ => ?_))
  refine wpAny_bind (wpAny_standAt (wpAny_bind (wpAny_holding (thn (hs pins s2 σ H2 x y v ov iv u _ I2 r1 r2 r q2) fun _ s3 ⟨H3, I3, q3⟩ => ?_))))
  exact wpAny_release ⟨σ, H3, I3, q3⟩

def tAsg (te : TE) (g : TG) : TS := fun D σ H => te σ H fun x H1 => g x σ H1 D.nx
theorem ps_asg {tg e : Expr} {te : TE} {g : TG} (he : PE X e te) (hg : PG X tg g) (hs : swapsWithSole [tg] e pos.line X.env = pure false := by rfl) (hw : swappedStores [tg] e X.env = pure none := by rfl)
    (h1 : (assignEach [tg] X.env).map (·.2) = [assign tg X.env] := by rfl) : PS X (.Assign [tg] e pos) (tAsg te g) := by
  intro pins s σ H D I h
  refine wpAny_Assign_stores (thn (he pins s σ H _ I h) fun v s1 ⟨x, H1, I1, r1, q1⟩ => ?_) hs hw
  rw [h1]
  exact thn (hg pins s1 σ H1 x v _ I1 r1 q1) fun _ s2 q => q

theorem ps_set {i : Nat} {x : Str} {e : Expr} {te : TE} {pos' : Pos} (hN : X.N.Nodup) (hi : X.N[i]? = some x) (hx : Loc X.env.scope x) (he : PE X e te) (hs : swapsWith e (some (.Name x pos')) pos.line X.env = pure false := by rfl) (hf : X.fn x = true ∨ X.env.scope.names.lookup x = some .local := by first | exact .inl rfl | exact .inr rfl | assumption) :
    PS X (.Assign [.Name x pos'] e pos) (tAsg te (gName i)) := by
  intro pins s σ H D I h
  refine wpAny_Assign_Name (thn (he pins s σ H _ I h) fun v s1 ⟨y, H1, I1, r1, q1⟩ => ?_) hs
  exact store_ok I1 hN hi hx r1 (fun s2 I2 => ⟨_, H1, I2, q1⟩) hf

end


section
variable {X : Cx} {pos : Pos}

def tWhile (c : TT) (tb : TS) : TS := fun D σ H => ∃ W : Nat → St → Hp → Prop, (∃ m, W m σ H) ∧ ∀ m σ H, W m σ H →
  c σ H fun b H1 => if b = true then ∃ N : St → Hp → Prop, (∀ σ' H', N σ' H' → ∃ m', m' < m ∧ W m' σ' H') ∧ tb { D with nx := N, ct := N, bk := D.nx } σ H1 else D.nx σ H1
theorem ps_while {c : Expr} {body : List Stmt} {tc : TT} {tb : TS} (hp : PassesOwn (model X.prog X.w) X.A X.env X.xe) (hc : PT X c tc) (hb : PSs X body tb) : PS X (.While c body [] pos) (tWhile tc tb) := by
  intro pins s σ H D I h
  obtain ⟨W, ⟨m0, w0⟩, turn⟩ := h
  refine wpAny_While (codeAny_whileLoop (fun n s' => ∃ σ' H', Inv X pins σ' H' s' ∧ W n σ' H') ?_ m0 ⟨σ, H, I, w0⟩)
  rintro n s1 ⟨σ1, H1, I1, w1⟩
  refine wpAny_passesOwn hp (thn (hc pins s1 σ1 H1 _ I1 (turn n σ1 H1 w1)) fun b s2 ⟨H2, I2, q2⟩ => ?_)
  cases b with
  | true =>
    obtain ⟨N, hN, q2⟩ := q2
    rw [if_pos rfl]
    refine wpAny_passesOwn hp (thn (hb pins s2 σ1 H2 _ I2 q2) fun f s3 q3 => ?_)
    cases f with
    | next =>
      obtain ⟨σ3, H3, I3, n3⟩ := q3
      obtain ⟨m', hm, w3⟩ := hN σ3 H3 n3
      exact ⟨m', hm, σ3, H3, I3, w3⟩
    | cont =>
      obtain ⟨σ3, H3, I3, n3⟩ := q3
      obtain ⟨m', hm, w3⟩ := hN σ3 H3 n3
      exact ⟨m', hm, σ3, H3, I3, w3⟩
    | brk => exact q3
    | ret v => exact q3
  | false =>
    rw [if_neg Bool.false_ne_true]
    exact wpAny_execs_nil ⟨σ1, H2, I2, q2⟩
end



structure It where
  go : Nat → Hp → Prop
  yld : Nat → Hp → V → Hp → Prop
  stop : Nat → Hp → Prop

def FpOk (X : Cx) (pins : List (Addr × Obj)) (H : Hp) (b : Addr) : Prop :=
  H b = none ∧ b ≠ X.env.locals ∧ b ∉ X.fs ∧ (b ∈ X.ex ∨ X.s₀.heap.objs.size ≤ b) ∧ (∀ x c, X.env.cells.lookup x = some c → c ≠ b) ∧ ∀ p ∈ X.pn ++ pins, p.1 ≠ b
theorem Inv.fpOk {X : Cx} {pins : List (Addr × Obj)} {σ : St} {H H' : Hp} {s : Shared} {b : Addr} (I : Inv X pins σ H s) (hb : s.heap.objs.size ≤ b) (hn : H' b = none) : FpOk X pins H' b := by
  refine ⟨hn, Nat.ne_of_gt (Nat.lt_of_lt_of_le I.lt hb), I.nofs hb, .inr (Nat.le_trans I.sz hb), fun x c e z => ?_, fun p hp z => ?_⟩
  · obtain ⟨v, q⟩ := I.cell x c e
    exact absurd (Nat.lt_of_lt_of_le q.lt (by rw [z]; exact hb)) (Nat.lt_irrefl _)
  · exact absurd (Nat.lt_of_lt_of_le (Heap.lt_size (I.pin p hp).1) (by rw [z]; exact hb)) (Nat.lt_irrefl _)
structure Turn (P : Program) (w : World) (K : PySem.W.Frag) (tg : Expr) (J : It) (fp : List Addr) (it : Addr) (tn : Nat → Heap → Prop) : Prop where
  mem : it ∈ fp
  obj : ∀ i h, tn i h → ∀ b ∈ fp, ∃ o, h.get? b = some o ∧ ∀ v, o.data ≠ .cell v
  keep : ∀ i h h', tn i h → (∀ b ∈ fp, ∀ o, h.get? b = some o → h'.get? b = some o) → tn i h'
  item : ∀ (X : Cx), X.prog = P → X.w = w → X.K = K → X.calm = true → ∀ (i : Nat) (pins : List (Addr × Obj)) (s : Shared) (σ : St) (H : Hp) (E : Value → Shared → Prop), Inv X pins σ H s → (∀ b ∈ fp, FpOk X pins H b) → tn i s.heap → J.go i H →
    wpAny (model P w) X.A (pyNext (.ref it)) (fun r s1 => ∃ u, r = some u ∧
      wpAny (model P w) X.A (letOwnedTupleGo tg (.ref it) u) (fun _ s2 => ∃ x H', Inv X pins σ H' s2 ∧ RelV x u ∧ J.yld i H x H' ∧ tn (i + 1) s2.heap ∧ ∀ b ∈ fp, H' b = none) E s1) E s
  done : ∀ (X : Cx), X.prog = P → X.w = w → X.K = K → X.calm = true → ∀ (i : Nat) (pins : List (Addr × Obj)) (s : Shared) (σ : St) (H : Hp) (E : Value → Shared → Prop), Inv X pins σ H s → (∀ b ∈ fp, FpOk X pins H b) → tn i s.heap → J.stop i H →
    wpAny (model P w) X.A (pyNext (.ref it)) (fun r s1 => r = none ∧ Inv X pins σ H s1) E s
  self : ∀ (A : Around) (i : Nat) (s : Shared) (Q : Value → Shared → Prop) (E : Value → Shared → Prop), tn i s.heap → Q (.ref it) s → wpAny (model P w) A (pyIter (.ref it)) Q E s
abbrev TI := St → Hp → (It → Hp → Prop) → Prop

def PIE (X : Cx) (pins : List (Addr × Obj)) (σ : St) (tg : Expr) (R : It → Hp → Prop) (itv : Value) (s2 : Shared) : Prop :=
  ∃ (it : Addr) (fp : List Addr) (tn : Nat → Heap → Prop) (J : It) (H' : Hp), itv = .ref it ∧ Inv X pins σ H' s2 ∧ Turn X.prog X.w X.K tg J fp it tn ∧ tn 0 s2.heap ∧ (∀ b ∈ fp, FpOk X pins H' b) ∧ R J H'
def PI (X : Cx) (tg iter : Expr) (wi : TI) : Prop :=
  ∀ (pins : List (Addr × Obj)) (s : Shared) (σ : St) (H : Hp) (R : It → Hp → Prop), Inv X pins σ H s → wi σ H R →
    wpAny (model X.prog X.w) X.A (eval iter X.env) (fun v s1 => wpAny (model X.prog X.w) X.A (pyIter v) (PIE X pins σ tg R) X.xe s1) X.xe s


theorem go_of {M : Model} {A : Around} {E : Value → Shared → Prop} {s : Shared} {tg : Expr} {it : Addr} {u : Value} {o : Obj} {n : String} {vs : Array Value} {Q : Unit → Shared → Prop} (ho : s.heap.get? it = some o) (hc : o.cls = .type n) (hd : o.data = .fields vs)
    (hn : ["enumerate", "zip", "dict_itemiterator", "dict_reverseitemiterator", "odict_iterator", "itertools.zip_longest", "itertools.pairwise"].contains n = false) (hQ : Q () s) : wpAny M A (letOwnedTupleGo tg (.ref it) u) Q E s := by
  unfold letOwnedTupleGo
  cases tg <;> first
    | exact wpAny_pure hQ
    | (cases u <;> first
        | exact wpAny_pure hQ
        | (refine wpAny_bind (wpAny_load ho ?_)
           rw [hc, hd]
           show wpAny M A (if (["enumerate", "zip", "dict_itemiterator", "dict_reverseitemiterator", "odict_iterator", "itertools.zip_longest", "itertools.pairwise"].contains n && vs[0]? == some (rawInt _)) = true then _ else _) Q E s
           rw [if_neg (by intro h; rw [hn, Bool.false_and] at h; cases h)]
           exact wpAny_pure hQ))


def Itl (K : PySem.W.Frag) (a : Addr) : It :=
  ⟨fun i H => ∃ xs x, SqL K H a xs ∧ xs[i]? = some x, fun i H x H' => H' = H ∧ ∀ xs, SqL K H a xs → xs[i]? = some x, fun i H => ∃ xs, SqL K H a xs ∧ xs.length ≤ i⟩
def Itt (K : PySem.W.Frag) (a : Addr) : It :=
  ⟨fun i H => ∃ xs x, SqT K H a xs ∧ xs[i]? = some x, fun i H x H' => H' = H ∧ ∀ xs, SqT K H a xs → xs[i]? = some x, fun i H => ∃ xs, SqT K H a xs ∧ xs.length ≤ i⟩

def Itr (lo : Int) (n : Nat) : It := ⟨fun i _ => i < n, fun i H x H' => H' = H ∧ x = .int (lo + i), fun i _ => n ≤ i⟩
theorem turn_list {P : Program} {w : World} {K : PySem.W.Frag} {tg : Expr} (a it : Addr) : Turn P w K tg (Itl K a) [it] it (fun i h => h.IsListIter it a i) where
  mem := by simp
  obj := fun i h st b hb => by
    have e : b = it := by simpa using hb
    subst e
    obtain ⟨o, e, c, d⟩ := st
    exact ⟨o, e, fun v z => by rw [d] at z; cases z⟩
  keep := fun i h h' st k => st.at fun o e => k it (by simp) o e
  item := by
    intro X hP hw hK hc i pins s σ H E I hf st hg
    subst hP hw hK
    obtain ⟨xs, x, hq, hx⟩ := hg
    obtain ⟨its, rv, p, hz⟩ := I.list hq
    obtain ⟨u, hu, ru⟩ := rv.get hx
    obtain ⟨f0, f1, f2, f3, f4, f5⟩ := hf it (by simp)
    refine wpAny_pyNext_list_item st p.isList (x := u) (by simpa using hu) fun h' st' sb => ?_
    have I1 : Inv X pins σ H { s with heap := h' } := I.turned (t' := s.toks) (fun b o hb e => (sb.2 b hb).trans e) f0 f1 f3 f4 f5
    obtain ⟨o, e, c, d⟩ := id st'
    exact ⟨u, rfl, go_of (s := { s with heap := h' }) e c d (by decide) ⟨x, H, I1, ru, ⟨rfl, fun ys hy => by rw [I.list_inj hy hq]; exact hx⟩, st', fun b hb => (hf b hb).1⟩⟩
  done := by
    intro X hP hw hK hc i pins s σ H E I hf st hg
    subst hP hw hK
    obtain ⟨xs, hq, hx⟩ := hg
    obtain ⟨its, rv, p, hz⟩ := I.list hq
    obtain ⟨f0, f1, f2, f3, f4, f5⟩ := hf it (by simp)
    have hl := rv.length
    exact wpAny_pyNext_list_end (I.ok.hd hc) st p.isList (by simp; omega) fun h' eb => ⟨rfl, I.turned (t' := s.toks) (fun b o hb e => eb b o hb e) f0 f1 f3 f4 f5⟩
  self := fun _ _ _ _ _ st h => wpAny_pyIter_listiter st h
theorem turn_tuple {P : Program} {w : World} {K : PySem.W.Frag} {tg : Expr} (a it : Addr) : Turn P w K tg (Itt K a) [it] it (fun i h => h.IsTupleIter it a i) where
  mem := by simp
  obj := fun i h st b hb => by
    have e : b = it := by simpa using hb
    subst e
    obtain ⟨o, e, c, d⟩ := st
    exact ⟨o, e, fun v z => by rw [d] at z; cases z⟩
  keep := fun i h h' st k => st.at fun o e => k it (by simp) o e
  item := by
    intro X hP hw hK hc i pins s σ H E I hf st hg
    subst hP hw hK
    obtain ⟨xs, x, hq, hx⟩ := hg
    obtain ⟨its, rv, p, hz⟩ := I.tuple hq
    obtain ⟨u, hu, ru⟩ := rv.get hx
    obtain ⟨f0, f1, f2, f3, f4, f5⟩ := hf it (by simp)
    refine wpAny_pyNext_tuple_item st (show s.heap.IsTuple a its.toArray from p) (x := u) (by simpa using hu) fun h' st' sb => ?_
    have I1 : Inv X pins σ H { s with heap := h' } := I.turned (t' := s.toks) (fun b o hb e => (sb.2 b hb).trans e) f0 f1 f3 f4 f5
    obtain ⟨o, e, c, d⟩ := id st'
    exact ⟨u, rfl, go_of (s := { s with heap := h' }) e c d (by decide) ⟨x, H, I1, ru, ⟨rfl, fun ys hy => by rw [I.tuple_inj hy hq]; exact hx⟩, st', fun b hb => (hf b hb).1⟩⟩
  done := by
    intro X hP hw hK hc i pins s σ H E I hf st hg
    subst hP hw hK
    obtain ⟨xs, hq, hx⟩ := hg
    obtain ⟨its, rv, p, hz⟩ := I.tuple hq
    obtain ⟨f0, f1, f2, f3, f4, f5⟩ := hf it (by simp)
    have hl := rv.length
    exact wpAny_pyNext_tuple_end (I.ok.hd hc) st (show s.heap.IsTuple a its.toArray from p) (by simp; omega) fun h' eb => ⟨rfl, I.turned (t' := s.toks) (fun b o hb e => eb b o hb e) f0 f1 f3 f4 f5⟩
  self := fun _ _ _ _ _ st h => wpAny_pyIter_tupleiter st h
theorem turn_range {P : Program} {w : World} {K : PySem.W.Frag} {tg : Expr} (it : Addr) (lo : Int) (n : Nat) : Turn P w K tg (Itr lo n) [it] it (fun i h => IsRangeIter h it (lo + (i : Nat) * 1) ((n : Int) - (i : Nat)) 1) where
  mem := by simp
  obj := fun i h st b hb => by
    have e : b = it := by simpa using hb
    subst e
    exact ⟨_, st, fun v z => by
      have z' : Data.fields _ = Data.cell v := z
      cases z'⟩
  keep := fun i h h' st k => k it (by simp) _ st
  item := by
    intro X hP hw hK hc i pins s σ H E I hf st hg
    subst hP hw hK
    obtain ⟨f0, f1, f2, f3, f4, f5⟩ := hf it (by simp)
    have W := Walks.range (prog := X.prog) (w := X.w) (I.ok.hd hc) it lo 1 n
    refine W.item i s _ _ hg st fun v h' tk hv st' kk => ?_
    obtain ⟨t, rfl⟩ := hv
    have I1 : Inv X pins σ H { s with heap := h', toks := tk } := I.turned (fun b o hb e => kk b o (by simpa using hb) e) f0 f1 f3 f4 f5
    refine ⟨_, rfl, go_of (s := { s with heap := h', toks := tk }) (n := "range_iterator") st' rfl rfl (by decide) ⟨.int (lo + i), H, I1, ⟨t, ?_⟩, ⟨rfl, rfl⟩, st', fun b hb => (hf b hb).1⟩⟩
    rw [Int.mul_one]
  done := by
    intro X hP hw hK hc i pins s σ H E I hf st hg
    subst hP hw hK
    obtain ⟨f0, f1, f2, f3, f4, f5⟩ := hf it (by simp)
    exact wpAny_pyNext_range_end (I.ok.hd hc) st (by have : n ≤ i := hg; omega) fun h' eb => ⟨rfl, I.turned (t' := s.toks) (fun b o hb e => eb b o hb e) f0 f1 f3 f4 f5⟩
  self := fun _ _ _ _ _ st h => wpAny_pyIter_rangeiter st h
end L2

namespace L2
open PySem PySem.Spec PyProof.Rows
section
variable {X : Cx} {tg : Expr}
def iList (K : PySem.W.Frag) (tl : TE) : TI := fun σ H R => tl σ H fun x H1 => ∃ a, x = .ref a ∧ (∃ xs, SqL K H1 a xs) ∧ R (Itl K a) H1
def iTup (K : PySem.W.Frag) (tl : TE) : TI := fun σ H R => tl σ H fun x H1 => ∃ a, x = .ref a ∧ (∃ xs, SqT K H1 a xs) ∧ R (Itt K a) H1
theorem pi_list {l : Expr} {tl : TE} (hl : PE X l tl) : PI X tg l (iList X.K tl) := by
  intro pins s σ H R I h
  refine thn (hl pins s σ H _ I h) fun v s1 ⟨x, H1, I1, r1, q1⟩ => ?_
  obtain ⟨a, e, ⟨xs, hq⟩, q⟩ := q1
  subst e
  cases r1
  obtain ⟨its, rv, p, hz⟩ := I1.list hq
  refine wpAny_pyIter_list p.isList ?_
  refine ⟨s1.heap.objs.size, [s1.heap.objs.size], _, _, H1, rfl, I1.kept (t' := s1.toks) fun b o e => Heap.get?_push_of_some _ e, turn_list a _, ⟨_, Heap.get?_push_size _ rfl, rfl, rfl⟩, fun b hb => ?_, q⟩
  have e : b = s1.heap.objs.size := by simpa using hb
  subst e
  exact I1.fpOk (Nat.le_refl _) (I1.hok.fresh (Nat.le_refl _))
theorem pi_tup {l : Expr} {tl : TE} (hl : PE X l tl) : PI X tg l (iTup X.K tl) := by
  intro pins s σ H R I h
  refine thn (hl pins s σ H _ I h) fun v s1 ⟨x, H1, I1, r1, q1⟩ => ?_
  obtain ⟨a, e, ⟨xs, hq⟩, q⟩ := q1
  subst e
  cases r1
  obtain ⟨its, rv, p, hz⟩ := I1.tuple hq
  refine wpAny_pyIter_tuple (show s1.heap.IsTuple a its.toArray from p) ?_
  refine ⟨s1.heap.objs.size, [s1.heap.objs.size], _, _, H1, rfl, I1.kept (t' := s1.toks) fun b o e => Heap.get?_push_of_some _ e, turn_tuple a _, ⟨_, Heap.get?_push_size _ rfl, rfl, rfl⟩, fun b hb => ?_, q⟩
  have e : b = s1.heap.objs.size := by simpa using hb
  subst e
  exact I1.fpOk (Nat.le_refl _) (I1.hok.fresh (Nat.le_refl _))

theorem range_it {pins : List (Addr × Obj)} {σ : St} {H : Hp} {s : Shared} {R : It → Hp → Prop} {E : Value → Shared → Prop} {lo hi : Int} {t u v : Tok} {tk : Nat} (I : Inv X pins σ H s) (h1 : -(2 ^ 62) ≤ lo) (h2 : lo < 2 ^ 62) (h3 : -(2 ^ 62) ≤ hi) (h4 : hi < 2 ^ 62)
    (q : R (Itr lo (hi - lo).toNat) H) : wpAny (model X.prog X.w) X.A (pyIter (.ref s.heap.objs.size)) (PIE X pins σ tg R) E { s with heap := s.heap.push { cls := .type "range", data := .fields #[.int lo t, .int hi u, .int 1 v] }, toks := tk } := by
  refine wpAny_pyIter_range (IsRange.new ..) (small_one h1 h2 h3 h4) ?_
  have I1 : Inv X pins σ H { s with heap := s.heap.push { cls := .type "range", data := .fields #[.int lo t, .int hi u, .int 1 v] }, toks := tk } := I.kept fun b o e => Heap.get?_push_of_some _ e
  refine ⟨(s.heap.push { cls := .type "range", data := .fields #[.int lo t, .int hi u, .int 1 v] }).objs.size, [(s.heap.push { cls := .type "range", data := .fields #[.int lo t, .int hi u, .int 1 v] }).objs.size], _, _, H, rfl,
    I1.kept (t' := tk) fun b o e => Heap.get?_push_of_some _ e, turn_range _ lo (hi - lo).toNat, ?_, fun b hb => ?_, q⟩
  · have e1 : lo + ((0 : Nat) : Int) * 1 = lo := by simp
    have e2 : (((hi - lo).toNat : Nat) : Int) - ((0 : Nat) : Int) = Builtin.Range.rangeSize lo hi 1 := by rw [rangeSize_one]; split <;> omega
    show IsRangeIter _ _ (lo + ((0 : Nat) : Int) * 1) ((((hi - lo).toNat : Nat) : Int) - ((0 : Nat) : Int)) 1
    rw [e1, e2]
    exact Heap.get?_push_size _ rfl
  · have e : b = (s.heap.push { cls := .type "range", data := .fields #[.int lo t, .int hi u, .int 1 v] }).objs.size := by simpa using hb
    subst e
    exact I1.fpOk (Nat.le_refl _) (I1.hok.fresh (Nat.le_refl _))
def iRng1 (ta : TA) : TI := fun σ H R => ta σ H fun vs H1 => ∃ j : Int, vs = [.int j] ∧ -(2 ^ 62) ≤ j ∧ j < 2 ^ 62 ∧ R (Itr 0 j.toNat) H1
theorem pi_range1 {a : Expr} {ta : TA} {p pos : Pos} (hg : Gl X "range") (hm : X.mg "range" = none) (ha : PA X [a] ta) (hs : starEach [a] X.env = [(false, eval a X.env)] := by rfl) : PI X tg (.Call (.Name "range" p) [a] [] pos) (iRng1 ta) := by
  intro pins s σ H R I h
  refine Call_ (ld_blt I hg hm boot_range (PyProof.Rows.callWith_type1 (thn (ha pos pins s σ H _ I h) fun us s1 ⟨vs, H1, I1, r1, q1⟩ => ?_) hs rfl))
  obtain ⟨j, e, q1, q2, q⟩ := q1
  subst e
  cases r1 with
  | cons r rr =>
    cases rr
    obtain ⟨t, rfl⟩ := r
    exact call_range_1 (range_it I1 (by omega) (by omega) q1 q2 (by simpa using q))
def tFor (wi : TI) (g : TG) (tb : TS) : TS := fun D σ H => wi σ H fun J H1 => ∃ W : Nat → Nat → St → Hp → Prop, (∃ m, W 0 m σ H1) ∧ ∀ i m σ H, W i m σ H →
  (J.stop i H ∧ D.nx σ H) ∨ (J.go i H ∧ ∃ N : St → Hp → Prop, (∀ σ' H', N σ' H' → ∃ m', m' < m ∧ W (i + 1) m' σ' H') ∧ ∀ x H', J.yld i H x H' → g x σ H' fun σ2 H2 => tb { D with nx := N, ct := N, bk := D.nx } σ2 H2)

def pinsAt (fp : List Addr) (h : Heap) : List (Addr × Obj) := fp.filterMap fun b => (h.get? b).map fun o => (b, o)
theorem mem_pinsAt {fp : List Addr} {h : Heap} {b : Addr} {o : Obj} (hb : b ∈ fp) (e : h.get? b = some o) : (b, o) ∈ pinsAt fp h := List.mem_filterMap.mpr ⟨b, hb, by rw [e]; rfl⟩
theorem of_pinsAt {fp : List Addr} {h : Heap} {p : Addr × Obj} (hp : p ∈ pinsAt fp h) : p.1 ∈ fp ∧ h.get? p.1 = some p.2 := by
  obtain ⟨b, hb, e⟩ := List.mem_filterMap.mp hp
  cases q : h.get? b with
  | none => rw [q] at e; cases e
  | some o =>
    rw [q] at e
    have e' : (b, o) = p := Option.some.inj e
    subst e'
    exact ⟨hb, q⟩
theorem Inv.pinned {pins : List (Addr × Obj)} {σ : St} {H : Hp} {s : Shared} {fp : List Addr} (I : Inv X pins σ H s) (hf : ∀ b ∈ fp, FpOk X pins H b) (ho : ∀ b ∈ fp, ∃ o, s.heap.get? b = some o ∧ ∀ v, o.data ≠ .cell v) : Inv X (pins ++ pinsAt fp s.heap) σ H s :=
  I.pins_of fun p hp => (List.mem_append.mp hp).elim (fun z => I.pin p (List.mem_append_right _ z)) fun z => by
    obtain ⟨hb, e⟩ := of_pinsAt z
    obtain ⟨f0, f1, f2, _⟩ := hf p.1 hb
    obtain ⟨o, e', d⟩ := ho p.1 hb
    rw [e] at e'; cases e'
    exact ⟨e, f0, f1, f2, d⟩
theorem Inv.unpinned {pins pl : List (Addr × Obj)} {σ : St} {H : Hp} {s : Shared} (I : Inv X (pins ++ pl) σ H s) : Inv X pins σ H s := I.pins_of fun p hp => I.pin p (List.mem_append_right _ (List.mem_append_left _ hp))
theorem ps_for {iter : Expr} {body : List Stmt} {wi : TI} {g : TG} {tb : TS} {pos : Pos} (hp : PassesOwn (model X.prog X.w) X.A X.env X.xe) (hc : X.calm = true) (hi : PI X tg iter wi) (hg : PG X tg g) (hb : PSs X body tb)
    (hs : ∀ x, foldedSetIterable iter X.env x = pure x := by intro _; rfl) : PS X (.For tg iter body [] pos) (tFor wi g tb) := by
  intro pins s σ H D I h
  refine wpAny_For (thn (hi pins s σ H _ I h) fun v s1 h1 => thn h1 fun itv s2 h2 => ?_) hs
  obtain ⟨it, fp, tn, J, H2, e, I2, T, st2, f2, W, ⟨m0, w0⟩, turn⟩ := h2
  subst e
  -- what stays true of the iterator's objects through the loop
  have stat : ∀ {H' : Hp}, (∀ b ∈ fp, H' b = none) → ∀ b ∈ fp, FpOk X pins H' b := fun hn b hb => ⟨hn b hb, (f2 b hb).2⟩
  refine codeAny_forLoop_any (fun n s' => ∃ i σ' H', Inv X pins σ' H' s' ∧ tn i s'.heap ∧ (∀ b ∈ fp, H' b = none) ∧ W i n σ' H') ?_ m0 ⟨0, σ, H2, I2, st2, fun b hb => (f2 b hb).1, w0⟩
  rintro n s3 ⟨i, σ3, H3, I3, st3, fr3, w3⟩
  rcases turn i n σ3 H3 w3 with ⟨stop, qn⟩ | ⟨go, N, hN, step⟩
  · refine wpAny_passesOwn hp (thn (T.done X rfl rfl rfl hc i pins s3 σ3 H3 X.xe I3 (stat fr3) st3 stop) fun r s4 ⟨hr, I4⟩ => ?_)
    subst hr
    exact wpAny_execs_nil ⟨σ3, H3, I4, qn⟩
  · refine wpAny_passesOwn hp (thn (T.item X rfl rfl rfl hc i pins s3 σ3 H3 X.xe I3 (stat fr3) st3 go) fun r s4 ⟨u, hr, h4⟩ => ?_)
    subst hr
    refine wpAny_passesOwn hp (thn h4 fun _ s5 ⟨x, H5, I5, r5, y5, st5, fr5⟩ => ?_)
    have I5' := I5.pinned (stat fr5) (T.obj _ _ st5)
    refine wpAny_passesOwn hp (thn (hg _ s5 σ3 H5 x u _ I5' r5 (step x H5 y5)) fun _ s6 ⟨σ6, H6, I6, q6⟩ => ?_)
    refine wpAny_passesOwn hp (thn (hb _ s6 σ6 H6 _ I6 q6) fun f s7 q7 => ?_)
    have again : ∀ {σ7 : St} {H7 : Hp}, Inv X (pins ++ pinsAt fp s5.heap) σ7 H7 s7 → N σ7 H7 → ∃ m, m < n ∧ ∃ i σ' H', Inv X pins σ' H' s7 ∧ tn i s7.heap ∧ (∀ b ∈ fp, H' b = none) ∧ W i m σ' H' := fun {σ7 H7} I7 n7 => by
      obtain ⟨m', hm, w7⟩ := hN σ7 H7 n7
      refine ⟨m', hm, i + 1, σ7, H7, I7.unpinned, T.keep _ _ _ st5 fun b hb o e => (I7.pin (b, o) (List.mem_append_right _ (List.mem_append_right _ (mem_pinsAt hb e)))).1, fun b hb => ?_, w7⟩
      obtain ⟨o, e, d⟩ := T.obj _ _ st5 b hb
      exact (I7.pin (b, o) (List.mem_append_right _ (List.mem_append_right _ (mem_pinsAt hb e)))).2.1
    cases f with
    | next => obtain ⟨σ7, H7, I7, n7⟩ := q7; exact again I7 n7
    | cont => obtain ⟨σ7, H7, I7, n7⟩ := q7; exact again I7 n7
    | brk => obtain ⟨σ7, H7, I7, q7⟩ := q7; exact ⟨σ7, H7, I7.unpinned, q7⟩
    | ret v => obtain ⟨x7, σ7, H7, I7, r7, q7⟩ := q7; exact ⟨x7, σ7, H7, I7.unpinned, r7, q7⟩
end



theorem for_list {K : PySem.W.Frag} {a : Addr} {xs : List V} {g : TG} {tb : TS} {D : Ends} {σ : St} {H : Hp} (Pv : Nat → St → Hp → Prop) (h0 : Pv 0 σ H) (hl : ∀ i σ H, i ≤ xs.length → Pv i σ H → SqL K H a xs)
    (hs : ∀ i x σ H, xs[i]? = some x → Pv i σ H → g x σ H fun σ2 H2 => tb { D with nx := Pv (i + 1), ct := Pv (i + 1), bk := D.nx } σ2 H2) (hd : ∀ σ H, Pv xs.length σ H → D.nx σ H) :
    ∃ W : Nat → Nat → St → Hp → Prop, (∃ m, W 0 m σ H) ∧ ∀ i m σ H, W i m σ H →
      ((Itl K a).stop i H ∧ D.nx σ H) ∨ ((Itl K a).go i H ∧ ∃ N : St → Hp → Prop, (∀ σ' H', N σ' H' → ∃ m', m' < m ∧ W (i + 1) m' σ' H') ∧ ∀ x H', (Itl K a).yld i H x H' → g x σ H' fun σ2 H2 => tb { D with nx := N, ct := N, bk := D.nx } σ2 H2) := by
  refine ⟨fun i m σ H => m = xs.length - i ∧ i ≤ xs.length ∧ Pv i σ H, ⟨xs.length, by simp, Nat.zero_le _, h0⟩, ?_⟩
  rintro i m σ H ⟨rfl, hi, p⟩
  have q := hl i σ H hi p
  by_cases hlt : i < xs.length
  · refine .inr ⟨⟨xs, xs[i], q, by simp [hlt]⟩, Pv (i + 1), fun σ' H' p' => ⟨xs.length - (i + 1), by omega, rfl, hlt, p'⟩, fun x H' y => ?_⟩
    obtain ⟨e, y⟩ := y
    subst e
    exact hs i x σ _ (y xs q) p
  · have e : i = xs.length := by omega
    subst e
    exact .inl ⟨⟨xs, q, Nat.le_refl _⟩, hd σ H p⟩
theorem for_tup {K : PySem.W.Frag} {a : Addr} {xs : List V} {g : TG} {tb : TS} {D : Ends} {σ : St} {H : Hp} (Pv : Nat → St → Hp → Prop) (h0 : Pv 0 σ H) (hl : ∀ i σ H, i ≤ xs.length → Pv i σ H → SqT K H a xs)
    (hs : ∀ i x σ H, xs[i]? = some x → Pv i σ H → g x σ H fun σ2 H2 => tb { D with nx := Pv (i + 1), ct := Pv (i + 1), bk := D.nx } σ2 H2) (hd : ∀ σ H, Pv xs.length σ H → D.nx σ H) :
    ∃ W : Nat → Nat → St → Hp → Prop, (∃ m, W 0 m σ H) ∧ ∀ i m σ H, W i m σ H →
      ((Itt K a).stop i H ∧ D.nx σ H) ∨ ((Itt K a).go i H ∧ ∃ N : St → Hp → Prop, (∀ σ' H', N σ' H' → ∃ m', m' < m ∧ W (i + 1) m' σ' H') ∧ ∀ x H', (Itt K a).yld i H x H' → g x σ H' fun σ2 H2 => tb { D with nx := N, ct := N, bk := D.nx } σ2 H2) := by
  refine ⟨fun i m σ H => m = xs.length - i ∧ i ≤ xs.length ∧ Pv i σ H, ⟨xs.length, by simp, Nat.zero_le _, h0⟩, ?_⟩
  rintro i m σ H ⟨rfl, hi, p⟩
  have q := hl i σ H hi p
  by_cases hlt : i < xs.length
  · refine .inr ⟨⟨xs, xs[i], q, by simp [hlt]⟩, Pv (i + 1), fun σ' H' p' => ⟨xs.length - (i + 1), by omega, rfl, hlt, p'⟩, fun x H' y => ?_⟩
    obtain ⟨e, y⟩ := y
    subst e
    exact hs i x σ _ (y xs q) p
  · have e : i = xs.length := by omega
    subst e
    exact .inl ⟨⟨xs, q, Nat.le_refl _⟩, hd σ H p⟩
theorem for_range {lo : Int} {n : Nat} {g : TG} {tb : TS} {D : Ends} {σ : St} {H : Hp} (Pv : Nat → St → Hp → Prop) (h0 : Pv 0 σ H)
    (hs : ∀ i σ H, i < n → Pv i σ H → g (.int (lo + i)) σ H fun σ2 H2 => tb { D with nx := Pv (i + 1), ct := Pv (i + 1), bk := D.nx } σ2 H2) (hd : ∀ σ H, Pv n σ H → D.nx σ H) :
    ∃ W : Nat → Nat → St → Hp → Prop, (∃ m, W 0 m σ H) ∧ ∀ i m σ H, W i m σ H →
      ((Itr lo n).stop i H ∧ D.nx σ H) ∨ ((Itr lo n).go i H ∧ ∃ N : St → Hp → Prop, (∀ σ' H', N σ' H' → ∃ m', m' < m ∧ W (i + 1) m' σ' H') ∧ ∀ x H', (Itr lo n).yld i H x H' → g x σ H' fun σ2 H2 => tb { D with nx := N, ct := N, bk := D.nx } σ2 H2) := by
  refine ⟨fun i m σ H => m = n - i ∧ i ≤ n ∧ Pv i σ H, ⟨n, by simp, Nat.zero_le _, h0⟩, ?_⟩
  rintro i m σ H ⟨rfl, hi, p⟩
  by_cases hlt : i < n
  · refine .inr ⟨hlt, Pv (i + 1), fun σ' H' p' => ⟨n - (i + 1), by omega, rfl, hlt, p'⟩, fun x H' y => ?_⟩
    obtain ⟨e, y⟩ := y
    subst e y
    exact hs i σ _ hlt p
  · have e : i = n := by omega
    subst e
    exact .inl ⟨Nat.le_refl _, hd σ H p⟩

theorem while_by {c : TT} {tb : TS} {D : Ends} {σ : St} {H : Hp} (Pv : St → Hp → Prop) (μ : St → Hp → Nat) (h0 : Pv σ H)
    (hs : ∀ σ H, Pv σ H → c σ H fun b H1 => if b = true then tb { D with nx := fun σ' H' => Pv σ' H' ∧ μ σ' H' < μ σ H, ct := fun σ' H' => Pv σ' H' ∧ μ σ' H' < μ σ H, bk := D.nx } σ H1 else D.nx σ H1)
    (mono : ∀ σ H Q Q', (∀ b H1, Q b H1 → Q' b H1) → c σ H Q → c σ H Q') : tWhile c tb D σ H := by
  refine ⟨fun m σ H => m = μ σ H ∧ Pv σ H, ⟨_, rfl, h0⟩, ?_⟩
  rintro m σ H ⟨rfl, p⟩
  refine mono σ H _ _ (fun b H1 q => ?_) (hs σ H p)
  cases b with
  | true => exact ⟨_, fun σ' H' ⟨p', l⟩ => ⟨_, l, rfl, p'⟩, q⟩
  | false => exact q
end L2

namespace L2
open PySem PySem.Spec PyProof.Rows

abbrev R2 := V → V → Hp → VK → Prop

def OpR (X : Cx) (f : Value → Value → Sem Value) (r : R2) : Prop :=
  ∀ (pins : List (Addr × Obj)) (s : Shared) (σ : St) (H : Hp) (x y : V) (v u : Value) (Q : VK), Inv X pins σ H s → RelV x v → RelV y u → r x y H Q →
    wpAny (model X.prog X.w) X.A (f v u) (EP X pins σ Q) X.xe s

def UnR (X : Cx) (f : Value → Sem Value) (r : V → Hp → VK → Prop) : Prop :=
  ∀ (pins : List (Addr × Obj)) (s : Shared) (σ : St) (H : Hp) (x : V) (v : Value) (Q : VK), Inv X pins σ H s → RelV x v → r x H Q →
    wpAny (model X.prog X.w) X.A (f v) (EP X pins σ Q) X.xe s

def CallR (X : Cx) (f : Value) (r : List V → Hp → VK → Prop) : Prop :=
  ∀ (pins : List (Addr × Obj)) (s : Shared) (σ : St) (H : Hp) (xs : List V) (us : List Value) (Q : VK), Inv X pins σ H s → Vals xs us → r xs H Q →
    wpAny (model X.prog X.w) X.A (call f us) (EP X pins σ Q) X.xe s

def tOp (r : R2) (ta tb : TE) : TE := fun σ H Q => ta σ H fun x H1 => tb σ H1 fun y H2 => r x y H2 Q
def tUn (r : V → Hp → VK → Prop) (ta : TE) : TE := fun σ H Q => ta σ H fun x H1 => r x H1 Q

def rI (C : Int → Int → Prop) (g : Int → Int → V) : R2 := fun x y H Q => ∃ i j, x = .int i ∧ y = .int j ∧ C i j ∧ Q (g i j) H
def rI0 (g : Int → Int → V) : R2 := fun x y H Q => ∃ i j, x = .int i ∧ y = .int j ∧ Q (g i j) H
def rU (g : Int → V) : V → Hp → VK → Prop := fun x H Q => ∃ i, x = .int i ∧ Q (g i) H

section
variable {X : Cx} {a b c : Expr} {ta tb tc : TE} {pos : Pos}

theorem binT (ha : PE X a ta) (hb : PE X b tb) {pins : List (Addr × Obj)} {s : Shared} {σ : St} {H : Hp} {R : V → V → Hp → Prop} (I : Inv X pins σ H s)
    (h : ta σ H fun x H1 => tb σ H1 fun y H2 => R x y H2) {Q : Value → Shared → Prop} {f : Value → Value → Sem Value}
    (hf : ∀ v u s2 x y H2, Inv X pins σ H2 s2 → RelV x v → RelV y u → R x y H2 → wpAny (model X.prog X.w) X.A (f v u) Q X.xe s2) :
    wpAny (model X.prog X.w) X.A (eval a X.env) (fun v s₁ => wpAny (model X.prog X.w) X.A (eval b X.env) (fun u s₂ => wpAny (model X.prog X.w) X.A (f v u) Q X.xe s₂) X.xe s₁) X.xe s := by
  refine thn (ha pins s σ H _ I h) fun v s1 ⟨x, H1, I1, r1, q1⟩ => ?_
  refine thn (hb pins s1 σ H1 _ I1 q1) fun u s2 ⟨y, H2, I2, r2, q2⟩ => ?_
  exact hf v u s2 x y H2 I2 r1 r2 q2

theorem pe_op {op : Operator} {r : R2} (ho : OpR X (binaryOp op) r) (ha : PE X a ta) (hb : PE X b tb) : PE X (.BinOp a op b pos) (tOp r ta tb) := by
  intro pins s σ H Q I h
  exact wpAny_BinOp (binT ha hb I h fun v u s2 x y H2 I2 rx ry q => ho pins s2 σ H2 x y v u Q I2 rx ry q)
theorem pe_un {op : UnaryOp} {r : V → Hp → VK → Prop} (ho : UnR X (unaryOp op) r) (ha : PE X a ta) : PE X (.UnaryOp op a pos) (tUn r ta) := by
  intro pins s σ H Q I h
  exact UnaryOp_ (thn (ha pins s σ H _ I h) fun v s1 ⟨x, H1, I1, r1, q1⟩ => ho pins s1 σ H1 x v Q I1 r1 q1)

theorem opI {f : Value → Value → Sem Value} {C : Int → Int → Prop} {g : Int → Int → Int}
    (rule : ∀ (i j : Int) (t u : Tok) (s : Shared) (Q : Value → Shared → Prop) (E : Value → Shared → Prop), C i j → Q (.int (g i j) s.toks) { s with toks := s.toks + 1 } → wpAny (model X.prog X.w) X.A (f (.int i t) (.int j u)) Q E s) :
    OpR X f (rI C fun i j => .int (g i j)) := by
  intro pins s σ H x y v u Q I rx ry h
  obtain ⟨i, j, rfl, rfl, hc, q⟩ := h
  obtain ⟨t, rfl⟩ := rx
  obtain ⟨t', rfl⟩ := ry
  exact rule i j t t' s _ _ hc ⟨.int (g i j), H, I.tok _, ⟨_, rfl⟩, q⟩
theorem opI0 {f : Value → Value → Sem Value} {g : Int → Int → Int}
    (rule : ∀ (i j : Int) (t u : Tok) (s : Shared) (Q : Value → Shared → Prop) (E : Value → Shared → Prop), Q (.int (g i j) s.toks) { s with toks := s.toks + 1 } → wpAny (model X.prog X.w) X.A (f (.int i t) (.int j u)) Q E s) :
    OpR X f (rI0 fun i j => .int (g i j)) := by
  intro pins s σ H x y v u Q I rx ry h
  obtain ⟨i, j, rfl, rfl, q⟩ := h
  obtain ⟨t, rfl⟩ := rx
  obtain ⟨t', rfl⟩ := ry
  exact rule i j t t' s _ _ ⟨.int (g i j), H, I.tok _, ⟨_, rfl⟩, q⟩
theorem opB0 {f : Value → Value → Sem Value} {g : Int → Int → Bool}
    (rule : ∀ (i j : Int) (t u : Tok) (s : Shared) (Q : Value → Shared → Prop) (E : Value → Shared → Prop), Q (.bool (g i j)) s → wpAny (model X.prog X.w) X.A (f (.int i t) (.int j u)) Q E s) :
    OpR X f (rI0 fun i j => .bl (g i j)) := by
  intro pins s σ H x y v u Q I rx ry h
  obtain ⟨i, j, rfl, rfl, q⟩ := h
  obtain ⟨t, rfl⟩ := rx
  obtain ⟨t', rfl⟩ := ry
  exact rule i j t t' s _ _ ⟨.bl (g i j), H, I, rfl, q⟩

def CPow (i j : Int) : Prop := 0 ≤ j ∧ j ≤ 1000000 ∧ i.natAbs < 2 ^ 64
def CMul (i j : Int) : Prop := (-(2 ^ 64) < i ∧ i < 2 ^ 64) ∨ (-(2 ^ 64) < j ∧ j < 2 ^ 64)
theorem CMul.ok {i j : Int} (h : CMul i j) : IntMulOk i j := by
  rcases h with ⟨h1, h2⟩ | ⟨h1, h2⟩
  · exact .of_left (intBits_le_64 h1 h2)
  · exact .of_right (intBits_le_64 h1 h2)
theorem op_add : OpR X (binaryOp .Add) (rI0 fun i j => .int (i + j)) := opI0 fun _ _ _ _ _ _ _ q => add_int q
theorem op_sub : OpR X (binaryOp .Sub) (rI0 fun i j => .int (i - j)) := opI0 fun _ _ _ _ _ _ _ q => sub_int q
theorem op_mul : OpR X (binaryOp .Mult) (rI CMul fun i j => .int (i * j)) := opI fun _ _ _ _ _ _ _ hc q => mul_int q hc.ok

theorem op_mod : OpR X (binaryOp .Mod) (rI (fun _ j => 0 < j) fun i j => .int (i % j)) := opI fun i j _ _ _ _ _ hc q => by
  have h1 : (0 : Int) < j := hc
  exact mod_int' (by omega) (by rw [Int.fmod_eq_emod_of_nonneg i (by omega)]; exact q)
theorem op_pow : OpR X (binaryOp .Pow) (rI CPow fun i j => .int (i ^ j.toNat)) := opI fun _ _ _ _ _ _ _ hc q => pow_int_small hc.1 hc.2.1 hc.2.2 q
theorem op_shl : OpR X (binaryOp .LShift) (rI CPow fun i j => .int (i * 2 ^ j.toNat)) := opI fun _ _ _ _ _ _ _ hc q => lshift_int_small hc.1 hc.2.1 hc.2.2 q
theorem unI {f : Value → Sem Value} {g : Int → Int}
    (rule : ∀ (i : Int) (t : Tok) (s : Shared) (Q : Value → Shared → Prop) (E : Value → Shared → Prop), Q (.int (g i) s.toks) { s with toks := s.toks + 1 } → wpAny (model X.prog X.w) X.A (f (.int i t)) Q E s) :
    UnR X f (rU fun i => .int (g i)) := by
  intro pins s σ H x v Q I rx h
  obtain ⟨i, rfl, q⟩ := h
  obtain ⟨t, rfl⟩ := rx
  exact rule i t s _ _ ⟨.int (g i), H, I.tok _, ⟨_, rfl⟩, q⟩
theorem un_neg : UnR X (unaryOp .USub) (rU fun i => .int (-i)) := unI fun _ _ _ _ _ q => neg_int q
end



def scal : V → V → Bool
  | .non, .non => true | .non, .int _ => true | .int _, .non => true | .non, .bl _ => true | .bl _, .non => true | .non, .str _ => true | .str _, .non => true
  | .int _, .int _ => true | .bl _, .bl _ => true | .str _, .str _ => true | .byt _, .byt _ => true
  | .int _, .str _ => true | .str _, .int _ => true | .bl _, .str _ => true | .str _, .bl _ => true
  | _, _ => false
def rEq : R2 := fun x y H Q => scal x y = true ∧ Q (.bl (decide (x = y))) H
def rNe : R2 := fun x y H Q => scal x y = true ∧ Q (.bl (!decide (x = y))) H

theorem dec_int {i j : Int} : decide (V.int i = V.int j) = (i == j) := by
  rw [Bool.eq_iff_iff]
  simp
theorem dec_bl {i j : Bool} : decide (V.bl i = V.bl j) = (i == j) := by
  rw [Bool.eq_iff_iff]
  simp
theorem dec_str {i j : Str} : decide (V.str i = V.str j) = (i == j) := by
  rw [Bool.eq_iff_iff]
  simp
theorem dec_byt {i j : Array UInt8} : decide (V.byt i = V.byt j) = (i.toList == j.toList) := by
  rw [Bool.eq_iff_iff]
  cases i
  cases j
  simp

section
variable {X : Cx} {a b c : Expr} {ta tb tc : TE} {pos : Pos}
theorem fin_bl {pins : List (Addr × Obj)} {σ : St} {H : Hp} {s : Shared} {Q : VK} {k k' : Bool} (I : Inv X pins σ H s) (q : Q (.bl k) H) (e : k = k') : EP X pins σ Q (.bool k') s := by
  subst e
  exact ⟨.bl k, H, I, rfl, q⟩
theorem op_eq : OpR X (compareOp .Eq) rEq := by
  intro pins s σ H x y v u Q I rx ry h
  obtain ⟨hs, q⟩ := h
  cases x with
  | non =>
    cases rx
    cases y with
    | non => cases ry; exact PySem.EqNone.eq_none_none (fin_bl I q (by simp))
    | bl j => cases ry; exact PySem.EqNone.eq_none_bool (fin_bl I q (by simp))
    | int j => obtain ⟨t', rfl⟩ := ry; exact PySem.EqNone.eq_none_int (fin_bl I q (by simp))
    | str j => obtain ⟨t', rfl⟩ := ry; exact PySem.EqNone.eq_none_str (fin_bl I q (by simp))
    | _ => exact absurd (show false = true from hs) Bool.false_ne_true
  | bl i =>
    cases rx
    cases y with
    | non => cases ry; exact PySem.EqNone.eq_bool_none (fin_bl I q (by simp))
    | bl j => cases ry; exact eq_bool (fin_bl I q dec_bl)
    | str j => obtain ⟨t', rfl⟩ := ry; exact PySem.EqMixed.eq_bool_str (fin_bl I q (by simp))
    | _ => exact absurd (show false = true from hs) Bool.false_ne_true
  | int i =>
    obtain ⟨t, rfl⟩ := rx
    cases y with
    | non => cases ry; exact PySem.EqNone.eq_int_none (fin_bl I q (by simp))
    | int j => obtain ⟨t', rfl⟩ := ry; exact eq_int (fin_bl I q dec_int)
    | str j => obtain ⟨t', rfl⟩ := ry; exact PySem.EqMixed.eq_int_str (fin_bl I q (by simp))
    | _ => exact absurd (show false = true from hs) Bool.false_ne_true
  | str i =>
    obtain ⟨t, rfl⟩ := rx
    cases y with
    | non => cases ry; exact PySem.EqNone.eq_str_none (fin_bl I q (by simp))
    | bl j => cases ry; exact PySem.EqMixed.eq_str_bool (fin_bl I q (by simp))
    | int j => obtain ⟨t', rfl⟩ := ry; exact PySem.EqMixed.eq_str_int (fin_bl I q (by simp))
    | str j => obtain ⟨t', rfl⟩ := ry; exact eq_str (fin_bl I q dec_str)
    | _ => exact absurd (show false = true from hs) Bool.false_ne_true
  | byt i =>
    obtain ⟨t, rfl⟩ := rx
    cases y with
    | byt j => obtain ⟨t', rfl⟩ := ry; exact PySem.W.eq_bytes (fin_bl I q dec_byt)
    | _ => exact absurd (show false = true from hs) Bool.false_ne_true
  | _ => cases y <;> exact absurd (show false = true from hs) Bool.false_ne_true
theorem op_ne : OpR X (compareOp .NotEq) rNe := by
  intro pins s σ H x y v u Q I rx ry h
  obtain ⟨hs, q⟩ := h
  cases x with
  | non =>
    cases rx
    cases y with
    | non => cases ry; exact PySem.EqNone.ne_none_none (fin_bl I q (by simp))
    | bl j => cases ry; exact PySem.EqNone.ne_none_bool (fin_bl I q (by simp))
    | int j => obtain ⟨t', rfl⟩ := ry; exact PySem.EqNone.ne_none_int (fin_bl I q (by simp))
    | str j => obtain ⟨t', rfl⟩ := ry; exact PySem.EqNone.ne_none_str (fin_bl I q (by simp))
    | _ => exact absurd (show false = true from hs) Bool.false_ne_true
  | bl i =>
    cases rx
    cases y with
    | non => cases ry; exact PySem.EqNone.ne_bool_none (fin_bl I q (by simp))
    | bl j => cases ry; exact ne_bool (fin_bl I q (congrArg not dec_bl))
    | str j => obtain ⟨t', rfl⟩ := ry; exact PySem.EqMixed.ne_bool_str (fin_bl I q (by simp))
    | _ => exact absurd (show false = true from hs) Bool.false_ne_true
  | int i =>
    obtain ⟨t, rfl⟩ := rx
    cases y with
    | non => cases ry; exact PySem.EqNone.ne_int_none (fin_bl I q (by simp))
    | int j => obtain ⟨t', rfl⟩ := ry; exact ne_int (fin_bl I q (congrArg not dec_int))
    | str j => obtain ⟨t', rfl⟩ := ry; exact PySem.EqMixed.ne_int_str (fin_bl I q (by simp))
    | _ => exact absurd (show false = true from hs) Bool.false_ne_true
  | str i =>
    obtain ⟨t, rfl⟩ := rx
    cases y with
    | non => cases ry; exact PySem.EqNone.ne_str_none (fin_bl I q (by simp))
    | bl j => cases ry; exact PySem.EqMixed.ne_str_bool (fin_bl I q (by simp))
    | int j => obtain ⟨t', rfl⟩ := ry; exact PySem.EqMixed.ne_str_int (fin_bl I q (by simp))
    | str j => obtain ⟨t', rfl⟩ := ry; exact ne_str (fin_bl I q (congrArg not dec_str))
    | _ => exact absurd (show false = true from hs) Bool.false_ne_true
  | byt i =>
    obtain ⟨t, rfl⟩ := rx
    cases y with
    | byt j => obtain ⟨t', rfl⟩ := ry; exact PySem.W.ne_bytes (fin_bl I q (congrArg not dec_byt))
    | _ => exact absurd (show false = true from hs) Bool.false_ne_true
  | _ => cases y <;> exact absurd (show false = true from hs) Bool.false_ne_true

theorem op_lt : OpR X (compareOp .Lt) (rI0 fun i j => .bl (decide (i < j))) := opB0 fun _ _ _ _ _ _ _ q => lt_int q
theorem op_le : OpR X (compareOp .LtE) (rI0 fun i j => .bl (decide (i ≤ j))) := opB0 fun _ _ _ _ _ _ _ q => le_int q
theorem op_gt : OpR X (compareOp .Gt) (rI0 fun i j => .bl (decide (j < i))) := opB0 fun _ _ _ _ _ _ _ q => gt_int q
theorem op_in_str : OpR X (compareOp .In) (fun x y H Q => ∃ i j, x = .str i ∧ y = .str j ∧ Q (.bl (!(Builtin.Str.occurrences j i 0 j.length 1).isEmpty)) H) := by
  intro pins s σ H x y v u Q I rx ry h
  obtain ⟨i, j, rfl, rfl, q⟩ := h
  obtain ⟨t, rfl⟩ := rx
  obtain ⟨t', rfl⟩ := ry
  exact in_str (fin_bl I q rfl)


theorem op_isN : OpR X (compareOp .Is) (fun x y H Q => y = .non ∧ Q (.bl (decide (x = .non))) H) := by
  intro pins s σ H x y v u Q I rx ry h
  obtain ⟨rfl, q⟩ := h
  cases ry
  refine is_none_gen (fin_bl I q ?_)
  cases x <;> first
    | (cases rx; rfl)
    | (obtain ⟨t, rfl⟩ := rx; rfl)
theorem op_notN : OpR X (compareOp .IsNot) (fun x y H Q => y = .non ∧ Q (.bl (!decide (x = .non))) H) := by
  intro pins s σ H x y v u Q I rx ry h
  obtain ⟨rfl, q⟩ := h
  cases ry
  refine isnot_none_gen (fin_bl I q ?_)
  cases x <;> first
    | (cases rx; rfl)
    | (obtain ⟨t, rfl⟩ := rx; rfl)

theorem nomark (b : Expr) {op : CmpOp} (h : op ≠ .In := by decide) (h2 : op ≠ .NotIn := by decide) : behindInMarks op b = false := by
  have e1 : (op == CmpOp.In) = false := by cases op <;> first | rfl | exact absurd rfl h
  have e2 : (op == CmpOp.NotIn) = false := by cases op <;> first | rfl | exact absurd rfl h2
  cases b <;> simp [behindInMarks, e1, e2]

theorem pe_cmpR {op : CmpOp} {r : R2} (ho : OpR X (compareOp op) r) (ha : PE X a ta) (hb : PE X b tb) (hm : behindInMarks op b = false) : PE X (.Compare a [op] [b] pos) (tOp r ta tb) := by
  intro pins s σ H Q I h
  exact wpAny_Compare1 (binT ha hb I h fun v u s2 x y H2 I2 rx ry q => ho pins s2 σ H2 x y v u Q I2 rx ry q) hm

def tTest (t : TE) : TT := fun σ H Q => t σ H fun x H' => ∃ k, x = .bl k ∧ Q k H'
theorem pt_cmpR {op : CmpOp} {r : R2} (ho : OpR X (compareOp op) r) (ha : PE X a ta) (hb : PE X b tb) (hm : behindInMarks op b = false) : PT X (.Compare a [op] [b] pos) (tTest (tOp r ta tb)) := by
  intro pins s σ H Q I h
  refine wpAny_isTrue_Compare1 (thn (ha pins s σ H _ I h) fun v s1 ⟨x, H1, I1, r1, q1⟩ => thn (hb pins s1 σ H1 _ I1 q1) fun u s2 ⟨y, H2, I2, r2, q2⟩ =>
    thn (ho pins s2 σ H2 x y v u _ I2 r1 r2 q2) fun c s3 ⟨z, H3, I3, r3, k, e, q3⟩ => ?_) hm
  subst e
  cases r3
  exact wpAny_truthy_bool ⟨H3, I3, q3⟩

def tChain (r r' : R2) (ta tb tc : TE) : TE := fun σ H Q => ta σ H fun x H1 => tb σ H1 fun y H2 => r x y H2 fun z H3 => ∃ k, z = .bl k ∧
  (if k = true then tc σ H3 fun w' H4 => r' y w' H4 Q else Q (.bl false) H3)
theorem pe_chain {op op' : CmpOp} {r r' : R2} (ho : OpR X (compareOp op) r) (ho' : OpR X (compareOp op') r') (ha : PE X a ta) (hb : PE X b tb) (hc : PE X c tc)
    (hm : lastMarks [op, op'] [b, c] = false := by with_unfolding_all rfl) : PE X (.Compare a [op, op'] [b, c] pos) (tChain r r' ta tb tc) := by
  intro pins s σ H Q I h
  refine Compare_chain (thn (ha pins s σ H _ I h) fun v s1 ⟨x, H1, I1, r1, q1⟩ => chain_link (thn (hb pins s1 σ H1 _ I1 q1) fun u s2 ⟨y, H2, I2, r2, q2⟩ =>
    thn (ho pins s2 σ H2 x y v u _ I2 r1 r2 q2) fun d s3 ⟨z, H3, I3, r3, k, e, q3⟩ => ?_)) hm
  subst e
  cases r3
  refine wpAny_truthy_bool ?_
  cases k with
  | false => exact ite_ff ⟨.bl false, H3, I3, rfl, q3⟩
  | true => exact ite_tt (chain_last (thn (hc pins s3 σ H3 _ I3 q3) fun w' s4 ⟨z', H4, I4, r4, q4⟩ => ho' pins s4 σ H4 y z' u w' Q I4 r2 r4 q4))
theorem pt_chain {op op' : CmpOp} {r r' : R2} (ho : OpR X (compareOp op) r) (ho' : OpR X (compareOp op') r') (ha : PE X a ta) (hb : PE X b tb) (hc : PE X c tc)
    (hm : lastMarks [op, op'] [b, c] = false := by with_unfolding_all rfl) : PT X (.Compare a [op, op'] [b, c] pos) (tTest (tChain r r' ta tb tc)) := by
  intro pins s σ H Q I h
  refine isTrue_chain (thn (ha pins s σ H _ I h) fun v s1 ⟨x, H1, I1, r1, q1⟩ => test_link (thn (hb pins s1 σ H1 _ I1 q1) fun u s2 ⟨y, H2, I2, r2, q2⟩ =>
    thn (ho pins s2 σ H2 x y v u _ I2 r1 r2 q2) fun d s3 ⟨z, H3, I3, r3, k, e, q3⟩ => ?_)) hm
  subst e
  cases r3
  refine wpAny_truthy_bool ?_
  cases k with
  | false =>
    obtain ⟨k', e', q'⟩ := q3
    cases e'
    exact ite_ff ⟨H3, I3, q'⟩
  | true =>
    refine ite_tt (test_last (thn (hc pins s3 σ H3 _ I3 q3) fun w' s4 ⟨z', H4, I4, r4, q4⟩ => thn (ho' pins s4 σ H4 y z' u w' _ I4 r2 r4 q4) fun d' s5 ⟨z2, H5, I5, r5, k2, e2, q5⟩ => ?_))
    subst e2
    cases r5
    exact wpAny_truthy_bool ⟨H5, I5, q5⟩



theorem line63 : (sizeLine : Nat) < 2 ^ 63 := by rw [sizeLine_eq]; decide
theorem op_add_str : OpR X (binaryOp .Add) (fun x y H Q => ∃ i j, x = .str i ∧ y = .str j ∧ i.length + j.length ≤ sizeLine ∧ Q (.str (i ++ j)) H) := by
  intro pins s σ H x y v u Q I rx ry h
  obtain ⟨i, j, rfl, rfl, hz, q⟩ := h
  obtain ⟨t, rfl⟩ := rx
  obtain ⟨t', rfl⟩ := ry
  exact add_str (fun t' tk => ⟨.str (i ++ j), H, I.tok _, ⟨_, rfl⟩, q⟩) hz
theorem vals1 {x : V} {us : List Value} (r : Vals [x] us) : ∃ u, us = [u] ∧ RelV x u := by
  cases r with
  | cons r1 r2 => cases r2; exact ⟨_, rfl, r1⟩
theorem vals2 {x y : V} {us : List Value} (r : Vals [x, y] us) : ∃ u w', us = [u, w'] ∧ RelV x u ∧ RelV y w' := by
  cases r with
  | cons r1 r2 =>
    cases r2 with
    | cons r3 r4 => cases r4; exact ⟨_, _, rfl, r1, r3⟩
theorem call_min2 (hc : X.calm = true) : CallR X (.builtin "min") (fun xs H Q => ∃ i j, xs = [.int i, .int j] ∧ Q (.int (if j < i then j else i)) H) := by
  intro pins s σ H xs us Q I r h
  obtain ⟨i, j, rfl, q⟩ := h
  obtain ⟨u, w', rfl, ⟨t, rfl⟩, ⟨t', rfl⟩⟩ := vals2 r
  refine min_two_ints (I.ok.hd hc) fun h' tk k => ⟨_, H, I.kept k, ?_, q⟩
  by_cases hj : j < i
  · rw [if_pos hj, if_pos hj]; exact ⟨_, rfl⟩
  · rw [if_neg hj, if_neg hj]; exact ⟨_, rfl⟩
theorem call_str_int : CallR X (.type "str") (fun xs H Q => ∃ i, xs = [.int i] ∧ i.natAbs.log2 < 1920 ∧ Q (.str (toString i)) H) := by
  intro pins s σ H xs us Q I r h
  obtain ⟨i, rfl, hz, q⟩ := h
  obtain ⟨u, rfl, t, rfl⟩ := vals1 r
  exact PySem.P.str_of_int hz ⟨.str _, H, I.tok _, ⟨_, rfl⟩, q⟩
def LenV (K : PySem.W.Frag) (x : V) (H : Hp) (n : Nat) : Prop :=
  match x with
  | .str y => y.length ≤ sizeLine ∧ n = y.length
  | .byt y => y.size ≤ sizeLine ∧ n = y.size
  | .ref p => (∃ xs, SqL K H p xs ∧ n = xs.length) ∨ ∃ xs, SqT K H p xs ∧ n = xs.length
  | _ => False
theorem call_len : CallR X (.builtin "len") (fun xs H Q => ∃ x n, xs = [x] ∧ LenV X.K x H n ∧ Q (.int n) H) := by
  intro pins s σ H xs us Q I r h
  obtain ⟨x, n, rfl, e, q⟩ := h
  obtain ⟨u, rfl, rx⟩ := vals1 r
  have hl := line63
  have hs : sizeLine = 16777216 := sizeLine_eq
  cases x with
  | str y =>
    obtain ⟨t, rfl⟩ := rx
    obtain ⟨hy, e'⟩ : y.length ≤ sizeLine ∧ n = y.length := e
    subst e'
    exact len_str (by omega) ⟨.int _, H, I.tok _, ⟨_, rfl⟩, q⟩
  | byt y =>
    obtain ⟨t, rfl⟩ := rx
    obtain ⟨hy, e'⟩ : y.size ≤ sizeLine ∧ n = y.size := e
    subst e'
    exact PySem.W.len_bytes (by omega) ⟨.int _, H, I.tok _, ⟨_, rfl⟩, q⟩
  | ref p =>
    cases rx
    have e' : (∃ xs, SqL X.K H p xs ∧ n = xs.length) ∨ ∃ xs, SqT X.K H p xs ∧ n = xs.length := e
    rcases e' with ⟨xs, hx, e'⟩ | ⟨xs, hx, e'⟩
    · subst e'
      obtain ⟨its, r', pl, hz⟩ := I.list hx
      have hlen := r'.length
      exact Calls.call_len_list pl.isList (by simp only [List.size_toArray]; omega) ⟨.int xs.length, H, I.tok _, ⟨_, by simp only [List.size_toArray]; rw [hlen]⟩, q⟩
    · subst e'
      obtain ⟨its, r', pl, hz⟩ := I.tuple hx
      have hlen := r'.length
      exact len_tuple pl (by simp only [List.size_toArray]; omega) ⟨.int xs.length, H, I.tok _, ⟨_, by simp only [List.size_toArray]; rw [hlen]⟩, q⟩
  | _ => exact (show False from e).elim

end
end L2

namespace L2
open PySem PySem.Spec PyProof.Rows


structure ObjM (h : Heap) (x dx C : Addr) (mA : Str → Option Value) : Prop where
  obj : h.get? x = some (PySem.W.instObj C dx)
  ns : h.Ns1 dx mA
  ne : dx ≠ x

theorem lookIn_ns {h : Heap} {dx : Addr} {mA : Str → Option Value} (n : h.Ns1 dx mA) : ∃ od, h.get? dx = some od ∧ ∀ name, PySem.W.lookIn name od = some (mA name) := by
  obtain ⟨o, es, ep, ho, hd, hk, _, hm⟩ := n
  refine ⟨o, ho, fun name => ?_⟩
  have e := hm name
  unfold nsFind findBy at e
  rw [← Array.find?_toList] at e
  unfold PySem.W.lookIn
  rw [hd]
  dsimp only
  split
  · rename_i y q
    rw [q] at e
    exact congrArg some e
  · rename_i q
    rw [q] at e
    have a : es.toList.any (·.refKey) = false := by
      rw [List.any_eq_false]
      intro y hy
      obtain ⟨z, t, hkey⟩ := hk y (Array.mem_toList_iff.mp hy)
      simp [DictEntry.refKey, hkey]
    have a' : ¬ es.toList.any (·.refKey) = true := by rw [a]; exact Bool.false_ne_true
    rw [if_neg a']
    exact congrArg some e

theorem ObjM.look {h : Heap} {x dx C : Addr} {mA : Str → Option Value} (I : ObjM h x dx C mA) : ∃ od, PySem.W.InstAt h x (PySem.W.instObj C dx) C (some od) ∧ ∀ name, PySem.W.lookIn name od = some (mA name) :=
  let ⟨od, ho, hl⟩ := lookIn_ns I.ns
  ⟨od, ⟨I.obj, rfl, rfl, ho⟩, hl⟩

section
variable {prog : Program} {w : World} {A : Around} {E : Value → Shared → Prop} {s : Shared} {K : PySem.W.Frag} {x dx C f : Addr} {mA : Str → Option Value} {name : Str} {v : Value}

end


section
variable {P : Program} {w : World} {H H' : Hp} {h h' : Heap} {a C dx : Addr} {fs fs' : List (Str × V)}
theorem ins_get (hok : HOk P w H h) (e : H a = some (.ins C dx fs)) : ∃ mA, ObjM h a dx C mA ∧ (∀ f, RelO (fs.lookup f) (mA f)) ∧ PySem.Within mA (fs.map (·.1)) ∧ fs.length ≤ 1000 ∧ H dx = some (.own a) := by
  obtain ⟨d, z, ne, ob, mA, n, r, q⟩ := (show ObjOk P w H h a (.ins C dx fs) from hok a _ e)
  exact ⟨mA, ⟨ob, n, ne⟩, r, q, z, d⟩
end


structure Cls (K : PySem.W.Frag) (C : Addr) : Prop where
  pg : PySem.W.plainGet K C Str.empty = true
  hd : PySem.W.hasDictIn K C = true
  po : PySem.W.plainOver K C = true
  sa : PySem.W.findIn K (.ref C) "__setattr__" = some (some (.builtin "object.__setattr__"))
theorem Cls.get {K : PySem.W.Frag} {C : Addr} (c : Cls K C) (f : Str) : PySem.W.plainGet K C f = true := c.pg

section
variable {X : Cx} {pins : List (Addr × Obj)} {σ : St} {H : Hp} {s : Shared} {a C dx : Addr} {fs : List (Str × V)} {f : Str} {v : V} {A : Around} {E : Value → Shared → Prop}

end



section
variable {X : Cx} {o e value : Expr} {f : Str} {pos pos' tpos : Pos} {ta tv : TE}
end


section
variable {X : Cx} {pins : List (Addr × Obj)} {σ : St} {H : Hp} {s : Shared} {A : Around} {E : Value → Shared → Prop} {Q : Value → Shared → Prop} {c : Value} {b : Bool}

inductive TyOf (K : PySem.W.Frag) (H : Hp) : V → Value → Prop where
  | non : TyOf K H .non (.type "NoneType")
  | bl (x : Bool) : TyOf K H (.bl x) (.type "bool")
  | int (i : Int) : TyOf K H (.int i) (.type "int")
  | str (x : Str) : TyOf K H (.str x) (.type "str")
  | flt (x : UInt64) : TyOf K H (.flt x) (.type "float")
  | lst {a : Addr} {xs : List V} (e : H a = some (.lst xs)) : TyOf K H (.ref a) (.type "list")
  | frz {a : Addr} {o : Obj} {xs : List V} (e : H a = some (.frz o (.lst xs))) : TyOf K H (.ref a) (.type "list")
  | tup {a : Addr} {xs : List V} (e : H a = some (.tup xs)) : TyOf K H (.ref a) (.type "tuple")
  | dK {a : Addr} {kvs : List (Key × V)} (e : H a = some (.dK kvs)) : TyOf K H (.ref a) (.type "dict")
  | dT {a : Addr} {kvs : List (List Key × V)} (e : H a = some (.dT kvs)) : TyOf K H (.ref a) (.type "dict")
  | ins {a C dx : Addr} {fs : List (Str × V)} (e : H a = some (.ins C dx fs)) (cl : Cls K C) (ha : PySem.W.findIn K (.ref C) "__class__" = some (some (.builtin "object.__class__")))
      (hn : PySem.W.specialIn K (.builtin "object.__class__") "__get__" = some (some (.builtin "getset_descriptor.__get__"))) (htk : PySem.W.takesIn K (.builtin "object.__class__") = some true)
      (hm : PySem.W.mroIn K C (.type "object") = some true) : TyOf K H (.ref a) (.ref C)

theorem isinst_ok {x : V} {u t : Value} (I : Inv X pins σ H s) (rx : RelV x u) (ty : TyOf X.K H x t) (e : PySem.W.kitOne X.K t c = some b) (h : ∀ tk, Q (.bool b) { s with toks := tk }) :
    wpAny (model X.prog X.w) A (call (.builtin "isinstance") [u, c]) Q E s := by
  cases ty with
  | non => cases (show u = Value.none from rx); exact PySem.W.kia_one PySem.W.kitx_none I.kIn True.intro e (fun z => nomatch z) h
  | bl y => cases (show u = Value.bool y from rx); exact PySem.W.kia_one PySem.W.kitx_bool I.kIn True.intro e (fun z => nomatch z) h
  | int i => obtain ⟨t, q⟩ := (show ∃ t, u = Value.int i t from rx); cases q; exact PySem.W.kia_one PySem.W.kitx_int I.kIn True.intro e (fun z => nomatch z) h
  | str y => obtain ⟨t, q⟩ := (show ∃ t, u = Value.str y t from rx); cases q; exact PySem.W.kia_one PySem.W.kitx_str I.kIn True.intro e (fun z => nomatch z) h
  | flt y => obtain ⟨t, q⟩ := (show ∃ t, u = Value.float y t from rx); cases q; exact PySem.W.kia_one PySem.W.kitx_float I.kIn True.intro e (fun z => nomatch z) h
  | @lst a xs ea =>
    cases (show u = Value.ref a from rx)
    obtain ⟨_, _, n, _, h1⟩ := (show ObjOk X.prog X.w H s.heap a (.lst xs) from I.hok a _ ea)
    exact PySem.W.kia_one PySem.W.kitx_list I.kIn ⟨_, h1, rfl⟩ e (fun z => nomatch z) h
  | @frz a ob xs ea =>
    cases (show u = Value.ref a from rx)
    obtain ⟨_, _, _, n, _, h1⟩ := (show ObjOk X.prog X.w H s.heap a (.frz ob (.lst xs)) from I.hok a _ ea)
    exact PySem.W.kia_one PySem.W.kitx_list I.kIn ⟨_, h1, rfl⟩ e (fun z => nomatch z) h
  | @tup a xs ea =>
    cases (show u = Value.ref a from rx)
    obtain ⟨_, _, _, p⟩ := (show ObjOk X.prog X.w H s.heap a (.tup xs) from I.hok a _ ea)
    obtain ⟨o, h1, h2, _⟩ := p
    exact PySem.W.kia_one PySem.W.kitx_tuple I.kIn ⟨o, h1, h2⟩ e (fun z => nomatch z) h
  | @dK a kvs ea =>
    cases (show u = Value.ref a from rx)
    obtain ⟨_, _, vs, _, p⟩ := (show ObjOk X.prog X.w H s.heap a (.dK kvs) from I.hok a _ ea)
    obtain ⟨o, es, ep, h1, h2, _⟩ := p
    exact PySem.W.kia_one PySem.W.kitx_dict I.kIn ⟨o, h1, h2.1⟩ e (fun z => nomatch z) h
  | @dT a kvs ea =>
    cases (show u = Value.ref a from rx)
    obtain ⟨_, _, xs, _, o, es, ep, h1, h2, _⟩ := (show ObjOk X.prog X.w H s.heap a (.dT kvs) from I.hok a _ ea)
    exact PySem.W.kia_one PySem.W.kitx_dict I.kIn ⟨o, h1, h2.1⟩ e (fun z => nomatch z) h
  | @ins a C dx fs ea cl ha hn htk hm =>
    cases (show u = Value.ref a from rx)
    obtain ⟨mA, O, _⟩ := ins_get I.hok ea
    obtain ⟨od, J, _⟩ := O.look
    exact PySem.W.kia_one (PySem.W.kitx_own (cl.get _) cl.hd ha hn htk hm) I.kIn J e (fun z => nomatch z) h
end
end L2

namespace L2
open PySem PySem.Spec PyProof.Rows


structure Room (k : Nat) (A : Around) : Prop where
  hd : A.handled = none
  dp : A.depth + 3 * k + 5 < recursionLimit
  un : A.units + 16 * k + 200 < cLine
theorem Room.mono {j k : Nat} {A : Around} (r : Room k A) (h : j ≤ k) : Room j A := ⟨r.hd, by have := r.dp; omega, by have := r.un; omega⟩
theorem Room.deeper {k : Nat} {A : Around} (r : Room (k + 1) A) (env : Env) : Room k (A.deeper env) :=
  ⟨r.hd, by have := r.dp; show A.depth + 1 + 3 * k + 5 < _; omega, by have := r.un; show A.units + 3 + 16 * k + 200 < _; omega⟩
theorem Room.depth {k : Nat} {A : Around} (r : Room k A) : A.depth < recursionLimit := by have := r.dp; omega
theorem Room.units {k : Nat} {A : Around} (r : Room k A) : A.units + 64 < cLine := by have := r.un; omega
theorem Room.units0 {k : Nat} {A : Around} (r : Room k A) : A.units < cLine := by have := r.un; omega


def tNil : TA := fun _ H Q => Q [] H
def tCons (ta : TE) (tr : TA) : TA := fun σ H Q => ta σ H fun x H1 => tr σ H1 fun xs H2 => Q (x :: xs) H2
section
variable {X : Cx} {e : Expr} {es : List Expr} {te : TE} {t : TA} {pos : Pos}
theorem pa_nil : PA X [] tNil := fun _ _ _ _ H Q I h => Calls.spliced_nil ⟨[], H, I, .nil, h⟩
theorem pa_cons (ha : PE X e te) (hr : PA X es t) (hs : starEach (e :: es) X.env = (false, eval e X.env) :: starEach es X.env := by rfl) : PA X (e :: es) (tCons te t) := by
  intro pos pins s σ H Q I h
  rw [hs]
  show wpAny _ _ (spliced ((false, eval e X.env) :: backTo pos (starEach es X.env))) _ _ s
  refine Calls.spliced_cons (thn (ha pins s σ H _ I h) fun u s1 ⟨x, H1, I1, r1, q1⟩ => ?_)
  exact thn (hr pos pins s1 σ H1 _ I1 q1) fun us s2 ⟨xs, H2, I2, r2, q2⟩ => ⟨x :: xs, H2, I2, .cons r1 r2, q2⟩


def tTup (t : TA) : TE := fun σ H Q => t σ H fun xs H1 => xs.length ≤ sizeLine ∧ ∀ p, H1 p = none → Q (.ref p) (upd H1 p (.tup xs))
def tLst (t : TA) : TE := fun σ H Q => t σ H fun xs H1 => xs.length ≤ sizeLine ∧ ∀ p, H1 p = none → Q (.ref p) (upd H1 p (.lst xs))
theorem pe_tup {x1} (h : PA X es t) : PE X (.Tuple es x1 pos) (tTup t) := by
  intro pins s σ H Q I hq
  refine wpAny_Tuple_spliced (thn (h pos pins s σ H _ I hq) fun us s1 ⟨xs, H1, I1, r, z, q⟩ => ⟨by rw [← r.length]; exact z, ?_⟩)
  have hf : H1 s1.heap.objs.size = none := I1.hok.fresh (Nat.le_refl _)
  refine ⟨.ref s1.heap.objs.size, upd H1 s1.heap.objs.size (.tup xs), I1.laid (t' := s1.toks) (fun b u e => Heap.get?_push_of_some _ e) (Nat.le_refl _) ?_, rfl, q _ hf⟩
  exact ⟨z, us, r, ⟨_, Heap.get?_push_size _ rfl, rfl, _, rfl⟩⟩
theorem pe_lst (h : PA X es t) : PE X (.List es pos) (tLst t) := by
  intro pins s σ H Q I hq
  refine wpAny_List_spliced (thn (h pos pins s σ H _ I hq) fun us s1 ⟨xs, H1, I1, r, z, q⟩ => ⟨by rw [← r.length]; exact z, ?_⟩)
  have hf : H1 s1.heap.objs.size = none := I1.hok.fresh (Nat.le_refl _)
  refine ⟨.ref s1.heap.objs.size, upd H1 s1.heap.objs.size (.lst xs), I1.laid (t' := s1.toks) (fun b u e => Heap.get?_push_of_some _ e) (Nat.le_refl _) ?_, rfl, q _ hf⟩
  exact ⟨z, us, 0, r, Heap.get?_push_size _ rfl⟩
end



abbrev Sp := List V → Hp → VK → XK → Prop

abbrev CXT := List Env → Hp → Shared → XK → Value → Shared → Prop


structure Env0 (P : Program) (w : World) (K : PySem.W.Frag) (mg : Str → Option Value) (base : Heap) (A : Around) (outer : List Env) (s : Shared) (H : Hp) : Prop where
  frames : A.frames = some outer
  mod : Mod K mg base
  bs : ∀ b o, base.get? b = some o → s.heap.get? b = some o ∧ H b = none
  bsz : base.objs.size ≤ s.heap.objs.size
  funs : s.heap.FunFrames base outer
  frf : ∀ b ∈ frs outer, H b = none
  hok : HOk P w H s.heap
  bare : AllBare s.gens

def CE (outer : List Env) (P : Program) (w : World) (H : Hp) (s : Shared) (Q : VK) (u : Value) (s' : Shared) : Prop :=
  ∃ v H', s'.os = s.os ∧ AllBare s'.gens ∧ Un (frs outer) [] H H' s.heap s'.heap ∧ HOk P w H' s'.heap ∧ RelV v u ∧ Q v H'
def CR (CX : CXT) (outer : List Env) (P : Program) (w : World) (H : Hp) (s : Shared) (Q : VK) (E : XK) (r : Result) (s' : Shared) : Prop :=
  match r with
  | .ok (.ret u) => CE outer P w H s Q u s'
  | .ok _ => False
  | .error e => CX outer H s E e s'
structure FnOk (P : Program) (w : World) (K : PySem.W.Frag) (mg : Str → Option Value) (base : Heap) (CX : CXT) (k : Nat) (f : Addr) (fd : FuncData) (ps : List Str) (sp : Sp) : Prop where
  len : ∀ vs H Q E, sp vs H Q E → vs.length = ps.length
  run : ∀ (A : Around) (outer : List Env) (s : Shared) (H : Hp) (args : Args) (us : List Value) (vs : List V) (Q : VK) (E : XK), Room k A → Env0 P w K mg base A outer s H → BindsTo s fd args (ps.zip us) → Vals vs us → sp vs H Q E →
    codeAny (model P w) A (.call (.ref f) args) (CR CX outer P w H s Q E) s
section
variable {X : Cx} {pins : List (Addr × Obj)} {σ : St} {H : Hp} {s s' : Shared}

theorem Inv.env0 (I : Inv X pins σ H s) : Env0 X.prog X.w X.K X.mg X.base X.A X.stack s H :=
  ⟨I.ok.frames, I.ok.mod, I.bs, Nat.le_trans I.ok.bsz I.sz, I.stack, I.stkFree, I.hok, I.bare⟩

theorem Inv.after {Q : VK} {u : Value} (I : Inv X pins σ H s) (h : CE X.stack X.prog X.w H s Q u s') : EP X pins σ Q u s' := by
  obtain ⟨v, H', os, bare, un, hok, r, q⟩ := h
  obtain ⟨hh, g, d, t, os'⟩ := s'
  obtain rfl : os' = s.os := os
  exact ⟨v, H', I.call (h' := hh) (g' := g) (d' := d) (t' := t) (ch := []) un hok bare (fun b z => absurd z (by simp)), r, q⟩
end



def tCall (sp : Sp) (dvs : List V) (E : XK) (t : TA) : TE := fun σ H Q => t σ H fun vs H1 => sp (vs ++ dvs) H1 Q E

def Binds (K : PySem.W.Frag) (fd : FuncData) (ps : List Str) (ds : List Value) : Prop :=
  ∀ (s : Shared) (us : List Value), K.In s.heap → (us ++ ds).length = ps.length → BindsTo s fd ⟨us, []⟩ (ps.zip (us ++ ds))

theorem Binds.all {K : PySem.W.Frag} {fd : FuncData} {ps : List Str} (h : ∀ us : List Value, us.length = ps.length → bindArgs fd ⟨us, []⟩ = pure (ps.zip us)) : Binds K fd ps [] := fun s us _ hl => by
  rw [List.append_nil] at hl ⊢
  exact .of_eq (h us hl)


def Passes (CX : CXT) (X : Cx) (E : XK) : Prop := ∀ (pins : List (Addr × Obj)) (σ : St) (H : Hp) (s : Shared) (e : Value) (s' : Shared), Inv X pins σ H s → CX X.stack H s E e s' → X.xe e s'

section
variable {X : Cx} {CX : CXT} {k : Nat} {f C : Addr} {fd : FuncData} {ps : List Str} {sp : Sp} {dvs : List V} {ds : List Value} {E : XK} {x m : Str} {p pos apos : Pos} {e o : Expr} {es : List Expr} {ta : TE} {t : TA}


theorem run_fn {pins : List (Addr × Obj)} {σ : St} {H : Hp} {s : Shared} {Q : VK} {us : List Value} {vs : List V} (F : FnOk X.prog X.w X.K X.mg X.base CX k f fd ps sp) (hr : Room k X.A) (hb : Binds X.K fd ps ds) (hd : Vals dvs ds) (hx : Passes CX X E)
    (I : Inv X pins σ H s) (r : Vals vs us) (h : sp (vs ++ dvs) H Q E) : wpAny (model X.prog X.w) X.A (call (.ref f) us) (EP X pins σ Q) X.xe s := by
  have r2 : Vals (vs ++ dvs) (us ++ ds) := r.append hd
  have hl : (us ++ ds).length = ps.length := by rw [← r2.length]; exact F.len _ _ _ _ h
  refine wpAny_call (codeAny_mono (F.run X.A X.stack s H ⟨us, []⟩ (us ++ ds) (vs ++ dvs) Q E hr I.env0 (hb s us I.kIn hl) r2 h) fun r s' hq => ?_)
  cases r with
  | error e => exact hx pins σ H s e s' I hq
  | ok fl =>
    cases fl with
    | ret u => exact I.after hq
    | next => exact False.elim hq
    | brk => exact False.elim hq
    | cont => exact False.elim hq

theorem pe_call (F : FnOk X.prog X.w X.K X.mg X.base CX k f fd ps sp) (hr : Room k X.A) (hg : Gl X x) (hm : X.mg x = some (.ref f)) (hk : PySem.W.keepIn X.K (.ref f) = true) (hb : Binds X.K fd ps ds) (hd : Vals dvs ds) (hx : Passes CX X E)
    (ha : PA X (e :: es) t) (hdb : (x == ("__debug__" : Str)) = false := by decide) (he : starEach (e :: es) X.env = (false, eval e X.env) :: starEach es X.env := by rfl) (hpl : (backTo pos (starEach es X.env)).any (·.1) = false := by rfl) :
    PE X (.Call (.Name x p) (e :: es) [] pos) (tCall sp dvs E t) := by
  intro pins s σ H Q I h
  refine wpAny_Call_Name_kw (ld_glob I hg hm ?_ hdb)
  refine PySem.W.callWith_K (h₀ := X.base) I.ok.mod.kin hk (thn (ha pos pins s σ H _ I h) fun us s1 ⟨vs, H1, I1, r, q⟩ => ⟨I1.kIn, ?_⟩) he hpl
  exact run_fn F hr hb hd hx I1 r q
end



section
variable {X : Cx} {CX : CXT} {k : Nat} {f C : Addr} {fd : FuncData} {ps ks : List Str} {sp : Sp} {E : XK} {x m : Str} {p pos apos kpos : Pos} {e o : Expr} {es : List Expr} {kws : List Keyword} {te ta : TE} {t tk : TA} {nm : Option Str}
variable {g : List Value → List Value → List Value} {gV : List V → List V → List V}
end



structure FnScope (N P : List Str) (sc : Scope) : Prop where
  kind : sc.kind = .function
  co : sc.isCoroutine = false
  gen : sc.isGenerator = false
  nd : N.Nodup
  pre : N.take P.length = P
  par : ∀ x ∈ P, sc.names.lookup x = some .local ∨ sc.names.lookup x = some .cell
  nofree : ∀ y ∈ sc.names, y.2 ≠ .free

theorem bindL_out {kindOf : Str → Option NameKind} {x : Str} : ∀ {binds : List (Str × Value)} {m : Str → Option Value}, (∀ v, (x, v) ∉ binds) → bindL kindOf binds m x = m x
  | [], _, _ => rfl
  | (n, v) :: r, m, h => by
    unfold bindL
    rw [bindL_out fun w hw => h w (List.mem_cons_of_mem _ hw)]
    split
    · have : x ≠ n := by rintro rfl; exact h v List.mem_cons_self
      simp [this]
    · rfl
theorem bindC_out {kindOf : Str → Option NameKind} {x : Str} : ∀ {binds : List (Str × Value)} {m : Str → Option Value}, (∀ v, (x, v) ∉ binds) → bindC kindOf binds m x = m x
  | [], _, _ => rfl
  | (n, v) :: r, m, h => by
    unfold bindC
    rw [bindC_out fun w hw => h w (List.mem_cons_of_mem _ hw)]
    split
    · rfl
    · have : x ≠ n := by rintro rfl; exact h v List.mem_cons_self
      simp [this]
theorem bindL_get {kindOf : Str → Option NameKind} {x : Str} {v : Value} : ∀ {P : List Str} {vs : List Value} {i : Nat} {m : Str → Option Value}, P.Nodup → P[i]? = some x → vs[i]? = some v → kindOf x = some .local →
    bindL kindOf (P.zip vs) m x = some v
  | [], _, _, _, _, h, _, _ => by simp at h
  | _ :: _, [], _, _, _, _, h, _ => by simp at h
  | p :: P, w :: vs, 0, m, nd, h1, h2, hk => by
    simp at h1 h2; subst h1; subst h2
    show bindL kindOf ((p, w) :: P.zip vs) m p = _
    unfold bindL
    rw [bindL_out fun v hv => (List.nodup_cons.mp nd).1 (List.of_mem_zip hv).1, if_pos hk]
    simp
  | p :: P, w :: vs, i + 1, m, nd, h1, h2, hk => by
    show bindL kindOf ((p, w) :: P.zip vs) m x = _
    unfold bindL
    exact bindL_get (i := i) (List.nodup_cons.mp nd).2 (by simpa using h1) (by simpa using h2) hk
theorem bindC_get {kindOf : Str → Option NameKind} {x : Str} {v : Value} : ∀ {P : List Str} {vs : List Value} {i : Nat} {m : Str → Option Value}, P.Nodup → P[i]? = some x → vs[i]? = some v → kindOf x ≠ some .local →
    bindC kindOf (P.zip vs) m x = some v
  | [], _, _, _, _, h, _, _ => by simp at h
  | _ :: _, [], _, _, _, _, h, _ => by simp at h
  | p :: P, w :: vs, 0, m, nd, h1, h2, hk => by
    simp at h1 h2; subst h1; subst h2
    show bindC kindOf ((p, w) :: P.zip vs) m p = _
    unfold bindC
    rw [bindC_out fun v hv => (List.nodup_cons.mp nd).1 (List.of_mem_zip hv).1, if_neg hk]
    simp
  | p :: P, w :: vs, i + 1, m, nd, h1, h2, hk => by
    show bindC kindOf ((p, w) :: P.zip vs) m x = _
    unfold bindC
    exact bindC_get (i := i) (List.nodup_cons.mp nd).2 (by simpa using h1) (by simpa using h2) hk


def start (N : List Str) (vs : List V) : St := vs.map some ++ List.replicate (N.length - vs.length) none


def cxOf (CX : CXT) (P : Program) (w : World) (K : PySem.W.Frag) (mg : Str → Option Value) (base : Heap) (N : List Str) (qual : Str) (scope : Scope) (f : Addr) (cd : Value) (A : Around) (outer : List Env) (s : Shared) (H : Hp) (E : XK) : Cx where
  prog := P
  w := w
  K := K
  mg := mg
  base := base
  A := A.deeper (envOfC qual scope s.heap.objs.size f cd)
  N := N
  s₀ := s
  H₀ := H
  env := envOfC qual scope s.heap.objs.size f cd
  outer := outer
  stack := envOfC qual scope s.heap.objs.size f cd :: outer
  ex := []
  calm := true
  fn := fun _ => true
  pn := []
  xe := fun e s' => wpAny (model P w) (A.deeper (envOfC qual scope s.heap.objs.size f cd)) (leaving (envOfC qual scope s.heap.objs.size f cd) e) (fun _ s'' => CX outer H s E e s'') (fun e' s'' => CX outer H s E e' s'') s'

theorem cell_has {sc : Scope} {n : Nat} {x : Str} (h : sc.names.lookup x = some .cell) : ∃ c, (cellsFrom n sc.names []).lookup x = some c := by
  have q := PySem.W.cellsFrom_some sc.names n [] (.inl h)
  exact Option.isSome_iff_exists.mp q

theorem inv_start {CX : CXT} {P : Program} {w : World} {K : PySem.W.Frag} {mg : Str → Option Value} {base : Heap} {N ps : List Str} {qual : Str} {scope : Scope} {f : Addr} {cd : Value} {A : Around} {outer : List Env} {s s1 : Shared} {H : Hp} {E : XK} {us : List Value} {vs : List V}
    (S : FnScope N ps scope) (hd : A.handled = none) (e0 : Env0 P w K mg base A outer s H) (hl : vs.length = ps.length) (r : Vals vs us)
    (x : InCallC s s.heap.objs.size (bindL (envOfC qual scope s.heap.objs.size f cd).kindOf (ps.zip us) fun _ => none) (cellsFrom (s.heap.objs.size + 1) scope.names []) (bindC (envOfC qual scope s.heap.objs.size f cd).kindOf (ps.zip us) fun _ => none) s1) :
    Inv (cxOf CX P w K mg base N qual scope f cd A outer s H E) [] (start N vs) H s1 := by
  have hpl : ps.length ≤ N.length := by have := congrArg List.length S.pre; rw [List.length_take] at this; omega
  obtain ⟨h1, tk, rfl, hk⟩ := x.done
  have noA : ∀ b : Addr, b ∉ (cxOf CX P w K mg base N qual scope f cd A outer s H E).ex := fun b z => absurd (show b ∈ ([] : List Addr) from z) (by simp)
  refine ⟨⟨e0.mod, S.kind, rfl, rfl, Nat.le_refl _, fun y z c h1 h2 => ?_, fun y hy => ?_, fun y c _ h => ?_, fun _ => hd, Around.frames_deeper e0.frames, .inr ⟨rfl, rfl⟩, fun b z => absurd z (noA b), e0.bs, e0.bsz, fun b _ _ => noA b, fun b z => absurd z (noA b), e0.funs, e0.frf⟩,
    rfl, e0.bare, Un.kept hk, ⟨_, x.toInCall.ns, fun i y v h1 h2 h3 => ?_⟩, fun y c h => ⟨_, x.cell y c h⟩, e0.hok.fresh (Nat.le_refl _), fun y c h => ?_, fun p hp => absurd (show p ∈ ([] : List (Addr × Obj)) from hp) (by simp), e0.hok.kept hk, ?_⟩
  · exact name_of_addr x.apart (PySem.mem_of_lookup h1) (PySem.mem_of_lookup h2)
  · have hy : scope.names.lookup y = some .cell ∨ scope.names.lookup y = some .free := hy
    rcases hy with hy | hy
    · exact cell_has hy
    · exact absurd rfl (S.nofree _ (PySem.mem_of_lookup hy))
  · exact Nat.le_of_lt (x.above y c (PySem.mem_of_lookup h))
  · have hi : i < vs.length := by
      unfold start at h2
      by_cases hi : i < vs.length
      · exact hi
      · rw [List.getElem?_append_right (by simpa using hi)] at h2
        rw [List.getElem?_replicate] at h2
        split at h2 <;> cases h2
    have ha : vs[i]? = some v := by
      unfold start at h2
      rw [List.getElem?_append_left (by simpa using hi), List.getElem?_map] at h2
      cases e : vs[i]? with
      | none => rw [e] at h2; cases h2
      | some a => rw [e] at h2; cases h2; rfl
    obtain ⟨u, hu, rv⟩ := r.get ha
    have hp : ps[i]? = some y := by
      rw [← S.pre, List.getElem?_take_of_lt (by omega)]; exact h1
    have ndP : ps.Nodup := by rw [← S.pre]; exact S.nd.sublist (List.take_sublist _ _)
    refine ⟨u, rv, ?_⟩
    rcases S.par y (List.mem_of_getElem? hp) with k | k
    · exact .inl ⟨k, bindL_get ndP hp hu k⟩
    · obtain ⟨c, e⟩ := cell_has (n := s.heap.objs.size + 1) k
      refine .inr ⟨.inl k, c, e, ?_⟩
      have q := x.cell y c e
      rw [bindC_get ndP hp hu (by show scope.names.lookup y ≠ _; rw [k]; decide)] at q
      exact q
  · exact e0.hok.fresh (Nat.le_of_lt (x.above y c (PySem.mem_of_lookup h)))
  · unfold start
    show _ = N.length
    rw [List.length_append, List.length_map, List.length_replicate]
    omega


theorem fn_of {CX : CXT} {P : Program} {w : World} {K : PySem.W.Frag} {mg : Str → Option Value} {base : Heap} {k : Nat} {f : Addr} {name qual : Str} {params : Arguments} {body : List Stmt} {scope : Scope} {dV kV doc pm cdv ct oc : Value} {an od : Option Addr}
    {osl : Array (Option Value)} {N ps : List Str} {sp : Sp} (lk : K.lookup f = some ⟨oc, od, .func (PySem.W.fnOf name qual params body scope dV kV doc pm an cdv ct), osl⟩) (hcd : PySem.W.codeIn K cdv qual = true) (S : FnScope N ps scope)
    (len : ∀ vs H Q E, sp vs H Q E → vs.length = ps.length)
    (hbody : ∀ (A : Around) (outer : List Env) (s : Shared) (H : Hp) (vs : List V) (Q : VK) (E : XK), Room k (A.deeper (envOfC qual scope s.heap.objs.size f cdv)) → sp vs H Q E →
      ∃ t, PSs (cxOf CX P w K mg base N qual scope f cdv A outer s H E) body t ∧ t { nx := fun _ H' => Q .non H', rt := Q } (start N vs) H) :
    FnOk P w K mg base CX (k + 1) f (PySem.W.fnOf name qual params body scope dV kV doc pm an cdv ct) ps sp := by
  refine ⟨len, fun A outer s H args us vs Q E hr e0 hb r hsp => ?_⟩
  have hl := len _ _ _ _ hsp
  have KX : K.In s.heap := e0.mod.kin.keeps fun b o e => (e0.bs b o e).1
  have lim : s.heap.NoLimit := e0.mod.nolimit.keeps fun b o e => (e0.bs b o e).1
  have hkind : ∀ y ∈ ps.zip us, scope.names.lookup y.1 = some .local ∨ (scope.names.lookup y.1 = some .cell ∧ ((cellsFrom (s.heap.objs.size + 1) scope.names []).lookup y.1).isSome = true) := fun ⟨n, v⟩ hy => by
    rcases S.par n (List.of_mem_zip hy).1 with q | q
    · exact .inl q
    · exact .inr ⟨q, PySem.W.cellsFrom_some _ _ _ (.inl q)⟩
  refine codeAny_call_function hr.depth (KX _ _ lk) rfl S.co S.gen rfl (PySem.W.codeRec_of KX hcd) (hb _ _ _ _ ?_)
  refine wpAny_newFunctionEnv_cells S.kind hkind fun env he s1 x => ?_
  subst he
  refine ⟨lim.keeps x.toInCall.keep, codeAny_func ?_⟩
  obtain ⟨t, ht, hq⟩ := hbody A outer s H vs Q E (hr.deeper _) hsp
  have I : Inv (cxOf CX P w K mg base N qual scope f cdv A outer s H E) [] (start N vs) H s1 := inv_start S hr.hd e0 hl r x
  refine wpAny_mono (ht [] s1 (start N vs) H _ I hq) (fun fl s' hs => ?_) fun e s' hs => hs
  have fin : ∀ {σ' : St} {H' : Hp} {v : V} {u : Value}, Inv (cxOf CX P w K mg base N qual scope f cdv A outer s H E) [] σ' H' s' → RelV v u → Q v H' → CE outer P w H s Q u s' :=
    fun {σ' H' v u} J rv q => ⟨v, H', J.os, J.bare, J.base, J.hok, rv, q⟩
  cases fl with
  | ret u =>
    obtain ⟨v, σ', H', J, rv, q⟩ := hs
    exact fin J rv q
  | next =>
    obtain ⟨σ', H', J, q⟩ := hs
    exact fin (v := V.non) (u := Value.none) J rfl q
  | brk =>
    obtain ⟨_, _, _, q⟩ := hs
    exact False.elim q
  | cont =>
    obtain ⟨_, _, _, q⟩ := hs
    exact False.elim q
end L2

namespace L2
open PySem PySem.Spec PyProof.Rows
section
variable {X : Cx} {x : Str} {p pos : Pos} {e : Expr} {es : List Expr} {t : TA} {id T : String} {r : List V → Hp → VK → Prop}

def tCB (r : List V → Hp → VK → Prop) (t : TA) : TE := fun σ H Q => t σ H fun vs H1 => r vs H1 Q

theorem pe_callB (hc : CallR X (.builtin id) r) (hg : Gl X x) (hm : X.mg x = none) (hv : bootBuiltins x = some (.builtin id)) (ha : PA X (e :: es) t) (hn : x ≠ "__name__" := by decide) (hdb : (x == ("__debug__" : Str)) = false := by decide)
    (he : starEach (e :: es) X.env = (false, eval e X.env) :: starEach es X.env := by rfl) (hpl : (backTo pos (starEach es X.env)).any (·.1) = false := by rfl) : PE X (.Call (.Name x p) (e :: es) [] pos) (tCB r t) := by
  intro pins s σ H Q I h
  refine wpAny_Call_Name_kw (ld_blt I hg hm hv ?_ hn hdb)
  exact PyProof.Rows.callWith_builtin1 (thn (ha pos pins s σ H _ I h) fun us s1 ⟨vs, H1, I1, r1, q1⟩ => hc pins s1 σ H1 vs us Q I1 r1 q1) he hpl

theorem pe_callTy (hc : CallR X (.type T) r) (hg : Gl X x) (hm : X.mg x = none) (hv : bootBuiltins x = some (.type T)) (ha : PA X (e :: es) t) (hn : x ≠ "__name__" := by decide) (hdb : (x == ("__debug__" : Str)) = false := by decide)
    (he : starEach (e :: es) X.env = (false, eval e X.env) :: starEach es X.env := by rfl) (hpl : (backTo pos (starEach es X.env)).any (·.1) = false := by rfl) : PE X (.Call (.Name x p) (e :: es) [] pos) (tCB r t) := by
  intro pins s σ H Q I h
  refine wpAny_Call_Name_kw (ld_blt I hg hm hv ?_ hn hdb)
  exact PyProof.Rows.callWith_type1 (thn (ha pos pins s σ H _ I h) fun us s1 ⟨vs, H1, I1, r1, q1⟩ => hc pins s1 σ H1 vs us Q I1 r1 q1) he hpl

end
end L2

namespace HT
open PySem PyProof.Rows


section
open PySem.SeqAt
open PySem.AutoSeq1 (wpAny_loadPart')
open PySem.MeetsSeq PySem.MeetsSeq2 PySem.MeetsSeq3

end

section
variable {prog : Program} {w : World} {A : Around} {E : Value → Shared → Prop} {s : Shared}

def sIx (n d : Nat) : Option Int → Nat
  | none => d
  | some v => if v < 0 then (v + (n : Int)).toNat else min v.toNat n
theorem sIx_le (n d : Nat) (hd : d ≤ n) (o : Option Int) : sIx n d o ≤ n := by
  cases o with
  | none => exact hd
  | some v =>
    show (if v < 0 then (v + (n : Int)).toNat else min v.toNat n) ≤ n
    by_cases hv : v < 0
    · rw [if_pos hv]; omega
    · rw [if_neg hv]; exact Nat.min_le_right _ _
theorem clip_eq (v : Int) (n d : Nat) : (if v < 0 then max (v + (n : Int)) 0 else min v (n : Int)) = ((sIx n d (some v) : Nat) : Int) := by
  show (if v < 0 then max (v + (n : Int)) 0 else min v (n : Int)) = (((if v < 0 then (v + (n : Int)).toNat else min v.toNat n) : Nat) : Int)
  by_cases hv : v < 0
  · simp only [if_pos hv]; omega
  · simp only [if_neg hv]; omega
theorem adjust_gen (lo hi : Option Int) (n : Nat) : Builtin.Slice.sliceAdjust lo hi 1 (n : Int) = (((sIx n 0 lo : Nat) : Int), ((sIx n n hi : Nat) : Int)) := by
  have h1 : ¬ ((1 : Int) < 0) := by omega
  unfold Builtin.Slice.sliceAdjust
  simp only [h1, if_false]
  refine Prod.ext ?_ ?_
  · cases lo with
    | none => rfl
    | some v => exact clip_eq v n 0
  · cases hi with
    | none => rfl
    | some v => exact clip_eq v n n
theorem places_gen (i j : Nat) : Builtin.Slice.slicePlaces (i : Int) (j : Int) 1 = j - i := by
  unfold Builtin.Slice.slicePlaces
  have h1 : (1 : Int) > 0 := by omega
  simp only [h1, if_true, Int.ediv_one]
  split <;> omega
theorem slicePart_ {v : Value} {o : Option Int} {Q : Option Int → Shared → Prop} (p : IsPart v o) (h : Q o s) : wpAny (model prog w) A (Builtin.Slice.slicePartIndex v) Q E s := by
  cases p with
  | none => exact slicePart_none h
  | int i t => exact slicePart_int h
theorem sliceApplied_gen {sl : Addr} {vl vu : Value} {lo hi : Option Int} {n : Nat} {Q : Int × Int × Nat → Shared → Prop} (hs : s.heap.IsSliceOf sl vl vu .none) (pl : IsPart vl lo) (pu : IsPart vu hi)
    (h : Q (((sIx n 0 lo : Nat) : Int), 1, sIx n n hi - sIx n 0 lo) s) : wpAny (model prog w) A (Builtin.Slice.sliceApplied (.ref sl) (pure (n : Int))) Q E s := by
  obtain ⟨os, hos, hcs, hds⟩ := id hs
  unfold Builtin.Slice.sliceApplied Builtin.Slice.sliceFields
  refine wpAny_bind (wpAny_bind (wpAny_field hos hds (x := vl) rfl (wpAny_bind (wpAny_field hos hds (x := vu) rfl (wpAny_bind (wpAny_field hos hds (x := .none) rfl (wpAny_pure ?_)))))))
  refine wpAny_bind (slicePart_none ?_)
  show wpAny _ _ (if ((1 : Int) == 0) = true then _ else _) _ _ s
  rw [if_neg (by decide)]
  refine wpAny_bind (slicePart_ pl (wpAny_bind (slicePart_ pu (wpAny_bind (wpAny_pure ?_)))))
  show wpAny _ _ (match Builtin.Slice.sliceAdjust lo hi 1 (n : Int) with | (lo, hi) => pure (lo, (1 : Int), Builtin.Slice.slicePlaces lo hi 1)) _ _ s
  rw [adjust_gen lo hi n]
  show wpAny _ _ (pure (((sIx n 0 lo : Nat) : Int), (1 : Int), Builtin.Slice.slicePlaces ((sIx n 0 lo : Nat) : Int) ((sIx n n hi : Nat) : Int) 1)) _ _ s
  rw [places_gen]
  exact wpAny_pure h
theorem pick_gen (xs : Array Value) (i k : Nat) : ((List.range k).filterMap fun (m : Nat) => xs[((i : Int) + (m : Int) * 1).toNat]?).toArray = ((xs.toList.drop i).take k).toArray := by
  have e : (fun (m : Nat) => xs[((i : Int) + (m : Int) * 1).toNat]?) = fun m => xs[i + m]? := by
    funext m
    have : ((i : Int) + (m : Int) * 1).toNat = i + m := by omega
    rw [this]
  rw [e]
  have := pick_run xs i k
  rw [List.filterMap_map] at this
  have e2 : ((fun x => xs[x]?) ∘ fun x => i + x) = fun m => xs[i + m]? := rfl
  rw [e2] at this
  rw [this]

theorem getItem_tuple_cut {t sl : Addr} {items : Array Value} {vl vu : Value} {lo hi : Option Int} {Q : Value → Shared → Prop} (ht : IsTup s.heap t items) (hs : s.heap.IsSliceOf sl vl vu .none) (pl : IsPart vl lo) (pu : IsPart vu hi)
    (hw : ¬ (sIx items.size 0 lo = 0 ∧ sIx items.size items.size hi = items.size))
    (h : Q (.ref s.heap.objs.size) { s with heap := s.heap.push { cls := .type "tuple", data := .seq ((items.toList.drop (sIx items.size 0 lo)).take (sIx items.size items.size hi - sIx items.size 0 lo)).toArray } })
    (hsz : items.size ≤ sizeLine) : wpAny (model prog w) A (getItem (.ref t) (.ref sl)) Q E s := by
  have htake : sizeOk (.seq ((items.toList.drop (sIx items.size 0 lo)).take (sIx items.size items.size hi - sIx items.size 0 lo)).toArray) := by
    show ((items.toList.drop (sIx items.size 0 lo)).take (sIx items.size items.size hi - sIx items.size 0 lo)).toArray.size ≤ sizeLine
    rw [List.size_toArray, List.length_take, List.length_drop, Array.length_toList]
    omega
  have hj : sIx items.size items.size hi ≤ items.size := sIx_le _ _ (Nat.le_refl _) hi
  obtain ⟨os, hos, hcs, hds⟩ := id hs
  have hTs : s.TypeIs (.ref sl) "slice" := ⟨os, hos, hcs⟩
  unfold getItem
  try with_reducible refine wpAny_holding ?_
  first | refine wpAny_bind (wpAny_pure ?_) | skip
  refine wpAny_bind (wpAny_sequenceKey ht.typeIs (by decide) ?_)
  refine wpAny_bind (wpAny_callSpecial?_slot (name := Str.ofString "__getitem__") ht.typeIs PyProof.Rows.slot_tuple_getitem
    (wpAny_call_entry PyProof.Rows.slot_tuple_getitem ht.typeIs entry_tuple_getitem ?_ (args_tuple_getitem _ _)))
  show wpAny _ _ (Builtin.Tuple.tupleItemsOf (.ref t) >>= _) _ _ s
  refine wpAny_bind (tupleItemsOf_ ht ?_)
  refine wpAny_bind (wpAny_typeOf hTs ?_)
  rw [if_pos (by decide)]
  refine wpAny_bind (sliceApplied_gen hs pl pu ?_)
  have hno : ¬ ((((sIx items.size 0 lo : Nat) : Int) == 0 && (1 : Int) == 1 && (sIx items.size items.size hi - sIx items.size 0 lo) == items.size) = true) := by
    intro q
    rw [Bool.and_eq_true, Bool.and_eq_true] at q
    have q1 : ((sIx items.size 0 lo : Nat) : Int) = 0 := eq_of_beq q.1.1
    have q2 : sIx items.size items.size hi - sIx items.size 0 lo = items.size := eq_of_beq q.2
    exact hw ⟨by omega, by omega⟩
  show wpAny _ _ (if (((sIx items.size 0 lo : Nat) : Int) == 0 && (1 : Int) == 1 && (sIx items.size items.size hi - sIx items.size 0 lo) == items.size) = true then _ else _) _ _ s
  rw [if_neg hno, pick_gen]
  first
    | exact wpAny_bind (m := Builtin.Tuple.tupleExact _) (wpAny_newObj_type (wpAny_pure ⟨_, rfl, wpAny_pure h⟩) htake)
    | exact wpAny_bind (m := Builtin.Tuple.tupleExact _) (wpAny_newObj_type (wpAny_bind (wpAny_pure (wpAny_pure ⟨_, rfl, wpAny_pure h⟩))) htake)
    | exact wpAny_bind (wpAny_bind (m := Builtin.Tuple.tupleExact _) (wpAny_newObj_type (wpAny_pure (wpAny_pure ⟨_, rfl, wpAny_pure h⟩)) htake))
    | exact wpAny_bind (wpAny_bind (m := Builtin.Tuple.tupleExact _) (wpAny_newObj_type (wpAny_pure ⟨_, rfl, wpAny_pure h⟩) htake))
end
end HT

namespace L2
open PySem PySem.Spec PyProof.Rows


abbrev TO := St → Hp → (Option Int → Hp → Prop) → Prop

def PO (X : Cx) (e : Option Expr) (t : TO) : Prop :=
  ∀ (pins : List (Addr × Obj)) (s : Shared) (σ : St) (H : Hp) (Q : Option Int → Hp → Prop), Inv X pins σ H s → t σ H Q →
    wpAny (model X.prog X.w) X.A (evalPart e X.env) (fun u s' => ∃ o H', Inv X pins σ H' s' ∧ IsPart u o ∧ Q o H') X.xe s
def tNoPart : TO := fun _ H Q => Q none H
def tPart (t : TE) : TO := fun σ H Q => t σ H fun x H1 => ∃ i, x = .int i ∧ Q (some i) H1

section
variable {X : Cx} {e : Expr} {te : TE} {lo hi : Option Expr} {tl th : TO} {pos p2 : Pos}

theorem po_none : PO X none tNoPart := by
  intro pins s σ H Q I h
  rw [evalPart_none]
  exact wpAny_pure ⟨none, H, I, .none, h⟩
theorem po_some (h : PE X e te) : PO X (some e) (tPart te) := by
  intro pins s σ H Q I hw
  rw [evalPart_some]
  refine thn (h pins s σ H _ I hw) fun u s1 ⟨x, H1, I1, r1, q1⟩ => ?_
  obtain ⟨i, rfl, q⟩ := q1
  obtain ⟨t, rfl⟩ := r1
  exact ⟨some i, H1, I1, .int i t, q⟩


def SlR (X : Cx) (r : V → Option Int → Option Int → Hp → VK → Prop) : Prop :=
  ∀ (pins : List (Addr × Obj)) (s : Shared) (σ : St) (H : Hp) (x : V) (v vl vu : Value) (lo hi : Option Int) (sl : Addr) (Q : VK), Inv X pins σ H s → RelV x v → s.heap.IsSliceOf sl vl vu .none → IsPart vl lo → IsPart vu hi → r x lo hi H Q →
    ∃ T id, typeLookup (.type T) "__getitem__" = pure (some (.builtin id)) ∧ s.TypeIs v T ∧ wpAny (model X.prog X.w) X.A (getItem v (.ref sl)) (EP X pins σ Q) X.xe s
def tSl (r : V → Option Int → Option Int → Hp → VK → Prop) (te : TE) (tl th : TO) : TE := fun σ H Q => te σ H fun x H1 => tl σ H1 fun l H2 => th σ H2 fun u H3 => r x l u H3 Q

theorem pe_slice {r : V → Option Int → Option Int → Hp → VK → Prop} (hr : SlR X r) (he : PE X e te) (hl : PO X lo tl) (hu : PO X hi th) : PE X (.Subscript e (.Slice lo hi none p2) pos) (tSl r te tl th) := by
  intro pins s σ H Q I h
  refine Subscript_ (thn (he pins s σ H _ I h) fun v s1 ⟨x, H1, I1, r1, q1⟩ => ?_)
  refine wpAny_Slice (thn (hl pins s1 σ H1 _ I1 q1) fun vl s2 ⟨l, H2, I2, pl, q2⟩ => thn (hu pins s2 σ H2 _ I2 q2) fun vu s3 ⟨u, H3, I3, pu, q3⟩ => ?_)
  rw [evalPart_none]
  refine wpAny_pure ?_
  have I4 : Inv X pins σ H3 { s3 with heap := s3.heap.push { cls := .type "slice", data := .fields #[vl, vu, .none] } } := I3.kept (t' := s3.toks) fun b ob q => Heap.get?_push_of_some _ q
  obtain ⟨T, id, hT, ht, hg⟩ := hr pins { s3 with heap := s3.heap.push { cls := .type "slice", data := .fields #[vl, vu, .none] } } σ H3 x v vl vu l u s3.heap.objs.size Q I4 r1 (Heap.IsSliceOf.new ..) pl pu q3
  show wpAny (model X.prog X.w) X.A (subscriptTail e (.Slice lo hi none p2) v (.ref s3.heap.objs.size)) (EP X pins σ Q) X.xe { s3 with heap := s3.heap.push { cls := .type "slice", data := .fields #[vl, vu, .none] } }
  exact tail_any (ops := [.ref s3.heap.objs.size, v]) ht hT hg (by with_unfolding_all rfl)


def cutV (xs : List V) (lo hi : Option Int) : List V := (xs.drop (HT.sIx xs.length 0 lo)).take (HT.sIx xs.length xs.length hi - HT.sIx xs.length 0 lo)
theorem cutV_length (xs : List V) (lo hi : Option Int) : (cutV xs lo hi).length ≤ xs.length := by
  unfold cutV
  rw [List.length_take, List.length_drop]
  omega

def rSlT (K : PySem.W.Frag) : V → Option Int → Option Int → Hp → VK → Prop := fun x lo hi H Q => ∃ a xs, x = .ref a ∧ SqT K H a xs ∧
  ¬ (HT.sIx xs.length 0 lo = 0 ∧ HT.sIx xs.length xs.length hi = xs.length) ∧ ∀ p, H p = none → Q (.ref p) (upd H p (.tup (cutV xs lo hi)))
theorem sl_tup : SlR X (rSlT X.K) := by
  intro pins s σ H x v vl vu lo hi sl Q I rx hs pl pu h
  obtain ⟨a, xs, rfl, hx, hw, q⟩ := h
  cases rx
  obtain ⟨its, r, ht, hz⟩ := I.tuple hx
  have hlen : its.toArray.size = xs.length := by rw [List.size_toArray]; exact r.length.symm
  refine ⟨"tuple", _, PyProof.Rows.slot_tuple_getitem.lookup, ht.typeIs, ?_⟩
  refine HT.getItem_tuple_cut ht hs pl pu (by rw [hlen]; exact hw) ?_ (by rw [hlen]; exact hz)
  rw [hlen]
  refine ⟨.ref s.heap.objs.size, _, I.laid (t' := s.toks) (o := .tup (cutV xs lo hi)) (fun b ob q => Heap.get?_push_of_some _ q) (Nat.le_refl _) ?_, rfl, q _ (I.hok.fresh (Nat.le_refl _))⟩
  exact ⟨Nat.le_trans (cutV_length xs lo hi) hz, _, (r.drop (HT.sIx xs.length 0 lo)).take (HT.sIx xs.length xs.length hi - HT.sIx xs.length 0 lo), IsTup.new _ _⟩


end
end L2

namespace L2
open PySem PySem.Spec PyProof.Rows



def ixN (n : Nat) (i : Int) : Option Nat := if 0 ≤ i then (if i < n then some i.toNat else none) else if -(n : Int) ≤ i then some (i + n).toNat else none
def atI {α : Type} (xs : List α) (i : Int) : Option α := (ixN xs.length i).bind fun j => xs[j]?
theorem ixN_seq {n : Nat} {i : Int} {j : Nat} (h : ixN n i = some j) : seqIndex? i n = some j ∧ j < n ∧ -(n : Int) ≤ i ∧ i < n := by
  unfold ixN at h
  by_cases h0 : 0 ≤ i
  · rw [if_pos h0] at h
    by_cases h1 : i < n
    · rw [if_pos h1] at h
      have e : i.toNat = j := Option.some.inj h
      exact ⟨by rw [seqIndex_of h0 h1, e], by omega, by omega, h1⟩
    · rw [if_neg h1] at h; cases h
  · rw [if_neg h0] at h
    by_cases h1 : -(n : Int) ≤ i
    · rw [if_pos h1] at h
      have e : (i + n).toNat = j := Option.some.inj h
      exact ⟨by rw [seqIndex_neg (by omega) h1, e], by omega, h1, by omega⟩
    · rw [if_neg h1] at h; cases h
theorem atI_get {α : Type} {xs : List α} {i : Int} {v : α} (h : atI xs i = some v) : ∃ j, seqIndex? i xs.length = some j ∧ xs[j]? = some v ∧ j < xs.length ∧ -(xs.length : Int) ≤ i ∧ i < xs.length := by
  unfold atI at h
  cases e : ixN xs.length i with
  | none => rw [e] at h; cases h
  | some j =>
    rw [e] at h
    obtain ⟨h1, h2, h3, h4⟩ := ixN_seq e
    exact ⟨j, h1, h, h2, h3, h4⟩
theorem atI_nat {α : Type} {xs : List α} {j : Nat} {v : α} (h : xs[j]? = some v) : atI xs (j : Int) = some v := by
  have hj : j < xs.length := (List.getElem?_eq_some_iff.mp h).1
  have e : ixN xs.length (j : Int) = some j := by
    unfold ixN
    rw [if_pos (by omega), if_pos (by omega)]; simp
  unfold atI; rw [e]; exact h
def PlainIx (b : Expr) : Prop := ∀ o i, subscripted b false o i = operate [o, i] (getItem o i)

def IxR (X : Cx) (r : R2) : Prop :=
  ∀ (value slice : Expr) (pins : List (Addr × Obj)) (s : Shared) (σ : St) (H : Hp) (x y : V) (v u : Value) (Q : VK), Inv X pins σ H s → RelV x v → RelV y u → r x y H Q →
    subscripted slice false v u = operate [v, u] (getItem v u) → wpAny (model X.prog X.w) X.A (subscriptTail value slice v u) (EP X pins σ Q) X.xe s

def MtR (X : Cx) (id : String) (r : V → List V → Hp → VK → Prop) : Prop :=
  ∀ (pins : List (Addr × Obj)) (s : Shared) (σ : St) (H : Hp) (x : V) (xs : List V) (v : Value) (us : List Value) (Q : VK), Inv X pins σ H s → RelV x v → Vals xs us → r x xs H Q →
    wpAny (model X.prog X.w) X.A (call (.builtin id) (v :: us)) (EP X pins σ Q) X.xe s
section
variable {X : Cx} {a b : Expr} {ta tb : TE} {pos : Pos}
theorem pe_ix {r : R2} (hr : IxR X r) (ha : PE X a ta) (hb : PE X b tb) (hs : PlainIx b) : PE X (.Subscript a b pos) (tOp r ta tb) := by
  intro pins s σ H Q I h
  exact Subscript_ (binT ha hb I h fun v u s2 x y H2 I2 rx ry q => hr a b pins s2 σ H2 x y v u Q I2 rx ry q (hs _ _))

def rIxL (K : PySem.W.Frag) : R2 := fun x y H Q => ∃ p xs i v, x = .ref p ∧ y = .int i ∧ SqL K H p xs ∧ atI xs i = some v ∧ Q v H
def rIxT (K : PySem.W.Frag) : R2 := fun x y H Q => ∃ p xs i v, x = .ref p ∧ y = .int i ∧ SqT K H p xs ∧ atI xs i = some v ∧ Q v H
def rIxS : R2 := fun x y H Q => ∃ z i c, x = .str z ∧ y = .int i ∧ z.length ≤ sizeLine ∧ atI z.cps.toList i = some c ∧ Q (.str ⟨#[c]⟩) H
theorem ix_list : IxR X (rIxL X.K) := by
  intro value slice pins s σ H x y v u Q I rx ry h hs
  obtain ⟨p, xs, i, z, rfl, rfl, hq, he, q⟩ := h
  cases rx
  obtain ⟨t, rfl⟩ := ry
  obtain ⟨its, r, pl, hz⟩ := I.list hq
  obtain ⟨j, h1, h2, h3, h4, h5⟩ := atI_get he
  obtain ⟨w, ew, rw'⟩ := r.get h2
  have hl := r.length
  have hn := line63
  have fin : EP X pins σ Q w s := ⟨z, H, I, rw', q⟩
  by_cases h0 : 0 ≤ i
  · have hj : i.toNat = j := by
      rw [seqIndex_of h0 h5] at h1
      exact Option.some.inj h1
    exact item_listR pl.isList h0 (by omega) (by rw [hj]; simpa using ew) fin hs
  · have hj : (i + (its.toArray.size : Int)).toNat = j := by
      rw [seqIndex_neg (by omega) h4] at h1
      rw [List.size_toArray, ← hl]
      exact Option.some.inj h1
    exact subscriptTail_builtinR (x := w) pl.isList.typeIs slot_list_getitem.lookup
      (wpAny_getItem_list_neg (Q := fun r s' => r = w ∧ EP X pins σ Q r s') pl.isList (by omega) (by rw [List.size_toArray] <;> omega) (by omega) (by rw [hj]; simpa using ew) ⟨rfl, fin⟩) hs
theorem ix_tup : IxR X (rIxT X.K) := by
  intro value slice pins s σ H x y v u Q I rx ry h hs
  obtain ⟨p, xs, i, z, rfl, rfl, hq, he, q⟩ := h
  cases rx
  obtain ⟨t, rfl⟩ := ry
  obtain ⟨its, r, pl, hz⟩ := I.tuple hq
  obtain ⟨j, h1, h2, h3, h4, h5⟩ := atI_get he
  obtain ⟨w, ew, rw'⟩ := r.get h2
  have hl := r.length
  have hn := line63
  have fin : EP X pins σ Q w s := ⟨z, H, I, rw', q⟩
  exact subscriptTail_builtinR (x := w) pl.typeIs slot_tuple_getitem.lookup
    (getItem_tuple (j := j) (Q := fun r s' => r = w ∧ EP X pins σ Q r s') pl (by omega) (by omega) (by rw [List.size_toArray, ← hl]; exact h1) (by simpa using ew) ⟨rfl, fin⟩) hs
theorem ix_str : IxR X rIxS := by
  intro value slice pins s σ H x y v u Q I rx ry h hs
  obtain ⟨z, i, c, rfl, rfl, hz, he, q⟩ := h
  obtain ⟨t, rfl⟩ := rx
  obtain ⟨t', rfl⟩ := ry
  obtain ⟨j, h1, h2, h3, h4, h5⟩ := atI_get he
  have hl : z.cps.toList.length = z.length := by simp [Str.length]
  rw [hl] at h1 h4 h5
  have hn := line63
  exact tail_any (typeIs_str s z t) slot_str_getitem.lookup (getItem_str (c := c) (by
    have e1 : decide (i < -(2 ^ 63 : Int)) = false := decide_eq_false (by omega)
    have e2 : decide (i ≥ 2 ^ 63) = false := decide_eq_false (by omega)
    rw [e1, e2, Bool.or_false]) (by rw [h1]; simpa using h2) ⟨.str ⟨#[c]⟩, H, I.tok _, ⟨_, rfl⟩, q⟩) hs

theorem mapSeq_set (its : List Value) (n j : Nat) (u : Value) : Obj.mapSeq (·.setIfInBounds j u) { cls := .type "list", data := .seq its.toArray n } = { cls := .type "list", data := .seq (its.set j u).toArray n } := by
  simp [Obj.mapSeq]
theorem Inv.lst {pins : List (Addr × Obj)} {σ : St} {H : Hp} {s : Shared} {p : Addr} {xs : List V} (I : Inv X pins σ H s) (h : H p = some (.lst xs)) :
    ∃ (its : List Value) (n : Nat), Vals xs its ∧ s.heap.get? p = some { cls := .type "list", data := .seq its.toArray n } ∧ xs.length ≤ sizeLine := by
  obtain ⟨z, its, n, r, e⟩ := I.hok p _ h
  exact ⟨its, n, r, e, z⟩

theorem Inv.lstUpd {pins : List (Addr × Obj)} {σ : St} {H : Hp} {s : Shared} {p : Addr} {xs ys : List V} {its its' : List Value} {n n' : Nat} {f : Obj → Obj} (I : Inv X pins σ H s) (h : H p = some (.lst xs))
    (ho : s.heap.get? p = some { cls := .type "list", data := .seq its.toArray n }) (hf : f { cls := .type "list", data := .seq its.toArray n } = { cls := .type "list", data := .seq its'.toArray n' }) (r : Vals ys its') (hz : ys.length ≤ sizeLine) (t : Nat) :
    Inv X pins σ (upd H p (.lst ys)) { s with heap := s.heap.update p f, toks := t } := by
  have e : (s.heap.update p f).get? p = some { cls := .type "list", data := .seq its'.toArray n' } := by
    rw [Heap.get?_update_self f ho (by rw [hf] <;> rfl), hf]
  refine I.write (x := p) (e := p) (by rw [h]; trivial) (.inl rfl) (fun b u hb q => (Heap.get?_update_other _ _ (Ne.symm hb)).trans q) ⟨_, e⟩ ?_
  exact ⟨hz, its', n', r, e⟩
def rSetL : V → V → V → Hp → (Hp → Prop) → Prop := fun o i v H Q => ∃ p xs k j, o = .ref p ∧ i = .int k ∧ H p = some (.lst xs) ∧ ixN xs.length k = some j ∧ Q (upd H p (.lst (xs.set j v)))
theorem set_list : PSet X rSetL := by
  intro pins s σ H o i v ov iv u Q I ro ri rv h
  obtain ⟨p, xs, k, j, rfl, rfl, hp, hj, q⟩ := h
  cases ro
  obtain ⟨t, rfl⟩ := ri
  obtain ⟨its, n, r, ho, hz⟩ := I.lst hp
  obtain ⟨h1, h2, h3, h4⟩ := ixN_seq hj
  have hl := r.length
  have hn := line63
  have I' : Inv X pins σ (upd H p (.lst (xs.set j v))) { s with heap := s.heap.update p (Obj.mapSeq (·.setIfInBounds j u)) } :=
    I.lstUpd hp ho (mapSeq_set its n j u) (r.set rv j) (by rw [List.length_set]; exact hz) s.toks
  by_cases h0 : 0 ≤ k
  · have hk : k.toNat = j := by
      rw [seqIndex_of h0 h4] at h1
      exact Option.some.inj h1
    exact PySem.W.ki_setAt ho h0 (by omega) (by rw [List.size_toArray, ← hl]; exact h4) (by rw [hk]; exact ⟨_, I', q⟩)
  · have hk : (k + (its.toArray.size : Int)).toNat = j := by
      rw [seqIndex_neg (by omega) h3] at h1
      rw [List.size_toArray, ← hl]
      exact Option.some.inj h1
    exact PySem.W.ki_setBack ho (by omega) (by rw [List.size_toArray, ← hl]; exact h3) (by omega) (by rw [hk]; exact ⟨_, I', q⟩)


theorem slice_bounds (lo hi : Option Int) (n : Nat) : (sliceBounds lo hi none n).1 = ((HT.sIx n 0 lo : Nat) : Int) ∧ (sliceBounds lo hi none n).2.1 = ((HT.sIx n n hi : Nat) : Int) ∧ (sliceBounds lo hi none n).2.2 = 1 := by
  refine ⟨?_, ?_, rfl⟩
  · cases lo with
    | none => simp [sliceBounds, HT.sIx]
    | some i =>
      simp only [sliceBounds, HT.sIx, Option.getD_none, show (1 : Int) > 0 by decide, if_true]
      by_cases h : i < 0
      · simp only [h, if_true] <;> omega
      · simp only [h, if_false] <;> omega
  · cases hi with
    | none => simp [sliceBounds, HT.sIx]
    | some i =>
      simp only [sliceBounds, HT.sIx, Option.getD_none, show (1 : Int) > 0 by decide, if_true]
      by_cases h : i < 0
      · simp only [h, if_true] <;> omega
      · simp only [h, if_false] <;> omega
theorem slicePick_cut (its : List Value) (lo hi : Option Int) : slicePick its.toArray lo hi none = ((its.drop (HT.sIx its.length 0 lo)).take (HT.sIx its.length its.length hi - HT.sIx its.length 0 lo)).toArray := by
  obtain ⟨h1, h2, h3⟩ := slice_bounds lo hi its.toArray.size
  unfold slicePick
  rw [h1, h2, h3]
  simp only [sliceRange_one, pick_run, List.size_toArray] <;> rfl

def rSlL (K : PySem.W.Frag) : V → Option Int → Option Int → Hp → VK → Prop := fun x lo hi H Q => ∃ a xs, x = .ref a ∧ SqL K H a xs ∧ ∀ p, H p = none → Q (.ref p) (upd H p (.lst (cutV xs lo hi)))
theorem sl_list : SlR X (rSlL X.K) := by
  intro pins s σ H x v vl vu lo hi sl Q I rx hs pl pu h
  obtain ⟨a, xs, rfl, hx, q⟩ := h
  cases rx
  obtain ⟨its, r, ht, hz⟩ := I.list hx
  have hlen := r.length
  refine ⟨"list", _, slot_list_getitem.lookup, ht.isList.typeIs, ?_⟩
  refine wpAny_getItem_list_slice ht.isList hs pl pu .none (by simp) ?_ (by rw [List.size_toArray] <;> omega)
  rw [slicePick_cut, ← hlen]
  refine ⟨.ref s.heap.objs.size, _, I.laid (t' := s.toks) (o := .lst (cutV xs lo hi)) (fun b ob q => Heap.get?_push_of_some _ q) (Nat.le_refl _) ?_, rfl, q _ (I.hok.fresh (Nat.le_refl _))⟩
  exact ⟨Nat.le_trans (cutV_length xs lo hi) hz, _, 0, (r.drop (HT.sIx xs.length 0 lo)).take (HT.sIx xs.length xs.length hi - HT.sIx xs.length 0 lo), Heap.get?_push_size _ rfl⟩


def flatV : V → Bool
  | .non => true
  | .bl _ => true
  | .int _ => true
  | .str _ => true
  | _ => false

def eqV : V → V → Bool
  | .non, .non => true
  | .bl a, .bl b => a == b
  | .bl a, .int b => (if a then 1 else 0) == b
  | .int a, .bl b => a == (if b then 1 else 0)
  | .int a, .int b => a == b
  | .str a, .str b => a == b
  | _, _ => false
theorem eqAt_V {A : Around} {s : Shared} {y x : V} {u v : Value} (ry : RelV y u) (rx : RelV x v) (fy : flatV y = true) (fx : flatV x = true) : SeqAt.EqAt A s u v (eqV y x) := by
  cases y with
  | non =>
    cases ry
    cases x with
    | non => cases rx; exact SeqAt.EqAt.same _
    | bl b => cases rx; exact SeqAt.EqAt.none_bool b
    | int b => obtain ⟨t, rfl⟩ := rx; exact SeqAt.EqAt.none_int b t
    | str b => obtain ⟨t, rfl⟩ := rx; exact SeqAt.EqAt.none_str b t
    | _ => exact absurd (show false = true from fx) Bool.false_ne_true
  | bl a =>
    cases ry
    cases x with
    | non => cases rx; exact SeqAt.EqAt.bool_none a
    | bl b => cases rx; exact SeqAt.EqAt.bool_bool a b
    | int b => obtain ⟨t, rfl⟩ := rx; exact SeqAt.EqAt.bool_int a b t
    | str b => obtain ⟨t, rfl⟩ := rx; exact SeqAt.EqAt.bool_str a b t
    | _ => exact absurd (show false = true from fx) Bool.false_ne_true
  | int a =>
    obtain ⟨t', rfl⟩ := ry
    cases x with
    | non => cases rx; exact SeqAt.EqAt.int_none a t'
    | bl b => cases rx; exact SeqAt.EqAt.int_bool a t' b
    | int b => obtain ⟨t, rfl⟩ := rx; exact SeqAt.EqAt.int_int a t' b t
    | str b => obtain ⟨t, rfl⟩ := rx; exact SeqAt.EqAt.int_str a t' b t
    | _ => exact absurd (show false = true from fx) Bool.false_ne_true
  | str a =>
    obtain ⟨t', rfl⟩ := ry
    cases x with
    | non => cases rx; exact SeqAt.EqAt.str_none a t'
    | bl b => cases rx; exact SeqAt.EqAt.str_bool a t' b
    | int b => obtain ⟨t, rfl⟩ := rx; exact SeqAt.EqAt.str_int a t' b t
    | str b => obtain ⟨t, rfl⟩ := rx; exact SeqAt.EqAt.str_str a t' b t
    | _ => exact absurd (show false = true from fx) Bool.false_ne_true
  | _ => exact absurd (show false = true from fy) Bool.false_ne_true

theorem call_list_of : CallR X (.type "list") (fun xs H Q => ∃ p ys, xs = [.ref p] ∧ (SqL X.K H p ys ∨ SqT X.K H p ys) ∧ ∀ l, H l = none → Q (.ref l) (upd H l (.lst ys))) := by
  intro pins s σ H xs us Q I r h
  obtain ⟨p, ys, rfl, hq, q⟩ := h
  obtain ⟨u, rfl, rx⟩ := vals1 r
  cases rx
  have fin : ∀ (its : List Value), Vals ys its → ys.length ≤ sizeLine → ∀ (h' : Heap) (c' : Nat), (∀ b o', s.heap.get? b = some o' → h'.get? b = some o') →
      h'.get? s.heap.objs.size = some { cls := .type "list", dict := none, data := .seq its.toArray c', slots := #[] } → EP X pins σ Q (.ref s.heap.objs.size) { s with heap := h' } := fun its r' hz h' c' kp e =>
    ⟨.ref s.heap.objs.size, _, I.laid (t' := s.toks) kp (Nat.le_refl _) (show ObjOk X.prog X.w _ h' _ (.lst ys) from ⟨hz, its, c', r', e⟩), rfl, q _ (I.hok.fresh (Nat.le_refl _))⟩
  rcases hq with hq | hq
  · obtain ⟨its, r', pl, hz⟩ := I.list hq
    have hlen := r'.length
    obtain ⟨o, ho, hc, n, hd⟩ := pl.isList
    exact call_list_seq p (.inl rfl) ho hc hd (fun h' c' kp e => fin its r' hz h' c' kp e) (by simp only [List.size_toArray] <;> omega)
  · obtain ⟨its, r', pl, hz⟩ := I.tuple hq
    have hlen := r'.length
    obtain ⟨o, ho, hc, n, hd⟩ := pl
    exact call_list_seq p (.inr rfl) ho hc hd (fun h' c' kp e => fin its r' hz h' c' kp e) (by simp only [List.size_toArray] <;> omega)
theorem call_tuple_of : CallR X (.type "tuple") (fun xs H Q => ∃ p ys, xs = [.ref p] ∧ ((SqL X.K H p ys ∧ ∀ l, H l = none → Q (.ref l) (upd H l (.tup ys))) ∨ (SqT X.K H p ys ∧ Q (.ref p) H))) := by
  intro pins s σ H xs us Q I r h
  obtain ⟨p, ys, rfl, h⟩ := h
  obtain ⟨u, rfl, rx⟩ := vals1 r
  cases rx
  rcases h with ⟨hq, q⟩ | ⟨hq, q⟩
  · obtain ⟨its, r', pl, hz⟩ := I.list hq
    have hlen := r'.length
    refine call_tuple_list pl.isList (fun h' kp => ?_) (by simp only [List.size_toArray] <;> omega)
    have I1 : Inv X pins σ H { s with heap := h' } := I.kept (t' := s.toks) kp
    have I2 : Inv X pins σ (upd H h'.objs.size (.tup ys)) { s with heap := h'.push { cls := .type "tuple", data := .seq its.toArray } } :=
      I1.laid (t' := s.toks) (fun b o e => Heap.get?_push_of_some _ e) (Nat.le_refl _) (show ObjOk X.prog X.w _ _ _ (.tup ys) from ⟨hz, its, r', IsTup.new _ _⟩)
    exact ⟨.ref h'.objs.size, _, I2, rfl, q _ (I1.hok.fresh (Nat.le_refl _))⟩
  · obtain ⟨its, r', pl, hz⟩ := I.tuple hq
    exact call_tuple_same pl ⟨.ref p, H, I, rfl, q⟩



def tyV (K : PySem.W.Frag) (T : String) (x : V) (H : Hp) : Prop := match x with
  | .str _ => T = "str"
  | .int _ => T = "int"
  | .ref p => (T = "list" ∧ ∃ xs, SqL K H p xs) ∨ (T = "tuple" ∧ ∃ o, K.lookup p = some o ∧ o.cls = .type "tuple" ∧ o.dict = none) ∨
      (T = "dict" ∧ ((∃ kvs, H p = some (.dK kvs)) ∨ ∃ kvs, H p = some (.dT kvs))) ∨ (T = "set" ∧ ∃ S n, H p = some (.set S n))
  | _ => False
theorem tyV_is {pins : List (Addr × Obj)} {σ : St} {H : Hp} {s : Shared} {T : String} {x : V} {v : Value} (I : Inv X pins σ H s) (r : RelV x v) (ty : tyV X.K T x H) :
    s.TypeIs v T ∧ ∀ a, v = .ref a → ∃ ob, s.heap.get? a = some ob ∧ ob.dict = none := by
  cases x with
  | str z =>
    obtain ⟨t, rfl⟩ := r
    cases (show T = "str" from ty)
    exact ⟨typeIs_str s z t, fun _ e => nomatch e⟩
  | int i =>
    obtain ⟨t, rfl⟩ := r
    cases (show T = "int" from ty)
    exact ⟨typeIs_int s i t, fun _ e => nomatch e⟩
  | ref p =>
    cases r
    rcases ty with ⟨rfl, xs, hq⟩ | ⟨rfl, o, hk, hc, hd⟩ | ⟨rfl, hk⟩ | ⟨rfl, S, n, hk⟩
    · obtain ⟨its, _, pl, _⟩ := I.list hq
      refine ⟨pl.isList.typeIs, fun a e => ?_⟩
      cases e
      obtain ⟨o, n, e, c, hd, _⟩ := pl
      exact ⟨o, e, hd⟩
    · refine ⟨⟨o, I.kIn p o hk, hc⟩, fun a e => ?_⟩
      cases e
      exact ⟨o, I.kIn _ o hk, hd⟩
    · have z : ∃ o, s.heap.get? p = some o ∧ o.ExactDict := by
        rcases hk with ⟨kvs, hk⟩ | ⟨kvs, hk⟩
        · obtain ⟨_, _, _, _, o, _, _, e, ex, _⟩ := I.hok p _ hk
          exact ⟨o, e, ex⟩
        · obtain ⟨_, _, _, _, o, _, _, e, ex, _⟩ := I.hok p _ hk
          exact ⟨o, e, ex⟩
      obtain ⟨o, e, ex⟩ := z
      refine ⟨⟨o, e, ex.1⟩, fun a e2 => ?_⟩
      cases e2
      exact ⟨o, e, ex.2.1⟩
    · obtain ⟨o, _, _, _, e, ex, _⟩ := I.hok p _ hk
      refine ⟨⟨o, e, ex.1⟩, fun a e2 => ?_⟩
      cases e2
      exact ⟨o, e, ex.2.1⟩
  | _ => exact False.elim ty
def tBM (K : PySem.W.Frag) (T : String) (r : V → List V → Hp → VK → Prop) (to : TE) (t : TA) : TE := fun σ H Q => to σ H fun x H1 => tyV K T x H1 ∧ t σ H1 fun xs H2 => r x xs H2 Q
variable {o e : Expr} {es : List Expr} {to : TE} {t : TA} {name : Str} {apos cpos : Pos} {T id : String} {r : V → List V → Hp → VK → Prop}
theorem pe_bm (pa : PlainAttrs T) (slot : Slot T name id) (hty : typeOf (.builtin id) = pure (.type "method_descriptor")) (hm : MtR X id r) (ho : PE X o to) (ha : PA X (e :: es) t)
    (hbase : attributeBase o name X.env (eval o X.env) = eval o X.env := by rfl)
    (hfew : ((backTo cpos (starEach (e :: es) X.env)).all (fun x => !x.1) && (backToKw cpos (keywordEach [] X.env)).all (fun x => x.1.isSome)
      && decide ((e :: es).length + ([] : List Keyword).length + (if ([] : List Keyword).isEmpty then 0 else 1) < 30)) = true := by rfl)
    (hline : (apos.endLine == cpos.line) = true := by rfl) (hs : starEach (e :: es) X.env = (false, eval e X.env) :: starEach es X.env := by rfl) (hplain : (backTo cpos (starEach es X.env)).any (·.1) = false := by rfl) :
    PE X (.Call (.Attribute o name apos) (e :: es) [] cpos) (tBM X.K T r to t) := by
  intro pins s σ H Q I h
  refine wpAny_Call_method_late hbase hfew hline rfl (thn (ho pins s σ H _ I h) fun v s1 ⟨x, H1, I1, r1, ty, q1⟩ => ?_)
  obtain ⟨h1, h2⟩ := tyV_is I1 r1 ty
  refine ⟨T, id, pa, slot, hty, h1, h2, ?_⟩
  have hA := ha cpos pins s1 σ H1 _ I1 q1
  rw [hs] at hA ⊢
  refine Calls.callWith_builtin (by show (false || (backTo cpos (starEach es X.env)).any (·.1)) = false; rw [hplain] <;> rfl) (Calls.evalArgs_plain ?_)
  exact thn hA fun us s2 ⟨vs, H2, I2, r2, q2⟩ => hm pins s2 σ H2 x vs v us Q I2 r1 r2 q2

end
end L2

namespace L2
open PySem PySem.Spec PyProof.Rows

def MtM (X : Cx) (id : String) (r : V → List V → Hp → VK → Prop) : Prop :=
  ∀ (pins : List (Addr × Obj)) (s : Shared) (σ : St) (H : Hp) (x : V) (xs : List V) (v : Value) (us : List Value) (Q : VK), Inv X pins σ H s → RelV x v → Vals xs us → r x xs H Q →
    wpAny (model X.prog X.w) X.A (call (.builtin id) (v :: us)) (EP X pins σ Q) X.xe s


theorem Vals.one : ∀ {x : V} {us : List Value}, Vals [x] us → ∃ u, us = [u] ∧ RelV x u
  | _, _, .cons r .nil => ⟨_, rfl, r⟩
section
variable {X : Cx} {pins : List (Addr × Obj)} {σ : St} {H : Hp} {s : Shared} {l b : Addr} {xs ys zs : List V}


theorem Inv.lset {its its' : List Value} {n : Nat} {f : Array Value → Array Value} {t' : Nat} (I : Inv X pins σ H s) (hH : H l = some (.lst xs))
    (e : s.heap.get? l = some { cls := .type "list", data := .seq its.toArray n }) (hf : f its.toArray = its'.toArray) (hv : Vals ys its') (hz : ys.length ≤ sizeLine) :
    Inv X pins σ (upd H l (.lst ys)) { s with heap := s.heap.update l (Obj.mapSeq f), toks := t' } := by
  have q := PySem.IsL.update e f
  rw [hf] at q
  refine I.write (x := l) (e := l) (by rw [hH]; exact trivial) (.inl rfl) (fun b' u hb hu => (Heap.get?_update_other s.heap (Obj.mapSeq f) (Ne.symm hb)).trans hu) ⟨_, q⟩ ?_
  exact ⟨hz, its', _, hv, q⟩
theorem Inv.lnew {its : List Value} {t' : Nat} (I : Inv X pins σ H s) (hv : Vals ys its) (hz : ys.length ≤ sizeLine) :
    Inv X pins σ (upd H s.heap.objs.size (.lst ys)) { s with heap := s.heap.push { cls := .type "list", data := .seq its.toArray }, toks := t' } :=
  I.laid (fun _ _ q => Heap.get?_push_of_some _ q) (Nat.le_refl _) ⟨hz, its, 0, hv, Heap.get?_push_size _ rfl⟩
theorem Inv.fresh (I : Inv X pins σ H s) : H s.heap.objs.size = none := I.hok.fresh (Nat.le_refl _)
theorem Inv.lstM (I : Inv X pins σ H s) (hH : H l = some (.lst xs)) : xs.length ≤ sizeLine ∧ ∃ (its : List Value) (n : Nat), Vals xs its ∧ xs.length = its.length ∧ s.heap.get? l = some { cls := .type "list", data := .seq its.toArray n } := by
  obtain ⟨z, its, n, r, e⟩ := I.hok l _ hH
  exact ⟨z, its, n, r, r.length, e⟩

end

section
variable {X : Cx}


def rAppend : V → List V → Hp → VK → Prop := fun x vs H Q => ∃ l xs y, x = .ref l ∧ vs = [y] ∧ H l = some (.lst xs) ∧ xs.length < sizeLine ∧ Q .non (upd H l (.lst (xs ++ [y])))
theorem mt_append : MtM X "list.append" rAppend := by
  intro pins s σ H x vs v us Q I rx rv h
  obtain ⟨l, xs, y, rfl, rfl, hH, hz, q⟩ := h
  cases rx
  obtain ⟨u, rfl, ru⟩ := rv.one
  obtain ⟨z, its, n, r, hl, e⟩ := I.lstM hH
  refine call_meets F.slot_list_append ⟨_, e, rfl⟩ F.entry_list_append (F.args_list_append_2 _ _) (PySem.list_append l its.toArray n u (by rw [List.size_toArray]; omega)) ⟨e, ?_⟩
  refine ⟨.non, _, I.lset (its' := its ++ [u]) hH e (by simp) (r.append (.cons ru .nil)) ?_, rfl, q⟩
  rw [List.length_append, List.length_singleton]
  omega

def rCat : R2 := fun x y H Q => ∃ l b xs zs, x = .ref l ∧ y = .ref b ∧ H l = some (.lst xs) ∧ H b = some (.lst zs) ∧ xs.length + zs.length ≤ sizeLine ∧ ∀ p, H p = none → Q (.ref p) (upd H p (.lst (xs ++ zs)))
theorem op_cat : OpR X (binaryOp .Add) rCat := by
  intro pins s σ H x y v u Q I rx ry h
  obtain ⟨l, b, xs, zs, rfl, rfl, hH, hB, hz, q⟩ := h
  cases rx
  cases ry
  obtain ⟨z, its, n, r, hl, e⟩ := I.lstM hH
  obtain ⟨z2, its2, n2, r2, hl2, e2⟩ := I.lstM hB
  refine PySem.P.add_list e e2 ?_ (by rw [List.size_toArray, List.size_toArray]; omega)
  have ea : its.toArray ++ its2.toArray = (its ++ its2).toArray := by simp
  rw [ea]
  exact ⟨.ref _, _, I.lnew (t' := s.toks) (r.append r2) (by rw [List.length_append]; omega), rfl, q _ I.fresh⟩

end


section
variable {prog : Program} {w : World} {A : Around} {E : Value → Shared → Prop} {s : Shared}
set_option maxRecDepth 100000 in

end

section
variable {X : Cx}

end
end L2

namespace Att
open PySem PySem.W PySem.Calls PyProof.Rows


theorem ints_of_wellAll {P : Params} {h : Heap} : ∀ (ns : List Int) (vs : List Value), WellAll P h vs (ns.map WData.int) → IntsAre vs ns := by
  intro ns
  induction ns with
  | nil =>
    intro vs w
    rw [List.map_nil] at w
    cases w
    exact .nil
  | cons n ns ih =>
    intro vs w
    rw [List.map_cons] at w
    cases w with
    | cons a b =>
      cases a
      exact .cons _ _ (ih _ b)

theorem script_of {l : OpenLaw} {n : Nat} (hn : l.most = some n) {P : Params} {h : Heap} {args : List WData} {vals : List Value}
    (hpre : l.row.toRowW.claim.pre args = true) (hwl : WellAll P h vals args) :
    ∃ a vs ns, vals = [Value.ref a] ∧ args = [WData.list (ns.map WData.int)] ∧ h.get? a = some { cls := .type "list", data := .seq vs.toArray } ∧ IntsAre vs ns ∧ ns.length ≤ n := by
  have hsh : WShape.hasAll [] args [.list .int] = true := (pre_splitW hpre).1
  have hc : l.pre.holds [] { args := args } = true := (pre_splitW hpre).2
  obtain ⟨d, r, rfl, h1, h2⟩ := hasAllW_cons hsh
  obtain rfl := hasAllW_nil h2
  obtain ⟨xs, rfl, h3⟩ := hasW_list h1
  obtain ⟨ns, rfl⟩ := items_int h3
  have hlen : ns.length ≤ n := by
    unfold OpenLaw.pre at hc
    have h4 : (WTm.not (.lt (.lit (.int (n : Int))) (.len (.arg 0)))).holds [] { args := [.list (ns.map .int)] } = true := by
      have h4 := (holds_andW hc).1
      rw [hn] at h4
      exact h4
    have h5 := condW_of h4 (w_not (w_lt w_lit (w_len_list (w_arg rfl))))
    rw [List.length_map] at h5
    refine Nat.le_of_not_lt fun q => ?_
    have q' : (n : Int) < ((ns.length : Nat) : Int) := by omega
    first
      | (rw [decide_eq_true q'] at h5; exact absurd h5 (by decide))
      | (simp at h5; omega)
  cases hwl with
  | cons w1 w2 =>
    cases w2
    cases w1 with
    | list ho hall => exact ⟨_, _, ns, rfl, rfl, ho, ints_of_wellAll ns _ hall, hlen⟩

theorem post_true (l : OpenLaw) (args : List WData) : l.row.toRowW.claim.post args (.bool true) args = true :=
  postW_of (r := l.row.toRowW) (X := (true == true))
    (show WShape.has [] (.bool true) .bool = true by first | rfl | decide | simp [WShape.has, WShape.arms, WShape.armsAll])
    (show (WTm.eq .res (.lit (.bool true))).value [] { args := args, res := some (.bool true), after := args } = some (.bool (true == true)) from w_eq_bool (w_res rfl) w_lit) rfl


theorem attach_call {l : OpenLaw} {n : Nat} {q : Program} {loose : List Str} {XP : (Str → Option Value) → Heap → Prop} {YP : World → Heap → Prop} {d : DefRec}
    (hn : l.most = some n) (hdf : d.params.defaults = [])
    (call : ∀ (w : World) (s₀ s₁ : Shared) (mg mb : Str → Option Value) (fa : Addr) (o : Obj) (pm cd doc : Value) (a : Addr) (vs : List Value) (ns : List Int),
      Ground q loose [] XP w s₀ mg mb s₁.heap → YP w s₁.heap →
      s₁.heap.get? fa = some o → o.data = .func (docDef d.name d.params d.body d.scope pm cd doc) → s₁.heap.CodeRec cd d.name → mg d.name = some (.ref fa) →
      s₁.heap.get? a = some { cls := .type "list", data := .seq vs.toArray } → IntsAre vs ns → ns.length ≤ n → s₁.gens = #[] →
      codeAny (model l.prog w) callerA (.call (.ref fa) ⟨[.ref a], []⟩) (fun r s' => r = .ok (.ret (.bool true)) ∧ OldK s₁.heap s'.heap ∧ s'.os = s₁.os ∧ AllBare s'.gens) s₁) :
    WalkO q loose XP YP l.row.toRowW d [] (fun f vs => PySem.call f vs) := by
  intro w s₀ s₁ mg mb G Y fa o pm cd doc dV kV ho hd hcd hD hmg hg args vals as hpre hlay hrd hwl hlo
  obtain rfl : dV = .none := Dflts.none hD hdf
  obtain rfl : kV = .none := Dflts.noKw hD
  obtain ⟨a, vs, ns, rfl, rfl, hobj, hints, hlen⟩ := script_of hn hpre hwl
  refine enter_call (codeAny_mono (call w s₀ s₁ mg mb fa o pm cd doc a vs ns G Y ho (fd_plain hd) hcd hmg hobj hints hlen hg) fun r s' hq => ?_)
  obtain ⟨rfl, h2, h3, h4⟩ := hq
  exact ⟨.inl ⟨.bool true, .bool true, [], rfl, fun _ => rfl, .bool true, post_true l _, fun _ => ⟨List.Pairwise.nil, fun _ hm => (nomatch hm)⟩⟩, h2, h3, h4⟩


section
variable {prog : Program} {w : World} {A : Around} {E : Value → Shared → Prop} {s : Shared} {K : Frag}


end
end Att

namespace L2
open PySem PySem.Spec PyProof.Rows

theorem vals_ints : ∀ {vs : List Value} {ns : List Int}, IntsAre vs ns → Vals (ns.map V.int) vs
  | _, _, .nil => .nil
  | _, _, .cons n t h => .cons ⟨t, rfl⟩ (vals_ints h)


def Only (H : Hp) : Prop := ∀ b, H b = none ∨ ∃ o xs, H b = some (.frz o (.lst xs))


theorem law_call {P : Program} {w : World} {K : PySem.W.Frag} {mg mb : Str → Option Value} {CX : CXT} {k : Nat} {fa a : Addr} {fd : FuncData} {x : Str} {sp : Sp} {s₁ : Shared} {vs : List Value} {ns : List Int}
    (KX : K.In s₁.heap) (hns : s₁.heap.Ns mainGlobals mg) (hb : s₁.heap.Ns builtinsNs mb) (hbb : ∀ x : Str, x ≠ "__name__" → mb x = bootBuiltins x) (hlim : s₁.heap.NoLimit) (hg : s₁.gens = #[])
    (ha : s₁.heap.get? a = some { cls := .type "list", data := .seq vs.toArray }) (hi : IntsAre vs ns) (hl : ns.length ≤ sizeLine) (hr : Room k callerA)
    (F : ∀ base : Heap, K.In base → base.Ns mainGlobals mg → FnOk P w K mg base CX k fa fd [x] sp) (hbind : ∀ (s : Shared) (u : Value), BindsTo s fd ⟨[u], []⟩ [(x, u)])
    (hsp : ∀ H : Hp, Only H → SqL K H a (ns.map V.int) → sp [.ref a] H (fun v _ => v = .bl true) fun _ _ _ => False)
    (hCX : ∀ H e s', CX [] H s₁ (fun _ _ _ => False) e s' → False) :
    codeAny (model P w) callerA (.call (.ref fa) ⟨[.ref a], []⟩) (fun r s' => r = .ok (.ret (.bool true)) ∧ OldK s₁.heap s'.heap ∧ s'.os = s₁.os ∧ AllBare s'.gens) s₁ := by
  have rv := vals_ints hi
  have lenV := hi.length
  -- from an abstract heap in which nothing but the script may be tracked
  have core : ∀ H : Hp, Only H → SqL K H a (ns.map V.int) → HOk P w H s₁.heap → (∀ b, H b ≠ none → b = a) → (H a ≠ none → K.lookup a = none) →
      codeAny (model P w) callerA (.call (.ref fa) ⟨[.ref a], []⟩) (fun r s' => r = .ok (.ret (.bool true)) ∧ OldK s₁.heap s'.heap ∧ s'.os = s₁.os ∧ AllBare s'.gens) s₁ := by
    intro H hO hS hok hA hK
    have base_of : ∀ {b : Addr} {o : Obj}, s₁.heap.get? b = some o → H b = none → (hidT s₁.heap H).get? b = some o := fun e n => hidT_get e n
    have noA : ∀ {b : Addr} {o : Obj} {es : Array DictEntry} {ep : Nat}, s₁.heap.get? b = some o → o.data = .dict es ep → H b = none := fun {b o es ep} e d => by
      cases q : H b with
      | none => rfl
      | some u =>
        have e' : b = a := hA b (by rw [q]; simp)
        subst e'
        rw [ha] at e; cases e
        have d' : Data.seq vs.toArray _ = Data.dict es ep := d
        cases d'
    have nsK : ∀ {b : Addr} {m : Str → Option Value}, s₁.heap.Ns b m → (hidT s₁.heap H).Ns b m := fun {b m} ⟨o, es, ep, e, d, r⟩ => ⟨o, es, ep, base_of e (noA e d), d, r⟩
    have hKb : K.In (hidT s₁.heap H) := fun b o e => base_of (KX b o e) (by
      cases q : H b with
      | none => rfl
      | some u =>
        have e' : b = a := hA b (by rw [q]; simp)
        subst e'
        rw [hK (by rw [q]; simp)] at e; cases e)
    have hM : Mod K mg (hidT s₁.heap H) := ⟨hKb, nsK hns, ⟨mb, nsK hb, hbb⟩, let ⟨mc, h1, h2⟩ := hlim; ⟨mc, nsK h1, h2⟩⟩
    have e0 : Env0 P w K mg (hidT s₁.heap H) callerA [] s₁ H := ⟨rfl, hM, fun b o e => of_hidT e, Nat.le_of_eq (hidT_size _ _), trivial, fun b hb => absurd (show b ∈ ([] : List Addr) from hb) (by simp), hok, .of_eq hg⟩
    refine codeAny_mono ((F _ hKb (nsK hns)).run callerA [] s₁ H ⟨[.ref a], []⟩ [.ref a] [.ref a] _ _ hr e0 (hbind s₁ (.ref a)) (.cons rfl .nil) (hsp H hO hS)) fun r s' h => ?_
    cases r with
    | error e => exact (hCX H e s' h).elim
    | ok fl =>
      cases fl with
      | next => exact False.elim h
      | brk => exact False.elim h
      | cont => exact False.elim h
      | ret u =>
        obtain ⟨v, H', os, bare, un, hok', r', q⟩ := h
        have q' : v = .bl true := q
        subst q'
        obtain rfl : u = Value.bool true := r'
        refine ⟨rfl, OldK.of_keep fun b o e => ?_, os, bare⟩
        cases q : H b with
        | none => exact un.keep b o e q (by intro z; exact absurd (show b ∈ ([] : List Addr) from z) (by simp)) (by simp)
        | some u =>
          rcases hO b with z | ⟨ob, xs, z⟩
          · rw [q] at z; cases z
          · have z2 := un.frzs b ob _ z
            obtain ⟨e1, _⟩ := hok b _ z
            obtain ⟨e2, _⟩ := hok' b _ z2
            rw [e] at e1; cases e1
            exact e2
  cases hk : K.lookup a with
  | some o =>
    -- the script is one of the module's own objects
    have e := KX a o hk
    rw [ha] at e
    cases e
    refine core (fun _ => none) (fun _ => .inl rfl) (.inr ⟨_, vs.toArray, _, hk, rfl, rfl, rfl, by rw [List.size_toArray, lenV]; exact hl, by simpa using rv⟩) (fun b u z => by have z' : (none : Option HO) = some u := z; cases z') (fun b z => absurd rfl z) fun z => absurd rfl z
  | none =>
    refine core (fun b => if b = a then some (.frz { cls := .type "list", data := .seq vs.toArray } (.lst (ns.map V.int))) else none) (fun b => ?_) (.inl (.inr ⟨{ cls := .type "list", data := .seq vs.toArray }, if_pos rfl⟩)) (fun b u z => ?_) (fun b z => ?_) fun _ => hk
    · by_cases hb : b = a
      · exact .inr ⟨_, _, if_pos hb⟩
      · exact .inl (if_neg hb)
    · by_cases hb : b = a
      · have z' := (if_pos hb).symm.trans z
        cases z'
        subst hb
        exact ⟨ha, by rw [List.length_map]; exact hl, vs, _, rv, ha⟩
      · have z' := (if_neg hb).symm.trans z
        cases z'
    · by_cases hb : b = a
      · exact hb
      · exact absurd (if_neg hb) z
end L2

namespace L2
open PySem PySem.Spec PyProof.Rows

theorem walk_of {l : PySem.W.OpenLaw} {n k : Nat} {q : Program} {loose : List Str} {XP : (Str → Option Value) → Heap → Prop} {YP : World → Heap → Prop} {d : DefRec} {K : Params → PySem.W.Frag} {CX : World → CXT} {sp : World → Sp} {x : Str}
    (hn : l.most = some n) (hn2 : n ≤ sizeLine) (hdf : d.params.defaults = []) (hr : Room k callerA)
    (hY : ∀ (w : World) (h : Heap), YP w h → (K w.params).In h)
    (F : ∀ (w : World) (mg : Str → Option Value) (fa : Addr) (h : Heap), (K w.params).In h → h.Ns mainGlobals mg → mg d.name = some (.ref fa) →
      ∃ fd : FuncData, (∀ (s : Shared) (u : Value), BindsTo s fd ⟨[u], []⟩ [(x, u)]) ∧
        ∀ base : Heap, (K w.params).In base → base.Ns mainGlobals mg → FnOk l.prog w (K w.params) mg base (CX w) k fa fd [x] (sp w))
    (hsp : ∀ (w : World) (H : Hp) (a : Addr) (ns : List Int), ns.length ≤ n → Only H → SqL (K w.params) H a (ns.map V.int) → sp w [.ref a] H (fun v _ => v = .bl true) fun _ _ _ => False)
    (hCX : ∀ (w : World) (H : Hp) (s : Shared) (e : Value) (s' : Shared), CX w [] H s (fun _ _ _ => False) e s' → False) :
    PySem.W.WalkO q loose XP YP l.row.toRowW d [] (fun f vs => PySem.call f vs) := by
  refine Att.attach_call hn hdf fun w s₀ s₁ mg mb fa o pm cd doc a vs ns G Y ho hd hcd hmg hobj hints hlen hg => ?_
  have KX := hY w _ Y
  obtain ⟨fd, hb, hF⟩ := F w mg fa _ KX G.T.g hmg
  exact law_call KX G.T.g G.T.b G.T.builtins G.T.nolimit hg hobj hints (Nat.le_trans hlen hn2) hr hF hb (fun H hO hS => hsp w H a ns hlen hO hS) fun H e s' => hCX w H s₁ e s'

end L2




namespace L2
open PySem PySem.Spec PyProof.Rows



def defArgs (s : Stmt) : Arguments := match s with
  | .FunctionDef _ a _ _ _ _ _ _ _ _ => a
  | _ => { posonlyargs := [], args := [], vararg := none, kwonlyargs := [], kw_defaults := [], kwarg := none, defaults := [] }
def defBody (s : Stmt) : List Stmt := match s with
  | .FunctionDef _ _ b _ _ _ _ _ _ _ => b
  | _ => []
def defScope (s : Stmt) : Scope := match s with
  | .FunctionDef _ _ _ _ _ _ sc _ _ _ => sc
  | _ => { kind := .function, names := [], isGenerator := false, isCoroutine := false }


abbrev CX0 : CXT := fun _ _ _ _ _ _ => False
abbrev E0 : XK := fun _ _ _ => False
section
variable {P : Program} {w : World} {K : PySem.W.Frag} {mg : Str → Option Value} {base : Heap}

end
theorem small1000 {n : Nat} (h : n ≤ 1000) : n < sizeLine := Nat.lt_of_le_of_lt h (by decide)


section
variable {X : Cx}
theorem pv (i : Nat) {x : Str} {pos : Pos} (hN : X.N[i]? = some x := by rfl) (hv : Vis X.env.scope x := by first | exact Or.inl rfl | exact Or.inr (Or.inl rfl) | exact Or.inr (Or.inr rfl)) (hd : (x == ("__debug__" : Str)) = false := by decide)
    (hcd : (x == ("__classdict__" : Str)) = false := by decide) : PE X (.Name x pos) (tVar i) := pe_var hN hv hd hcd
end


theorem iteF {A B : Prop} (h : B) : if false = true then A else B := by
  rw [if_neg Bool.false_ne_true]
  exact h
theorem iteT {A B : Prop} (h : A) : if true = true then A else B := by
  rw [if_pos rfl]
  exact h
theorem ite2 {c A B : Prop} [Decidable c] (h1 : c → A) (h2 : ¬ c → B) : if c then A else B := by
  by_cases h : c
  · rw [if_pos h]
    exact h1 h
  · rw [if_neg h]
    exact h2 h
theorem iteNS {c A B : Prop} [Decidable c] (hc : c) (h : B) : if (!decide c) = true then A else B := by
  rw [decide_eq_true hc]
  exact iteF h



def Same (H H' : Hp) : Prop := ∀ b o, H b = some o → H' b = some o
theorem Same.refl (H : Hp) : Same H H := fun _ _ h => h
theorem Same.trans {H H1 H2 : Hp} (a : Same H H1) (b : Same H1 H2) : Same H H2 := fun c o h => b c o (a c o h)
theorem Same.seq {K : PySem.W.Frag} {H H' : Hp} {a : Addr} {xs : List V} (e : Same H H') (h : SqL K H a xs) : SqL K H' a xs := by
  rcases h with (h | ⟨o, h⟩) | h
  · exact .inl (.inl (e _ _ h))
  · exact .inl (.inr ⟨o, e _ _ h⟩)
  · exact .inr h

end L2
namespace L2
open PySem PySem.Spec PyProof.Rows


section
variable {κ : Type} [DecidableEq κ]
end



section
variable {P : Program} {w : World} {H : Hp} {h : Heap} {a : Addr}
end


section
variable {X : Cx} {pins : List (Addr × Obj)} {σ : St} {H : Hp} {s : Shared} {a : Addr} {y v : V} {u r : Value} {o : Option V} {A : Around} {E : Value → Shared → Prop}

end

section
variable {X : Cx} {pins : List (Addr × Obj)} {σ : St} {H : Hp} {s : Shared} {a : Addr} {kvs : List (Key × V)} {k : Key} {u : Value} {A : Around} {E : Value → Shared → Prop}

end




section
variable {X : Cx} {o i e value : Expr} {pos pos' tpos : Pos} {td ty tv : TE}
end



section
variable {X : Cx} {pos : Pos}
end


section
variable {X : Cx} {pins : List (Addr × Obj)} {σ : St} {H : Hp} {s : Shared} {a : Addr} {y d : V} {u r : Value} {o : Option V} {A : Around} {E : Value → Shared → Prop}

end

section
variable {X : Cx} {o e f : Expr} {apos cpos : Pos} {td ty tx : TE}
end


section
variable {X : Cx} {pins : List (Addr × Obj)} {σ : St} {H : Hp} {s : Shared} {a : Addr} {kvs : List (Key × V)} {A : Around} {E : Value → Shared → Prop}
end


section
variable {X : Cx} {pins : List (Addr × Obj)} {σ : St} {H : Hp} {s : Shared} {a : Addr} {y : V} {u : Value} {A : Around} {E : Value → Shared → Prop}

end
end L2
namespace L2
open PySem PySem.Spec PyProof.Rows
section
variable {κ : Type} [DecidableEq κ]
end
end L2

set_option maxHeartbeats 4000000
namespace L2
open PySem PySem.Spec PyProof.Rows


def Itg (n : Nat) (g : Nat → V) : It := ⟨fun i _ => i < n, fun i H x H' => H' = H ∧ x = g i, fun i _ => n ≤ i⟩
theorem turn_walk {P : Program} {w : World} {K : PySem.W.Frag} {tg : Expr} {it : Addr} {n : Nat} {Pn : Nat → Value → Prop} {St : Nat → Heap → Prop} {g : Nat → V}
    (W : ∀ A : Around, A.handled = none → Walks P w A it [it] [it] n Pn St) (hv : ∀ i v, Pn i v → RelV (g i) v)
    (hk : ∀ i h h', St i h → (∀ o, h.get? it = some o → h'.get? it = some o) → St i h')
    (hself : ∀ (A : Around) (i : Nat) (s : Shared) (Q : Value → Shared → Prop) (E : Value → Shared → Prop), St i s.heap → Q (.ref it) s → wpAny (model P w) A (pyIter (.ref it)) Q E s)
    (ho : ∀ i h, St i h → ∃ o c vs, h.get? it = some o ∧ o.cls = .type c ∧ o.data = .fields vs ∧
      ["enumerate", "zip", "dict_itemiterator", "dict_reverseitemiterator", "odict_iterator", "itertools.zip_longest", "itertools.pairwise"].contains c = false) :
    Turn P w K tg (Itg n g) [it] it (fun i h => i ≤ n ∧ St i h) where
  mem := by simp
  obj := fun i h st b hb => by
    have e : b = it := by simpa using hb
    subst e
    obtain ⟨o, c, vs, e, _, d, _⟩ := ho i h st.2
    exact ⟨o, e, fun v z => by rw [d] at z; cases z⟩
  keep := fun i h h' st k => ⟨st.1, hk i h h' st.2 fun o e => k it (by simp) o e⟩
  item := by
    intro X hP hw hK hc i pins s σ H E I hf st hg
    subst hP hw hK
    obtain ⟨f0, f1, f2, f3, f4, f5⟩ := hf it (by simp)
    refine (W X.A (I.ok.hd hc)).item i s _ _ hg st.2 fun v h' tk hP st' kk => ?_
    have I1 : Inv X pins σ H { s with heap := h', toks := tk } := I.turned (fun b o hb e => kk b o (by simpa using hb) e) f0 f1 f3 f4 f5
    obtain ⟨o, c, vs, e, hcls, d, hn⟩ := ho _ _ st'
    exact ⟨v, rfl, go_of (s := { s with heap := h', toks := tk }) e hcls d hn ⟨g i, H, I1, hv i v hP, ⟨rfl, rfl⟩, ⟨hg, st'⟩, fun b hb => (hf b hb).1⟩⟩
  done := by
    intro X hP hw hK hc i pins s σ H E I hf st hg
    subst hP hw hK
    obtain ⟨f0, f1, f2, f3, f4, f5⟩ := hf it (by simp)
    have hg' : n ≤ i := hg
    have e : i = n := Nat.le_antisymm st.1 hg'
    subst e
    exact (W X.A (I.ok.hd hc)).done s _ _ st.2 fun h' tk kk => ⟨rfl, I.turned (fun b o hb e => kk b o (by simpa using hb) e) f0 f1 f3 f4 f5⟩
  self := fun A i s Q E st h => hself A i s Q E st.2 h
theorem for_gen {n : Nat} {g' : Nat → V} {g : TG} {tb : TS} {D : Ends} {σ : St} {H : Hp} (Pv : Nat → St → Hp → Prop) (h0 : Pv 0 σ H)
    (hs : ∀ i σ H, i < n → Pv i σ H → g (g' i) σ H fun σ2 H2 => tb { D with nx := Pv (i + 1), ct := Pv (i + 1), bk := D.nx } σ2 H2) (hd : ∀ σ H, Pv n σ H → D.nx σ H) :
    ∃ W : Nat → Nat → St → Hp → Prop, (∃ m, W 0 m σ H) ∧ ∀ i m σ H, W i m σ H →
      ((Itg n g').stop i H ∧ D.nx σ H) ∨ ((Itg n g').go i H ∧ ∃ N : St → Hp → Prop, (∀ σ' H', N σ' H' → ∃ m', m' < m ∧ W (i + 1) m' σ' H') ∧ ∀ x H', (Itg n g').yld i H x H' → g x σ H' fun σ2 H2 => tb { D with nx := N, ct := N, bk := D.nx } σ2 H2) := by
  refine ⟨fun i m σ H => m = n - i ∧ i ≤ n ∧ Pv i σ H, ⟨n, by simp, Nat.zero_le _, h0⟩, ?_⟩
  rintro i m σ H ⟨rfl, hi, p⟩
  by_cases hlt : i < n
  · refine .inr ⟨hlt, Pv (i + 1), fun σ' H' p' => ⟨n - (i + 1), by omega, rfl, hlt, p'⟩, fun x H' y => ?_⟩
    obtain ⟨e, y⟩ := y
    subst e y
    exact hs i σ _ hlt p
  · have e : i = n := by omega
    subst e
    exact .inl ⟨Nat.le_refl _, hd σ H p⟩

section
variable {X : Cx} {tg : Expr}

def sgn (z : Str) (i : Nat) : Str := ⟨#[z.cps.getD i 0]⟩
def iStr (tl : TE) : TI := fun σ H R => tl σ H fun x H1 => ∃ z, x = .str z ∧ R (Itg z.length fun i => .str (sgn z i)) H1
theorem sgn_of {z : Str} {i : Nat} {v : Value} (h : SignAt z i v) : RelV (.str (sgn z i)) v := by
  obtain ⟨c, u, hc, rfl⟩ := h
  refine ⟨u, ?_⟩
  have e : z.cps.getD i 0 = c := by simp [Array.getD_eq_getD_getElem?, hc]
  unfold sgn
  rw [e]
theorem pi_str {l : Expr} {tl : TE} (hl : PE X l tl) : PI X tg l (iStr tl) := by
  intro pins s σ H R I h
  refine thn (hl pins s σ H _ I h) fun v s1 ⟨x, H1, I1, r1, q1⟩ => ?_
  obtain ⟨z, e, q⟩ := q1
  subst e
  obtain ⟨t, rfl⟩ := r1
  have fp : ∀ b ∈ [s1.heap.objs.size], FpOk X pins H1 b := fun b hb => by
    have e : b = s1.heap.objs.size := by simpa using hb
    subst e
    exact I1.fpOk (Nat.le_refl _) (I1.hok.fresh (Nat.le_refl _))
  cases ha : z.cps.all (· < 128)
  · refine wpAny_pyIter_wide ha ?_
    refine ⟨s1.heap.objs.size, [s1.heap.objs.size], _, _, H1, rfl, I1.kept (t' := s1.toks) fun b o e => Heap.get?_push_of_some _ e,
      turn_walk (St := fun i h => h.IsStrIter s1.heap.objs.size "str_iterator" z t i) (fun A hA => Walks.strWide hA _ z t) (fun i v => sgn_of) (fun i h h' st k => let ⟨o, ho, r⟩ := st; ⟨o, k o ho, r⟩) (fun A i s Q E st hQ => wpAny_pyIter_striter_wide st hQ)
        (fun i h st => let ⟨o, ho, hc, hd⟩ := st; ⟨o, _, _, ho, hc, hd, by decide⟩), ⟨Nat.zero_le _, ⟨_, Heap.get?_push_size _ rfl, rfl, rfl⟩⟩, fp, q⟩
  · refine wpAny_pyIter_ascii ha ?_
    refine ⟨s1.heap.objs.size, [s1.heap.objs.size], _, _, H1, rfl, I1.kept (t' := s1.toks) fun b o e => Heap.get?_push_of_some _ e,
      turn_walk (St := fun i h => h.IsStrIter s1.heap.objs.size "str_ascii_iterator" z t i) (fun A hA => Walks.strAscii hA _ z t) (fun i v => sgn_of) (fun i h h' st k => let ⟨o, ho, r⟩ := st; ⟨o, k o ho, r⟩) (fun A i s Q E st hQ => wpAny_pyIter_striter_ascii st hQ)
        (fun i h st => let ⟨o, ho, hc, hd⟩ := st; ⟨o, _, _, ho, hc, hd, by decide⟩), ⟨Nat.zero_le _, ⟨_, Heap.get?_push_size _ rfl, rfl, rfl⟩⟩, fp, q⟩


def iRng3 (ta : TA) : TI := fun σ H R => ta σ H fun vs H1 => ∃ (i j c : Int) (n : Nat), vs = [.int i, .int j, .int c] ∧ c ≠ 0 ∧ (c < 1073741824 ∧ -1073741824 < c) ∧ Builtin.Range.small i j c = true ∧ Builtin.Range.rangeSize i j c = (n : Int) ∧ R (Itg n fun k => .int (i + (k : Int) * c)) H1
theorem pi_range3 {a b d : Expr} {ta : TA} {p pos : Pos} (hg : Gl X "range") (hm : X.mg "range" = none) (ha : PA X [a, b, d] ta)
    (hs : starEach [a, b, d] X.env = (false, eval a X.env) :: starEach [b, d] X.env := by rfl) (hpl : (backTo pos (starEach [b, d] X.env)).any (·.1) = false := by rfl) :
    PI X tg (.Call (.Name "range" p) [a, b, d] [] pos) (iRng3 ta) := by
  intro pins s σ H R I h
  refine Call_ (ld_blt I hg hm boot_range (PyProof.Rows.callWith_type1 (thn (ha pos pins s σ H _ I h) fun us s1 ⟨vs, H1, I1, r1, q1⟩ => ?_) hs hpl))
  obtain ⟨i, j, c, n, e, hc, hc2, hsm, hsz, q⟩ := q1
  subst e
  cases r1 with
  | cons r rr =>
    cases rr with
    | cons r' rr =>
      cases rr with
      | cons r'' rr =>
        cases rr
        obtain ⟨t, rfl⟩ := r
        obtain ⟨t', rfl⟩ := r'
        obtain ⟨t'', rfl⟩ := r''
        refine call_range_3 hc ?_ (.inl (PyProof.noPylong_small (by omega)))
        refine wpAny_pyIter_range (IsRange.new ..) hsm ?_
        have I2 : Inv X pins σ H1 { s1 with heap := s1.heap.push { cls := .type "range", data := .fields #[.int i t, .int j t', .int c t''] } } := I1.kept (t' := s1.toks) fun b o e => Heap.get?_push_of_some _ e
        refine ⟨(s1.heap.push { cls := .type "range", data := .fields #[.int i t, .int j t', .int c t''] }).objs.size, [(s1.heap.push { cls := .type "range", data := .fields #[.int i t, .int j t', .int c t''] }).objs.size], _, _, H1, rfl,
          I2.kept (t' := s1.toks) fun b o e => Heap.get?_push_of_some _ e,
          turn_walk (g := fun k => .int (i + (k : Int) * c)) (fun A hA => Walks.range hA _ i c n) (fun k v h => let ⟨t, e⟩ := h; ⟨t, e⟩) (fun i h h' st k => k _ st) (fun A i s Q E st hQ => wpAny_pyIter_rangeiter st hQ)
            (fun i h st => ⟨_, _, _, st, rfl, rfl, by decide⟩), ⟨Nat.zero_le _, ?_⟩, fun b hb => ?_, q⟩
        · have e1 : i + ((0 : Nat) : Int) * c = i := by simp
          have e2 : (n : Int) - ((0 : Nat) : Int) = Builtin.Range.rangeSize i j c := by rw [hsz]; simp
          show IsRangeIter _ _ (i + ((0 : Nat) : Int) * c) ((n : Int) - ((0 : Nat) : Int)) c
          rw [e1, e2]
          exact Heap.get?_push_size _ rfl
        · have e : b = (s1.heap.push { cls := .type "range", data := .fields #[.int i t, .int j t', .int c t''] }).objs.size := by simpa using hb
          subst e
          exact I2.fpOk (Nat.le_refl _) (I2.hok.fresh (Nat.le_refl _))
end


section
variable {X : Cx}
theorem call_int_str : CallR X (.type "int") (fun xs H Q => ∃ z n, xs = [.str z] ∧ PySem.intText? z = some n ∧ z.length ≤ 640 ∧ Q (.int n) H) := by
  intro pins s σ H xs us Q I r h
  obtain ⟨z, n, rfl, hn, hl, q⟩ := h
  obtain ⟨u, rfl, t, rfl⟩ := vals1 r
  exact PySem.W.KIN.call_text hn hl ⟨.int n, H, I.tok _, ⟨_, rfl⟩, q⟩
theorem strsAre_of : ∀ {ys : List Str} {us : List Value}, Vals (ys.map V.str) us → StrsAre us ys
  | [], us, r => by rw [List.map_nil] at r; cases r; exact .nil
  | y :: ys, us, r => by
    rw [List.map_cons] at r
    cases r with
    | cons r1 r2 =>
      obtain ⟨t, e⟩ := r1
      subst e
      exact .cons y t (strsAre_of r2)
def rJoin (K : PySem.W.Frag) : V → List V → Hp → VK → Prop := fun x vs H Q => ∃ z a ys, x = .str z ∧ vs = [.ref a] ∧ SqL K H a (ys.map V.str) ∧ (ys.map (·.length)).sum + ys.length * z.length ≤ 16777216 ∧ Q (.str (Txt.join z ys)) H
theorem mt_join : MtR X "str.join" (rJoin X.K) := by
  intro pins s σ H x vs v us Q I rx rv h
  obtain ⟨z, a, ys, rfl, rfl, hS, hz, q⟩ := h
  obtain ⟨t, rfl⟩ := rx
  obtain ⟨u, rfl, ru⟩ := rv.one
  cases ru
  obtain ⟨its, r, pl, _⟩ := I.list hS
  exact join_list pl.isList (by simpa using strsAre_of r) hz fun t' k => ⟨.str _, H, I.tok _, ⟨_, rfl⟩, q⟩
def rSlS : V → Option Int → Option Int → Hp → VK → Prop := fun x lo hi H Q => ∃ z, x = .str z ∧ z.length ≤ sizeLine ∧ Q (.str (Txt.slice z lo hi)) H
theorem sl_str : SlR X rSlS := by
  intro pins s σ H x v vl vu lo hi sl Q I rx hs pl pu h
  obtain ⟨z, rfl, hz, q⟩ := h
  obtain ⟨t, rfl⟩ := rx
  refine ⟨"str", _, F.slot_str_getitem.lookup, typeIs_str _ _ _, ?_⟩
  obtain ⟨o, e1, e2, e3⟩ := hs
  have fin : ∀ (z' : Str) (t' : Tok) (k : Nat), z' = Txt.slice z lo hi → EP X pins σ Q (.str z' t') { s with toks := k } := fun z' t' k e => by
    subst e
    exact ⟨.str _, H, I.tok _, ⟨_, rfl⟩, q⟩
  cases pl with
  | none =>
    cases pu with
    | none => exact wpAny_getItem_str_slice (l := none) (u := none) (st := none) ⟨o, e1, e2, e3⟩ rfl (post_val_or_str ⟨Nat.le_trans (Txt.slice_le z _ _) hz, fun t' k => fin _ t' k rfl⟩)
    | int j uj => exact wpAny_getItem_str_slice (l := none) (u := some (j, uj)) (st := none) ⟨o, e1, e2, e3⟩ rfl (post_val_or_str ⟨Nat.le_trans (Txt.slice_le z _ _) hz, fun t' k => fin _ t' k rfl⟩)
  | int i ui =>
    cases pu with
    | none => exact wpAny_getItem_str_slice (l := some (i, ui)) (u := none) (st := none) ⟨o, e1, e2, e3⟩ rfl (post_val_or_str ⟨Nat.le_trans (Txt.slice_le z _ _) hz, fun t' k => fin _ t' k rfl⟩)
    | int j uj => exact wpAny_getItem_str_slice (l := some (i, ui)) (u := some (j, uj)) (st := none) ⟨o, e1, e2, e3⟩ rfl (post_val_or_str ⟨Nat.le_trans (Txt.slice_le z _ _) hz, fun t' k => fin _ t' k rfl⟩)


def rIsiT (K : PySem.W.Frag) (T : String) : List V → Hp → VK → Prop := fun xs H Q => ∃ x t b, xs = [x, .ty T] ∧ TyOf K H x t ∧ PySem.W.kitOne K t (.type T) = some b ∧ Q (.bl b) H
theorem call_isiT (T : String) : CallR X (.builtin "isinstance") (rIsiT X.K T) := by
  intro pins s σ H xs us Q I r h
  obtain ⟨x, t, b, rfl, ty, hk, q⟩ := h
  obtain ⟨u, c, rfl, rx, rc⟩ := vals2 r
  cases (show c = .type T from rc)
  exact isinst_ok I rx ty hk fun tk => ⟨.bl b, H, I.tok _, rfl, q⟩
end
end L2

namespace L2
open PySem PySem.Spec PyProof.Rows


section
variable {prog : Program} {w : World} {A : Around} {R : Result → Shared → Prop} {s : Shared}
theorem compLoop_go {elt target iter : Expr} {scope : Scope} {pos : Pos} {it acc : Value} {env : Env} (I : Nat → Shared → Prop)
    (turn : ∀ n s, I n s → wpAny (model prog w) A (pyNext it) (fun r s1 => match r with
      | none => R (.ok .next) s1
      | some v => wpAny (model prog w) A (letOwnedTupleGo target it v) (fun _ s2 => wpAny (model prog w) A (assign target env v) (fun _ s3 =>
          wpAny (model prog w) A (eval elt env) (fun x s4 =>
            wpAny (model prog w) A (call (.builtin "list.append") [acc, x]) (fun _ s5 => ∃ m, m < n ∧ I m s5) (notedBy (model prog w) A env fun e s' => R (.error e) s') s4) (notedBy (model prog w) A env fun e s' => R (.error e) s') s3)
          (notedBy (model prog w) A env fun e s' => R (.error e) s') s2) (notedBy (model prog w) A env fun e s' => R (.error e) s') s1) (notedBy (model prog w) A env fun e s' => R (.error e) s') s)
    (n : Nat) (h : I n s) :
    codeAny (model prog w) A (.compLoop (.ListComp elt [⟨target, iter, [], 0⟩] scope pos) 0 it acc env) R s := by
  refine codeAny_loop rfl I (fun n s hI => ?_) n h
  show wpAny _ A ((compTurn (.ListComp elt [⟨target, iter, [], 0⟩] scope pos) 0 it acc env).onRaise (fun x => do noteFrame x env; theTreesLotGoes x)) _ _ s
  refine wpAny_noted ?_
  rw [compTurn_list]
  refine wpAny_bind (wpAny_standAt (wpAny_bind (wpAny_mono (turn n s hI) (fun r s1 h1 => ?_) fun _ _ h' => h')))
  cases r with
  | none => exact wpAny_pure h1
  | some v =>
    refine wpAny_bind (wpAny_mono h1 (fun _ s2 h2 => wpAny_bind (wpAny_mono h2 (fun _ s3 h3 => ?_) fun _ _ h' => h')) fun _ _ h' => h')
    refine wpAny_bind (wpAny_tests_nil ?_)
    exact wpAny_bind (wpAny_bind (wpAny_mono h3 (fun x s4 h4 => wpAny_bind (wpAny_mono h4 (fun _ s5 h5 => wpAny_pure (wpAny_pure ⟨rfl, h5⟩)) fun _ _ h' => h')) fun _ _ h' => h'))
theorem compLoop_if {elt target iter c : Expr} {scope : Scope} {pos : Pos} {it acc : Value} {env : Env} (I : Nat → Shared → Prop)
    (turn : ∀ n s, I n s → wpAny (model prog w) A (pyNext it) (fun r s1 => match r with
      | none => R (.ok .next) s1
      | some v => wpAny (model prog w) A (letOwnedTupleGo target it v) (fun _ s2 => wpAny (model prog w) A (assign target env v) (fun _ s3 =>
          wpAny (model prog w) A (isTrue c env (eval c env)) (fun ok s4 => if ok = true then
          wpAny (model prog w) A (eval elt env) (fun x s4 =>
            wpAny (model prog w) A (call (.builtin "list.append") [acc, x]) (fun _ s5 => ∃ m, m < n ∧ I m s5) (notedBy (model prog w) A env fun e s' => R (.error e) s') s4) (notedBy (model prog w) A env fun e s' => R (.error e) s') s4
          else ∃ m, m < n ∧ I m s4) (notedBy (model prog w) A env fun e s' => R (.error e) s') s3)
          (notedBy (model prog w) A env fun e s' => R (.error e) s') s2) (notedBy (model prog w) A env fun e s' => R (.error e) s') s1) (notedBy (model prog w) A env fun e s' => R (.error e) s') s)
    (n : Nat) (h : I n s) :
    codeAny (model prog w) A (.compLoop (.ListComp elt [⟨target, iter, [c], 0⟩] scope pos) 0 it acc env) R s := by
  refine codeAny_loop rfl I (fun n s hI => ?_) n h
  show wpAny _ A ((compTurn (.ListComp elt [⟨target, iter, [c], 0⟩] scope pos) 0 it acc env).onRaise (fun x => do noteFrame x env; theTreesLotGoes x)) _ _ s
  refine wpAny_noted ?_
  rw [compTurn_list]
  refine wpAny_bind (wpAny_standAt (wpAny_bind (wpAny_mono (turn n s hI) (fun r s1 h1 => ?_) fun _ _ h' => h')))
  cases r with
  | none => exact wpAny_pure h1
  | some v =>
    refine wpAny_bind (wpAny_mono h1 (fun _ s2 h2 => wpAny_bind (wpAny_mono h2 (fun _ s3 h3 => ?_) fun _ _ h' => h')) fun _ _ h' => h')
    refine wpAny_bind (wpAny_mono (wpAny_tests_one h3) (fun ok s4 h4 => ?_) fun _ _ h' => h')
    cases ok with
    | false => exact wpAny_pure ⟨rfl, h4⟩
    | true =>
      exact wpAny_bind (wpAny_bind (wpAny_mono h4 (fun x s4 h4 => wpAny_bind (wpAny_mono h4 (fun _ s5 h5 => wpAny_pure (wpAny_pure ⟨rfl, h5⟩)) fun _ _ h' => h')) fun _ _ h' => h'))
end

def cxComp (X : Cx) (N' : List Str) (scope : Scope) (C : Addr) (s0 : Shared) (H0 : Hp) (fp : List Addr) (pins : List (Addr × Obj)) : Cx where
  prog := X.prog
  w := X.w
  K := X.K
  mg := X.mg
  base := X.base
  A := X.A
  N := N'
  s₀ := s0
  H₀ := H0
  env := compEnv scope C X.env
  outer := X.stack
  stack := X.stack
  ex := fp
  fn := fun _ => false
  calm := X.calm
  pn := X.pn ++ pins
  xe := fun _ _ => False


def compK (N' : List Str) (g : TG) (te : TE) (Q : VK) : It → Hp → Prop := fun J H1 => ∀ D, H1 D = none → ∃ W : Nat → Nat → List V → Hp → Prop, (∃ m, W 0 m [] (upd H1 D (.lst []))) ∧
  ∀ i m ys H2, W i m ys H2 → H2 D = some (.lst ys) ∧ ((J.stop i H2 ∧ Q (.ref D) H2) ∨ (J.go i H2 ∧ ys.length < sizeLine ∧
    ∀ x H', J.yld i H2 x H' → g x (List.replicate N'.length none) H' fun σ2 H3 => te σ2 H3 fun y H4 => H4 D = some (.lst ys) ∧ ∃ m', m' < m ∧ W (i + 1) m' (ys ++ [y]) (upd H4 D (.lst (ys ++ [y])))))
def tComp (N' : List Str) (wi : TI) (g : TG) (te : TE) : TE := fun σ H Q => wi σ H (compK N' g te Q)

section
variable {X : Cx} {elt tg iter : Expr} {scope : Scope} {pos : Pos} {N' : List Str} {wi : TI} {g : TG} {te : TE}
theorem HOk.but {P : Program} {w : World} {H : Hp} {h h' : Heap} {C : Addr} (x : HOk P w H h) (n : H C = none) (k : ∀ b u, b ≠ C → h.get? b = some u → h'.get? b = some u) : HOk P w H h' := fun a o e =>
  (x a o e).stay (fun b u hb q => k b u (by
    rcases hb with z | z
    · rw [z]; intro z2; rw [z2, n] at e; cases e
    · intro z2; rw [z2, n] at z; cases z) q) (fun _ q => q) fun _ _ q => q
theorem pe_comp (hfree : ∀ y ∈ scope.names, y.2 ≠ .free) (hcell : ∀ y ∈ scope.names, y.2 ≠ .cell) (hkind : scope.kind = .function) (hnames : ∀ y ∈ scope.names, y.2 = .local → scope.names.lookup y.1 = some .local)
    (hcalm : X.calm = true) (hi : PI X tg iter wi) (hg : ∀ C s0 H0 fp pins, PG (cxComp X N' scope C s0 H0 fp pins) tg g) (he : ∀ C s0 H0 fp pins, PE (cxComp X N' scope C s0 H0 fp pins) elt te)
    (hs : ∀ x, foldedSetIterable iter X.env x = pure x := by intro _; rfl) : PE X (.ListComp elt [⟨tg, iter, [], 0⟩] scope pos) (tComp N' wi g te) := by
  intro pins s σ H Q I h
  refine wpAny_ListComp hfree hkind hnames (thn (hi pins s σ H _ I h) fun v s1 h1 => thn h1 fun itv s2 h2 => ?_) hs
  obtain ⟨it, fp, tn, J, H2, e, I2, T, st2, f2, hW⟩ := h2
  subst e
  refine wpAny_newObj_type (wpAny_newFunctionEnv hcell (by intro y hy; simp at hy) (fun h₁ hns₁ hsb₁ => ?_) hkind)
  dsimp only at hns₁ hsb₁ ⊢
  generalize hH2 : s2.heap.push { cls := .type "list", dict := none, data := .seq ([] : List Value).toArray } = P2 at hns₁ hsb₁ ⊢
  have hC : P2.objs.size = s2.heap.objs.size + 1 := by rw [← hH2, Heap.size_push]
  have below : ∀ b, b < s2.heap.objs.size → b ≠ P2.objs.size ∧ b ≠ s2.heap.objs.size := fun b hb => ⟨by rw [hC]; exact Nat.ne_of_lt (Nat.lt_succ_of_lt hb), Nat.ne_of_lt hb⟩
  have hDC : s2.heap.objs.size ≠ P2.objs.size := by rw [hC]; exact Nat.ne_of_lt (Nat.lt_succ_self _)
  have old : ∀ b o, s2.heap.get? b = some o → h₁.get? b = some o := fun b o e => hsb₁.extBut b o (below b (Heap.lt_size e)).1 (Heap.get?_push_of_some _ (hH2 ▸ Heap.get?_push_of_some _ e))
  have hD : h₁.get? s2.heap.objs.size = some { cls := .type "list", dict := none, data := .seq ([] : List Value).toArray } := hsb₁.extBut _ _ hDC (Heap.get?_push_of_some _ (hH2 ▸ Heap.get?_push_size _ rfl))
  have frD : H2 s2.heap.objs.size = none := I2.hok.fresh (Nat.le_refl _)
  have frC : H2 P2.objs.size = none := I2.hok.fresh (by rw [hC]; exact Nat.le_succ _)
  have hfp : ∀ b ∈ fp, b < s2.heap.objs.size := fun b hb => by
    obtain ⟨o, e, _⟩ := T.obj _ _ st2 b hb
    exact Heap.lt_size e
  have nst : ∀ b, b ≠ X.env.locals → b ∉ X.fs → b ∉ frs X.stack := fun b n1 n2 z => by
    rcases List.mem_cons.mp (I2.stkSub b z) with e | e
    · exact n1 e
    · exact n2 e
  obtain ⟨W, ⟨m0, w0⟩, turn⟩ := hW s2.heap.objs.size frD
  have nocell : ∀ (x : Str) (c : Addr), (compEnv scope P2.objs.size X.env).cells.lookup x = some c → False := fun x c e => by
    have e' : ([] : List (Str × Addr)).lookup x = some c := e
    cases e'
  have ok' : (cxComp X N' scope P2.objs.size s2 H2 fp pins).Ok := by
    refine ⟨I2.ok.mod, hkind, I2.ok.glob, I2.ok.blt, ?_, fun x y c e => (nocell x c e).elim, fun x hx => ?_, fun x c _ e => (nocell x c e).elim, I2.ok.hd, I2.ok.frames, .inl rfl, fun b hb => ⟨(below b (hfp b hb)).1, fun x c e => (nocell x c e).elim⟩, I2.bs, Nat.le_trans I2.ok.bsz I2.sz, fun b o e hb => ?_, fun b hb => nst b (f2 b hb).2.1 (f2 b hb).2.2.1, I2.stack, I2.stkFree⟩
    · show s2.heap.objs.size ≤ P2.objs.size
      rw [hC]; exact Nat.le_succ _
    · have hx' : scope.names.lookup x = some .cell ∨ scope.names.lookup x = some .free := hx
      rcases hx' with z | z
      · exact absurd rfl (hcell _ (PySem.mem_of_lookup z))
      · exact absurd rfl (hfree _ (PySem.mem_of_lookup z))
    · rcases (f2 b hb).2.2.2.1 with z | z
      · exact I2.ok.noex b o e z
      · exact absurd (Nat.lt_of_lt_of_le (Heap.lt_size (I2.ok.bs b o e).1) z) (Nat.lt_irrefl _)
  have I' : Inv (cxComp X N' scope P2.objs.size s2 H2 fp pins) [] (List.replicate N'.length none) (upd H2 s2.heap.objs.size (.lst [])) { s2 with heap := h₁, toks := s2.toks + ([] : List (Str × Value)).length } := by
    refine ⟨ok', rfl, I2.bare, Un.laid old (Nat.le_refl _) frD, ⟨_, hns₁, fun i x v e1 e2 e3 => ?_⟩, fun x c e => (nocell x c e).elim, ?_, fun x c e => (nocell x c e).elim, fun p hp => ?_, I2.hok.laid old (Nat.le_refl _) ⟨by simp, [], 0, .nil, hD⟩, by simp [cxComp]⟩
    · rw [List.getElem?_replicate] at e2
      split at e2 <;> cases e2
    · show upd H2 s2.heap.objs.size (.lst []) P2.objs.size = none
      rw [upd_ne (Ne.symm hDC)]; exact frC
    · have hp' : p ∈ X.pn ++ pins := by
        rcases List.mem_append.mp hp with z | z
        · exact z
        · cases z
      obtain ⟨a1, a2, a3, a4, a5⟩ := I2.pin p hp'
      refine ⟨old _ _ a1, ?_, (below _ (Heap.lt_size a1)).1, nst _ a3 a4, a5⟩
      rw [upd_ne (below _ (Heap.lt_size a1)).2]; exact a2
  have stat : ∀ {H' : Hp}, (∀ b ∈ fp, H' b = none) → ∀ b ∈ fp, FpOk (cxComp X N' scope P2.objs.size s2 H2 fp pins) [] H' b := fun {H'} hn b hb =>
    ⟨hn b hb, (below b (hfp b hb)).1, nst b (f2 b hb).2.1 (f2 b hb).2.2.1, .inl hb, fun x c e => (nocell x c e).elim, fun p hp => (f2 b hb).2.2.2.2.2 p (by
      rcases List.mem_append.mp hp with z | z
      · exact z
      · cases z)⟩
  have fin : ∀ (ys : List V) (σ' : St) (H' : Hp) (s' : Shared), Inv (cxComp X N' scope P2.objs.size s2 H2 fp pins) [] σ' H' s' → Q (.ref s2.heap.objs.size) H' →
      ∃ m, s'.heap.Ns P2.objs.size m ∧ ∀ h', Heap.SameBut P2.objs.size s'.heap h' → EP X pins σ Q (.ref s2.heap.objs.size) { s' with heap := h' } := by
    intro ys σ' H' s' J1 q
    obtain ⟨m, hm, _⟩ := id J1.loc
    refine ⟨m, hm, fun h' sb => ⟨.ref s2.heap.objs.size, H', ?_, rfl, q⟩⟩
    have ne : ∀ b o, s2.heap.get? b = some o → b ≠ P2.objs.size := fun b o e => (below b (Heap.lt_size e)).1
    refine I2.call' (s' := { s' with heap := h' }) (ch := fp) J1.os ⟨fun b o e n hb hx => ?_, fun b o e n hb hx => ?_, fun b o e n hx => J1.base.free b o e n hx, fun b o e hx => ?_, J1.base.tups, J1.base.frzs, J1.base.tbls⟩ (J1.hok.but J1.free fun b u hb q => (sb.2 b hb).trans q) J1.bare fun b hb => ⟨(f2 b hb).2.2.2.1, (f2 b hb).2.1, (f2 b hb).2.2.2.2.1, (f2 b hb).2.2.2.2.2⟩
    · exact (sb.2 b (ne b o e)).trans (J1.base.keep b o e n hb hx)
    · obtain ⟨sl, z⟩ := J1.base.slot b o e n hb hx
      exact ⟨sl, (sb.2 b (ne b o e)).trans z⟩
    · obtain ⟨o', z⟩ := J1.base.there b o e hx
      exact ⟨o', (sb.2 b (ne b o e)).trans z⟩
  have loop : codeAny (model X.prog X.w) X.A (.compLoop (.ListComp elt [⟨tg, iter, [], 0⟩] scope pos) 0 (.ref it) (.ref s2.heap.objs.size) (compEnv scope P2.objs.size X.env))
      (fun r s' => ∃ m, s'.heap.Ns P2.objs.size m ∧ ∀ h', Heap.SameBut P2.objs.size s'.heap h' → match r with
        | .ok _ => EP X pins σ Q (.ref s2.heap.objs.size) { s' with heap := h' }
        | .error x => wpAny (model X.prog X.w) X.A (passOn "comprehension.variables-let-go" x (compEnv scope P2.objs.size X.env)) (EP X pins σ Q) X.xe { s' with heap := h' })
      { s2 with heap := h₁, toks := s2.toks + ([] : List (Str × Value)).length } := by
    refine compLoop_go (fun n s' => ∃ i ys σ' H', Inv (cxComp X N' scope P2.objs.size s2 H2 fp pins) [] σ' H' s' ∧ tn i s'.heap ∧ (∀ b ∈ fp, H' b = none) ∧ W i n ys H') ?_ m0
      ⟨0, [], List.replicate N'.length none, _, I', T.keep _ _ _ st2 (fun b hb o e => old b o e), fun b hb => by rw [upd_ne (below b (hfp b hb)).2]; exact (f2 b hb).1, w0⟩
    rintro n s3 ⟨i, ys, σ3, H3, J3, st3, fr3, w3⟩
    obtain ⟨hl, q3⟩ := turn i n ys H3 w3
    rcases q3 with ⟨stop, q⟩ | ⟨go, hlt, step⟩
    · refine thn (T.done (cxComp X N' scope P2.objs.size s2 H2 fp pins) rfl rfl rfl hcalm i [] s3 σ3 H3 _ J3 (stat fr3) st3 stop) fun r s4 ⟨hr, J4⟩ => ?_
      subst hr
      exact fin ys σ3 H3 s4 J4 q
    · refine thn (T.item (cxComp X N' scope P2.objs.size s2 H2 fp pins) rfl rfl rfl hcalm i [] s3 σ3 H3 _ J3 (stat fr3) st3 go) fun r s4 ⟨u, hr, h4⟩ => ?_
      subst hr
      refine thn h4 fun _ s5 ⟨x, H5, J5, r5, y5, st5, fr5⟩ => ?_
      have J5' := J5.pinned (stat fr5) (T.obj _ _ st5)
      have J6 : Inv (cxComp X N' scope P2.objs.size s2 H2 fp pins) ([] ++ pinsAt fp s5.heap) (List.replicate N'.length none) H5 s5 := J5'.weak (by rw [J5'.len]; simp [cxComp]) fun j v e => by
        rw [List.getElem?_replicate] at e
        split at e <;> cases e
      refine wpAny_mono (hg _ _ _ _ _ _ s5 _ H5 x u _ J6 r5 (step x H5 y5)) (fun _ s6 ⟨σ6, H6, J7, q6⟩ => ?_) fun _ _ z => False.elim z
      refine wpAny_mono (he _ _ _ _ _ _ s6 σ6 H6 _ J7 q6) (fun yv s7 ⟨y, H7, J8, r7, q7⟩ => ?_) fun _ _ z => False.elim z
      obtain ⟨hl7, m', hm', w7⟩ := q7
      refine wpAny_mono (mt_append (X := cxComp X N' scope P2.objs.size s2 H2 fp pins) _ s7 σ6 H7 (.ref s2.heap.objs.size) [y] (.ref s2.heap.objs.size) [yv] (fun v H8 => H8 = upd H7 s2.heap.objs.size (.lst (ys ++ [y]))) J8 rfl (.cons r7 .nil) ⟨_, ys, y, rfl, rfl, hl7, hlt, rfl⟩) (fun _ s8 ⟨v8, H8, J9, r8, e8⟩ => ?_) fun _ _ z => False.elim z
      subst e8
      have pk : ∀ b ∈ fp, ∀ o, s5.heap.get? b = some o → s8.heap.get? b = some o ∧ upd H7 s2.heap.objs.size (.lst (ys ++ [y])) b = none := fun b hb o e =>
        let z := J9.pin (b, o) (List.mem_append_right _ (List.mem_append_right _ (mem_pinsAt hb e)))
        ⟨z.1, z.2.1⟩
      refine ⟨m', hm', i + 1, ys ++ [y], σ6, _, J9.unpinned, T.keep _ _ _ st5 fun b hb o e => (pk b hb o e).1, fun b hb => ?_, w7⟩
      obtain ⟨o, e, _⟩ := T.obj _ _ st5 b hb
      exact (pk b hb o e).2
  exact codeAny_compStart_list loop (T.self X.A 0 { s2 with heap := h₁, toks := s2.toks + ([] : List (Str × Value)).length } _ _ (T.keep _ _ _ st2 fun b hb o e => old b o e) loop)
end

section
variable {X : Cx}
theorem boolsAre_of : ∀ {bs : List Bool} {us : List Value}, Vals (bs.map V.bl) us → LSm.BoolsAre us bs
  | [], us, r => by rw [List.map_nil] at r; cases r; exact .nil
  | b :: bs, us, r => by
    rw [List.map_cons] at r
    cases r with
    | cons r1 r2 =>
      cases (show _ = Value.bool b from r1)
      exact .cons b (boolsAre_of r2)
theorem call_all (hc : X.calm = true) : CallR X (.builtin "all") (fun xs H Q => ∃ (a : Addr) (bs : List Bool), xs = [.ref a] ∧ SqL X.K H a (bs.map V.bl) ∧ Q (.bl (bs.all id)) H) := by
  intro pins s σ H xs us Q I r h
  obtain ⟨a, bs, rfl, hS, q⟩ := h
  obtain ⟨u, rfl, ru⟩ := vals1 r
  cases ru
  obtain ⟨its, rv, pl, _⟩ := I.list hS
  have hb := boolsAre_of rv
  have hlt : a < s.heap.objs.size := by obtain ⟨_, e, _⟩ := pl.isList; exact Heap.lt_size e
  refine call_all_walk (wpAny_pyIter_list pl.isList ?_)
  refine ⟨s.heap.objs.size, [s.heap.objs.size, a], [s.heap.objs.size], its.toArray.size, _, _, fun i => (bs[i]?).getD true, rfl, Walks.list (A := X.A.in1) (I.ok.hd hc) _ a (Nat.ne_of_lt hlt) its.toArray,
    ⟨⟨_, Heap.get?_push_size _ rfl, rfl, rfl⟩, pl.isList.push _⟩, fun i v s' Q' E' hP hQ => ?_, fun h' tk hk => ?_⟩
  · obtain ⟨b, e, rfl⟩ := hb.get i v (by simpa using hP)
    simp only [e, Option.getD_some] at hQ
    exact wpAny_truthy_bool hQ
  · have e : ((List.range its.toArray.size).all fun i => (bs[i]?).getD true) = bs.all id := by
      rw [List.size_toArray, hb.length]; exact LSm.range_all bs
    rw [e]
    exact ⟨.bl _, H, I.kept (LSm.kept_iter hk), rfl, q⟩


end
end L2

namespace L2
open PySem PySem.Spec PyProof.Rows



def Quiet (CX : CXT) : Prop := ∀ outer H s e s', CX outer H s E0 e s' → False
theorem quiet0 : Quiet CX0 := fun _ _ _ _ _ h => h
theorem passQ {CX : CXT} {X : Cx} (q : Quiet CX) : Passes CX X E0 := fun _ _ _ _ _ _ _ h => (q _ _ _ _ _ h).elim
structure Fok (P : Program) (w : World) (K : PySem.W.Frag) (mg : Str → Option Value) (base : Heap) (CX : CXT) (j : Nat) (x : Str) (ps : List Str) (dvs : List V) (sp : Sp) : Prop where
  ex : ∃ f fd ds, FnOk P w K mg base CX j f fd ps sp ∧ Binds K fd ps ds ∧ Vals dvs ds ∧ PySem.W.keepIn K (.ref f) = true ∧ mg x = some (.ref f)
section
variable {X : Cx} {CX : CXT} {j k : Nat} {ps : List Str} {sp : Sp} {dvs : List V} {E : XK} {x : Str} {p pos : Pos} {e : Expr} {es : List Expr} {t : TA}

theorem pe_callX (F : Fok X.prog X.w X.K X.mg X.base CX j x ps dvs sp) (hr : Room k X.A) (hx : Passes CX X E) (ha : PA X (e :: es) t) (hj : j ≤ k := by decide) (hg : Gl X x := by rfl)
    (hdb : (x == ("__debug__" : Str)) = false := by decide) (he : starEach (e :: es) X.env = (false, eval e X.env) :: starEach es X.env := by rfl) (hpl : (backTo pos (starEach es X.env)).any (·.1) = false := by rfl) :
    PE X (.Call (.Name x p) (e :: es) [] pos) (tCall sp dvs E t) := by
  obtain ⟨f, fd, ds, G, b, v, kp, m⟩ := F.ex
  exact pe_call G (hr.mono hj) hg m kp b v hx ha hdb he hpl
theorem pe_callF (F : Fok X.prog X.w X.K X.mg X.base CX j x ps dvs sp) (q : Quiet CX) (hr : Room k X.A) (ha : PA X (e :: es) t) (hj : j ≤ k := by decide) (hg : Gl X x := by rfl)
    (hdb : (x == ("__debug__" : Str)) = false := by decide) (he : starEach (e :: es) X.env = (false, eval e X.env) :: starEach es X.env := by rfl) (hpl : (backTo pos (starEach es X.env)).any (·.1) = false := by rfl) :
    PE X (.Call (.Name x p) (e :: es) [] pos) (tCall sp dvs E0 t) := pe_callX F hr (passQ q) ha hj hg hdb he hpl
end
section
variable {P : Program} {w : World} {K : PySem.W.Frag} {mg : Str → Option Value} {base : Heap}

structure FunD (K : PySem.W.Frag) (x qual : Str) (st : Stmt) (f : Addr) (fd : FuncData) (dV : Value) : Prop where
  ex : ∃ (oc : Value) (od : Option Addr) (kV doc pm : Value) (an : Option Addr) (cdv ct : Value) (osl : Array (Option Value)),
    fd = PySem.W.fnOf x qual (defArgs st) (defBody st) (defScope st) dV kV doc pm an cdv ct ∧ K.lookup f = some ⟨oc, od, .func fd, osl⟩ ∧ PySem.W.codeIn K cdv qual = true
  kp : PySem.W.keepIn K (.ref f) = true
theorem funD_mk {x qual : Str} {st : Stmt} {f : Addr} {oc : Value} {od an : Option Addr} {osl : Array (Option Value)} {dV kV doc pm cdv ct : Value} (l : K.lookup f = some ⟨oc, od, .func (PySem.W.fnOf x qual (defArgs st) (defBody st) (defScope st) dV kV doc pm an cdv ct), osl⟩)
    (c : PySem.W.codeIn K cdv qual = true) (k : PySem.W.keepIn K (.ref f) = true) : FunD K x qual st f (PySem.W.fnOf x qual (defArgs st) (defBody st) (defScope st) dV kV doc pm an cdv ct) dV := ⟨⟨oc, od, kV, doc, pm, an, cdv, ct, osl, rfl, l, c⟩, k⟩

theorem FunD.ok {x qual : Str} {st : Stmt} {f : Addr} {fd : FuncData} {dV : Value} {N ps : List Str} {k : Nat} {sp : Sp} {CX : CXT} (F : FunD K x qual st f fd dV) (S : FnScope N ps (defScope st)) (len : ∀ vs H Q E, sp vs H Q E → vs.length = ps.length)
    (hbody : ∀ (cdv : Value) (A : Around) (outer : List Env) (s : Shared) (H : Hp) (vs : List V) (Q : VK) (E : XK), Room k (A.deeper (envOfC qual (defScope st) s.heap.objs.size f cdv)) → sp vs H Q E →
      ∃ t, PSs (cxOf CX P w K mg base N qual (defScope st) f cdv A outer s H E).nox (defBody st) t ∧ t { nx := fun _ H' => Q .non H', rt := Q } (start N vs) H) : FnOk P w K mg base CX (k + 1) f fd ps sp := by
  obtain ⟨oc, od, kV, doc, pm, an, cdv, ct, osl, rfl, lk, hcd⟩ := F.ex
  refine fn_of lk hcd S len fun A outer s H vs Q E hr hsp => ?_
  obtain ⟨t, h, q⟩ := hbody cdv A outer s H vs Q E hr hsp
  exact ⟨t, h.nox, q⟩

theorem FunD.binds {x qual : Str} {st : Stmt} {f : Addr} {fd : FuncData} {dV : Value} {ps : List Str} (F : FunD K x qual st f fd dV)
    (h : ∀ (kV doc pm : Value) (an : Option Addr) (cdv ct : Value) (us : List Value), us.length = ps.length → bindArgs (PySem.W.fnOf x qual (defArgs st) (defBody st) (defScope st) dV kV doc pm an cdv ct) ⟨us, []⟩ = pure (ps.zip us)) : Binds K fd ps [] := by
  obtain ⟨oc, od, kV, doc, pm, an, cdv, ct, osl, rfl, lk, hcd⟩ := F.ex
  exact .all (h kV doc pm an cdv ct)

theorem FunD.bindsD {x qual : Str} {st : Stmt} {f t : Addr} {fd : FuncData} {ps : List Str} {o : Obj} {items : Array Value} {n : Nat} {ds : List Value} (F : FunD K x qual st f fd (.ref t)) (ho : K.lookup t = some o) (hs : o.data = .seq items n)
    (h : ∀ (kV doc pm : Value) (an : Option Addr) (cdv ct : Value) (us : List Value), (us ++ ds).length = ps.length →
      ∃ k, bindArgs (PySem.W.fnOf x qual (defArgs st) (defBody st) (defScope st) (.ref t) kV doc pm an cdv ct) ⟨us, []⟩ = seqItems? (.ref t) >>= k ∧ k (some items) = pure (ps.zip (us ++ ds))) : Binds K fd ps ds := by
  obtain ⟨oc, od, kV, doc, pm, an, cdv, ct, osl, rfl, lk, hcd⟩ := F.ex
  intro s us X hl
  obtain ⟨k, h1, h2⟩ := h kV doc pm an cdv ct us hl
  exact BindsTo.of_defaults rfl (X _ _ ho) hs h1 h2

theorem fok {CX : CXT} {j : Nat} {x qual : Str} {st : Stmt} {f : Addr} {fd : FuncData} {dV : Value} {ps : List Str} {sp : Sp} (F : FunD K x qual st f fd dV) (G : FnOk P w K mg base CX j f fd ps sp) (b : Binds K fd ps []) (m : mg x = some (.ref f)) :
    Fok P w K mg base CX j x ps [] sp := ⟨f, fd, [], G, b, .nil, F.kp, m⟩

theorem fokD {CX : CXT} {j : Nat} {x qual : Str} {st : Stmt} {f : Addr} {fd : FuncData} {dV : Value} {ps : List Str} {sp : Sp} {ds : List Value} {dvs : List V} (F : FunD K x qual st f fd dV) (G : FnOk P w K mg base CX j f fd ps sp) (b : Binds K fd ps ds) (v : Vals dvs ds) (m : mg x = some (.ref f)) :
    Fok P w K mg base CX j x ps dvs sp := ⟨f, fd, ds, G, b, v, F.kp, m⟩
end


section
variable {X : Cx}
def CDivW (i j : Int) : Prop := 0 < j ∧ j < 2 ^ 1000
theorem op_fdivW : OpR X (binaryOp .FloorDiv) (rI CDivW fun i j => .int (i / j)) := opI fun i j _ _ _ _ _ hc q => by
  have h1 : (0 : Int) < j := hc.1
  have h2 : j < 2 ^ 1000 := hc.2
  refine floordiv_int (by omega) (by rw [Int.fdiv_eq_ediv_of_nonneg i (by omega)]; exact q) (.inl (PyProof.noPylong_of_log2 ?_))
  have e : j.natAbs.log2 < 1000 := by
    refine (Nat.log2_lt (by omega)).mpr ?_
    have e2 : ((j.natAbs : Nat) : Int) = j := by omega
    have e3 : ((2 ^ 1000 : Nat) : Int) = (2 : Int) ^ 1000 := by rw [Int.natCast_pow]; rfl
    omega
  omega
theorem cdivW {i j : Int} (h0 : 0 < j) (h1 : j < 1000000000000000000000000) : CDivW i j := ⟨h0, Int.lt_trans h1 (by decide +kernel)⟩
end
theorem bt_int : bootBuiltins "int" = some (.type "int") := by decide +kernel
theorem bt_str : bootBuiltins "str" = some (.type "str") := by decide +kernel
theorem bt_bool : bootBuiltins "bool" = some (.type "bool") := by decide +kernel
theorem bt_list : bootBuiltins "list" = some (.type "list") := by decide +kernel
theorem bt_tuple : bootBuiltins "tuple" = some (.type "tuple") := by decide +kernel
theorem bb_isinstance : bootBuiltins "isinstance" = some (.builtin "isinstance") := by decide +kernel
theorem bb_min : bootBuiltins "min" = some (.builtin "min") := by decide +kernel
theorem bb_all : bootBuiltins "all" = some (.builtin "all") := by decide +kernel
theorem bb_any : bootBuiltins "any" = some (.builtin "any") := by decide +kernel
theorem bb_len : bootBuiltins "len" = some (.builtin "len") := by decide +kernel
section
variable {K : PySem.W.Frag}
theorem kit_ii : PySem.W.kitOne K (.type "int") (.type "int") = some true := by kernel_rfl
theorem kit_ib : PySem.W.kitOne K (.type "int") (.type "bool") = some false := by kernel_rfl
theorem kit_ss : PySem.W.kitOne K (.type "str") (.type "str") = some true := by kernel_rfl
theorem kit_bi : PySem.W.kitOne K (.type "bool") (.type "int") = some true := by kernel_rfl
theorem kit_bb : PySem.W.kitOne K (.type "bool") (.type "bool") = some true := by kernel_rfl
theorem kit_tt : PySem.W.kitOne K (.type "tuple") (.type "tuple") = some true := by kernel_rfl
end
end L2

namespace L2
open PySem PySem.Spec PyProof.Rows


inductive SK where
  | l | t
def SK.it : SK → Heap → Addr → Addr → Nat → Prop
  | .l, h, b, a, i => h.IsListIter b a i
  | .t, h, b, a, i => h.IsTupleIter b a i
def SK.sq : SK → Heap → Addr → Array Value → Prop
  | .l, h, a, xs => h.IsList a xs
  | .t, h, a, xs => h.IsTuple a xs
def SK.ob : SK → Addr → Obj
  | .l, a => { cls := .type "list_iterator", data := .fields #[.ref a, .int 0 0] }
  | .t, a => { cls := .type "tuple_iterator", data := .fields #[.ref a, .int 0 0] }
theorem SK.it_at {k : SK} {h h' : Heap} {b a : Addr} {i : Nat} (x : k.it h b a i) (e : ∀ o, h.get? b = some o → h'.get? b = some o) : k.it h' b a i := by
  cases k
  · exact Heap.IsListIter.at x e
  · obtain ⟨o, ho, r⟩ := x
    exact ⟨o, e o ho, r⟩
theorem SK.sq_at {k : SK} {h h' : Heap} {a : Addr} {xs : Array Value} (x : k.sq h a xs) (e : ∀ o, h.get? a = some o → h'.get? a = some o) : k.sq h' a xs := by
  cases k
  · exact Heap.IsList.at x e
  · exact Heap.IsTuple.at x e
theorem SK.it_ob {k : SK} {h : Heap} {b a : Addr} {i : Nat} (x : k.it h b a i) : ∃ o, h.get? b = some o ∧ ∃ vs, o.data = .fields vs := by
  cases k
  · obtain ⟨o, ho, _, d⟩ := x; exact ⟨o, ho, _, d⟩
  · obtain ⟨o, ho, _, d⟩ := x; exact ⟨o, ho, _, d⟩
theorem SK.sq_lt {k : SK} {h : Heap} {a : Addr} {xs : Array Value} (x : k.sq h a xs) : a < h.objs.size := by
  cases k
  · obtain ⟨o, ho, _⟩ := x; exact Heap.lt_size ho
  · obtain ⟨o, ho, _⟩ := x; exact Heap.lt_size ho
section
variable {prog : Program} {w : World} {A : Around} {E : Value → Shared → Prop} {s : Shared}
theorem nextOf_tuple_item {it t : Addr} {i : Nat} {items} {x : Value} {Q : Value → Shared → Prop} (hit : s.heap.IsTupleIter it t i) (ht : s.heap.IsTuple t items) (hx : items[i]? = some x)
    (hQ : ∀ h', h'.IsTupleIter it t (i + 1) → Heap.SameBut it s.heap h' → Q x { s with heap := h' }) : wpAny (model prog w) A (Builtin.SmallTypes.nextOf (.ref it)) Q E s := by
  obtain ⟨o, ho, hc, hd⟩ := id hit
  obtain ⟨ol, hol, _, nl, hdl⟩ := ht
  unfold Builtin.SmallTypes.nextOf
  refine wpAny_bind (wpAny_callSpecial?_slot (name := Str.ofString "__next__") hit.typeIs slot_tupleiter_next (wpAny_call_entry slot_tupleiter_next hit.typeIs entry_tupleiter_next ?_ (args_tupleiter_next _)))
  show wpAny _ _ (field (.ref it) 0 >>= _) _ _ s
  refine wpAny_bind (wpAny_field ho hd (x := .ref t) rfl ?_)
  show wpAny _ _ (if (Value.ref t == Value.none) = true then _ else _) _ _ s
  rw [if_neg (show ¬ ((Value.ref t == Value.none) = true) from Bool.false_ne_true)]
  show wpAny _ _ (field (.ref it) 1 >>= _) _ _ s
  refine wpAny_bind (wpAny_field ho hd (x := .int i 0) rfl ?_)
  show wpAny _ _ (seqItems? (.ref t) >>= _) _ _ s
  refine wpAny_bind (wpAny_seqItems hol hdl ?_)
  simp only [Int.toNat_natCast, hx]
  refine wpAny_bind (wpAny_setField ho hd (by simp) (wpAny_pure ⟨x, rfl, wpAny_pure (hQ _ ?_ (Heap.SameBut.update ..))⟩))
  exact ⟨_, Heap.get?_update_self _ ho (Obj.isFreed_of_fields (Obj.data_mapFields hd _)), (Obj.cls_mapFields ..).trans hc, by
    rw [Obj.data_mapFields hd]; simp [rawInt]⟩
theorem nextOf_tuple_end {it t : Addr} {i : Nat} {items} {Q : Value → Shared → Prop} (hh : A.handled = none) (hit : s.heap.IsTupleIter it t i) (ht : s.heap.IsTuple t items) (hx : items[i]? = none)
    (hE : ∀ h' e, Heap.ExtBut it s.heap h' → (∃ o, h'.get? e = some o ∧ o.cls = .type "StopIteration") → E (.ref e) { s with heap := h' }) : wpAny (model prog w) A (Builtin.SmallTypes.nextOf (.ref it)) Q E s := by
  obtain ⟨o, ho, hc, hd⟩ := id hit
  obtain ⟨ol, hol, _, nl, hdl⟩ := ht
  unfold Builtin.SmallTypes.nextOf
  refine wpAny_bind (wpAny_callSpecial?_slot (name := Str.ofString "__next__") hit.typeIs slot_tupleiter_next (wpAny_call_entry slot_tupleiter_next hit.typeIs entry_tupleiter_next ?_ (args_tupleiter_next _)))
  show wpAny _ _ (field (.ref it) 0 >>= _) _ _ s
  refine wpAny_bind (wpAny_field ho hd (x := .ref t) rfl ?_)
  show wpAny _ _ (if (Value.ref t == Value.none) = true then _ else _) _ _ s
  rw [if_neg (show ¬ ((Value.ref t == Value.none) = true) from Bool.false_ne_true)]
  show wpAny _ _ (field (.ref it) 1 >>= _) _ _ s
  refine wpAny_bind (wpAny_field ho hd (x := .int i 0) rfl ?_)
  show wpAny _ _ (seqItems? (.ref t) >>= _) _ _ s
  refine wpAny_bind (wpAny_seqItems hol hdl ?_)
  simp only [Int.toNat_natCast, hx]
  refine wpAny_bind (wpAny_rule (wpAny_bind (wpAny_setField ho hd (by simp) ?_)))
  show wpAny _ _ (newExc (.type "StopIteration") [] >>= _) _ _ _
  refine wpAny_bind ?_
  simp only [newExc, newTuple]
  refine wpAny_bind (wpAny_newObj_type ?_ (by size_fits))
  refine wpAny_bind (m := firstArgMember _ _) (wpAny_of_eq (a := Value.none) (by first | rfl | (simp only [firstArgMember]; rfl)) ?_)
  refine wpAny_newObj_type ?_ (by size_fits)
  simp only [raiseNew]
  refine wpAny_bind (wpAny_handled ?_)
  first | rw [show A.in1.handled = none from hh] | rw [hh]
  refine wpAny_bind (wpAny_pure (wpAny_throw ?_))
  exact hE _ _ (((Heap.SameBut.update ..).extBut.push _).push _) ⟨_, Heap.get?_push_size _ rfl, rfl⟩
theorem SK.next {k : SK} {it a : Addr} {i : Nat} {xs : Array Value} {x : Value} {Q : Value → Shared → Prop} (hit : k.it s.heap it a i) (hs : k.sq s.heap a xs) (hx : xs[i]? = some x)
    (hQ : ∀ h', k.it h' it a (i + 1) → Heap.SameBut it s.heap h' → Q x { s with heap := h' }) : wpAny (model prog w) A (Builtin.SmallTypes.nextOf (.ref it)) Q E s := by
  cases k
  · exact wpAny_nextOf_list_item hit hs hx hQ
  · exact nextOf_tuple_item hit hs hx hQ
theorem SK.stop {k : SK} {it a : Addr} {i : Nat} {xs : Array Value} {Q : Value → Shared → Prop} (hh : A.handled = none) (hit : k.it s.heap it a i) (hs : k.sq s.heap a xs) (hx : xs[i]? = none)
    (hE : ∀ h' e, Heap.ExtBut it s.heap h' → (∃ o, h'.get? e = some o ∧ o.cls = .type "StopIteration") → E (.ref e) { s with heap := h' }) : wpAny (model prog w) A (Builtin.SmallTypes.nextOf (.ref it)) Q E s := by
  cases k
  · exact wpAny_nextOf_list_end hh hit hs hx hE
  · exact nextOf_tuple_end hh hit hs hx hE
theorem SK.iter {k : SK} {a : Addr} {xs : Array Value} {Q : Value → Shared → Prop} (hs : k.sq s.heap a xs) (hQ : Q (.ref s.heap.objs.size) { s with heap := s.heap.push (k.ob a) }) : wpAny (model prog w) A (pyIter (.ref a)) Q E s := by
  cases k
  · exact wpAny_pyIter_list hs hQ
  · exact wpAny_pyIter_tuple hs hQ
theorem SK.it_new {k : SK} {h : Heap} {a : Addr} : k.it (h.push (k.ob a)) h.objs.size a 0 := by
  cases k
  · exact ⟨_, Heap.get?_push_size _ rfl, rfl, rfl⟩
  · exact ⟨_, Heap.get?_push_size _ rfl, rfl, rfl⟩


structure ZAp (z TI TO i1 i2 : Addr) : Prop where
  TIz : TI ≠ z
  TOz : TO ≠ z
  i1z : i1 ≠ z
  i2z : i2 ≠ z
  TITO : TI ≠ TO
  TIi1 : TI ≠ i1
  TIi2 : TI ≠ i2
  TOi1 : TO ≠ i1
  TOi2 : TO ≠ i2
  i12 : i1 ≠ i2

structure Off (z TO i1 i2 a : Addr) : Prop where
  z : a ≠ z
  TO : a ≠ TO
  i1 : a ≠ i1
  i2 : a ≠ i2

def Kp (z TO i1 i2 : Addr) (h h' : Heap) : Prop := ∀ c o, Off z TO i1 i2 c → h.get? c = some o → h'.get? c = some o

theorem zip_item {k1 k2 : SK} {z TI TO i1 i2 l1 l2 : Addr} {n : Nat} {xs ys : Array Value} {x y a b : Value} {Q : Option Value → Shared → Prop} (D : ZAp z TI TO i1 i2) (o1 : Off z TO i1 i2 l1) (o2 : Off z TO i1 i2 l2)
    (hz : IsZip s.heap z TI TO .none) (hTI : IsPair s.heap TI (.ref i1) (.ref i2)) (hTO : IsPair s.heap TO a b) (h1 : k1.it s.heap i1 l1 n) (h2 : k2.it s.heap i2 l2 n) (s1 : k1.sq s.heap l1 xs) (s2 : k2.sq s.heap l2 ys)
    (hx : xs[n]? = some x) (hy : ys[n]? = some y)
    (hQ : ∀ h', IsZip h' z TI TO (rawInt s.heap.objs.size) → IsPair h' TI (.ref i1) (.ref i2) → IsPair h' TO x y → k1.it h' i1 l1 (n + 1) → k2.it h' i2 l2 (n + 1) → IsPair h' s.heap.objs.size x y → Kp z TO i1 i2 s.heap h' → Q (some (.ref s.heap.objs.size)) { s with heap := h' }) :
    wpAny (model prog w) A (pyNext (.ref z)) Q E s := by
  have hT : s.TypeIs (.ref z) "zip" := ⟨_, hz, rfl⟩
  unfold pyNext
  refine wpAny_bind (wpAny_attempt (wpAny_callSpecial?_slot (name := Str.ofString "__next__") hT F.slot_zip_next (wpAny_call_entry F.slot_zip_next hT F.entry_zip_next ?_ (F.args_zip_next_1 _))))
  show wpAny _ _ (field (.ref z) 2 >>= _) _ _ _
  refine wpAny_bind (wpAny_field hz rfl (x := .bool false) rfl ?_)
  show wpAny _ _ (field (.ref z) 3 >>= _) _ _ _
  refine wpAny_bind (wpAny_field hz rfl (x := .ref TI) rfl ?_)
  refine wpAny_bind (wpAny_seqItems hTI rfl ?_)
  show wpAny _ _ (Builtin.SmallTypes.ownedTupleIsFree (.ref z) >>= _) _ _ _
  refine wpAny_bind ?_
  unfold Builtin.SmallTypes.ownedTupleIsFree
  refine wpAny_bind (wpAny_field hz rfl (x := .none) rfl (wpAny_pure ?_))
  simp only [if_true]
  refine wpAny_bind (wpAny_rule ?_)
  refine wpAny_bind (wpAny_field hz rfl (x := .ref TO) rfl ?_)
  refine wpAny_bind (wpAny_setField_rec hz (by simp) fun g1 z1 b1 => ?_)
  replace z1 : IsZip g1 z TI TO .ellipsis := z1
  refine wpAny_bind ?_
  simp only [List.zipIdx_cons, List.zipIdx_nil, List.forIn_cons, List.forIn_nil]
  refine wpAny_bind (wpAny_bind (wpAny_onRaise ?_))
  show wpAny _ _ (Builtin.SmallTypes.nextOf (.ref i1) >>= _) _ _ _
  refine wpAny_bind (SK.next (SK.it_at h1 fun o e => b1.extBut _ _ D.i1z e) (SK.sq_at s1 fun o e => b1.extBut _ _ o1.z e) hx fun g2 j1 b2 => wpAny_pure ?_)
  have t2 : IsPair g2 TO a b := b2.extBut _ _ D.TOi1 (b1.extBut _ _ D.TOz hTO)
  refine wpAny_bind (wpAny_seqItems t2 rfl ?_)
  refine wpAny_bind (wpAny_updateSeq_pair t2 fun g3 t3 b3 => ?_)
  replace t3 : IsPair g3 TO x b := t3
  refine wpAny_bind (wpAny_letGo (wpAny_pure ?_))
  refine wpAny_bind (wpAny_bind (wpAny_onRaise ?_))
  show wpAny _ _ (Builtin.SmallTypes.nextOf (.ref i2) >>= _) _ _ _
  refine wpAny_bind (SK.next (SK.it_at h2 fun o e => b3.extBut _ _ D.TOi2.symm (b2.extBut _ _ D.i12.symm (b1.extBut _ _ D.i2z e))) (SK.sq_at s2 fun o e => b3.extBut _ _ o2.TO (b2.extBut _ _ o2.i1 (b1.extBut _ _ o2.z e))) hy fun g4 j2 b4 => wpAny_pure ?_)
  have t4 : IsPair g4 TO x b := b4.extBut _ _ D.TOi2 t3
  refine wpAny_bind (wpAny_seqItems t4 rfl ?_)
  refine wpAny_bind (wpAny_updateSeq_pair t4 fun g5 t5 b5 => ?_)
  replace t5 : IsPair g5 TO x y := t5
  refine wpAny_bind (wpAny_letGo (wpAny_pure (wpAny_pure ?_)))
  refine wpAny_bind (wpAny_seqItems t5 rfl ?_)
  refine wpAny_bind (wpAny_newTuple ?_)
  have sz : g5.objs.size = s.heap.objs.size := by rw [b5.1, b4.1, b3.1, b2.1, b1.1]
  have z5 : IsZip g5 z TI TO .ellipsis := b5.extBut _ _ D.TOz.symm (b4.extBut _ _ D.i2z.symm (b3.extBut _ _ D.TOz.symm (b2.extBut _ _ D.i1z.symm z1)))
  have kp : Kp z TO i1 i2 s.heap g5 := fun c o f e => b5.extBut _ _ f.TO (b4.extBut _ _ f.i2 (b3.extBut _ _ f.TO (b2.extBut _ _ f.i1 (b1.extBut _ _ f.z e))))
  have zlt : z < g5.objs.size := Heap.lt_size z5
  show wpAny _ _ (Builtin.SmallTypes.ownedTupleHandOut (.ref z) (.ref g5.objs.size) >>= _) _ _ _
  refine wpAny_bind ?_
  unfold Builtin.SmallTypes.ownedTupleHandOut
  have z6 : IsZip (g5.push { cls := .type "tuple", data := .seq #[x, y] }) z TI TO .ellipsis := Heap.get?_push_of_some _ z5
  refine wpAny_bind (wpAny_setField_rec z6 (by simp) fun g7 z7 b7 => ?_)
  replace z7 : IsZip g7 z TI TO (rawInt g5.objs.size) := z7
  refine wpAny_setField_rec z7 (by simp) fun g8 z8 b8 => ?_
  replace z8 : IsZip g8 z TI TO (rawInt g5.objs.size) := z8
  have up : ∀ c o, c ≠ z → g5.get? c = some o → g8.get? c = some o := fun c o c1 e => b8.extBut _ _ c1 (b7.extBut _ _ c1 (Heap.get?_push_of_some _ e))
  have t8 : IsPair g8 g5.objs.size x y := b8.extBut _ _ (Nat.ne_of_gt zlt) (b7.extBut _ _ (Nat.ne_of_gt zlt) (Heap.get?_push_size _ rfl))
  rw [sz] at z8 t8
  refine wpAny_pure ⟨_, rfl, ?_⟩
  show wpAny _ _ (pure (some (Value.ref g5.objs.size))) _ _ _
  rw [sz]
  exact wpAny_pure (hQ g8 z8 (up _ _ D.TIz (b5.extBut _ _ D.TITO (b4.extBut _ _ D.TIi2 (b3.extBut _ _ D.TITO (b2.extBut _ _ D.TIi1 (b1.extBut _ _ D.TIz hTI)))))) (up _ _ D.TOz t5)
    (SK.it_at j1 fun o e => up _ _ D.i1z (b5.extBut _ _ D.TOi1.symm (b4.extBut _ _ D.i12 (b3.extBut _ _ D.TOi1.symm e)))) (SK.it_at j2 fun o e => up _ _ D.i2z (b5.extBut _ _ D.TOi2.symm e)) t8 fun c o f e => up c o f.z (kp c o f e))
theorem zip_stop {k1 k2 : SK} {z TI TO i1 i2 l1 l2 : Addr} {n : Nat} {xs ys : Array Value} {a b : Value} {Q : Option Value → Shared → Prop} (hh : A.handled = none) (D : ZAp z TI TO i1 i2) (o1 : Off z TO i1 i2 l1) (o2 : Off z TO i1 i2 l2)
    (hz : IsZip s.heap z TI TO .none) (hTI : IsPair s.heap TI (.ref i1) (.ref i2)) (hTO : IsPair s.heap TO a b) (h1 : k1.it s.heap i1 l1 n) (h2 : k2.it s.heap i2 l2 n) (s1 : k1.sq s.heap l1 xs) (s2 : k2.sq s.heap l2 ys)
    (hend : xs[n]? = none ∨ ys[n]? = none) (hQ : ∀ h', Kp z TO i1 i2 s.heap h' → Q none { s with heap := h' }) : wpAny (model prog w) A (pyNext (.ref z)) Q E s := by
  have hT : s.TypeIs (.ref z) "zip" := ⟨_, hz, rfl⟩
  have fin : ∀ h' e, Kp z TO i1 i2 s.heap h' → (∃ o, h'.get? e = some o ∧ o.cls = .type "StopIteration") → wpAny (model prog w) A (do if ← isInstance (.ref e) (.type "StopIteration") then pure none else throw (.ref e)) Q E { s with heap := h' } := fun h' e kp he => by
    obtain ⟨o, ho, hc⟩ := he
    exact wpAny_bind (wpAny_isInstance (T := "StopIteration") (b := true) ⟨o, ho, hc⟩ isSubtype_stop (wpAny_pure (hQ _ kp)))
  unfold pyNext
  refine wpAny_bind (wpAny_attempt (wpAny_callSpecial?_slot (name := Str.ofString "__next__") hT F.slot_zip_next (wpAny_call_entry F.slot_zip_next hT F.entry_zip_next ?_ (F.args_zip_next_1 _))))
  show wpAny _ _ (field (.ref z) 2 >>= _) _ _ _
  refine wpAny_bind (wpAny_field hz rfl (x := .bool false) rfl ?_)
  show wpAny _ _ (field (.ref z) 3 >>= _) _ _ _
  refine wpAny_bind (wpAny_field hz rfl (x := .ref TI) rfl ?_)
  refine wpAny_bind (wpAny_seqItems hTI rfl ?_)
  show wpAny _ _ (Builtin.SmallTypes.ownedTupleIsFree (.ref z) >>= _) _ _ _
  refine wpAny_bind ?_
  unfold Builtin.SmallTypes.ownedTupleIsFree
  refine wpAny_bind (wpAny_field hz rfl (x := .none) rfl (wpAny_pure ?_))
  simp only [if_true]
  refine wpAny_bind (wpAny_rule ?_)
  refine wpAny_bind (wpAny_field hz rfl (x := .ref TO) rfl ?_)
  refine wpAny_bind (wpAny_setField_rec hz (by simp) fun g1 z1 b1 => ?_)
  replace z1 : IsZip g1 z TI TO .ellipsis := z1
  refine wpAny_bind ?_
  simp only [List.zipIdx_cons, List.zipIdx_nil, List.forIn_cons, List.forIn_nil]
  refine wpAny_bind (wpAny_bind (wpAny_onRaise ?_))
  show wpAny _ _ (Builtin.SmallTypes.nextOf (.ref i1) >>= _) _ _ _
  have hit1 := SK.it_at h1 fun o e => b1.extBut _ _ D.i1z e
  have sq1 := SK.sq_at s1 fun o e => b1.extBut _ _ o1.z e
  cases hx : xs[n]? with
  | none =>
    refine wpAny_bind (SK.stop hh hit1 sq1 hx fun g2 e b2 he => ?_)
    obtain ⟨oe, hoe, hce⟩ := he
    have z2 : IsZip g2 z TI TO .ellipsis := b2 _ _ D.i1z.symm z1
    have hez : e ≠ z := fun q => by subst q; rw [z2] at hoe; cases hoe; simp at hce
    refine wpAny_setField_rec z2 (by simp) fun g3 _ b3 => fin g3 e (fun c o f q => b3.extBut _ _ f.z (b2 _ _ f.i1 (b1.extBut _ _ f.z q))) ⟨oe, b3.extBut _ _ hez hoe, hce⟩
  | some x =>
    have hy : ys[n]? = none := by rcases hend with q | q; rw [hx] at q; cases q; exact q
    refine wpAny_bind (SK.next hit1 sq1 hx fun g2 j1 b2 => wpAny_pure ?_)
    have t2 : IsPair g2 TO a b := b2.extBut _ _ D.TOi1 (b1.extBut _ _ D.TOz hTO)
    refine wpAny_bind (wpAny_seqItems t2 rfl ?_)
    refine wpAny_bind (wpAny_updateSeq_pair t2 fun g3 t3 b3 => ?_)
    refine wpAny_bind (wpAny_letGo (wpAny_pure ?_))
    refine wpAny_bind (wpAny_bind (wpAny_onRaise ?_))
    show wpAny _ _ (Builtin.SmallTypes.nextOf (.ref i2) >>= _) _ _ _
    refine wpAny_bind (SK.stop hh (SK.it_at h2 fun o e => b3.extBut _ _ D.TOi2.symm (b2.extBut _ _ D.i12.symm (b1.extBut _ _ D.i2z e))) (SK.sq_at s2 fun o e => b3.extBut _ _ o2.TO (b2.extBut _ _ o2.i1 (b1.extBut _ _ o2.z e))) hy fun g4 e b4 he => ?_)
    obtain ⟨oe, hoe, hce⟩ := he
    have z4 : IsZip g4 z TI TO .ellipsis := b4 _ _ D.i2z.symm (b3.extBut _ _ D.TOz.symm (b2.extBut _ _ D.i1z.symm z1))
    have hez : e ≠ z := fun q => by subst q; rw [z4] at hoe; cases hoe; simp at hce
    refine wpAny_setField_rec z4 (by simp) fun g5 _ b5 => fin g5 e (fun c o f q => b5.extBut _ _ f.z (b4 _ _ f.i2 (b3.extBut _ _ f.TO (b2.extBut _ _ f.i1 (b1.extBut _ _ f.z q))))) ⟨oe, b5.extBut _ _ hez hoe, hce⟩
end
end L2

namespace L2
open PySem PySem.Spec PyProof.Rows

def zH1 (k1 : SK) (h : Heap) (l1 : Addr) : Heap := h.push (k1.ob l1)
def zH2 (k1 k2 : SK) (h : Heap) (l1 l2 : Addr) : Heap := (zH1 k1 h l1).push (k2.ob l2)
def zH3 (k1 k2 : SK) (h : Heap) (l1 l2 : Addr) : Heap := (zH2 k1 k2 h l1 l2).push { cls := .type "tuple", data := .seq #[.ref h.objs.size, .ref (zH1 k1 h l1).objs.size] }
def zH4 (k1 k2 : SK) (h : Heap) (l1 l2 : Addr) : Heap := (zH3 k1 k2 h l1 l2).push { cls := .type "tuple", data := .seq #[.none, .none] }
def zH5 (k1 k2 : SK) (h : Heap) (l1 l2 : Addr) : Heap := (zH4 k1 k2 h l1 l2).push { cls := .type "zip", data := .fields #[.none, .bool false, .bool false, .ref (zH2 k1 k2 h l1 l2).objs.size, .ref (zH3 k1 k2 h l1 l2).objs.size] }
theorem meets_zip (k1 k2 : SK) (l1 l2 : Addr) (xs ys : Array Value) :
    Meets (Builtin.«zip.__new__» ⟨[.type "zip", .ref l1, .ref l2], []⟩) (fun _ R s => k1.sq s.heap l1 xs ∧ k2.sq s.heap l2 ys ∧
      R (.ok (.ret (.ref (zH4 k1 k2 s.heap l1 l2).objs.size))) { s with heap := zH5 k1 k2 s.heap l1 l2 }) :=
  .of_wp fun prog w A R s h => by
    obtain ⟨hp, g, d, tk, os⟩ := s; obtain ⟨hl1, hl2, h⟩ := h
    have hsub := sub_zip
    have hL1 : k1.sq (Shared.heap ⟨hp, g, d, tk, os⟩) l1 xs := hl1
    have hL2 : k2.sq (Shared.heap ⟨hp.push (k1.ob l1), g, d, tk, os⟩) l2 ys := SK.sq_at hl2 fun o e => Heap.get?_push_of_some _ e
    wp_walk using SK.iter hL1, SK.iter hL2
    exact ⟨_, rfl, h⟩
end L2

namespace L2
open PySem PySem.Spec PyProof.Rows
section
variable {prog : Program} {w : World} {A : Around} {E : Value → Shared → Prop} {s : Shared}
theorem call_zip {k1 k2 : SK} {l1 l2 : Addr} {xs ys : Array Value} {Q : Value → Shared → Prop} (hl1 : k1.sq s.heap l1 xs) (hl2 : k2.sq s.heap l2 ys)
    (h : ∀ h', IsZip h' (s.heap.objs.size + 4) (s.heap.objs.size + 2) (s.heap.objs.size + 3) .none → IsPair h' (s.heap.objs.size + 2) (.ref s.heap.objs.size) (.ref (s.heap.objs.size + 1)) →
      IsPair h' (s.heap.objs.size + 3) .none .none → k1.it h' s.heap.objs.size l1 0 → k2.it h' (s.heap.objs.size + 1) l2 0 →
      (∀ c o, s.heap.get? c = some o → h'.get? c = some o) → Q (.ref (s.heap.objs.size + 4)) { s with heap := h' }) :
    wpAny (model prog w) A (call (.type "zip") [.ref l1, .ref l2]) Q E s := by
  refine callType_new F.called_zip (by decide) (F.typeCall_zip_2 _ _) (F.newCall_zip_2 _ _) (fun obj => F.args_object_init_3 obj _ _) F.entry_zip_new
    (meets_zip k1 k2 l1 l2 xs ys) ⟨hl1, hl2, ?_⟩
  have z1 : (zH1 k1 s.heap l1).objs.size = s.heap.objs.size + 1 := Heap.size_push ..
  have z2 : (zH2 k1 k2 s.heap l1 l2).objs.size = s.heap.objs.size + 2 := by unfold zH2; rw [Heap.size_push, z1]
  have z3 : (zH3 k1 k2 s.heap l1 l2).objs.size = s.heap.objs.size + 3 := by unfold zH3; rw [Heap.size_push, z2]
  have z4 : (zH4 k1 k2 s.heap l1 l2).objs.size = s.heap.objs.size + 4 := by unfold zH4; rw [Heap.size_push, z3]
  have u1 : ∀ b o, (zH1 k1 s.heap l1).get? b = some o → (zH5 k1 k2 s.heap l1 l2).get? b = some o := fun b o e =>
    Heap.get?_push_of_some _ (Heap.get?_push_of_some _ (Heap.get?_push_of_some _ (Heap.get?_push_of_some _ e)))
  have u2 : ∀ b o, (zH2 k1 k2 s.heap l1 l2).get? b = some o → (zH5 k1 k2 s.heap l1 l2).get? b = some o := fun b o e =>
    Heap.get?_push_of_some _ (Heap.get?_push_of_some _ (Heap.get?_push_of_some _ e))
  have g5 : IsZip (zH5 k1 k2 s.heap l1 l2) (zH4 k1 k2 s.heap l1 l2).objs.size (zH2 k1 k2 s.heap l1 l2).objs.size (zH3 k1 k2 s.heap l1 l2).objs.size .none := Heap.get?_push_size _ rfl
  have g4 : IsPair (zH5 k1 k2 s.heap l1 l2) (zH3 k1 k2 s.heap l1 l2).objs.size .none .none := Heap.get?_push_of_some _ (Heap.get?_push_size _ rfl)
  have g3 : IsPair (zH5 k1 k2 s.heap l1 l2) (zH2 k1 k2 s.heap l1 l2).objs.size (.ref s.heap.objs.size) (.ref (zH1 k1 s.heap l1).objs.size) := Heap.get?_push_of_some _ (Heap.get?_push_of_some _ (Heap.get?_push_size _ rfl))
  have j1 : k1.it (zH5 k1 k2 s.heap l1 l2) s.heap.objs.size l1 0 := SK.it_at SK.it_new fun o e => u1 _ o e
  have j2 : k2.it (zH5 k1 k2 s.heap l1 l2) (zH1 k1 s.heap l1).objs.size l2 0 := SK.it_at SK.it_new fun o e => u2 _ o e
  rw [z4, z2, z3] at g5
  rw [z3] at g4
  rw [z2, z1] at g3
  rw [z1] at j2
  show _ ∧ _
  rw [z4]
  exact ⟨⟨_, g5, rfl⟩, h _ g5 g3 g4 j1 j2 fun c o x => u1 _ _ (Heap.get?_push_of_some _ x)⟩
end

def SK.Sq : SK → PySem.W.Frag → Hp → Addr → List V → Prop
  | .l => SqL
  | .t => SqT
section
variable {X : Cx} {pins : List (Addr × Obj)} {σ : St} {H : Hp} {s : Shared} {h' : Heap}
theorem SK.read {k : SK} {a : Addr} {xs : List V} (I : Inv X pins σ H s) (h : k.Sq X.K H a xs) : ∃ its : List Value, Vals xs its ∧ k.sq s.heap a its.toArray := by
  cases k
  · obtain ⟨its, r, p, _⟩ := I.list h
    exact ⟨its, r, p.isList⟩
  · obtain ⟨its, r, p, _⟩ := I.tuple h
    exact ⟨its, r, p⟩
theorem Inv.turnedL {t' : Nat} {L : List Addr} (I : Inv X pins σ H s) (k : ∀ b o, b ∉ L → s.heap.get? b = some o → h'.get? b = some o) (f : ∀ b ∈ L, FpOk X pins H b) : Inv X pins σ H { s with heap := h', toks := t' } := by
  have nit : ∀ b u, H b = some u → b ∉ L := fun b u e z => by rw [(f b z).1] at e; cases e
  refine I.step (g' := s.gens) (d' := s.drawn) (ch := L) (fun b hb => ?_) (fun b o _ _ hc e _ => k b o hc e) (fun b o _ _ hc e _ => ⟨o.slots, k b o hc e⟩) (fun _ _ _ _ n => n)
    (fun b o hc e => ⟨o, k b o hc e⟩) (fun _ _ e => e) (fun _ _ _ e => e) (fun b ps e => ⟨#[], by rw [e]; simp⟩) (fun m hm => ?_) (fun b u e => ?_) I.bare
  · obtain ⟨f0, f1, f2, f3, f4, f5⟩ := f b hb
    exact ⟨f3, f1, f4, f5⟩
  · obtain ⟨o, es, ep, ho, r⟩ := hm
    exact ⟨o, es, ep, k _ o (fun z => (f _ z).2.1 rfl) ho, r⟩
  · refine (I.hok b u e).stay (fun c v hc q => k c v ?_ q) (fun _ q => q) fun _ _ q => q
    rcases hc with z | z
    · rw [z]; exact nit b u e
    · exact nit c _ z
theorem off_of {z TO i1 i2 b : Addr} (h : b ∉ [z, TO, i1, i2]) : Off z TO i1 i2 b := ⟨fun e => h (by simp [e]), fun e => h (by simp [e]), fun e => h (by simp [e]), fun e => h (by simp [e])⟩
theorem zap_new (m : Nat) : ZAp (m + 4) (m + 2) (m + 3) m (m + 1) :=
  ⟨(by show ¬ (_ : Nat) = _; omega), (by show ¬ (_ : Nat) = _; omega), (by show ¬ (_ : Nat) = _; omega), (by show ¬ (_ : Nat) = _; omega), (by show ¬ (_ : Nat) = _; omega), (by show ¬ (_ : Nat) = _; omega), (by show ¬ (_ : Nat) = _; omega), (by show ¬ (_ : Nat) = _; omega), (by show ¬ (_ : Nat) = _; omega), (by show ¬ (_ : Nat) = _; omega)⟩
theorem off_new {m a : Nat} (h : a < m) : Off (m + 4) (m + 3) m (m + 1) a := ⟨(by show ¬ (_ : Nat) = _; omega), (by show ¬ (_ : Nat) = _; omega), (by show ¬ (_ : Nat) = _; omega), (by show ¬ (_ : Nat) = _; omega)⟩
end
section
variable {X : Cx}
theorem bt_zip : bootBuiltins "zip" = some (.type "zip") := by first | rfl | kernel_rfl | decide +kernel
end
end L2

namespace L2
open PySem PySem.Spec PyProof.Rows


end L2

namespace L2
open PySem PySem.Spec PyProof.Rows

def eqLV : List V → List V → Bool
  | [], [] => true
  | x :: xs, y :: ys => eqV x y && eqLV xs ys
  | _, _ => false
def eqJ (xs ys : List V) (j : Nat) : Bool := match xs[j]?, ys[j]? with
  | some a, some b => eqV a b
  | _, _ => false
theorem eqJ_all : ∀ xs ys : List V, ((List.range (min xs.length ys.length)).all (eqJ xs ys) && xs.length == ys.length) = eqLV xs ys
  | [], [] => rfl
  | [], _ :: _ => by simp [eqLV]
  | _ :: _, [] => by simp [eqLV]
  | x :: xs, y :: ys => by
    have ih := eqJ_all xs ys
    have e : min (x :: xs).length (y :: ys).length = min xs.length ys.length + 1 := by simp only [List.length_cons]; omega
    rw [e, List.range_succ_eq_map, List.all_cons, List.all_map]
    have e2 : (eqJ (x :: xs) (y :: ys) ∘ Nat.succ) = eqJ xs ys := by
      funext j
      simp [eqJ]
    have e3 : ((x :: xs).length == (y :: ys).length) = (xs.length == ys.length) := by simp
    rw [e2, e3, Bool.and_assoc, ih]
    rfl
theorem eqLV_ints : ∀ xs ys : List Int, eqLV (xs.map V.int) (ys.map V.int) = decide (xs = ys)
  | [], [] => rfl
  | [], _ :: _ => rfl
  | _ :: _, [] => rfl
  | x :: xs, y :: ys => by
    show (x == y && eqLV (xs.map V.int) (ys.map V.int)) = _
    rw [eqLV_ints xs ys]
    by_cases h : x = y <;> by_cases g : xs = ys <;> simp [h, g]
def rEqT (K : PySem.W.Frag) (neg : Bool) : R2 := fun x y H Q => ∃ p1 p2 xs ys, x = .ref p1 ∧ y = .ref p2 ∧ SqT K H p1 xs ∧ SqT K H p2 ys ∧ xs.all flatV = true ∧ ys.all flatV = true ∧ Q (.bl (if neg then !eqLV xs ys else eqLV xs ys)) H
theorem vals_at {xs : List V} {us : List Value} (r : Vals xs us) {j : Nat} (h : j < us.length) : ∃ x, xs[j]? = some x ∧ RelV x us[j] := by
  have e := r.length
  have hj : j < xs.length := by omega
  obtain ⟨u, hu, ru⟩ := r.get (show xs[j]? = some xs[j] by simp [hj])
  have : us[j] = u := by
    have h2 : us[j]? = some us[j] := by simp [h]
    rw [h2] at hu; exact Option.some.inj hu
  exact ⟨xs[j], by simp [hj], by rw [this]; exact ru⟩
theorem op_eqT {X : Cx} {k : Nat} (hr : Room k X.A) : OpR X (compareOp .Eq) (rEqT X.K false) := by
  intro pins s σ H x y v u Q I rx ry h
  obtain ⟨p1, p2, xs, ys, rfl, rfl, q1, q2, f1, f2, q⟩ := h
  cases rx
  cases ry
  obtain ⟨us, r1, t1, _⟩ := I.tuple q1
  obtain ⟨vs, r2, t2, _⟩ := I.tuple q2
  have l1 := r1.length
  have l2 := r2.length
  refine SeqAt.eq_tupleAt (e := eqJ xs ys) t1 t2 hr.units0 (fun j h1 h2 => ?_) ⟨.bl _, H, I, rfl, ?_⟩
  · simp only [List.size_toArray] at h1 h2
    obtain ⟨a, ha, ra⟩ := vals_at r1 h1
    obtain ⟨b, hb, rb⟩ := vals_at r2 h2
    have e : eqJ xs ys j = eqV a b := by unfold eqJ; rw [ha, hb]
    rw [e]
    have fa : flatV a = true := List.all_eq_true.mp f1 a (List.mem_of_getElem? ha)
    have fb : flatV b = true := List.all_eq_true.mp f2 b (List.mem_of_getElem? hb)
    exact eqAt_V ra rb fa fb
  · simp only [List.size_toArray]
    rw [← l1, ← l2, eqJ_all]
    exact q
end L2

namespace L2
open PySem PySem.Spec PyProof.Rows


section
variable {P : Program} {w : World} {H H' : Hp} {h h' h'' bs : Heap} {l : List Env} {hid : List Addr}

end
section
variable {P : Program} {w : World} {K : PySem.W.Frag} {mg : Str → Option Value} {base : Heap} {N : List Str} {qual : Str} {scope : Scope} {f : Addr} {cd : Value} {A : Around} {outer : List Env} {s0 : Shared} {H0 : Hp} {E : XK}

end
end L2

namespace L2
open PySem PySem.Spec PyProof.Rows


section
variable {X : Cx}
end


section
variable {prog : Program} {w : World} {A : Around} {E : Value → Shared → Prop} {h : Heap} {g : Array GenState} {d : Drawn} {t : Nat} {os : OsState} {a C : Addr} {o : Obj} {vs : Array Value}
end
end L2

namespace L2
open PySem PySem.Spec PyProof.Rows
section
variable {X : Cx}

end


section
variable {X : Cx} {pins : List (Addr × Obj)} {σ : St} {H : Hp} {s : Shared}
end
end L2

namespace L2
open PySem PySem.Spec PyProof.Rows
section
variable {X : Cx}
end
end L2

namespace L2
open PySem PySem.Spec PyProof.Rows

section
variable {prog : Program} {w : World} {A : Around} {E : Value → Shared → Prop} {s : Shared} {x : Str} {t : Tok}
end
section
variable {X : Cx} {tg : Expr}
end
end L2

namespace L2
open PySem PySem.Spec PyProof.Rows

def clo (env : Env) (xs : List Str) : List (Str × Addr) := xs.map fun x => (x, (env.cells.lookup x).getD 0)
def CapsOk (env : Env) (scope : Scope) (xs caps : List Str) : Prop := ∀ x ∈ caps, env.kindOf x = some .cell ∧ (relabel scope env).names.lookup x = some .cell ∧ x ∈ xs
theorem capsOk_nil {env : Env} {scope : Scope} {xs : List Str} : CapsOk env scope xs [] := fun _ h => by cases h
theorem capsOk_cons {env : Env} {scope : Scope} {xs : List Str} {x : Str} {r : List Str} (h1 : env.kindOf x = some .cell) (h2 : (relabel scope env).names.lookup x = some .cell) (h3 : x ∈ xs) (h : CapsOk env scope xs r) : CapsOk env scope xs (x :: r) := fun y hy => by
  rcases List.mem_cons.mp hy with rfl | hy
  · exact ⟨h1, h2, h3⟩
  · exact h y hy
theorem clo_of {env : Env} {x : Str} {c : Addr} : ∀ {xs : List Str}, x ∈ xs → env.cells.lookup x = some c → (clo env xs).lookup x = some c
  | [], h, _ => by cases h
  | y :: r, h, e => by
    unfold clo
    rw [List.map_cons, List.lookup_cons]
    by_cases z : x = y
    · subst z; simp [e]
    · have zb : (x == y) = false := by simpa using z
      rw [zb]
      rcases List.mem_cons.mp h with q | q
      · exact absurd q z
      · exact clo_of q e
theorem clo_has {env : Env} {x : Str} : ∀ {xs : List Str}, x ∈ xs → ∃ c, (clo env xs).lookup x = some c
  | [], h => by cases h
  | y :: r, h => by
    unfold clo
    rw [List.map_cons, List.lookup_cons]
    by_cases z : x = y
    · subst z; exact ⟨_, by simp; rfl⟩
    · have zb : (x == y) = false := by simpa using z
      rw [zb]
      rcases List.mem_cons.mp h with q | q
      · exact absurd q z
      · exact clo_has q
theorem clo_sub {env : Env} {x : Str} {c : Addr} {xs : List Str} (hin : (xs.all fun x => (env.cells.lookup x).isSome) = true) (e : (clo env xs).lookup x = some c) : env.cells.lookup x = some c := by
  induction xs with
  | nil => cases e
  | cons y r ih =>
    unfold clo at e
    rw [List.map_cons, List.lookup_cons] at e
    rw [List.all_cons, Bool.and_eq_true] at hin
    by_cases z : x = y
    · subst z
      obtain ⟨a, ha⟩ := Option.isSome_iff_exists.mp hin.1
      rw [ha] at e ⊢
      simpa using e
    · have zb : (x == y) = false := by simpa using z
      rw [zb] at e
      exact ih hin.2 e
theorem caps_len {σ : St} {vs : List V} {is : List Nat} {N N' caps : List Str} {k : Nat} (hvs : is.map (fun i => σ[i]?) = vs.map fun v => some (some v)) (his : is.map (N[·]?) = caps.map some) (hN : N'.drop k = caps) (hk : k ≤ N'.length) :
    (List.replicate k (none : Option V) ++ vs.map some).length = N'.length := by
  have h1 := congrArg List.length hvs
  have h2 := congrArg List.length his
  have h3 := congrArg List.length hN
  simp only [List.length_map, List.length_drop, List.length_append, List.length_replicate] at *
  omega
theorem caps_at {σ : St} {vs : List V} {is : List Nat} {N N' caps : List Str} {k i : Nat} {x : Str} {v : V} (hvs : is.map (fun i => σ[i]?) = vs.map fun v => some (some v)) (his : is.map (N[·]?) = caps.map some) (hN : N'.drop k = caps)
    (e1 : N'[i]? = some x) (e2 : (List.replicate k (none : Option V) ++ vs.map some)[i]? = some (some v)) : ∃ j : Nat, N[j]? = some x ∧ x ∈ caps ∧ σ[j]? = some (some v) := by
  have hik : k ≤ i := by
    by_cases h : k ≤ i
    · exact h
    · rw [List.getElem?_append_left (by simpa using h), List.getElem?_replicate] at e2
      split at e2 <;> cases e2
  rw [List.getElem?_append_right (by simpa using hik), List.length_replicate] at e2
  have e1' : caps[i - k]? = some x := by rw [← hN, List.getElem?_drop, Nat.add_sub_cancel' hik]; exact e1
  have ev : vs[i - k]? = some v := by
    rw [List.getElem?_map] at e2
    cases z : vs[i - k]? with
    | none => rw [z] at e2; cases e2
    | some a => rw [z] at e2; cases e2; rfl
  have q1 := congrArg (·[i - k]?) hvs
  have q2 := congrArg (·[i - k]?) his
  simp only [List.getElem?_map, ev, e1', Option.map_some] at q1 q2
  cases z : is[i - k]? with
  | none => rw [z] at q1; cases q1
  | some j =>
    rw [z] at q1 q2
    exact ⟨j, Option.some.inj q2, List.mem_of_getElem? e1', Option.some.inj q1⟩
theorem caps_keep {σ : St} {vs : List V} {k : Nat} (h : σ.drop k = vs.map some) (i : Nat) (v : V) (e : (List.replicate k (none : Option V) ++ vs.map some)[i]? = some (some v)) : σ[i]? = some (some v) := by
  have hik : k ≤ i := by
    by_cases h : k ≤ i
    · exact h
    · rw [List.getElem?_append_left (by simpa using h), List.getElem?_replicate] at e
      split at e <;> cases e
  rw [List.getElem?_append_right (by simpa using hik), List.length_replicate, ← h, List.getElem?_drop, Nat.add_sub_cancel' hik] at e
  exact e
theorem all_of {names : List (Str × NameKind)} {xs : List Str} (h : (names.all fun y => !(y.2 == .cell || y.2 == .free) || xs.contains y.1) = true) : ∀ y ∈ names, (y.2 = .cell ∨ y.2 = .free) → y.1 ∈ xs := fun y hy hk => by
  have z := List.all_eq_true.mp h y hy
  rcases hk with e | e
  · rw [e] at z
    exact List.contains_iff_mem.mp (by simpa using z)
  · rw [e] at z
    exact List.contains_iff_mem.mp (by simpa using z)
def cxCompC (X : Cx) (N' : List Str) (scope : Scope) (xs : List Str) (C : Addr) (s0 : Shared) (H0 : Hp) (fp : List Addr) (pins : List (Addr × Obj)) : Cx where
  prog := X.prog
  w := X.w
  K := X.K
  mg := X.mg
  base := X.base
  A := X.A
  N := N'
  s₀ := s0
  H₀ := H0
  env := compEnvC scope (clo X.env xs) C X.env
  outer := X.stack
  stack := X.stack
  ex := fp
  fn := fun _ => false
  calm := X.calm
  pn := X.pn ++ pins
  xe := fun _ _ => False

def compKC (σ0 : St) (k : Nat) (cs : St) (g : TG) (te : TE) (Q : VK) : It → Hp → Prop := fun J H1 => ∀ D, H1 D = none → ∃ W : Nat → Nat → List V → Hp → Prop, (∃ m, W 0 m [] (upd H1 D (.lst []))) ∧
  ∀ i m ys H2, W i m ys H2 → H2 D = some (.lst ys) ∧ ((J.stop i H2 ∧ Q (.ref D) H2) ∨ (J.go i H2 ∧ ys.length < sizeLine ∧
    ∀ x H', J.yld i H2 x H' → g x σ0 H' fun σ2 H3 => σ2.drop k = cs ∧ te σ2 H3 fun y H4 => H4 D = some (.lst ys) ∧ ∃ m', m' < m ∧ W (i + 1) m' (ys ++ [y]) (upd H4 D (.lst (ys ++ [y])))))
def tCompC (is : List Nat) (k : Nat) (wi : TI) (g : TG) (te : TE) : TE := fun σ H Q => ∃ vs : List V, is.map (fun i => σ[i]?) = vs.map (fun v => some (some v)) ∧ wi σ H (compKC (List.replicate k none ++ vs.map some) k (vs.map some) g te Q)
def compKCI (σ0 : St) (k : Nat) (cs : St) (g : TG) (tt : TT) (te : TE) (Q : VK) : It → Hp → Prop := fun J H1 => ∀ D, H1 D = none → ∃ W : Nat → Nat → List V → Hp → Prop, (∃ m, W 0 m [] (upd H1 D (.lst []))) ∧
  ∀ i m ys H2, W i m ys H2 → H2 D = some (.lst ys) ∧ ((J.stop i H2 ∧ Q (.ref D) H2) ∨ (J.go i H2 ∧ ys.length < sizeLine ∧
    ∀ x H', J.yld i H2 x H' → g x σ0 H' fun σ2 H3 => σ2.drop k = cs ∧ tt σ2 H3 fun b H4 => if b = true then te σ2 H4 fun y H5 => H5 D = some (.lst ys) ∧ ∃ m', m' < m ∧ W (i + 1) m' (ys ++ [y]) (upd H5 D (.lst (ys ++ [y])))
      else ∃ m', m' < m ∧ W (i + 1) m' ys H4))
def tCompCI (is : List Nat) (k : Nat) (wi : TI) (g : TG) (tt : TT) (te : TE) : TE := fun σ H Q => ∃ vs : List V, is.map (fun i => σ[i]?) = vs.map (fun v => some (some v)) ∧ wi σ H (compKCI (List.replicate k none ++ vs.map some) k (vs.map some) g tt te Q)
section
variable {X : Cx} {elt tg iter cnd : Expr} {scope : Scope} {pos : Pos} {N' : List Str} {wi : TI} {g : TG} {te : TE} {tt : TT}
theorem pe_compC (xs caps : List Str) (is : List Nat) (k : Nat) (hclos : closureFor scope X.env = pure (clo X.env xs)) (hin : (xs.all fun x => (X.env.cells.lookup x).isSome) = true) (hcap : CapsOk X.env scope xs caps) (his : is.map (X.N[·]?) = caps.map some) (hN : N'.drop k = caps) (hk : k ≤ N'.length)
    (hallB : ((relabel scope X.env).names.all fun y => !(y.2 == .cell || y.2 == .free) || xs.contains y.1) = true) (hcell : ∀ y ∈ scope.names, y.2 ≠ .cell) (hkind : scope.kind = .function) (hnames : ∀ y ∈ scope.names, y.2 = .local → scope.names.lookup y.1 = some .local)
    (hcalm : X.calm = true) (hi : PI X tg iter wi) (hg : ∀ C s0 H0 fp pins, PG (cxCompC X N' scope xs C s0 H0 fp pins) tg g) (he : ∀ C s0 H0 fp pins, PE (cxCompC X N' scope xs C s0 H0 fp pins) elt te)
    (hs : ∀ x, foldedSetIterable iter X.env x = pure x := by intro _; rfl) : PE X (.ListComp elt [⟨tg, iter, [], 0⟩] scope pos) (tCompC is k wi g te) := by
  intro pins s σ H Q I h
  have hall := all_of hallB
  obtain ⟨vs, hvs, h⟩ := h
  rw [eval_ListComp]
  refine wpAny_comprehension_free (use := none) rfl hs hclos hkind hnames (thn (hi pins s σ H _ I h) fun v s1 h1 => thn h1 fun itv s2 h2 => ?_)
  obtain ⟨it, fp, tn, J, H2, e, I2, T, st2, f2, hW⟩ := h2
  subst e
  refine wpAny_newObj_type (wpAny_newFunctionEnv hcell (by intro y hy; simp at hy) (fun h₁ hns₁ hsb₁ => ?_) hkind)
  dsimp only at hns₁ hsb₁ ⊢
  generalize hH2 : s2.heap.push { cls := .type "list", dict := none, data := .seq ([] : List Value).toArray } = P2 at hns₁ hsb₁ ⊢
  have hC : P2.objs.size = s2.heap.objs.size + 1 := by rw [← hH2, Heap.size_push]
  have below : ∀ b, b < s2.heap.objs.size → b ≠ P2.objs.size ∧ b ≠ s2.heap.objs.size := fun b hb => ⟨by rw [hC]; exact Nat.ne_of_lt (Nat.lt_succ_of_lt hb), Nat.ne_of_lt hb⟩
  have hDC : s2.heap.objs.size ≠ P2.objs.size := by rw [hC]; exact Nat.ne_of_lt (Nat.lt_succ_self _)
  have old : ∀ b o, s2.heap.get? b = some o → h₁.get? b = some o := fun b o e => hsb₁.extBut b o (below b (Heap.lt_size e)).1 (Heap.get?_push_of_some _ (hH2 ▸ Heap.get?_push_of_some _ e))
  have hD : h₁.get? s2.heap.objs.size = some { cls := .type "list", dict := none, data := .seq ([] : List Value).toArray } := hsb₁.extBut _ _ hDC (Heap.get?_push_of_some _ (hH2 ▸ Heap.get?_push_size _ rfl))
  have frD : H2 s2.heap.objs.size = none := I2.hok.fresh (Nat.le_refl _)
  have frC : H2 P2.objs.size = none := I2.hok.fresh (by rw [hC]; exact Nat.le_succ _)
  have hfp : ∀ b ∈ fp, b < s2.heap.objs.size := fun b hb => by
    obtain ⟨o, e, _⟩ := T.obj _ _ st2 b hb
    exact Heap.lt_size e
  have nst : ∀ b, b ≠ X.env.locals → b ∉ X.fs → b ∉ frs X.stack := fun b n1 n2 z => by
    rcases List.mem_cons.mp (I2.stkSub b z) with e | e
    · exact n1 e
    · exact n2 e
  obtain ⟨W, ⟨m0, w0⟩, turn⟩ := hW s2.heap.objs.size frD
  have csub : ∀ (x : Str) (c : Addr), (clo X.env xs).lookup x = some c → X.env.cells.lookup x = some c := fun x c e => clo_sub hin e
  have cold : ∀ (x : Str) (c : Addr), (clo X.env xs).lookup x = some c → ∃ v, s2.heap.IsCell c v := fun x c e => I2.cell x c (csub x c e)
  have clt : ∀ (x : Str) (c : Addr), (clo X.env xs).lookup x = some c → c < s2.heap.objs.size := fun x c e => by
    obtain ⟨v, o, ho, _⟩ := cold x c e
    exact Heap.lt_size ho
  have ok' : (cxCompC X N' scope xs P2.objs.size s2 H2 fp pins).Ok := by
    refine ⟨I2.ok.mod, hkind, I2.ok.glob, I2.ok.blt, ?_, fun x y c e e' => I2.ok.inj x y c (csub x c e) (csub y c e'), fun x hx => ?_, (fun x c z _ => by cases z), I2.ok.hd, I2.ok.frames, .inl rfl, fun b hb => ⟨(below b (hfp b hb)).1, fun x c e => (f2 b hb).2.2.2.2.1 x c (csub x c e)⟩, I2.bs, Nat.le_trans I2.ok.bsz I2.sz, fun b o e hb => ?_, fun b hb => nst b (f2 b hb).2.1 (f2 b hb).2.2.1, I2.stack, I2.stkFree⟩
    · show s2.heap.objs.size ≤ P2.objs.size
      rw [hC]; exact Nat.le_succ _
    · have hx' : (relabel scope X.env).names.lookup x = some .cell ∨ (relabel scope X.env).names.lookup x = some .free := hx
      rcases hx' with z | z
      · exact clo_has (hall _ (PySem.mem_of_lookup z) (.inl rfl))
      · exact clo_has (hall _ (PySem.mem_of_lookup z) (.inr rfl))
    · rcases (f2 b hb).2.2.2.1 with z | z
      · exact I2.ok.noex b o e z
      · exact absurd (Nat.lt_of_lt_of_le (Heap.lt_size (I2.ok.bs b o e).1) z) (Nat.lt_irrefl _)
  have I' : Inv (cxCompC X N' scope xs P2.objs.size s2 H2 fp pins) [] (List.replicate k none ++ vs.map some) (upd H2 s2.heap.objs.size (.lst [])) { s2 with heap := h₁, toks := s2.toks + ([] : List (Str × Value)).length } := by
    refine ⟨ok', rfl, I2.bare, Un.laid old (Nat.le_refl _) frD, ⟨_, hns₁, fun i x v e1 e2 e3 => ?_⟩, fun x c e => ?_, ?_, fun x c e => ?_, fun p hp => ?_, I2.hok.laid old (Nat.le_refl _) ⟨by simp, [], 0, .nil, hD⟩, ?_⟩
    · obtain ⟨j, ej, hj1, hj2⟩ := caps_at hvs his hN e1 e2
      obtain ⟨hc1, hc2, hc3⟩ := hcap x hj1
      obtain ⟨m, hn, hl⟩ := I2.loc
      obtain ⟨u, r, l⟩ := hl j x v ej hj2 (.inr (.inl hc1))
      refine ⟨u, r, .inr ⟨.inl hc2, ?_⟩⟩
      rcases l with ⟨z, _⟩ | ⟨_, c, ec, ⟨o, ho, hd⟩⟩
      · rw [show X.env.kindOf x = some .cell from hc1] at z; cases z
      · exact ⟨c, clo_of hc3 ec, o, old _ _ ho, hd⟩
    · obtain ⟨v, o, ho, hd⟩ := cold x c e
      exact ⟨v, o, old _ _ ho, hd⟩
    · show upd H2 s2.heap.objs.size (.lst []) P2.objs.size = none
      rw [upd_ne (Ne.symm hDC)]; exact frC
    · show upd H2 s2.heap.objs.size (.lst []) c = none
      rw [upd_ne (below _ (clt x c e)).2]; exact I2.freeC x c (csub x c e)
    · have hp' : p ∈ X.pn ++ pins := by
        rcases List.mem_append.mp hp with z | z
        · exact z
        · cases z
      obtain ⟨a1, a2, a3, a4, a5⟩ := I2.pin p hp'
      refine ⟨old _ _ a1, ?_, (below _ (Heap.lt_size a1)).1, nst _ a3 a4, a5⟩
      rw [upd_ne (below _ (Heap.lt_size a1)).2]; exact a2
    · show (List.replicate k none ++ vs.map some).length = N'.length
      exact caps_len hvs his hN hk
  have stat : ∀ {H' : Hp}, (∀ b ∈ fp, H' b = none) → ∀ b ∈ fp, FpOk (cxCompC X N' scope xs P2.objs.size s2 H2 fp pins) [] H' b := fun {H'} hn b hb =>
    ⟨hn b hb, (below b (hfp b hb)).1, nst b (f2 b hb).2.1 (f2 b hb).2.2.1, .inl hb, fun x c e => (f2 b hb).2.2.2.2.1 x c (csub x c e), fun p hp => (f2 b hb).2.2.2.2.2 p (by
      rcases List.mem_append.mp hp with z | z
      · exact z
      · cases z)⟩
  have fin : ∀ (ys : List V) (σ' : St) (H' : Hp) (s' : Shared), Inv (cxCompC X N' scope xs P2.objs.size s2 H2 fp pins) [] σ' H' s' → Q (.ref s2.heap.objs.size) H' →
      ∃ m, s'.heap.Ns P2.objs.size m ∧ ∀ h', Heap.SameBut P2.objs.size s'.heap h' → EP X pins σ Q (.ref s2.heap.objs.size) { s' with heap := h' } := by
    intro ys σ' H' s' J1 q
    obtain ⟨m, hm, _⟩ := id J1.loc
    refine ⟨m, hm, fun h' sb => ⟨.ref s2.heap.objs.size, H', ?_, rfl, q⟩⟩
    have ne : ∀ b o, s2.heap.get? b = some o → b ≠ P2.objs.size := fun b o e => (below b (Heap.lt_size e)).1
    refine I2.call' (s' := { s' with heap := h' }) (ch := fp) J1.os ⟨fun b o e n hb hx => ?_, fun b o e n hb hx => ?_, fun b o e n hx => J1.base.free b o e n hx, fun b o e hx => ?_, J1.base.tups, J1.base.frzs, J1.base.tbls⟩ (J1.hok.but J1.free fun b u hb q => (sb.2 b hb).trans q) J1.bare fun b hb => ⟨(f2 b hb).2.2.2.1, (f2 b hb).2.1, (f2 b hb).2.2.2.2.1, (f2 b hb).2.2.2.2.2⟩
    · exact (sb.2 b (ne b o e)).trans (J1.base.keep b o e n hb hx)
    · obtain ⟨sl, z⟩ := J1.base.slot b o e n hb hx
      exact ⟨sl, (sb.2 b (ne b o e)).trans z⟩
    · obtain ⟨o', z⟩ := J1.base.there b o e hx
      exact ⟨o', (sb.2 b (ne b o e)).trans z⟩
  have loop : codeAny (model X.prog X.w) X.A (.compLoop (.ListComp elt [⟨tg, iter, [], 0⟩] scope pos) 0 (.ref it) (.ref s2.heap.objs.size) (compEnvC scope (clo X.env xs) P2.objs.size X.env))
      (compPost (model X.prog X.w) X.A X.xe none (EP X pins σ Q) (.ref s2.heap.objs.size) P2.objs.size)
      { s2 with heap := h₁, toks := s2.toks + ([] : List (Str × Value)).length } := by
    refine compLoop_go (fun n s' => ∃ i ys σ' H', σ'.drop k = vs.map some ∧ Inv (cxCompC X N' scope xs P2.objs.size s2 H2 fp pins) [] σ' H' s' ∧ tn i s'.heap ∧ (∀ b ∈ fp, H' b = none) ∧ W i n ys H') ?_ m0
      ⟨0, [], List.replicate k none ++ vs.map some, _, by simp, I', T.keep _ _ _ st2 (fun b hb o e => old b o e), fun b hb => by rw [upd_ne (below b (hfp b hb)).2]; exact (f2 b hb).1, w0⟩
    rintro n s3 ⟨i, ys, σ3, H3, hd3, J3, st3, fr3, w3⟩
    obtain ⟨hl, q3⟩ := turn i n ys H3 w3
    rcases q3 with ⟨stop, q⟩ | ⟨go, hlt, step⟩
    · refine thn (T.done (cxCompC X N' scope xs P2.objs.size s2 H2 fp pins) rfl rfl rfl hcalm i [] s3 σ3 H3 _ J3 (stat fr3) st3 stop) fun r s4 ⟨hr, J4⟩ => ?_
      subst hr
      exact fin ys σ3 H3 s4 J4 q
    · refine thn (T.item (cxCompC X N' scope xs P2.objs.size s2 H2 fp pins) rfl rfl rfl hcalm i [] s3 σ3 H3 _ J3 (stat fr3) st3 go) fun r s4 ⟨u, hr, h4⟩ => ?_
      subst hr
      refine thn h4 fun _ s5 ⟨x, H5, J5, r5, y5, st5, fr5⟩ => ?_
      have J5' := J5.pinned (stat fr5) (T.obj _ _ st5)
      have J6 : Inv (cxCompC X N' scope xs P2.objs.size s2 H2 fp pins) ([] ++ pinsAt fp s5.heap) (List.replicate k none ++ vs.map some) H5 s5 := J5'.weak (by rw [J5'.len]; exact caps_len hvs his hN hk) (caps_keep hd3)
      refine wpAny_mono (hg _ _ _ _ _ _ s5 _ H5 x u _ J6 r5 (step x H5 y5)) (fun _ s6 ⟨σ6, H6, J7, hd6, q6⟩ => ?_) fun _ _ z => False.elim z
      refine wpAny_mono (he _ _ _ _ _ _ s6 σ6 H6 _ J7 q6) (fun yv s7 ⟨y, H7, J8, r7, q7⟩ => ?_) fun _ _ z => False.elim z
      obtain ⟨hl7, m', hm', w7⟩ := q7
      refine wpAny_mono (mt_append (X := cxCompC X N' scope xs P2.objs.size s2 H2 fp pins) _ s7 σ6 H7 (.ref s2.heap.objs.size) [y] (.ref s2.heap.objs.size) [yv] (fun v H8 => H8 = upd H7 s2.heap.objs.size (.lst (ys ++ [y]))) J8 rfl (.cons r7 .nil) ⟨_, ys, y, rfl, rfl, hl7, hlt, rfl⟩) (fun _ s8 ⟨v8, H8, J9, r8, e8⟩ => ?_) fun _ _ z => False.elim z
      subst e8
      have pk : ∀ b ∈ fp, ∀ o, s5.heap.get? b = some o → s8.heap.get? b = some o ∧ upd H7 s2.heap.objs.size (.lst (ys ++ [y])) b = none := fun b hb o e =>
        let z := J9.pin (b, o) (List.mem_append_right _ (List.mem_append_right _ (mem_pinsAt hb e)))
        ⟨z.1, z.2.1⟩
      refine ⟨m', hm', i + 1, ys ++ [y], σ6, _, hd6, J9.unpinned, T.keep _ _ _ st5 fun b hb o e => (pk b hb o e).1, fun b hb => ?_, w7⟩
      obtain ⟨o, e, _⟩ := T.obj _ _ st5 b hb
      exact (pk b hb o e).2
  exact codeAny_compStart_list loop (T.self X.A 0 { s2 with heap := h₁, toks := s2.toks + ([] : List (Str × Value)).length } _ _ (T.keep _ _ _ st2 fun b hb o e => old b o e) loop)
theorem pe_compCI (xs caps : List Str) (is : List Nat) (k : Nat) (hclos : closureFor scope X.env = pure (clo X.env xs)) (hin : (xs.all fun x => (X.env.cells.lookup x).isSome) = true) (hcap : CapsOk X.env scope xs caps) (his : is.map (X.N[·]?) = caps.map some) (hN : N'.drop k = caps) (hk : k ≤ N'.length)
    (hallB : ((relabel scope X.env).names.all fun y => !(y.2 == .cell || y.2 == .free) || xs.contains y.1) = true) (hcell : ∀ y ∈ scope.names, y.2 ≠ .cell) (hkind : scope.kind = .function) (hnames : ∀ y ∈ scope.names, y.2 = .local → scope.names.lookup y.1 = some .local)
    (hcalm : X.calm = true) (hi : PI X tg iter wi) (hg : ∀ C s0 H0 fp pins, PG (cxCompC X N' scope xs C s0 H0 fp pins) tg g) (ht : ∀ C s0 H0 fp pins, PT (cxCompC X N' scope xs C s0 H0 fp pins) cnd tt) (he : ∀ C s0 H0 fp pins, PE (cxCompC X N' scope xs C s0 H0 fp pins) elt te)
    (hs : ∀ x, foldedSetIterable iter X.env x = pure x := by intro _; rfl) : PE X (.ListComp elt [⟨tg, iter, [cnd], 0⟩] scope pos) (tCompCI is k wi g tt te) := by
  intro pins s σ H Q I h
  have hall := all_of hallB
  obtain ⟨vs, hvs, h⟩ := h
  rw [eval_ListComp]
  refine wpAny_comprehension_free (use := none) rfl hs hclos hkind hnames (thn (hi pins s σ H _ I h) fun v s1 h1 => thn h1 fun itv s2 h2 => ?_)
  obtain ⟨it, fp, tn, J, H2, e, I2, T, st2, f2, hW⟩ := h2
  subst e
  refine wpAny_newObj_type (wpAny_newFunctionEnv hcell (by intro y hy; simp at hy) (fun h₁ hns₁ hsb₁ => ?_) hkind)
  dsimp only at hns₁ hsb₁ ⊢
  generalize hH2 : s2.heap.push { cls := .type "list", dict := none, data := .seq ([] : List Value).toArray } = P2 at hns₁ hsb₁ ⊢
  have hC : P2.objs.size = s2.heap.objs.size + 1 := by rw [← hH2, Heap.size_push]
  have below : ∀ b, b < s2.heap.objs.size → b ≠ P2.objs.size ∧ b ≠ s2.heap.objs.size := fun b hb => ⟨by rw [hC]; exact Nat.ne_of_lt (Nat.lt_succ_of_lt hb), Nat.ne_of_lt hb⟩
  have hDC : s2.heap.objs.size ≠ P2.objs.size := by rw [hC]; exact Nat.ne_of_lt (Nat.lt_succ_self _)
  have old : ∀ b o, s2.heap.get? b = some o → h₁.get? b = some o := fun b o e => hsb₁.extBut b o (below b (Heap.lt_size e)).1 (Heap.get?_push_of_some _ (hH2 ▸ Heap.get?_push_of_some _ e))
  have hD : h₁.get? s2.heap.objs.size = some { cls := .type "list", dict := none, data := .seq ([] : List Value).toArray } := hsb₁.extBut _ _ hDC (Heap.get?_push_of_some _ (hH2 ▸ Heap.get?_push_size _ rfl))
  have frD : H2 s2.heap.objs.size = none := I2.hok.fresh (Nat.le_refl _)
  have frC : H2 P2.objs.size = none := I2.hok.fresh (by rw [hC]; exact Nat.le_succ _)
  have hfp : ∀ b ∈ fp, b < s2.heap.objs.size := fun b hb => by
    obtain ⟨o, e, _⟩ := T.obj _ _ st2 b hb
    exact Heap.lt_size e
  have nst : ∀ b, b ≠ X.env.locals → b ∉ X.fs → b ∉ frs X.stack := fun b n1 n2 z => by
    rcases List.mem_cons.mp (I2.stkSub b z) with e | e
    · exact n1 e
    · exact n2 e
  obtain ⟨W, ⟨m0, w0⟩, turn⟩ := hW s2.heap.objs.size frD
  have csub : ∀ (x : Str) (c : Addr), (clo X.env xs).lookup x = some c → X.env.cells.lookup x = some c := fun x c e => clo_sub hin e
  have cold : ∀ (x : Str) (c : Addr), (clo X.env xs).lookup x = some c → ∃ v, s2.heap.IsCell c v := fun x c e => I2.cell x c (csub x c e)
  have clt : ∀ (x : Str) (c : Addr), (clo X.env xs).lookup x = some c → c < s2.heap.objs.size := fun x c e => by
    obtain ⟨v, o, ho, _⟩ := cold x c e
    exact Heap.lt_size ho
  have ok' : (cxCompC X N' scope xs P2.objs.size s2 H2 fp pins).Ok := by
    refine ⟨I2.ok.mod, hkind, I2.ok.glob, I2.ok.blt, ?_, fun x y c e e' => I2.ok.inj x y c (csub x c e) (csub y c e'), fun x hx => ?_, (fun x c z _ => by cases z), I2.ok.hd, I2.ok.frames, .inl rfl, fun b hb => ⟨(below b (hfp b hb)).1, fun x c e => (f2 b hb).2.2.2.2.1 x c (csub x c e)⟩, I2.bs, Nat.le_trans I2.ok.bsz I2.sz, fun b o e hb => ?_, fun b hb => nst b (f2 b hb).2.1 (f2 b hb).2.2.1, I2.stack, I2.stkFree⟩
    · show s2.heap.objs.size ≤ P2.objs.size
      rw [hC]; exact Nat.le_succ _
    · have hx' : (relabel scope X.env).names.lookup x = some .cell ∨ (relabel scope X.env).names.lookup x = some .free := hx
      rcases hx' with z | z
      · exact clo_has (hall _ (PySem.mem_of_lookup z) (.inl rfl))
      · exact clo_has (hall _ (PySem.mem_of_lookup z) (.inr rfl))
    · rcases (f2 b hb).2.2.2.1 with z | z
      · exact I2.ok.noex b o e z
      · exact absurd (Nat.lt_of_lt_of_le (Heap.lt_size (I2.ok.bs b o e).1) z) (Nat.lt_irrefl _)
  have I' : Inv (cxCompC X N' scope xs P2.objs.size s2 H2 fp pins) [] (List.replicate k none ++ vs.map some) (upd H2 s2.heap.objs.size (.lst [])) { s2 with heap := h₁, toks := s2.toks + ([] : List (Str × Value)).length } := by
    refine ⟨ok', rfl, I2.bare, Un.laid old (Nat.le_refl _) frD, ⟨_, hns₁, fun i x v e1 e2 e3 => ?_⟩, fun x c e => ?_, ?_, fun x c e => ?_, fun p hp => ?_, I2.hok.laid old (Nat.le_refl _) ⟨by simp, [], 0, .nil, hD⟩, ?_⟩
    · obtain ⟨j, ej, hj1, hj2⟩ := caps_at hvs his hN e1 e2
      obtain ⟨hc1, hc2, hc3⟩ := hcap x hj1
      obtain ⟨m, hn, hl⟩ := I2.loc
      obtain ⟨u, r, l⟩ := hl j x v ej hj2 (.inr (.inl hc1))
      refine ⟨u, r, .inr ⟨.inl hc2, ?_⟩⟩
      rcases l with ⟨z, _⟩ | ⟨_, c, ec, ⟨o, ho, hd⟩⟩
      · rw [show X.env.kindOf x = some .cell from hc1] at z; cases z
      · exact ⟨c, clo_of hc3 ec, o, old _ _ ho, hd⟩
    · obtain ⟨v, o, ho, hd⟩ := cold x c e
      exact ⟨v, o, old _ _ ho, hd⟩
    · show upd H2 s2.heap.objs.size (.lst []) P2.objs.size = none
      rw [upd_ne (Ne.symm hDC)]; exact frC
    · show upd H2 s2.heap.objs.size (.lst []) c = none
      rw [upd_ne (below _ (clt x c e)).2]; exact I2.freeC x c (csub x c e)
    · have hp' : p ∈ X.pn ++ pins := by
        rcases List.mem_append.mp hp with z | z
        · exact z
        · cases z
      obtain ⟨a1, a2, a3, a4, a5⟩ := I2.pin p hp'
      refine ⟨old _ _ a1, ?_, (below _ (Heap.lt_size a1)).1, nst _ a3 a4, a5⟩
      rw [upd_ne (below _ (Heap.lt_size a1)).2]; exact a2
    · show (List.replicate k none ++ vs.map some).length = N'.length
      exact caps_len hvs his hN hk
  have stat : ∀ {H' : Hp}, (∀ b ∈ fp, H' b = none) → ∀ b ∈ fp, FpOk (cxCompC X N' scope xs P2.objs.size s2 H2 fp pins) [] H' b := fun {H'} hn b hb =>
    ⟨hn b hb, (below b (hfp b hb)).1, nst b (f2 b hb).2.1 (f2 b hb).2.2.1, .inl hb, fun x c e => (f2 b hb).2.2.2.2.1 x c (csub x c e), fun p hp => (f2 b hb).2.2.2.2.2 p (by
      rcases List.mem_append.mp hp with z | z
      · exact z
      · cases z)⟩
  have fin : ∀ (ys : List V) (σ' : St) (H' : Hp) (s' : Shared), Inv (cxCompC X N' scope xs P2.objs.size s2 H2 fp pins) [] σ' H' s' → Q (.ref s2.heap.objs.size) H' →
      ∃ m, s'.heap.Ns P2.objs.size m ∧ ∀ h', Heap.SameBut P2.objs.size s'.heap h' → EP X pins σ Q (.ref s2.heap.objs.size) { s' with heap := h' } := by
    intro ys σ' H' s' J1 q
    obtain ⟨m, hm, _⟩ := id J1.loc
    refine ⟨m, hm, fun h' sb => ⟨.ref s2.heap.objs.size, H', ?_, rfl, q⟩⟩
    have ne : ∀ b o, s2.heap.get? b = some o → b ≠ P2.objs.size := fun b o e => (below b (Heap.lt_size e)).1
    refine I2.call' (s' := { s' with heap := h' }) (ch := fp) J1.os ⟨fun b o e n hb hx => ?_, fun b o e n hb hx => ?_, fun b o e n hx => J1.base.free b o e n hx, fun b o e hx => ?_, J1.base.tups, J1.base.frzs, J1.base.tbls⟩ (J1.hok.but J1.free fun b u hb q => (sb.2 b hb).trans q) J1.bare fun b hb => ⟨(f2 b hb).2.2.2.1, (f2 b hb).2.1, (f2 b hb).2.2.2.2.1, (f2 b hb).2.2.2.2.2⟩
    · exact (sb.2 b (ne b o e)).trans (J1.base.keep b o e n hb hx)
    · obtain ⟨sl, z⟩ := J1.base.slot b o e n hb hx
      exact ⟨sl, (sb.2 b (ne b o e)).trans z⟩
    · obtain ⟨o', z⟩ := J1.base.there b o e hx
      exact ⟨o', (sb.2 b (ne b o e)).trans z⟩
  have loop : codeAny (model X.prog X.w) X.A (.compLoop (.ListComp elt [⟨tg, iter, [cnd], 0⟩] scope pos) 0 (.ref it) (.ref s2.heap.objs.size) (compEnvC scope (clo X.env xs) P2.objs.size X.env))
      (compPost (model X.prog X.w) X.A X.xe none (EP X pins σ Q) (.ref s2.heap.objs.size) P2.objs.size)
      { s2 with heap := h₁, toks := s2.toks + ([] : List (Str × Value)).length } := by
    refine compLoop_if (fun n s' => ∃ i ys σ' H', σ'.drop k = vs.map some ∧ Inv (cxCompC X N' scope xs P2.objs.size s2 H2 fp pins) [] σ' H' s' ∧ tn i s'.heap ∧ (∀ b ∈ fp, H' b = none) ∧ W i n ys H') ?_ m0
      ⟨0, [], List.replicate k none ++ vs.map some, _, by simp, I', T.keep _ _ _ st2 (fun b hb o e => old b o e), fun b hb => by rw [upd_ne (below b (hfp b hb)).2]; exact (f2 b hb).1, w0⟩
    rintro n s3 ⟨i, ys, σ3, H3, hd3, J3, st3, fr3, w3⟩
    obtain ⟨hl, q3⟩ := turn i n ys H3 w3
    rcases q3 with ⟨stop, q⟩ | ⟨go, hlt, step⟩
    · refine thn (T.done (cxCompC X N' scope xs P2.objs.size s2 H2 fp pins) rfl rfl rfl hcalm i [] s3 σ3 H3 _ J3 (stat fr3) st3 stop) fun r s4 ⟨hr, J4⟩ => ?_
      subst hr
      exact fin ys σ3 H3 s4 J4 q
    · refine thn (T.item (cxCompC X N' scope xs P2.objs.size s2 H2 fp pins) rfl rfl rfl hcalm i [] s3 σ3 H3 _ J3 (stat fr3) st3 go) fun r s4 ⟨u, hr, h4⟩ => ?_
      subst hr
      refine thn h4 fun _ s5 ⟨x, H5, J5, r5, y5, st5, fr5⟩ => ?_
      have J5' := J5.pinned (stat fr5) (T.obj _ _ st5)
      have J6 : Inv (cxCompC X N' scope xs P2.objs.size s2 H2 fp pins) ([] ++ pinsAt fp s5.heap) (List.replicate k none ++ vs.map some) H5 s5 := J5'.weak (by rw [J5'.len]; exact caps_len hvs his hN hk) (caps_keep hd3)
      refine wpAny_mono (hg _ _ _ _ _ _ s5 _ H5 x u _ J6 r5 (step x H5 y5)) (fun _ s6 ⟨σ6, H6, J7, hd6, q6⟩ => ?_) fun _ _ z => False.elim z
      refine wpAny_mono (ht _ _ _ _ _ _ s6 σ6 H6 _ J7 q6) (fun ok s6b ⟨H6b, J7b, q6b⟩ => ?_) fun _ _ z => False.elim z
      cases ok with
      | false =>
        rw [if_neg (by decide)]
        rw [if_neg (by decide)] at q6b
        obtain ⟨m', hm', w7⟩ := q6b
        have pk : ∀ b ∈ fp, ∀ o, s5.heap.get? b = some o → s6b.heap.get? b = some o ∧ H6b b = none := fun b hb o e =>
          let z := J7b.pin (b, o) (List.mem_append_right _ (List.mem_append_right _ (mem_pinsAt hb e)))
          ⟨z.1, z.2.1⟩
        refine ⟨m', hm', i + 1, ys, σ6, _, hd6, J7b.unpinned, T.keep _ _ _ st5 fun b hb o e => (pk b hb o e).1, fun b hb => ?_, w7⟩
        obtain ⟨o, e, _⟩ := T.obj _ _ st5 b hb
        exact (pk b hb o e).2
      | true =>
        rw [if_pos rfl]
        rw [if_pos rfl] at q6b
        refine wpAny_mono (he _ _ _ _ _ _ s6b σ6 H6b _ J7b q6b) (fun yv s7 ⟨y, H7, J8, r7, q7⟩ => ?_) fun _ _ z => False.elim z
        obtain ⟨hl7, m', hm', w7⟩ := q7
        refine wpAny_mono (mt_append (X := cxCompC X N' scope xs P2.objs.size s2 H2 fp pins) _ s7 σ6 H7 (.ref s2.heap.objs.size) [y] (.ref s2.heap.objs.size) [yv] (fun v H8 => H8 = upd H7 s2.heap.objs.size (.lst (ys ++ [y]))) J8 rfl (.cons r7 .nil) ⟨_, ys, y, rfl, rfl, hl7, hlt, rfl⟩) (fun _ s8 ⟨v8, H8, J9, r8, e8⟩ => ?_) fun _ _ z => False.elim z
        subst e8
        have pk : ∀ b ∈ fp, ∀ o, s5.heap.get? b = some o → s8.heap.get? b = some o ∧ upd H7 s2.heap.objs.size (.lst (ys ++ [y])) b = none := fun b hb o e =>
          let z := J9.pin (b, o) (List.mem_append_right _ (List.mem_append_right _ (mem_pinsAt hb e)))
          ⟨z.1, z.2.1⟩
        refine ⟨m', hm', i + 1, ys ++ [y], σ6, _, hd6, J9.unpinned, T.keep _ _ _ st5 fun b hb o e => (pk b hb o e).1, fun b hb => ?_, w7⟩
        obtain ⟨o, e, _⟩ := T.obj _ _ st5 b hb
        exact (pk b hb o e).2
  exact codeAny_compStart_list loop (T.self X.A 0 { s2 with heap := h₁, toks := s2.toks + ([] : List (Str × Value)).length } _ _ (T.keep _ _ _ st2 fun b hb o e => old b o e) loop)
end
end L2

namespace L2
open PySem PySem.Spec PyProof.Rows

def Ite (K : PySem.W.Frag) (l : Addr) : It :=
  ⟨fun i H => ∃ xs x, SqL K H l xs ∧ xs[i]? = some x,
   fun i H v H' => ∃ p x, H p = none ∧ v = .ref p ∧ H' = upd H p (.tup [.int (i : Int), x]) ∧ ∀ xs, SqL K H l xs → xs[i]? = some x,
   fun i H => ∃ xs, SqL K H l xs ∧ xs.length ≤ i⟩
theorem turn_enum {P : Program} {w : World} {K : PySem.W.Frag} {elts : List Expr} {kk : Nat} {tp : Pos} {e it l : Addr} (hne : e ≠ it) (hl1 : l ≠ e) (hl2 : l ≠ it) :
    Turn P w K (.Tuple elts kk tp) (Ite K l) [e, it] e (fun i h => (∃ old, IsEnum h e it (i : Int) old) ∧ h.IsListIter it l i) where
  mem := by simp
  obj := fun i h st b hb => by
    obtain ⟨⟨old, he⟩, ⟨o, ho, hc, hd⟩⟩ := st
    simp only [List.mem_cons, List.not_mem_nil, or_false] at hb
    rcases hb with rfl | rfl
    · exact ⟨_, he, fun v q => by cases q⟩
    · exact ⟨o, ho, fun v q => by rw [hd] at q; cases q⟩
  keep := fun i h h' st k => by
    obtain ⟨⟨old, he⟩, ⟨o, ho, r⟩⟩ := st
    exact ⟨⟨old, k _ (by simp) _ he⟩, ⟨o, k _ (by simp) _ ho, r⟩⟩
  item := by
    intro X hP hw hK hc i pins s σ H E I hf st hg
    subst hP hw hK
    obtain ⟨⟨old, he⟩, hit⟩ := st
    obtain ⟨xs, x, q1, hx⟩ := hg
    obtain ⟨us, r1, pl, _⟩ := I.list q1
    obtain ⟨x', hx', rx⟩ := r1.get hx
    have hn : H s.heap.objs.size = none := I.hok.fresh (Nat.le_refl _)
    refine wpAny_pyNext_enum_item he hit pl.isList (x := x') (by simpa using hx') hne fun g z' j1 tp' sz kp => ⟨_, rfl, ?_⟩
    have lt : ∀ {b : Addr} {o : Obj}, s.heap.get? b = some o → s.heap.objs.size ≠ b := fun e => Nat.ne_of_gt (Heap.lt_size e)
    refine wpAny_letOwnedTupleGo_enum z' fun g' z'' sb => ?_
    have I1 : Inv X pins σ (upd H s.heap.objs.size (.tup [.int (i : Int), x])) { s with heap := s.heap.push { cls := .type "tuple", data := .seq #[.int i s.toks, x'] } } :=
      I.laid (t' := s.toks) (fun b u e => Heap.get?_push_of_some _ e) (Nat.le_refl _) ⟨(by show 2 ≤ sizeLine; decide), [.int i s.toks, x'], .cons ⟨_, rfl⟩ (.cons rx .nil), ⟨_, Heap.get?_push_size _ rfl, rfl, _, rfl⟩⟩
    obtain ⟨oi, hoi, _⟩ := id hit
    have fp' : ∀ b ∈ [e, it], s.heap.objs.size ≠ b ∧ upd H s.heap.objs.size (.tup [.int (i : Int), x]) b = none := fun b hb => by
      have q : s.heap.objs.size ≠ b := by
        simp only [List.mem_cons, List.not_mem_nil, or_false] at hb
        rcases hb with rfl | rfl
        · exact lt he
        · exact lt hoi
      exact ⟨q, by rw [upd_ne (Ne.symm q)]; exact (hf b hb).1⟩
    have I2 : Inv X pins σ (upd H s.heap.objs.size (.tup [.int (i : Int), x])) { s with heap := g', toks := s.toks + 1 } := by
      refine Inv.turnedL (s := { s with heap := s.heap.push { cls := .type "tuple", data := .seq #[.int i s.toks, x'] } }) (h' := g') (t' := s.toks + 1) (L := [e, it]) I1 (fun b o hb q => ?_) fun b hb => ?_
      · have b1 : b ≠ e := fun z => hb (by simp [z])
        have b2 : b ≠ it := fun z => hb (by simp [z])
        rcases Heap.get?_push_cases q with ⟨e1, e2⟩ | e1
        · subst e1 e2
          exact sb.extBut _ _ b1 tp'
        · exact sb.extBut _ _ b1 (kp b o b1 b2 e1)
      · obtain ⟨f0, f1, f2, f3, f4, f5⟩ := hf b hb
        exact ⟨(fp' b hb).2, f1, f2, f3, f4, f5⟩
    refine ⟨.ref s.heap.objs.size, _, I2, rfl, ⟨_, x, hn, rfl, rfl, fun zs hq => ?_⟩, ⟨⟨_, by exact_mod_cast z''⟩, j1.extBut sb.extBut (Ne.symm hne)⟩, fun b hb => (fp' b hb).2⟩
    rw [I.list_inj hq q1]; exact hx
  done := by
    intro X hP hw hK hc i pins s σ H E I hf st hg
    subst hP hw hK
    obtain ⟨⟨old, he⟩, hit⟩ := st
    obtain ⟨xs, q1, hge⟩ := hg
    obtain ⟨us, r1, pl, _⟩ := I.list q1
    have e1 := r1.length
    refine wpAny_pyNext_enum_end (I.ok.hd hc) he hit pl.isList (by simp; omega) fun g kp => ⟨rfl, I.turnedL (t' := s.toks) (L := [e, it]) (fun b o hb q => kp b o (fun z => hb (by simp [z])) q) fun b hb => hf b hb⟩
  self := fun _ _ _ _ _ st h => let ⟨⟨_, he⟩, _⟩ := st; wpAny_pyIter_enum he h
section
variable {X : Cx}
def iEnum (K : PySem.W.Frag) (ta : TA) : TI := fun σ H R => ta σ H fun vs H1 => ∃ l, vs = [.ref l] ∧ (∃ xs, SqL K H1 l xs) ∧ R (Ite K l) H1
theorem bt_enum : bootBuiltins "enumerate" = some (.type "enumerate") := by decide +kernel
theorem pi_enumerate {a : Expr} {ta : TA} {p pos : Pos} {elts : List Expr} {kk : Nat} {tp : Pos} (hg : Gl X "enumerate") (hm : X.mg "enumerate" = none) (ha : PA X [a] ta)
    (hs : starEach [a] X.env = (false, eval a X.env) :: starEach [] X.env := by rfl) (hpl : (backTo pos (starEach [] X.env)).any (·.1) = false := by rfl) :
    PI X (.Tuple elts kk tp) (.Call (.Name "enumerate" p) [a] [] pos) (iEnum X.K ta) := by
  intro pins s σ H R I h
  refine Call_ (ld_blt I hg hm bt_enum (PyProof.Rows.callWith_type1 (thn (ha pos pins s σ H _ I h) fun us s1 ⟨vs, H1, I1, r1, q1⟩ => ?_) hs hpl))
  obtain ⟨l, e, ⟨xs, q1⟩, q⟩ := q1
  subst e
  obtain ⟨u, rfl, ru⟩ := vals1 r1
  cases ru
  obtain ⟨its, r, pl, _⟩ := I1.list q1
  have hlt : l < s1.heap.objs.size := by obtain ⟨_, e, _⟩ := pl.isList; exact Heap.lt_size e
  refine call_enumerate_list pl.isList fun g he hit sz kp => wpAny_pyIter_enum he ?_
  refine ⟨_, [s1.heap.objs.size + 1, s1.heap.objs.size], _, _, H1, rfl, I1.kept (t' := s1.toks) kp, turn_enum (l := l) (Nat.succ_ne_self _) (Nat.ne_of_lt (Nat.lt_succ_of_lt hlt)) (Nat.ne_of_lt hlt), ⟨⟨_, he⟩, hit⟩, fun b hb => ?_, q⟩
  have hb' : s1.heap.objs.size ≤ b := by
    simp only [List.mem_cons, List.not_mem_nil, or_false] at hb
    rcases hb with h | h
    · rw [h]; exact Nat.le_add_right _ _
    · rw [h]; exact Nat.le_refl _
  exact I1.fpOk hb' (I1.hok.fresh hb')
end
theorem for_enum {K : PySem.W.Frag} {l : Addr} {xs : List V} {g : TG} {tb : TS} {D : Ends} {σ : St} {H : Hp} (Pv : Nat → St → Hp → Prop) (h0 : Pv 0 σ H) (hl : ∀ i σ H, Pv i σ H → SqL K H l xs)
    (hs : ∀ i x p σ H, xs[i]? = some x → Pv i σ H → H p = none → g (.ref p) σ (upd H p (.tup [.int (i : Int), x])) fun σ2 H2 => tb { D with nx := Pv (i + 1), ct := Pv (i + 1), bk := D.nx } σ2 H2) (hd : ∀ σ H, Pv xs.length σ H → D.nx σ H) :
    ∃ W : Nat → Nat → St → Hp → Prop, (∃ m, W 0 m σ H) ∧ ∀ i m σ H, W i m σ H →
      ((Ite K l).stop i H ∧ D.nx σ H) ∨ ((Ite K l).go i H ∧ ∃ N : St → Hp → Prop, (∀ σ' H', N σ' H' → ∃ m', m' < m ∧ W (i + 1) m' σ' H') ∧ ∀ x H', (Ite K l).yld i H x H' → g x σ H' fun σ2 H2 => tb { D with nx := N, ct := N, bk := D.nx } σ2 H2) := by
  refine ⟨fun i m σ H => m = xs.length - i ∧ i ≤ xs.length ∧ Pv i σ H, ⟨_, rfl, Nat.zero_le _, h0⟩, ?_⟩
  rintro i m σ H ⟨rfl, hi, p⟩
  have q := hl i σ H p
  by_cases hlt : i < xs.length
  · refine .inr ⟨⟨xs, xs[i], q, by simp [hlt]⟩, Pv (i + 1), fun σ' H' p' => ⟨_, by omega, rfl, hlt, p'⟩, fun v H' y => ?_⟩
    obtain ⟨a, x, hn, rfl, rfl, hx⟩ := y
    exact hs i x a σ H (hx xs q) p hn
  · have e : i = xs.length := by omega
    subst e
    exact .inl ⟨⟨xs, q, Nat.le_refl _⟩, hd σ H p⟩

mutual
inductive Dat (H : Hp) : V → PyData → Prop
  | non : Dat H .non .none
  | bl (b : Bool) : Dat H (.bl b) (.bool b)
  | int (i : Int) : Dat H (.int i) (.int i)
  | str (x : Str) : Dat H (.str x) (.str x)
  | lst {a : Addr} {xs : List V} {ds : List PyData} : H a = some (.lst xs) → Dats H xs ds → Dat H (.ref a) (.list ds)
  | tup {a : Addr} {xs : List V} {ds : List PyData} : H a = some (.tup xs) → Dats H xs ds → Dat H (.ref a) (.tuple ds)
inductive Dats (H : Hp) : List V → List PyData → Prop
  | nil : Dats H [] []
  | cons {x : V} {xs : List V} {d : PyData} {ds : List PyData} : Dat H x d → Dats H xs ds → Dats H (x :: xs) (d :: ds)
end
section
variable {P : Program} {w : World} {H : Hp} {h : Heap}
mutual
theorem Dat.reads (ok : HOk P w H h) : ∀ {x : V} {d : PyData} {u : Value}, Dat H x d → RelV x u → ∃ as, Reads h u d as
  | _, _, u, .non, r => by cases (show u = Value.none from r); exact ⟨_, .none⟩
  | _, _, u, .bl b, r => by cases (show u = Value.bool b from r); exact ⟨_, .bool b⟩
  | _, _, u, .int i, r => by obtain ⟨t, rfl⟩ := r; exact ⟨_, .int i t⟩
  | _, _, u, .str x, r => by obtain ⟨t, rfl⟩ := r; exact ⟨_, .str x t⟩
  | _, _, u, .lst (a := a) e q, r => by
    cases (show u = Value.ref a from r)
    obtain ⟨_, its, n, rv, g⟩ := ok a _ e
    obtain ⟨as, rs⟩ := Dats.reads ok q rv
    exact ⟨_, .list g rfl rfl rs⟩
  | _, _, u, .tup (a := a) e q, r => by
    cases (show u = Value.ref a from r)
    obtain ⟨_, its, rv, o, g, c, n, dd⟩ := ok a _ e
    obtain ⟨as, rs⟩ := Dats.reads ok q rv
    exact ⟨_, .tuple g c dd rs⟩
theorem Dats.reads (ok : HOk P w H h) : ∀ {xs : List V} {ds : List PyData} {us : List Value}, Dats H xs ds → Vals xs us → ∃ as, ReadsAll h us ds as
  | _, _, _, .nil, .nil => ⟨_, .nil⟩
  | _, _, _, .cons p q, .cons r s => by
    obtain ⟨as, x⟩ := Dat.reads ok p r
    obtain ⟨bs, y⟩ := Dats.reads ok q s
    exact ⟨_, .cons x y⟩
end
end
def rEqD (neg : Bool) : R2 := fun x y H Q => ∃ d1 d2, Dat H x d1 ∧ Dat H y d2 ∧ SeqAt.shaped d1 = true ∧ SeqAt.shaped d2 = true ∧ Q (.bl (if neg then !PyData.eqv d1 d2 else PyData.eqv d1 d2)) H
section
variable {X : Cx}
theorem op_eqD {k : Nat} (hr : Room k X.A) : OpR X (compareOp .Eq) (rEqD false) := by
  intro pins s σ H x y v u Q I rx ry h
  obtain ⟨d1, d2, p, q, s1, s2, h⟩ := h
  obtain ⟨as, r1⟩ := p.reads I.hok rx
  obtain ⟨bs, r2⟩ := q.reads I.hok ry
  exact eq_dataH r1 r2 s1 s2 hr.units ⟨.bl _, H, I, rfl, h⟩
theorem op_neD {k : Nat} (hr : Room k X.A) : OpR X (compareOp .NotEq) (rEqD true) := by
  intro pins s σ H x y v u Q I rx ry h
  obtain ⟨d1, d2, p, q, s1, s2, h⟩ := h
  obtain ⟨as, r1⟩ := p.reads I.hok rx
  obtain ⟨bs, r2⟩ := q.reads I.hok ry
  exact ne_dataH r1 r2 s1 s2 hr.units ⟨.bl _, H, I, rfl, h⟩
end
end L2

namespace L2
open PySem PySem.Spec PyProof.Rows
section
variable {X : Cx}
theorem call_any (hc : X.calm = true) : CallR X (.builtin "any") (fun xs H Q => ∃ (a : Addr) (bs : List Bool), xs = [.ref a] ∧ SqL X.K H a (bs.map V.bl) ∧ Q (.bl (bs.any id)) H) := by
  intro pins s σ H xs us Q I r h
  obtain ⟨a, bs, rfl, hS, q⟩ := h
  obtain ⟨u, rfl, ru⟩ := vals1 r
  cases ru
  obtain ⟨its, rv, pl, _⟩ := I.list hS
  have hb := boolsAre_of rv
  have hlt : a < s.heap.objs.size := by obtain ⟨_, e, _⟩ := pl.isList; exact Heap.lt_size e
  refine call_any_walk (wpAny_pyIter_list pl.isList ?_)
  refine ⟨s.heap.objs.size, [s.heap.objs.size, a], [s.heap.objs.size], its.toArray.size, _, _, fun i => (bs[i]?).getD false, rfl, Walks.list (A := X.A.in1) (I.ok.hd hc) _ a (Nat.ne_of_lt hlt) its.toArray,
    ⟨⟨_, Heap.get?_push_size _ rfl, rfl, rfl⟩, pl.isList.push _⟩, fun i v s' Q' E' hP hQ => ?_, fun h' tk hk => ?_⟩
  · obtain ⟨b, e, rfl⟩ := hb.get i v (by simpa using hP)
    simp only [e, Option.getD_some] at hQ
    exact wpAny_truthy_bool hQ
  · have e : ((List.range its.toArray.size).any fun i => (bs[i]?).getD false) = bs.any id := by
      rw [List.size_toArray, hb.length]; exact LSm.range_any bs
    rw [e]
    exact ⟨.bl _, H, I.kept (LSm.kept_iter hk), rfl, q⟩
end
section
variable {X : Cx} {K : PySem.W.Frag}

theorem ix_tupK (hK : X.K = K := by rfl) : IxR X (rIxT K) := hK ▸ ix_tup
end

section
variable {K : PySem.W.Frag} {σ0 cs : St} {k : Nat} {g : TG} {te : TE} {tt : TT} {H1 : Hp} {Q : VK}
theorem compC_by {J : It} (n : Nat) (gv : Nat → V → Prop) (Pv : Addr → Nat → List V → Hp → Prop) (hn : n ≤ sizeLine)
    (hgo : ∀ D i ys H, i < n → Pv D i ys H → J.go i H) (hst : ∀ D ys H, Pv D n ys H → J.stop n H) (hy : ∀ D i ys H x H', i < n → Pv D i ys H → J.yld i H x H' → H' = H ∧ gv i x)
    (hl : ∀ D i ys H, Pv D i ys H → H D = some (.lst ys) ∧ ys.length ≤ i) (h0 : ∀ D, H1 D = none → Pv D 0 [] (upd H1 D (.lst [])))
    (hs : ∀ D i x ys H, i < n → gv i x → H1 D = none → Pv D i ys H → g x σ0 H fun σ2 H3 => σ2.drop k = cs ∧ te σ2 H3 fun y H4 => H4 D = some (.lst ys) ∧ Pv D (i + 1) (ys ++ [y]) (upd H4 D (.lst (ys ++ [y]))))
    (hd : ∀ D ys H, H1 D = none → Pv D n ys H → Q (.ref D) H) (mono : ∀ x σ H (R R' : St → Hp → Prop), (∀ σ' H', R σ' H' → R' σ' H') → g x σ H R → g x σ H R')
    (mono2 : ∀ σ H (R R' : VK), (∀ v H', R v H' → R' v H') → te σ H R → te σ H R') : compKC σ0 k cs g te Q J H1 := by
  intro D hD
  refine ⟨fun i m ys H => m = n - i ∧ i ≤ n ∧ Pv D i ys H, ⟨n, rfl, Nat.zero_le _, h0 D hD⟩, ?_⟩
  rintro i m ys H ⟨rfl, hi, p⟩
  obtain ⟨e1, e2⟩ := hl D i ys H p
  refine ⟨e1, ?_⟩
  by_cases hlt : i < n
  · refine .inr ⟨hgo D i ys H hlt p, by omega, fun x H' y => ?_⟩
    obtain ⟨rfl, hx⟩ := hy D i ys H x H' hlt p y
    refine mono _ _ _ _ _ (fun σ2 H3 ⟨z1, z2⟩ => ⟨z1, mono2 _ _ _ _ (fun v H4 ⟨z3, z4⟩ => ⟨z3, n - (i + 1), by omega, rfl, hlt, z4⟩) z2⟩) (hs D i x ys H' hlt hx hD p)
  · have e : i = n := by omega
    subst e
    exact .inl ⟨hst D ys H p, hd D ys H hD p⟩
theorem compCI_by {J : It} (n : Nat) (gv : Nat → V → Prop) (Pv : Addr → Nat → List V → Hp → Prop) (hn : n ≤ sizeLine)
    (hgo : ∀ D i ys H, i < n → Pv D i ys H → J.go i H) (hst : ∀ D ys H, Pv D n ys H → J.stop n H) (hy : ∀ D i ys H x H', i < n → Pv D i ys H → J.yld i H x H' → H' = H ∧ gv i x)
    (hl : ∀ D i ys H, Pv D i ys H → H D = some (.lst ys) ∧ ys.length ≤ i) (h0 : ∀ D, H1 D = none → Pv D 0 [] (upd H1 D (.lst [])))
    (hs : ∀ D i x ys H, i < n → gv i x → H1 D = none → Pv D i ys H → g x σ0 H fun σ2 H3 => σ2.drop k = cs ∧ tt σ2 H3 fun b H4 => if b = true then te σ2 H4 fun y H5 => H5 D = some (.lst ys) ∧ Pv D (i + 1) (ys ++ [y]) (upd H5 D (.lst (ys ++ [y]))) else Pv D (i + 1) ys H4)
    (hd : ∀ D ys H, H1 D = none → Pv D n ys H → Q (.ref D) H) (mono : ∀ x σ H (R R' : St → Hp → Prop), (∀ σ' H', R σ' H' → R' σ' H') → g x σ H R → g x σ H R')
    (mono2 : ∀ σ H (R R' : VK), (∀ v H', R v H' → R' v H') → te σ H R → te σ H R') (mono3 : ∀ σ H (R R' : Bool → Hp → Prop), (∀ v H', R v H' → R' v H') → tt σ H R → tt σ H R') : compKCI σ0 k cs g tt te Q J H1 := by
  intro D hD
  refine ⟨fun i m ys H => m = n - i ∧ i ≤ n ∧ Pv D i ys H, ⟨n, rfl, Nat.zero_le _, h0 D hD⟩, ?_⟩
  rintro i m ys H ⟨rfl, hi, p⟩
  obtain ⟨e1, e2⟩ := hl D i ys H p
  refine ⟨e1, ?_⟩
  by_cases hlt : i < n
  · refine .inr ⟨hgo D i ys H hlt p, by omega, fun x H' y => ?_⟩
    obtain ⟨rfl, hx⟩ := hy D i ys H x H' hlt p y
    refine mono _ _ _ _ _ (fun σ2 H3 ⟨z1, z2⟩ => ⟨z1, mono3 _ _ _ _ (fun b H4 z => ?_) z2⟩) (hs D i x ys H' hlt hx hD p)
    cases b with
    | true =>
      rw [if_pos rfl] at z ⊢
      exact mono2 _ _ _ _ (fun v H5 ⟨z3, z4⟩ => ⟨z3, n - (i + 1), by omega, rfl, hlt, z4⟩) z
    | false =>
      rw [if_neg (by decide)] at z ⊢
      exact ⟨n - (i + 1), by omega, rfl, hlt, z⟩
  · have e : i = n := by omega
    subst e
    exact .inl ⟨hst D ys H p, hd D ys H hD p⟩
theorem compC_list {a : Addr} (xs : List V) (Pv : Addr → Nat → List V → Hp → Prop) (hn : xs.length ≤ sizeLine) (hq : ∀ D i ys H, Pv D i ys H → SqL K H a xs)
    (hl : ∀ D i ys H, Pv D i ys H → H D = some (.lst ys) ∧ ys.length ≤ i) (h0 : ∀ D, H1 D = none → Pv D 0 [] (upd H1 D (.lst [])))
    (hs : ∀ D i x ys H, xs[i]? = some x → H1 D = none → Pv D i ys H → g x σ0 H fun σ2 H3 => σ2.drop k = cs ∧ te σ2 H3 fun y H4 => H4 D = some (.lst ys) ∧ Pv D (i + 1) (ys ++ [y]) (upd H4 D (.lst (ys ++ [y]))))
    (hd : ∀ D ys H, H1 D = none → Pv D xs.length ys H → Q (.ref D) H) (mono : ∀ x σ H (R R' : St → Hp → Prop), (∀ σ' H', R σ' H' → R' σ' H') → g x σ H R → g x σ H R')
    (mono2 : ∀ σ H (R R' : VK), (∀ v H', R v H' → R' v H') → te σ H R → te σ H R') : compKC σ0 k cs g te Q (Itl K a) H1 :=
  compC_by xs.length (fun i x => xs[i]? = some x) Pv hn (fun D i ys H hi p => ⟨xs, xs[i], hq D i ys H p, by simp [hi]⟩) (fun D ys H p => ⟨xs, hq D _ ys H p, Nat.le_refl _⟩)
    (fun D i ys H x H' hi p y => ⟨y.1, y.2 xs (hq D i ys H p)⟩) hl h0 (fun D i x ys H hi hx hD p => hs D i x ys H hx hD p) hd mono mono2
end
inductive Tr where
  | col (i : Int)
  | four (a b c d : Tr)
deriving DecidableEq
def Tr.data : Tr → PyData
  | .col i => .int i
  | .four a b c d => .tuple [a.data, b.data, c.data, d.data]
def Tr.deep : Tr → Nat
  | .col _ => 0
  | .four a b c d => max a.deep (max b.deep (max c.deep d.deep)) + 1
def Tr.isCol : Tr → Bool
  | .col _ => true
  | .four .. => false
inductive TrAt (H : Hp) : V → Tr → Prop
  | col (i : Int) : TrAt H (.int i) (.col i)
  | four {p : Addr} {a b c d : V} {ta tb tc td : Tr} : H p = some (.tup [a, b, c, d]) → TrAt H a ta → TrAt H b tb → TrAt H c tc → TrAt H d td → TrAt H (.ref p) (.four ta tb tc td)

def Tups (H H' : Hp) : Prop := ∀ b xs, H b = some (.tup xs) → H' b = some (.tup xs)
theorem Same.tups {H H' : Hp} (s : Same H H') : Tups H H' := fun b xs e => s b _ e
theorem Tups.trans {H H' H'' : Hp} (s : Tups H H') (t : Tups H' H'') : Tups H H'' := fun b xs e => t b xs (s b xs e)
theorem Tups.lst {H : Hp} {l : Addr} {xs ys : List V} (e : H l = some (.lst xs)) : Tups H (upd H l (.lst ys)) := fun b zs q => by
  rw [upd_ne (ne_of q e (by intro z; cases z))]; exact q
theorem TrAt.up {H H' : Hp} (s : Tups H H') : ∀ {v : V} {t : Tr}, TrAt H v t → TrAt H' v t
  | _, _, .col i => .col i
  | _, _, .four e a b c d => .four (s _ _ e) (TrAt.up s a) (TrAt.up s b) (TrAt.up s c) (TrAt.up s d)
theorem TrAt.dat {H : Hp} : ∀ {v : V} {t : Tr}, TrAt H v t → Dat H v t.data
  | _, _, .col i => .int i
  | _, _, .four e a b c d => .tup e (.cons a.dat (.cons b.dat (.cons c.dat (.cons d.dat .nil))))
theorem Tr.eqv : ∀ t u : Tr, PyData.eqv t.data u.data = decide (t = u)
  | .col i, .col j => by
    show (i == j) = _
    by_cases h : i = j <;> simp [h]
  | .col i, .four .. => by
    show false = _
    simp
  | .four .., .col j => by
    show false = _
    simp
  | .four a b c d, .four a' b' c' d' => by
    show (PyData.eqv a.data a'.data && (PyData.eqv b.data b'.data && (PyData.eqv c.data c'.data && (PyData.eqv d.data d'.data && true)))) = _
    rw [Tr.eqv a a', Tr.eqv b b', Tr.eqv c c', Tr.eqv d d']
    by_cases h1 : a = a' <;> by_cases h2 : b = b' <;> by_cases h3 : c = c' <;> by_cases h4 : d = d' <;> simp [h1, h2, h3, h4]
theorem Tr.lay : ∀ t : Tr, t.data.canLay0 = true
  | .col i => rfl
  | .four a b c d => by
    show (a.data.canLay0 && (b.data.canLay0 && (c.data.canLay0 && (d.data.canLay0 && true)))) = true
    rw [Tr.lay a, Tr.lay b, Tr.lay c, Tr.lay d]; rfl
theorem Tr.depth : ∀ t : Tr, t.data.depth = t.deep
  | .col i => rfl
  | .four a b c d => by
    show max a.data.depth (max b.data.depth (max c.data.depth (max d.data.depth 0))) + 1 = _
    rw [Tr.depth a, Tr.depth b, Tr.depth c, Tr.depth d, Nat.max_zero]; rfl
theorem Tr.shaped {t : Tr} (h : t.deep ≤ 64) : SeqAt.shaped t.data = true := by
  unfold SeqAt.shaped
  rw [Tr.lay, Tr.depth, decide_eq_true h]; rfl
theorem TrAt.ty {K : PySem.W.Frag} {H : Hp} {v : V} {t : Tr} (h : TrAt H v t) : TyOf K H v (if t.isCol then .type "int" else .type "tuple") := by
  cases h with
  | col i => exact .int i
  | four e => exact .tup e
end L2

namespace L2
open PySem PySem.Spec PyProof.Rows

section
variable {X : Cx} {elt tg iter cnd : Expr} {scope : Scope} {pos : Pos} {N' : List Str} {wi : TI} {g : TG} {te : TE} {tt : TT}
end
end L2

namespace L2
open PySem PySem.Spec PyProof.Rows
section
variable {X : Cx}
end
end L2

namespace L2
open PySem PySem.Spec PyProof.Rows
section
variable {X : Cx} {pos : Pos}

theorem pg_tupK {K : PySem.W.Frag} {es : List Expr} {k : Nat} {t : TGs} {n : Nat} (hc : X.calm = true) (h : PGs X es t) (hK : X.K = K := by rfl)
    (hn : (assignEach es X.env).length = n := by rfl) (hst : (assignEach es X.env).findIdx? (·.1) = none := by rfl) : PG X (.Tuple es k pos) (gTup K n t) := by
  subst hK
  exact pg_tup hc h hn hst
end
end L2

namespace L2
open PySem PySem.Spec PyProof.Rows

def tCut (t : TS) : TS := fun D σ H => ∃ Pv : St → Hp → Prop, t { D with nx := Pv } σ H ∧ ∀ σ' H', Pv σ' H' → D.nx σ' H'
section
variable {X : Cx} {st : Stmt} {t : TS}
theorem ps_cut (h : PS X st t) : PS X st (tCut t) := by
  intro pins s σ H D I ⟨Pv, h1, h2⟩
  refine thn (h pins s σ H { D with nx := Pv } I h1) fun f s1 q => ?_
  cases f with
  | next =>
    obtain ⟨σ', H', I', q⟩ := q
    exact ⟨σ', H', I', h2 _ _ q⟩
  | ret v => exact q
  | brk => exact q
  | cont => exact q
end
end L2

namespace L2
open PySem PySem.Spec PyProof.Rows
section
variable {prog : Program} {w : World} {A : Around} {E : Value → Shared → Prop} {s : Shared}

end
section
variable {prog : Program} {w : World} {A : Around} {E : Value → Shared → Prop} {s : Shared}
end
section
variable {X : Cx} {tg : Expr}
end
end L2

namespace L2
open PySem PySem.Spec PyProof.Rows
section
variable {K : PySem.W.Frag} {σ0 cs : St} {k : Nat} {g : TG} {te : TE} {tt : TT} {H1 : Hp} {Q : VK}
theorem compCI_list {a : Addr} (xs : List V) (Pv : Addr → Nat → List V → Hp → Prop) (hn : xs.length ≤ sizeLine) (hq : ∀ D i ys H, Pv D i ys H → SqL K H a xs)
    (hl : ∀ D i ys H, Pv D i ys H → H D = some (.lst ys) ∧ ys.length ≤ i) (h0 : ∀ D, H1 D = none → Pv D 0 [] (upd H1 D (.lst [])))
    (hs : ∀ D i x ys H, xs[i]? = some x → H1 D = none → Pv D i ys H → g x σ0 H fun σ2 H3 => σ2.drop k = cs ∧ tt σ2 H3 fun b H4 => if b = true then te σ2 H4 fun y H5 => H5 D = some (.lst ys) ∧ Pv D (i + 1) (ys ++ [y]) (upd H5 D (.lst (ys ++ [y]))) else Pv D (i + 1) ys H4)
    (hd : ∀ D ys H, H1 D = none → Pv D xs.length ys H → Q (.ref D) H) (mono : ∀ x σ H (R R' : St → Hp → Prop), (∀ σ' H', R σ' H' → R' σ' H') → g x σ H R → g x σ H R')
    (mono2 : ∀ σ H (R R' : VK), (∀ v H', R v H' → R' v H') → te σ H R → te σ H R') (mono3 : ∀ σ H (R R' : Bool → Hp → Prop), (∀ v H', R v H' → R' v H') → tt σ H R → tt σ H R') : compKCI σ0 k cs g tt te Q (Itl K a) H1 :=
  compCI_by xs.length (fun i x => xs[i]? = some x) Pv hn (fun D i ys H hi p => ⟨xs, xs[i], hq D i ys H p, by simp [hi]⟩) (fun D ys H p => ⟨xs, hq D _ ys H p, Nat.le_refl _⟩)
    (fun D i ys H x H' hi p y => ⟨y.1, y.2 xs (hq D i ys H p)⟩) hl h0 (fun D i x ys H hi hx hD p => hs D i x ys H hx hD p) hd mono mono2 mono3
end
section
variable {X : Cx} {K : PySem.W.Frag} {o e : Expr} {es : List Expr} {to : TE} {t : TA} {name : Str} {apos cpos : Pos} {T id : String} {r : V → List V → Hp → VK → Prop}
end
end L2

namespace L2
open PySem PySem.Spec PySem.Calls PyProof.Rows
section
variable {X : Cx}
end
section
variable {K : PySem.W.Frag} {σ0 cs : St} {k : Nat} {g : TG} {te : TE} {tt : TT} {H1 : Hp} {Q : VK}
end
end L2

namespace L2
open PySem PySem.Spec PySem.Calls PyProof.Rows
section
variable {X : Cx} {K : PySem.W.Frag}
end
end L2

namespace L2
open PySem PySem.Spec PySem.Calls PyProof.Rows

section
variable {P : Program} {w : World} {K : PySem.W.Frag} {mg : Str → Option Value} {base : Heap}
end
section
variable {X : Cx} {CX : CXT} {j k : Nat} {ps : List Str} {sp : Sp} {x : Str} {p pos : Pos} {e : Expr} {es : List Expr} {t : TA}
end
end L2


namespace Qs
open PySem L2
theorem len_eq (z : Str) : z.length = z.cps.toList.length := by
  show z.cps.size = z.cps.toList.length
  rw [Array.length_toList]

def IsC (z : Str) : Prop := ∀ c ∈ z.cps.toList, 48 ≤ c ∧ c ≤ 51
def dig (z : Str) : List Nat := z.cps.toList.map (· - 48)
def cxs (ds : List Nat) : Nat := ds.foldl (fun a d => a * 2 + d % 2) 0
def cys (ds : List Nat) : Nat := ds.foldl (fun a d => a * 2 + d / 2) 0
theorem cxs_snoc (ds : List Nat) (d : Nat) : cxs (ds ++ [d]) = cxs ds * 2 + d % 2 := by simp [cxs]
theorem cys_snoc (ds : List Nat) (d : Nat) : cys (ds ++ [d]) = cys ds * 2 + d / 2 := by simp [cys]
theorem dig_len (z : Str) : (dig z).length = z.length := by simp [dig, len_eq]
theorem dig_at {z : Str} {i : Nat} (h : i < z.length) : (dig z)[i]? = some (z.cps.getD i 0 - 48) := by
  have h' : i < z.cps.size := h
  simp [dig, Array.getD_eq_getD_getElem?, h']
theorem dig_take {z : Str} {i : Nat} (h : i < z.length) : (dig z).take (i + 1) = (dig z).take i ++ [z.cps.getD i 0 - 48] := by
  rw [List.take_succ, dig_at h]; rfl
theorem sgn_in {z : Str} {i : Nat} (hz : IsC z) (h : i < z.length) : 48 ≤ z.cps.getD i 0 ∧ z.cps.getD i 0 ≤ 51 := by
  have h' : i < z.cps.size := h
  refine hz _ ?_
  have e : z.cps.getD i 0 = z.cps[i] := by simp [Array.getD_eq_getD_getElem?, h']
  rw [e]
  exact Array.getElem_mem_toList h'

def one (d : Nat) : Str := ⟨#[48 + d]⟩
theorem sgn_one {z : Str} {i : Nat} (hz : IsC z) (h : i < z.length) : ∃ d, d < 4 ∧ sgn z i = one d ∧ z.cps.getD i 0 - 48 = d := by
  obtain ⟨h1, h2⟩ := sgn_in hz h
  refine ⟨z.cps.getD i 0 - 48, by omega, ?_, rfl⟩
  unfold sgn one
  have e : 48 + (z.cps.getD i 0 - 48) = z.cps.getD i 0 := by omega
  rw [e]
theorem four {P : Nat → Prop} (h0 : P 0) (h1 : P 1) (h2 : P 2) (h3 : P 3) {d : Nat} (h : d < 4) : P d := by
  rcases d with _ | _ | _ | _ | d
  · exact h0
  · exact h1
  · exact h2
  · exact h3
  · omega
theorem int_one {d : Nat} (h : d < 4) : PySem.intText? (one d) = some (d : Int) :=
  four (P := fun d => PySem.intText? (one d) = some (d : Int)) (by decide +kernel) (by decide +kernel) (by decide +kernel) (by decide +kernel) h
theorem IsC.nil : IsC ⟨#[]⟩ := fun c h => by simp at h
theorem IsC.app {a b : Str} (ha : IsC a) (hb : IsC b) : IsC (a ++ b) := fun c h => by
  have e : (a ++ b).cps.toList = a.cps.toList ++ b.cps.toList := by
    show (a.cps ++ b.cps).toList = _
    simp
  rw [e] at h
  rcases List.mem_append.mp h with h | h
  · exact ha c h
  · exact hb c h
theorem IsC.one {d : Nat} (h : d < 4) : IsC (one d) := fun c hc => by
  have e : c = 48 + d := by simpa [Qs.one] using hc
  omega
end Qs

namespace L2
open PySem PySem.Spec PyProof.Rows
section
variable {X : Cx}
theorem pe_gint {x : Str} {i : Int} {pos : Pos} (h : ∃ t, X.mg x = some (.int i t)) (hg : Gl X x := by rfl) (hd : (x == ("__debug__" : Str)) = false := by decide) : PE X (.Name x pos) (tC (.int i)) := by
  obtain ⟨t, h⟩ := h
  exact pe_glob hg h ⟨t, rfl⟩ hd
theorem pe_gstr {x z : Str} {pos : Pos} (h : ∃ t, X.mg x = some (.str z t)) (hg : Gl X x := by rfl) (hd : (x == ("__debug__" : Str)) = false := by decide) : PE X (.Name x pos) (tC (.str z)) := by
  obtain ⟨t, h⟩ := h
  exact pe_glob hg h ⟨t, rfl⟩ hd
end
section
variable {X : Cx}
theorem pe_bty {x : Str} {n : String} {pos : Pos} (hm : X.mg x = none) (hv : bootBuiltins x = some (.type n)) (hg : Gl X x := by rfl) (hn : x ≠ "__name__" := by decide) (hd : (x == ("__debug__" : Str)) = false := by decide) : PE X (.Name x pos) (tC (.ty n)) :=
  pe_bltn hg hm hv rfl hn hd
theorem nd1 (x : Str) : [x].Nodup := by simp
end

theorem comp_of {n : Nat} {g' : Nat → V} {g : TG} {te : TE} {N' : List Str} {H1 : Hp} {Q : VK} (F : Nat → V) (hn : n ≤ sizeLine)
    (hs : ∀ i H' R, i < n → R (F i) H' → g (g' i) (List.replicate N'.length none) H' fun σ2 H3 => te σ2 H3 R) (hd : ∀ D, H1 D = none → Q (.ref D) (upd H1 D (.lst ((List.range n).map F)))) :
    compK N' g te Q (Itg n g') H1 := by
  intro D hD
  refine ⟨fun i m ys H2 => m = n - i ∧ i ≤ n ∧ ys = (List.range i).map F ∧ H2 = upd H1 D (.lst ys), ⟨n, rfl, Nat.zero_le _, rfl, rfl⟩, ?_⟩
  rintro i m ys H2 ⟨rfl, hi, rfl, rfl⟩
  refine ⟨upd_same, ?_⟩
  by_cases hlt : i < n
  · refine .inr ⟨hlt, by simp; omega, fun x H' y => ?_⟩
    obtain ⟨e, y⟩ := y
    subst e y
    refine hs i _ _ hlt ⟨upd_same, n - (i + 1), by omega, rfl, hlt, ?_, ?_⟩
    · rw [List.range_succ, List.map_append]; rfl
    · rw [upd_upd]
  · have e : i = n := by omega
    subst e
    exact .inl ⟨Nat.le_refl _, hd D hD⟩
theorem Same.new {H : Hp} {p : Addr} (h : H p = none) (o : HO) : Same H (upd H p o) := fun b u q => by rw [upd_ne (ne_of_none q h)]; exact q
theorem Same.set {H : Hp} {H' : Hp} {p : Addr} (h : Same H H') (hp : H p = none) (o : HO) : Same H (upd H' p o) := fun b u q => by rw [upd_ne (ne_of_none q hp)]; exact h b u q
theorem powB {k : Nat} (h : k ≤ 63) : -(2 ^ 64) < ((2 ^ k : Nat) : Int) ∧ ((2 ^ k : Nat) : Int) < 2 ^ 64 := by
  have h1 := Nat.pow_le_pow_right (show 0 < 2 by decide) h
  generalize (2 ^ k : Nat) = m at h1
  omega
theorem small {n : Nat} (h : n ≤ 1000) : n ≤ sizeLine := Nat.le_of_lt (small1000 h)
end L2

namespace L2
open PySem PySem.Spec PyProof.Rows
def notStar : PySem.Expr → Bool
  | .Starred _ _ => false
  | _ => true
theorem star_of {e : PySem.Expr} {es : List PySem.Expr} {env : Env} (h : notStar e = true) : starEach (e :: es) env = (false, eval e env) :: starEach es env := by
  cases e <;> first | rfl | (cases h)
theorem pa_c {X : Cx} {e : PySem.Expr} {es : List PySem.Expr} {te : TE} {t : TA} (ha : PE X e te) (hr : PA X es t) (h : notStar e = true := by rfl) : PA X (e :: es) (tCons te t) := pa_cons ha hr (star_of h)
end L2
namespace L2
open PySem PySem.Spec PyProof.Rows
end L2
namespace L2
open PySem PySem.Spec PyProof.Rows

structure PAx (X : Cx) (es : List PySem.Expr) (t : TA) : Prop where
  h : PA X es t
section
variable {X : Cx} {e : PySem.Expr} {es : List PySem.Expr} {te : TE} {t : TA} {pos : Pos}
theorem pax_nil : PAx X [] tNil := ⟨pa_nil⟩
theorem pax_c (ha : PE X e te) (hr : PAx X es t) (h : notStar e = true := by rfl) : PAx X (e :: es) (tCons te t) := ⟨pa_c ha hr.h h⟩
theorem pe_tupx {x1} (h : PAx X es t) : PE X (.Tuple es x1 pos) (tTup t) := pe_tup h.h
theorem pe_lstx (h : PAx X es t) : PE X (.List es pos) (tLst t) := pe_lst h.h
end
end L2

namespace L2
open PySem PySem.Spec PySem.Calls PyProof.Rows

section
variable {X : Cx}
end
section
variable {X : Cx} {st : Stmt} {rest : List Stmt} {t u : TS}
end
section
variable {P : Program} {w : World} {K : PySem.W.Frag} {mg : Str → Option Value} {base : Heap}
end
end L2

namespace L2
open PySem PySem.Spec PySem.Calls PyProof.Rows
section
variable {X : Cx}

end

namespace HT
section
variable {prog : Program} {w : World} {A : Around} {E : Value → Shared → Prop} {s : Shared}
end
end HT
section
variable {X : Cx}
end

section
variable {X : Cx}
end
end L2

namespace L2
open PySem PySem.Spec PySem.Calls PyProof.Rows
section
variable {K : PySem.W.Frag} {σ0 cs : St} {k : Nat} {g : TG} {te : TE} {H1 : Hp} {Q : VK}

end
section
variable {X : Cx}

end
end L2

namespace L2
open PySem PySem.Spec PySem.Calls PyProof.Rows

theorem zip_no_len : typeLookup (.type "zip") "__len__" = pure none := by rw [typeLookup_type, builtinLookup_eq_fast]; kernel_rfl
theorem zip_no_hint : typeLookup (.type "zip") "__length_hint__" = pure none := by rw [typeLookup_type, builtinLookup_eq_fast]; kernel_rfl

abbrev IsZipB (h : Heap) (z TI TO : Addr) (f0 : Value) (b : Bool) : Prop :=
  h.get? z = some { cls := .type "zip", dict := none, data := .fields #[f0, .bool b, .bool false, .ref TI, .ref TO], slots := #[] }

def ZS (k1 k2 : SK) (z TI TO i1 i2 l1 l2 : Addr) (n : Nat) (h : Heap) : Prop :=
  (IsZipB h z TI TO .none false ∨ ∃ (T : Addr) (o : Obj) (b : Bool), IsZipB h z TI TO (rawInt T) b ∧ T ≠ z ∧ T ≠ TO ∧ T ≠ i1 ∧ T ≠ i2 ∧ h.get? T = some o) ∧ (∃ a b, IsPair h TO a b) ∧ IsPair h TI (.ref i1) (.ref i2) ∧ k1.it h i1 l1 n ∧ k2.it h i2 l2 n
section
variable {prog : Program} {w : World} {A : Around} {E : Value → Shared → Prop} {s : Shared}
theorem loadIf_ {M : Model} {a : Addr} {Q : Option Obj → Shared → Prop} (h : Q (s.heap.get? a) s) : wpAny M A (loadIfAlive a) Q E s := fun Γ p _ => by
  unfold loadIfAlive
  rw [Sem.wp_loadIfAlive]
  exact h
theorem ZS.keep {k1 k2 : SK} {z TI TO i1 i2 l1 l2 : Addr} {n : Nat} {h h' : Heap} {S : Addr} (x : ZS k1 k2 z TI TO i1 i2 l1 l2 n h) (hS : ∀ b o, b ≠ S → h.get? b = some o → h'.get? b = some o)
    (hT : ∀ o, h.get? S = some o → ∃ o', h'.get? S = some o') (n1 : z ≠ S) (n2 : TI ≠ S) (n3 : TO ≠ S) (n4 : i1 ≠ S) (n5 : i2 ≠ S) : ZS k1 k2 z TI TO i1 i2 l1 l2 n h' := by
  obtain ⟨x, ⟨ta, tb, y0⟩, p, a, b⟩ := x
  refine ⟨?_, ⟨ta, tb, hS _ _ n3 y0⟩, hS _ _ n2 p, SK.it_at a fun o e => hS _ _ n4 e, SK.it_at b fun o e => hS _ _ n5 e⟩
  rcases x with x | ⟨T, o, b', x, t1, t2, t3, t4, y⟩
  · exact .inl (hS _ _ n1 x)
  · by_cases hTS : T = S
    · subst hTS
      obtain ⟨o', e⟩ := hT o y
      exact .inr ⟨T, o', b', hS _ _ n1 x, t1, t2, t3, t4, e⟩
    · exact .inr ⟨T, o, b', hS _ _ n1 x, t1, t2, t3, t4, hS _ _ hTS y⟩
theorem zip_item2 {k1 k2 : SK} {z TI TO i1 i2 l1 l2 T : Addr} {o : Obj} {fb : Bool} {n : Nat} {xs ys : Array Value} {x y a b : Value} {Q : Option Value → Shared → Prop} (D : ZAp z TI TO i1 i2) (o1 : Off z TO i1 i2 l1) (o2 : Off z TO i1 i2 l2)
    (hz : IsZipB s.heap z TI TO (rawInt T) fb) (hTz : T ≠ z) (hTo : s.heap.get? T = some o) (hTI : IsPair s.heap TI (.ref i1) (.ref i2)) (hTO : IsPair s.heap TO a b) (h1 : k1.it s.heap i1 l1 n) (h2 : k2.it s.heap i2 l2 n) (s1 : k1.sq s.heap l1 xs) (s2 : k2.sq s.heap l2 ys)
    (hx : xs[n]? = some x) (hy : ys[n]? = some y)
    (hQ : ∀ h' fb', IsZipB h' z TI TO (rawInt T) fb' → IsPair h' TI (.ref i1) (.ref i2) → IsPair h' TO a b → k1.it h' i1 l1 (n + 1) → k2.it h' i2 l2 (n + 1) → IsPair h' s.heap.objs.size x y → Kp z TO i1 i2 s.heap h' → Q (some (.ref s.heap.objs.size)) { s with heap := h' }) :
    wpAny (model prog w) A (pyNext (.ref z)) Q E s := by
  have hT : s.TypeIs (.ref z) "zip" := ⟨_, hz, rfl⟩
  unfold pyNext
  refine wpAny_bind (wpAny_attempt (wpAny_callSpecial?_slot (name := Str.ofString "__next__") hT F.slot_zip_next (wpAny_call_entry F.slot_zip_next hT F.entry_zip_next ?_ (F.args_zip_next_1 _))))
  show wpAny _ _ (field (.ref z) 2 >>= _) _ _ _
  refine wpAny_bind (wpAny_field hz rfl (x := .bool false) rfl ?_)
  show wpAny _ _ (field (.ref z) 3 >>= _) _ _ _
  refine wpAny_bind (wpAny_field hz rfl (x := .ref TI) rfl ?_)
  refine wpAny_bind (wpAny_seqItems hTI rfl ?_)
  show wpAny _ _ (Builtin.SmallTypes.ownedTupleIsFree (.ref z) >>= _) _ _ _
  refine wpAny_bind ?_
  unfold Builtin.SmallTypes.ownedTupleIsFree
  refine wpAny_bind (wpAny_field hz rfl (x := rawInt T) rfl ?_)
  show wpAny _ _ (loadIfAlive ((T : Int)).toNat >>= _) _ _ _
  rw [Int.toNat_natCast]
  refine wpAny_bind (loadIf_ ?_)
  rw [hTo]
  show wpAny _ _ (field (.ref z) 1 >>= _) _ _ _
  refine wpAny_bind (wpAny_field hz rfl (x := .bool fb) rfl ?_)
  refine wpAny_mono (Q := fun a s' => a = false ∧ ∃ h0 fb', s' = { s with heap := h0 } ∧ IsZipB h0 z TI TO (rawInt T) fb' ∧ Heap.SameBut z s.heap h0) ?_ (fun a s' q => ?_) (fun _ _ h => h)
  · cases fb with
    | true => exact wpAny_pure ⟨rfl, s.heap, true, rfl, hz, ⟨rfl, fun _ _ => rfl⟩⟩
    | false => exact wpAny_bind (wpAny_setField_rec hz (by simp) fun g1 z1 b1 => wpAny_pure ⟨rfl, g1, true, rfl, z1, b1⟩)
  obtain ⟨rfl, h0, fb', rfl, hz0, b0⟩ := q
  show wpAny _ _ (forIn #[Value.ref i1, Value.ref i2] _ _ >>= _) _ _ _
  rw [← Array.forIn_toList]
  refine wpAny_bind ?_
  simp only [List.forIn_cons, List.forIn_nil]
  refine wpAny_bind (wpAny_bind (wpAny_holding ?_))
  show wpAny _ _ (Builtin.SmallTypes.nextOf (.ref i1) >>= _) _ _ _
  refine wpAny_bind (SK.next (SK.it_at h1 fun o e => b0.extBut _ _ D.i1z e) (SK.sq_at s1 fun o e => b0.extBut _ _ o1.z e) hx fun g2 j1 b2 => wpAny_pure (wpAny_pure ?_))
  refine wpAny_bind (wpAny_bind (wpAny_holding ?_))
  show wpAny _ _ (Builtin.SmallTypes.nextOf (.ref i2) >>= _) _ _ _
  refine wpAny_bind (SK.next (SK.it_at h2 fun o e => b2.extBut _ _ D.i12.symm (b0.extBut _ _ D.i2z e)) (SK.sq_at s2 fun o e => b2.extBut _ _ o2.i1 (b0.extBut _ _ o2.z e)) hy fun g4 j2 b4 => wpAny_pure (wpAny_pure (wpAny_pure ?_)))
  show wpAny _ _ (newTuple [x, y] >>= _) _ _ _
  refine wpAny_bind (wpAny_newTuple ?_)
  have sz : g4.objs.size = s.heap.objs.size := by rw [b4.1, b2.1, b0.1]
  refine wpAny_pure ⟨_, rfl, ?_⟩
  have up : ∀ c o, c ≠ z → c ≠ i1 → c ≠ i2 → s.heap.get? c = some o → (g4.push { cls := .type "tuple", data := .seq #[x, y] }).get? c = some o := fun c o c1 c2 c3 e => Heap.get?_push_of_some _ (b4.extBut _ _ c3 (b2.extBut _ _ c2 (b0.extBut _ _ c1 e)))
  have tp : IsPair (g4.push { cls := .type "tuple", data := .seq #[x, y] }) g4.objs.size x y := Heap.get?_push_size _ rfl
  rw [sz] at tp
  show wpAny _ _ (pure (some (Value.ref g4.objs.size))) _ _ _
  rw [sz]
  exact wpAny_pure (hQ _ fb' (Heap.get?_push_of_some _ (b4.extBut _ _ D.i2z.symm (b2.extBut _ _ D.i1z.symm hz0))) (up _ _ D.TIz D.TIi1 D.TIi2 hTI) (up _ _ D.TOz D.TOi1 D.TOi2 hTO)
    (SK.it_at j1 fun o e => Heap.get?_push_of_some _ (b4.extBut _ _ D.i12 e)) (SK.it_at j2 fun o e => Heap.get?_push_of_some _ e) tp fun c o f e => up c o f.z f.i1 f.i2 e)
theorem zip_stop2 {k1 k2 : SK} {z TI TO i1 i2 l1 l2 T : Addr} {o : Obj} {fb : Bool} {n : Nat} {xs ys : Array Value} {Q : Option Value → Shared → Prop} (hh : A.handled = none) (D : ZAp z TI TO i1 i2) (o1 : Off z TO i1 i2 l1) (o2 : Off z TO i1 i2 l2)
    (hz : IsZipB s.heap z TI TO (rawInt T) fb) (hTo : s.heap.get? T = some o) (hTI : IsPair s.heap TI (.ref i1) (.ref i2)) (h1 : k1.it s.heap i1 l1 n) (h2 : k2.it s.heap i2 l2 n) (s1 : k1.sq s.heap l1 xs) (s2 : k2.sq s.heap l2 ys)
    (hend : xs[n]? = none ∨ ys[n]? = none) (hQ : ∀ h', Kp z TO i1 i2 s.heap h' → Q none { s with heap := h' }) : wpAny (model prog w) A (pyNext (.ref z)) Q E s := by
  have hT : s.TypeIs (.ref z) "zip" := ⟨_, hz, rfl⟩
  have fin : ∀ h' e, Kp z TO i1 i2 s.heap h' → (∃ o, h'.get? e = some o ∧ o.cls = .type "StopIteration") → wpAny (model prog w) A (do if ← isInstance (.ref e) (.type "StopIteration") then pure none else throw (.ref e)) Q E { s with heap := h' } := fun h' e kp he => by
    obtain ⟨o, ho, hc⟩ := he
    exact wpAny_bind (wpAny_isInstance (T := "StopIteration") (b := true) ⟨o, ho, hc⟩ isSubtype_stop (wpAny_pure (hQ _ kp)))
  unfold pyNext
  refine wpAny_bind (wpAny_attempt (wpAny_callSpecial?_slot (name := Str.ofString "__next__") hT F.slot_zip_next (wpAny_call_entry F.slot_zip_next hT F.entry_zip_next ?_ (F.args_zip_next_1 _))))
  show wpAny _ _ (field (.ref z) 2 >>= _) _ _ _
  refine wpAny_bind (wpAny_field hz rfl (x := .bool false) rfl ?_)
  show wpAny _ _ (field (.ref z) 3 >>= _) _ _ _
  refine wpAny_bind (wpAny_field hz rfl (x := .ref TI) rfl ?_)
  refine wpAny_bind (wpAny_seqItems hTI rfl ?_)
  show wpAny _ _ (Builtin.SmallTypes.ownedTupleIsFree (.ref z) >>= _) _ _ _
  refine wpAny_bind ?_
  unfold Builtin.SmallTypes.ownedTupleIsFree
  refine wpAny_bind (wpAny_field hz rfl (x := rawInt T) rfl ?_)
  show wpAny _ _ (loadIfAlive ((T : Int)).toNat >>= _) _ _ _
  rw [Int.toNat_natCast]
  refine wpAny_bind (loadIf_ ?_)
  rw [hTo]
  show wpAny _ _ (field (.ref z) 1 >>= _) _ _ _
  refine wpAny_bind (wpAny_field hz rfl (x := .bool fb) rfl ?_)
  refine wpAny_mono (Q := fun a s' => a = false ∧ ∃ h0 fb', s' = { s with heap := h0 } ∧ IsZipB h0 z TI TO (rawInt T) fb' ∧ Heap.SameBut z s.heap h0) ?_ (fun a s' q => ?_) (fun _ _ h => h)
  · cases fb with
    | true => exact wpAny_pure ⟨rfl, s.heap, true, rfl, hz, ⟨rfl, fun _ _ => rfl⟩⟩
    | false => exact wpAny_bind (wpAny_setField_rec hz (by simp) fun g1 z1 b1 => wpAny_pure ⟨rfl, g1, true, rfl, z1, b1⟩)
  obtain ⟨rfl, h0, fb', rfl, hz0, b0⟩ := q
  show wpAny _ _ (forIn #[Value.ref i1, Value.ref i2] _ _ >>= _) _ _ _
  rw [← Array.forIn_toList]
  refine wpAny_bind ?_
  simp only [List.forIn_cons, List.forIn_nil]
  refine wpAny_bind (wpAny_bind (wpAny_holding ?_))
  show wpAny _ _ (Builtin.SmallTypes.nextOf (.ref i1) >>= _) _ _ _
  have hit1 := SK.it_at h1 fun o e => b0.extBut _ _ D.i1z e
  have sq1 := SK.sq_at s1 fun o e => b0.extBut _ _ o1.z e
  cases hx : xs[n]? with
  | none =>
    refine wpAny_bind (SK.stop (s := { s with heap := h0 }) hh hit1 sq1 hx fun g2 e b2 he => ?_)
    exact fin g2 e (fun c o f q => b2 _ _ f.i1 (b0.extBut _ _ f.z q)) he
  | some x =>
    have hy : ys[n]? = none := by rcases hend with q | q; rw [hx] at q; cases q; exact q
    refine wpAny_bind (SK.next hit1 sq1 hx fun g2 j1 b2 => wpAny_pure (wpAny_pure ?_))
    refine wpAny_bind (wpAny_bind (wpAny_holding ?_))
    show wpAny _ _ (Builtin.SmallTypes.nextOf (.ref i2) >>= _) _ _ _
    refine wpAny_bind (SK.stop (s := { s with heap := g2 }) hh (SK.it_at h2 fun o e => b2.extBut _ _ D.i12.symm (b0.extBut _ _ D.i2z e)) (SK.sq_at s2 fun o e => b2.extBut _ _ o2.i1 (b0.extBut _ _ o2.z e)) hy fun g4 e b4 he => ?_)
    exact fin g4 e (fun c o f q => b4 _ _ f.i2 (b2.extBut _ _ f.i1 (b0.extBut _ _ f.z q))) he
end


def ZU (H : Hp) (xs ys us : List V) : Prop := ∀ (j : Nat) (u : V), us[j]? = some u → ∃ p x y, u = .ref p ∧ xs[j]? = some x ∧ ys[j]? = some y ∧ H p = some (.tup [x, y])
section
variable {X : Cx} {pins : List (Addr × Obj)} {σ : St}
theorem zs_item {k1 k2 : SK} {z TI TO i1 i2 l1 l2 : Addr} {A : Around} {i : Nat} {s : Shared} {H : Hp} {xs ys : List V} {x y : V} {Q : Option Value → Shared → Prop} {E : Value → Shared → Prop} (D : ZAp z TI TO i1 i2) (o1 : Off z TO i1 i2 l1) (o2 : Off z TO i1 i2 l2)
    (I : Inv X pins σ H s) (hf : ∀ b ∈ [z, TI, TO, i1, i2], FpOk X pins H b) (st : ZS k1 k2 z TI TO i1 i2 l1 l2 i s.heap) (q1 : k1.Sq X.K H l1 xs) (q2 : k2.Sq X.K H l2 ys) (hx : xs[i]? = some x) (hy : ys[i]? = some y)
    (hQ : ∀ g, Inv X pins σ (upd H s.heap.objs.size (.tup [x, y])) { s with heap := g } → (∀ b ∈ [z, TI, TO, i1, i2], FpOk X pins (upd H s.heap.objs.size (.tup [x, y])) b) → ZS k1 k2 z TI TO i1 i2 l1 l2 (i + 1) g → H s.heap.objs.size = none → Q (some (.ref s.heap.objs.size)) { s with heap := g }) :
    wpAny (model X.prog X.w) A (pyNext (.ref z)) Q E s := by
  obtain ⟨hz, ⟨a, c, hTO⟩, hTI, h1, h2⟩ := st
  obtain ⟨u1, r1, s1⟩ := SK.read I q1
  obtain ⟨u2, r2, s2⟩ := SK.read I q2
  obtain ⟨x', hx', rx⟩ := r1.get hx
  obtain ⟨y', hy', ry⟩ := r2.get hy
  have lt : ∀ {b : Addr} {o : Obj}, s.heap.get? b = some o → s.heap.objs.size ≠ b := fun e => Nat.ne_of_gt (Heap.lt_size e)
  have hn : H s.heap.objs.size = none := I.hok.fresh (Nat.le_refl _)
  have I1 : Inv X pins σ (upd H s.heap.objs.size (.tup [x, y])) { s with heap := s.heap.push { cls := .type "tuple", data := .seq #[x', y'] } } :=
    I.laid (t' := s.toks) (fun b u e => Heap.get?_push_of_some _ e) (Nat.le_refl _) ⟨(by show 2 ≤ sizeLine; decide), [x', y'], .cons rx (.cons ry .nil), ⟨_, Heap.get?_push_size _ rfl, rfl, _, rfl⟩⟩
  have ez : ∃ o, s.heap.get? z = some o := by
    rcases hz with e | ⟨_, _, _, e, _⟩
    · exact ⟨_, e⟩
    · exact ⟨_, e⟩
  obtain ⟨oz, ez⟩ := ez
  have fin : ∀ g, IsPair g s.heap.objs.size x' y' → Kp z TO i1 i2 s.heap g → ZS k1 k2 z TI TO i1 i2 l1 l2 (i + 1) g → (∀ b ∈ [z, TI, TO, i1, i2], s.heap.objs.size ≠ b) → Q (some (.ref s.heap.objs.size)) { s with heap := g } := fun g tp kp zs nb => by
    have fp' : ∀ b ∈ [z, TI, TO, i1, i2], FpOk X pins (upd H s.heap.objs.size (.tup [x, y])) b := fun b hb => by
      obtain ⟨f0, f1, f2, f3, f4, f5⟩ := hf b hb
      exact ⟨by rw [upd_ne (Ne.symm (nb b hb))]; exact f0, f1, f2, f3, f4, f5⟩
    have sub : ∀ b ∈ [z, TO, i1, i2], b ∈ [z, TI, TO, i1, i2] := fun b hb => by
      simp only [List.mem_cons, List.not_mem_nil, or_false] at hb ⊢
      rcases hb with h | h | h | h <;> simp [h]
    refine hQ g ?_ fp' zs hn
    refine Inv.turnedL (s := { s with heap := s.heap.push { cls := .type "tuple", data := .seq #[x', y'] } }) (h' := g) (t' := s.toks) (L := [z, TO, i1, i2]) I1 (fun b o hb e => ?_) fun b hb => fp' b (sub b hb)
    have ob := off_of hb
    rcases Heap.get?_push_cases e with ⟨e1, e2⟩ | e1
    · subst e1 e2
      exact tp
    · exact kp b o ob e1
  have nit : ∀ {k : SK} {b a : Addr} {i : Nat}, k.it s.heap b a i → s.heap.objs.size ≠ b := fun x => by
    obtain ⟨o, ho, _⟩ := SK.it_ob x
    exact lt ho
  have nb : ∀ b ∈ [z, TI, TO, i1, i2], s.heap.objs.size ≠ b := fun b hb => by
    simp only [List.mem_cons, List.not_mem_nil, or_false] at hb
    rcases hb with rfl | rfl | rfl | rfl | rfl
    · exact lt ez
    · exact lt hTI
    · exact lt hTO
    · exact nit h1
    · exact nit h2
  rcases hz with hz | ⟨T, o, fb, hz, t1, t2, t3, t4, hT⟩
  · refine zip_item D o1 o2 hz hTI hTO h1 h2 s1 s2 (x := x') (y := y') (by simpa using hx') (by simpa using hy') fun g z' ti' to' j1 j2 tp' kp => fin g tp' kp ⟨.inr ⟨s.heap.objs.size, _, false, z', nb _ (by simp), nb _ (by simp), nb _ (by simp), nb _ (by simp), tp'⟩, ⟨_, _, to'⟩, ti', j1, j2⟩ nb
  · refine zip_item2 D o1 o2 hz t1 hT hTI hTO h1 h2 s1 s2 (x := x') (y := y') (by simpa using hx') (by simpa using hy') fun g fb' z' ti' to' j1 j2 tp' kp => fin g tp' kp ⟨.inr ⟨T, o, fb', z', t1, t2, t3, t4, kp _ _ ⟨t1, t2, t3, t4⟩ hT⟩, ⟨_, _, to'⟩, ti', j1, j2⟩ nb
theorem zs_stop {k1 k2 : SK} {z TI TO i1 i2 l1 l2 : Addr} {A : Around} {i : Nat} {s : Shared} {H : Hp} {xs ys : List V} {Q : Option Value → Shared → Prop} {E : Value → Shared → Prop} (hh : A.handled = none) (D : ZAp z TI TO i1 i2) (o1 : Off z TO i1 i2 l1) (o2 : Off z TO i1 i2 l2)
    (I : Inv X pins σ H s) (hf : ∀ b ∈ [z, TI, TO, i1, i2], FpOk X pins H b) (st : ZS k1 k2 z TI TO i1 i2 l1 l2 i s.heap) (q1 : k1.Sq X.K H l1 xs) (q2 : k2.Sq X.K H l2 ys) (he : xs.length ≤ i ∨ ys.length ≤ i)
    (hQ : ∀ g, Inv X pins σ H { s with heap := g } → Q none { s with heap := g }) : wpAny (model X.prog X.w) A (pyNext (.ref z)) Q E s := by
  obtain ⟨hz, ⟨a, c, hTO⟩, hTI, h1, h2⟩ := st
  obtain ⟨u1, r1, s1⟩ := SK.read I q1
  obtain ⟨u2, r2, s2⟩ := SK.read I q2
  have e1 := r1.length
  have e2 := r2.length
  have hend : u1.toArray[i]? = none ∨ u2.toArray[i]? = none := by
    rcases he with q | q
    · left; simp; omega
    · right; simp; omega
  have fin : ∀ g, Kp z TO i1 i2 s.heap g → Q none { s with heap := g } := fun g kp => hQ g (I.turnedL (t' := s.toks) (L := [z, TO, i1, i2]) (fun b o hb e => kp b o (off_of hb) e) fun b hb => hf b (by
    simp only [List.mem_cons, List.not_mem_nil, or_false] at hb ⊢
    rcases hb with h | h | h | h <;> simp [h]))
  rcases hz with hz | ⟨T, o, fb, hz, t1, t2, t3, t4, hT⟩
  · exact zip_stop hh D o1 o2 hz hTI hTO h1 h2 s1 s2 hend fin
  · exact zip_stop2 hh D o1 o2 hz hT hTI h1 h2 s1 s2 hend fin
theorem Same.seqK {k : SK} {K : PySem.W.Frag} {H H' : Hp} {a : Addr} {xs : List V} (s : Same H H') (h : k.Sq K H a xs) : k.Sq K H' a xs := by
  cases k
  · exact s.seq h
  · rcases h with (h | ⟨o, h⟩) | h
    · exact .inl (.inl (s _ _ h))
    · exact .inl (.inr ⟨o, s _ _ h⟩)
    · exact .inr h
theorem loop_zip {k1 k2 : SK} {z TI TO i1 i2 l1 l2 S : Addr} {A : Around} {R : Result → Shared → Prop} (hh : A.handled = none) (D : ZAp z TI TO i1 i2) (o1 : Off z TO i1 i2 l1) (o2 : Off z TO i1 i2 l2) (xs ys : List V) (hz : xs.length ≤ 1000)
    (nS : ∀ b ∈ [z, TI, TO, i1, i2], b ≠ S) (H0 : Hp) (hS0 : H0 S = none) (q1 : k1.Sq X.K H0 l1 xs) (q2 : k2.Sq X.K H0 l2 ys) :
    ∀ (k i : Nat) (s : Shared) (H : Hp) (us : List V), min xs.length ys.length - i = k → i ≤ min xs.length ys.length → Inv X pins σ H s → (∀ b ∈ [z, TI, TO, i1, i2], FpOk X pins H b) → ZS k1 k2 z TI TO i1 i2 l1 l2 i s.heap →
      Same H0 H → H S = some (.lst us) → us.length = i → ZU H xs ys us →
      (∀ s' H' us', Inv X pins σ H' s' → Same H0 H' → H' S = some (.lst us') → us'.length = min xs.length ys.length → ZU H' xs ys us' → R (.ok (.ret .none)) s') →
      codeAny (model X.prog X.w) A (.builtin "list.extend.loop" ⟨[.ref S, .ref z, .none], []⟩) R s := by
  intro k
  induction k with
  | zero =>
    intro i s H us hk hi I hf st sm hS hl hu hR
    refine codeAny_builtin F.entry_extend_loop ?_
    rw [Around.under_plainId F.plain_extend_loop _]
    show wpAny _ A.in1 (pyNext (.ref z) >>= _) _ _ s
    refine wpAny_bind (zs_stop hh D o1 o2 I hf st (sm.seqK q1) (sm.seqK q2) (by omega) fun g I' => ?_)
    exact wpAny_pure (hR _ H us I' sm hS (by omega) hu)
  | succ k ih =>
    intro i s H us hk hi I hf st sm hS hl hu hR
    have a1 : i < xs.length := by omega
    have a2 : i < ys.length := by omega
    refine codeAny_builtin F.entry_extend_loop ?_
    rw [Around.under_plainId F.plain_extend_loop _]
    show wpAny _ A.in1 (pyNext (.ref z) >>= _) _ _ s
    refine wpAny_bind (zs_item D o1 o2 I hf st (sm.seqK q1) (sm.seqK q2) (x := xs[i]) (y := ys[i]) (by simp [a1]) (by simp [a2]) fun g I' hf' st' hn => ?_)
    have nSs : S ≠ s.heap.objs.size := fun e => by rw [e, hn] at hS; cases hS
    have hS' : upd H s.heap.objs.size (.tup [xs[i], ys[i]]) S = some (.lst us) := by rw [upd_ne nSs]; exact hS
    obtain ⟨zl, its, m, r, el, e⟩ := I'.lstM hS'
    show wpAny _ A.in1 (updateSeq S (·.push (.ref s.heap.objs.size)) >>= _) _ _ _
    refine wpAny_bind ?_
    refine wpAny_updateSeq e rfl (wpAny_pure ⟨plainId_quiet F.plain_extend_loop _, ?_⟩) (by simp only [List.size_toArray]; omega) (by simp only [Array.size_push, List.size_toArray]; exact Nat.succ_le_succ (by omega))
    have zz : (us ++ [V.ref s.heap.objs.size]).length ≤ sizeLine := by
      rw [List.length_append]
      exact Nat.le_of_lt (small1000 (by show us.length + 1 ≤ 1000; omega))
    have I2 := I'.lset (its' := its ++ [.ref s.heap.objs.size]) (ys := us ++ [.ref s.heap.objs.size]) (f := (·.push (.ref s.heap.objs.size))) (t' := s.toks) hS' e (by simp) (Vals.append r (.cons (show RelV (.ref s.heap.objs.size) (.ref s.heap.objs.size) from rfl) .nil)) zz
    have sm' : Same H0 (upd (upd H s.heap.objs.size (.tup [xs[i], ys[i]])) S (.lst (us ++ [.ref s.heap.objs.size]))) := Same.set (sm.trans (Same.new hn _)) hS0 _
    refine ih (i + 1) _ _ (us ++ [.ref s.heap.objs.size]) (by omega) (by omega) I2 (fun b hb => ?_) ?_ sm' upd_same (by rw [List.length_append, hl]; rfl) (fun j u hj => ?_) hR
    · obtain ⟨f0, f1, f2, f3, f4, f5⟩ := hf' b hb
      exact ⟨by rw [upd_ne (nS b hb)]; exact f0, f1, f2, f3, f4, f5⟩
    · refine ZS.keep (S := S) st' (fun b o hb q => (Heap.get?_update_other _ _ (Ne.symm hb)).trans q) (fun o q => ⟨_, Heap.get?_update_self _ e rfl⟩) (nS _ (by simp)) (nS _ (by simp)) (nS _ (by simp)) (nS _ (by simp)) (nS _ (by simp))
    · rcases Nat.lt_or_ge j us.length with h | h
      · rw [List.getElem?_append_left h] at hj
        obtain ⟨p, x, y, w1, w2, w3, w4⟩ := hu j u hj
        have n1 : p ≠ S := fun q => by rw [q, hS] at w4; cases w4
        have n2 : p ≠ s.heap.objs.size := fun q => by rw [q, hn] at w4; cases w4
        exact ⟨p, x, y, w1, w2, w3, by rw [upd_ne n1, upd_ne n2]; exact w4⟩
      · rw [List.getElem?_append_right h] at hj
        have j0 : j - us.length = 0 := by
          rcases h' : j - us.length with _ | c
          · rfl
          · rw [h'] at hj; simp at hj
        rw [j0] at hj
        have ej : j = i := by omega
        subst ej
        refine ⟨s.heap.objs.size, xs[j], ys[j], (Option.some.inj hj).symm, by simp [a1], by simp [a2], ?_⟩
        rw [upd_ne (Ne.symm nSs), upd_same]
theorem call_listZ {k1 k2 : SK} {z TI TO i1 i2 l1 l2 : Addr} {A : Around} {s : Shared} {H1 : Hp} {xs ys : List V} {Q : Value → Shared → Prop} {E : Value → Shared → Prop} (hh : A.handled = none) (D : ZAp z TI TO i1 i2) (o1 : Off z TO i1 i2 l1) (o2 : Off z TO i1 i2 l2) (I : Inv X pins σ H1 s)
    (hf : ∀ b ∈ [z, TI, TO, i1, i2], FpOk X pins H1 b) (nS : ∀ b ∈ [z, TI, TO, i1, i2], b ≠ s.heap.objs.size) (hz0 : IsZip s.heap z TI TO .none) (st : ZS k1 k2 z TI TO i1 i2 l1 l2 0 s.heap) (q1 : k1.Sq X.K H1 l1 xs) (q2 : k2.Sq X.K H1 l2 ys) (hz : xs.length ≤ 1000) (hS0 : H1 s.heap.objs.size = none)
    (hQ : ∀ H' us s', Inv X pins σ H' s' → Same H1 H' → H' s.heap.objs.size = some (.lst us) → us.length = min xs.length ys.length → ZU H' xs ys us → Q (.ref s.heap.objs.size) s') :
    wpAny (model X.prog X.w) A (call (.type "list") [.ref z]) Q E s := by
  refine callType_codes (Q₁ := fun obj s₁ => obj = .ref s.heap.objs.size ∧ s₁ = { s with heap := s.heap.push { cls := .type "list", data := .seq #[] } }) F.called_list (F.typeCall_list_1 _) F.entry_list_init
    (code_list_new _ ⟨rfl, rfl⟩) fun obj s₁ h₁ => ?_
  obtain ⟨rfl, rfl⟩ := h₁
  have hS : (s.heap.push { cls := .type "list", data := .seq #[] }).get? s.heap.objs.size = some { cls := .type "list", data := .seq #[] } := Heap.get?_push_size _ rfl
  refine ⟨⟨_, hS, rfl⟩, F.args_list_init_2 _ _, ?_⟩
  have kp1 : ∀ b o, s.heap.get? b = some o → (s.heap.push { cls := .type "list", data := .seq #[] }).get? b = some o := fun b o e => Heap.get?_push_of_some _ e
  generalize hS1 : s.heap.push { cls := .type "list", data := .seq #[] } = h1 at *
  generalize hSe : s.heap.objs.size = S at *
  show wpAny _ A.in1.in1 (do let old ← Builtin.List.listItems (.ref S); Builtin.List.listUpdate (.ref S) (fun _ => #[]); letGo old.toList.reverse; Builtin.List.listExtendWith (.ref S) (.ref z) .none) _ _ _
  refine wpAny_bind ?_
  unfold Builtin.List.listItems
  refine wpAny_bind (wpAny_seqItems hS rfl (wpAny_pure ?_))
  show wpAny _ A.in1.in1 (updateSeq S (fun _ => #[]) >>= fun _ => letGo (#[] : Array Value).toList.reverse >>= fun _ => Builtin.List.listExtendWith (.ref S) (.ref z) .none) _ _ _
  refine wpAny_bind (wpAny_updateSeq hS rfl ?_)
  have hS₂ := Heap.get?_update_self (Obj.mapSeq (fun _ => (#[] : Array Value))) hS rfl
  have oth : ∀ b o, b ≠ S → h1.get? b = some o → (h1.update S (Obj.mapSeq (fun _ => (#[] : Array Value)))).get? b = some o :=
    fun b o hb e => (Heap.get?_update_other _ _ (Ne.symm hb)).trans e
  refine wpAny_bind (wpAny_letGo ?_)
  have ne : ∀ b o, s.heap.get? b = some o → b ≠ S := fun b o e => by rw [← hSe]; exact Nat.ne_of_lt (Heap.lt_size e)
  have kp2 : ∀ b o, s.heap.get? b = some o → (h1.update S (Obj.mapSeq (fun _ => (#[] : Array Value)))).get? b = some o := fun b o e => oth b o (ne b o e) (kp1 b o e)
  generalize h1.update S (Obj.mapSeq (fun _ => (#[] : Array Value))) = h2 at *
  have hzz : ∃ o, s.heap.get? z = some o ∧ o.cls = .type "zip" := by
    rcases st.1 with e | ⟨_, _, _, e, _⟩
    · exact ⟨_, e, rfl⟩
    · exact ⟨_, e, rfl⟩
  obtain ⟨oz, ez, ec⟩ := hzz
  have hT : (({ s with heap := h2 } : Shared)).TypeIs (.ref z) "zip" := ⟨oz, kp2 _ _ ez, ec⟩
  have hSz : S ≠ z := fun e => nS z (by simp) e.symm
  unfold Builtin.List.listExtendWith
  refine wpAny_bind (wpAny_typeOf hT ?_)
  have h1' : Builtin.List.listSameRef (.ref S) (.ref z) = false := by simp [Builtin.List.listSameRef, hSz]
  have h2' : (Value.type "zip" == Value.type "list") = false := by decide
  have h3' : (Value.type "zip" == Value.type "tuple") = false := by decide
  simp only [h1', h2', h3', Bool.or_false, Bool.false_eq_true, if_false]
  refine wpAny_bind (wpAny_pyIter_zip (kp2 _ _ hz0) ?_)
  refine wpAny_bind (wpAny_holding ?_)
  unfold Builtin.List.listLengthHint
  refine wpAny_bind (wpAny_specialOf hT zip_no_len ?_)
  show wpAny _ A.in1.in1 (specialOf (Value.ref z) (Str.ofString "__length_hint__") >>= _) _ _ _
  refine wpAny_bind (wpAny_specialOf hT zip_no_hint ?_)
  refine wpAny_pure ?_
  show wpAny _ A.in1.in1 (rule "list.extend.makes-room" >>= fun _ => Builtin.List.listTouch (.ref S) >>= fun _ =>
    again (.builtin "list.extend.loop" ⟨[.ref S, .ref z, .none], []⟩)) _ _ _
  refine wpAny_bind (wpAny_rule ?_)
  refine wpAny_bind ?_
  show wpAny _ A.in1.in1 (updateSeq S (·.push .none) >>= fun _ => updateSeq S (·.pop)) _ _ _
  refine wpAny_bind (wpAny_updateSeq hS₂ rfl ?_)
  have hS₃ := Heap.get?_update_self (Obj.mapSeq (·.push Value.none)) hS₂ rfl
  refine wpAny_updateSeq (hz := by seq_fits) hS₃ rfl ?_
  have hS₄ := Heap.get?_update_self (Obj.mapSeq (·.pop)) hS₃ rfl
  have kp4 : ∀ b o, s.heap.get? b = some o → ((h2.update S (Obj.mapSeq (·.push Value.none))).update S (Obj.mapSeq (·.pop))).get? b = some o :=
    fun b o e => (Heap.get?_update_other _ _ (Ne.symm (ne b o e))).trans ((Heap.get?_update_other _ _ (Ne.symm (ne b o e))).trans (kp2 b o e))
  generalize (h2.update S (Obj.mapSeq (·.push Value.none))).update S (Obj.mapSeq (·.pop)) = h4 at *
  have I4 : Inv X pins σ (upd H1 S (.lst [])) { s with heap := h4 } := I.laid (t' := s.toks) kp4 (by rw [hSe]; exact Nat.le_refl _) ⟨Nat.zero_le _, [], _, .nil, hS₄⟩
  refine wpAny_pure ⟨plainId_quiet F.plain_extend_loop _, loop_zip (A := A.in1) (show A.in1.handled = none from hh) D o1 o2 xs ys hz nS H1 hS0 q1 q2 _ 0 _ _ [] rfl (Nat.zero_le _) I4 (fun b hb => ?_) ?_ (Same.new hS0 _) upd_same rfl (fun j u hj => by simp at hj) fun s' H' us' I' sm' hS' hl' hu' => ?_⟩
  · obtain ⟨f0, f1, f2, f3, f4, f5⟩ := hf b hb
    exact ⟨by rw [upd_ne (nS b hb)]; exact f0, f1, f2, f3, f4, f5⟩
  · obtain ⟨a, c, hTO⟩ := st.2.1
    exact ⟨.inl (kp4 _ _ hz0), ⟨a, c, kp4 _ _ hTO⟩, kp4 _ _ st.2.2.1, SK.it_at st.2.2.2.1 fun o e => kp4 _ _ e, SK.it_at st.2.2.2.2 fun o e => kp4 _ _ e⟩
  · exact ⟨rfl, hQ H' us' s' I' sm' hS' hl' hu'⟩

def tListZ (K : PySem.W.Frag) (ta : TA) : TE := fun σ H Q => ta σ H fun vs H1 => ∃ (l1 l2 : Addr) (k1 k2 : SK) (xs ys : List V), vs = [.ref l1, .ref l2] ∧ k1.Sq K H1 l1 xs ∧ k2.Sq K H1 l2 ys ∧ xs.length ≤ 1000 ∧
  ∀ S H' us, Same H1 H' → H1 S = none → H' S = some (.lst us) → us.length = min xs.length ys.length → ZU H' xs ys us → Q (.ref S) H'
theorem pe_listZ {a b : Expr} {ta : TA} {p p2 pos pos2 : Pos} (hc : X.calm = true) (hg : Gl X "list") (hm : X.mg "list" = none) (hg2 : Gl X "zip") (hm2 : X.mg "zip" = none) (ha : PA X [a, b] ta)
    (hs : starEach [a, b] X.env = (false, eval a X.env) :: starEach [b] X.env := by rfl) (hpl : (backTo pos2 (starEach [b] X.env)).any (·.1) = false := by rfl)
    (hs1 : starEach [Expr.Call (.Name "zip" p2) [a, b] [] pos2] X.env = [(false, eval (Expr.Call (.Name "zip" p2) [a, b] [] pos2) X.env)] := by rfl) :
    PE X (.Call (.Name "list" p) [.Call (.Name "zip" p2) [a, b] [] pos2] [] pos) (tListZ X.K ta) := by
  intro pins s σ H Q I h
  refine wpAny_Call_Name_kw (ld_blt I hg hm bt_list ?_)
  refine PyProof.Rows.callWith_type1 ?_ hs1 rfl
  rw [hs1]
  show wpAny _ _ (spliced [(false, eval (Expr.Call (.Name "zip" p2) [a, b] [] pos2) X.env)]) _ _ s
  refine Calls.spliced_cons ?_
  refine Call_ (ld_blt I hg2 hm2 bt_zip (PyProof.Rows.callWith_type1 (thn (ha pos2 pins s σ H _ I h) fun us s1 ⟨vs, H1, I1, r1, q1⟩ => ?_) hs hpl))
  obtain ⟨l1, l2, k1, k2, xs, ys, e, q1, q2, hz, q⟩ := q1
  subst e
  cases r1 with
  | cons r rr =>
    cases rr with
    | cons r' rr =>
      cases rr
      cases r
      cases r'
      obtain ⟨u1, _, s1'⟩ := SK.read I1 q1
      obtain ⟨u2, _, s2'⟩ := SK.read I1 q2
      have a1 := SK.sq_lt s1'
      have a2 := SK.sq_lt s2'
      refine call_zip s1' s2' fun g hz' hTI hTO j1 j2 kp => ?_
      refine Calls.spliced_nil ?_
      have I2 : Inv X pins σ H1 { s1 with heap := g } := I1.kept (t' := s1.toks) kp
      have lz : s1.heap.objs.size + 4 < g.objs.size := Heap.lt_size hz'
      have hh : X.A.handled = none := I1.ok.hd hc
      have hb5 : ∀ b ∈ [s1.heap.objs.size + 4, s1.heap.objs.size + 2, s1.heap.objs.size + 3, s1.heap.objs.size, s1.heap.objs.size + 1], s1.heap.objs.size ≤ b ∧ b < g.objs.size := fun b hb => by
        simp only [List.mem_cons, List.not_mem_nil, or_false] at hb
        rcases hb with h | h | h | h | h
        · rw [h]; exact ⟨Nat.le_add_right _ _, by omega⟩
        · rw [h]; exact ⟨Nat.le_add_right _ _, by omega⟩
        · rw [h]; exact ⟨Nat.le_add_right _ _, by omega⟩
        · rw [h]; exact ⟨Nat.le_refl _, by omega⟩
        · rw [h]; exact ⟨Nat.le_add_right _ _, by omega⟩
      have hf : ∀ b ∈ [s1.heap.objs.size + 4, s1.heap.objs.size + 2, s1.heap.objs.size + 3, s1.heap.objs.size, s1.heap.objs.size + 1], FpOk X pins H1 b := fun b hb => I1.fpOk (hb5 b hb).1 (I1.hok.fresh (hb5 b hb).1)
      have nS : ∀ b ∈ [s1.heap.objs.size + 4, s1.heap.objs.size + 2, s1.heap.objs.size + 3, s1.heap.objs.size, s1.heap.objs.size + 1], b ≠ g.objs.size := fun b hb => Nat.ne_of_lt (hb5 b hb).2
      have hS0 : H1 g.objs.size = none := I2.hok.fresh (Nat.le_refl _)
      have st0 : ZS k1 k2 (s1.heap.objs.size + 4) (s1.heap.objs.size + 2) (s1.heap.objs.size + 3) s1.heap.objs.size (s1.heap.objs.size + 1) l1 l2 0 g := ⟨.inl hz', ⟨_, _, hTO⟩, hTI, j1, j2⟩
      exact call_listZ (s := { s1 with heap := g }) hh (zap_new _) (off_new a1) (off_new a2) I2 hf nS hz' st0 q1 q2 hz hS0 fun H' us s' I' sm' hS' hl' hu' => ⟨.ref g.objs.size, H', I', rfl, q _ H' us sm' hS0 hS' hl' hu'⟩
end
end L2

namespace Qs
open PySem L2

def top (i : Nat) : Stmt := PySem.Challenge.pw_quartersheet_k14_first_place_unlike.main.body.getD i (.Pass ⟨0, 0, 0, 0⟩)

structure Tx (K : PySem.W.Frag) (mg : Str → Option Value) : Prop where
  b_isinstance : mg "isinstance" = none
  b_int : mg "int" = none
  b_bool : mg "bool" = none
  c_MOST : ∃ t, mg "MOST" = some (.int 40 t)
  c_LAST_COLOUR : ∃ t, mg "LAST_COLOUR" = some (.int 35 t)
  b_all : mg "all" = none
  b_str : mg "str" = none
  b_len : mg "len" = none
  c_QUARTERS : ∃ t, mg "QUARTERS" = some (.str "0123" t)
  b_range : mg "range" = none
  b_tuple : mg "tuple" = none
  b_list : mg "list" = none
  b_any : mg "any" = none
  b_min : mg "min" = none
  b_enumerate : mg "enumerate" = none
  b_zip : mg "zip" = none
end Qs
namespace Qs
open PySem L2

def txt (ds : List Nat) : Str := ⟨(ds.map (48 + ·)).toArray⟩
theorem txt_len (ds : List Nat) : (txt ds).length = ds.length := by
  rw [len_eq]; simp [txt]
theorem txt_isC {ds : List Nat} (h : ∀ d ∈ ds, d < 4) : IsC (txt ds) := fun c hc => by
  have hc' : ∃ d ∈ ds, 48 + d = c := by simpa [txt] using hc
  obtain ⟨d, hd, e⟩ := hc'
  have := h d hd
  omega
theorem str_ext {a b : Str} (h : a.cps.toList = b.cps.toList) : a = b := by
  obtain ⟨a⟩ := a
  obtain ⟨b⟩ := b
  have h' : a.toList = b.toList := h
  have e : a = b := Array.toList_inj.mp h'
  rw [e]
theorem empty_eq : ("" : Str) = ⟨#[]⟩ := by decide +kernel
theorem join_one : ∀ ds : List Nat, Txt.join ("" : Str) (ds.map one) = txt ds := by
  intro ds
  have key : ∀ ds : List Nat, Str.join ⟨#[]⟩ (ds.map one) = txt ds := by
    intro ds
    induction ds with
    | nil => rfl
    | cons d r ih =>
      cases r with
      | nil => rfl
      | cons e r =>
        refine str_ext ?_
        show (one d ++ ⟨#[]⟩ ++ Str.join ⟨#[]⟩ ((e :: r).map one)).cps.toList = _
        rw [ih]
        show ((#[48 + d] ++ #[]) ++ (txt (e :: r)).cps).toList = _
        simp [txt]
  rw [empty_eq]
  show Builtin.Str.glued ⟨#[]⟩ (ds.map one) = _
  rw [StrLaws.glued_eq_join]
  exact key ds

def pre (z : Str) (k : Nat) : Str := ⟨(z.cps.toList.take k).toArray⟩
theorem slice_pre (z : Str) (k : Nat) : Txt.slice z none (some (k : Int)) = pre z k := by
  by_cases h : k ≤ z.length
  · have e := PyProof.Rows.slice_closes_to (x := z) (j := (k : Int)) ⟨by omega, by rw [← len_eq]; omega⟩
    rw [beq_iff_eq] at e
    rw [e]
    unfold pre
    simp
  · have e : Builtin.Str.strSliceIndices none (some (k : Int)) 1 z.length = (List.range z.length).map fun j : Nat => (0 + 1 * (j : Int)).toNat := by
      unfold Builtin.Str.strSliceIndices
      dsimp only
      unfold sliceRange
      have h1 : ¬ (k : Int) < 0 := by omega
      have h2 : max (0 : Int) (min (k : Int) (z.length : Int)) = (z.length : Int) := by omega
      simp only [show (1 : Int) > 0 by decide, if_true, h1, if_false, h2]
      by_cases h0 : (0 : Int) < (z.length : Int)
      · rw [if_pos h0]
        have e3 : (((z.length : Int) - 0 + 1 - 1) / 1).toNat = z.length := by omega
        rw [e3]
      · rw [if_neg h0]
        have e3 : z.length = 0 := by omega
        rw [e3]; rfl
    unfold Txt.slice
    rw [e, List.length_map, List.length_range]
    rw [if_pos (by simp)]
    refine str_ext ?_
    unfold pre
    rw [List.take_of_length_le (by rw [← len_eq]; omega)]
theorem pre_len (z : Str) (k : Nat) : (pre z k).length = min k z.length := by
  rw [len_eq, len_eq]; simp [pre]
theorem pre_isC {z : Str} (h : IsC z) (k : Nat) : IsC (pre z k) := fun c hc => h c (by
  have hc' : c ∈ z.cps.toList.take k := by simpa [pre] using hc
  exact List.mem_of_mem_take hc')

theorem app_len (a b : Str) : (a ++ b).length = a.length + b.length := by
  show (a.cps ++ b.cps).size = _
  rw [Array.size_append]; rfl
theorem at_q {d : Nat} (h : d < 4) : atI ("0123" : Str).cps.toList (d : Int) = some (48 + d) :=
  four (P := fun d => atI ("0123" : Str).cps.toList (d : Int) = some (48 + d)) (by decide +kernel) (by decide +kernel) (by decide +kernel) (by decide +kernel) h
theorem q_len : ("0123" : Str).length ≤ sizeLine := by decide +kernel
end Qs
namespace Qs
open PySem L2

def oneB (a b c d : Tr) : Bool := a.isCol && (decide (a = a) && (decide (b = a) && (decide (c = a) && (decide (d = a) && true))))
def gath (a b c d : Tr) : Tr := if oneB a b c d then a else .four a b c d
def q0 : Tr → Tr | .col i => .col i | .four a _ _ _ => a
def q1 : Tr → Tr | .col i => .col i | .four _ b _ _ => b
def q2 : Tr → Tr | .col i => .col i | .four _ _ c _ => c
def q3 : Tr → Tr | .col i => .col i | .four _ _ _ d => d
theorem oneB_iff {a b c d : Tr} : oneB a b c d = true ↔ a.isCol = true ∧ b = a ∧ c = a ∧ d = a := by
  unfold oneB
  simp only [Bool.and_eq_true, decide_eq_true_eq, and_true, true_and]
theorem gath_parts (a b c d : Tr) : q0 (gath a b c d) = a ∧ q1 (gath a b c d) = b ∧ q2 (gath a b c d) = c ∧ q3 (gath a b c d) = d := by
  unfold gath
  by_cases h : oneB a b c d = true
  · rw [if_pos h]
    obtain ⟨h1, rfl, rfl, rfl⟩ := oneB_iff.mp h
    cases d with
    | col i => exact ⟨rfl, rfl, rfl, rfl⟩
    | four => cases h1
  · rw [if_neg h]; exact ⟨rfl, rfl, rfl, rfl⟩
theorem gath_deep {a b c d : Tr} {n : Nat} (ha : a.deep ≤ n) (hb : b.deep ≤ n) (hc : c.deep ≤ n) (hd : d.deep ≤ n) : (gath a b c d).deep ≤ n + 1 := by
  unfold gath
  split
  · omega
  · show max a.deep (max b.deep (max c.deep d.deep)) + 1 ≤ n + 1
    omega

def ShAt (H : Hp) (v : V) (n : Int) (t : Tr) : Prop := ∃ p x, v = .ref p ∧ H p = some (.tup [.int n, x]) ∧ TrAt H x t
theorem ShAt.up {H H' : Hp} {v : V} {n : Int} {t : Tr} (h : ShAt H v n t) (s : Tups H H') : ShAt H' v n t := by
  obtain ⟨p, x, e, hp, ht⟩ := h
  exact ⟨p, x, e, s _ _ hp, ht.up s⟩
theorem kit_it {K : PySem.W.Frag} : PySem.W.kitOne K (.type "int") (.type "tuple") = some false := by kernel_rfl

def qk (t : Tr) : Nat → Tr
  | 0 => q0 t
  | 1 => q1 t
  | 2 => q2 t
  | _ => q3 t
def put4 (t : Tr) (d : Nat) (x : Tr) : Tr := gath (if d = 0 then x else q0 t) (if d = 1 then x else q1 t) (if d = 2 then x else q2 t) (if d = 3 then x else q3 t)
def plant (t : Tr) : List Nat → Tr → Tr
  | [], o => o
  | d :: ds, o => put4 t d (plant (qk t d) ds o)
theorem qk_deep {t : Tr} {n d : Nat} (h : t.deep ≤ n + 1) : (qk t d).deep ≤ n := by
  cases t with
  | col i => rcases d with _ | _ | _ | d <;> exact Nat.zero_le _
  | four a b c e =>
    have h' : max a.deep (max b.deep (max c.deep e.deep)) + 1 ≤ n + 1 := h
    rcases d with _ | _ | _ | d
    · show a.deep ≤ n; omega
    · show b.deep ≤ n; omega
    · show c.deep ≤ n; omega
    · show e.deep ≤ n; omega
theorem qk_deep' {t : Tr} {n d : Nat} (h : t.deep ≤ n) : (qk t d).deep ≤ n := by
  rcases n with _ | n
  · cases t with
    | col i => rcases d with _ | _ | _ | d <;> exact Nat.zero_le _
    | four a b c e => exact absurd h (by show ¬ _ + 1 ≤ 0; omega)
  · exact Nat.le_succ_of_le (qk_deep h)
theorem put4_deep {t x : Tr} {n d : Nat} (h : t.deep ≤ n + 1) (hx : x.deep ≤ n) : (put4 t d x).deep ≤ n + 1 := by
  unfold put4
  have h0 := qk_deep (d := 0) h
  have h1 := qk_deep (d := 1) h
  have h2 := qk_deep (d := 2) h
  have h3 := qk_deep (d := 3) h
  refine gath_deep ?_ ?_ ?_ ?_ <;> split <;> assumption
theorem qk_put4 {t x : Tr} {d k : Nat} (hd : d < 4) (hk : k < 4) : qk (put4 t d x) k = if k = d then x else qk t k := by
  unfold put4
  obtain ⟨g0, g1, g2, g3⟩ := gath_parts (if d = 0 then x else q0 t) (if d = 1 then x else q1 t) (if d = 2 then x else q2 t) (if d = 3 then x else q3 t)
  rcases k with _ | _ | _ | _ | k
  · show q0 _ = _
    rw [g0]
    by_cases h : d = 0
    · rw [if_pos h, if_pos h.symm]
    · rw [if_neg h, if_neg (Ne.symm h)]; rfl
  · show q1 _ = _
    rw [g1]
    by_cases h : d = 1
    · rw [if_pos h, if_pos h.symm]
    · rw [if_neg h, if_neg (Ne.symm h)]; rfl
  · show q2 _ = _
    rw [g2]
    by_cases h : d = 2
    · rw [if_pos h, if_pos h.symm]
    · rw [if_neg h, if_neg (Ne.symm h)]; rfl
  · show q3 _ = _
    rw [g3]
    by_cases h : d = 3
    · rw [if_pos h, if_pos h.symm]
    · rw [if_neg h, if_neg (Ne.symm h)]; rfl
  · omega

def Good : Nat → Tr → Prop
  | _, .col i => 0 ≤ i ∧ i ≤ 35
  | 0, .four .. => False
  | n + 1, .four a b c d => Good n a ∧ Good n b ∧ Good n c ∧ Good n d ∧ oneB a b c d = false
theorem Good.deep : ∀ {n : Nat} {t : Tr}, Good n t → t.deep ≤ n
  | _, .col i, _ => Nat.zero_le _
  | 0, .four .., h => h.elim
  | n + 1, .four a b c d, ⟨ha, hb, hc, hd, _⟩ => by
    have := ha.deep
    have := hb.deep
    have := hc.deep
    have := hd.deep
    show max a.deep (max b.deep (max c.deep d.deep)) + 1 ≤ n + 1
    omega
theorem Good.col {n : Nat} {i : Int} (h : 0 ≤ i ∧ i ≤ 35) : Good n (.col i) := by cases n <;> exact h
theorem Good.q {n : Nat} {t : Tr} (h : Good (n + 1) t) (k : Nat) : Good n (qk t k) := by
  cases t with
  | col i =>
    have z : Good n (.col i) := Good.col h
    rcases k with _ | _ | _ | k <;> exact z
  | four a b c d =>
    obtain ⟨ha, hb, hc, hd, _⟩ := h
    rcases k with _ | _ | _ | k
    · exact ha
    · exact hb
    · exact hc
    · exact hd
theorem Good.up {n : Nat} {t : Tr} (h : Good n t) : Good (n + 1) t := by
  induction t generalizing n with
  | col i => exact Good.col (by cases n <;> exact h)
  | four a b c d ia ib ic id =>
    cases n with
    | zero => exact h.elim
    | succ n =>
      obtain ⟨ha, hb, hc, hd, ho⟩ := h
      exact ⟨ia ha, ib hb, ic hc, id hd, ho⟩
theorem good_gath {n : Nat} {a b c d : Tr} (ha : Good n a) (hb : Good n b) (hc : Good n c) (hd : Good n d) : Good (n + 1) (gath a b c d) := by
  unfold gath
  split
  · exact ha.up
  · rename_i h
    exact ⟨ha, hb, hc, hd, by simpa using h⟩
theorem good_put4 {n d : Nat} {t x : Tr} (h : Good (n + 1) t) (hx : Good n x) : Good (n + 1) (put4 t d x) := by
  unfold put4
  have h0 := h.q 0
  have h1 := h.q 1
  have h2 := h.q 2
  have h3 := h.q 3
  refine good_gath ?_ ?_ ?_ ?_ <;> split <;> assumption
theorem good_plant : ∀ {n : Nat} {ds : List Nat} {t o : Tr}, ds.length ≤ n → Good n t → Good (n - ds.length) o → Good n (plant t ds o)
  | n, [], t, o, _, _, h => h
  | 0, d :: ds, t, o, hl, _, _ => by simp at hl
  | n + 1, d :: ds, t, o, hl, ht, ho => by
    have hl' : ds.length ≤ n := by simpa using hl
    refine good_put4 ht (good_plant hl' (ht.q d) ?_)
    have e : n + 1 - (d :: ds).length = n - ds.length := by simp
    rw [e] at ho
    exact ho
theorem put4_same {n d : Nat} {t : Tr} (hd : d < 4) (h : Good n t) : put4 t d (qk t d) = t := by
  cases t with
  | col i =>
    unfold put4
    have e : ∀ k : Nat, (if d = k then qk (Tr.col i) d else .col i) = .col i := fun k => by
      have z : qk (Tr.col i) d = .col i := by rcases d with _ | _ | _ | d <;> rfl
      rw [z]; split <;> rfl
    show gath (if d = 0 then qk (Tr.col i) d else .col i) (if d = 1 then qk (Tr.col i) d else .col i) (if d = 2 then qk (Tr.col i) d else .col i) (if d = 3 then qk (Tr.col i) d else .col i) = _
    rw [e, e, e, e]
    unfold gath
    rw [if_pos (oneB_iff.mpr ⟨rfl, rfl, rfl, rfl⟩)]
  | four a b c e =>
    have ho : oneB a b c e = false := by
      cases n with
      | zero => exact h.elim
      | succ n => exact h.2.2.2.2
    have z : put4 (.four a b c e) d (qk (.four a b c e) d) = gath a b c e := by
      unfold put4
      rcases d with _ | _ | _ | _ | d
      · rfl
      · rfl
      · rfl
      · rfl
      · omega
    rw [z]
    unfold gath
    rw [if_neg (by rw [ho]; decide)]
theorem plant_deep : ∀ (ds : List Nat) (n : Nat) (t o : Tr), t.deep ≤ n → o.deep + ds.length ≤ n → (plant t ds o).deep ≤ n
  | [], n, t, o, _, h => by show o.deep ≤ n; simpa using h
  | d :: ds, 0, t, o, _, h => by simp at h
  | d :: ds, n + 1, t, o, ht, ho => by
    have ho' : o.deep + ds.length ≤ n := by simp at ho; omega
    exact put4_deep ht (plant_deep ds n (qk t d) o (qk_deep ht) ho')
section
variable {P : Program} {w : World} {K : PySem.W.Frag} {mg : Str → Option Value} {base : Heap} {CX : CXT} {f : Addr} {fd : FuncData}
theorem at4 {α : Type} {a b c d x : α} {i : Nat} (h : [a, b, c, d][i]? = some x) : (i = 0 ∧ x = a) ∨ (i = 1 ∧ x = b) ∨ (i = 2 ∧ x = c) ∨ (i = 3 ∧ x = d) := by
  rcases i with _ | _ | _ | _ | i
  · exact .inl ⟨rfl, (Option.some.inj h).symm⟩
  · exact .inr (.inl ⟨rfl, (Option.some.inj h).symm⟩)
  · exact .inr (.inr (.inl ⟨rfl, (Option.some.inj h).symm⟩))
  · exact .inr (.inr (.inr ⟨rfl, (Option.some.inj h).symm⟩))
  · simp at h
theorem str_eq_nil {z : Str} : (z = ("" : Str)) ↔ z.length = 0 := by
  constructor
  · rintro rfl; decide +kernel
  · intro h
    apply str_ext
    have e : z.cps.toList = [] := List.eq_nil_of_length_eq_zero (by rw [← len_eq]; exact h)
    rw [e]; decide +kernel

def rst (z : Str) : Str := ⟨(z.cps.toList.drop 1).toArray⟩
theorem slice_rst {z : Str} (h : 0 < z.length) : Txt.slice z (some 1) none = rst z := by
  have e := PyProof.Rows.slice_closes_from (x := z) (i := 1) ⟨by decide, by rw [← len_eq]; omega⟩
  rw [beq_iff_eq] at e
  rw [e]
  unfold rst
  congr 2
  show (z.cps.toList.drop 1).take ((z.cps.toList.length : Int) - 1).toNat = _
  rw [List.take_of_length_le]
  rw [List.length_drop, ← len_eq]; omega
theorem rst_len (z : Str) : (rst z).length = z.length - 1 := by rw [len_eq, len_eq]; simp [rst]
theorem rst_isC {z : Str} (h : IsC z) : IsC (rst z) := fun c hc => h c (by
  have hc' : c ∈ z.cps.toList.drop 1 := by simpa [rst] using hc
  exact List.mem_of_mem_drop hc')
theorem at_zero {z : Str} (h : 0 < z.length) : atI z.cps.toList 0 = some (z.cps.getD 0 0) := by
  have hs : 0 < z.cps.size := h
  refine atI_nat (j := 0) ?_
  simp [Array.getD_eq_getD_getElem?, hs]
theorem Same.none {H H' : Hp} {l : Addr} (s : Same H H') (h : H' l = none) : H l = none := by
  cases q : H l with
  | none => rfl
  | some o => rw [s _ _ q] at h; cases h
theorem fokF {x qual : Str} {st : Stmt} {dV : Value} {ps : List Str} (F : FunD K x qual st f fd dV) (b : Binds K fd ps []) (m : mg x = some (.ref f)) : Fok P w K mg base CX 0 x ps [] (fun _ _ _ _ => False) :=
  ⟨f, fd, [], ⟨fun _ _ _ _ h => h.elim, fun _ _ _ _ _ _ _ _ _ _ _ _ _ h => h.elim⟩, b, .nil, F.kp, m⟩
theorem dig_empty : dig ("" : Str) = [] := by decide +kernel
theorem dig_rst {z : Str} (h : 0 < z.length) : dig z = (z.cps.getD 0 0 - 48) :: dig (rst z) := by
  have hs : 0 < z.cps.size := h
  have hl : 0 < z.cps.toList.length := by simpa using hs
  have e : z.cps.toList = z.cps.getD 0 0 :: z.cps.toList.drop 1 := by
    have e1 := List.drop_eq_getElem_cons (l := z.cps.toList) (i := 0) hl
    rw [List.drop_zero] at e1
    have e2 : z.cps.getD 0 0 = z.cps.toList[0] := by simp [Array.getD_eq_getD_getElem?, hs]
    rw [e2]; exact e1
  unfold dig rst
  conv => lhs; rw [e]
  rfl
end
end Qs
namespace Qs
open PySem L2
theorem gath_self {n : Nat} {t : Tr} (h : Good n t) : gath (qk t 0) (qk t 1) (qk t 2) (qk t 3) = t := put4_same (d := 0) (by decide) h

def sqX : Nat → List Nat → Nat
  | _, [] => 0
  | n, d :: ds => d % 2 * 2 ^ (n - 1) + sqX (n - 1) ds
def sqY : Nat → List Nat → Nat
  | _, [] => 0
  | n, d :: ds => d / 2 * 2 ^ (n - 1) + sqY (n - 1) ds
def paintAll (t : Tr) (L : List (List Nat × Int)) : Tr := L.foldl (fun t p => plant t p.1 (.col p.2)) t
theorem paintAll_snoc (t : Tr) (L : List (List Nat × Int)) (p : List Nat × Int) : paintAll t (L ++ [p]) = plant (paintAll t L) p.1 (.col p.2) := by unfold paintAll; rw [List.foldl_append]; rfl

def POk (n : Nat) (p : List Nat × Int) : Prop := (∀ d ∈ p.1, d < 4) ∧ p.1.length ≤ n ∧ 0 ≤ p.2 ∧ p.2 ≤ 35
theorem good_all {n : Nat} : ∀ (L : List (List Nat × Int)) (t : Tr), (∀ p ∈ L, POk n p) → Good n t → Good n (paintAll t L)
  | [], _, _, g => g
  | p :: L, t, h, g => by
    obtain ⟨_, h2, h3⟩ := h p List.mem_cons_self
    exact good_all L _ (fun q hq => h q (List.mem_cons_of_mem _ hq)) (good_plant h2 g (Good.col h3))

def subP (d : Nat) : List (List Nat × Int) → List (List Nat × Int)
  | [] => []
  | ([], _) :: M => subP d M
  | (e :: ds, c) :: M => if e = d then (ds, c) :: subP d M else subP d M
theorem subP_app (d : Nat) : ∀ A B : List (List Nat × Int), subP d (A ++ B) = subP d A ++ subP d B
  | [], _ => rfl
  | ([], _) :: A, B => subP_app d A B
  | (e :: ds, c) :: A, B => by
    show (if e = d then (ds, c) :: subP d (A ++ B) else subP d (A ++ B)) = (if e = d then (ds, c) :: subP d A else subP d A) ++ subP d B
    by_cases h : e = d
    · rw [if_pos h, if_pos h, subP_app d A B]; rfl
    · rw [if_neg h, if_neg h, subP_app d A B]
theorem gath_qk (a b c d : Tr) : gath (qk (gath a b c d) 0) (qk (gath a b c d) 1) (qk (gath a b c d) 2) (qk (gath a b c d) 3) = gath a b c d := by
  obtain ⟨h0, h1, h2, h3⟩ := gath_parts a b c d
  show gath (q0 _) (q1 _) (q2 _) (q3 _) = _
  rw [h0, h1, h2, h3]
theorem paintAll_four : ∀ (M : List (List Nat × Int)) (t : Tr), (∀ p ∈ M, p.1 ≠ [] ∧ ∀ d ∈ p.1, d < 4) → gath (qk t 0) (qk t 1) (qk t 2) (qk t 3) = t →
    paintAll t M = gath (paintAll (qk t 0) (subP 0 M)) (paintAll (qk t 1) (subP 1 M)) (paintAll (qk t 2) (subP 2 M)) (paintAll (qk t 3) (subP 3 M))
  | [], t, _, h => h.symm
  | ([], c) :: M, t, h, _ => absurd rfl (h _ List.mem_cons_self).1
  | (e :: ds, c) :: M, t, h, _ => by
    have he : e < 4 := (h _ List.mem_cons_self).2 e List.mem_cons_self
    have ih := paintAll_four M (put4 t e (plant (qk t e) ds (.col c))) (fun p hp => h p (List.mem_cons_of_mem _ hp)) (gath_qk _ _ _ _)
    have key : ∀ d, d < 4 → paintAll (qk (put4 t e (plant (qk t e) ds (.col c))) d) (subP d M) = paintAll (qk t d) (subP d ((e :: ds, c) :: M)) := fun d hd => by
      rw [qk_put4 he hd]
      show _ = paintAll (qk t d) (if e = d then (ds, c) :: subP d M else subP d M)
      by_cases k : d = e
      · rw [if_pos k, if_pos k.symm, k]; rfl
      · rw [if_neg k, if_neg (Ne.symm k)]
    show paintAll (plant t (e :: ds) (.col c)) M = _
    rw [← key 0 (by decide), ← key 1 (by decide), ← key 2 (by decide), ← key 3 (by decide), ← ih]
    rfl
theorem POk.le {n m : Nat} {p : List Nat × Int} (h : POk n p) (hm : n ≤ m) : POk m p := ⟨h.1, Nat.le_trans h.2.1 hm, h.2.2⟩
theorem subP_ok {n : Nat} (d : Nat) : ∀ M : List (List Nat × Int), (∀ p ∈ M, POk n p) → ∀ p ∈ subP d M, POk (n - 1) p
  | [], _, p, h => by cases h
  | ([], _) :: M, h, p, hp => subP_ok d M (fun q hq => h q (List.mem_cons_of_mem _ hq)) p hp
  | (e :: ds, c) :: M, h, p, hp => by
    have ih := subP_ok d M (fun q hq => h q (List.mem_cons_of_mem _ hq))
    obtain ⟨h1, h2, h3⟩ := h _ List.mem_cons_self
    have hp' : p ∈ (if e = d then (ds, c) :: subP d M else subP d M) := hp
    by_cases k : e = d
    · rw [if_pos k] at hp'
      rcases List.mem_cons.mp hp' with rfl | hp'
      · have h2' : ds.length + 1 ≤ n := h2
        exact ⟨fun x hx => h1 x (List.mem_cons_of_mem _ hx), by show ds.length ≤ n - 1; omega, h3⟩
      · exact ih p hp'
    · rw [if_neg k] at hp'
      exact ih p hp'
theorem one_inj {d e : Nat} (h : one d = one e) : d = e := by
  have h' := congrArg (fun s : Str => s.cps.toList) h
  have h2 : [48 + d] = [48 + e] := h'
  simpa using h2
theorem sqX_snoc : ∀ (ds : List Nat) (n d : Nat), sqX n (ds ++ [d]) = sqX n ds + d % 2 * 2 ^ (n - ds.length - 1)
  | [], n, d => by show d % 2 * 2 ^ (n - 1) + 0 = 0 + d % 2 * 2 ^ (n - 0 - 1); rw [Nat.sub_zero]; omega
  | e :: ds, n, d => by
    show e % 2 * 2 ^ (n - 1) + sqX (n - 1) (ds ++ [d]) = e % 2 * 2 ^ (n - 1) + sqX (n - 1) ds + d % 2 * 2 ^ (n - (ds.length + 1) - 1)
    rw [sqX_snoc ds (n - 1) d, show n - 1 - ds.length - 1 = n - (ds.length + 1) - 1 by omega]; omega
theorem sqY_snoc : ∀ (ds : List Nat) (n d : Nat), sqY n (ds ++ [d]) = sqY n ds + d / 2 * 2 ^ (n - ds.length - 1)
  | [], n, d => by show d / 2 * 2 ^ (n - 1) + 0 = 0 + d / 2 * 2 ^ (n - 0 - 1); rw [Nat.sub_zero]; omega
  | e :: ds, n, d => by
    show e / 2 * 2 ^ (n - 1) + sqY (n - 1) (ds ++ [d]) = e / 2 * 2 ^ (n - 1) + sqY (n - 1) ds + d / 2 * 2 ^ (n - (ds.length + 1) - 1)
    rw [sqY_snoc ds (n - 1) d, show n - 1 - ds.length - 1 = n - (ds.length + 1) - 1 by omega]; omega


def fk (t u : Tr) : Nat := if qk t 0 ≠ qk u 0 then 0 else if qk t 1 ≠ qk u 1 then 1 else if qk t 2 ≠ qk u 2 then 2 else 3

def fu : Nat → Tr → Tr → List Nat
  | 0, _, _ => []
  | m + 1, t, u => if t.isCol = true ∧ u.isCol = true then [] else fk t u :: fu m (qk t (fk t u)) (qk u (fk t u))
theorem fk_before {t u : Tr} {j : Nat} (h : j < fk t u) : qk t j = qk u j := by
  unfold fk at h
  by_cases h0 : qk t 0 = qk u 0
  · by_cases h1 : qk t 1 = qk u 1
    · by_cases h2 : qk t 2 = qk u 2
      · have hj : j < 3 := by
          rw [if_neg (by simp [h0]), if_neg (by simp [h1]), if_neg (by simp [h2])] at h
          exact h
        rcases j with _ | _ | _ | j
        · exact h0
        · exact h1
        · exact h2
        · omega
      · rw [if_neg (by simp [h0]), if_neg (by simp [h1]), if_pos h2] at h
        rcases j with _ | _ | j
        · exact h0
        · exact h1
        · omega
    · rw [if_neg (by simp [h0]), if_pos h1] at h
      rcases j with _ | j
      · exact h0
      · omega
  · rw [if_pos h0] at h
    omega
theorem fk_here {n : Nat} {t u : Tr} (gt : Good n t) (gu : Good n u) (h : t ≠ u) : qk t (fk t u) ≠ qk u (fk t u) := by
  unfold fk
  by_cases h0 : qk t 0 = qk u 0
  · rw [if_neg (by simp [h0])]
    by_cases h1 : qk t 1 = qk u 1
    · rw [if_neg (by simp [h1])]
      by_cases h2 : qk t 2 = qk u 2
      · rw [if_neg (by simp [h2])]
        intro h3
        refine h ?_
        rw [← gath_self gt, ← gath_self gu, h0, h1, h2, h3]
      · rw [if_pos h2]; exact h2
    · rw [if_pos h1]; exact h1
  · rw [if_pos h0]; exact h0
theorem fu_len : ∀ (m : Nat) (t u : Tr), (fu m t u).length ≤ m
  | 0, _, _ => Nat.le_refl _
  | m + 1, t, u => by
    unfold fu
    split
    · exact Nat.zero_le _
    · rw [List.length_cons]
      exact Nat.succ_le_succ (fu_len m _ _)
theorem fu_col (m : Nat) {t u : Tr} (ht : t.isCol = true) (hu : u.isCol = true) : fu m t u = [] := by
  cases m with
  | zero => rfl
  | succ m => unfold fu; rw [if_pos ⟨ht, hu⟩]
theorem fu_step (m : Nat) {t u : Tr} (h : ¬ (t.isCol = true ∧ u.isCol = true)) : fu (m + 1) t u = fk t u :: fu m (qk t (fk t u)) (qk u (fk t u)) := by
  rw [fu, if_neg h]
theorem fold_two (g : Nat → Nat) : ∀ (ds : List Nat) (a : Nat), ds.foldl (fun a d => a * 2 + g d) a = a * 2 ^ ds.length + ds.foldl (fun a d => a * 2 + g d) 0
  | [], a => by simp
  | d :: ds, a => by
    show ds.foldl _ (a * 2 + g d) = a * 2 ^ (ds.length + 1) + ds.foldl _ (0 * 2 + g d)
    rw [fold_two g ds (a * 2 + g d), fold_two g ds (0 * 2 + g d), Nat.add_mul, Nat.pow_succ, Nat.zero_mul, Nat.zero_add, Nat.mul_assoc, Nat.mul_comm 2, Nat.add_assoc]
theorem sqX_cxs : ∀ (ds : List Nat) (n : Nat), ds.length ≤ n → sqX n ds = cxs ds * 2 ^ (n - ds.length)
  | [], n, _ => by cases n <;> simp [sqX, cxs]
  | d :: ds, 0, h => by simp at h
  | d :: ds, n + 1, h => by
    have hl : ds.length ≤ n := by simpa using h
    have e : n + 1 - (d :: ds).length = n - ds.length := by simp
    have pe : 2 ^ n = 2 ^ ds.length * 2 ^ (n - ds.length) := by rw [← Nat.pow_add]; congr 1; omega
    have ec : cxs (d :: ds) = d % 2 * 2 ^ ds.length + cxs ds := by
      have := fold_two (fun d => d % 2) ds (d % 2)
      show ds.foldl (fun a d => a * 2 + d % 2) (0 * 2 + d % 2) = _
      rw [Nat.zero_mul, Nat.zero_add]
      exact this
    show d % 2 * 2 ^ n + sqX n ds = _
    rw [e, ec, sqX_cxs ds n hl, pe, Nat.add_mul, Nat.mul_assoc]
theorem sqY_cys : ∀ (ds : List Nat) (n : Nat), ds.length ≤ n → sqY n ds = cys ds * 2 ^ (n - ds.length)
  | [], n, _ => by cases n <;> simp [sqY, cys]
  | d :: ds, 0, h => by simp at h
  | d :: ds, n + 1, h => by
    have hl : ds.length ≤ n := by simpa using h
    have e : n + 1 - (d :: ds).length = n - ds.length := by simp
    have pe : 2 ^ n = 2 ^ ds.length * 2 ^ (n - ds.length) := by rw [← Nat.pow_add]; congr 1; omega
    have ec : cys (d :: ds) = d / 2 * 2 ^ ds.length + cys ds := by
      have := fold_two (fun d => d / 2) ds (d / 2)
      show ds.foldl (fun a d => a * 2 + d / 2) (0 * 2 + d / 2) = _
      rw [Nat.zero_mul, Nat.zero_add]
      exact this
    show d / 2 * 2 ^ n + sqY n ds = _
    rw [e, ec, sqY_cys ds n hl, pe, Nat.add_mul, Nat.mul_assoc]
end Qs


namespace Qs
open PySem L2
section
variable {P : Program} {w : World} {K : PySem.W.Frag} {mg : Str → Option Value} {base : Heap} {CX : CXT} {f : Addr} {fd : FuncData}
abbrev s_is_whole : Stmt := top 9
theorem sc_is_whole : FnScope ["thing"] ["thing"] (defScope s_is_whole) := ⟨rfl, rfl, rfl, by decide +kernel, rfl, by decide +kernel, by decide +kernel⟩
def sp_is_whole (K : PySem.W.Frag) : Sp := fun vs H Q _ => ∃ x, vs = [x] ∧ ((∃ i, x = .int i ∧ Q (.bl true) H) ∨ (∃ b, x = .bl b ∧ Q (.bl false) H) ∨ ∃ t, TyOf K H x t ∧ PySem.W.kitOne K t (.type "int") = some false ∧ Q (.bl false) H)
theorem ok_is_whole (T : Tx K mg) (F : FunD K "is_whole" "is_whole" s_is_whole f fd .none) : FnOk P w K mg base CX 1 f fd ["thing"] (sp_is_whole K) := by
  refine F.ok sc_is_whole (fun vs H Q E h => ?_) (fun cdv A outer s H vs Q E hr h => ?_)
  · obtain ⟨x, rfl, _⟩ := h
    rfl
  obtain ⟨x, rfl, h⟩ := h
  refine ⟨_, (pss_one (ps_ret (pe_and (pe_callB (call_isiT "int") rfl T.b_isinstance bb_isinstance (pa_cons (pv 0) (pa_cons (pe_bty T.b_int bt_int) pa_nil))) (pe_one (pe_not (pe_callB (call_isiT "bool") rfl T.b_isinstance bb_isinstance (pa_cons (pv 0) (pa_cons (pe_bty T.b_bool bt_bool) pa_nil)))))))), ?_⟩
  rcases h with ⟨i, rfl, q⟩ | ⟨b, rfl, q⟩ | ⟨t, ty, hk, q⟩
  · refine ⟨_, rfl, _, _, _, rfl, .int i, kit_ii, _, rfl, iteT ?_⟩
    exact ⟨_, rfl, _, _, _, rfl, .int i, kit_ib, _, rfl, q⟩
  · refine ⟨_, rfl, _, _, _, rfl, .bl b, kit_bi, _, rfl, iteT ?_⟩
    exact ⟨_, rfl, _, _, _, rfl, .bl b, kit_bb, _, rfl, q⟩
  · exact ⟨_, rfl, _, _, _, rfl, ty, hk, _, rfl, iteF q⟩
abbrev s_is_level : Stmt := top 10
theorem sc_is_level : FnScope ["thing"] ["thing"] (defScope s_is_level) := ⟨rfl, rfl, rfl, by decide +kernel, rfl, by decide +kernel, by decide +kernel⟩
def sp_is_level (K : PySem.W.Frag) : Sp := fun vs H Q _ => ∃ i, vs = [.int i] ∧ (0 ≤ i ∧ i ≤ 40 → Q (.bl true) H) ∧ (¬ (0 ≤ i ∧ i ≤ 40) → Q (.bl false) H)
theorem ok_is_level (T : Tx K mg) (q : Quiet CX) (F : FunD K "is_level" "is_level" s_is_level f fd .none) (C_is_whole : Fok P w K mg base CX 1 "is_whole" ["thing"] [] (sp_is_whole K)) : FnOk P w K mg base CX 2 f fd ["thing"] (sp_is_level K) := by
  refine F.ok sc_is_level (fun vs H Q E h => ?_) (fun cdv A outer s H vs Q E hr h => ?_)
  · obtain ⟨x, rfl, _⟩ := h
    rfl
  obtain ⟨i, rfl, h1, h2⟩ := h
  refine ⟨_, (pss_one (ps_ret (pe_and (pe_callF C_is_whole q hr (pa_cons (pv 0) pa_nil)) (pe_one (pe_chain op_le op_le pe_int (pv 0) (pe_gint T.c_MOST)))))), ?_⟩
  refine ⟨_, rfl, _, rfl, .inl ⟨i, rfl, _, rfl, iteT ?_⟩⟩
  refine ⟨_, rfl, _, _, rfl, rfl, _, rfl, ite2 (fun c => ?_) (fun c => ?_)⟩
  · have c' : (0 : Int) ≤ i := of_decide_eq_true c
    refine ⟨_, _, rfl, rfl, ?_⟩
    show Q (.bl (decide (i ≤ 40))) H
    by_cases d : i ≤ 40
    · have e : decide (i ≤ 40) = true := decide_eq_true d
      rw [e]; exact h1 ⟨c', d⟩
    · have e : decide (i ≤ 40) = false := decide_eq_false d
      rw [e]; exact h2 fun z => d z.2
  · exact h2 fun z => c (decide_eq_true z.1)
abbrev s_is_colour : Stmt := top 11
theorem sc_is_colour : FnScope ["thing"] ["thing"] (defScope s_is_colour) := ⟨rfl, rfl, rfl, by decide +kernel, rfl, by decide +kernel, by decide +kernel⟩
def sp_is_colour : Sp := fun vs H Q _ => ∃ i : Int, vs = [.int i] ∧ 0 ≤ i ∧ i ≤ 35 ∧ Q (.bl true) H
theorem ok_is_colour (T : Tx K mg) (q : Quiet CX) (F : FunD K "is_colour" "is_colour" s_is_colour f fd .none) (C_is_whole : Fok P w K mg base CX 1 "is_whole" ["thing"] [] (sp_is_whole K)) : FnOk P w K mg base CX 2 f fd ["thing"] sp_is_colour := by
  refine F.ok sc_is_colour (fun vs H Q E h => ?_) (fun cdv A outer s H vs Q E hr h => ?_)
  · obtain ⟨x, rfl, _⟩ := h
    rfl
  obtain ⟨i, rfl, h0, h1, q'⟩ := h
  refine ⟨_, (pss_one (ps_ret (pe_and (pe_callF C_is_whole q hr (pa_cons (pv 0) pa_nil)) (pe_one (pe_chain op_le op_le pe_int (pv 0) (pe_gint T.c_LAST_COLOUR)))))), ?_⟩
  refine ⟨_, rfl, _, rfl, .inl ⟨i, rfl, _, rfl, iteT ?_⟩⟩
  refine ⟨_, rfl, _, _, rfl, rfl, _, rfl, ite2 (fun c => ?_) (fun c => absurd (decide_eq_true h0) c)⟩
  refine ⟨_, _, rfl, rfl, ?_⟩
  show Q (.bl (decide (i ≤ 35))) H
  rw [decide_eq_true h1]
  exact q'
abbrev s_need_level : Stmt := top 13
theorem sc_need_level : FnScope ["level", "least"] ["level", "least"] (defScope s_need_level) := ⟨rfl, rfl, rfl, by decide +kernel, rfl, by decide +kernel, by decide +kernel⟩
def sp_need_level : Sp := fun vs H Q _ => ∃ l m : Int, vs = [.int l, .int m] ∧ 0 ≤ l ∧ l ≤ 40 ∧ m ≤ l ∧ Q .non H
theorem ok_need_level {dV : Value} (T : Tx K mg) (q : Quiet CX) (F : FunD K "need_level" "need_level" s_need_level f fd dV) (C_is_level : Fok P w K mg base CX 2 "is_level" ["thing"] [] (sp_is_level K)) : FnOk P w K mg base CX 3 f fd ["level", "least"] sp_need_level := by
  refine F.ok sc_need_level (fun vs H Q E h => ?_) (fun cdv A outer s H vs Q E hr h => ?_)
  · obtain ⟨_, _, rfl, _⟩ := h
    rfl
  obtain ⟨l, m, rfl, h0, h1, h2, q'⟩ := h
  refine ⟨_, (pss_one (ps_if (PW.pt (pw_or (pt_not (pt_val (pe_callF C_is_level q hr (pa_cons (pv 0) pa_nil)))) (pw_or1 (pt_cmpR op_lt (pv 0) (pv 1) (nomark _))))) (pss_one ps_never) pss_nil)), ?_⟩
  refine ⟨_, rfl, l, rfl, fun _ => ?_, fun z => absurd ⟨h0, h1⟩ z⟩
  refine ⟨_, rfl, iteF ?_⟩
  refine ⟨_, rfl, _, rfl, _, _, rfl, rfl, _, rfl, ite2 (fun c => ?_) (fun _ => q')⟩
  have c' : l < m := of_decide_eq_true c
  exact absurd c' (by omega)
abbrev s_need_colour : Stmt := top 16
theorem sc_need_colour : FnScope ["colour"] ["colour"] (defScope s_need_colour) := ⟨rfl, rfl, rfl, by decide +kernel, rfl, by decide +kernel, by decide +kernel⟩
def sp_need_colour : Sp := fun vs H Q _ => ∃ i : Int, vs = [.int i] ∧ 0 ≤ i ∧ i ≤ 35 ∧ Q .non H
theorem ok_need_colour (T : Tx K mg) (q : Quiet CX) (F : FunD K "need_colour" "need_colour" s_need_colour f fd .none) (C_is_colour : Fok P w K mg base CX 2 "is_colour" ["thing"] [] sp_is_colour) : FnOk P w K mg base CX 3 f fd ["colour"] sp_need_colour := by
  refine F.ok sc_need_colour (fun vs H Q E h => ?_) (fun cdv A outer s H vs Q E hr h => ?_)
  · obtain ⟨x, rfl, _⟩ := h
    rfl
  obtain ⟨i, rfl, h0, h1, q'⟩ := h
  refine ⟨_, (pss_one (ps_if (pt_not (pt_val (pe_callF C_is_colour q hr (pa_cons (pv 0) pa_nil)))) (pss_one ps_never) pss_nil)), ?_⟩
  exact ⟨_, rfl, i, rfl, h0, h1, _, rfl, iteF q'⟩
abbrev s_is_code : Stmt := top 12
theorem sc_is_code : FnScope ["thing"] ["thing"] (defScope s_is_code) := ⟨rfl, rfl, rfl, by decide +kernel, rfl, by decide +kernel, by decide +kernel⟩
theorem in_q {d : Nat} (h : d < 4) : (!(Builtin.Str.occurrences ("0123" : Str) (one d) 0 ("0123" : Str).length 1).isEmpty) = true :=
  four (P := fun d => (!(Builtin.Str.occurrences ("0123" : Str) (one d) 0 ("0123" : Str).length 1).isEmpty) = true) (by decide +kernel) (by decide +kernel) (by decide +kernel) (by decide +kernel) h
def sp_is_code : Sp := fun vs H Q _ => ∃ z, vs = [.str z] ∧ IsC z ∧ z.length ≤ 40 ∧ ∀ H', Same H H' → Q (.bl true) H'
theorem ok_is_code (T : Tx K mg) (F : FunD K "is_code" "is_code" s_is_code f fd .none) : FnOk P w K mg base CX 1 f fd ["thing"] sp_is_code := by
  refine F.ok sc_is_code (fun vs H Q E h => ?_) (fun cdv A outer s H vs Q E hr h => ?_)
  · obtain ⟨x, rfl, _⟩ := h
    rfl
  obtain ⟨z, rfl, hz, hl, q⟩ := h
  refine ⟨_, (pss_cons (ps_if (PW.pt (pw_or (pt_not (pt_val (pe_callB (call_isiT "str") rfl T.b_isinstance bb_isinstance (pa_cons (pv 0) (pa_cons (pe_bty T.b_str bt_str) pa_nil))))) (pw_or1 (pt_cmpR op_gt (pe_callB call_len rfl T.b_len bb_len (pa_cons (pv 0) pa_nil)) (pe_gint T.c_MOST) (nomark _))))) (pss_one (ps_ret pe_bl)) pss_nil) (pss_one (ps_ret (pe_callB (call_all rfl) rfl T.b_all bb_all (pa_cons (pe_comp (N' := ["sign"]) (by decide +kernel) (by decide +kernel) rfl (by decide +kernel) rfl (pi_str (pv 0)) (fun C s0 H0 fp pins => (pg_name (i := 0) (nd1 _) rfl (Or.inl rfl))) (fun C s0 H0 fp pins => (pe_cmpR op_in_str (pv 0) (pe_gstr T.c_QUARTERS) (by with_unfolding_all rfl)))) pa_nil))))), ?_⟩
  have hs : z.length ≤ sizeLine := small (by omega)
  refine ⟨_, rfl, _, _, _, rfl, .str z, kit_ss, _, rfl, iteF ?_⟩
  refine ⟨_, rfl, _, _, rfl, ⟨hs, rfl⟩, _, _, rfl, rfl, _, rfl, ite2 (fun c => ?_) (fun _ => ?_)⟩
  · have c' : (40 : Int) < (z.length : Int) := of_decide_eq_true c
    omega
  refine ⟨_, rfl, _, rfl, comp_of (fun i => .bl (!(Builtin.Str.occurrences ("0123" : Str) (sgn z i) 0 ("0123" : Str).length 1).isEmpty)) hs (fun i H' R hi hR => ⟨_, rfl, _, _, rfl, rfl, hR⟩) fun D hD => ?_⟩
  have e : (List.range z.length).map (fun i => V.bl (!(Builtin.Str.occurrences ("0123" : Str) (sgn z i) 0 ("0123" : Str).length 1).isEmpty)) = (List.replicate z.length true).map V.bl := by
    refine List.ext_getElem (by simp) fun i h1 h2 => ?_
    have hi : i < z.length := by simpa using h1
    obtain ⟨d, hd, e, _⟩ := sgn_one hz hi
    simp only [List.getElem_map, List.getElem_range, List.getElem_replicate, e, in_q hd]
  refine ⟨D, List.replicate z.length true, rfl, SqL.of (by rw [upd_same, e]), ?_⟩
  have e2 : (List.replicate z.length true).all id = true := by simp
  rw [e2]
  exact q _ (Same.new hD _)
abbrev s_need_code : Stmt := top 14
theorem sc_need_code : FnScope ["code"] ["code"] (defScope s_need_code) := ⟨rfl, rfl, rfl, by decide +kernel, rfl, by decide +kernel, by decide +kernel⟩
def sp_need_code : Sp := fun vs H Q _ => ∃ z, vs = [.str z] ∧ IsC z ∧ z.length ≤ 40 ∧ ∀ H', Same H H' → Q .non H'
theorem ok_need_code (T : Tx K mg) (q : Quiet CX) (F : FunD K "need_code" "need_code" s_need_code f fd .none) (C_is_code : Fok P w K mg base CX 1 "is_code" ["thing"] [] sp_is_code) : FnOk P w K mg base CX 2 f fd ["code"] sp_need_code := by
  refine F.ok sc_need_code (fun vs H Q E h => ?_) (fun cdv A outer s H vs Q E hr h => ?_)
  · obtain ⟨x, rfl, _⟩ := h
    rfl
  obtain ⟨z, rfl, hz, hl, q'⟩ := h
  refine ⟨_, (pss_one (ps_if (pt_not (pt_val (pe_callF C_is_code q hr (pa_cons (pv 0) pa_nil)))) (pss_one ps_never) pss_nil)), ?_⟩
  exact ⟨_, rfl, z, rfl, hz, hl, fun H' sm => ⟨_, rfl, iteF (q' H' sm)⟩⟩
abbrev s_need_code_within : Stmt := top 15
theorem sc_need_code_within : FnScope ["code", "level"] ["code", "level"] (defScope s_need_code_within) := ⟨rfl, rfl, rfl, by decide +kernel, rfl, by decide +kernel, by decide +kernel⟩
def sp_code_within : Sp := fun vs H Q _ => ∃ (z : Str) (n : Nat), vs = [.str z, .int n] ∧ IsC z ∧ z.length ≤ n ∧ n ≤ 40 ∧ ∀ H', Same H H' → Q .non H'
theorem ok_need_code_within (T : Tx K mg) (q : Quiet CX) (F : FunD K "need_code_within" "need_code_within" s_need_code_within f fd .none) (C_is_code : Fok P w K mg base CX 1 "is_code" ["thing"] [] sp_is_code) : FnOk P w K mg base CX 2 f fd ["code", "level"] sp_code_within := by
  refine F.ok sc_need_code_within (fun vs H Q E h => ?_) (fun cdv A outer s H vs Q E hr h => ?_)
  · obtain ⟨_, _, rfl, _⟩ := h
    rfl
  obtain ⟨z, n, rfl, hz, hl, hn, q'⟩ := h
  refine ⟨_, (pss_one (ps_if (PW.pt (pw_or (pt_not (pt_val (pe_callF C_is_code q hr (pa_cons (pv 0) pa_nil)))) (pw_or1 (pt_cmpR op_gt (pe_callB call_len rfl T.b_len bb_len (pa_cons (pv 0) pa_nil)) (pv 1) (nomark _))))) (pss_one ps_never) pss_nil)), ?_⟩
  refine ⟨_, rfl, z, rfl, hz, by omega, fun H1 s1 => ⟨_, rfl, iteF ?_⟩⟩
  refine ⟨_, rfl, _, _, rfl, ⟨small (by omega), rfl⟩, _, rfl, _, _, rfl, rfl, _, rfl, ite2 (fun c => ?_) (fun _ => q' H1 s1)⟩
  have c' : (n : Int) < (z.length : Int) := of_decide_eq_true c
  omega
abbrev s_width_of : Stmt := top 18
theorem sc_width_of : FnScope ["level", "wide", "step"] ["level"] (defScope s_width_of) := ⟨rfl, rfl, rfl, by decide +kernel, rfl, by decide +kernel, by decide +kernel⟩
def sp_width_of : Sp := fun vs H Q _ => ∃ n : Nat, vs = [.int n] ∧ n ≤ 64 ∧ Q (.int ((2 ^ n : Nat) : Int)) H
theorem ok_width_of (T : Tx K mg) (F : FunD K "width_of" "width_of" s_width_of f fd .none) : FnOk P w K mg base CX 1 f fd ["level"] sp_width_of := by
  refine F.ok sc_width_of (fun vs H Q E h => ?_) (fun cdv A outer s H vs Q E hr h => ?_)
  · obtain ⟨x, rfl, _⟩ := h
    rfl
  obtain ⟨n, rfl, hn, q'⟩ := h
  refine ⟨_, (pss_cons (ps_set (i := 1) sc_width_of.nd rfl (Or.inl rfl) pe_int) (pss_cons (ps_for PassesOwn.never rfl (pi_range1 rfl T.b_range (pa_cons (pv 0) pa_nil)) (pg_name (i := 2) sc_width_of.nd rfl (Or.inl rfl)) (pss_one (ps_set (i := 1) sc_width_of.nd rfl (Or.inl rfl) (pe_op op_mul (pv 1) pe_int)))) (pss_one (ps_ret (pv 1))))), ?_⟩
  refine ⟨_, rfl, _, rfl, by omega, by omega, for_range (fun i σ H2 => H2 = H ∧ ∃ x v, x = ((2 ^ i : Nat) : Int) ∧ σ = [some (.int n), some (.int x), v]) ⟨rfl, 1, none, rfl, rfl⟩ ?_ ?_⟩
  · rintro i σ H2 hi ⟨rfl, x, v, rfl, rfl⟩
    refine ⟨_, rfl, _, _, rfl, rfl, .inr ⟨by decide, by decide⟩, rfl, _, _, ?_, rfl⟩
    rw [Nat.pow_succ, Int.natCast_mul]; rfl
  · rintro σ H2 ⟨rfl, x, v, rfl, rfl⟩
    have e : ((n : Int)).toNat = n := Int.toNat_natCast n
    refine ⟨_, rfl, ?_⟩
    rw [e]
    exact q'
abbrev s_corner : Stmt := top 19
theorem sc_corner : FnScope ["code", "level", "x", "y", "sign", "quarter", "wide"] ["code", "level"] (defScope s_corner) := ⟨rfl, rfl, rfl, by decide +kernel, rfl, by decide +kernel, by decide +kernel⟩
def sp_corner : Sp := fun vs H Q _ => ∃ (z : Str) (n : Nat), vs = [.str z, .int n] ∧ IsC z ∧ z.length ≤ n ∧ n ≤ 40 ∧
  ∀ p H', Same H H' → H' p = some (.tup [.int ((cxs (dig z) * 2 ^ (n - z.length) : Nat) : Int), .int ((cys (dig z) * 2 ^ (n - z.length) : Nat) : Int), .int ((2 ^ (n - z.length) : Nat) : Int)]) → Q (.ref p) H'
theorem ok_corner (T : Tx K mg) (q : Quiet CX) (F : FunD K "corner" "corner" s_corner f fd .none) (C_need_code : Fok P w K mg base CX 2 "need_code" ["code"] [] sp_need_code) (C_need_level : Fok P w K mg base CX 3 "need_level" ["level", "least"] [] sp_need_level)
    (C_width_of : Fok P w K mg base CX 1 "width_of" ["level"] [] sp_width_of) : FnOk P w K mg base CX 4 f fd ["code", "level"] sp_corner := by
  refine F.ok sc_corner (fun vs H Q E h => ?_) (fun cdv A outer s H vs Q E hr h => ?_)
  · obtain ⟨_, _, rfl, _⟩ := h
    rfl
  obtain ⟨z, n, rfl, hz, hl, hn, q'⟩ := h
  refine ⟨_, (pss_cons (ps_expr (pe_callF C_need_code q hr (pa_cons (pv 0) pa_nil))) (pss_cons (ps_expr (pe_callF C_need_level q hr (pa_cons (pv 1) (pa_cons (pe_callB call_len rfl T.b_len bb_len (pa_cons (pv 0) pa_nil)) pa_nil)))) (pss_cons (ps_set (i := 2) sc_corner.nd rfl (Or.inl rfl) pe_int) (pss_cons (ps_set (i := 3) sc_corner.nd rfl (Or.inl rfl) pe_int) (pss_cons (ps_for PassesOwn.never rfl (pi_str (pv 0)) (pg_name (i := 4) sc_corner.nd rfl (Or.inl rfl)) (pss_cons (ps_set (i := 5) sc_corner.nd rfl (Or.inl rfl) (pe_callTy call_int_str rfl T.b_int bt_int (pa_cons (pv 4) pa_nil))) (pss_cons (ps_set (i := 2) sc_corner.nd rfl (Or.inl rfl) (pe_op op_add (pe_op op_mul (pv 2) pe_int) (pe_op op_mod (pv 5) pe_int))) (pss_one (ps_set (i := 3) sc_corner.nd rfl (Or.inl rfl) (pe_op op_add (pe_op op_mul (pv 3) pe_int) (pe_op op_fdivW (pv 5) pe_int))))))) (pss_cons (ps_set (i := 6) sc_corner.nd rfl (Or.inl rfl) (pe_callF C_width_of q hr (pa_cons (pe_op op_sub (pv 1) (pe_callB call_len rfl T.b_len bb_len (pa_cons (pv 0) pa_nil))) pa_nil))) (pss_one (ps_ret (pe_tupx (pax_c (pe_op op_mul (pv 2) (pv 6)) (pax_c (pe_op op_mul (pv 3) (pv 6)) (pax_c (pv 6) pax_nil)))))))))))), ?_⟩
  have hs : z.length ≤ sizeLine := small (by omega)
  refine ⟨_, rfl, z, rfl, hz, by omega, fun H1 s1 => ?_⟩
  refine ⟨_, rfl, _, rfl, _, _, rfl, ⟨hs, rfl⟩, (n : Int), (z.length : Int), rfl, by omega, by omega, by omega, ?_⟩
  refine ⟨_, rfl, z, rfl, for_gen (fun i σ H2 => H2 = H1 ∧ ∃ x y v4 v5, x = ((cxs ((dig z).take i) : Nat) : Int) ∧ y = ((cys ((dig z).take i) : Nat) : Int) ∧ σ = [some (.str z), some (.int n), some (.int x), some (.int y), v4, v5, none]) ⟨rfl, 0, 0, none, none, rfl, rfl, rfl⟩ ?_ ?_⟩
  · rintro i σ H2 hi ⟨rfl, x, y, v4, v5, rfl, rfl, rfl⟩
    obtain ⟨d, hd, e1, e2⟩ := sgn_one hz hi
    refine ⟨_, rfl, _, (d : Int), rfl, by rw [e1]; exact int_one hd, by rw [e1]; show 1 ≤ 640; decide, ?_⟩
    refine ⟨_, rfl, _, _, rfl, rfl, .inr ⟨by decide, by decide⟩, _, rfl, _, _, rfl, rfl, (by show (0 : Int) < 2; decide), _, _, rfl, rfl, ?_⟩
    refine ⟨_, rfl, _, _, rfl, rfl, .inr ⟨by decide, by decide⟩, _, rfl, _, _, rfl, rfl, cdivW (by decide) (by decide), _, _, rfl, rfl, ?_⟩
    refine ⟨rfl, _, _, _, _, ?_, ?_, rfl⟩
    · rw [dig_take hi, cxs_snoc, e2]; omega
    · rw [dig_take hi, cys_snoc, e2]; omega
  · rintro σ H2 ⟨rfl, x, y, v4, v5, rfl, rfl, rfl⟩
    have et : (dig z).take z.length = dig z := List.take_of_length_le (by rw [dig_len]; exact Nat.le_refl _)
    rw [et]
    have e : (n : Int) - (z.length : Int) = ((n - z.length : Nat) : Int) := by omega
    refine ⟨_, rfl, _, rfl, _, _, rfl, ⟨hs, rfl⟩, _, _, rfl, rfl, n - z.length, (by show [V.int _] = [V.int _]; rw [e]), by omega, ?_⟩
    have hw := powB (k := n - z.length) (by omega)
    refine ⟨_, rfl, _, rfl, _, _, rfl, rfl, .inr hw, _, rfl, _, rfl, _, _, rfl, rfl, .inr hw, _, rfl, (by show 3 ≤ sizeLine; decide), fun p hp => ?_⟩
    refine q' p _ (s1.trans (Same.new hp _)) ?_
    rw [upd_same, Int.natCast_mul, Int.natCast_mul]
abbrev s_is_of_one_colour : Stmt := top 21
theorem sc_is_of_one_colour : FnScope ["parts", "first"] ["parts"] (defScope s_is_of_one_colour) := ⟨rfl, rfl, rfl, by decide +kernel, rfl, by decide +kernel, by decide +kernel⟩
def sp_is_one : Sp := fun vs H Q _ => ∃ (l : Addr) (a b c d : V) (ta tb tc td : Tr), vs = [.ref l] ∧ H l = some (.lst [a, b, c, d]) ∧ TrAt H a ta ∧ TrAt H b tb ∧ TrAt H c tc ∧ TrAt H d td ∧
  (ta.deep ≤ 60 ∧ tb.deep ≤ 60 ∧ tc.deep ≤ 60 ∧ td.deep ≤ 60) ∧ ∀ H', Same H H' → Q (.bl (oneB ta tb tc td)) H'
theorem ok_is_of_one_colour (T : Tx K mg) (F : FunD K "is_of_one_colour" "is_of_one_colour" s_is_of_one_colour f fd .none) : FnOk P w K mg base CX 1 f fd ["parts"] sp_is_one := by
  refine F.ok sc_is_of_one_colour (fun vs H Q E h => ?_) (fun cdv A outer s H vs Q E hr h => ?_)
  · obtain ⟨_, _, _, _, _, _, _, _, _, rfl, _⟩ := h
    rfl
  obtain ⟨l, a, b, c, d, ta, tb, tc, td, rfl, hl, ha, hb, hc, hd, ⟨da, db, dc, dd⟩, q'⟩ := h
  refine ⟨_, (pss_cons (ps_set (i := 1) sc_is_of_one_colour.nd rfl (Or.inr rfl) (pe_ix ix_list (pv 0) pe_int (fun _ _ => rfl))) (pss_cons (ps_if (pt_val (pe_callB (call_isiT "tuple") rfl T.b_isinstance bb_isinstance (pa_cons (pv 1) (pa_cons (pe_bty T.b_tuple bt_tuple) pa_nil)))) (pss_one (ps_ret pe_bl)) pss_nil) (pss_one (ps_ret (pe_callB (call_all rfl) rfl T.b_all bb_all (pa_cons (pe_compC (N' := ["part", "first"]) ["first"] ["first"] [1] 1 (by with_unfolding_all rfl) rfl (capsOk_cons rfl rfl (by decide) capsOk_nil) rfl rfl (by decide) rfl (by decide +kernel) rfl (by decide +kernel) rfl (pi_list (pv 0)) (fun C s0 H0 fp pins => (pg_name (i := 0) (show (["part", "first"] : List Str).Nodup by decide +kernel) rfl (Or.inl rfl) (Or.inr rfl))) (fun C s0 H0 fp pins => (pe_cmpR (op_eqD hr) (pv 0) (pv 1) (nomark _)))) pa_nil)))))), ?_⟩
  refine ⟨_, rfl, l, _, _, a, rfl, rfl, SqL.of hl, rfl, ?_⟩
  cases ha with
  | four e =>
    refine ⟨_, rfl, _, _, _, rfl, .tup e, kit_tt, _, rfl, iteT ?_⟩
    exact q' H (Same.refl H)
  | col i =>
    refine ⟨_, rfl, _, _, _, rfl, .int i, kit_it, _, rfl, iteF ?_⟩
    have full : ∃ bs : List Bool, bs = [decide (Tr.col i = Tr.col i), decide (tb = .col i), decide (tc = .col i), decide (td = .col i)] := ⟨_, rfl⟩
    obtain ⟨bs, ebs⟩ := full
    have hi : TrAt H (.int i) (.col i) := .col i
    refine ⟨[.int i], rfl, _, rfl, l, rfl, ⟨_, SqL.of hl⟩, compC_list [.int i, b, c, d] (fun D j ys H' => Same H H' ∧ H' D = some (.lst ys) ∧ j ≤ 4 ∧ ys = (bs.take j).map V.bl) (by show 4 ≤ sizeLine; decide) (fun D j ys H' h => SqL.of (h.1 _ _ hl))
      (fun D j ys H' h => ⟨h.2.1, by rw [h.2.2.2]; simp; omega⟩) (fun D hD => ⟨Same.new hD _, upd_same, by decide, rfl⟩) ?_ ?_ (fun _ _ _ _ _ k h => k _ _ h) ?_⟩
    · rintro D j x ys H' hx hD ⟨s1, s2, s3, s4⟩
      have key : ∃ tx, TrAt H x tx ∧ tx.deep ≤ 60 ∧ bs[j]? = some (decide (tx = .col i)) := by
        rcases at4 hx with ⟨rfl, rfl⟩ | ⟨rfl, rfl⟩ | ⟨rfl, rfl⟩ | ⟨rfl, rfl⟩
        · exact ⟨_, hi, Nat.zero_le _, by rw [ebs]; rfl⟩
        · exact ⟨_, hb, db, by rw [ebs]; rfl⟩
        · exact ⟨_, hc, dc, by rw [ebs]; rfl⟩
        · exact ⟨_, hd, dd, by rw [ebs]; rfl⟩
      obtain ⟨tx, htx, dx, ex⟩ := key
      refine ⟨rfl, _, rfl, _, rfl, tx.data, (Tr.col i).data, (htx.up s1.tups).dat, .int i, Tr.shaped (by omega), Tr.shaped (Nat.zero_le _), s2, Same.set s1 hD _, upd_same, ?_, ?_⟩
      · have := (List.getElem?_eq_some_iff.mp hx).1
        exact this
      · rw [Tr.eqv, List.take_add_one, ex, s4, List.map_append]; rfl
    · rintro D ys H' hD ⟨s1, s2, s3, s4⟩
      refine ⟨D, bs, rfl, SqL.of (by rw [s2, s4]; congr 2; rw [ebs]; rfl), ?_⟩
      have e : bs.all id = oneB (.col i) tb tc td := by rw [ebs]; rfl
      rw [e]
      exact q' H' s1
    · intro σ H' R R' k h
      obtain ⟨x1, e1, x2, e2, d1, d2, p1, p2, p3, p4, h⟩ := h
      exact ⟨x1, e1, x2, e2, d1, d2, p1, p2, p3, p4, k _ _ h⟩
abbrev s_gathered : Stmt := top 22
theorem sc_gathered : FnScope ["parts"] ["parts"] (defScope s_gathered) := ⟨rfl, rfl, rfl, by decide +kernel, rfl, by decide +kernel, by decide +kernel⟩
def sp_gathered : Sp := fun vs H Q _ => ∃ (l : Addr) (a b c d : V) (ta tb tc td : Tr), vs = [.ref l] ∧ H l = some (.lst [a, b, c, d]) ∧ TrAt H a ta ∧ TrAt H b tb ∧ TrAt H c tc ∧ TrAt H d td ∧
  (ta.deep ≤ 60 ∧ tb.deep ≤ 60 ∧ tc.deep ≤ 60 ∧ td.deep ≤ 60) ∧ ∀ v H', Same H H' → TrAt H' v (gath ta tb tc td) → Q v H'
theorem ok_gathered (T : Tx K mg) (q : Quiet CX) (F : FunD K "gathered" "gathered" s_gathered f fd .none) (C_is_of_one_colour : Fok P w K mg base CX 1 "is_of_one_colour" ["parts"] [] sp_is_one) : FnOk P w K mg base CX 2 f fd ["parts"] sp_gathered := by
  refine F.ok sc_gathered (fun vs H Q E h => ?_) (fun cdv A outer s H vs Q E hr h => ?_)
  · obtain ⟨_, _, _, _, _, _, _, _, _, rfl, _⟩ := h
    rfl
  obtain ⟨l, a, b, c, d, ta, tb, tc, td, rfl, hl, ha, hb, hc, hd, dp, q'⟩ := h
  refine ⟨_, (pss_cons (ps_if (pt_val (pe_callF C_is_of_one_colour q hr (pa_cons (pv 0) pa_nil))) (pss_one (ps_ret (pe_ix ix_list (pv 0) pe_int (fun _ _ => rfl)))) pss_nil) (pss_one (ps_ret (pe_callTy call_tuple_of rfl T.b_tuple bt_tuple (pa_cons (pv 0) pa_nil))))), ?_⟩
  refine ⟨_, rfl, l, a, b, c, d, ta, tb, tc, td, rfl, hl, ha, hb, hc, hd, dp, fun H1 s1 => ⟨_, rfl, ite2 (fun e => ?_) (fun e => ?_)⟩⟩
  · refine ⟨_, rfl, l, _, _, a, rfl, rfl, SqL.of (s1 _ _ hl), rfl, q' a H1 s1 ?_⟩
    unfold gath
    rw [if_pos e]
    exact ha.up s1.tups
  · refine ⟨_, rfl, l, _, rfl, .inl ⟨SqL.of (s1 _ _ hl), fun p hp => q' _ _ (s1.trans (Same.new hp _)) ?_⟩⟩
    unfold gath
    rw [if_neg e]
    have s2 := (s1.trans (Same.new hp (.tup [a, b, c, d]))).tups
    exact .four upd_same (ha.up s2) (hb.up s2) (hc.up s2) (hd.up s2)
abbrev s_parted : Stmt := top 23
theorem sc_parted : FnScope ["tree"] ["tree"] (defScope s_parted) := ⟨rfl, rfl, rfl, by decide +kernel, rfl, by decide +kernel, by decide +kernel⟩
def sp_parted : Sp := fun vs H Q _ => ∃ (v : V) (t : Tr), vs = [v] ∧ TrAt H v t ∧ ∀ p a b c d H', Same H H' → H' p = some (.tup [a, b, c, d]) → TrAt H' a (q0 t) → TrAt H' b (q1 t) → TrAt H' c (q2 t) → TrAt H' d (q3 t) → Q (.ref p) H'
theorem ok_parted (T : Tx K mg) (F : FunD K "parted" "parted" s_parted f fd .none) : FnOk P w K mg base CX 1 f fd ["tree"] sp_parted := by
  refine F.ok sc_parted (fun vs H Q E h => ?_) (fun cdv A outer s H vs Q E hr h => ?_)
  · obtain ⟨_, _, rfl, _⟩ := h
    rfl
  obtain ⟨v, t, rfl, ht, q'⟩ := h
  refine ⟨_, (pss_cons (ps_if (pt_val (pe_callB (call_isiT "tuple") rfl T.b_isinstance bb_isinstance (pa_cons (pv 0) (pa_cons (pe_bty T.b_tuple bt_tuple) pa_nil)))) (pss_one (ps_ret (pv 0))) pss_nil) (pss_one (ps_ret (pe_tupx (pax_c (pv 0) (pax_c (pv 0) (pax_c (pv 0) (pax_c (pv 0) pax_nil)))))))), ?_⟩
  cases ht with
  | four e a b c d =>
    refine ⟨_, rfl, _, _, _, rfl, .tup e, kit_tt, _, rfl, iteT ⟨_, rfl, ?_⟩⟩
    exact q' _ _ _ _ _ H (Same.refl H) e a b c d
  | col i =>
    refine ⟨_, rfl, _, _, _, rfl, .int i, kit_it, _, rfl, iteF ?_⟩
    exact ⟨_, rfl, _, rfl, _, rfl, _, rfl, (by show 4 ≤ sizeLine; decide), fun p hp => q' p _ _ _ _ _ (Same.new hp _) upd_same (.col i) (.col i) (.col i) (.col i)⟩
abbrev s_planted : Stmt := top 24
theorem sc_planted : FnScope ["tree", "code", "other", "parts", "quarter"] ["tree", "code", "other"] (defScope s_planted) := ⟨rfl, rfl, rfl, by decide +kernel, rfl, by decide +kernel, by decide +kernel⟩
def sp_planted (m : Nat) : Sp := fun vs H Q _ => ∃ (v o : V) (t u : Tr) (z : Str), vs = [v, .str z, o] ∧ TrAt H v t ∧ TrAt H o u ∧ IsC z ∧ z.length ≤ m ∧ m ≤ 40 ∧ t.deep ≤ 60 ∧ u.deep + z.length ≤ 60 ∧ ∀ v' H', Same H H' → TrAt H' v' (plant t (dig z) u) → Q v' H'
theorem ok_planted (T : Tx K mg) (q : Quiet CX) (F : FunD K "planted" "planted" s_planted f fd .none) (C_parted : Fok P w K mg base CX 1 "parted" ["tree"] [] sp_parted) (C_gathered : Fok P w K mg base CX 2 "gathered" ["parts"] [] sp_gathered) (b : Binds K fd ["tree", "code", "other"] []) (m : mg "planted" = some (.ref f)) :
    ∀ n, FnOk P w K mg base CX (3 + n) f fd ["tree", "code", "other"] (sp_planted n)
  | 0 => by
    have C_planted := fokF (P := P) (w := w) (base := base) (CX := CX) F b m
    refine F.ok sc_planted (fun vs H Q E h => ?_) (fun cdv A outer s H vs Q E hr h => ?_)
    · obtain ⟨_, _, _, _, _, rfl, _⟩ := h
      rfl
    obtain ⟨v, o, t, u, z, rfl, ht, hu, hz, hl, hm, dt, du, q'⟩ := h
    refine ⟨_, (pss_cons (ps_if (pt_cmpR op_eq (pv 1) pe_str (nomark _)) (pss_one (ps_ret (pv 2))) pss_nil) (pss_cons (ps_set (i := 3) sc_planted.nd rfl (Or.inl rfl) (pe_callTy call_list_of rfl T.b_list bt_list (pa_cons (pe_callF C_parted q hr (pa_cons (pv 0) pa_nil) (hj := by first | decide | omega | (simp only [Nat.add_eq]; omega))) pa_nil))) (pss_cons (ps_set (i := 4) sc_planted.nd rfl (Or.inl rfl) (pe_callTy call_int_str rfl T.b_int bt_int (pa_cons (pe_ix ix_str (pv 1) pe_int (fun _ _ => rfl)) pa_nil))) (pss_cons (ps_asg (pe_callF C_planted q hr (pa_cons (pe_ix ix_list (pv 3) (pv 4) (fun _ _ => rfl)) (pa_cons (pe_slice sl_str (pv 1) (po_some pe_int) po_none) (pa_cons (pv 2) pa_nil))) (hj := by first | decide | omega | (simp only [Nat.add_eq]; omega))) (pg_sub (pv 3) (pv 4) set_list)) (pss_one (ps_ret (pe_callF C_gathered q hr (pa_cons (pv 3) pa_nil) (hj := by first | decide | omega | (simp only [Nat.add_eq]; omega))))))))), ?_⟩
    have e := str_eq_nil.mpr (Nat.le_zero.mp hl)
    subst e
    rw [dig_empty] at q'
    refine ⟨_, rfl, rfl, _, rfl, ite2 (fun c => ?_) (fun c => absurd (by simp) c)⟩
    exact ⟨_, rfl, q' o H (Same.refl H) hu⟩
  | n + 1 => by
    have C_planted : Fok P w K mg base CX (3 + n) "planted" ["tree", "code", "other"] [] (sp_planted n) := fok F (ok_planted T q F C_parted C_gathered b m n) b m
    refine F.ok sc_planted (fun vs H Q E h => ?_) (fun cdv A outer s H vs Q E hr h => ?_)
    · obtain ⟨_, _, _, _, _, rfl, _⟩ := h
      rfl
    obtain ⟨v, o, t, u, z, rfl, ht, hu, hz, hl, hm, dt, du, q'⟩ := h
    refine ⟨_, (pss_cons (ps_if (pt_cmpR op_eq (pv 1) pe_str (nomark _)) (pss_one (ps_ret (pv 2))) pss_nil) (pss_cons (ps_set (i := 3) sc_planted.nd rfl (Or.inl rfl) (pe_callTy call_list_of rfl T.b_list bt_list (pa_cons (pe_callF C_parted q hr (pa_cons (pv 0) pa_nil) (hj := by first | decide | omega | (simp only [Nat.add_eq]; omega))) pa_nil))) (pss_cons (ps_set (i := 4) sc_planted.nd rfl (Or.inl rfl) (pe_callTy call_int_str rfl T.b_int bt_int (pa_cons (pe_ix ix_str (pv 1) pe_int (fun _ _ => rfl)) pa_nil))) (pss_cons (ps_asg (pe_callF C_planted q hr (pa_cons (pe_ix ix_list (pv 3) (pv 4) (fun _ _ => rfl)) (pa_cons (pe_slice sl_str (pv 1) (po_some pe_int) po_none) (pa_cons (pv 2) pa_nil))) (hj := by first | decide | omega | (simp only [Nat.add_eq]; omega))) (pg_sub (pv 3) (pv 4) set_list)) (pss_one (ps_ret (pe_callF C_gathered q hr (pa_cons (pv 3) pa_nil) (hj := by first | decide | omega | (simp only [Nat.add_eq]; omega))))))))), ?_⟩
    refine ⟨_, rfl, rfl, _, rfl, ite2 (fun c => ?_) (fun c => ?_)⟩
    · have e : z = ("" : Str) := by simpa using c
      subst e
      rw [dig_empty] at q'
      exact ⟨_, rfl, q' o H (Same.refl H) hu⟩
    have pz : 0 < z.length := by
      rcases Nat.eq_zero_or_pos z.length with h0 | h0
      · exact absurd (by simp [str_eq_nil.mpr h0]) c
      · exact h0
    have hs : z.length ≤ sizeLine := small (by omega)
    refine ⟨_, rfl, v, t, rfl, ht, fun p a b c d H1 s1 hp ka kb kc kd => ⟨p, _, rfl, .inr (SqT.of hp), fun l hl1 => ?_⟩⟩
    have hl0 := Same.none s1 hl1
    have s2 := s1.trans (Same.new hl1 (.lst [a, b, c, d]))
    have u2 : upd H1 l (.lst [a, b, c, d]) l = some (.lst [a, b, c, d]) := upd_same
    have t2 := (Same.new hl1 (.lst [a, b, c, d])).tups
    generalize upd H1 l (.lst [a, b, c, d]) = H2 at *
    obtain ⟨e, he, e1, e2⟩ := sgn_one hz pz
    refine ⟨_, rfl, z, 0, z.cps.getD 0 0, rfl, rfl, hs, at_zero pz, _, (e : Int), rfl, ?_, ?_, ?_⟩
    · show intText? (sgn z 0) = _
      rw [e1]; exact int_one he
    · show (1 : Nat) ≤ 640; decide
    have key : ∃ x, atI [a, b, c, d] (e : Int) = some x ∧ TrAt H2 x (qk t e) := by
      rcases e with _ | _ | _ | _ | e
      · exact ⟨a, rfl, ka.up t2⟩
      · exact ⟨b, rfl, kb.up t2⟩
      · exact ⟨c, rfl, kc.up t2⟩
      · exact ⟨d, rfl, kd.up t2⟩
      · omega
    obtain ⟨x, ex, kx⟩ := key
    refine ⟨_, rfl, _, rfl, l, _, _, x, rfl, rfl, SqL.of u2, ex, _, rfl, _, rfl, z, rfl, hs, _, rfl, ?_⟩
    have rl := rst_len z
    refine ⟨x, o, qk t e, u, rst z, (by show [x, V.str _, o] = [x, V.str _, o]; rw [slice_rst pz]), kx, hu.up s2.tups, rst_isC hz, by omega, by omega, qk_deep' dt, by omega, fun v' H3 s3 hv' => ?_⟩
    have u3 := s3 _ _ u2
    have hix : ixN [a, b, c, d].length (e : Int) = some e := by
      unfold ixN
      rw [if_pos (by omega), if_pos (by simp; omega), Int.toNat_natCast]
    refine ⟨_, rfl, _, rfl, l, [a, b, c, d], (e : Int), e, rfl, rfl, u3, hix, ?_⟩
    have t3 := Tups.lst (ys := [a, b, c, d].set e v') u3
    have sf : Same H (upd H3 l (.lst ([a, b, c, d].set e v'))) := Same.set (s2.trans s3) hl0 _
    have t23 := t2.trans (s3.tups.trans t3)
    have dq := plant_deep (dig (rst z)) 60 (qk t e) u (qk_deep' dt) (by rw [dig_len]; omega)
    have ep : plant t (dig z) u = put4 t e (plant (qk t e) (dig (rst z)) u) := by rw [dig_rst pz, e2]; rfl
    rw [ep] at q'
    have d0 := qk_deep' (d := 0) dt
    have d1 := qk_deep' (d := 1) dt
    have d2 := qk_deep' (d := 2) dt
    have d3 := qk_deep' (d := 3) dt
    have kv := hv'.up t3
    rcases e with _ | _ | _ | _ | e
    · exact ⟨_, rfl, l, _, _, _, _, _, _, _, _, rfl, upd_same, kv, kb.up t23, kc.up t23, kd.up t23, ⟨dq, d1, d2, d3⟩, fun v2 H4 s4 h4 => q' v2 H4 (sf.trans s4) h4⟩
    · exact ⟨_, rfl, l, _, _, _, _, _, _, _, _, rfl, upd_same, ka.up t23, kv, kc.up t23, kd.up t23, ⟨d0, dq, d2, d3⟩, fun v2 H4 s4 h4 => q' v2 H4 (sf.trans s4) h4⟩
    · exact ⟨_, rfl, l, _, _, _, _, _, _, _, _, rfl, upd_same, ka.up t23, kb.up t23, kv, kd.up t23, ⟨d0, d1, dq, d3⟩, fun v2 H4 s4 h4 => q' v2 H4 (sf.trans s4) h4⟩
    · exact ⟨_, rfl, l, _, _, _, _, _, _, _, _, rfl, upd_same, ka.up t23, kb.up t23, kc.up t23, kv, ⟨d0, d1, d2, dq⟩, fun v2 H4 s4 h4 => q' v2 H4 (sf.trans s4) h4⟩
    · omega
abbrev s_need_one_level : Stmt := top 26
theorem sc_need_one_level : FnScope ["sheets", "level"] ["sheets"] (defScope s_need_one_level) := ⟨rfl, rfl, rfl, by decide +kernel, rfl, by decide +kernel, by decide +kernel⟩
def sp_one_level : Sp := fun vs H Q _ => ∃ (l : Addr) (ss : List V) (n : Int) (s0 : V), vs = [.ref l] ∧ H l = some (.lst ss) ∧ ss[0]? = some s0 ∧ ss.length ≤ 10 ∧ (∀ v ∈ ss, ∃ p x, v = .ref p ∧ H p = some (.tup [.int n, x])) ∧ ∀ H', Same H H' → Q .non H'
theorem ok_need_one_level (T : Tx K mg) (F : FunD K "need_one_level" "need_one_level" s_need_one_level f fd .none) : FnOk P w K mg base CX 1 f fd ["sheets"] sp_one_level := by
  refine F.ok sc_need_one_level (fun vs H Q E h => ?_) (fun cdv A outer s H vs Q E hr h => ?_)
  · obtain ⟨_, _, _, _, rfl, _⟩ := h
    rfl
  obtain ⟨l, ss, n, s0, rfl, hl, h0, hlen, hall, q'⟩ := h
  refine ⟨_, (pss_cons (ps_set (i := 1) sc_need_one_level.nd rfl (Or.inr rfl) (pe_ix ix_tup (pe_ix ix_list (pv 0) pe_int (fun _ _ => rfl)) pe_int (fun _ _ => rfl))) (pss_one (ps_if (pt_val (pe_callB (call_any rfl) rfl T.b_any bb_any (pa_cons (pe_compC (N' := ["sheet", "level"]) ["level"] ["level"] [1] 1 (by with_unfolding_all rfl) rfl (capsOk_cons rfl rfl (by decide) capsOk_nil) rfl rfl (by decide) rfl (by decide +kernel) rfl (by decide +kernel) rfl (pi_list (pv 0)) (fun C s0 H0 fp pins => (pg_name (i := 0) (show (["sheet", "level"] : List Str).Nodup by decide +kernel) rfl (Or.inl rfl) (Or.inr rfl))) (fun C s0 H0 fp pins => (pe_cmpR op_ne (pe_ix (ix_tupK (K := K)) (pv 0) pe_int (fun _ _ => rfl)) (pv 1) (nomark _)))) pa_nil))) (pss_one ps_never) pss_nil))), ?_⟩
  obtain ⟨p0, x0, rfl, hp0⟩ := hall s0 (List.mem_of_getElem? h0)
  refine ⟨_, rfl, l, _, _, _, rfl, rfl, SqL.of hl, atI_nat h0, p0, _, _, _, rfl, rfl, SqT.of hp0, rfl, ?_⟩
  refine ⟨[.int n], rfl, _, rfl, l, rfl, ⟨_, SqL.of hl⟩, compC_list ss (fun D j ys H' => Same H H' ∧ H' D = some (.lst ys) ∧ j ≤ ss.length ∧ ys = (List.replicate j false).map V.bl) (small (by omega)) (fun D j ys H' h => SqL.of (h.1 _ _ hl))
      (fun D j ys H' h => ⟨h.2.1, by rw [h.2.2.2]; simp⟩) (fun D hD => ⟨Same.new hD _, upd_same, Nat.zero_le _, rfl⟩) ?_ ?_ (fun _ _ _ _ _ k h => k _ _ h) ?_⟩
  · rintro D j x ys H' hx hD ⟨s1, s2, s3, s4⟩
    obtain ⟨p, y, rfl, hp⟩ := hall x (List.mem_of_getElem? hx)
    refine ⟨rfl, _, rfl, p, _, _, _, rfl, rfl, SqT.of (s1 _ _ hp), rfl, _, rfl, rfl, s2, Same.set s1 hD _, upd_same, (List.getElem?_eq_some_iff.mp hx).1, ?_⟩
    rw [s4, List.replicate_succ', List.map_append]
    simp
  · rintro D ys H' hD ⟨s1, s2, s3, s4⟩
    refine ⟨D, List.replicate ss.length false, rfl, SqL.of (by rw [s2, s4]), ?_⟩
    have e : (List.replicate ss.length false).any id = false := by simp
    rw [e]
    exact ⟨_, rfl, iteF (q' H' s1)⟩
  · intro σ H' R R' k h
    obtain ⟨x1, e1, p, xs, i, v, e2, e3, e4, e5, x2, e6, e7, h⟩ := h
    exact ⟨x1, e1, p, xs, i, v, e2, e3, e4, e5, x2, e6, e7, k _ _ h⟩
abbrev s_plain : Stmt := top 27
theorem sc_plain : FnScope ["level", "colour"] ["level", "colour"] (defScope s_plain) := ⟨rfl, rfl, rfl, by decide +kernel, rfl, by decide +kernel, by decide +kernel⟩
def sp_plain : Sp := fun vs H Q _ => ∃ n c : Int, vs = [.int n, .int c] ∧ (0 ≤ n ∧ n ≤ 40) ∧ (0 ≤ c ∧ c ≤ 35) ∧ ∀ p H', Same H H' → H' p = some (.tup [.int n, .int c]) → Q (.ref p) H'
theorem ok_plain (T : Tx K mg) (q : Quiet CX) (F : FunD K "plain" "plain" s_plain f fd .none) (C_need_level_1 : Fok P w K mg base CX 3 "need_level" ["level", "least"] [.int 0] sp_need_level) (C_need_colour : Fok P w K mg base CX 3 "need_colour" ["colour"] [] sp_need_colour) : FnOk P w K mg base CX 4 f fd ["level", "colour"] sp_plain := by
  refine F.ok sc_plain (fun vs H Q E h => ?_) (fun cdv A outer s H vs Q E hr h => ?_)
  · obtain ⟨_, _, rfl, _⟩ := h
    rfl
  obtain ⟨n, c, rfl, hn, hc, q'⟩ := h
  refine ⟨_, (pss_cons (ps_expr (pe_callF C_need_level_1 q hr (pa_cons (pv 0) pa_nil))) (pss_cons (ps_expr (pe_callF C_need_colour q hr (pa_cons (pv 1) pa_nil))) (pss_one (ps_ret (pe_tupx (pax_c (pv 0) (pax_c (pv 1) pax_nil))))))), ?_⟩
  refine ⟨_, rfl, n, 0, rfl, hn.1, hn.2, hn.1, ?_⟩
  refine ⟨_, rfl, c, rfl, hc.1, hc.2, ?_⟩
  exact ⟨_, rfl, _, rfl, (by show 2 ≤ sizeLine; decide), fun p hp => q' p _ (Same.new hp _) upd_same⟩
abbrev s_painted : Stmt := top 29
theorem sc_painted : FnScope ["sheet", "code", "colour"] ["sheet", "code", "colour"] (defScope s_painted) := ⟨rfl, rfl, rfl, by decide +kernel, rfl, by decide +kernel, by decide +kernel⟩
def sp_painted : Sp := fun vs H Q _ => ∃ (v : V) (n : Nat) (t : Tr) (z : Str) (c : Int), vs = [v, .str z, .int c] ∧ ShAt H v n t ∧ t.deep ≤ n ∧ n ≤ 40 ∧ IsC z ∧ z.length ≤ n ∧ 0 ≤ c ∧ c ≤ 35 ∧ ∀ v' H', Same H H' → ShAt H' v' n (plant t (dig z) (.col c)) → Q v' H'
theorem ok_painted (T : Tx K mg) (q : Quiet CX) (F : FunD K "painted" "painted" s_painted f fd .none) (C_need_code_within : Fok P w K mg base CX 2 "need_code_within" ["code", "level"] [] sp_code_within) (C_need_colour : Fok P w K mg base CX 3 "need_colour" ["colour"] [] sp_need_colour) (C_planted : Fok P w K mg base CX 43 "planted" ["tree", "code", "other"] [] (sp_planted 40)) : FnOk P w K mg base CX 44 f fd ["sheet", "code", "colour"] sp_painted := by
  refine F.ok sc_painted (fun vs H Q E h => ?_) (fun cdv A outer s H vs Q E hr h => ?_)
  · obtain ⟨_, _, _, _, _, rfl, _⟩ := h
    rfl
  obtain ⟨v, n, t, z, c, rfl, ⟨p, vt, rfl, hp, ht⟩, hd, hn, hz, hl, h0, h1, q'⟩ := h
  refine ⟨_, (pss_cons (ps_expr (pe_callF C_need_code_within q hr (pa_cons (pv 1) (pa_cons (pe_ix ix_tup (pv 0) pe_int (fun _ _ => rfl)) pa_nil)))) (pss_cons (ps_expr (pe_callF C_need_colour q hr (pa_cons (pv 2) pa_nil))) (pss_one (ps_ret (pe_tupx (pax_c (pe_ix ix_tup (pv 0) pe_int (fun _ _ => rfl)) (pax_c (pe_callF C_planted q hr (pa_cons (pe_ix ix_tup (pv 0) pe_int (fun _ _ => rfl)) (pa_cons (pv 1) (pa_cons (pv 2) pa_nil)))) pax_nil))))))), ?_⟩
  refine ⟨_, rfl, _, rfl, p, _, _, _, rfl, rfl, SqT.of hp, rfl, z, n, rfl, hz, hl, hn, fun H1 s1 => ?_⟩
  have hp1 := s1 _ _ hp
  refine ⟨_, rfl, c, rfl, h0, h1, ?_⟩
  refine ⟨_, rfl, p, _, _, _, rfl, rfl, SqT.of hp1, rfl, _, rfl, p, _, _, _, rfl, rfl, SqT.of hp1, rfl, _, rfl, _, rfl, vt, .int c, t, .col c, z, rfl, ht.up s1.tups, .col c, hz, by omega, by decide, by omega, (by show 0 + z.length ≤ 60; omega), fun v' H2 s2 hv => ⟨(by show 2 ≤ sizeLine; decide), fun pp hpp => ?_⟩⟩
  exact q' _ _ (s1.trans (s2.trans (Same.new hpp _))) ⟨pp, v', rfl, upd_same, hv.up (Same.new hpp _).tups⟩
end
end Qs


namespace Qs
open PySem L2
theorem str_one {d : Nat} (h : d < 4) : Str.ofString (toString ((d : Nat) : Int)) = one d :=
  four (P := fun d => Str.ofString (toString ((d : Nat) : Int)) = one d) (by decide +kernel) (by decide +kernel) (by decide +kernel) (by decide +kernel) h
section
variable {P : Program} {w : World} {K : PySem.W.Frag} {mg : Str → Option Value} {base : Heap} {CX : CXT} {f : Addr} {fd : FuncData}
theorem dig_app (a b : Str) : dig (a ++ b) = dig a ++ dig b := by
  show List.map _ (a.cps ++ b.cps).toList = _
  rw [Array.toList_append, List.map_append]
  rfl
theorem iteNT {A B : Prop} : B → if (!decide (V.non = V.non)) = true then A else B := fun h => by
  rw [if_neg (by simp)]; exact h
theorem iteNF {z : Str} {A B : Prop} (h : A) : if (!decide (V.str z = V.non)) = true then A else B := by
  rw [if_pos (by rw [decide_eq_false (fun e => by cases e)]; rfl)]; exact h
theorem log_small4 : ∀ n : Nat, n < 4 → ((n : Int)).natAbs.log2 < 1920 := by decide +kernel
theorem fk_eq {n : Nat} {t u : Tr} (gt : Good n t) (gu : Good n u) {j : Nat} (be : ∀ i, i < j → qk t i = qk u i) (h : qk t j ≠ qk u j) : fk t u = j := by
  have ne : t ≠ u := fun e => h (by rw [e])
  have h1 : ¬ j < fk t u := fun hj => h (fk_before hj)
  have h2 : ¬ fk t u < j := fun hj => fk_here gt gu ne (be _ hj)
  omega
theorem both_col {H : Hp} {va vb : V} {t u : Tr} {tb : TS} {D : Ends} {σ : St} (h0 : σ[0]? = some (some va)) (h1 : σ[1]? = some (some vb)) (ht : TrAt H va t) (hu : TrAt H vb u) (hc : ¬ (t.isCol = true ∧ u.isCol = true)) (h : D.nx σ H) :
    tIfS (tAnd (tNot (tB (tCB (rIsiT K "tuple") (tCons (tVar 0) (tCons (tC (V.ty "tuple")) tNil))))) (tNot (tB (tCB (rIsiT K "tuple") (tCons (tVar 1) (tCons (tC (V.ty "tuple")) tNil)))))) tb tNext D σ H := by
  cases ht with
  | four e _ _ _ _ => exact ⟨_, h0, _, _, _, rfl, .tup e, kit_tt, _, rfl, iteF (iteF h)⟩
  | col i =>
    cases hu with
    | four e _ _ _ _ => exact ⟨_, h0, _, _, _, rfl, .int i, kit_it, _, rfl, iteT ⟨_, h1, _, _, _, rfl, .tup e, kit_tt, _, rfl, iteF h⟩⟩
    | col j => exact absurd ⟨rfl, rfl⟩ hc
abbrev s_first_unlike : Stmt := top 30
theorem sc_first_unlike : FnScope ["one", "other", "ones", "others", "quarter", "code"] ["one", "other"] (defScope s_first_unlike) := ⟨rfl, rfl, rfl, by decide +kernel, rfl, by decide +kernel, by decide +kernel⟩
def sp_first_unlike (m : Nat) : Sp := fun vs H Q _ => ∃ (a b : V) (t u : Tr) (n : Nat), vs = [a, b] ∧ TrAt H a t ∧ TrAt H b u ∧ Good n t ∧ Good n u ∧ n < m ∧ m ≤ 41 ∧
  ∀ H', Same H H' → (t = u → Q .non H') ∧ (t ≠ u → ∀ z : Str, IsC z → dig z = fu n t u → Q (.str z) H')
theorem ok_first_unlike (T : Tx K mg) (q : Quiet CX) (F : FunD K "first_unlike" "first_unlike" s_first_unlike f fd .none) (C_parted : Fok P w K mg base CX 1 "parted" ["tree"] [] sp_parted) (b : Binds K fd ["one", "other"] []) (m : mg "first_unlike" = some (.ref f)) :
    ∀ n, FnOk P w K mg base CX (2 + n) f fd ["one", "other"] (sp_first_unlike n)
  | 0 => by
    refine F.ok sc_first_unlike (fun vs H Q E h => ?_) (fun cdv A outer s H vs Q E hr h => ?_)
    · obtain ⟨_, _, _, _, _, rfl, _⟩ := h
      rfl
    obtain ⟨_, _, _, _, _, _, _, _, _, _, h, _⟩ := h
    exact absurd h (Nat.not_lt_zero _)
  | m' + 1 => by
    have C_first_unlike : Fok P w K mg base CX (2 + m') "first_unlike" ["one", "other"] [] (sp_first_unlike m') := fok F (ok_first_unlike T q F C_parted b m m') b m
    refine F.ok sc_first_unlike (fun vs H Q E h => ?_) (fun cdv A outer s H vs Q E hr h => ?_)
    · obtain ⟨_, _, _, _, _, rfl, _⟩ := h
      rfl
    obtain ⟨va, vb, t, u, n, rfl, ht, hu, gt, gu, hn, hm, q'⟩ := h
    refine ⟨_, (pss_cons (ps_if (PW.pt (pw_and (pt_not (pt_val (pe_callB (call_isiT "tuple") rfl T.b_isinstance bb_isinstance (pa_cons (pv 0) (pa_cons (pe_bty T.b_tuple bt_tuple) pa_nil))))) (pw_and1 (pt_not (pt_val (pe_callB (call_isiT "tuple") rfl T.b_isinstance bb_isinstance (pa_cons (pv 1) (pa_cons (pe_bty T.b_tuple bt_tuple) pa_nil)))))))) (pss_one (ps_ret (pe_ifExp (pt_cmpR op_eq (pv 0) (pv 1) (nomark _)) pe_non pe_str))) pss_nil) (pss_cons (ps_set (i := 2) sc_first_unlike.nd rfl (Or.inl rfl) (pe_callF C_parted q hr (pa_cons (pv 0) pa_nil) (hj := by first | decide | omega | (simp only [Nat.add_eq]; omega)))) (pss_cons (ps_set (i := 3) sc_first_unlike.nd rfl (Or.inl rfl) (pe_callF C_parted q hr (pa_cons (pv 1) pa_nil) (hj := by first | decide | omega | (simp only [Nat.add_eq]; omega)))) (pss_cons (ps_for PassesOwn.never rfl (pi_range1 rfl T.b_range (pa_cons pe_int pa_nil)) (pg_name (i := 4) sc_first_unlike.nd rfl (Or.inl rfl)) (pss_cons (ps_set (i := 5) sc_first_unlike.nd rfl (Or.inl rfl) (pe_callF C_first_unlike q hr (pa_cons (pe_ix ix_tup (pv 2) (pv 4) (fun _ _ => rfl)) (pa_cons (pe_ix ix_tup (pv 3) (pv 4) (fun _ _ => rfl)) pa_nil)) (hj := by first | decide | omega | (simp only [Nat.add_eq]; omega)))) (pss_one (ps_if (pt_cmpR op_notN (pv 5) pe_non (nomark _)) (pss_one (ps_ret (pe_op op_add_str (pe_callTy call_str_int rfl T.b_str bt_str (pa_cons (pv 4) pa_nil)) (pv 5)))) pss_nil)))) (pss_one (ps_ret pe_non)))))), ?_⟩
    have tyt := ht.ty (K := K)
    have tyu := hu.ty (K := K)
    by_cases hc : t.isCol = true ∧ u.isCol = true
    · obtain ⟨c1, c2⟩ := hc
      cases ht with
      | four => cases c1
      | col i =>
        cases hu with
        | four => cases c2
        | col j =>
          refine ⟨_, rfl, _, _, _, rfl, .int i, kit_it, _, rfl, iteT ?_⟩
          refine ⟨_, rfl, _, _, _, rfl, .int j, kit_it, _, rfl, iteT ?_⟩
          refine ⟨_, rfl, _, rfl, rfl, _, rfl, ite2 (fun d => ?_) (fun d => ?_)⟩
          · have e : V.int i = V.int j := of_decide_eq_true d
            injection e with e
            exact (q' H (Same.refl H)).1 (by rw [e])
          · refine (q' H (Same.refl H)).2 (fun e => ?_) "" (empty_eq ▸ IsC.nil) (by rw [fu_col _ rfl rfl]; exact dig_empty)
            injection e with e
            exact d (decide_eq_true (by rw [e]))
    obtain ⟨n, rfl⟩ : ∃ k, n = k + 1 := by
      rcases n with _ | n
      · refine absurd ⟨?_, ?_⟩ hc
        · cases t with
          | col i => rfl
          | four => exact gt.elim
        · cases u with
          | col i => rfl
          | four => exact gu.elim
      · exact ⟨n, rfl⟩
    refine both_col (K := K) (va := va) (vb := vb) rfl rfl ht hu hc ?_
    refine ⟨_, rfl, va, t, rfl, ht, fun p1 a1 b1 c1 d1 H1 s1 hp1 ja1 jb1 jc1 jd1 => ?_⟩
    refine ⟨_, rfl, vb, u, rfl, hu.up s1.tups, fun p2 a2 b2 c2 d2 H2 s2 hp2 ja2 jb2 jc2 jd2 => ?_⟩
    refine ⟨_, rfl, by decide, by decide, for_range (fun (j : Nat) σ H3 => Same H2 H3 ∧ (∀ i, i < j → qk t i = qk u i) ∧ ∃ (o4 o5 : Option V), σ = [some va, some vb, some (.ref p1), some (.ref p2), o4, o5]) ⟨Same.refl _, (fun i hi => absurd hi (Nat.not_lt_zero _)), none, none, rfl⟩ ?_ ?_⟩
    · rintro j σ H3 hj ⟨s3, be, o4, o5, rfl⟩
      have hj4 : j < 4 := hj
      rw [show (0 : Int) + (j : Int) = (j : Int) by omega]
      have k1 : ∃ x, atI [a1, b1, c1, d1] (j : Int) = some x ∧ TrAt H3 x (qk t j) := by
        have up := (s2.trans s3).tups
        rcases j with _ | _ | _ | _ | j
        · exact ⟨a1, rfl, ja1.up up⟩
        · exact ⟨b1, rfl, jb1.up up⟩
        · exact ⟨c1, rfl, jc1.up up⟩
        · exact ⟨d1, rfl, jd1.up up⟩
        · omega
      have k2 : ∃ x, atI [a2, b2, c2, d2] (j : Int) = some x ∧ TrAt H3 x (qk u j) := by
        rcases j with _ | _ | _ | _ | j
        · exact ⟨a2, rfl, ja2.up s3.tups⟩
        · exact ⟨b2, rfl, jb2.up s3.tups⟩
        · exact ⟨c2, rfl, jc2.up s3.tups⟩
        · exact ⟨d2, rfl, jd2.up s3.tups⟩
        · omega
      obtain ⟨x1, e1, h1⟩ := k1
      obtain ⟨x2, e2, h2⟩ := k2
      refine ⟨_, rfl, _, rfl, p1, _, _, x1, rfl, rfl, SqT.of ((s2.trans s3) _ _ hp1), e1, _, rfl, _, rfl, p2, _, _, x2, rfl, rfl, SqT.of (s3 _ _ hp2), e2, x1, x2, qk t j, qk u j, n, rfl, h1, h2, gt.q j, gu.q j, by omega, by omega, fun H4 s4 => ⟨fun e => ?_, fun ne z hz ez => ?_⟩⟩
      · refine ⟨_, rfl, rfl, _, rfl, iteNT ?_⟩
        refine ⟨s3.trans s4, fun i hi => ?_, _, _, rfl⟩
        rcases Nat.lt_or_ge i j with h | h
        · exact be i h
        · rw [show i = j by omega]; exact e
      · have ek := fk_eq gt gu be ne
        have lz : z.length ≤ n := by rw [← dig_len, ez]; exact fu_len n _ _
        refine ⟨_, rfl, rfl, _, rfl, iteNF ?_⟩
        refine ⟨_, rfl, (j : Int), rfl, log_small4 j hj4, ?_⟩
        rw [str_one hj4]
        refine ⟨_, rfl, _, _, rfl, rfl, (by show 1 + z.length ≤ sizeLine; exact small (by omega)), ?_⟩
        refine (q' H4 (s1.trans (s2.trans (s3.trans s4)))).2 (fun e => ne (by rw [e])) _ (IsC.app (IsC.one hj4) hz) ?_
        have d1 : dig (one j) = [j] := four (P := fun j => dig (one j) = [j]) (by decide +kernel) (by decide +kernel) (by decide +kernel) (by decide +kernel) hj4
        rw [fu_step n hc, ek, dig_app, ez, d1]
        rfl
    · rintro σ H3 ⟨s3, be, o4, o5, rfl⟩
      refine ((q' H3 (s1.trans (s2.trans s3))).1 ?_)
      rw [← gath_self gt, ← gath_self gu, be 0 (by decide), be 1 (by decide), be 2 (by decide), be 3 (by decide)]
abbrev s_unlike : Stmt := top 31
theorem sc_unlike : FnScope ["one", "other", "code"] ["one", "other"] (defScope s_unlike) := ⟨rfl, rfl, rfl, by decide +kernel, rfl, by decide +kernel, by decide +kernel⟩

def UnAt (H : Hp) (x : V) (n : Nat) (t u : Tr) : Prop := (t = u ∧ x = .non) ∨ (t ≠ u ∧ ∃ p, x = .ref p ∧ H p = some (.tup [.int ((sqX n (fu n t u) : Nat) : Int), .int ((sqY n (fu n t u) : Nat) : Int)]))
def sp_unlike : Sp := fun vs H Q _ => ∃ (a b : V) (t u : Tr) (n : Nat), vs = [a, b] ∧ ShAt H a n t ∧ ShAt H b n u ∧ Good n t ∧ Good n u ∧ n ≤ 40 ∧
  ∀ x H', Same H H' → UnAt H' x n t u → Q x H'
theorem ok_unlike (T : Tx K mg) (q : Quiet CX) (F : FunD K "unlike" "unlike" s_unlike f fd .none) (C_need_one_level : Fok P w K mg base CX 1 "need_one_level" ["sheets"] [] sp_one_level) (C_first_unlike : Fok P w K mg base CX 43 "first_unlike" ["one", "other"] [] (sp_first_unlike 41)) (C_corner : Fok P w K mg base CX 4 "corner" ["code", "level"] [] sp_corner) :
    FnOk P w K mg base CX 44 f fd ["one", "other"] sp_unlike := by
  refine F.ok sc_unlike (fun vs H Q E h => ?_) (fun cdv A outer s H vs Q E hr h => ?_)
  · obtain ⟨_, _, _, _, _, rfl, _⟩ := h
    rfl
  obtain ⟨va, vb, t, u, n, rfl, ⟨pa, xa, rfl, hpa, ht⟩, ⟨pb, xb, rfl, hpb, hu⟩, gt, gu, hn, q'⟩ := h
  refine ⟨_, (pss_cons (ps_expr (pe_callF C_need_one_level q hr (pa_cons (pe_lstx (pax_c (pv 0) (pax_c (pv 1) pax_nil))) pa_nil))) (pss_cons (ps_set (i := 2) sc_unlike.nd rfl (Or.inl rfl) (pe_callF C_first_unlike q hr (pa_cons (pe_ix ix_tup (pv 0) pe_int (fun _ _ => rfl)) (pa_cons (pe_ix ix_tup (pv 1) pe_int (fun _ _ => rfl)) pa_nil)))) (pss_cons (ps_if (pt_cmpR op_isN (pv 2) pe_non (nomark _)) (pss_one (ps_ret pe_non)) pss_nil) (pss_one (ps_ret (pe_slice sl_tup (pe_callF C_corner q hr (pa_cons (pv 2) (pa_cons (pe_ix ix_tup (pv 0) pe_int (fun _ _ => rfl)) pa_nil))) po_none (po_some pe_int))))))), ?_⟩
  refine ⟨_, rfl, _, rfl, (by show 2 ≤ sizeLine; decide), fun l hl => ?_⟩
  have s1 := Same.new hl (.lst [.ref pa, .ref pb])
  have u1 : upd H l (.lst [.ref pa, .ref pb]) l = some (.lst [.ref pa, .ref pb]) := upd_same
  generalize upd H l (.lst [.ref pa, .ref pb]) = H1 at *
  have hpa1 := s1 _ _ hpa
  have hpb1 := s1 _ _ hpb
  refine ⟨l, _, (n : Int), _, rfl, u1, rfl, (by show 2 ≤ 10; decide), (fun v hv => ?_), fun H2 s2 => ?_⟩
  · rcases List.mem_cons.mp hv with rfl | hv
    · exact ⟨pa, xa, rfl, hpa1⟩
    · rw [List.mem_singleton.mp hv]; exact ⟨pb, xb, rfl, hpb1⟩
  have s12 := s1.trans s2
  refine ⟨_, rfl, pa, _, _, _, rfl, rfl, SqT.of (s12 _ _ hpa), rfl, _, rfl, pb, _, _, _, rfl, rfl, SqT.of (s12 _ _ hpb), rfl, xa, xb, t, u, n, rfl, ht.up s12.tups, hu.up s12.tups, gt, gu, by omega, by decide, fun H3 s3 => ⟨fun e => ?_, fun ne z hz ez => ?_⟩⟩
  · exact ⟨_, rfl, rfl, _, rfl, ite2 (fun _ => q' .non H3 (s12.trans s3) (.inl ⟨e, rfl⟩)) (fun d => absurd (decide_eq_true rfl) d)⟩
  · have lz : z.length ≤ n := by rw [← dig_len, ez]; exact fu_len n _ _
    refine ⟨_, rfl, rfl, _, rfl, ite2 (fun d => by cases of_decide_eq_true d) (fun _ => ?_)⟩
    refine ⟨_, rfl, _, rfl, pa, _, _, _, rfl, rfl, SqT.of ((s12.trans s3) _ _ hpa), rfl, z, n, rfl, hz, lz, hn, fun pc H4 s4 hpc => ?_⟩
    refine ⟨_, rfl, pc, _, rfl, SqT.of hpc, (by show ¬ (HT.sIx 3 0 none = 0 ∧ HT.sIx 3 3 (some 2) = 3); decide +kernel), fun p hp => ?_⟩
    refine q' (.ref p) _ ((s12.trans (s3.trans s4)).trans (Same.new hp _)) (.inr ⟨ne, p, rfl, ?_⟩)
    rw [upd_same, ez, sqX_cxs _ _ (fu_len n t u), sqY_cys _ _ (fu_len n t u), ← ez, dig_len]
    rfl
end
end Qs


namespace Qs
open PySem L2

def suf (z : Str) (k : Nat) : Str := ⟨(z.cps.toList.drop k).toArray⟩
theorem slice_suf {z : Str} {k : Nat} (h : k ≤ z.length) : Txt.slice z (some (k : Int)) none = suf z k := by
  have e := PyProof.Rows.slice_closes_from (x := z) (i := (k : Int)) ⟨by omega, by rw [← len_eq]; omega⟩
  rw [beq_iff_eq] at e
  rw [e]
  unfold suf
  congr 2
  rw [Int.toNat_natCast, List.take_of_length_le]
  rw [List.length_drop, ← len_eq]; omega
theorem suf_len (z : Str) (k : Nat) : (suf z k).length = z.length - k := by rw [len_eq, len_eq]; simp [suf]
theorem suf_isC {z : Str} (h : IsC z) (k : Nat) : IsC (suf z k) := fun c hc => h c (by
  have hc' : c ∈ z.cps.toList.drop k := by simpa [suf] using hc
  exact List.mem_of_mem_drop hc')
end Qs
namespace Qs
open PySem L2
theorem slice_suf' (z : Str) (k : Nat) : Txt.slice z (some (k : Int)) none = suf z k := by
  by_cases h : k ≤ z.length
  · exact slice_suf h
  · have e : Builtin.Str.strSliceIndices (some (k : Int)) none 1 z.length = [] := by
      unfold Builtin.Str.strSliceIndices
      dsimp only
      unfold sliceRange
      have h1 : ¬ (k : Int) < 0 := by omega
      have h2 : max (0 : Int) (min (k : Int) (z.length : Int)) = (z.length : Int) := by omega
      simp only [show (1 : Int) > 0 by decide, if_true, h1, if_false, h2]
      rw [if_neg (by omega)]
      first | rfl | simp
    unfold Txt.slice
    rw [e]
    refine str_ext ?_
    unfold suf
    rw [List.drop_of_length_le (by rw [← len_eq]; omega)]
    by_cases h0 : z.length = 0
    · rw [str_eq_nil.mpr h0]; decide +kernel
    · first | rw [if_neg (by simp; omega)] | skip
      first | rfl | simp
end Qs
namespace Qs
open PySem L2
def cell (ns : List Int) (k : Nat) : Int := (ns[k]?).getD 0
theorem ones (ds : List Nat) : ((ds.map one).map (·.length)).sum = ds.length := by
  induction ds with
  | nil => rfl
  | cons d r ih =>
    rw [List.map_cons, List.map_cons, List.sum_cons, ih, List.length_cons]
    show 1 + _ = _
    omega

def signsOf (ds : List Nat) : List V := ds.map fun d => V.str (one d)
section
variable {P : Program} {w : World} {K : PySem.W.Frag} {mg : Str → Option Value} {base : Heap} {CX : CXT} {f : Addr} {fd : FuncData}
abbrev s_law_at : Stmt := top 33
theorem sc_law_at : FnScope ["_law_script", "_law_k"] ["_law_script", "_law_k"] (defScope s_law_at) := ⟨rfl, rfl, rfl, by decide +kernel, rfl, by decide +kernel, by decide +kernel⟩
def sp_law_at (K : PySem.W.Frag) : Sp := fun vs H Q _ => ∃ (a : Addr) (ns : List Int) (k : Nat), vs = [.ref a, .int k] ∧ SqL K H a (ns.map V.int) ∧ ns.length ≤ 63 ∧ Q (.int (cell ns k)) H
theorem ok_law_at (T : Tx K mg) (F : FunD K "_law_at" "_law_at" s_law_at f fd .none) : FnOk P w K mg base CX 1 f fd ["_law_script", "_law_k"] (sp_law_at K) := by
  refine F.ok sc_law_at (fun vs H Q E h => ?_) (fun cdv A outer s H vs Q E hr h => ?_)
  · obtain ⟨_, _, _, rfl, _⟩ := h
    rfl
  obtain ⟨a, ns, k, rfl, hS, hl, q'⟩ := h
  refine ⟨_, (pss_cons (ps_if (pt_cmpR op_lt (pv 1) (pe_callB call_len rfl T.b_len bb_len (pa_cons (pv 0) pa_nil)) (nomark _)) (pss_one (ps_ret (pe_ix ix_list (pv 0) (pv 1) (fun _ _ => rfl)))) pss_nil) (pss_one (ps_ret pe_int))), ?_⟩
  refine ⟨_, rfl, _, rfl, _, _, rfl, .inl ⟨_, hS, rfl⟩, _, _, rfl, rfl, _, rfl, ite2 (fun c => ?_) (fun c => ?_)⟩
  · have c' : (k : Int) < (((ns.map V.int).length : Nat) : Int) := of_decide_eq_true c
    rw [List.length_map] at c'
    have hk : k < ns.length := by omega
    have e : (ns.map V.int)[k]? = some (.int (cell ns k)) := by simp [cell, hk]
    exact ⟨_, rfl, _, rfl, a, _, _, _, rfl, rfl, hS, atI_nat e, q'⟩
  · have c' : ¬ (k : Int) < (((ns.map V.int).length : Nat) : Int) := fun z => c (decide_eq_true z)
    rw [List.length_map] at c'
    have e : cell ns k = 0 := by
      have : ns[k]? = none := List.getElem?_eq_none (by omega)
      simp [cell, this]
    rw [e] at q'
    exact q'
abbrev s_law_code : Stmt := top 34
theorem sc_law_code : FnScope ["_law_cell", "_law_size", "_law_signs", "_law_rest", "_law_k"] ["_law_cell", "_law_size"] (defScope s_law_code) := ⟨rfl, rfl, rfl, by decide +kernel, rfl, by decide +kernel, by decide +kernel⟩
def sp_law_code : Sp := fun vs H Q _ => ∃ (c : Int) (n : Nat), vs = [.int c, .int n] ∧ n ≤ 64 ∧ ∀ ds H', ds.length = n → (∀ d ∈ ds, d < 4) → Same H H' → Q (.str (txt ds)) H'
theorem four_of (m : Int) : ∃ d : Nat, d < 4 ∧ m % 4 = (d : Int) := ⟨(m % 4).toNat, by omega, by omega⟩
theorem signs_len (ds : List Nat) : (signsOf ds).length = ds.length := List.length_map _
theorem ok_law_code (T : Tx K mg) (F : FunD K "_law_code" "_law_code" s_law_code f fd .none) : FnOk P w K mg base CX 1 f fd ["_law_cell", "_law_size"] sp_law_code := by
  refine F.ok sc_law_code (fun vs H Q E h => ?_) (fun cdv A outer s H vs Q E hr h => ?_)
  · obtain ⟨_, _, rfl, _⟩ := h
    rfl
  obtain ⟨c, n, rfl, hn, q'⟩ := h
  refine ⟨_, (pss_cons (ps_set (i := 2) sc_law_code.nd rfl (Or.inl rfl) (pe_lstx pax_nil)) (pss_cons (ps_set (i := 3) sc_law_code.nd rfl (Or.inl rfl) (pv 0)) (pss_cons (ps_for PassesOwn.never rfl (pi_range1 rfl T.b_range (pa_cons (pv 1) pa_nil)) (pg_name (i := 4) sc_law_code.nd rfl (Or.inl rfl)) (pss_cons (ps_expr (pe_bm PySem.F.plainAttrs_list PySem.F.slot_list_append PySem.F.type_list_append mt_append (pv 2) (pa_cons (pe_ix ix_str pe_str (pe_op op_mod (pe_op op_add (pv 3) (pe_op op_mul (pv 4) (pe_op op_mod (pv 0) pe_int))) pe_int) (fun _ _ => rfl)) pa_nil))) (pss_one (ps_set (i := 3) sc_law_code.nd rfl (Or.inl rfl) (pe_op op_fdivW (pv 3) pe_int))))) (pss_one (ps_ret (pe_bm PySem.F.plainAttrs_str PySem.F.slot_str_join PySem.F.type_str_join mt_join pe_str (pa_cons (pv 2) pa_nil))))))), ?_⟩
  refine ⟨(by show 0 ≤ sizeLine; decide), fun l hl => ?_⟩
  refine ⟨_, rfl, ?_⟩
  refine ⟨_, rfl, _, rfl, by omega, by omega, for_range (fun i σ H2 => ∃ (ds : List Nat) (rest : Int) (v : Option V), ds.length = i ∧ (∀ d ∈ ds, d < 4) ∧ σ = [some (.int c), some (.int n), some (.ref l), some (.int rest), v] ∧ H2 = upd H l (.lst (signsOf ds)))
    ⟨[], c, none, rfl, (fun _ z => by cases z), rfl, rfl⟩ ?_ ?_⟩
  · rintro i σ H2 hi ⟨ds, rest, v, hds, h4, rfl, rfl⟩
    obtain ⟨d, hd, ed⟩ := four_of (rest + (0 + (i : Int)) * (c % 5))
    refine ⟨_, rfl, .inl ⟨rfl, _, SqL.of upd_same⟩, ?_⟩
    refine ⟨_, rfl, _, rfl, _, rfl, _, _, rfl, rfl, (by show (0 : Int) < 5; decide), _, _, rfl, rfl, .inl ⟨by omega, by omega⟩, _, _, rfl, rfl, _, _, rfl, rfl, (by show (0 : Int) < 4; decide), _, _, 48 + d, rfl, rfl, q_len, by rw [ed]; exact at_q hd, ?_⟩
    refine ⟨l, signsOf ds, _, rfl, rfl, upd_same, small1000 (by rw [signs_len]; omega), ?_⟩
    refine ⟨_, rfl, _, _, rfl, rfl, cdivW (by decide) (by decide), ?_⟩
    refine ⟨ds ++ [d], _, _, by rw [List.length_append, hds]; rfl, fun e he => ?_, rfl, ?_⟩
    · rcases List.mem_append.mp he with he | he
      · exact h4 e he
      · rw [List.mem_singleton.mp he]; exact hd
    · rw [upd_upd]
      unfold signsOf
      rw [List.map_append]
      rfl
  · rintro σ H2 ⟨ds, rest, v, hds, h4, rfl, rfl⟩
    have hds' : ds.length = n := by rw [hds]; exact Int.toNat_natCast n
    refine ⟨rfl, _, rfl, ("" : Str), l, ds.map one, rfl, rfl, SqL.of (by rw [upd_same]; unfold signsOf; simp [List.map_map]; try rfl), ?_, ?_⟩
    · have e0 : ("" : Str).length = 0 := by decide +kernel
      have e1 := ones ds
      rw [e0, e1]; omega
    · rw [join_one]
      exact q' ds _ hds' h4 (Same.new hl _)
end
end Qs
namespace Qs
open PySem L2

def PaAt (H : Hp) (u : V) (n : Nat) : Prop := ∃ p z c, u = .ref p ∧ H p = some (.tup [.str z, .int c]) ∧ IsC z ∧ z.length ≤ n ∧ 0 ≤ c ∧ c ≤ 35
theorem PaAt.up {H H' : Hp} {u : V} {n : Nat} (h : PaAt H u n) (s : Tups H H') : PaAt H' u n := by
  obtain ⟨p, z, c, e, hp, h⟩ := h
  exact ⟨p, z, c, e, s _ _ hp, h⟩
theorem rng12 {fs : Nat} {M : Int} (hf : fs ≤ 18) (h0 : 0 ≤ M) (h1 : M ≤ 63) : ∃ n : Nat, Builtin.Range.small (fs : Int) M 2 = true ∧ Builtin.Range.rangeSize (fs : Int) M 2 = (n : Int) ∧ n ≤ 32 := by
  have e : ∀ fs : Nat, fs < 19 → ∀ m : Nat, m < 64 → Builtin.Range.small (fs : Int) (m : Int) 2 = true ∧ Builtin.Range.rangeSize (fs : Int) (m : Int) 2 = (((m + 1 - fs) / 2 : Nat) : Int) := by decide +kernel
  obtain ⟨m, rfl⟩ : ∃ m : Nat, M = (m : Int) := ⟨M.toNat, by omega⟩
  obtain ⟨e1, e2⟩ := e fs (by omega) m (by omega)
  exact ⟨(m + 1 - fs) / 2, e1, e2, by omega⟩
section
variable {P : Program} {w : World} {K : PySem.W.Frag} {mg : Str → Option Value} {base : Heap} {CX : CXT} {f : Addr} {fd : FuncData}
abbrev s_law_colour : Stmt := top 37
theorem sc_law_colour : FnScope ["_law_cell"] ["_law_cell"] (defScope s_law_colour) := ⟨rfl, rfl, rfl, by decide +kernel, rfl, by decide +kernel, by decide +kernel⟩
def sp_law_colour : Sp := fun vs H Q _ => ∃ c : Int, vs = [.int c] ∧ ∀ i : Int, 0 ≤ i → i ≤ 35 → Q (.int i) H
theorem ok_law_colour (T : Tx K mg) (F : FunD K "_law_colour" "_law_colour" s_law_colour f fd .none) : FnOk P w K mg base CX 1 f fd ["_law_cell"] sp_law_colour := by
  refine F.ok sc_law_colour (fun vs H Q E h => ?_) (fun cdv A outer s H vs Q E hr h => ?_)
  · obtain ⟨_, rfl, _⟩ := h
    rfl
  obtain ⟨c, rfl, q'⟩ := h
  refine ⟨_, (pss_cons (ps_if (pt_cmpR op_lt (pe_op op_mod (pv 0) pe_int) pe_int (nomark _)) (pss_one (ps_ret (pe_op op_mod (pe_op op_fdivW (pv 0) pe_int) pe_int))) pss_nil) (pss_one (ps_ret (pe_op op_mod (pe_op op_fdivW (pv 0) pe_int) pe_int)))), ?_⟩
  refine ⟨_, rfl, _, _, rfl, rfl, (by show (0 : Int) < 3; decide), _, _, rfl, rfl, _, rfl, ite2 (fun _ => ?_) (fun _ => ?_)⟩
  · exact ⟨_, rfl, _, _, rfl, rfl, cdivW (by decide) (by decide), _, _, rfl, rfl, (by show (0 : Int) < 2; decide), q' _ (by show 0 ≤ c / 3 % 2; omega) (by show c / 3 % 2 ≤ 35; omega)⟩
  · exact ⟨_, rfl, _, _, rfl, rfl, cdivW (by decide) (by decide), _, _, rfl, rfl, (by show (0 : Int) < 36; decide), q' _ (by show 0 ≤ c / 3 % 36; omega) (by show c / 3 % 36 ≤ 35; omega)⟩
abbrev s_law_paints_by_digits : Stmt := top 35
theorem sc_law_paints_by_digits : FnScope ["_law_script", "_law_first_here", "_law_most", "_law_level", "_law_paints_here", "_law_at_here", "_law_rest", "_law_code_here", "_law_size", "_law_k"] ["_law_script", "_law_first_here", "_law_most", "_law_level"] (defScope s_law_paints_by_digits) := ⟨rfl, rfl, rfl, by decide +kernel, rfl, by decide +kernel, by decide +kernel⟩
def sp_law_paints (K : PySem.W.Frag) : Sp := fun vs H Q _ => ∃ (a : Addr) (ns : List Int) (fs most n : Nat), vs = [.ref a, .int (fs : Int), .int most, .int n] ∧ fs ≤ 18 ∧ SqL K H a (ns.map V.int) ∧ ns.length ≤ 63 ∧ most ≤ 31 ∧ n ≤ 40 ∧
  ∀ l xs H', Same H H' → H l = none → H' l = some (.lst xs) → xs.length ≤ 32 → (∀ u ∈ xs, PaAt H' u n) → Q (.ref l) H'
theorem ok_law_paints_by_digits (T : Tx K mg) (q : Quiet CX) (F : FunD K "_law_paints_by_digits" "_law_paints_by_digits" s_law_paints_by_digits f fd .none) (C__law_at : Fok P w K mg base CX 1 "_law_at" ["_law_script", "_law_k"] [] (sp_law_at K)) (C__law_code : Fok P w K mg base CX 1 "_law_code" ["_law_cell", "_law_size"] [] sp_law_code) : FnOk P w K mg base CX 2 f fd ["_law_script", "_law_first_here", "_law_most", "_law_level"] (sp_law_paints K) := by
  refine F.ok sc_law_paints_by_digits (fun vs H Q E h => ?_) (fun cdv A outer s H vs Q E hr h => ?_)
  · obtain ⟨_, _, _, _, _, rfl, _⟩ := h
    rfl
  obtain ⟨a, ns, fs, most, n, rfl, hfs, hS, h63, hmost, hn, q'⟩ := h
  refine ⟨_, (pss_cons (ps_set (i := 4) sc_law_paints_by_digits.nd rfl (Or.inl rfl) (pe_lstx pax_nil)) (pss_cons (ps_for PassesOwn.never rfl (pi_range3 rfl T.b_range (pa_cons (pv 1) (pa_cons (pe_callB (call_min2 rfl) rfl T.b_min bb_min (pa_cons (pe_callB call_len rfl T.b_len bb_len (pa_cons (pv 0) pa_nil)) (pa_cons (pe_op op_add (pv 1) (pe_op op_mul pe_int (pv 2))) pa_nil))) (pa_cons pe_int pa_nil)))) (pg_name (i := 5) sc_law_paints_by_digits.nd rfl (Or.inl rfl)) (pss_cons (ps_set (i := 6) sc_law_paints_by_digits.nd rfl (Or.inl rfl) (pe_callF C__law_at q hr (pa_cons (pv 0) (pa_cons (pv 5) pa_nil)))) (pss_cons (ps_set (i := 7) sc_law_paints_by_digits.nd rfl (Or.inl rfl) pe_str) (pss_cons (ps_set (i := 8) sc_law_paints_by_digits.nd rfl (Or.inl rfl) (pe_op op_mod (pv 6) (pe_op op_add (pv 3) pe_int))) (pss_cons (ps_set (i := 6) sc_law_paints_by_digits.nd rfl (Or.inl rfl) (pe_op op_fdivW (pv 6) (pe_op op_add (pv 3) pe_int))) (pss_cons (ps_for PassesOwn.never rfl (pi_range1 rfl T.b_range (pa_cons (pv 8) pa_nil)) (pg_name (i := 9) sc_law_paints_by_digits.nd rfl (Or.inl rfl)) (pss_cons (ps_set (i := 7) sc_law_paints_by_digits.nd rfl (Or.inl rfl) (pe_op op_add_str (pv 7) (pe_ix ix_str pe_str (pe_op op_mod (pv 6) pe_int) (fun _ _ => rfl)))) (pss_one (ps_set (i := 6) sc_law_paints_by_digits.nd rfl (Or.inl rfl) (pe_op op_fdivW (pv 6) pe_int))))) (pss_cons (ps_cut (ps_if (pt_chain op_lt op_lt (pe_un un_neg (pe_op op_pow pe_int pe_int)) (pe_callF C__law_at q hr (pa_cons (pv 0) (pa_cons (pv 5) pa_nil))) (pe_op op_pow pe_int pe_int)) (pss_one (ps_set (i := 7) sc_law_paints_by_digits.nd rfl (Or.inl rfl) (pe_callF C__law_code q hr (pa_cons (pe_callF C__law_at q hr (pa_cons (pv 0) (pa_cons (pv 5) pa_nil))) (pa_cons (pv 8) pa_nil))))) pss_nil)) (pss_one (ps_expr (pe_bm PySem.F.plainAttrs_list PySem.F.slot_list_append PySem.F.type_list_append mt_append (pv 4) (pa_cons (pe_tupx (pax_c (pv 7) (pax_c (pe_op op_mod (pe_callF C__law_at q hr (pa_cons (pv 0) (pa_cons (pe_op op_add (pv 5) pe_int) pa_nil))) pe_int) pax_nil))) pa_nil))))))))))) (pss_one (ps_ret (pv 4))))), ?_⟩
  refine ⟨(by show 0 ≤ sizeLine; decide), fun l hl => ?_⟩
  have s1 := Same.new hl (.lst [])
  have u1 : upd H l (.lst []) l = some (.lst []) := upd_same
  generalize upd H l (.lst []) = H1 at *
  refine ⟨_, rfl, _, rfl, _, _, rfl, .inl ⟨_, s1.seq hS, rfl⟩, _, rfl, _, rfl, _, _, rfl, rfl, .inl ⟨by decide, by decide⟩, _, _, rfl, rfl, _, _, rfl, ?_⟩
  obtain ⟨M, eM, hM⟩ : ∃ M : Int, M = (if (fs : Int) + 2 * (most : Int) < (((ns.map V.int).length : Nat) : Int) then (fs : Int) + 2 * (most : Int) else (((ns.map V.int).length : Nat) : Int)) ∧ (0 ≤ M ∧ M ≤ 63) := ⟨_, rfl, by rw [List.length_map]; split <;> omega⟩
  obtain ⟨N, sm, sz, hN⟩ := rng12 hfs hM.1 hM.2
  refine ⟨(fs : Int), M, 2, N, (by show [V.int (fs : Int), V.int _, V.int 2] = [V.int (fs : Int), V.int M, V.int 2]; rw [eM]), by omega, by decide, sm, sz, for_gen (fun i σ H2 => Same H H2 ∧ ∃ (xs : List V) (o5 o6 o7 o8 o9 : Option V), H2 l = some (.lst xs) ∧ xs.length = i ∧ (∀ u ∈ xs, PaAt H2 u n) ∧ σ = [some (.ref a), some (.int (fs : Int)), some (.int most), some (.int n), some (.ref l), o5, o6, o7, o8, o9]) ⟨s1, [], _, _, _, _, _, u1, rfl, fun u hu => absurd hu (by simp), rfl⟩ ?_ ?_⟩
  · rintro k σ H2 hk ⟨s2, xs, o5, o6, o7, o8, o9, u2, lx, hxs, rfl⟩
    have hS2 := s2.seq hS
    have pI : (0 : Int) < (n : Int) + 1 := by omega
    refine ⟨_, rfl, _, rfl, a, ns, fs + k * 2, rfl, hS2, h63, ?_⟩
    refine ⟨_, rfl, _, rfl, _, _, rfl, rfl, _, _, rfl, rfl, pI, ?_⟩
    obtain ⟨sg, hsg, esg⟩ : ∃ sg : Nat, sg ≤ n ∧ cell ns (fs + k * 2) % ((n : Int) + 1) = (sg : Int) := by
      have h1 := Int.emod_nonneg (cell ns (fs + k * 2)) (show (n : Int) + 1 ≠ 0 by omega)
      have h2 := Int.emod_lt_of_pos (cell ns (fs + k * 2)) pI
      exact ⟨(cell ns (fs + k * 2) % ((n : Int) + 1)).toNat, by omega, by omega⟩
    rw [show (fun i j : Int => V.int (i % j)) (cell ns (fs + k * 2)) ((n : Int) + 1) = V.int (sg : Int) from congrArg V.int esg]
    refine ⟨_, rfl, _, rfl, _, _, rfl, rfl, _, _, rfl, rfl, cdivW pI (by show (n : Int) + 1 < _; omega), ?_⟩
    refine ⟨_, rfl, _, rfl, by omega, by omega, for_range (fun j σ H3 => H3 = H2 ∧ ∃ (z : Str) (rest : Int) (o9 : Option V), IsC z ∧ z.length = j ∧ σ = [some (.ref a), some (.int (fs : Int)), some (.int most), some (.int n), some (.ref l), some (.int ((fs : Int) + (k : Int) * 2)), some (.int rest), some (.str z), some (.int (sg : Int)), o9]) ⟨rfl, _, _, _, empty_eq ▸ IsC.nil, by decide +kernel, rfl⟩ ?_ ?_⟩
    · rintro j σ H3 hj ⟨rfl, z, rest, o9, hz, lz, rfl⟩
      have hj' : j < sg := by omega
      obtain ⟨d, hd, ed⟩ := four_of rest
      refine ⟨_, rfl, _, rfl, _, _, rfl, rfl, (by show (0 : Int) < 4; decide), _, _, 48 + d, rfl, rfl, q_len, by rw [ed]; exact at_q hd, _, _, rfl, rfl, ?_, ?_⟩
      · rw [lz]; show j + 1 ≤ sizeLine; exact small (by omega)
      exact ⟨_, rfl, _, _, rfl, rfl, cdivW (by decide) (by decide), rfl, z ++ one d, _, _, IsC.app hz (IsC.one hd), by rw [app_len, lz]; rfl, rfl⟩
    · rintro σ H3 ⟨rfl, z, rest, o9, hz, lz, rfl⟩
      have lz' : z.length ≤ n := by omega
      have cp : CPow 10 6 := ⟨by decide, by decide, by decide⟩
      refine ⟨fun σ H4 => Same H3 H4 ∧ ∃ z : Str, IsC z ∧ z.length ≤ n ∧ σ = [some (.ref a), some (.int (fs : Int)), some (.int most), some (.int n), some (.ref l), some (.int ((fs : Int) + (k : Int) * 2)), some (.int rest), some (.str z), some (.int (sg : Int)), o9], ?_, ?_⟩
      · refine ⟨_, _, rfl, rfl, cp, _, rfl, _, rfl, _, rfl, a, ns, fs + k * 2, rfl, hS2, h63, _, _, rfl, rfl, _, rfl, ite2 (fun _ => ⟨_, _, rfl, rfl, cp, _, _, rfl, rfl, _, rfl, ite2 (fun _ => ?_) (fun _ => ⟨Same.refl _, z, hz, lz', rfl⟩)⟩) (fun _ => ⟨_, rfl, iteF ⟨Same.refl _, z, hz, lz', rfl⟩⟩)⟩
        exact ⟨_, rfl, _, rfl, a, ns, fs + k * 2, rfl, hS2, h63, _, rfl, cell ns (fs + k * 2), sg, rfl, by omega, fun ds H4 ld h4 s4 => ⟨s4, txt ds, txt_isC h4, by rw [txt_len]; omega, rfl⟩⟩
      · rintro σ H4 ⟨s4, z', hz', lz'', rfl⟩
        have u4 := s4 _ _ u2
        have hS4 := s4.seq hS2
        refine ⟨_, rfl, .inl ⟨rfl, _, SqL.of u4⟩, _, rfl, _, rfl, _, rfl, _, _, rfl, rfl, a, ns, fs + k * 2 + 1, rfl, hS4, h63, _, _, rfl, rfl, (by show (0 : Int) < 36; decide), (by show 2 ≤ sizeLine; decide), fun p hp => ?_⟩
        have s5 := Same.new hp (.tup [.str z', .int (cell ns (fs + k * 2 + 1) % 36)])
        have p5 : upd H4 p (.tup [.str z', .int (cell ns (fs + k * 2 + 1) % 36)]) p = some (.tup [.str z', .int (cell ns (fs + k * 2 + 1) % 36)]) := upd_same
        have u5 := s5 _ _ u4
        have tl := Tups.lst (ys := xs ++ [V.ref p]) u5
        refine ⟨l, xs, _, rfl, rfl, u5, small1000 (by omega), Same.set (s2.trans (s4.trans s5)) hl _, xs ++ [V.ref p], _, _, _, _, _, upd_same, by rw [List.length_append, lx]; rfl, fun u hu => ?_, rfl⟩
        rcases List.mem_append.mp hu with hu | hu
        · exact (hxs u hu).up ((s4.trans s5).tups.trans tl)
        · rw [List.mem_singleton.mp hu]
          exact ⟨p, z', _, rfl, tl _ _ p5, hz', lz'', by omega, by omega⟩
  · rintro σ H2 ⟨s2, xs, o5, o6, o7, o8, o9, u2, lx, hxs, rfl⟩
    exact ⟨_, rfl, q' l xs H2 s2 hl u2 (by omega) hxs⟩
end
end Qs


namespace Qs
open PySem L2
section
variable {P : Program} {w : World} {K : PySem.W.Frag} {mg : Str → Option Value} {base : Heap} {CX : CXT} {f : Addr} {fd : FuncData}
abbrev s_law_paints : Stmt := top 36
theorem sc_law_paints : FnScope ["_law_script", "_law_first_here", "_law_most", "_law_level", "_law_paints_here", "_law_code_here", "_law_at_here", "_law_cell", "_law_keep"] ["_law_script", "_law_first_here", "_law_most", "_law_level"] (defScope s_law_paints) := ⟨rfl, rfl, rfl, by decide +kernel, rfl, by decide +kernel, by decide +kernel⟩
theorem ok_law_paints (T : Tx K mg) (q : Quiet CX) (F : FunD K "_law_paints" "_law_paints" s_law_paints f fd .none) (C__law_at : Fok P w K mg base CX 1 "_law_at" ["_law_script", "_law_k"] [] (sp_law_at K)) (C__law_paints_by_digits : Fok P w K mg base CX 2 "_law_paints_by_digits" ["_law_script", "_law_first_here", "_law_most", "_law_level"] [] (sp_law_paints K)) (C__law_code : Fok P w K mg base CX 1 "_law_code" ["_law_cell", "_law_size"] [] sp_law_code) (C__law_colour : Fok P w K mg base CX 1 "_law_colour" ["_law_cell"] [] sp_law_colour) :
    FnOk P w K mg base CX 3 f fd ["_law_script", "_law_first_here", "_law_most", "_law_level"] (sp_law_paints K) := by
  refine F.ok sc_law_paints (fun vs H Q E h => ?_) (fun cdv A outer s H vs Q E hr h => ?_)
  · obtain ⟨_, _, _, _, _, rfl, _⟩ := h
    rfl
  obtain ⟨a, ns, fs, most, n, rfl, hfs, hS, h63, hmost, hn, q'⟩ := h
  refine ⟨_, (pss_cons (ps_if (pt_cmpR op_eq (pe_op op_mod (pe_op op_fdivW (pe_callF C__law_at q hr (pa_cons (pv 0) (pa_cons pe_int pa_nil))) pe_int) pe_int) pe_int (nomark _)) (pss_one (ps_ret (pe_callF C__law_paints_by_digits q hr (pa_cons (pv 0) (pa_cons (pv 1) (pa_cons (pv 2) (pa_cons (pv 3) pa_nil))))))) pss_nil) (pss_cons (ps_set (i := 4) sc_law_paints.nd rfl (Or.inl rfl) (pe_lstx pax_nil)) (pss_cons (ps_set (i := 5) sc_law_paints.nd rfl (Or.inl rfl) pe_str) (pss_cons (ps_for PassesOwn.never rfl (pi_range3 rfl T.b_range (pa_cons (pv 1) (pa_cons (pe_callB (call_min2 rfl) rfl T.b_min bb_min (pa_cons (pe_callB call_len rfl T.b_len bb_len (pa_cons (pv 0) pa_nil)) (pa_cons (pe_op op_add (pv 1) (pe_op op_mul pe_int (pv 2))) pa_nil))) (pa_cons pe_int pa_nil)))) (pg_name (i := 6) sc_law_paints.nd rfl (Or.inl rfl)) (pss_cons (ps_set (i := 7) sc_law_paints.nd rfl (Or.inl rfl) (pe_callF C__law_at q hr (pa_cons (pv 0) (pa_cons (pv 6) pa_nil)))) (pss_cons (ps_set (i := 8) sc_law_paints.nd rfl (Or.inl rfl) (pe_op op_mod (pe_op op_fdivW (pv 7) pe_int) (pe_op op_add (pe_callB call_len rfl T.b_len bb_len (pa_cons (pv 5) pa_nil)) pe_int))) (pss_cons (ps_cut (ps_if (pt_cmpR op_eq (pe_op op_mod (pv 7) pe_int) pe_int (nomark _)) (pss_one (ps_set (i := 5) sc_law_paints.nd rfl (Or.inl rfl) (pe_slice sl_str (pv 5) po_none (po_some (pv 8))))) (pss_one (ps_if (pt_cmpR op_eq (pe_op op_mod (pv 7) pe_int) pe_int (nomark _)) (pss_one (ps_set (i := 5) sc_law_paints.nd rfl (Or.inl rfl) (pe_op op_add_str (pe_op op_add_str (pe_slice sl_str (pv 5) po_none (po_some (pv 8))) (pe_ix ix_str pe_str (pe_op op_mod (pe_op op_fdivW (pv 7) pe_int) pe_int) (fun _ _ => rfl))) (pe_slice sl_str (pv 5) (po_some (pe_op op_add (pv 8) pe_int)) po_none)))) (pss_one (ps_set (i := 5) sc_law_paints.nd rfl (Or.inl rfl) (pe_op op_add_str (pe_slice sl_str (pv 5) po_none (po_some (pv 8))) (pe_callF C__law_code q hr (pa_cons (pe_op op_fdivW (pv 7) pe_int) (pa_cons (pe_op op_mod (pe_op op_fdivW (pv 7) pe_int) (pe_op op_add (pv 3) pe_int)) pa_nil)))))))))) (pss_cons (ps_set (i := 5) sc_law_paints.nd rfl (Or.inl rfl) (pe_slice sl_str (pv 5) po_none (po_some (pv 3)))) (pss_one (ps_expr (pe_bm PySem.F.plainAttrs_list PySem.F.slot_list_append PySem.F.type_list_append mt_append (pv 4) (pa_cons (pe_tupx (pax_c (pv 5) (pax_c (pe_callF C__law_colour q hr (pa_cons (pe_callF C__law_at q hr (pa_cons (pv 0) (pa_cons (pe_op op_add (pv 6) pe_int) pa_nil))) pa_nil)) pax_nil))) pa_nil))))))))) (pss_one (ps_ret (pv 4))))))), ?_⟩
  refine ⟨_, rfl, a, ns, 0, rfl, hS, h63, _, _, rfl, rfl, cdivW (by decide) (by decide), _, _, rfl, rfl, (by show (0 : Int) < 2; decide), rfl, _, rfl, ite2 (fun _ => ?_) (fun _ => ?_)⟩
  · exact ⟨_, rfl, _, rfl, _, rfl, _, rfl, a, ns, fs, most, n, rfl, hfs, hS, h63, hmost, hn, q'⟩
  refine ⟨(by show 0 ≤ sizeLine; decide), fun l hl => ?_⟩
  have s1 := Same.new hl (.lst [])
  have u1 : upd H l (.lst []) l = some (.lst []) := upd_same
  generalize upd H l (.lst []) = H1 at *
  refine ⟨_, rfl, _, rfl, _, _, rfl, .inl ⟨_, s1.seq hS, rfl⟩, _, rfl, _, rfl, _, _, rfl, rfl, .inl ⟨by decide, by decide⟩, _, _, rfl, rfl, _, _, rfl, ?_⟩
  obtain ⟨M, eM, hM⟩ : ∃ M : Int, M = (if (fs : Int) + 2 * (most : Int) < (((ns.map V.int).length : Nat) : Int) then (fs : Int) + 2 * (most : Int) else (((ns.map V.int).length : Nat) : Int)) ∧ (0 ≤ M ∧ M ≤ 63) := ⟨_, rfl, by rw [List.length_map]; split <;> omega⟩
  obtain ⟨N, sm, sz, hN⟩ := rng12 hfs hM.1 hM.2
  refine ⟨(fs : Int), M, 2, N, (by show [V.int (fs : Int), V.int _, V.int 2] = [V.int (fs : Int), V.int M, V.int 2]; rw [eM]), by omega, by decide, sm, sz, for_gen (fun i σ H2 => Same H H2 ∧ ∃ (xs : List V) (z : Str) (o6 o7 o8 : Option V), H2 l = some (.lst xs) ∧ xs.length = i ∧ (∀ u ∈ xs, PaAt H2 u n) ∧ IsC z ∧ z.length ≤ n ∧ σ = [some (.ref a), some (.int (fs : Int)), some (.int most), some (.int n), some (.ref l), some (.str z), o6, o7, o8]) ⟨s1, [], _, _, _, _, u1, rfl, fun u hu => absurd hu (by simp), empty_eq ▸ IsC.nil, (by rw [show ("" : Str).length = 0 by decide +kernel]; omega), rfl⟩ ?_ ?_⟩
  · rintro k σ H2 hk ⟨s2, xs, z, o6, o7, o8, u2, lx, hxs, hz, lz, rfl⟩
    have hS2 := s2.seq hS
    have zs : z.length ≤ sizeLine := small (by omega)
    refine ⟨_, rfl, _, rfl, a, ns, fs + k * 2, rfl, hS2, h63, ?_⟩
    have pI : (0 : Int) < (z.length : Int) + 1 := by omega
    refine ⟨_, rfl, _, _, rfl, rfl, cdivW (by decide) (by decide), _, rfl, _, _, rfl, ⟨zs, rfl⟩, _, _, rfl, rfl, _, _, rfl, rfl, pI, ?_⟩
    obtain ⟨kp, hkp, ekp⟩ : ∃ kp : Nat, kp ≤ z.length ∧ cell ns (fs + k * 2) / 4 % ((z.length : Int) + 1) = (kp : Int) := by
      have h1 := Int.emod_nonneg (cell ns (fs + k * 2) / 4) (show (z.length : Int) + 1 ≠ 0 by omega)
      have h2 := Int.emod_lt_of_pos (cell ns (fs + k * 2) / 4) pI
      exact ⟨(cell ns (fs + k * 2) / 4 % ((z.length : Int) + 1)).toNat, by omega, by omega⟩
    rw [show (fun i j : Int => V.int (i % j)) (cell ns (fs + k * 2) / 4) ((z.length : Int) + 1) = V.int (kp : Int) from congrArg V.int ekp]
    refine ⟨fun σ H3 => Same H2 H3 ∧ ∃ z : Str, IsC z ∧ z.length ≤ 200 ∧ σ = [some (.ref a), some (.int (fs : Int)), some (.int most), some (.int n), some (.ref l), some (.str z), some (.int ((fs : Int) + (k : Int) * 2)), some (.int (cell ns (fs + k * 2))), some (.int (kp : Int))], ?_, ?_⟩
    · have lp := pre_len z kp
      have hp := pre_isC hz kp
      refine ⟨_, rfl, _, _, rfl, rfl, (by show (0 : Int) < 4; decide), rfl, _, rfl, ite2 (fun _ => ?_) (fun _ => ⟨_, rfl, _, _, rfl, rfl, (by show (0 : Int) < 4; decide), rfl, _, rfl, ite2 (fun _ => ?_) (fun _ => ?_)⟩)⟩
      · refine ⟨_, rfl, _, rfl, _, rfl, z, rfl, zs, Same.refl _, pre z kp, hp, by omega, ?_⟩
        rw [slice_pre]; rfl
      · obtain ⟨d, hd, ed⟩ := four_of (cell ns (fs + k * 2) / 164)
        refine ⟨_, rfl, _, rfl, _, rfl, z, rfl, zs, _, rfl, _, _, rfl, rfl, cdivW (by decide) (by decide), _, _, rfl, rfl, (by show (0 : Int) < 4; decide), _, _, 48 + d, rfl, rfl, q_len, by rw [ed]; exact at_q hd, ?_⟩
        rw [slice_pre]
        refine ⟨_, _, rfl, rfl, (by show (pre z kp).length + 1 ≤ sizeLine; exact small (by omega)), _, rfl, _, rfl, _, _, rfl, rfl, _, rfl, z, rfl, zs, ?_⟩
        have es : Txt.slice z (some ((kp : Int) + 1)) none = suf z (kp + 1) := slice_suf' z (kp + 1)
        dsimp only
        rw [es]
        have ls := suf_len z (kp + 1)
        have l1 : (pre z kp ++ (one d)).length = (pre z kp).length + 1 := by rw [app_len]; rfl
        refine ⟨_, _, rfl, rfl, (by show (pre z kp ++ (one d)).length + (suf z (kp + 1)).length ≤ sizeLine; exact small (by omega)), Same.refl _, pre z kp ++ one d ++ suf z (kp + 1), IsC.app (IsC.app hp (IsC.one hd)) (suf_isC hz _), by rw [app_len]; omega, rfl⟩
      · have pn : (0 : Int) < (n : Int) + 1 := by omega
        obtain ⟨sg, hsg, esg⟩ : ∃ sg : Nat, sg ≤ n ∧ cell ns (fs + k * 2) / 7 % ((n : Int) + 1) = (sg : Int) := by
          have h1 := Int.emod_nonneg (cell ns (fs + k * 2) / 7) (show (n : Int) + 1 ≠ 0 by omega)
          have h2 := Int.emod_lt_of_pos (cell ns (fs + k * 2) / 7) pn
          exact ⟨(cell ns (fs + k * 2) / 7 % ((n : Int) + 1)).toNat, by omega, by omega⟩
        refine ⟨_, rfl, _, rfl, _, rfl, z, rfl, zs, _, rfl, _, _, rfl, rfl, cdivW (by decide) (by decide), _, rfl, _, _, rfl, rfl, cdivW (by decide) (by decide), _, rfl, _, _, rfl, rfl, _, _, rfl, rfl, pn, cell ns (fs + k * 2) / 164, sg, (by show [V.int _, V.int (cell ns (fs + k * 2) / 7 % ((n : Int) + 1))] = [V.int _, V.int _]; rw [esg]), by omega, fun ds H4 ld h4 s4 => ?_⟩
        rw [slice_pre]
        have lt := txt_len ds
        exact ⟨_, _, rfl, rfl, small (by omega), s4, pre z kp ++ txt ds, IsC.app hp (txt_isC h4), by rw [app_len]; omega, rfl⟩
    · rintro σ H3 ⟨s3, z', hz', lz', rfl⟩
      have u3 := s3 _ _ u2
      have hS3 := s3.seq hS2
      refine ⟨_, rfl, _, rfl, _, rfl, z', rfl, small (by omega), ?_⟩
      rw [slice_pre]
      have lp := pre_len z' n
      have hp' := pre_isC hz' n
      generalize pre z' n = zz at *
      refine ⟨_, rfl, .inl ⟨rfl, _, SqL.of u3⟩, _, rfl, _, rfl, _, rfl, _, _, rfl, rfl, a, ns, fs + k * 2 + 1, rfl, hS3, h63, cell ns (fs + k * 2 + 1), rfl, fun c hc0 hc1 => ⟨(by show 2 ≤ sizeLine; decide), fun p hp => ?_⟩⟩
      have s5 := Same.new hp (.tup [.str zz, .int c])
      have p5 : upd H3 p (.tup [.str zz, .int c]) p = some (.tup [.str zz, .int c]) := upd_same
      have u5 := s5 _ _ u3
      have tl := Tups.lst (ys := xs ++ [V.ref p]) u5
      refine ⟨l, xs, _, rfl, rfl, u5, small1000 (by omega), Same.set (s2.trans (s3.trans s5)) hl _, xs ++ [V.ref p], zz, _, _, _, upd_same, by rw [List.length_append, lx]; rfl, fun u hu => ?_, hp', by omega, rfl⟩
      rcases List.mem_append.mp hu with hu | hu
      · exact (hxs u hu).up ((s3.trans s5).tups.trans tl)
      · rw [List.mem_singleton.mp hu]
        exact ⟨p, zz, c, rfl, tl _ _ p5, hp', by omega, hc0, hc1⟩
  · rintro σ H2 ⟨s2, xs, z, o6, o7, o8, u2, lx, hxs, hz, lz, rfl⟩
    exact ⟨_, rfl, q' l xs H2 s2 hl u2 (by omega) hxs⟩
end
end Qs
namespace Qs
open PySem L2

def PaV (H : Hp) (n : Nat) (u : V) (q : List Nat × Int) : Prop := ∃ p z, u = .ref p ∧ H p = some (.tup [.str z, .int q.2]) ∧ IsC z ∧ dig z = q.1 ∧ z.length ≤ n ∧ 0 ≤ q.2 ∧ q.2 ≤ 35
theorem PaV.up {H H' : Hp} {n : Nat} {u : V} {q : List Nat × Int} (h : PaV H n u q) (s : Tups H H') : PaV H' n u q := by
  obtain ⟨p, z, e, hp, h⟩ := h
  exact ⟨p, z, e, s _ _ hp, h⟩
inductive PasAt (H : Hp) (n : Nat) : List V → List (List Nat × Int) → Prop
  | nil : PasAt H n [] []
  | cons {u : V} {q : List Nat × Int} {us : List V} {L : List (List Nat × Int)} : PaV H n u q → PasAt H n us L → PasAt H n (u :: us) (q :: L)
theorem PasAt.up {H H' : Hp} {n : Nat} {us : List V} {L : List (List Nat × Int)} (h : PasAt H n us L) (s : Tups H H') : PasAt H' n us L := by
  induction h with
  | nil => exact .nil
  | cons p _ ih => exact .cons (p.up s) ih
theorem PasAt.len {H : Hp} {n : Nat} {us : List V} {L : List (List Nat × Int)} (h : PasAt H n us L) : us.length = L.length := by
  induction h with
  | nil => rfl
  | cons p _ ih => simp [ih]
theorem PasAt.app {H : Hp} {n : Nat} {us vs : List V} {L M : List (List Nat × Int)} (h : PasAt H n us L) (k : PasAt H n vs M) : PasAt H n (us ++ vs) (L ++ M) := by
  induction h with
  | nil => exact k
  | cons p _ ih => exact .cons p ih
theorem PasAt.get {H : Hp} {n : Nat} {us : List V} {L : List (List Nat × Int)} (h : PasAt H n us L) : ∀ {i : Nat} {u : V}, us[i]? = some u → ∃ q, L[i]? = some q ∧ PaV H n u q := by
  induction h with
  | nil => intro i u e; simp at e
  | cons p _ ih =>
    intro i u e
    rcases i with _ | i
    · exact ⟨_, rfl, by rw [← Option.some.inj e]; exact p⟩
    · exact ih (by simpa using e)
theorem dig_lt {z : Str} (hz : IsC z) : ∀ d ∈ dig z, d < 4 := fun d h => by
  obtain ⟨c, hc, rfl⟩ := List.mem_map.mp h
  have := hz c hc
  omega
theorem PaV.ok {H : Hp} {n : Nat} {u : V} {q : List Nat × Int} (h : PaV H n u q) : POk n q := by
  obtain ⟨p, z, _, _, hz, e, hl, h0⟩ := h
  rw [POk, ← e, dig_len]
  exact ⟨dig_lt hz, hl, h0⟩
theorem PasAt.ok {H : Hp} {n : Nat} {us : List V} {L : List (List Nat × Int)} (h : PasAt H n us L) : ∀ p ∈ L, POk n p := by
  induction h with
  | nil => intro p hp; cases hp
  | cons p _ ih =>
    intro q hq
    rcases List.mem_cons.mp hq with rfl | hq
    · exact p.ok
    · exact ih q hq
theorem PasAt.of {H : Hp} {n : Nat} : ∀ {us : List V}, (∀ u ∈ us, PaAt H u n) → ∃ L, PasAt H n us L
  | [], _ => ⟨[], .nil⟩
  | u :: us, h => by
    obtain ⟨L, hL⟩ := PasAt.of (us := us) (fun v hv => h v (List.mem_cons_of_mem _ hv))
    obtain ⟨p, z, c, e, hp, hz, hl, h0⟩ := h u List.mem_cons_self
    exact ⟨(dig z, c) :: L, .cons ⟨p, z, e, hp, hz, rfl, hl, h0⟩ hL⟩
def paData (q : Str × Int) : PyData := .tuple [.str q.1, .int q.2]
theorem strOk_isC {z : Str} (h : IsC z) : PyData.strOk z = true := by
  unfold PyData.strOk
  rw [← Array.all_toList, List.all_eq_true]
  intro c hc
  have := h c hc
  exact decide_eq_true (by omega)
theorem PasAt.dats {H : Hp} {n : Nat} {us : List V} {L : List (List Nat × Int)} (h : PasAt H n us L) : ∃ ds : List (Str × Int), ds.length = L.length ∧ (∀ q ∈ ds, PyData.strOk q.1 = true) ∧ Dats H us (ds.map paData) := by
  induction h with
  | nil => exact ⟨[], rfl, fun q hq => (by cases hq), .nil⟩
  | @cons u q us L p _ ih =>
    obtain ⟨ds, e, ho, k⟩ := ih
    obtain ⟨a, z, rfl, ha, hz, _⟩ := p
    refine ⟨(z, q.2) :: ds, by simp [e], fun r hr => ?_, .cons (.tup ha (.cons (.str z) (.cons (.int _) .nil))) k⟩
    rcases List.mem_cons.mp hr with rfl | hr
    · exact strOk_isC hz
    · exact ho r hr
theorem paList_shaped {ds : List (Str × Int)} (h : ∀ q ∈ ds, PyData.strOk q.1 = true) : SeqAt.shaped (.list (ds.map paData)) = true := by
  have e : PyData.canLayAll0 (ds.map paData) = true ∧ PyData.depthAll (ds.map paData) ≤ 1 := by
    induction ds with
    | nil => exact ⟨rfl, Nat.zero_le _⟩
    | cons q r ih =>
      obtain ⟨i1, i2⟩ := ih (fun p hp => h p (List.mem_cons_of_mem _ hp))
      refine ⟨?_, ?_⟩
      · show ((PyData.strOk q.1 && (true && true)) && PyData.canLayAll0 (r.map paData)) = true
        rw [h q List.mem_cons_self, i1]; rfl
      · show max (max 0 (max 0 0) + 1) (PyData.depthAll (r.map paData)) ≤ 1
        omega
  unfold SeqAt.shaped
  show (PyData.canLayAll0 (ds.map paData) && decide (PyData.depthAll (ds.map paData) + 1 ≤ 64)) = true
  rw [e.1, decide_eq_true (by omega)]; rfl
theorem cons_case {α : Type} (l : List α) : l = [] ∨ ∃ a r, l = a :: r := by cases l <;> simp
theorem good_norm {c : Int} : gath (qk (.col c) 0) (qk (.col c) 1) (qk (.col c) 2) (qk (.col c) 3) = .col c := by
  show gath (.col c) (.col c) (.col c) (.col c) = .col c
  unfold gath
  rw [if_pos (oneB_iff.mpr ⟨rfl, rfl, rfl, rfl⟩)]
section
variable {P : Program} {w : World} {K : PySem.W.Frag} {mg : Str → Option Value} {base : Heap} {CX : CXT} {f : Addr} {fd : FuncData}
abbrev s_law_tree_of : Stmt := top 38
theorem sc_law_tree_of : FnScope ["_law_a", "_law_b", "_law_c", "_law_d"] ["_law_a", "_law_b", "_law_c", "_law_d"] (defScope s_law_tree_of) := ⟨rfl, rfl, rfl, by decide +kernel, rfl, by decide +kernel, by decide +kernel⟩
def sp_law_tree_of : Sp := fun vs H Q _ => ∃ (a b c d : V) (ta tb tc td : Tr), vs = [a, b, c, d] ∧ TrAt H a ta ∧ TrAt H b tb ∧ TrAt H c tc ∧ TrAt H d td ∧ (ta.deep ≤ 60 ∧ tb.deep ≤ 60 ∧ tc.deep ≤ 60 ∧ td.deep ≤ 60) ∧ ∀ v H', Same H H' → TrAt H' v (gath ta tb tc td) → Q v H'
theorem ok_law_tree_of (T : Tx K mg) (F : FunD K "_law_tree_of" "_law_tree_of" s_law_tree_of f fd .none) : FnOk P w K mg base CX 1 f fd ["_law_a", "_law_b", "_law_c", "_law_d"] sp_law_tree_of := by
  refine F.ok sc_law_tree_of (fun vs H Q E h => ?_) (fun cdv A outer s H vs Q E hr h => ?_)
  · obtain ⟨_, _, _, _, _, _, _, _, rfl, _⟩ := h
    rfl
  obtain ⟨a, b, c, d, ta, tb, tc, td, rfl, ha, hb, hc, hd, ⟨da, db, dc, dd⟩, q'⟩ := h
  refine ⟨_, (pss_cons (ps_if (PW.pt (pw_and (pt_not (pt_val (pe_callB (call_isiT "tuple") rfl T.b_isinstance bb_isinstance (pa_cons (pv 0) (pa_cons (pe_bty T.b_tuple bt_tuple) pa_nil))))) (pw_and (pt_cmpR (op_eqD hr) (pv 0) (pv 1) (nomark _)) (pw_and (pt_cmpR (op_eqD hr) (pv 0) (pv 2) (nomark _)) (pw_and1 (pt_cmpR (op_eqD hr) (pv 0) (pv 3) (nomark _))))))) (pss_one (ps_ret (pv 0))) pss_nil) (pss_one (ps_ret (pe_tupx (pax_c (pv 0) (pax_c (pv 1) (pax_c (pv 2) (pax_c (pv 3) pax_nil)))))))), ?_⟩
  have ty := ha.ty (K := K)
  have fin : gath ta tb tc td = .four ta tb tc td → ∀ p, H p = none → Q (.ref p) (upd H p (.tup [a, b, c, d])) := fun hg p hp => by
    refine q' _ _ (Same.new hp _) ?_
    rw [hg]
    have sn := (Same.new hp (.tup [a, b, c, d])).tups
    exact .four upd_same (ha.up sn) (hb.up sn) (hc.up sn) (hd.up sn)
  have f4 : 4 ≤ sizeLine := by decide
  have no : ¬ (ta.isCol = true ∧ tb = ta ∧ tc = ta ∧ td = ta) → gath ta tb tc td = .four ta tb tc td := fun h => by
    unfold gath; rw [if_neg (fun z => h (oneB_iff.mp z))]
  cases hta : ta.isCol with
  | false =>
    rw [hta] at ty
    refine ⟨_, rfl, _, _, _, rfl, ty, kit_tt, _, rfl, iteF (iteF ?_)⟩
    exact ⟨_, rfl, _, rfl, _, rfl, _, rfl, f4, fin (no fun z => by rw [hta] at z; cases z.1)⟩
  | true =>
    rw [hta] at ty
    refine ⟨_, rfl, _, _, _, rfl, ty, kit_it, _, rfl, iteT ?_⟩
    have e1 : ∀ {u : Tr}, PyData.eqv ta.data u.data = true → u = ta := fun z => by rw [Tr.eqv] at z; exact (of_decide_eq_true z).symm
    have e2 : ∀ {u : Tr}, ¬ PyData.eqv ta.data u.data = true → u ≠ ta := fun z h => z (by rw [Tr.eqv]; exact decide_eq_true h.symm)
    refine ⟨_, rfl, _, rfl, _, _, ha.dat, hb.dat, Tr.shaped (by omega), Tr.shaped (by omega), _, rfl, ite2 (fun z1 => ?_) (fun z1 => iteF ?_)⟩
    · refine ⟨_, rfl, _, rfl, _, _, ha.dat, hc.dat, Tr.shaped (by omega), Tr.shaped (by omega), _, rfl, ite2 (fun z2 => ?_) (fun z2 => iteF ?_)⟩
      · refine ⟨_, rfl, _, rfl, _, _, ha.dat, hd.dat, Tr.shaped (by omega), Tr.shaped (by omega), _, rfl, ite2 (fun z3 => ?_) (fun z3 => ?_)⟩
        · refine ⟨_, rfl, q' _ _ (Same.refl H) ?_⟩
          unfold gath
          rw [if_pos (oneB_iff.mpr ⟨hta, e1 z1, e1 z2, e1 z3⟩)]
          exact ha
        · exact ⟨_, rfl, _, rfl, _, rfl, _, rfl, f4, fin (no fun z => e2 z3 z.2.2.2)⟩
      · exact ⟨_, rfl, _, rfl, _, rfl, _, rfl, f4, fin (no fun z => e2 z2 z.2.2.1)⟩
    · exact ⟨_, rfl, _, rfl, _, rfl, _, rfl, f4, fin (no fun z => e2 z1 z.2.1)⟩
abbrev s_law_tree_by : Stmt := top 39
theorem sc_law_tree_by : FnScope ["_law_paints_here", "_law_base", "_law_later", "_law_code_here", "_law_colour_here", "_law_trees", "_law_sign", "_law_some"] ["_law_paints_here"] (defScope s_law_tree_by) := ⟨rfl, rfl, rfl, by decide +kernel, rfl, by decide +kernel, by decide +kernel⟩
def sp_law_tree_by (m : Nat) : Sp := fun vs H Q _ => ∃ (l : Addr) (xs : List V) (L : List (List Nat × Int)) (n : Nat), vs = [.ref l] ∧ H l = some (.lst xs) ∧ PasAt H n xs L ∧ n < m ∧ m ≤ 41 ∧ xs.length + n ≤ 200 ∧ ∀ v H', Same H H' → TrAt H' v (paintAll (.col 0) L) → Q v H'
theorem ok_law_tree_by (T : Tx K mg) (q : Quiet CX) (F : FunD K "_law_tree_by" "_law_tree_by" s_law_tree_by f fd .none) (C__law_tree_of : Fok P w K mg base CX 1 "_law_tree_of" ["_law_a", "_law_b", "_law_c", "_law_d"] [] sp_law_tree_of) (b : Binds K fd ["_law_paints_here"] []) (m : mg "_law_tree_by" = some (.ref f)) :
    ∀ n, FnOk P w K mg base CX (2 + n) f fd ["_law_paints_here"] (sp_law_tree_by n)
  | 0 => by
    refine F.ok sc_law_tree_by (fun vs H Q E h => ?_) (fun cdv A outer s H vs Q E hr h => ?_)
    · obtain ⟨_, _, _, _, rfl, _⟩ := h
      rfl
    obtain ⟨_, _, _, _, _, _, _, h, _⟩ := h
    exact absurd h (Nat.not_lt_zero _)
  | m' + 1 => by
    have C__law_tree_by : Fok P w K mg base CX (2 + m') "_law_tree_by" ["_law_paints_here"] [] (sp_law_tree_by m') := fok F (ok_law_tree_by T q F C__law_tree_of b m m') b m
    refine F.ok sc_law_tree_by (fun vs H Q E h => ?_) (fun cdv A outer s H vs Q E hr h => ?_)
    · obtain ⟨_, _, _, _, rfl, _⟩ := h
      rfl
    obtain ⟨l, xs, L, n, rfl, hl, hL, hn, hm, hb, q'⟩ := h
    refine ⟨_, (pss_cons (ps_set (i := 1) sc_law_tree_by.nd rfl (Or.inl rfl) pe_int) (pss_cons (ps_set (i := 2) sc_law_tree_by.nd rfl (Or.inl rfl) (pe_lstx pax_nil)) (pss_cons (ps_for PassesOwn.never rfl (pi_list (pv 0)) (pg_tup rfl (pgs_cons (pg_name (i := 3) sc_law_tree_by.nd rfl (Or.inl rfl)) (pgs_cons (pg_name (i := 4) sc_law_tree_by.nd rfl (Or.inl rfl)) pgs_nil))) (pss_one (ps_if (pt_cmpR op_eq (pv 3) pe_str (nomark _)) (pss_cons (ps_set (i := 1) sc_law_tree_by.nd rfl (Or.inl rfl) (pv 4)) (pss_one (ps_set (i := 2) sc_law_tree_by.nd rfl (Or.inl rfl) (pe_lstx pax_nil)))) (pss_one (ps_expr (pe_bm PySem.F.plainAttrs_list PySem.F.slot_list_append PySem.F.type_list_append mt_append (pv 2) (pa_cons (pe_tupx (pax_c (pv 3) (pax_c (pv 4) pax_nil))) pa_nil))))))) (pss_cons (ps_if (pt_cmpR (op_eqD hr) (pv 2) (pe_lstx pax_nil) (nomark _)) (pss_one (ps_ret (pv 1))) pss_nil) (pss_cons (ps_set (i := 5) sc_law_tree_by.nd rfl (Or.inl rfl) (pe_lstx pax_nil)) (pss_cons (ps_for PassesOwn.never rfl (pi_str pe_str) (pg_name (i := 6) sc_law_tree_by.nd rfl (Or.inr rfl)) (pss_cons (ps_set (i := 7) sc_law_tree_by.nd rfl (Or.inl rfl) (pe_op op_cat (pe_lstx (pax_c (pe_tupx (pax_c pe_str (pax_c (pv 1) pax_nil))) pax_nil)) (pe_compCI (N' := ["_law_code_here", "_law_colour_here", "_law_sign"]) ["_law_sign"] ["_law_sign"] [6] 2 (by with_unfolding_all rfl) rfl (capsOk_cons rfl rfl (by decide) capsOk_nil) rfl rfl (by decide) rfl (by decide +kernel) rfl (by decide +kernel) rfl (pi_list (pv 2)) (fun C s0 H0 fp pins => (pg_tupK (K := K) (n := 2) rfl (pgs_cons (pg_name (i := 0) (show (["_law_code_here", "_law_colour_here", "_law_sign"] : List Str).Nodup by decide +kernel) rfl (Or.inl rfl) (Or.inr rfl)) (pgs_cons (pg_name (i := 1) (show (["_law_code_here", "_law_colour_here", "_law_sign"] : List Str).Nodup by decide +kernel) rfl (Or.inl rfl) (Or.inr rfl)) pgs_nil)))) (fun C s0 H0 fp pins => (pt_cmpR op_eq (pe_ix ix_str (pv 0) pe_int (fun _ _ => rfl)) (pv 2) (nomark _))) (fun C s0 H0 fp pins => (pe_tupx (pax_c (pe_slice sl_str (pv 0) (po_some pe_int) po_none) (pax_c (pv 1) pax_nil))))))) (pss_one (ps_expr (pe_bm PySem.F.plainAttrs_list PySem.F.slot_list_append PySem.F.type_list_append mt_append (pv 5) (pa_cons (pe_callF C__law_tree_by q hr (pa_cons (pv 7) pa_nil) (hj := by first | decide | omega | (simp only [Nat.add_eq]; omega))) pa_nil)))))) (pss_one (ps_ret (pe_callF C__law_tree_of q hr (pa_cons (pe_ix ix_list (pv 5) pe_int (fun _ _ => rfl)) (pa_cons (pe_ix ix_list (pv 5) pe_int (fun _ _ => rfl)) (pa_cons (pe_ix ix_list (pv 5) pe_int (fun _ _ => rfl)) (pa_cons (pe_ix ix_list (pv 5) pe_int (fun _ _ => rfl)) pa_nil)))) (hj := by first | decide | omega | (simp only [Nat.add_eq]; omega))))))))))), ?_⟩
    refine ⟨(by show 0 ≤ sizeLine; decide), fun lt0 hlt0 => ?_⟩
    have s1 := Same.new hlt0 (.lst [])
    have u1 : upd H lt0 (.lst []) lt0 = some (.lst []) := upd_same
    generalize upd H lt0 (.lst []) = H1 at *
    refine ⟨_, rfl, l, rfl, ⟨_, SqL.of (s1 _ _ hl)⟩, for_list (xs := xs) (fun i σ H2 => Same H H2 ∧ ∃ (b : Int) (lt : Addr) (ms : List V) (M : List (List Nat × Int)) (o3 o4 : Option V), H2 lt = some (.lst ms) ∧ H lt = none ∧ PasAt H2 n ms M ∧ (∀ p ∈ M, p.1 ≠ []) ∧ ms.length ≤ i ∧ paintAll (.col 0) (L.take i) = paintAll (.col b) M ∧ (0 ≤ b ∧ b ≤ 35) ∧ σ = [some (.ref l), some (.int b), some (.ref lt), o3, o4, none, none, none]) ⟨s1, 0, lt0, [], [], none, none, u1, hlt0, .nil, fun p hp => (by cases hp), Nat.le_refl _, rfl, ⟨by decide, by decide⟩, rfl⟩ (fun i σ H2 _ h => SqL.of (h.1 _ _ hl)) ?_ ?_⟩
    · rintro i u σ H2 hu ⟨s2, b0, lt, ms, M, o3, o4, u2, hlt, hM, hne, lm, ep, hb0, rfl⟩
      obtain ⟨pq, eq, p, z, rfl, hp, hz, ez, lz, hc⟩ := hL.get hu
      have et : L.take (i + 1) = L.take i ++ [pq] := by rw [List.take_add_one, eq]; rfl
      refine ⟨p, _, rfl, SqT.of (s2 _ _ hp), rfl, _, _, rfl, _, _, rfl, rfl, ?_⟩
      refine ⟨_, rfl, rfl, _, rfl, ite2 (fun c => ?_) (fun c => ?_)⟩
      · have e : z = ("" : Str) := by simpa using c
        have ed : pq.1 = [] := by rw [← ez, e]; exact dig_empty
        refine ⟨_, rfl, (by show 0 ≤ sizeLine; decide), fun lt' hlt' => ?_⟩
        refine ⟨Same.trans s2 (Same.new hlt' _), pq.2, lt', [], [], _, _, upd_same, Same.none s2 hlt', .nil, fun p hp => (by cases hp), Nat.zero_le _, ?_, hc, rfl⟩
        rw [et, paintAll_snoc, ed]; rfl
      · have nz : pq.1 ≠ [] := fun h => by
          have h0 : z.length = 0 := by rw [← dig_len, ez, h]; rfl
          exact c (by simp [str_eq_nil.mpr h0])
        refine ⟨_, rfl, .inl ⟨rfl, _, SqL.of u2⟩, _, rfl, _, rfl, (by show 2 ≤ sizeLine; decide), fun p' hp' => ?_⟩
        have s3 := Same.new hp' (.tup [.str z, .int pq.2])
        have p3 : upd H2 p' (.tup [.str z, .int pq.2]) p' = some (.tup [.str z, .int pq.2]) := upd_same
        have u3 := s3 _ _ u2
        generalize upd H2 p' (.tup [.str z, .int pq.2]) = H3 at *
        have tl := Tups.lst (ys := ms ++ [V.ref p']) u3
        have hi : i < xs.length := (List.getElem?_eq_some_iff.mp hu).1
        refine ⟨lt, ms, _, rfl, rfl, u3, small1000 (by omega), Same.set (s2.trans s3) hlt _, b0, lt, ms ++ [V.ref p'], M ++ [pq], _, _, upd_same, hlt, (hM.up (s3.tups.trans tl)).app (.cons ⟨p', z, rfl, tl _ _ p3, hz, ez, lz, hc⟩ .nil), fun r hr => ?_, by rw [List.length_append]; show ms.length + 1 ≤ i + 1; omega, ?_, hb0, rfl⟩
        · rcases List.mem_append.mp hr with hr | hr
          · exact hne r hr
          · rw [List.mem_singleton.mp hr]; exact nz
        · rw [et, paintAll_snoc, paintAll_snoc, ep]
    · rintro σ H2 ⟨s2, b0, lt, ms, M, o3, o4, u2, hlt, hM, hne, lm, ep, hb0, rfl⟩
      have eL : L.take xs.length = L := List.take_of_length_le (by rw [hL.len]; exact Nat.le_refl _)
      rw [eL] at ep
      rw [ep] at q'
      obtain ⟨ds, ld, hds, kds⟩ := hM.dats
      refine ⟨_, rfl, (by show 0 ≤ sizeLine; decide), fun le hle => ?_⟩
      have s3 := s2.trans (Same.new hle (.lst []))
      have u3 := (Same.new hle (.lst [])) _ _ u2
      have ue : upd H2 le (.lst []) le = some (.lst []) := upd_same
      have hM3 := hM.up (Same.new hle (.lst [])).tups
      obtain ⟨ds, ld, hds, kds⟩ := hM3.dats
      generalize upd H2 le (.lst []) = H3 at *
      refine ⟨_, _, .lst u3 kds, .lst ue .nil, paList_shaped hds, by decide, ?_⟩
      rcases cons_case ds with rfl | ⟨d0, dr, rfl⟩
      · have eM : M = [] := List.eq_nil_of_length_eq_zero ld.symm
        rw [eM] at q'
        exact ⟨_, rfl, iteT ⟨_, rfl, q' _ _ s3 (.col b0)⟩⟩
      have pm : 0 < M.length := by rw [← ld]; show 0 < dr.length + 1; omega
      refine ⟨_, rfl, iteF ?_⟩
      refine ⟨(by show 0 ≤ sizeLine; decide), fun lw hlw => ?_⟩
      have s4 := Same.new hlw (.lst [])
      have hM4 := hM3.up s4.tups
      have u4 := s4 _ _ u3
      have hlw0 : H lw = none := Same.none s3 hlw
      have s04 := s3.trans s4
      have w4 : upd H3 lw (.lst []) lw = some (.lst []) := upd_same
      have nlw : lt ≠ lw := ne_of_none u3 hlw
      generalize upd H3 lw (.lst []) = H4 at *
      have hn1 : 0 < n := by
        rcases Nat.eq_zero_or_pos n with h0 | h0
        · obtain ⟨p0, hp0⟩ : ∃ p0, M[0]? = some p0 := ⟨_, List.getElem?_eq_getElem pm⟩
          have h1 := (hM.ok p0 (List.mem_of_getElem? hp0)).2.1
          exact absurd (List.eq_nil_of_length_eq_zero (by omega)) (hne p0 (List.mem_of_getElem? hp0))
        · exact h0
      refine ⟨_, rfl, for_gen (fun j σ H5 => Same H H5 ∧ H5 lt = some (.lst ms) ∧ PasAt H5 n ms M ∧ ∃ (ts : List V) (o6 o7 : Option V), H5 lw = some (.lst ts) ∧ ts.length = j ∧ (∀ k v, ts[k]? = some v → TrAt H5 v (paintAll (.col b0) (subP k M))) ∧ σ = [some (.ref l), some (.int b0), some (.ref lt), o3, o4, some (.ref lw), o6, o7]) ⟨s04, u4, hM4, [], none, none, w4, rfl, fun k v h => (by simp at h), rfl⟩ ?_ ?_⟩
      · rintro j σ H5 hj ⟨s5, u5, hM5, ts, o6, o7, w5, lts, hts, rfl⟩
        have hj4 : j < 4 := by rw [show ("0123" : Str).length = 4 by decide +kernel] at hj; exact hj
        have ej : sgn ("0123" : Str) j = one j := four (P := fun d => sgn ("0123" : Str) d = one d) (by decide +kernel) (by decide +kernel) (by decide +kernel) (by decide +kernel) hj4
        rw [ej]
        refine ⟨_, rfl, (by show 2 ≤ sizeLine; decide), fun p0 hp0 => ?_⟩
        have s6 := Same.new hp0 (.tup [.str ("" : Str), .int b0])
        have v6 : upd H5 p0 (.tup [.str ("" : Str), .int b0]) p0 = some (.tup [.str ("" : Str), .int b0]) := upd_same
        generalize upd H5 p0 (.tup [.str ("" : Str), .int b0]) = H6 at *
        refine ⟨(by show 1 ≤ sizeLine; decide), fun la hla => ?_⟩
        have s7 := Same.new hla (.lst [.ref p0])
        have v7 := s7 _ _ v6
        have w7 : upd H6 la (.lst [.ref p0]) la = some (.lst [.ref p0]) := upd_same
        generalize upd H6 la (.lst [.ref p0]) = H7 at *
        have s57 := s6.trans s7
        have u7 := s57 _ _ u5
        have hM7 := hM5.up s57.tups
        have hms : ms.length ≤ 200 := by omega
        refine ⟨[.str (one j)], rfl, _, rfl, lt, rfl, ⟨_, SqL.of u7⟩, compCI_list ms (fun D i ys H' => Same H7 H' ∧ H' D = some (.lst ys) ∧ ys.length ≤ i ∧ PasAt H' (n - 1) ys (subP j (M.take i))) (small (by omega)) (fun D i ys H' h => SqL.of (h.1 _ _ u7)) (fun D i ys H' h => ⟨h.2.1, h.2.2.1⟩) (fun D hD => ⟨Same.new hD _, upd_same, Nat.le_refl _, .nil⟩) ?_ ?_ ?_ ?_ ?_⟩
        · rintro D i x ys H' hx hD ⟨c1, c2, c3, c4⟩
          obtain ⟨pq, epq, p, z, rfl, hp, hz, ez, lz, hc⟩ := hM7.get hx
          have et : M.take (i + 1) = M.take i ++ [pq] := by rw [List.take_add_one, epq]; rfl
          have nz := hne pq (List.mem_of_getElem? epq)
          have pz : 0 < z.length := by
            rcases Nat.eq_zero_or_pos z.length with h0 | h0
            · exact absurd (List.eq_nil_of_length_eq_zero (by rw [← ez, dig_len]; exact h0)) nz
            · exact h0
          have hs : z.length ≤ sizeLine := small (by omega)
          obtain ⟨e, he, e1, e2⟩ := sgn_one hz pz
          have epq2 : pq = (e :: dig (rst z), pq.2) := by rw [← e2, ← dig_rst pz, ez]
          have sub1 : subP j [pq] = if e = j then [(dig (rst z), pq.2)] else [] := by rw [epq2]; rfl
          refine ⟨p, _, rfl, SqT.of (c1 _ _ hp), rfl, _, _, rfl, _, _, rfl, rfl, rfl, ?_⟩
          refine ⟨_, rfl, z, 0, z.cps.getD 0 0, rfl, rfl, hs, at_zero pz, _, rfl, rfl, _, rfl, ite2 (fun c => ?_) (fun c => ?_)⟩
          · have c' : V.str (sgn z 0) = V.str (one j) := of_decide_eq_true c
            have c2' : sgn z 0 = one j := by injection c'
            rw [e1] at c2'
            have eej := one_inj c2'
            rw [if_pos eej] at sub1
            refine ⟨_, rfl, _, rfl, z, rfl, hs, _, rfl, (by show 2 ≤ sizeLine; decide), fun pn hpn => ?_⟩
            have er : Txt.slice z (some 1) none = rst z := slice_rst pz
            dsimp only
            rw [er]
            have sn := Same.new hpn (.tup [.str (rst z), .int pq.2])
            have uD := sn _ _ c2
            have un : upd H' pn (.tup [.str (rst z), .int pq.2]) pn = some (.tup [.str (rst z), .int pq.2]) := upd_same
            have tl := Tups.lst (ys := ys ++ [V.ref pn]) uD
            have rl := rst_len z
            refine ⟨uD, Same.set (c1.trans sn) hD _, upd_same, by rw [List.length_append]; show ys.length + 1 ≤ i + 1; omega, ?_⟩
            rw [et, subP_app, sub1]
            exact (c4.up (sn.tups.trans tl)).app (.cons ⟨pn, rst z, rfl, tl _ _ un, rst_isC hz, rfl, by omega, hc⟩ .nil)
          · have nej : ¬ e = j := fun h => c (decide_eq_true (by show V.str (sgn z 0) = V.str (one j); rw [e1, h]))
            rw [if_neg nej] at sub1
            refine ⟨c1, c2, by omega, ?_⟩
            rw [et, subP_app, sub1, List.append_nil]
            exact c4
        · rintro D ys H' hD ⟨c1, c2, c3, c4⟩
          have eM : M.take ms.length = M := List.take_of_length_le (by rw [hM.len]; exact Nat.le_refl _)
          rw [eM] at c4
          refine ⟨la, D, _, _, rfl, rfl, c1 _ _ w7, c2, small (by show 1 + ys.length ≤ _; omega), fun lc hlc => ?_⟩
          have s8 := Same.new hlc (.lst ([V.ref p0] ++ ys))
          have w8 : upd H' lc (.lst ([V.ref p0] ++ ys)) lc = some (.lst ([V.ref p0] ++ ys)) := upd_same
          generalize upd H' lc (.lst ([V.ref p0] ++ ys)) = H8 at *
          have s58 := s57.trans (c1.trans s8)
          have k8 : PasAt H8 (n - 1) ([V.ref p0] ++ ys) ([([], b0)] ++ subP j M) := PasAt.app (.cons ⟨p0, ("" : Str), rfl, (c1.trans s8) _ _ v7, empty_eq ▸ IsC.nil, dig_empty, by rw [show ("" : Str).length = 0 by decide +kernel]; omega, hb0⟩ .nil) (c4.up s8.tups)
          refine ⟨_, rfl, .inl ⟨rfl, _, SqL.of (s58 _ _ w5)⟩, _, rfl, lc, _, _, n - 1, rfl, w8, k8, by omega, by omega, by rw [List.length_append]; show 1 + ys.length + (n - 1) ≤ 200; omega, fun v H9 s9 hv => ?_⟩
          have s59 := s58.trans s9
          have w9 := s59 _ _ w5
          have tl := Tups.lst (ys := ts ++ [v]) w9
          refine ⟨lw, ts, _, rfl, rfl, w9, small1000 (by omega), Same.set (s5.trans s59) hlw0 _, by rw [upd_ne nlw]; exact s59 _ _ u5, hM5.up (s59.tups.trans tl), ts ++ [v], _, _, upd_same, by rw [List.length_append, lts]; rfl, fun k g hg => ?_, rfl⟩
          rcases Nat.lt_or_ge k ts.length with hk | hk
          · rw [List.getElem?_append_left hk] at hg
            exact (hts k g hg).up (s59.tups.trans tl)
          · rw [List.getElem?_append_right hk] at hg
            have hk0 : k - ts.length = 0 := by
              rcases h : k - ts.length with _ | k
              · rfl
              · rw [h] at hg; simp at hg
            rw [hk0] at hg
            have ek : k = j := by omega
            rw [ek, ← Option.some.inj hg]
            exact hv.up tl
        · rintro x σ H' R R' k ⟨a, xs, e1, h1, h2, y1, r1, f1, y2, r2, f2, f6, h⟩
          exact ⟨a, xs, e1, h1, h2, y1, r1, f1, y2, r2, f2, f6, k _ _ h⟩
        · rintro σ H' R R' k ⟨a1, e1, lo, e2, z, e3, hs, a2, e4, h1, h2⟩
          exact ⟨a1, e1, lo, e2, z, e3, hs, a2, e4, h1, fun p hp => k _ _ (h2 p hp)⟩
        · rintro σ H' R R' k ⟨a1, e1, z, i, c, e2, e3, hs, ha, a2, e4, e5, b, e6, h⟩
          exact ⟨a1, e1, z, i, c, e2, e3, hs, ha, a2, e4, e5, b, e6, k _ _ h⟩
      · rintro σ H5 ⟨s5, u5, hM5, ts, o6, o7, w5, lts, hts, rfl⟩
        obtain ⟨va, vb, vc, vd, rfl⟩ : ∃ a b c d, ts = [a, b, c, d] := by
          rw [show ("0123" : Str).length = 4 by decide +kernel] at lts
          match ts, lts with
          | [a, b, c, d], _ => exact ⟨a, b, c, d, rfl⟩
        have ka := hts 0 va rfl
        have kb := hts 1 vb rfl
        have kc := hts 2 vc rfl
        have kd := hts 3 vd rfl
        have okM := hM5.ok
        have dg : ∀ k, (paintAll (.col b0) (subP k M)).deep ≤ 60 := fun k => by
          have := (good_all (n := 40) (subP k M) (.col b0) (fun p hp => (subP_ok k M okM p hp).le (by omega)) (Good.col hb0)).deep
          omega
        refine ⟨_, rfl, lw, _, _, _, rfl, rfl, SqL.of w5, rfl, _, rfl, lw, _, _, _, rfl, rfl, SqL.of w5, rfl, _, rfl, lw, _, _, _, rfl, rfl, SqL.of w5, rfl, _, rfl, lw, _, _, _, rfl, rfl, SqL.of w5, rfl, va, vb, vc, vd, _, _, _, _, rfl, ka, kb, kc, kd, ⟨dg 0, dg 1, dg 2, dg 3⟩, fun v H6 s6 hv => q' v H6 (s5.trans s6) ?_⟩
        rw [paintAll_four M (.col b0) (fun p hp => ⟨hne p hp, (okM p hp).1⟩) good_norm]
        exact hv
end
end Qs


namespace Qs
open PySem L2
section
variable {P : Program} {w : World} {K : PySem.W.Frag} {mg : Str → Option Value} {base : Heap} {CX : CXT} {f : Addr} {fd : FuncData}
abbrev s_law_sheet : Stmt := top 43
theorem sc_law_sheet : FnScope ["_law_level", "_law_colour_here", "_law_paints_here", "_law_sheet_here", "_law_code_here", "_law_one"] ["_law_level", "_law_colour_here", "_law_paints_here"] (defScope s_law_sheet) := ⟨rfl, rfl, rfl, by decide +kernel, rfl, by decide +kernel, by decide +kernel⟩
def sp_law_sheet : Sp := fun vs H Q _ => ∃ (n : Nat) (c : Int) (l : Addr) (xs : List V) (L : List (List Nat × Int)), vs = [.int n, .int c, .ref l] ∧ H l = some (.lst xs) ∧ PasAt H n xs L ∧ n ≤ 40 ∧ (0 ≤ c ∧ c ≤ 35) ∧ ∀ v H', Same H H' → ShAt H' v n (paintAll (.col c) L) → Q v H'
theorem ok_law_sheet (T : Tx K mg) (q : Quiet CX) (F : FunD K "_law_sheet" "_law_sheet" s_law_sheet f fd .none) (C_plain : Fok P w K mg base CX 4 "plain" ["level", "colour"] [] sp_plain) (C_painted : Fok P w K mg base CX 44 "painted" ["sheet", "code", "colour"] [] sp_painted) : FnOk P w K mg base CX 45 f fd ["_law_level", "_law_colour_here", "_law_paints_here"] sp_law_sheet := by
  refine F.ok sc_law_sheet (fun vs H Q E h => ?_) (fun cdv A outer s H vs Q E hr h => ?_)
  · obtain ⟨_, _, _, _, _, rfl, _⟩ := h
    rfl
  obtain ⟨n, c, l, xs, L, rfl, hl, hL, hn, hc, q'⟩ := h
  refine ⟨_, (pss_cons (ps_set (i := 3) sc_law_sheet.nd rfl (Or.inl rfl) (pe_callF C_plain q hr (pa_cons (pv 0) (pa_cons (pv 1) pa_nil)))) (pss_cons (ps_for PassesOwn.never rfl (pi_list (pv 2)) (pg_tup rfl (pgs_cons (pg_name (i := 4) sc_law_sheet.nd rfl (Or.inl rfl)) (pgs_cons (pg_name (i := 5) sc_law_sheet.nd rfl (Or.inl rfl)) pgs_nil))) (pss_one (ps_set (i := 3) sc_law_sheet.nd rfl (Or.inl rfl) (pe_callF C_painted q hr (pa_cons (pv 3) (pa_cons (pv 4) (pa_cons (pv 5) pa_nil))))))) (pss_one (ps_ret (pv 3))))), ?_⟩
  refine ⟨_, rfl, _, rfl, (n : Int), c, rfl, ⟨by omega, by omega⟩, hc, fun ps H1 s1 hps => ?_⟩
  refine ⟨_, rfl, l, rfl, ⟨_, SqL.of (s1 _ _ hl)⟩, for_list (xs := xs) (fun i σ H2 => Same H H2 ∧ ∃ (v : V) (o4 o5 : Option V), ShAt H2 v n (paintAll (.col c) (L.take i)) ∧ σ = [some (.int n), some (.int c), some (.ref l), some v, o4, o5]) ⟨s1, .ref ps, none, none, ⟨ps, .int c, rfl, hps, .col c⟩, rfl⟩ (fun i σ H2 _ h => SqL.of (h.1 _ _ hl)) ?_ ?_⟩
  · rintro i u σ H2 hu ⟨s2, v, o4, o5, hv, rfl⟩
    obtain ⟨pq, epq, p, z, rfl, hp, hz, ez, lz, hc2⟩ := hL.get hu
    have et : L.take (i + 1) = L.take i ++ [pq] := by rw [List.take_add_one, epq]; rfl
    have gd := (good_all (L.take i) (.col c) (fun r hr => hL.ok r (List.mem_of_mem_take hr)) (Good.col (n := n) hc)).deep
    refine ⟨p, _, rfl, SqT.of (s2 _ _ hp), rfl, _, _, rfl, _, _, rfl, rfl, ?_⟩
    refine ⟨_, rfl, _, rfl, _, rfl, v, n, _, z, pq.2, rfl, hv, gd, hn, hz, lz, hc2.1, hc2.2, fun v' H3 s3 hv' => ⟨s2.trans s3, v', _, _, ?_, rfl⟩⟩
    rw [et, paintAll_snoc, ← ez]
    exact hv'
  · rintro σ H2 ⟨s2, v, o4, o5, hv, rfl⟩
    have eL : L.take xs.length = L := List.take_of_length_le (by rw [hL.len]; exact Nat.le_refl _)
    rw [eL] at hv
    exact ⟨_, rfl, q' v H2 s2 hv⟩
theorem either {H : Hp} {va vb : V} {t u : Tr} {σ : St} {Q : Bool → Hp → Prop} (h0 : σ[0]? = some (some va)) (h1 : σ[1]? = some (some vb)) (ht : TrAt H va t) (hu : TrAt H vb u) (h : Q (!(t.isCol && u.isCol)) H) :
    tOr (tB (tCB (rIsiT K "tuple") (tCons (tVar 0) (tCons (tC (V.ty "tuple")) tNil)))) (tB (tCB (rIsiT K "tuple") (tCons (tVar 1) (tCons (tC (V.ty "tuple")) tNil)))) σ H Q := by
  cases ht with
  | four e _ _ _ _ => exact ⟨_, h0, _, _, _, rfl, .tup e, kit_tt, _, rfl, iteT h⟩
  | col i =>
    cases hu with
    | four e _ _ _ _ => exact ⟨_, h0, _, _, _, rfl, .int i, kit_it, _, rfl, iteF ⟨_, h1, _, _, _, rfl, .tup e, kit_tt, _, rfl, h⟩⟩
    | col j => exact ⟨_, h0, _, _, _, rfl, .int i, kit_it, _, rfl, iteF ⟨_, h1, _, _, _, rfl, .int j, kit_it, _, rfl, h⟩⟩
theorem either_mono {H : Hp} {σ : St} {Q Q' : Bool → Hp → Prop} (k : ∀ b H1, Q b H1 → Q' b H1)
    (h : tOr (tB (tCB (rIsiT K "tuple") (tCons (tVar 0) (tCons (tC (V.ty "tuple")) tNil)))) (tB (tCB (rIsiT K "tuple") (tCons (tVar 1) (tCons (tC (V.ty "tuple")) tNil)))) σ H Q) :
    tOr (tB (tCB (rIsiT K "tuple") (tCons (tVar 0) (tCons (tC (V.ty "tuple")) tNil)))) (tB (tCB (rIsiT K "tuple") (tCons (tVar 1) (tCons (tC (V.ty "tuple")) tNil)))) σ H Q' := by
  obtain ⟨v0, e0, x, ty, b, e1, e2, e3, c, e4, h⟩ := h
  refine ⟨v0, e0, x, ty, b, e1, e2, e3, c, e4, ?_⟩
  cases c with
  | true => exact iteT (k _ _ (by simpa using h))
  | false =>
    rw [if_neg (by decide)] at h
    obtain ⟨v1, f0, x', ty', b', f1, f2, f3, c', f4, h⟩ := h
    exact iteF ⟨v1, f0, x', ty', b', f1, f2, f3, c', f4, k _ _ h⟩
abbrev s_law_parts : Stmt := top 40
theorem sc_law_parts : FnScope ["_law_tree"] ["_law_tree"] (defScope s_law_parts) := ⟨rfl, rfl, rfl, by decide +kernel, rfl, by decide +kernel, by decide +kernel⟩
theorem ok_law_parts (T : Tx K mg) (F : FunD K "_law_parts" "_law_parts" s_law_parts f fd .none) : FnOk P w K mg base CX 1 f fd ["_law_tree"] sp_parted := by
  refine F.ok sc_law_parts (fun vs H Q E h => ?_) (fun cdv A outer s H vs Q E hr h => ?_)
  · obtain ⟨_, _, rfl, _⟩ := h
    rfl
  obtain ⟨v, t, rfl, ht, q'⟩ := h
  refine ⟨_, (pss_cons (ps_if (pt_val (pe_callB (call_isiT "tuple") rfl T.b_isinstance bb_isinstance (pa_cons (pv 0) (pa_cons (pe_bty T.b_tuple bt_tuple) pa_nil)))) (pss_one (ps_ret (pv 0))) pss_nil) (pss_one (ps_ret (pe_tupx (pax_c (pv 0) (pax_c (pv 0) (pax_c (pv 0) (pax_c (pv 0) pax_nil)))))))), ?_⟩
  cases ht with
  | four e a b c d =>
    refine ⟨_, rfl, _, _, _, rfl, .tup e, kit_tt, _, rfl, iteT ⟨_, rfl, ?_⟩⟩
    exact q' _ _ _ _ _ H (Same.refl H) e a b c d
  | col i =>
    refine ⟨_, rfl, _, _, _, rfl, .int i, kit_it, _, rfl, iteF ?_⟩
    exact ⟨_, rfl, _, rfl, _, rfl, _, rfl, (by show 4 ≤ sizeLine; decide), fun p hp => q' p _ _ _ _ _ (Same.new hp _) upd_same (.col i) (.col i) (.col i) (.col i)⟩
abbrev s_law_first : Stmt := top 41
theorem sc_law_first : FnScope ["_law_one", "_law_other", "_law_level", "_law_x", "_law_y", "_law_k", "_law_pair"] ["_law_one", "_law_other", "_law_level"] (defScope s_law_first) := ⟨rfl, rfl, rfl, by decide +kernel, rfl, by decide +kernel, by decide +kernel⟩
def sp_law_first : Sp := fun vs H Q _ => ∃ (a b : V) (t u : Tr) (n : Nat), vs = [a, b, .int (n : Int)] ∧ TrAt H a t ∧ TrAt H b u ∧ Good n t ∧ Good n u ∧ n ≤ 40 ∧ t ≠ u ∧
  ∀ p H', Same H H' → H' p = some (.tup [.int ((sqX n (fu n t u) : Nat) : Int), .int ((sqY n (fu n t u) : Nat) : Int)]) → Q (.ref p) H'
theorem ok_law_first (T : Tx K mg) (q : Quiet CX) (F : FunD K "_law_first" "_law_first" s_law_first f fd .none) (C__law_parts : Fok P w K mg base CX 1 "_law_parts" ["_law_tree"] [] sp_parted) : FnOk P w K mg base CX 2 f fd ["_law_one", "_law_other", "_law_level"] sp_law_first := by
  refine F.ok sc_law_first (fun vs H Q E h => ?_) (fun cdv A outer s H vs Q E hr h => ?_)
  · obtain ⟨_, _, _, _, _, rfl, _⟩ := h
    rfl
  obtain ⟨va, vb, t, u, n, rfl, ht, hu, gt, gu, hn, ne, q'⟩ := h
  refine ⟨_, (pss_cons (ps_set (i := 3) sc_law_first.nd rfl (Or.inl rfl) pe_int) (pss_cons (ps_set (i := 4) sc_law_first.nd rfl (Or.inl rfl) pe_int) (pss_cons (ps_while PassesOwn.never (PW.pt (pw_or (pt_val (pe_callB (call_isiT "tuple") rfl T.b_isinstance bb_isinstance (pa_cons (pv 0) (pa_cons (pe_bty T.b_tuple bt_tuple) pa_nil)))) (pw_or1 (pt_val (pe_callB (call_isiT "tuple") rfl T.b_isinstance bb_isinstance (pa_cons (pv 1) (pa_cons (pe_bty T.b_tuple bt_tuple) pa_nil))))))) (pss_cons (ps_set (i := 2) sc_law_first.nd rfl (Or.inl rfl) (pe_op op_sub (pv 2) pe_int)) (pss_one (ps_for PassesOwn.never rfl (pi_enumerate rfl T.b_enumerate (pa_cons (pe_listZ rfl rfl T.b_list rfl T.b_zip (pa_cons (pe_callF C__law_parts q hr (pa_cons (pv 0) pa_nil)) (pa_cons (pe_callF C__law_parts q hr (pa_cons (pv 1) pa_nil)) pa_nil))) pa_nil)) (pg_tup rfl (pgs_cons (pg_name (i := 5) sc_law_first.nd rfl (Or.inl rfl)) (pgs_cons (pg_name (i := 6) sc_law_first.nd rfl (Or.inl rfl)) pgs_nil))) (pss_one (ps_if (pt_cmpR (op_neD hr) (pe_ix ix_tup (pv 6) pe_int (fun _ _ => rfl)) (pe_ix ix_tup (pv 6) pe_int (fun _ _ => rfl)) (nomark _)) (pss_cons (ps_set (i := 3) sc_law_first.nd rfl (Or.inl rfl) (pe_op op_add (pv 3) (pe_op op_shl (pe_op op_mod (pv 5) pe_int) (pv 2)))) (pss_cons (ps_set (i := 4) sc_law_first.nd rfl (Or.inl rfl) (pe_op op_add (pv 4) (pe_op op_shl (pe_op op_fdivW (pv 5) pe_int) (pv 2)))) (pss_cons (ps_set (i := 0) sc_law_first.nd rfl (Or.inl rfl) (pe_ix ix_tup (pv 6) pe_int (fun _ _ => rfl))) (pss_cons (ps_set (i := 1) sc_law_first.nd rfl (Or.inl rfl) (pe_ix ix_tup (pv 6) pe_int (fun _ _ => rfl))) (pss_one ps_break))))) pss_nil)))))) (pss_one (ps_ret (pe_tupx (pax_c (pv 3) (pax_c (pv 4) pax_nil)))))))), ?_⟩
  refine while_by (fun σ H2 => Same H H2 ∧ ∃ (a b : V) (t' u' : Tr) (k : Nat) (ds : List Nat) (o5 o6 : Option V), TrAt H2 a t' ∧ TrAt H2 b u' ∧ Good k t' ∧ Good k u' ∧ t' ≠ u' ∧ ds.length + k = n ∧ fu n t u = ds ++ fu k t' u' ∧ σ = [some a, some b, some (.int (k : Int)), some (.int ((sqX n ds : Nat) : Int)), some (.int ((sqY n ds : Nat) : Int)), o5, o6]) (fun σ _ => match σ with | _ :: _ :: some (.int l) :: _ => l.toNat | _ => 0) ⟨Same.refl H, va, vb, t, u, n, [], none, none, ht, hu, gt, gu, ne, by simp, rfl, rfl⟩ ?_ ?_
  · rintro σ H2 ⟨s2, a, b, t', u', k, ds, o5, o6, ha, hb, ga, gb, ne', lk, ef, rfl⟩
    refine either (K := K) (va := a) (vb := b) rfl rfl ha hb ?_
    have two : 2 ≤ sizeLine := by decide
    by_cases hc : t'.isCol = true ∧ u'.isCol = true
    · rw [hc.1, hc.2]
      rw [fu_col _ hc.1 hc.2, List.append_nil] at ef
      refine iteF ⟨_, rfl, _, rfl, two, fun p hp => q' p _ (s2.trans (Same.new hp _)) ?_⟩
      rw [upd_same, ef]
    have hb' : (!(t'.isCol && u'.isCol)) = true := by
      cases h1 : t'.isCol <;> cases h2 : u'.isCol <;> simp_all
    rw [hb']
    refine iteT ?_
    obtain ⟨k, rfl⟩ : ∃ k', k = k' + 1 := by
      rcases k with _ | k
      · refine absurd ⟨?_, ?_⟩ hc
        · cases t' with
          | col i => rfl
          | four => exact ga.elim
        · cases u' with
          | col i => rfl
          | four => exact gb.elim
      · exact ⟨k, rfl⟩
    have el : ((k + 1 : Nat) : Int) - 1 = (k : Int) := by omega
    refine ⟨_, rfl, _, _, rfl, rfl, ?_⟩
    dsimp only
    rw [el]
    refine ⟨_, rfl, a, t', rfl, ha, fun p1 a1 b1 c1 d1 H3 s3 hp1 ja1 jb1 jc1 jd1 => ?_⟩
    refine ⟨_, rfl, b, u', rfl, hb.up s3.tups, fun p2 a2 b2 c2 d2 H4 s4 hp2 ja2 jb2 jc2 jd2 => ?_⟩
    refine ⟨p1, p2, .t, .t, _, _, rfl, SqT.of (s4 _ _ hp1), SqT.of hp2, (by show 4 ≤ 1000; decide), fun S H5 us s5 hS0 hS hl hu => ?_⟩
    have hl4 : us.length = 4 := hl
    refine ⟨S, rfl, ⟨_, SqL.of hS⟩, for_enum (xs := us) (fun (i : Nat) σ H6 => Same H5 H6 ∧ (∀ j, j < i → qk t' j = qk u' j) ∧ ∃ (o5 o6 : Option V), σ = [some a, some b, some (.int (k : Int)), some (.int ((sqX n ds : Nat) : Int)), some (.int ((sqY n ds : Nat) : Int)), o5, o6]) ⟨Same.refl _, (fun j hj => absurd hj (Nat.not_lt_zero _)), o5, o6, rfl⟩ (fun i σ H6 h => SqL.of (h.1 _ _ hS)) ?_ ?_⟩
    · rintro i w p σ H6 hi ⟨s6, be, o5, o6, rfl⟩ hp
      obtain ⟨pp, x, y, rfl, ex, ey, hpp⟩ := hu i w hi
      have hi4 : i < 4 := by have := (List.getElem?_eq_some_iff.mp hi).1; omega
      have s7 := Same.new hp (.tup [.int (i : Int), .ref pp])
      have u7 : upd H6 p (.tup [.int (i : Int), .ref pp]) p = some (.tup [.int (i : Int), .ref pp]) := upd_same
      generalize upd H6 p (.tup [.int (i : Int), .ref pp]) = H7 at *
      have s57 := s6.trans s7
      have hpp7 := s57 _ _ hpp
      have s47 := s5.trans s57
      have hx : TrAt H7 x (qk t' i) := by
        have up := (s4.trans s47).tups
        rcases i with _ | _ | _ | _ | i
        · cases ex; exact ja1.up up
        · cases ex; exact jb1.up up
        · cases ex; exact jc1.up up
        · cases ex; exact jd1.up up
        · omega
      have hy : TrAt H7 y (qk u' i) := by
        have up := s47.tups
        rcases i with _ | _ | _ | _ | i
        · cases ey; exact ja2.up up
        · cases ey; exact jb2.up up
        · cases ey; exact jc2.up up
        · cases ey; exact jd2.up up
        · omega
      have gx := ga.q i
      have gy := gb.q i
      have dx := gx.deep
      have dy := gy.deep
      refine ⟨p, _, rfl, SqT.of u7, rfl, _, _, rfl, _, _, rfl, rfl, ?_⟩
      refine ⟨_, rfl, pp, _, _, x, rfl, rfl, SqT.of hpp7, rfl, _, rfl, pp, _, _, y, rfl, rfl, SqT.of hpp7, rfl, _, _, hx.dat, hy.dat, Tr.shaped (by omega), Tr.shaped (by omega), ?_⟩
      rw [Tr.eqv]
      refine ⟨_, rfl, ite2 (fun c => ?_) (fun c => ?_)⟩
      · have c' : qk t' i ≠ qk u' i := by simpa using c
        have ek := fk_eq ga gb be c'
        have cpow : ∀ z : Int, z.natAbs < 2 ^ 64 → CPow z (k : Int) := fun z h => ⟨by omega, by omega, h⟩
        have px : ∀ e : Nat, (e : Int) * 2 ^ ((k : Int)).toNat = ((e * 2 ^ k : Nat) : Int) := fun e => by rw [Int.toNat_natCast]; simp
        have ln : n - ds.length - 1 = k := by omega
        have eX : ((sqX n ds : Nat) : Int) + (i : Int) % 2 * 2 ^ ((k : Int)).toNat = ((sqX n (ds ++ [i]) : Nat) : Int) := by
          rw [show (i : Int) % 2 = ((i % 2 : Nat) : Int) by omega, px, sqX_snoc, ln]; omega
        have eY : ((sqY n ds : Nat) : Int) + (i : Int) / 2 * 2 ^ ((k : Int)).toNat = ((sqY n (ds ++ [i]) : Nat) : Int) := by
          rw [show (i : Int) / 2 = ((i / 2 : Nat) : Int) by omega, px, sqY_snoc, ln]; omega
        refine ⟨_, rfl, _, rfl, _, _, rfl, rfl, (by show (0 : Int) < 2; decide), _, rfl, _, _, rfl, rfl, cpow _ (by omega), _, _, rfl, rfl, ?_⟩
        refine ⟨_, rfl, _, rfl, _, _, rfl, rfl, cdivW (by decide) (by decide), _, rfl, _, _, rfl, rfl, cpow _ (by omega), _, _, rfl, rfl, ?_⟩
        refine ⟨_, rfl, pp, _, _, x, rfl, rfl, SqT.of hpp7, rfl, _, rfl, pp, _, _, y, rfl, rfl, SqT.of hpp7, rfl, ?_⟩
        refine ⟨⟨s2.trans (s3.trans (s4.trans s47)), x, y, qk t' i, qk u' i, k, ds ++ [i], some (V.int (i : Int)), some (V.ref pp), hx, hy, gx, gy, c', by rw [List.length_append]; show ds.length + 1 + k = n; omega, ?_, ?_⟩, ?_⟩
        · rw [ef, fu_step k hc, ek, List.append_assoc]; rfl
        · show [some x, some y, some (V.int (k : Int)), some (V.int (((sqX n ds : Nat) : Int) + (i : Int) % 2 * 2 ^ ((k : Int)).toNat)), some (V.int (((sqY n ds : Nat) : Int) + (i : Int) / 2 * 2 ^ ((k : Int)).toNat)), some (V.int (i : Int)), some (V.ref pp)] = _
          rw [eX, eY]
        · show ((k : Int)).toNat < (((k + 1 : Nat) : Int)).toNat
          omega
      · have c' : qk t' i = qk u' i := by simpa using c
        refine ⟨s57, fun j hj => ?_, _, _, rfl⟩
        rcases Nat.lt_or_ge j i with h | h
        · exact be j h
        · rw [show j = i by omega]; exact c'
    · rintro σ H6 ⟨s6, be, o5, o6, rfl⟩
      refine absurd ?_ ne'
      rw [← gath_self ga, ← gath_self gb, be 0 (by omega), be 1 (by omega), be 2 (by omega), be 3 (by omega)]
  · rintro σ H' R R' k h
    exact either_mono k h
abbrev s_law_right : Stmt := top 42
theorem sc_law_right : FnScope ["_law_found", "_law_one", "_law_other", "_law_level", "_law_number"] ["_law_found", "_law_one", "_law_other", "_law_level"] (defScope s_law_right) := ⟨rfl, rfl, rfl, by decide +kernel, rfl, by decide +kernel, by decide +kernel⟩
def sp_law_right : Sp := fun vs H Q _ => ∃ (x a b : V) (t u : Tr) (n : Nat), vs = [x, a, b, .int (n : Int)] ∧ TrAt H a t ∧ TrAt H b u ∧ Good n t ∧ Good n u ∧ n ≤ 40 ∧
  UnAt H x n t u ∧ ∀ H', Same H H' → Q (.bl true) H'
theorem ok_law_right (T : Tx K mg) (q : Quiet CX) (F : FunD K "_law_right" "_law_right" s_law_right f fd .none) (C__law_first : Fok P w K mg base CX 2 "_law_first" ["_law_one", "_law_other", "_law_level"] [] sp_law_first) : FnOk P w K mg base CX 3 f fd ["_law_found", "_law_one", "_law_other", "_law_level"] sp_law_right := by
  refine F.ok sc_law_right (fun vs H Q E h => ?_) (fun cdv A outer s H vs Q E hr h => ?_)
  · obtain ⟨_, _, _, _, _, _, rfl, _⟩ := h
    rfl
  obtain ⟨x, va, vb, t, u, n, rfl, ht, hu, gt, gu, hn, hx, q'⟩ := h
  refine ⟨_, (pss_cons (ps_if (pt_cmpR (op_eqD hr) (pv 1) (pv 2) (nomark _)) (pss_one (ps_ret (pe_cmpR op_isN (pv 0) pe_non (nomark _)))) pss_nil) (pss_cons (ps_if (PW.pt (pw_or (pt_not (pt_val (pe_callB (call_isiT "tuple") rfl T.b_isinstance bb_isinstance (pa_cons (pv 0) (pa_cons (pe_bty T.b_tuple bt_tuple) pa_nil))))) (pw_or1 (pt_cmpR op_ne (pe_callB call_len rfl T.b_len bb_len (pa_cons (pv 0) pa_nil)) pe_int (nomark _))))) (pss_one (ps_ret pe_bl)) pss_nil) (pss_cons (ps_for PassesOwn.never rfl (pi_tup (pv 0)) (pg_name (i := 4) sc_law_right.nd rfl (Or.inl rfl)) (pss_one (ps_if (PW.pt (pw_or (pt_not (pt_val (pe_callB (call_isiT "int") rfl T.b_isinstance bb_isinstance (pa_cons (pv 4) (pa_cons (pe_bty T.b_int bt_int) pa_nil))))) (pw_or1 (pt_val (pe_callB (call_isiT "bool") rfl T.b_isinstance bb_isinstance (pa_cons (pv 4) (pa_cons (pe_bty T.b_bool bt_bool) pa_nil))))))) (pss_one (ps_ret pe_bl)) pss_nil))) (pss_one (ps_ret (pe_cmpR (op_eqT hr) (pv 0) (pe_callF C__law_first q hr (pa_cons (pv 1) (pa_cons (pv 2) (pa_cons (pv 3) pa_nil)))) (nomark _))))))), ?_⟩
  have dt := gt.deep
  have du := gu.deep
  refine ⟨_, rfl, _, rfl, _, _, ht.dat, hu.dat, Tr.shaped (by omega), Tr.shaped (by omega), ?_⟩
  rw [Tr.eqv]
  refine ⟨_, rfl, ite2 (fun c => ?_) (fun c => ?_)⟩
  · have c' : t = u := by simpa using c
    rcases hx with ⟨_, rfl⟩ | ⟨ne, _⟩
    · refine ⟨_, rfl, rfl, ?_⟩
      rw [show decide (V.non = V.non) = true from decide_eq_true rfl]
      exact q' H (Same.refl H)
    · exact absurd c' ne
  have c' : t ≠ u := by simpa using c
  rcases hx with ⟨e, _⟩ | ⟨ne, p, rfl, hp⟩
  · exact absurd e c'
  refine ⟨_, rfl, _, _, _, rfl, .tup hp, kit_tt, _, rfl, iteF ?_⟩
  refine ⟨_, rfl, _, _, rfl, .inr ⟨_, SqT.of hp, rfl⟩, rfl, _, rfl, iteNS rfl ?_⟩
  refine ⟨_, rfl, p, rfl, ⟨_, SqT.of hp⟩, for_tup (xs := [.int ((sqX n (fu n t u) : Nat) : Int), .int ((sqY n (fu n t u) : Nat) : Int)]) (fun i σ H2 => H2 = H ∧ ∃ o : Option V, σ = [some (.ref p), some va, some vb, some (.int (n : Int)), o]) ⟨rfl, none, rfl⟩ (fun i σ H2 _ h => SqT.of (by rw [h.1]; exact hp)) ?_ ?_⟩
  · rintro i x σ H2 hx ⟨rfl, o, rfl⟩
    obtain ⟨z, rfl⟩ : ∃ z : Int, x = .int z := by
      rcases i with _ | _ | i
      · exact ⟨_, (Option.some.inj hx).symm⟩
      · exact ⟨_, (Option.some.inj hx).symm⟩
      · simp at hx
    exact ⟨_, rfl, _, _, _, rfl, .int _, kit_ii, _, rfl, iteF ⟨_, rfl, _, _, _, rfl, .int _, kit_ib, _, rfl, iteF ⟨rfl, _, rfl⟩⟩⟩
  · rintro σ H2 ⟨rfl, o, rfl⟩
    refine ⟨_, rfl, _, rfl, _, rfl, _, rfl, va, vb, t, u, n, rfl, ht, hu, gt, gu, hn, c', fun p2 H3 s3 hp2 => ?_⟩
    refine ⟨p, p2, _, _, rfl, rfl, SqT.of (s3 _ _ hp), SqT.of hp2, rfl, rfl, ?_⟩
    have e := eqLV_ints [((sqX n (fu n t u) : Nat) : Int), ((sqY n (fu n t u) : Nat) : Int)] [((sqX n (fu n t u) : Nat) : Int), ((sqY n (fu n t u) : Nat) : Int)]
    rw [decide_eq_true rfl] at e
    have e' : eqLV [V.int ((sqX n (fu n t u) : Nat) : Int), V.int ((sqY n (fu n t u) : Nat) : Int)] [V.int ((sqX n (fu n t u) : Nat) : Int), V.int ((sqY n (fu n t u) : Nat) : Int)] = true := e
    rw [e']
    exact q' H3 s3
end
end Qs


namespace Qs
open PySem L2
theorem cutV_mem {xs : List V} {lo hi : Option Int} {u : V} (h : u ∈ cutV xs lo hi) : u ∈ xs := by
  unfold cutV at h
  exact List.mem_of_mem_drop (List.mem_of_mem_take h)
theorem cutV_le (xs : List V) (lo hi : Option Int) : (cutV xs lo hi).length ≤ xs.length := by
  unfold cutV
  rw [List.length_take, List.length_drop]
  omega
section
variable {P : Program} {w : World} {K : PySem.W.Frag} {mg : Str → Option Value} {base : Heap} {CX : CXT} {f : Addr} {fd : FuncData}
abbrev s_law : Stmt := top 44
theorem sc_law : FnScope ["_law_script", "_law_level", "_law_colour_here", "_law_paints_here", "_law_others", "_law_one", "_law_two", "_law_tree", "_law_turned"] ["_law_script"] (defScope s_law) := ⟨rfl, rfl, rfl, by decide +kernel, rfl, by decide +kernel, by decide +kernel⟩
def sp_law (K : PySem.W.Frag) : Sp := fun vs H Q _ => ∃ (a : Addr) (ns : List Int), vs = [.ref a] ∧ SqL K H a (ns.map V.int) ∧ ns.length ≤ 63 ∧ ∀ H', Q (.bl true) H'
theorem ok_law (T : Tx K mg) (q : Quiet CX) (F : FunD K "law" "law" s_law f fd .none) (C__law_at : Fok P w K mg base CX 1 "_law_at" ["_law_script", "_law_k"] [] (sp_law_at K)) (C__law_colour : Fok P w K mg base CX 1 "_law_colour" ["_law_cell"] [] sp_law_colour) (C__law_paints : Fok P w K mg base CX 3 "_law_paints" ["_law_script", "_law_first_here", "_law_most", "_law_level"] [] (sp_law_paints K)) (C__law_sheet : Fok P w K mg base CX 45 "_law_sheet" ["_law_level", "_law_colour_here", "_law_paints_here"] [] sp_law_sheet)
    (C__law_tree_by : Fok P w K mg base CX 43 "_law_tree_by" ["_law_paints_here"] [] (sp_law_tree_by 41)) (C__law_right : Fok P w K mg base CX 3 "_law_right" ["_law_found", "_law_one", "_law_other", "_law_level"] [] sp_law_right) (C_unlike : Fok P w K mg base CX 44 "unlike" ["one", "other"] [] sp_unlike) : FnOk P w K mg base CX 46 f fd ["_law_script"] (sp_law K) := by
  refine F.ok sc_law (fun vs H Q E h => ?_) (fun cdv A outer s H vs Q E hr h => ?_)
  · obtain ⟨_, _, rfl, _⟩ := h
    rfl
  obtain ⟨a, ns, rfl, hS, h63, q'⟩ := h
  refine ⟨_, (pss_cons (ps_set (i := 1) sc_law.nd rfl (Or.inl rfl) (pe_op op_mod (pe_op op_add (pe_callF C__law_at q hr (pa_cons (pv 0) (pa_cons pe_int pa_nil))) pe_int) pe_int)) (pss_cons (ps_set (i := 2) sc_law.nd rfl (Or.inl rfl) (pe_callF C__law_colour q hr (pa_cons (pe_op op_fdivW (pe_callF C__law_at q hr (pa_cons (pv 0) (pa_cons pe_int pa_nil))) pe_int) pa_nil))) (pss_cons (ps_set (i := 3) sc_law.nd rfl (Or.inl rfl) (pe_callF C__law_paints q hr (pa_cons (pv 0) (pa_cons pe_int (pa_cons pe_int (pa_cons (pv 1) pa_nil)))))) (pss_cons (ps_set (i := 4) sc_law.nd rfl (Or.inl rfl) (pe_callF C__law_paints q hr (pa_cons (pv 0) (pa_cons pe_int (pa_cons pe_int (pa_cons (pv 1) pa_nil)))))) (pss_cons (ps_cut (ps_if (pt_cmpR op_gt (pe_op op_mod (pe_callF C__law_at q hr (pa_cons (pv 0) (pa_cons pe_int pa_nil))) pe_int) pe_int (nomark _)) (pss_one (ps_set (i := 4) sc_law.nd rfl (Or.inl rfl) (pe_op op_cat (pv 3) (pe_slice sl_list (pv 4) po_none (po_some (pe_op op_mod (pe_callF C__law_at q hr (pa_cons (pv 0) (pa_cons pe_int pa_nil))) pe_int)))))) pss_nil)) (pss_cons (ps_set (i := 5) sc_law.nd rfl (Or.inl rfl) (pe_callF C__law_sheet q hr (pa_cons (pv 1) (pa_cons (pv 2) (pa_cons (pv 3) pa_nil))))) (pss_cons (ps_set (i := 6) sc_law.nd rfl (Or.inl rfl) (pe_callF C__law_sheet q hr (pa_cons (pv 1) (pa_cons (pv 2) (pa_cons (pv 4) pa_nil))))) (pss_cons (ps_set (i := 7) sc_law.nd rfl (Or.inl rfl) (pe_callF C__law_tree_by q hr (pa_cons (pe_op op_cat (pe_lstx (pax_c (pe_tupx (pax_c pe_str (pax_c (pv 2) pax_nil))) pax_nil)) (pv 3)) pa_nil))) (pss_cons (ps_set (i := 8) sc_law.nd rfl (Or.inl rfl) (pe_callF C__law_tree_by q hr (pa_cons (pe_op op_cat (pe_lstx (pax_c (pe_tupx (pax_c pe_str (pax_c (pv 2) pax_nil))) pax_nil)) (pv 4)) pa_nil))) (pss_cons (ps_if (PW.pt (pw_or (pt_not (pt_val (pe_callF C__law_right q hr (pa_cons (pe_callF C_unlike q hr (pa_cons (pv 5) (pa_cons (pv 6) pa_nil))) (pa_cons (pv 7) (pa_cons (pv 8) (pa_cons (pv 1) pa_nil))))))) (pw_or1 (pt_not (pt_val (pe_callF C__law_right q hr (pa_cons (pe_callF C_unlike q hr (pa_cons (pv 6) (pa_cons (pv 5) pa_nil))) (pa_cons (pv 8) (pa_cons (pv 7) (pa_cons (pv 1) pa_nil)))))))))) (pss_one (ps_ret pe_bl)) pss_nil) (pss_one (ps_ret (pe_and (pe_cmpR op_isN (pe_callF C_unlike q hr (pa_cons (pv 5) (pa_cons (pv 5) pa_nil))) pe_non (nomark _)) (pe_one (pe_cmpR op_isN (pe_callF C_unlike q hr (pa_cons (pv 6) (pa_cons (pe_callF C__law_sheet q hr (pa_cons (pv 1) (pa_cons (pv 2) (pa_cons (pv 4) pa_nil)))) pa_nil))) pe_non (nomark _)))))))))))))))), ?_⟩
  obtain ⟨n, hn, en⟩ : ∃ n : Nat, n ≤ 40 ∧ (cell ns 0 + 2) % 41 = (n : Int) := ⟨((cell ns 0 + 2) % 41).toNat, by omega, by omega⟩
  refine ⟨_, rfl, a, ns, 0, rfl, hS, h63, _, _, rfl, rfl, _, _, rfl, rfl, (by show (0 : Int) < 41; decide), ?_⟩
  rw [show (fun i j : Int => V.int (i % j)) (cell ns 0 + 2) 41 = V.int (n : Int) from congrArg V.int en]
  refine ⟨_, rfl, a, ns, 0, rfl, hS, h63, _, _, rfl, rfl, cdivW (by decide) (by decide), cell ns 0 / 41, rfl, fun c0 hc0 hc1 => ?_⟩
  refine ⟨_, rfl, _, rfl, a, ns, 2, 8, n, rfl, by decide, hS, h63, by decide, hn, fun l1 xs1 H1 s1 hl1 u1 lx1 hx1 => ?_⟩
  obtain ⟨L1, hL1⟩ := PasAt.of hx1
  refine ⟨_, rfl, _, rfl, a, ns, 18, 8, n, rfl, by decide, s1.seq hS, h63, by decide, hn, fun l2 xs2 H2 s2 hl2 u2 lx2 hx2 => ?_⟩
  obtain ⟨M2, hM2⟩ := PasAt.of hx2
  have w2 := s1.trans s2
  have u12 := s2 _ _ u1
  have hL12 := hL1.up s2.tups
  refine ⟨fun σ H3 => Same H2 H3 ∧ ∃ (l3 : Addr) (xs3 : List V) (L3 : List (List Nat × Int)), H3 l3 = some (.lst xs3) ∧ PasAt H3 n xs3 L3 ∧ xs3.length ≤ 64 ∧ σ = [some (.ref a), some (.int (n : Int)), some (.int c0), some (.ref l1), some (.ref l3), none, none, none, none], ?_, ?_⟩
  · refine ⟨_, rfl, a, ns, 1, rfl, w2.seq hS, h63, _, _, rfl, rfl, (by show (0 : Int) < 4; decide), _, _, rfl, rfl, _, rfl, ite2 (fun _ => ?_) (fun _ => ⟨Same.refl _, l2, xs2, M2, u2, hM2, by omega, rfl⟩)⟩
    refine ⟨_, rfl, _, rfl, _, rfl, a, ns, 1, rfl, w2.seq hS, h63, _, _, rfl, rfl, (by show (0 : Int) < 4; decide), _, rfl, l2, xs2, rfl, SqL.of u2, fun ls hls => ?_⟩
    dsimp only
    have lc := cutV_le xs2 none (some (cell ns 1 % 4))
    have mc : ∀ u ∈ cutV xs2 none (some (cell ns 1 % 4)), PaAt H2 u n := fun u hu => hx2 u (cutV_mem hu)
    generalize cutV xs2 none (some (cell ns 1 % 4)) = cs at *
    have sls := Same.new hls (.lst cs)
    have uls : upd H2 ls (.lst cs) ls = some (.lst cs) := upd_same
    generalize upd H2 ls (.lst cs) = Hs at *
    obtain ⟨Mc, hMc⟩ := PasAt.of mc
    refine ⟨l1, ls, _, _, rfl, rfl, sls _ _ u12, uls, small (by omega), fun l3 hl3 => ?_⟩
    have s3 := sls.trans (Same.new hl3 (.lst (xs1 ++ cs)))
    exact ⟨s3, l3, _, _, upd_same, (hL12.up s3.tups).app (hMc.up s3.tups), by rw [List.length_append]; omega, rfl⟩
  rintro σ H3 ⟨s3, l3, xs3, L3, u3, hL3, lx3, rfl⟩
  have u13 := s3 _ _ u12
  have hL13 := hL12.up s3.tups
  refine ⟨_, rfl, _, rfl, _, rfl, n, c0, l1, xs1, L1, rfl, u13, hL13, hn, ⟨hc0, hc1⟩, fun v1 H4 s4 hv1 => ?_⟩
  refine ⟨_, rfl, _, rfl, _, rfl, n, c0, l3, xs3, L3, rfl, s4 _ _ u3, hL3.up s4.tups, hn, ⟨hc0, hc1⟩, fun v2 H5 s5 hv2 => ?_⟩
  have two : 2 ≤ sizeLine := by decide
  have one1 : 1 ≤ sizeLine := by decide
  have pav : ∀ (Hx : Hp) (p : Addr), Hx p = some (.tup [.str "", .int c0]) → PaV Hx n (.ref p) ([], c0) := fun Hx p h => ⟨p, "", rfl, h, empty_eq ▸ IsC.nil, dig_empty, (by rw [show ("" : Str).length = 0 by decide +kernel]; exact Nat.zero_le _), hc0, hc1⟩
  have w35 := s4.trans s5
  refine ⟨_, rfl, two, fun p6 hp6 => ⟨one1, fun l6 hl6 => ⟨_, rfl, l6, l1, [.ref p6], xs1, rfl, rfl, upd_same, ?_, ?_, fun c6 hc6 => ?_⟩⟩⟩
  · exact (w35.trans ((Same.new hp6 _).trans (Same.new hl6 _))) _ _ u13
  · exact small (by show 1 + xs1.length ≤ 1000; omega)
  have up6 : upd H5 p6 (.tup [.str "", .int c0]) p6 = some (.tup [.str "", .int c0]) := upd_same
  have s6 := (Same.new hp6 (.tup [.str "", .int c0])).trans ((Same.new hl6 (.lst [.ref p6])).trans (Same.new hc6 (.lst ([.ref p6] ++ xs1))))
  have w6 := w35.trans s6
  refine ⟨c6, [.ref p6] ++ xs1, [([], c0)] ++ L1, n, rfl, upd_same, PasAt.app (.cons (pav _ p6 (((Same.new hl6 (.lst [.ref p6])).trans (Same.new hc6 (.lst ([.ref p6] ++ xs1)))) _ _ up6)) .nil) (hL13.up w6.tups), by omega, by decide, by rw [List.length_append]; show 1 + xs1.length + n ≤ 200; omega, fun vt H7 s7 hvt => ?_⟩
  have hvt' : TrAt H7 vt (paintAll (.col c0) L1) := hvt
  have w7 := w6.trans s7
  refine ⟨_, rfl, two, fun p8 hp8 => ⟨one1, fun l8 hl8 => ⟨_, rfl, l8, l3, [.ref p8], xs3, rfl, rfl, upd_same, ?_, ?_, fun c8 hc8 => ?_⟩⟩⟩
  · exact (w7.trans ((Same.new hp8 _).trans (Same.new hl8 _))) _ _ u3
  · exact small (by show 1 + xs3.length ≤ 1000; omega)
  have up8 : upd H7 p8 (.tup [.str "", .int c0]) p8 = some (.tup [.str "", .int c0]) := upd_same
  have s8 := (Same.new hp8 (.tup [.str "", .int c0])).trans ((Same.new hl8 (.lst [.ref p8])).trans (Same.new hc8 (.lst ([.ref p8] ++ xs3))))
  have w8 := w7.trans s8
  refine ⟨c8, [.ref p8] ++ xs3, [([], c0)] ++ L3, n, rfl, upd_same, PasAt.app (.cons (pav _ p8 (((Same.new hl8 (.lst [.ref p8])).trans (Same.new hc8 (.lst ([.ref p8] ++ xs3)))) _ _ up8)) .nil) (hL3.up w8.tups), by omega, by decide, by rw [List.length_append]; show 1 + xs3.length + n ≤ 200; omega, fun vu H9 s9 hvu => ?_⟩
  have hvu' : TrAt H9 vu (paintAll (.col c0) L3) := hvu
  have w79 := s8.trans s9
  have g1 : Good n (paintAll (.col c0) L1) := good_all _ _ hL1.ok (Good.col ⟨hc0, hc1⟩)
  have g3 : Good n (paintAll (.col c0) L3) := good_all _ _ hL3.ok (Good.col ⟨hc0, hc1⟩)
  have hvt9 := hvt'.up w79.tups
  have w59 := s6.trans (s7.trans w79)
  have hv1' : ∀ Hx, Same H9 Hx → ShAt Hx v1 n (paintAll (.col c0) L1) := fun Hx sx => ShAt.up hv1 (s5.trans (w59.trans sx)).tups
  have hv2' : ∀ Hx, Same H9 Hx → ShAt Hx v2 n (paintAll (.col c0) L3) := fun Hx sx => ShAt.up hv2 (w59.trans sx).tups
  generalize paintAll (.col c0) L1 = t1 at *
  have e3 : paintAll (.col c0) L3 = paintAll (.col c0) L3 := rfl
  refine ⟨_, rfl, _, rfl, v1, v2, t1, _, n, rfl, hv1' _ (Same.refl _), hv2' _ (Same.refl _), g1, g3, hn, fun x Ha sa ux => ?_⟩
  refine ⟨_, rfl, _, rfl, _, rfl, x, vt, vu, t1, _, n, rfl, hvt9.up sa.tups, hvu'.up sa.tups, g1, g3, hn, ux, fun Hb sb => ⟨_, rfl, iteF ?_⟩⟩
  have sab := sa.trans sb
  refine ⟨_, rfl, _, rfl, v2, v1, _, t1, n, rfl, hv2' _ sab, hv1' _ sab, g3, g1, hn, fun y Hc sc uy => ?_⟩
  have sac := sab.trans sc
  refine ⟨_, rfl, _, rfl, _, rfl, y, vu, vt, _, t1, n, rfl, hvu'.up sac.tups, hvt9.up sac.tups, g3, g1, hn, uy, fun Hd sd => ⟨_, rfl, iteF ?_⟩⟩
  have sad := sac.trans sd
  refine ⟨_, rfl, _, rfl, v1, v1, t1, t1, n, rfl, hv1' _ sad, hv1' _ sad, g1, g1, hn, fun z1 He se uz => ?_⟩
  have ez1 : z1 = .non := by
    rcases uz with ⟨_, e⟩ | ⟨h, _⟩
    · exact e
    · exact absurd rfl h
  subst ez1
  have sae := sad.trans se
  have w39 := w7.trans w79
  refine ⟨rfl, true, rfl, iteT ?_⟩
  refine ⟨_, rfl, _, rfl, _, rfl, _, rfl, n, c0, l3, xs3, L3, rfl, (w39.trans sae) _ _ u3, hL3.up (w39.trans sae).tups, hn, ⟨hc0, hc1⟩, fun v3 Hf sf hv3 => ?_⟩
  have saf := sae.trans sf
  refine ⟨v2, v3, _, _, n, rfl, hv2' _ saf, hv3, g3, g3, hn, fun z2 Hg sg uz2 => ?_⟩
  have ez2 : z2 = .non := by
    rcases uz2 with ⟨_, e⟩ | ⟨h, _⟩
    · exact e
    · exact absurd rfl h
  subst ez2
  exact ⟨rfl, q' _⟩
end
end Qs


namespace Qs
open PySem L2
theorem len1 {us : List Value} {d : Value} (h : (us ++ [d]).length = 2) : ∃ a, us = [a] := by
  match us, h with
  | [a], _ => exact ⟨a, rfl⟩
  | [], h => simp at h
  | _ :: _ :: _, h => simp at h
theorem all_mk {l : PySem.W.OpenLaw} {w : World} {K : PySem.W.Frag} {h : Heap} {mg : Str → Option Value} {fa f0 f1 f2 f3 f4 f5 f6 f7 f8 f9 f10 f11 f12 f13 f14 f15 f16 f17 f18 f19 f20 f21 f22 f23 f24 f25 f26 f27 f28 f29 f30 : Addr} (X : K.In h) (G : h.Ns mainGlobals mg) (hfa : mg "law" = some (.ref fa))
    {od0 an0 od1 an1 od2 an2 od3 an3 od4 an4 od5 an5 od6 an6 od7 an7 od8 an8 od9 an9 od10 an10 od11 an11 od12 an12 od13 an13 od14 an14 od15 an15 od16 an16 od17 an17 od18 an18 od19 an19 od20 an20 od21 an21 od22 an22 od23 an23 od24 an24 od25 an25 od26 an26 od27 an27 od28 an28 od29 an29 od30 an30 : Option Addr} {sl0 sl1 sl2 sl3 sl4 sl5 sl6 sl7 sl8 sl9 sl10 sl11 sl12 sl13 sl14 sl15 sl16 sl17 sl18 sl19 sl20 sl21 sl22 sl23 sl24 sl25 sl26 sl27 sl28 sl29 sl30 : Array (Option Value)} {oc0 kV0 dc0 pm0 cd0 ct0 oc1 kV1 dc1 pm1 cd1 ct1 oc2 kV2 dc2 pm2 cd2 ct2 oc3 kV3 dc3 pm3 cd3 ct3 oc4 kV4 dc4 pm4 cd4 ct4 oc5 kV5 dc5 pm5 cd5 ct5 oc6 kV6 dc6 pm6 cd6 ct6 oc7 kV7 dc7 pm7 cd7 ct7 oc8 kV8 dc8 pm8 cd8 ct8 oc9 kV9 dc9 pm9 cd9 ct9 oc10 kV10 dc10 pm10 cd10 ct10 oc11 kV11 dc11 pm11 cd11 ct11 oc12 kV12 dc12 pm12 cd12 ct12 oc13 kV13 dc13 pm13 cd13 ct13 oc14 kV14 dc14 pm14 cd14 ct14 oc15 kV15 dc15 pm15 cd15 ct15 oc16 kV16 dc16 pm16 cd16 ct16 oc17 kV17 dc17 pm17 cd17 ct17 oc18 kV18 dc18 pm18 cd18 ct18 oc19 kV19 dc19 pm19 cd19 ct19 oc20 kV20 dc20 pm20 cd20 ct20 oc21 kV21 dc21 pm21 cd21 ct21 oc22 kV22 dc22 pm22 cd22 ct22 oc23 kV23 dc23 pm23 cd23 ct23 oc24 kV24 dc24 pm24 cd24 ct24 oc25 kV25 dc25 pm25 cd25 ct25 oc26 kV26 dc26 pm26 cd26 ct26 oc27 kV27 dc27 pm27 cd27 ct27 oc28 kV28 dc28 pm28 cd28 ct28 oc29 kV29 dc29 pm29 cd29 ct29 oc30 kV30 dc30 pm30 cd30 ct30 : Value}
    {dt4 : Addr} {do4 : Option Addr} {dn4 : Nat} {dsl4 : Array (Option Value)} {dk4 : Tok}
    (a0 : PySem.W.nsIn K mainGlobals "is_whole" = some (some (.ref f0))) (l0 : K.lookup f0 = some ⟨oc0, od0, .func (PySem.W.fnOf "is_whole" "is_whole" (defArgs s_is_whole) (defBody s_is_whole) (defScope s_is_whole) .none kV0 dc0 pm0 an0 cd0 ct0), sl0⟩) (c0 : PySem.W.codeIn K cd0 "is_whole" = true) (k0 : PySem.W.keepIn K (.ref f0) = true)
    (a1 : PySem.W.nsIn K mainGlobals "is_level" = some (some (.ref f1))) (l1 : K.lookup f1 = some ⟨oc1, od1, .func (PySem.W.fnOf "is_level" "is_level" (defArgs s_is_level) (defBody s_is_level) (defScope s_is_level) .none kV1 dc1 pm1 an1 cd1 ct1), sl1⟩) (c1 : PySem.W.codeIn K cd1 "is_level" = true) (k1 : PySem.W.keepIn K (.ref f1) = true)
    (a2 : PySem.W.nsIn K mainGlobals "is_colour" = some (some (.ref f2))) (l2 : K.lookup f2 = some ⟨oc2, od2, .func (PySem.W.fnOf "is_colour" "is_colour" (defArgs s_is_colour) (defBody s_is_colour) (defScope s_is_colour) .none kV2 dc2 pm2 an2 cd2 ct2), sl2⟩) (c2 : PySem.W.codeIn K cd2 "is_colour" = true) (k2 : PySem.W.keepIn K (.ref f2) = true)
    (a3 : PySem.W.nsIn K mainGlobals "is_code" = some (some (.ref f3))) (l3 : K.lookup f3 = some ⟨oc3, od3, .func (PySem.W.fnOf "is_code" "is_code" (defArgs s_is_code) (defBody s_is_code) (defScope s_is_code) .none kV3 dc3 pm3 an3 cd3 ct3), sl3⟩) (c3 : PySem.W.codeIn K cd3 "is_code" = true) (k3 : PySem.W.keepIn K (.ref f3) = true)
    (a4 : PySem.W.nsIn K mainGlobals "need_level" = some (some (.ref f4))) (l4 : K.lookup f4 = some ⟨oc4, od4, .func (PySem.W.fnOf "need_level" "need_level" (defArgs s_need_level) (defBody s_need_level) (defScope s_need_level) (.ref dt4) kV4 dc4 pm4 an4 cd4 ct4), sl4⟩) (c4 : PySem.W.codeIn K cd4 "need_level" = true) (k4 : PySem.W.keepIn K (.ref f4) = true)
    (d4 : K.lookup dt4 = some ⟨.type "tuple", do4, .seq #[.int 0 dk4] dn4, dsl4⟩)
    (a5 : PySem.W.nsIn K mainGlobals "need_code" = some (some (.ref f5))) (l5 : K.lookup f5 = some ⟨oc5, od5, .func (PySem.W.fnOf "need_code" "need_code" (defArgs s_need_code) (defBody s_need_code) (defScope s_need_code) .none kV5 dc5 pm5 an5 cd5 ct5), sl5⟩) (c5 : PySem.W.codeIn K cd5 "need_code" = true) (k5 : PySem.W.keepIn K (.ref f5) = true)
    (a6 : PySem.W.nsIn K mainGlobals "need_code_within" = some (some (.ref f6))) (l6 : K.lookup f6 = some ⟨oc6, od6, .func (PySem.W.fnOf "need_code_within" "need_code_within" (defArgs s_need_code_within) (defBody s_need_code_within) (defScope s_need_code_within) .none kV6 dc6 pm6 an6 cd6 ct6), sl6⟩) (c6 : PySem.W.codeIn K cd6 "need_code_within" = true) (k6 : PySem.W.keepIn K (.ref f6) = true)
    (a7 : PySem.W.nsIn K mainGlobals "need_colour" = some (some (.ref f7))) (l7 : K.lookup f7 = some ⟨oc7, od7, .func (PySem.W.fnOf "need_colour" "need_colour" (defArgs s_need_colour) (defBody s_need_colour) (defScope s_need_colour) .none kV7 dc7 pm7 an7 cd7 ct7), sl7⟩) (c7 : PySem.W.codeIn K cd7 "need_colour" = true) (k7 : PySem.W.keepIn K (.ref f7) = true)
    (a8 : PySem.W.nsIn K mainGlobals "width_of" = some (some (.ref f8))) (l8 : K.lookup f8 = some ⟨oc8, od8, .func (PySem.W.fnOf "width_of" "width_of" (defArgs s_width_of) (defBody s_width_of) (defScope s_width_of) .none kV8 dc8 pm8 an8 cd8 ct8), sl8⟩) (c8 : PySem.W.codeIn K cd8 "width_of" = true) (k8 : PySem.W.keepIn K (.ref f8) = true)
    (a9 : PySem.W.nsIn K mainGlobals "corner" = some (some (.ref f9))) (l9 : K.lookup f9 = some ⟨oc9, od9, .func (PySem.W.fnOf "corner" "corner" (defArgs s_corner) (defBody s_corner) (defScope s_corner) .none kV9 dc9 pm9 an9 cd9 ct9), sl9⟩) (c9 : PySem.W.codeIn K cd9 "corner" = true) (k9 : PySem.W.keepIn K (.ref f9) = true)
    (a10 : PySem.W.nsIn K mainGlobals "is_of_one_colour" = some (some (.ref f10))) (l10 : K.lookup f10 = some ⟨oc10, od10, .func (PySem.W.fnOf "is_of_one_colour" "is_of_one_colour" (defArgs s_is_of_one_colour) (defBody s_is_of_one_colour) (defScope s_is_of_one_colour) .none kV10 dc10 pm10 an10 cd10 ct10), sl10⟩) (c10 : PySem.W.codeIn K cd10 "is_of_one_colour" = true) (k10 : PySem.W.keepIn K (.ref f10) = true)
    (a11 : PySem.W.nsIn K mainGlobals "gathered" = some (some (.ref f11))) (l11 : K.lookup f11 = some ⟨oc11, od11, .func (PySem.W.fnOf "gathered" "gathered" (defArgs s_gathered) (defBody s_gathered) (defScope s_gathered) .none kV11 dc11 pm11 an11 cd11 ct11), sl11⟩) (c11 : PySem.W.codeIn K cd11 "gathered" = true) (k11 : PySem.W.keepIn K (.ref f11) = true)
    (a12 : PySem.W.nsIn K mainGlobals "parted" = some (some (.ref f12))) (l12 : K.lookup f12 = some ⟨oc12, od12, .func (PySem.W.fnOf "parted" "parted" (defArgs s_parted) (defBody s_parted) (defScope s_parted) .none kV12 dc12 pm12 an12 cd12 ct12), sl12⟩) (c12 : PySem.W.codeIn K cd12 "parted" = true) (k12 : PySem.W.keepIn K (.ref f12) = true)
    (a13 : PySem.W.nsIn K mainGlobals "planted" = some (some (.ref f13))) (l13 : K.lookup f13 = some ⟨oc13, od13, .func (PySem.W.fnOf "planted" "planted" (defArgs s_planted) (defBody s_planted) (defScope s_planted) .none kV13 dc13 pm13 an13 cd13 ct13), sl13⟩) (c13 : PySem.W.codeIn K cd13 "planted" = true) (k13 : PySem.W.keepIn K (.ref f13) = true)
    (a14 : PySem.W.nsIn K mainGlobals "need_one_level" = some (some (.ref f14))) (l14 : K.lookup f14 = some ⟨oc14, od14, .func (PySem.W.fnOf "need_one_level" "need_one_level" (defArgs s_need_one_level) (defBody s_need_one_level) (defScope s_need_one_level) .none kV14 dc14 pm14 an14 cd14 ct14), sl14⟩) (c14 : PySem.W.codeIn K cd14 "need_one_level" = true) (k14 : PySem.W.keepIn K (.ref f14) = true)
    (a15 : PySem.W.nsIn K mainGlobals "plain" = some (some (.ref f15))) (l15 : K.lookup f15 = some ⟨oc15, od15, .func (PySem.W.fnOf "plain" "plain" (defArgs s_plain) (defBody s_plain) (defScope s_plain) .none kV15 dc15 pm15 an15 cd15 ct15), sl15⟩) (c15 : PySem.W.codeIn K cd15 "plain" = true) (k15 : PySem.W.keepIn K (.ref f15) = true)
    (a16 : PySem.W.nsIn K mainGlobals "painted" = some (some (.ref f16))) (l16 : K.lookup f16 = some ⟨oc16, od16, .func (PySem.W.fnOf "painted" "painted" (defArgs s_painted) (defBody s_painted) (defScope s_painted) .none kV16 dc16 pm16 an16 cd16 ct16), sl16⟩) (c16 : PySem.W.codeIn K cd16 "painted" = true) (k16 : PySem.W.keepIn K (.ref f16) = true)
    (a17 : PySem.W.nsIn K mainGlobals "first_unlike" = some (some (.ref f17))) (l17 : K.lookup f17 = some ⟨oc17, od17, .func (PySem.W.fnOf "first_unlike" "first_unlike" (defArgs s_first_unlike) (defBody s_first_unlike) (defScope s_first_unlike) .none kV17 dc17 pm17 an17 cd17 ct17), sl17⟩) (c17 : PySem.W.codeIn K cd17 "first_unlike" = true) (k17 : PySem.W.keepIn K (.ref f17) = true)
    (a18 : PySem.W.nsIn K mainGlobals "unlike" = some (some (.ref f18))) (l18 : K.lookup f18 = some ⟨oc18, od18, .func (PySem.W.fnOf "unlike" "unlike" (defArgs s_unlike) (defBody s_unlike) (defScope s_unlike) .none kV18 dc18 pm18 an18 cd18 ct18), sl18⟩) (c18 : PySem.W.codeIn K cd18 "unlike" = true) (k18 : PySem.W.keepIn K (.ref f18) = true)
    (a19 : PySem.W.nsIn K mainGlobals "_law_at" = some (some (.ref f19))) (l19 : K.lookup f19 = some ⟨oc19, od19, .func (PySem.W.fnOf "_law_at" "_law_at" (defArgs s_law_at) (defBody s_law_at) (defScope s_law_at) .none kV19 dc19 pm19 an19 cd19 ct19), sl19⟩) (c19 : PySem.W.codeIn K cd19 "_law_at" = true) (k19 : PySem.W.keepIn K (.ref f19) = true)
    (a20 : PySem.W.nsIn K mainGlobals "_law_code" = some (some (.ref f20))) (l20 : K.lookup f20 = some ⟨oc20, od20, .func (PySem.W.fnOf "_law_code" "_law_code" (defArgs s_law_code) (defBody s_law_code) (defScope s_law_code) .none kV20 dc20 pm20 an20 cd20 ct20), sl20⟩) (c20 : PySem.W.codeIn K cd20 "_law_code" = true) (k20 : PySem.W.keepIn K (.ref f20) = true)
    (a21 : PySem.W.nsIn K mainGlobals "_law_paints_by_digits" = some (some (.ref f21))) (l21 : K.lookup f21 = some ⟨oc21, od21, .func (PySem.W.fnOf "_law_paints_by_digits" "_law_paints_by_digits" (defArgs s_law_paints_by_digits) (defBody s_law_paints_by_digits) (defScope s_law_paints_by_digits) .none kV21 dc21 pm21 an21 cd21 ct21), sl21⟩) (c21 : PySem.W.codeIn K cd21 "_law_paints_by_digits" = true) (k21 : PySem.W.keepIn K (.ref f21) = true)
    (a22 : PySem.W.nsIn K mainGlobals "_law_colour" = some (some (.ref f22))) (l22 : K.lookup f22 = some ⟨oc22, od22, .func (PySem.W.fnOf "_law_colour" "_law_colour" (defArgs s_law_colour) (defBody s_law_colour) (defScope s_law_colour) .none kV22 dc22 pm22 an22 cd22 ct22), sl22⟩) (c22 : PySem.W.codeIn K cd22 "_law_colour" = true) (k22 : PySem.W.keepIn K (.ref f22) = true)
    (a23 : PySem.W.nsIn K mainGlobals "_law_paints" = some (some (.ref f23))) (l23 : K.lookup f23 = some ⟨oc23, od23, .func (PySem.W.fnOf "_law_paints" "_law_paints" (defArgs s_law_paints) (defBody s_law_paints) (defScope s_law_paints) .none kV23 dc23 pm23 an23 cd23 ct23), sl23⟩) (c23 : PySem.W.codeIn K cd23 "_law_paints" = true) (k23 : PySem.W.keepIn K (.ref f23) = true)
    (a24 : PySem.W.nsIn K mainGlobals "_law_tree_of" = some (some (.ref f24))) (l24 : K.lookup f24 = some ⟨oc24, od24, .func (PySem.W.fnOf "_law_tree_of" "_law_tree_of" (defArgs s_law_tree_of) (defBody s_law_tree_of) (defScope s_law_tree_of) .none kV24 dc24 pm24 an24 cd24 ct24), sl24⟩) (c24 : PySem.W.codeIn K cd24 "_law_tree_of" = true) (k24 : PySem.W.keepIn K (.ref f24) = true)
    (a25 : PySem.W.nsIn K mainGlobals "_law_tree_by" = some (some (.ref f25))) (l25 : K.lookup f25 = some ⟨oc25, od25, .func (PySem.W.fnOf "_law_tree_by" "_law_tree_by" (defArgs s_law_tree_by) (defBody s_law_tree_by) (defScope s_law_tree_by) .none kV25 dc25 pm25 an25 cd25 ct25), sl25⟩) (c25 : PySem.W.codeIn K cd25 "_law_tree_by" = true) (k25 : PySem.W.keepIn K (.ref f25) = true)
    (a26 : PySem.W.nsIn K mainGlobals "_law_sheet" = some (some (.ref f26))) (l26 : K.lookup f26 = some ⟨oc26, od26, .func (PySem.W.fnOf "_law_sheet" "_law_sheet" (defArgs s_law_sheet) (defBody s_law_sheet) (defScope s_law_sheet) .none kV26 dc26 pm26 an26 cd26 ct26), sl26⟩) (c26 : PySem.W.codeIn K cd26 "_law_sheet" = true) (k26 : PySem.W.keepIn K (.ref f26) = true)
    (a27 : PySem.W.nsIn K mainGlobals "_law_parts" = some (some (.ref f27))) (l27 : K.lookup f27 = some ⟨oc27, od27, .func (PySem.W.fnOf "_law_parts" "_law_parts" (defArgs s_law_parts) (defBody s_law_parts) (defScope s_law_parts) .none kV27 dc27 pm27 an27 cd27 ct27), sl27⟩) (c27 : PySem.W.codeIn K cd27 "_law_parts" = true) (k27 : PySem.W.keepIn K (.ref f27) = true)
    (a28 : PySem.W.nsIn K mainGlobals "_law_first" = some (some (.ref f28))) (l28 : K.lookup f28 = some ⟨oc28, od28, .func (PySem.W.fnOf "_law_first" "_law_first" (defArgs s_law_first) (defBody s_law_first) (defScope s_law_first) .none kV28 dc28 pm28 an28 cd28 ct28), sl28⟩) (c28 : PySem.W.codeIn K cd28 "_law_first" = true) (k28 : PySem.W.keepIn K (.ref f28) = true)
    (a29 : PySem.W.nsIn K mainGlobals "_law_right" = some (some (.ref f29))) (l29 : K.lookup f29 = some ⟨oc29, od29, .func (PySem.W.fnOf "_law_right" "_law_right" (defArgs s_law_right) (defBody s_law_right) (defScope s_law_right) .none kV29 dc29 pm29 an29 cd29 ct29), sl29⟩) (c29 : PySem.W.codeIn K cd29 "_law_right" = true) (k29 : PySem.W.keepIn K (.ref f29) = true)
    (a30 : PySem.W.nsIn K mainGlobals "law" = some (some (.ref f30))) (l30 : K.lookup f30 = some ⟨oc30, od30, .func (PySem.W.fnOf "law" "law" (defArgs s_law) (defBody s_law) (defScope s_law) .none kV30 dc30 pm30 an30 cd30 ct30), sl30⟩) (c30 : PySem.W.codeIn K cd30 "law" = true) (k30 : PySem.W.keepIn K (.ref f30) = true)
    (z0 : PySem.W.nsIn K mainGlobals "isinstance" = some none)
    (z1 : PySem.W.nsIn K mainGlobals "int" = some none)
    (z2 : PySem.W.nsIn K mainGlobals "bool" = some none)
    {zt3 : Tok} (z3 : PySem.W.nsIn K mainGlobals "MOST" = some (some (.int 40 zt3)))
    {zt4 : Tok} (z4 : PySem.W.nsIn K mainGlobals "LAST_COLOUR" = some (some (.int 35 zt4)))
    (z5 : PySem.W.nsIn K mainGlobals "all" = some none)
    (z6 : PySem.W.nsIn K mainGlobals "str" = some none)
    (z7 : PySem.W.nsIn K mainGlobals "len" = some none)
    {zt8 : Tok} (z8 : PySem.W.nsIn K mainGlobals "QUARTERS" = some (some (.str "0123" zt8)))
    (z9 : PySem.W.nsIn K mainGlobals "range" = some none)
    (z10 : PySem.W.nsIn K mainGlobals "tuple" = some none)
    (z11 : PySem.W.nsIn K mainGlobals "list" = some none)
    (z12 : PySem.W.nsIn K mainGlobals "any" = some none)
    (z13 : PySem.W.nsIn K mainGlobals "min" = some none)
    (z14 : PySem.W.nsIn K mainGlobals "enumerate" = some none)
    (z15 : PySem.W.nsIn K mainGlobals "zip" = some none)
    : ∃ fd : FuncData, (∀ (s : Shared) (v : Value), BindsTo s fd ⟨[v], []⟩ [("_law_script", v)]) ∧ ∀ base : Heap, K.In base → base.Ns mainGlobals mg → FnOk l.prog w K mg base CX0 46 fa fd ["_law_script"] (sp_law K) := by
  have e := hfa.symm.trans (PySem.W.mg_of X G a30)
  cases e
  have T : Tx K mg := ⟨PySem.W.mg_none_of X G z0, PySem.W.mg_none_of X G z1, PySem.W.mg_none_of X G z2, ⟨_, PySem.W.mg_of X G z3⟩, ⟨_, PySem.W.mg_of X G z4⟩, PySem.W.mg_none_of X G z5, PySem.W.mg_none_of X G z6, PySem.W.mg_none_of X G z7, ⟨_, PySem.W.mg_of X G z8⟩, PySem.W.mg_none_of X G z9, PySem.W.mg_none_of X G z10, PySem.W.mg_none_of X G z11, PySem.W.mg_none_of X G z12, PySem.W.mg_none_of X G z13, PySem.W.mg_none_of X G z14, PySem.W.mg_none_of X G z15⟩
  have F0 := funD_mk (st := s_is_whole) l0 c0 k0
  have F1 := funD_mk (st := s_is_level) l1 c1 k1
  have F2 := funD_mk (st := s_is_colour) l2 c2 k2
  have F3 := funD_mk (st := s_is_code) l3 c3 k3
  have F4 := funD_mk (st := s_need_level) l4 c4 k4
  have F5 := funD_mk (st := s_need_code) l5 c5 k5
  have F6 := funD_mk (st := s_need_code_within) l6 c6 k6
  have F7 := funD_mk (st := s_need_colour) l7 c7 k7
  have F8 := funD_mk (st := s_width_of) l8 c8 k8
  have F9 := funD_mk (st := s_corner) l9 c9 k9
  have F10 := funD_mk (st := s_is_of_one_colour) l10 c10 k10
  have F11 := funD_mk (st := s_gathered) l11 c11 k11
  have F12 := funD_mk (st := s_parted) l12 c12 k12
  have F13 := funD_mk (st := s_planted) l13 c13 k13
  have F14 := funD_mk (st := s_need_one_level) l14 c14 k14
  have F15 := funD_mk (st := s_plain) l15 c15 k15
  have F16 := funD_mk (st := s_painted) l16 c16 k16
  have F17 := funD_mk (st := s_first_unlike) l17 c17 k17
  have F18 := funD_mk (st := s_unlike) l18 c18 k18
  have F19 := funD_mk (st := s_law_at) l19 c19 k19
  have F20 := funD_mk (st := s_law_code) l20 c20 k20
  have F21 := funD_mk (st := s_law_paints_by_digits) l21 c21 k21
  have F22 := funD_mk (st := s_law_colour) l22 c22 k22
  have F23 := funD_mk (st := s_law_paints) l23 c23 k23
  have F24 := funD_mk (st := s_law_tree_of) l24 c24 k24
  have F25 := funD_mk (st := s_law_tree_by) l25 c25 k25
  have F26 := funD_mk (st := s_law_sheet) l26 c26 k26
  have F27 := funD_mk (st := s_law_parts) l27 c27 k27
  have F28 := funD_mk (st := s_law_first) l28 c28 k28
  have F29 := funD_mk (st := s_law_right) l29 c29 k29
  have F30 := funD_mk (st := s_law) l30 c30 k30
  have b0 := F0.binds (ps := ["thing"]) fun _ _ _ _ _ _ us hl => match us, hl with | [_], _ => rfl
  have b1 := F1.binds (ps := ["thing"]) fun _ _ _ _ _ _ us hl => match us, hl with | [_], _ => rfl
  have b2 := F2.binds (ps := ["thing"]) fun _ _ _ _ _ _ us hl => match us, hl with | [_], _ => rfl
  have b3 := F3.binds (ps := ["thing"]) fun _ _ _ _ _ _ us hl => match us, hl with | [_], _ => rfl
  have b4 := F4.bindsD (ps := ["level", "least"]) (ds := []) d4 rfl fun _ _ _ _ _ _ us hl => match us, hl with | [_, _], _ => ⟨_, rfl, rfl⟩
  have bd4 := F4.bindsD (ps := ["level", "least"]) (ds := [.int 0 dk4]) d4 rfl fun _ _ _ _ _ _ us hl => by obtain ⟨a, rfl⟩ := len1 hl; exact ⟨_, rfl, rfl⟩
  have b5 := F5.binds (ps := ["code"]) fun _ _ _ _ _ _ us hl => match us, hl with | [_], _ => rfl
  have b6 := F6.binds (ps := ["code", "level"]) fun _ _ _ _ _ _ us hl => match us, hl with | [_, _], _ => rfl
  have b7 := F7.binds (ps := ["colour"]) fun _ _ _ _ _ _ us hl => match us, hl with | [_], _ => rfl
  have b8 := F8.binds (ps := ["level"]) fun _ _ _ _ _ _ us hl => match us, hl with | [_], _ => rfl
  have b9 := F9.binds (ps := ["code", "level"]) fun _ _ _ _ _ _ us hl => match us, hl with | [_, _], _ => rfl
  have b10 := F10.binds (ps := ["parts"]) fun _ _ _ _ _ _ us hl => match us, hl with | [_], _ => rfl
  have b11 := F11.binds (ps := ["parts"]) fun _ _ _ _ _ _ us hl => match us, hl with | [_], _ => rfl
  have b12 := F12.binds (ps := ["tree"]) fun _ _ _ _ _ _ us hl => match us, hl with | [_], _ => rfl
  have b13 := F13.binds (ps := ["tree", "code", "other"]) fun _ _ _ _ _ _ us hl => match us, hl with | [_, _, _], _ => rfl
  have b14 := F14.binds (ps := ["sheets"]) fun _ _ _ _ _ _ us hl => match us, hl with | [_], _ => rfl
  have b15 := F15.binds (ps := ["level", "colour"]) fun _ _ _ _ _ _ us hl => match us, hl with | [_, _], _ => rfl
  have b16 := F16.binds (ps := ["sheet", "code", "colour"]) fun _ _ _ _ _ _ us hl => match us, hl with | [_, _, _], _ => rfl
  have b17 := F17.binds (ps := ["one", "other"]) fun _ _ _ _ _ _ us hl => match us, hl with | [_, _], _ => rfl
  have b18 := F18.binds (ps := ["one", "other"]) fun _ _ _ _ _ _ us hl => match us, hl with | [_, _], _ => rfl
  have b19 := F19.binds (ps := ["_law_script", "_law_k"]) fun _ _ _ _ _ _ us hl => match us, hl with | [_, _], _ => rfl
  have b20 := F20.binds (ps := ["_law_cell", "_law_size"]) fun _ _ _ _ _ _ us hl => match us, hl with | [_, _], _ => rfl
  have b21 := F21.binds (ps := ["_law_script", "_law_first_here", "_law_most", "_law_level"]) fun _ _ _ _ _ _ us hl => match us, hl with | [_, _, _, _], _ => rfl
  have b22 := F22.binds (ps := ["_law_cell"]) fun _ _ _ _ _ _ us hl => match us, hl with | [_], _ => rfl
  have b23 := F23.binds (ps := ["_law_script", "_law_first_here", "_law_most", "_law_level"]) fun _ _ _ _ _ _ us hl => match us, hl with | [_, _, _, _], _ => rfl
  have b24 := F24.binds (ps := ["_law_a", "_law_b", "_law_c", "_law_d"]) fun _ _ _ _ _ _ us hl => match us, hl with | [_, _, _, _], _ => rfl
  have b25 := F25.binds (ps := ["_law_paints_here"]) fun _ _ _ _ _ _ us hl => match us, hl with | [_], _ => rfl
  have b26 := F26.binds (ps := ["_law_level", "_law_colour_here", "_law_paints_here"]) fun _ _ _ _ _ _ us hl => match us, hl with | [_, _, _], _ => rfl
  have b27 := F27.binds (ps := ["_law_tree"]) fun _ _ _ _ _ _ us hl => match us, hl with | [_], _ => rfl
  have b28 := F28.binds (ps := ["_law_one", "_law_other", "_law_level"]) fun _ _ _ _ _ _ us hl => match us, hl with | [_, _, _], _ => rfl
  have b29 := F29.binds (ps := ["_law_found", "_law_one", "_law_other", "_law_level"]) fun _ _ _ _ _ _ us hl => match us, hl with | [_, _, _, _], _ => rfl
  refine ⟨PySem.W.fnOf "law" "law" (defArgs s_law) (defBody s_law) (defScope s_law) .none kV30 dc30 pm30 an30 cd30 ct30, fun s v => .of_eq rfl, fun base _ _ => ?_⟩
  have C_is_whole : Fok l.prog w K mg base CX0 1 "is_whole" ["thing"] [] (sp_is_whole K) := fok F0 (ok_is_whole T F0) b0 (PySem.W.mg_of X G a0)
  have C_is_level : Fok l.prog w K mg base CX0 2 "is_level" ["thing"] [] (sp_is_level K) := fok F1 (ok_is_level T quiet0 F1 C_is_whole) b1 (PySem.W.mg_of X G a1)
  have C_is_colour : Fok l.prog w K mg base CX0 2 "is_colour" ["thing"] [] (sp_is_colour) := fok F2 (ok_is_colour T quiet0 F2 C_is_whole) b2 (PySem.W.mg_of X G a2)
  have C_is_code : Fok l.prog w K mg base CX0 1 "is_code" ["thing"] [] (sp_is_code) := fok F3 (ok_is_code T F3) b3 (PySem.W.mg_of X G a3)
  have C_need_level : Fok l.prog w K mg base CX0 3 "need_level" ["level", "least"] [] (sp_need_level) := fok F4 (ok_need_level T quiet0 F4 C_is_level) b4 (PySem.W.mg_of X G a4)
  have C_need_level_1 : Fok l.prog w K mg base CX0 3 "need_level" ["level", "least"] [.int 0] (sp_need_level) := fokD F4 (ok_need_level T quiet0 F4 C_is_level) bd4 (.cons ⟨_, rfl⟩ .nil) (PySem.W.mg_of X G a4)
  have C_need_code : Fok l.prog w K mg base CX0 2 "need_code" ["code"] [] (sp_need_code) := fok F5 (ok_need_code T quiet0 F5 C_is_code) b5 (PySem.W.mg_of X G a5)
  have C_need_code_within : Fok l.prog w K mg base CX0 2 "need_code_within" ["code", "level"] [] (sp_code_within) := fok F6 (ok_need_code_within T quiet0 F6 C_is_code) b6 (PySem.W.mg_of X G a6)
  have C_need_colour : Fok l.prog w K mg base CX0 3 "need_colour" ["colour"] [] (sp_need_colour) := fok F7 (ok_need_colour T quiet0 F7 C_is_colour) b7 (PySem.W.mg_of X G a7)
  have C_width_of : Fok l.prog w K mg base CX0 1 "width_of" ["level"] [] (sp_width_of) := fok F8 (ok_width_of T F8) b8 (PySem.W.mg_of X G a8)
  have C_corner : Fok l.prog w K mg base CX0 4 "corner" ["code", "level"] [] (sp_corner) := fok F9 (ok_corner T quiet0 F9 C_need_code C_need_level C_width_of) b9 (PySem.W.mg_of X G a9)
  have C_is_of_one_colour : Fok l.prog w K mg base CX0 1 "is_of_one_colour" ["parts"] [] (sp_is_one) := fok F10 (ok_is_of_one_colour T F10) b10 (PySem.W.mg_of X G a10)
  have C_gathered : Fok l.prog w K mg base CX0 2 "gathered" ["parts"] [] (sp_gathered) := fok F11 (ok_gathered T quiet0 F11 C_is_of_one_colour) b11 (PySem.W.mg_of X G a11)
  have C_parted : Fok l.prog w K mg base CX0 1 "parted" ["tree"] [] (sp_parted) := fok F12 (ok_parted T F12) b12 (PySem.W.mg_of X G a12)
  have C_planted : Fok l.prog w K mg base CX0 43 "planted" ["tree", "code", "other"] [] (sp_planted 40) := fok F13 (ok_planted T quiet0 F13 C_parted C_gathered b13 (PySem.W.mg_of X G a13) 40) b13 (PySem.W.mg_of X G a13)
  have C_need_one_level : Fok l.prog w K mg base CX0 1 "need_one_level" ["sheets"] [] (sp_one_level) := fok F14 (ok_need_one_level T F14) b14 (PySem.W.mg_of X G a14)
  have C_plain : Fok l.prog w K mg base CX0 4 "plain" ["level", "colour"] [] (sp_plain) := fok F15 (ok_plain T quiet0 F15 C_need_level_1 C_need_colour) b15 (PySem.W.mg_of X G a15)
  have C_painted : Fok l.prog w K mg base CX0 44 "painted" ["sheet", "code", "colour"] [] (sp_painted) := fok F16 (ok_painted T quiet0 F16 C_need_code_within C_need_colour C_planted) b16 (PySem.W.mg_of X G a16)
  have C_first_unlike : Fok l.prog w K mg base CX0 43 "first_unlike" ["one", "other"] [] (sp_first_unlike 41) := fok F17 (ok_first_unlike T quiet0 F17 C_parted b17 (PySem.W.mg_of X G a17) 41) b17 (PySem.W.mg_of X G a17)
  have C_unlike : Fok l.prog w K mg base CX0 44 "unlike" ["one", "other"] [] (sp_unlike) := fok F18 (ok_unlike T quiet0 F18 C_need_one_level C_first_unlike C_corner) b18 (PySem.W.mg_of X G a18)
  have C__law_at : Fok l.prog w K mg base CX0 1 "_law_at" ["_law_script", "_law_k"] [] (sp_law_at K) := fok F19 (ok_law_at T F19) b19 (PySem.W.mg_of X G a19)
  have C__law_code : Fok l.prog w K mg base CX0 1 "_law_code" ["_law_cell", "_law_size"] [] (sp_law_code) := fok F20 (ok_law_code T F20) b20 (PySem.W.mg_of X G a20)
  have C__law_paints_by_digits : Fok l.prog w K mg base CX0 2 "_law_paints_by_digits" ["_law_script", "_law_first_here", "_law_most", "_law_level"] [] (sp_law_paints K) := fok F21 (ok_law_paints_by_digits T quiet0 F21 C__law_at C__law_code) b21 (PySem.W.mg_of X G a21)
  have C__law_colour : Fok l.prog w K mg base CX0 1 "_law_colour" ["_law_cell"] [] (sp_law_colour) := fok F22 (ok_law_colour T F22) b22 (PySem.W.mg_of X G a22)
  have C__law_paints : Fok l.prog w K mg base CX0 3 "_law_paints" ["_law_script", "_law_first_here", "_law_most", "_law_level"] [] (sp_law_paints K) := fok F23 (ok_law_paints T quiet0 F23 C__law_at C__law_paints_by_digits C__law_code C__law_colour) b23 (PySem.W.mg_of X G a23)
  have C__law_tree_of : Fok l.prog w K mg base CX0 1 "_law_tree_of" ["_law_a", "_law_b", "_law_c", "_law_d"] [] (sp_law_tree_of) := fok F24 (ok_law_tree_of T F24) b24 (PySem.W.mg_of X G a24)
  have C__law_tree_by : Fok l.prog w K mg base CX0 43 "_law_tree_by" ["_law_paints_here"] [] (sp_law_tree_by 41) := fok F25 (ok_law_tree_by T quiet0 F25 C__law_tree_of b25 (PySem.W.mg_of X G a25) 41) b25 (PySem.W.mg_of X G a25)
  have C__law_sheet : Fok l.prog w K mg base CX0 45 "_law_sheet" ["_law_level", "_law_colour_here", "_law_paints_here"] [] (sp_law_sheet) := fok F26 (ok_law_sheet T quiet0 F26 C_plain C_painted) b26 (PySem.W.mg_of X G a26)
  have C__law_parts : Fok l.prog w K mg base CX0 1 "_law_parts" ["_law_tree"] [] (sp_parted) := fok F27 (ok_law_parts T F27) b27 (PySem.W.mg_of X G a27)
  have C__law_first : Fok l.prog w K mg base CX0 2 "_law_first" ["_law_one", "_law_other", "_law_level"] [] (sp_law_first) := fok F28 (ok_law_first T quiet0 F28 C__law_parts) b28 (PySem.W.mg_of X G a28)
  have C__law_right : Fok l.prog w K mg base CX0 3 "_law_right" ["_law_found", "_law_one", "_law_other", "_law_level"] [] (sp_law_right) := fok F29 (ok_law_right T quiet0 F29 C__law_first) b29 (PySem.W.mg_of X G a29)
  exact ok_law T quiet0 F30 C__law_at C__law_colour C__law_paints C__law_sheet C__law_tree_by C__law_right C_unlike
theorem walk {l : PySem.W.OpenLaw} {q : Program} {loose : List Str} {XP : (Str → Option Value) → Heap → Prop} {YP : World → Heap → Prop} {d : DefRec} {K : Params → PySem.W.Frag} (hn : l.most = some 63) (hdf : d.params.defaults = [])
    (hY : ∀ (w : World) (h : Heap), YP w h → (K w.params).In h)
    (F : ∀ (w : World) (mg : Str → Option Value) (fa : Addr) (h : Heap), (K w.params).In h → h.Ns mainGlobals mg → mg d.name = some (.ref fa) →
      ∃ fd : FuncData, (∀ (s : Shared) (u : Value), BindsTo s fd ⟨[u], []⟩ [("_law_script", u)]) ∧ ∀ base : Heap, (K w.params).In base → base.Ns mainGlobals mg → FnOk l.prog w (K w.params) mg base CX0 46 fa fd ["_law_script"] (sp_law (K w.params))) :
    PySem.W.WalkO q loose XP YP l.row.toRowW d [] (fun f vs => PySem.call f vs) :=
  L2.walk_of (n := 63) (k := 46) (x := "_law_script") (CX := fun w => CX0) (sp := fun w => sp_law (K w.params)) hn (by decide) hdf ⟨rfl, by decide, by decide⟩ hY F (fun _ _ a ns hl _ hS => ⟨a, ns, rfl, hS, hl, fun _ => rfl⟩) fun _ _ _ _ _ z => z
end Qs
open PySem PySem.W PyProof.Rows
set_option maxRecDepth 100000 in
set_option maxHeartbeats 0 in
theorem PySem.Challenge.cw_quartersheet_k14_first_place_unlike_holds : PySem.Challenge.rw_quartersheet_k14_first_place_unlike.Holds := by
  w_on; o_law; k_head; (case hw => w_witness2)
  k_fill
  refine Qs.walk (l := PySem.Challenge.rw_quartersheet_k14_first_place_unlike) rfl rfl (fun w h Y => PySem.W.kIn_of Y) ?F
  case F =>
    intro w mg fa h KX G hmg
    refine' Qs.all_mk KX G hmg ?a0 ?l0 ?c0 ?k0 ?a1 ?l1 ?c1 ?k1 ?a2 ?l2 ?c2 ?k2 ?a3 ?l3 ?c3 ?k3 ?a4 ?l4 ?c4 ?k4 ?d4 ?a5 ?l5 ?c5 ?k5 ?a6 ?l6 ?c6 ?k6 ?a7 ?l7 ?c7 ?k7 ?a8 ?l8 ?c8 ?k8 ?a9 ?l9 ?c9 ?k9 ?a10 ?l10 ?c10 ?k10 ?a11 ?l11 ?c11 ?k11 ?a12 ?l12 ?c12 ?k12 ?a13 ?l13 ?c13 ?k13 ?a14 ?l14 ?c14 ?k14 ?a15 ?l15 ?c15 ?k15 ?a16 ?l16 ?c16 ?k16 ?a17 ?l17 ?c17 ?k17 ?a18 ?l18 ?c18 ?k18 ?a19 ?l19 ?c19 ?k19 ?a20 ?l20 ?c20 ?k20 ?a21 ?l21 ?c21 ?k21 ?a22 ?l22 ?c22 ?k22 ?a23 ?l23 ?c23 ?k23 ?a24 ?l24 ?c24 ?k24 ?a25 ?l25 ?c25 ?k25 ?a26 ?l26 ?c26 ?k26 ?a27 ?l27 ?c27 ?k27 ?a28 ?l28 ?c28 ?k28 ?a29 ?l29 ?c29 ?k29 ?a30 ?l30 ?c30 ?k30 ?z0 ?z1 ?z2 ?z3 ?z4 ?z5 ?z6 ?z7 ?z8 ?z9 ?z10 ?z11 ?z12 ?z13 ?z14 ?z15
    (case a0 => k_is)
    (case l0 => k_is)
    (case c0 => k_is)
    (case k0 => k_is)
    (case a1 => k_is)
    (case l1 => k_is)
    (case c1 => k_is)
    (case k1 => k_is)
    (case a2 => k_is)
    (case l2 => k_is)
    (case c2 => k_is)
    (case k2 => k_is)
    (case a3 => k_is)
    (case l3 => k_is)
    (case c3 => k_is)
    (case k3 => k_is)
    (case a4 => k_is)
    (case l4 => k_is)
    (case c4 => k_is)
    (case k4 => k_is)
    (case d4 => k_is)
    (case a5 => k_is)
    (case l5 => k_is)
    (case c5 => k_is)
    (case k5 => k_is)
    (case a6 => k_is)
    (case l6 => k_is)
    (case c6 => k_is)
    (case k6 => k_is)
    (case a7 => k_is)
    (case l7 => k_is)
    (case c7 => k_is)
    (case k7 => k_is)
    (case a8 => k_is)
    (case l8 => k_is)
    (case c8 => k_is)
    (case k8 => k_is)
    (case a9 => k_is)
    (case l9 => k_is)
    (case c9 => k_is)
    (case k9 => k_is)
    (case a10 => k_is)
    (case l10 => k_is)
    (case c10 => k_is)
    (case k10 => k_is)
    (case a11 => k_is)
    (case l11 => k_is)
    (case c11 => k_is)
    (case k11 => k_is)
    (case a12 => k_is)
    (case l12 => k_is)
    (case c12 => k_is)
    (case k12 => k_is)
    (case a13 => k_is)
    (case l13 => k_is)
    (case c13 => k_is)
    (case k13 => k_is)
    (case a14 => k_is)
    (case l14 => k_is)
    (case c14 => k_is)
    (case k14 => k_is)
    (case a15 => k_is)
    (case l15 => k_is)
    (case c15 => k_is)
    (case k15 => k_is)
    (case a16 => k_is)
    (case l16 => k_is)
    (case c16 => k_is)
    (case k16 => k_is)
    (case a17 => k_is)
    (case l17 => k_is)
    (case c17 => k_is)
    (case k17 => k_is)
    (case a18 => k_is)
    (case l18 => k_is)
    (case c18 => k_is)
    (case k18 => k_is)
    (case a19 => k_is)
    (case l19 => k_is)
    (case c19 => k_is)
    (case k19 => k_is)
    (case a20 => k_is)
    (case l20 => k_is)
    (case c20 => k_is)
    (case k20 => k_is)
    (case a21 => k_is)
    (case l21 => k_is)
    (case c21 => k_is)
    (case k21 => k_is)
    (case a22 => k_is)
    (case l22 => k_is)
    (case c22 => k_is)
    (case k22 => k_is)
    (case a23 => k_is)
    (case l23 => k_is)
    (case c23 => k_is)
    (case k23 => k_is)
    (case a24 => k_is)
    (case l24 => k_is)
    (case c24 => k_is)
    (case k24 => k_is)
    (case a25 => k_is)
    (case l25 => k_is)
    (case c25 => k_is)
    (case k25 => k_is)
    (case a26 => k_is)
    (case l26 => k_is)
    (case c26 => k_is)
    (case k26 => k_is)
    (case a27 => k_is)
    (case l27 => k_is)
    (case c27 => k_is)
    (case k27 => k_is)
    (case a28 => k_is)
    (case l28 => k_is)
    (case c28 => k_is)
    (case k28 => k_is)
    (case a29 => k_is)
    (case l29 => k_is)
    (case c29 => k_is)
    (case k29 => k_is)
    (case a30 => k_is)
    (case l30 => k_is)
    (case c30 => k_is)
    (case k30 => k_is)
    (case z0 => k_is)
    (case z1 => k_is)
    (case z2 => k_is)
    (case z3 => k_is)
    (case z4 => k_is)
    (case z5 => k_is)
    (case z6 => k_is)
    (case z7 => k_is)
    (case z8 => k_is)
    (case z9 => k_is)
    (case z10 => k_is)
    (case z11 => k_is)
    (case z12 => k_is)
    (case z13 => k_is)
    (case z14 => k_is)
    (case z15 => k_is)


