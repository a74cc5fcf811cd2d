import PyProof.Rows.All
import Wide.All
import OpenK.AllK
import Wide.FinOn
import Lean
import PyProof.EqAt
import PyProof.EqKinds
import PyProof.TupleCall
import PySem.Challenge.RW_quartersheet_k15_what_is_a_sheet
set_option Elab.async false
set_option linter.all false
set_option maxRecDepth 100000

namespace L2
open PySem PySem.Spec PyProof.Rows


abbrev Key := Sum Int Str
def keyIs : Key → Value → Bool
  | .inl k, v => Value.isInt k v
  | .inr x, v => Value.isStrOf x v
def keyH (w : World) : Key → Int
  | .inl k => hashInt k
  | .inr x => hashStr w x
theorem keyIs_shape : ∀ {k : Key} {v : Value}, keyIs k v = true → (∃ i t, k = Sum.inl i ∧ v = Value.int i t) ∨ (∃ x t, k = Sum.inr x ∧ v = Value.str x t)
  | .inl i, v, h => by
    obtain ⟨t, e⟩ := Value.isInt_shape (k := i) (v := v) h
    exact .inl ⟨i, t, rfl, e⟩
  | .inr x, v, h => by
    obtain ⟨t, e⟩ := Value.isStrOf_shape (x := x) (v := v) h
    exact .inr ⟨x, t, rfl, e⟩
theorem key_ll (a b : Int) : decide ((Sum.inl a : Key) = Sum.inl b) = (a == b) := by
  by_cases e : a = b
  · subst e; simp
  · have h : ¬ (Sum.inl a : Key) = Sum.inl b := fun q => e (Sum.inl.inj q)
    rw [decide_eq_false h]
    exact (beq_eq_false_iff_ne.mpr e).symm
theorem key_rr (a b : Str) : decide ((Sum.inr a : Key) = Sum.inr b) = decide (a = b) := by
  by_cases e : a = b
  · subst e; simp
  · have h : ¬ (Sum.inr a : Key) = Sum.inr b := fun q => e (Sum.inr.inj q)
    rw [decide_eq_false h, decide_eq_false e]
theorem key_lr (a : Int) (b : Str) : decide ((Sum.inl a : Key) = Sum.inr b) = false := decide_eq_false (fun q => nomatch q)
theorem key_rl (a : Str) (b : Int) : decide ((Sum.inr a : Key) = Sum.inl b) = false := decide_eq_false (fun q => nomatch q)

def mixKind (prog : Program) (w : World) : PySem.KeyKind prog w Key where
  is := keyIs
  hash := keyH w
  inj := fun v a b ha hb => by
    rcases keyIs_shape ha with ⟨i, t, rfl, rfl⟩ | ⟨x, t, rfl, rfl⟩
    · rcases keyIs_shape hb with ⟨j, u, rfl, e⟩ | ⟨y, u, rfl, e⟩
      · injection e with e1 _; rw [e1]
      · exact nomatch e
    · rcases keyIs_shape hb with ⟨j, u, rfl, e⟩ | ⟨y, u, rfl, e⟩
      · exact nomatch e
      · injection e with e1 _; rw [e1]
  byValue := fun k v h => by
    rcases keyIs_shape h with ⟨i, t, rfl, rfl⟩ | ⟨x, t, rfl, rfl⟩ <;> rfl
  pyHash := fun hv h => by
    rcases keyIs_shape hv with ⟨i, t, rfl, rfl⟩ | ⟨x, t, rfl, rfl⟩
    · exact wpAny_pyHash_int h
    · exact wpAny_pyHash_str h
  eqBool := fun hu hv h => by
    rcases keyIs_shape hu with ⟨i, t, rfl, rfl⟩ | ⟨x, t, rfl, rfl⟩
    · rcases keyIs_shape hv with ⟨j, u, rfl, rfl⟩ | ⟨y, u, rfl, rfl⟩
      · rw [key_ll] at h; exact wpAny_eqBool_int h
      · rw [key_lr] at h; exact SeqAt.EqAt.int_str i t y u _ _ _ _ h
    · rcases keyIs_shape hv with ⟨j, u, rfl, rfl⟩ | ⟨y, u, rfl, rfl⟩
      · rw [key_rl] at h; exact SeqAt.EqAt.str_int x t j u _ _ _ _ h
      · rw [key_rr] at h; exact wpAny_eqBool_str h
  «strs» := fun k x t v h => by
    rcases keyIs_shape h with ⟨i, u, rfl, e⟩ | ⟨y, u, rfl, e⟩
    · exact nomatch e
    · injection e with e1 _
      subst e1
      cases v <;> rfl

end L2

namespace L2
open PySem PySem.Spec PyProof.Rows


inductive V where
  | non | bl (b : Bool) | int (i : Int) | str (x : Str) | byt (b : Array UInt8) | flt (b : UInt64) | ref (a : Addr) | ty (n : String)
  deriving DecidableEq

def RelV : V → Value → Prop
  | .non, u => u = Value.none
  | .bl b, u => u = Value.bool b
  | .int i, u => ∃ t, u = Value.int i t
  | .str x, u => ∃ t, u = Value.str x t
  | .byt b, u => ∃ t, u = Value.bytes b t
  | .flt b, u => ∃ t, u = Value.float b t
  | .ref a, u => u = Value.ref a
  | .ty n, u => u = Value.type n

abbrev Vals : List V → List Value → Prop := Paired RelV
theorem Vals.length {xs : List V} {us : List Value} (r : Vals xs us) : xs.length = us.length := Paired.length r
theorem Vals.get : ∀ {xs : List V} {us : List Value} {i : Nat} {x : V}, Vals xs us → xs[i]? = some x → ∃ u, us[i]? = some u ∧ RelV x u
  | _, _, _, _, .nil, e => by simp at e
  | _, _, 0, _, .cons r _, e => by simp at e; subst e; exact ⟨_, rfl, r⟩
  | _, _, i + 1, x, .cons _ t, e => by
    obtain ⟨u, h1, h2⟩ := Vals.get (i := i) (x := x) t (by simpa using e)
    exact ⟨u, by simpa using h1, h2⟩
theorem Vals.set {x : V} {u : Value} (r : RelV x u) : ∀ {xs : List V} {us : List Value} (i : Nat), Vals xs us → Vals (xs.set i x) (us.set i u)
  | _, _, _, .nil => .nil
  | _, _, 0, .cons _ t => .cons r t
  | _, _, i + 1, .cons q t => .cons q (Vals.set r i t)
theorem Vals.append : ∀ {xs ys : List V} {us ws : List Value}, Vals xs us → Vals ys ws → Vals (xs ++ ys) (us ++ ws)
  | _, _, _, _, .nil, s => s
  | _, _, _, _, .cons r t, s => .cons r (Vals.append t s)
theorem Vals.take : ∀ {xs : List V} {us : List Value} (n : Nat), Vals xs us → Vals (xs.take n) (us.take n)
  | _, _, 0, _ => .nil
  | _, _, _ + 1, .nil => .nil
  | _, _, n + 1, .cons r t => .cons r (Vals.take n t)
theorem Vals.drop : ∀ {xs : List V} {us : List Value} (n : Nat), Vals xs us → Vals (xs.drop n) (us.drop n)
  | _, _, 0, r => r
  | _, _, _ + 1, .nil => .nil
  | _, _, n + 1, .cons _ t => Vals.drop n t
def RelO : Option V → Option Value → Prop
  | some v, some u => RelV v u
  | none, none => True
  | _, _ => False
def KV {κ : Type} : List (κ × V) → List (κ × Value) → Prop := Paired fun (p : κ × V) (q : κ × Value) => p.1 = q.1 ∧ RelV p.2 q.2


def kV : Key → V
  | .inl i => .int i
  | .inr x => .str x


inductive HO where
  
  | lst (xs : List V)
  
  | tup (xs : List V)
  
  | dK (kvs : List (Key × V)) | dT (kvs : List (List Key × V))
  
  | set (S : Int → Bool) (n : Nat)
  
  | ins (C dx : Addr) (fs : List (Str × V))
  
  | own (x : Addr)
  
  | xd (fs : List (Str × V))
  
  | met (f x : Addr)
  
  | rng (lo hi : Int)
  
  | frz (o : Obj) (u : HO)
  
  | tbl (ps : Array Value)
  
  | ext (φ : Heap → Prop)

abbrev Hp := Addr → Option HO
def upd (H : Hp) (a : Addr) (o : HO) : Hp := fun b => if b = a then some o else H b
theorem upd_same {H : Hp} {a : Addr} {o : HO} : upd H a o a = some o := by unfold upd; rw [if_pos rfl]
theorem upd_ne {H : Hp} {a b : Addr} {o : HO} (h : b ≠ a) : upd H a o b = H b := by unfold upd; rw [if_neg h]
theorem ne_of {H : Hp} {a b : Addr} {o u : HO} (h : H a = some o) (h' : H b = some u) (d : o ≠ u) : a ≠ b := by
  intro e; subst e; rw [h] at h'; exact d (Option.some.inj h')
theorem ne_of_none {H : Hp} {a b : Addr} {o : HO} (h : H a = some o) (h' : H b = none) : a ≠ b := by
  intro e; subst e; rw [h] at h'; cases h'

section
variable (P : Program) (w : World)
def ObjOk (H : Hp) (h : Heap) (a : Addr) : HO → Prop
  | .lst xs => xs.length ≤ sizeLine ∧ ∃ (its : List Value) (n : Nat), Vals xs its ∧ h.get? a = some { cls := .type "list", data := .seq its.toArray n }
  | .tup xs => xs.length ≤ sizeLine ∧ ∃ its : List Value, Vals xs its ∧ IsTup h a its.toArray
  | .dK kvs => kvs.length ≤ sizeLine ∧ (a == sysModules) = false ∧ ∃ vs, KV kvs vs ∧ h.DictOf (mixKind P w) a vs
  | .dT kvs => kvs.length ≤ sizeLine ∧ (a == sysModules) = false ∧ ∃ xs : List (List Key × Addr × Value),
      Paired (fun (p : List Key × V) (q : List Key × Addr × Value) => p.1 = q.1 ∧ H q.2.1 = some (.tup (p.1.map kV)) ∧ RelV p.2 q.2.2) kvs xs ∧
      ∃ o es ep, h.get? a = some o ∧ o.ExactDict ∧ o.data = .dict es ep ∧ es.toList = xs.map (entryOfKey (tupleKind (mixKind P w))) ∧ (xs.map (·.1)).Nodup
  | .set S n => h.SetOf (intKind P w) a S n
  | .ins C dx fs => H dx = some (.own a) ∧ fs.length ≤ 1000 ∧ dx ≠ a ∧ h.get? a = some (PySem.W.instObj C dx) ∧
      ∃ mA, h.Ns1 dx mA ∧ (∀ f, RelO (fs.lookup f) (mA f)) ∧ PySem.Within mA (fs.map (·.1))
  | .own _ => ∃ o, h.get? a = some o
  | .xd fs => ∃ mA, h.Ns1 a mA ∧ ∀ f, RelO (fs.lookup f) (mA f)
  | .rng lo hi => ∃ t u v, h.get? a = some { cls := .type "range", data := .fields #[.int lo t, .int hi u, .int 1 v] }
  | .frz o u => h.get? a = some o ∧ ObjOk H h a u
  | .tbl ps => h.get? a = some { cls := .none, data := .fields ps }
  | .met f x => h.get? a = some (PySem.W.methodObj (.ref f) (.ref x))
  | .ext φ => φ h ∧ (∃ o, h.get? a = some o) ∧ ∀ h1 h2 : Heap, φ h1 → (∀ o, h1.get? a = some o → h2.get? a = some o) → φ h2

def HOk (H : Hp) (h : Heap) : Prop := ∀ a o, H a = some o → ObjOk P w H h a o
end

section
variable {P : Program} {w : World} {H H' : Hp} {h h' : Heap} {a : Addr} {o : HO}
theorem ObjOk.lt (x : ObjOk P w H h a o) : a < h.objs.size := by
  cases o with
  | lst xs => obtain ⟨_, _, _, _, e⟩ := x; exact Heap.lt_size e
  | tup xs => obtain ⟨_, _, _, p⟩ := x; exact p.lt
  | dK kvs => obtain ⟨_, _, _, _, o, _, _, e, _⟩ := x; exact Heap.lt_size e
  | dT kvs => obtain ⟨_, _, _, _, o, _, _, e, _⟩ := x; exact Heap.lt_size e
  | set S n => obtain ⟨o, _, _, _, e, _⟩ := x; exact Heap.lt_size e
  | ins C dx fs => obtain ⟨_, _, _, e, _⟩ := x; exact Heap.lt_size e
  | own y => obtain ⟨_, e⟩ := x; exact Heap.lt_size e
  | xd fs => obtain ⟨_, ⟨_, _, _, e, _⟩, _⟩ := x; exact Heap.lt_size e
  | rng lo hi => obtain ⟨_, _, _, e⟩ := x; exact Heap.lt_size e
  | frz ob u => obtain ⟨e, _⟩ := x; exact Heap.lt_size e
  | tbl ps => exact Heap.lt_size (show h.get? a = some _ from x)
  | met f y => exact Heap.lt_size (show h.get? a = some _ from x)
  | ext φ => obtain ⟨_, ⟨_, e⟩, _⟩ := x; exact Heap.lt_size e
theorem Paired.mapP {α β : Type} {F G : α → β → Prop} : ∀ {l₁ : List α} {l₂ : List β}, Paired F l₁ l₂ → (∀ a b, F a b → G a b) → Paired G l₁ l₂
  | _, _, .nil, _ => .nil
  | _, _, .cons r t, f => .cons (f _ _ r) (Paired.mapP t f)
theorem ObjOk.stay (x : ObjOk P w H h a o) (k : ∀ b u, (b = a ∨ H b = some (.own a)) → h.get? b = some u → h'.get? b = some u)
    (ho : ∀ b, H b = some (.own a) → H' b = some (.own a)) (ht : ∀ b xs, H b = some (.tup xs) → H' b = some (.tup xs)) : ObjOk P w H' h' a o := by
  induction o with
  | lst xs => obtain ⟨z, its, n, r, e⟩ := x; exact ⟨z, its, n, r, k _ _ (.inl rfl) e⟩
  | tup xs => obtain ⟨z, its, r, ob, e, c⟩ := x; exact ⟨z, its, r, ob, k _ _ (.inl rfl) e, c⟩
  | dK kvs => obtain ⟨z, y, vs, r, ob, es, ep, e, c⟩ := x; exact ⟨z, y, vs, r, ob, es, ep, k _ _ (.inl rfl) e, c⟩
  | dT kvs =>
    obtain ⟨z, y, xs, r, ob, es, ep, e, c⟩ := x
    exact ⟨z, y, xs, Paired.mapP r fun p q z => ⟨z.1, ht _ _ z.2.1, z.2.2⟩, ob, es, ep, k _ _ (.inl rfl) e, c⟩
  | set S n => obtain ⟨ob, es, ep, t, e, c⟩ := x; exact ⟨ob, es, ep, t, k _ _ (.inl rfl) e, c⟩
  | ins C dx fs =>
    obtain ⟨d, z, ne, e, mA, ⟨od, es, ep, e2, c⟩, r⟩ := x
    exact ⟨ho _ d, z, ne, k _ _ (.inl rfl) e, mA, ⟨od, es, ep, k _ _ (.inr d) e2, c⟩, r⟩
  | own y => obtain ⟨ob, e⟩ := x; exact ⟨ob, k _ _ (.inl rfl) e⟩
  | xd fs => obtain ⟨mA, ⟨od, es, ep, e, c⟩, r⟩ := x; exact ⟨mA, ⟨od, es, ep, k _ _ (.inl rfl) e, c⟩, r⟩
  | rng lo hi => obtain ⟨t, u, v, e⟩ := x; exact ⟨t, u, v, k _ _ (.inl rfl) e⟩
  | frz ob u ih => obtain ⟨e, q⟩ := x; exact ⟨k _ _ (.inl rfl) e, ih q⟩
  | tbl ps =>
    have e : h.get? a = some { cls := .none, data := .fields ps } := x
    show h'.get? a = some { cls := .none, data := .fields ps }
    exact k a _ (.inl rfl) e
  | met f y =>
    have e : h.get? a = some (PySem.W.methodObj (.ref f) (.ref y)) := x
    show h'.get? a = some (PySem.W.methodObj (.ref f) (.ref y))
    exact k a _ (.inl rfl) e
  | ext φ => obtain ⟨p, ⟨o, e⟩, st⟩ := x; exact ⟨st _ _ p fun o q => k _ _ (.inl rfl) q, ⟨o, k _ _ (.inl rfl) e⟩, st⟩
theorem HOk.lt (x : HOk P w H h) (e : H a = some o) : a < h.objs.size := (x a o e).lt
theorem HOk.fresh (x : HOk P w H h) (e : h.objs.size ≤ a) : H a = none := by
  cases q : H a with
  | none => rfl
  | some u => exact absurd (Nat.lt_of_lt_of_le (x.lt q) e) (Nat.lt_irrefl _)

theorem HOk.kept (x : HOk P w H h) (k : ∀ b u, h.get? b = some u → h'.get? b = some u) : HOk P w H h' := fun a o e =>
  (x a o e).stay (fun b u _ q => k b u q) (fun _ q => q) fun _ _ q => q

theorem HOk.laid (x : HOk P w H h) (k : ∀ b u, h.get? b = some u → h'.get? b = some u) (hp : h.objs.size ≤ a) (new : ObjOk P w (upd H a o) h' a o) : HOk P w (upd H a o) h' := fun b u e => by
  have hn := x.fresh hp
  by_cases hb : b = a
  · subst hb; rw [upd_same] at e; cases e; exact new
  · rw [upd_ne hb] at e
    exact (x b u e).stay (fun c v _ q => k c v q) (fun c q => by rw [upd_ne (ne_of_none q hn)]; exact q) fun c xs q => by rw [upd_ne (ne_of_none q hn)]; exact q
end


def Rd (H : Hp) (a : Addr) (u : HO) : Prop := H a = some u ∨ ∃ o, H a = some (.frz o u)
theorem Rd.ok {P : Program} {w : World} {H : Hp} {h : Heap} {a : Addr} {u : HO} (r : Rd H a u) (x : HOk P w H h) : ObjOk P w H h a u := by
  rcases r with r | ⟨o, r⟩
  · exact x a u r
  · obtain ⟨_, q⟩ := x a _ r
    exact q

def Mut : Option HO → Prop
  | some (.lst _) => True
  | some (.dK _) => True
  | some (.dT _) => True
  | some (.set _ _) => True
  | some (.ins _ _ _) => True
  | some (.ext _) => True
  | _ => False
section
variable {P : Program} {w : World} {H : Hp} {h h' : Heap} {x e : Addr} {o' : HO}

theorem HOk.write (ok : HOk P w H h) (mu : Mut (H x)) (he : e = x ∨ H e = some (.own x)) (k : ∀ b u, b ≠ e → h.get? b = some u → h'.get? b = some u) (heo : ∃ u, h'.get? e = some u)
    (new : ObjOk P w (upd H x o') h' x o') : HOk P w (upd H x o') h' := fun b u q => by
  have nown : ∀ c y, H c = some (.own y) → c ≠ x := fun c y r z => by subst z; rw [r] at mu; exact mu
  have ntup : ∀ c xs, H c = some (.tup xs) → c ≠ x := fun c xs r z => by subst z; rw [r] at mu; exact mu
  by_cases hb : b = x
  · subst hb; rw [upd_same] at q; cases q; exact new
  · rw [upd_ne hb] at q
    by_cases hbe : b = e
    · have q' : H b = some (.own x) := by
        rcases he with z | z
        · exact absurd (hbe.trans z) hb
        · rw [hbe]; exact z
      rw [q] at q'; cases q'
      obtain ⟨v, hv⟩ := heo
      exact ⟨v, by rw [hbe]; exact hv⟩
    · refine (ok b u q).stay (fun c v hc r => k c v ?_ r) (fun c r => by rw [upd_ne (nown c b r)]; exact r) fun c xs r => by rw [upd_ne (ntup c xs r)]; exact r
      rcases hc with rfl | hc
      · exact hbe
      · rintro rfl
        rcases he with z | z
        · exact nown c b hc z
        · rw [hc] at z; cases z; exact hb rfl
end


structure Un (fs ex : List Addr) (H H' : Hp) (h h' : Heap) : Prop where
  keep : ∀ b o, h.get? b = some o → H b = none → b ∉ fs → b ∉ ex → h'.get? b = some o
  slot : ∀ b o, h.get? b = some o → H b = none → b ∈ fs → b ∉ ex → ∃ sl, h'.get? b = some { o with slots := sl }
  free : ∀ b o, h.get? b = some o → H b = none → b ∉ ex → H' b = none
  there : ∀ b o, h.get? b = some o → b ∉ ex → ∃ o', h'.get? b = some o'
  tups : ∀ b xs, H b = some (.tup xs) → H' b = some (.tup xs)
  frzs : ∀ b o u, H b = some (.frz o u) → H' b = some (.frz o u)
  tbls : ∀ b ps, H b = some (.tbl ps) → ∃ more, H' b = some (.tbl (ps ++ more))
section
variable {fs fs' ex ex' : List Addr} {H H1 H2 : Hp} {h h1 h2 h' : Heap} {a x e : Addr} {o : HO}
theorem Un.any (u : Un fs ex H H1 h h1) {b : Addr} {ob : Obj} (q : h.get? b = some ob) (n : H b = none) (hx : b ∉ ex) : ∃ sl, h1.get? b = some { ob with slots := sl } := by
  by_cases hb : b ∈ fs
  · exact u.slot b ob q n hb hx
  · exact ⟨ob.slots, u.keep b ob q n hb hx⟩
theorem Un.kept (k : ∀ b u, h.get? b = some u → h'.get? b = some u) : Un fs ex H H h h' :=
  ⟨fun b ob q _ _ _ => k b ob q, fun b ob q _ _ _ => ⟨ob.slots, k b ob q⟩, fun _ _ _ n _ => n, fun b ob q _ => ⟨ob, k b ob q⟩, fun _ _ q => q, fun _ _ _ q => q, fun _ ps q => ⟨#[], by rw [q]; simp⟩⟩
theorem Un.refl : Un fs ex H H h h := Un.kept fun _ _ q => q
theorem Un.laid (k : ∀ b u, h.get? b = some u → h'.get? b = some u) (hp : h.objs.size ≤ a) (hn : H a = none) : Un fs ex H (upd H a o) h h' where
  keep := fun b u q _ _ _ => k b u q
  slot := fun b u q _ _ _ => ⟨u.slots, k b u q⟩
  free := fun b u q n _ => by rw [upd_ne (Nat.ne_of_lt (Nat.lt_of_lt_of_le (Heap.lt_size q) hp))]; exact n
  there := fun b u q _ => ⟨u, k b u q⟩
  tups := fun b xs q => by rw [upd_ne (ne_of_none q hn)]; exact q
  frzs := fun b u xs q => by rw [upd_ne (ne_of_none q hn)]; exact q
  tbls := fun b ps q => ⟨#[], by rw [upd_ne (ne_of_none q hn), q]; simp⟩
theorem Un.write (mu : Mut (H x)) (he : e = x ∨ H e = some (.own x)) (k : ∀ b u, b ≠ e → h.get? b = some u → h'.get? b = some u) (heo : ∃ u, h'.get? e = some u) : Un fs ex H (upd H x o) h h' := by
  have hx : ∀ b, H b = none → b ≠ x := fun b n z => by subst z; rw [n] at mu; exact mu
  have hb : ∀ b, H b = none → b ≠ e := fun b n z => by
    subst z
    rcases he with r | r
    · exact hx b n r
    · rw [n] at r; cases r
  have hm : ∀ b u, H b = some u → ¬ Mut (some u) → b ≠ x := fun b u q nm z => by subst z; rw [q] at mu; exact nm mu
  refine ⟨fun b u q n _ _ => k b u (hb b n) q, fun b u q n _ _ => ⟨u.slots, k b u (hb b n) q⟩, fun b u q n _ => by rw [upd_ne (hx b n)]; exact n, fun b u q _ => ?_,
    fun b xs q => by rw [upd_ne (hm b _ q fun z => z)]; exact q, fun b u xs q => by rw [upd_ne (hm b _ q fun z => z)]; exact q, fun b ps q => ⟨#[], by rw [upd_ne (hm b _ q fun z => z), q]; simp⟩⟩
  by_cases hbe : b = e
  · subst hbe; exact heo
  · exact ⟨u, k b u hbe q⟩
end


def trk (h : Heap) (H : Hp) : List Addr := (List.range h.objs.size).filter fun a => (H a).isSome
def hidT (h : Heap) (H : Hp) : Heap := PySem.W.hideAll h (trk h H)
theorem hidT_size (h : Heap) (H : Hp) : (hidT h H).objs.size = h.objs.size := PySem.W.hideAll_size _ _
theorem hidT_get {h : Heap} {H : Hp} {b : Addr} {o : Obj} (e : h.get? b = some o) (n : H b = none) : (hidT h H).get? b = some o :=
  PySem.W.hideAll_get _ e fun hm => by
    have q : (H b).isSome = true := (List.mem_filter.mp hm).2
    rw [n] at q; simp at q
theorem of_hidT {h : Heap} {H : Hp} {b : Addr} {o : Obj} (e : (hidT h H).get? b = some o) : h.get? b = some o ∧ H b = none := by
  have e' : h.get? b = some o := PySem.W.of_hideAll (trk h H) e
  refine ⟨e', ?_⟩
  cases q : H b with
  | none => rfl
  | some x =>
    have hm : b ∈ trk h H := List.mem_filter.mpr ⟨List.mem_range.mpr (Heap.lt_size e'), by simp [q]⟩
    have z : (hidT h H).get? b = none := PySem.W.hideAll_none (trk h H) hm
    rw [z] at e; cases e


end L2

namespace L2
open PySem PySem.Spec PyProof.Rows


structure Mod (K : PySem.W.Frag) (mg : Str → Option Value) (base : Heap) : Prop where
  kin : K.In base
  glob : base.Ns mainGlobals mg
  blt : ∃ mb, base.Ns builtinsNs mb ∧ ∀ x : Str, x ≠ "__name__" → mb x = bootBuiltins x
  nolimit : base.NoLimit


structure Cx where
  prog : Program
  w : World
  K : PySem.W.Frag
  mg : Str → Option Value
  base : Heap
  A : Around
  N : List Str
  s₀ : Shared
  H₀ : Hp
  env : Env
  outer : List Env
  stack : List Env
  ex : List Addr
  fn : Str → Bool
  calm : Bool
  pn : List (Addr × Obj)
  xe : Value → Shared → Prop

def frs (l : List Env) : List Addr := l.filterMap (·.frame)
abbrev Cx.fs (X : Cx) : List Addr := frs X.outer

def Vis (sc : Scope) (x : Str) : Prop := sc.names.lookup x = some .local ∨ sc.names.lookup x = some .cell ∨ sc.names.lookup x = some .free
def Loc (sc : Scope) (x : Str) : Prop := sc.names.lookup x = some .local ∨ sc.names.lookup x = some .cell
def Look (env : Env) (h : Heap) (m : Str → Option Value) (x : Str) (u : Value) : Prop :=
  (env.kindOf x = some .local ∧ m x = some u) ∨ ((env.kindOf x = some .cell ∨ env.kindOf x = some .free) ∧ ∃ c, env.cells.lookup x = some c ∧ h.IsCell c (some u))

structure Cx.Ok (X : Cx) : Prop where
  mod : Mod X.K X.mg X.base
  kind : X.env.scope.kind = .function
  glob : X.env.globals = mainGlobals
  blt : X.env.builtins = builtinsNs
  above : X.s₀.heap.objs.size ≤ X.env.locals
  inj : ∀ x y c, X.env.cells.lookup x = some c → X.env.cells.lookup y = some c → x = y
  has : ∀ x, (X.env.kindOf x = some .cell ∨ X.env.kindOf x = some .free) → ∃ c, X.env.cells.lookup x = some c
  cab : ∀ x c, X.fn x = true → X.env.cells.lookup x = some c → X.s₀.heap.objs.size ≤ c
  hd : X.calm = true → X.A.handled = none
  frames : X.A.frames = some X.stack
  stk : X.stack = X.outer ∨ (X.stack = X.env :: X.outer ∧ X.env.frame = some X.env.locals)
  exf : ∀ b ∈ X.ex, b ≠ X.env.locals ∧ ∀ x c, X.env.cells.lookup x = some c → c ≠ b
  bs : ∀ b o, X.base.get? b = some o → X.s₀.heap.get? b = some o ∧ X.H₀ b = none
  bsz : X.base.objs.size ≤ X.s₀.heap.objs.size
  noex : ∀ b o, X.base.get? b = some o → b ∉ X.ex
  exfs : ∀ b ∈ X.ex, b ∉ X.fs
  funs : X.s₀.heap.FunFrames X.base X.outer
  frf : ∀ b ∈ X.fs, X.H₀ b = none

structure Inv (X : Cx) (pins : List (Addr × Obj)) (σ : List (Option V)) (H : Hp) (s : Shared) : Prop where
  ok : X.Ok
  os : s.os = X.s₀.os
  bare : AllBare s.gens
  base : Un X.fs X.ex X.H₀ H X.s₀.heap s.heap
  loc : ∃ m, s.heap.Ns X.env.locals m ∧ ∀ (i : Nat) (x : Str) (v : V), X.N[i]? = some x → σ[i]? = some (some v) → Vis X.env.scope x → ∃ u, RelV v u ∧ Look X.env s.heap m x u
  cell : ∀ x c, X.env.cells.lookup x = some c → ∃ v, s.heap.IsCell c v
  free : H X.env.locals = none
  freeC : ∀ x c, X.env.cells.lookup x = some c → H c = none
  pin : ∀ p ∈ X.pn ++ pins, s.heap.get? p.1 = some p.2 ∧ H p.1 = none ∧ p.1 ≠ X.env.locals ∧ p.1 ∉ X.fs ∧ ∀ v, p.2.data ≠ .cell v
  hok : HOk X.prog X.w H s.heap
  len : σ.length = X.N.length

section
variable {X : Cx} {pins : List (Addr × Obj)} {σ : List (Option V)} {H H' : Hp} {s : Shared} {h' : Heap}

theorem Cx.Ok.nofr (ok : X.Ok) {b : Addr} {o : Obj} (e : X.base.get? b = some o) : b ∉ X.fs := fun hb => by
  have := (ok.funs.mem hb).1
  rw [e] at this; cases this
theorem Inv.bs (I : Inv X pins σ H s) : ∀ b o, X.base.get? b = some o → s.heap.get? b = some o ∧ H b = none := fun b o e =>
  ⟨I.base.keep b o (I.ok.bs b o e).1 (I.ok.bs b o e).2 (I.ok.nofr e) (I.ok.noex b o e), I.base.free b o (I.ok.bs b o e).1 (I.ok.bs b o e).2 (I.ok.noex b o e)⟩
theorem Inv.bk (I : Inv X pins σ H s) : ∀ b o, X.base.get? b = some o → s.heap.get? b = some o := fun b o e => (I.bs b o e).1
theorem Inv.mod (I : Inv X pins σ H s) : Mod X.K X.mg X.base := I.ok.mod
theorem Inv.kIn (I : Inv X pins σ H s) : X.K.In s.heap := I.ok.mod.kin.keeps I.bk
theorem Inv.lt (I : Inv X pins σ H s) : X.env.locals < s.heap.objs.size := let ⟨_, hn, _⟩ := I.loc; hn.lt
theorem Inv.sz (I : Inv X pins σ H s) : X.s₀.heap.objs.size ≤ s.heap.objs.size := Nat.le_trans I.ok.above (Nat.le_of_lt I.lt)
theorem Inv.nofs (I : Inv X pins σ H s) {a : Addr} (h : s.heap.objs.size ≤ a) : a ∉ X.fs := fun hb => by
  obtain ⟨_, o, ho, _⟩ := I.ok.funs.mem hb
  exact absurd (Nat.lt_of_lt_of_le (Heap.lt_size ho) (Nat.le_trans I.sz h)) (Nat.lt_irrefl _)
theorem Inv.cne (I : Inv X pins σ H s) : ∀ x c, X.env.cells.lookup x = some c → c ≠ X.env.locals := fun x c e z => by
  obtain ⟨v, o, ho, hd⟩ := I.cell x c e
  obtain ⟨m, ⟨o', es, ep, ho', hd', _⟩, _⟩ := I.loc
  rw [z, ho'] at ho; cases ho; rw [hd'] at hd; cases hd
theorem Inv.funs (I : Inv X pins σ H s) : s.heap.FunFrames X.base X.outer := by
  have all : ∀ (l : List Env), (∀ b ∈ frs l, b ∈ X.fs) → X.s₀.heap.FunFrames X.base l → s.heap.FunFrames X.base l := by
    intro l
    induction l with
    | nil => intro _ _; trivial
    | cons env r ih =>
      intro hs hl
      obtain ⟨hk, ⟨L, o, hf, hn, ho, hd⟩, hr⟩ := hl
      have hL : L ∈ X.fs := hs L (by unfold frs; rw [List.filterMap_cons, hf]; exact List.mem_cons_self)
      obtain ⟨sl, e⟩ := I.base.slot L o ho (I.ok.frf L hL) hL fun z => I.ok.exfs L z hL
      exact ⟨hk, ⟨L, _, hf, hn, e, hd⟩, ih (fun b hb => hs b (by unfold frs; rw [List.filterMap_cons, hf]; exact List.mem_cons_of_mem _ hb)) hr⟩
  exact all X.outer (fun _ hb => hb) I.ok.funs


theorem Inv.stack (I : Inv X pins σ H s) : s.heap.FunFrames X.base X.stack := by
  rcases I.ok.stk with e | ⟨e, hf⟩
  · rw [e]; exact I.funs
  · rw [e]
    obtain ⟨m, hn, _⟩ := I.loc
    refine .cons (by rw [I.ok.kind]; decide) hf hn ?_ I.funs
    exact Heap.get?_none_of_le (Nat.le_trans I.ok.bsz I.ok.above)
theorem Inv.stkSub (I : Inv X pins σ H s) : ∀ b ∈ frs X.stack, b ∈ X.env.locals :: X.fs := fun b hb => by
  rcases I.ok.stk with e | ⟨e, hf⟩
  · rw [e] at hb; exact List.mem_cons_of_mem _ hb
  · rw [e] at hb
    unfold frs at hb
    rw [List.filterMap_cons, hf] at hb
    exact hb
theorem Inv.stkFree (I : Inv X pins σ H s) : ∀ b ∈ frs X.stack, H b = none := fun b hb => by
  rcases List.mem_cons.mp (I.stkSub b hb) with e | hb
  · rw [e]; exact I.free
  · obtain ⟨_, o, ho, _⟩ := I.ok.funs.mem hb
    exact I.base.free b o ho (I.ok.frf b hb) fun z => I.ok.exfs b z hb


theorem Inv.step {g' : Array GenState} {t' : Nat} {d' : Drawn} {ch : List Addr} (I : Inv X pins σ H s)
    (hch : ∀ b ∈ ch, (b ∈ X.ex ∨ X.s₀.heap.objs.size ≤ b) ∧ b ≠ X.env.locals ∧ (∀ x c, X.env.cells.lookup x = some c → c ≠ b) ∧ ∀ p ∈ X.pn ++ pins, p.1 ≠ b)
    (keep : ∀ b o, b ≠ X.env.locals → b ∉ X.fs → b ∉ ch → s.heap.get? b = some o → H b = none → h'.get? b = some o)
    (slot : ∀ b o, b ≠ X.env.locals → b ∈ X.fs → b ∉ ch → s.heap.get? b = some o → H b = none → ∃ sl, h'.get? b = some { o with slots := sl }) (free : ∀ b o, b ∉ ch → s.heap.get? b = some o → H b = none → H' b = none)
    (there : ∀ b o, b ∉ ch → s.heap.get? b = some o → ∃ o', h'.get? b = some o')
    (tups : ∀ b xs, H b = some (.tup xs) → H' b = some (.tup xs)) (frzs : ∀ b o u, H b = some (.frz o u) → H' b = some (.frz o u)) (tbls : ∀ b ps, H b = some (.tbl ps) → ∃ more, H' b = some (.tbl (ps ++ more)))
    (ns : ∀ m, s.heap.Ns X.env.locals m → h'.Ns X.env.locals m) (hok : HOk X.prog X.w H' h') (hg : AllBare g') :
    Inv X pins σ H' { s with heap := h', gens := g', drawn := d', toks := t' } := by
  have neL : ∀ b o, X.s₀.heap.get? b = some o → b ≠ X.env.locals := fun b o e => Nat.ne_of_lt (Nat.lt_of_lt_of_le (Heap.lt_size e) I.ok.above)
  have neC : ∀ b o, X.s₀.heap.get? b = some o → b ∉ X.ex → b ∉ ch := fun b o e hx hb => by
    rcases (hch b hb).1 with z | z
    · exact hx z
    · exact absurd (Nat.lt_of_lt_of_le (Heap.lt_size e) z) (Nat.lt_irrefl _)
  have cellK : ∀ x c, X.env.cells.lookup x = some c → ∀ v, s.heap.IsCell c v → h'.IsCell c v := fun x c e v ⟨o, ho, hd⟩ => by
    have nch : c ∉ ch := fun z => (hch c z).2.2.1 x c e rfl
    by_cases hc : c ∈ X.fs
    · obtain ⟨sl, q⟩ := slot c o (I.cne x c e) hc nch ho (I.freeC x c e)
      exact ⟨_, q, hd⟩
    · exact ⟨o, keep c o (I.cne x c e) hc nch ho (I.freeC x c e), hd⟩
  refine ⟨I.ok, I.os, hg, ⟨fun b o e n hb hx => ?_, fun b o e n hb hx => ?_, fun b o e n hx => ?_, fun b o e hx => ?_, fun b xs e => tups b xs (I.base.tups b xs e), fun b o xs e => frzs b o xs (I.base.frzs b o xs e), fun b ps e => ?_⟩, ?_, fun x c e => ?_, ?_, fun x c e => ?_, fun p hp => ?_, hok, I.len⟩
  · exact keep b o (neL b o e) hb (neC b o e hx) (I.base.keep b o e n hb hx) (I.base.free b o e n hx)
  · obtain ⟨sl, e1⟩ := I.base.slot b o e n hb hx
    obtain ⟨sl', e2⟩ := slot b _ (neL b o e) hb (neC b o e hx) e1 (I.base.free b o e n hx)
    exact ⟨sl', e2⟩
  · obtain ⟨o', e1⟩ := I.base.there b o e hx
    exact free b o' (neC b o e hx) e1 (I.base.free b o e n hx)
  · obtain ⟨o', e1⟩ := I.base.there b o e hx
    exact there b o' (neC b o e hx) e1
  · obtain ⟨m1, e1⟩ := I.base.tbls b ps e
    obtain ⟨m2, e2⟩ := tbls b _ e1
    exact ⟨m1 ++ m2, by rw [e2, Array.append_assoc]⟩
  · obtain ⟨m, hn, hl⟩ := I.loc
    refine ⟨m, ns m hn, fun i x v e1 e2 e3 => ?_⟩
    obtain ⟨u, r, l⟩ := hl i x v e1 e2 e3
    refine ⟨u, r, ?_⟩
    rcases l with l | ⟨k, c, e, z⟩
    · exact .inl l
    · exact .inr ⟨k, c, e, cellK x c e _ z⟩
  · obtain ⟨v, z⟩ := I.cell x c e
    exact ⟨v, cellK x c e v z⟩
  · obtain ⟨m, ⟨o, _, _, ho, _⟩, _⟩ := I.loc
    exact free _ o (fun z => (hch _ z).2.1 rfl) ho I.free
  · obtain ⟨v, o, ho, hd⟩ := I.cell x c e
    exact free c o (fun z => (hch c z).2.2.1 x c e rfl) ho (I.freeC x c e)
  · obtain ⟨e, n, ne, nf, d⟩ := I.pin p hp
    have nch : p.1 ∉ ch := fun z => (hch p.1 z).2.2.2 p hp rfl
    exact ⟨keep p.1 p.2 ne nf nch e n, free p.1 p.2 nch e n, ne, nf, d⟩

theorem Inv.un {t' : Nat} (I : Inv X pins σ H s) (u : Un X.fs [] H H' s.heap h') (hok : HOk X.prog X.w H' h') : Inv X pins σ H' { s with heap := h', toks := t' } := by
  obtain ⟨m, ⟨o, es, ep, ho, r⟩, _⟩ := id I.loc
  obtain ⟨sl, hL⟩ := u.any ho I.free (by simp)
  exact I.step (g' := s.gens) (d' := s.drawn) (ch := []) (fun _ z => nomatch z) (fun b o _ hb _ e n => u.keep b o e n hb (by simp)) (fun b o _ hb _ e n => u.slot b o e n hb (by simp)) (fun b o _ e n => u.free b o e n (by simp)) (fun b o _ e => u.there b o e (by simp)) u.tups u.frzs u.tbls (fun m' hm => by
    obtain ⟨o', es', ep', ho', r'⟩ := hm
    rw [ho] at ho'; cases ho'
    exact ⟨_, es', ep', hL, r'⟩) hok I.bare

theorem Inv.call {g' : Array GenState} {t' : Nat} {d' : Drawn} {ch : List Addr} (I : Inv X pins σ H s) (u : Un (frs X.stack) ch H H' s.heap h') (hok : HOk X.prog X.w H' h') (hg : AllBare g')
    (hch : ∀ b ∈ ch, (b ∈ X.ex ∨ X.s₀.heap.objs.size ≤ b) ∧ b ≠ X.env.locals ∧ (∀ x c, X.env.cells.lookup x = some c → c ≠ b) ∧ ∀ p ∈ X.pn ++ pins, p.1 ≠ b) :
    Inv X pins σ H' { s with heap := h', gens := g', drawn := d', toks := t' } := by
  obtain ⟨m, ⟨o, es, ep, ho, r⟩, _⟩ := id I.loc
  obtain ⟨sl, hL⟩ := u.any ho I.free fun z => (hch _ z).2.1 rfl
  exact I.step (ch := ch) hch (fun b o hL hb hc e n => u.keep b o e n (fun z => (List.mem_cons.mp (I.stkSub b z)).elim hL hb) hc) (fun b o _ _ hc e n => u.any e n hc) (fun b o hc e n => u.free b o e n hc) (fun b o hc e => u.there b o e hc) u.tups u.frzs u.tbls (fun m' hm => by
    obtain ⟨o', es', ep', ho', r'⟩ := hm
    rw [ho] at ho'; cases ho'
    exact ⟨_, es', ep', hL, r'⟩) hok hg

theorem Inv.turned {t' : Nat} {it : Addr} (I : Inv X pins σ H s) (k : ∀ b o, b ≠ it → s.heap.get? b = some o → h'.get? b = some o) (hn : H it = none) (hL : it ≠ X.env.locals)
    (h1 : it ∈ X.ex ∨ X.s₀.heap.objs.size ≤ it) (h2 : ∀ x c, X.env.cells.lookup x = some c → c ≠ it) (h3 : ∀ p ∈ X.pn ++ pins, p.1 ≠ it) : Inv X pins σ H { s with heap := h', toks := t' } := by
  have nit : ∀ b u, H b = some u → b ≠ it := fun b u e z => by rw [z, hn] at e; cases e
  refine I.step (g' := s.gens) (d' := s.drawn) (ch := [it]) (fun b hb => ?_) (fun b o _ _ hc e _ => k b o (fun z => hc (by simp [z])) e) (fun b o _ _ hc e _ => ⟨o.slots, k b o (fun z => hc (by simp [z])) e⟩) (fun _ _ _ _ n => n)
    (fun b o hc e => ⟨o, k b o (fun z => hc (by simp [z])) e⟩) (fun _ _ e => e) (fun _ _ _ e => e) (fun b ps e => ⟨#[], by rw [e]; simp⟩) (fun m hm => ?_) (fun b u e => ?_) I.bare
  · have e : b = it := by simpa using hb
    subst e
    exact ⟨h1, hL, h2, h3⟩
  · obtain ⟨o, es, ep, ho, r⟩ := hm
    exact ⟨o, es, ep, k _ o (Ne.symm hL) ho, r⟩
  · refine (I.hok b u e).stay (fun c v hc q => k c v ?_ q) (fun _ q => q) fun _ _ q => q
    rcases hc with z | z
    · rw [z]; exact nit b u e
    · exact nit c _ z
theorem Inv.tok (I : Inv X pins σ H s) (t : Nat) : Inv X pins σ H { s with toks := t } := I.un (h' := s.heap) (t' := t) Un.refl I.hok

theorem Inv.kept {t' : Nat} (I : Inv X pins σ H s) (k : ∀ b u, s.heap.get? b = some u → h'.get? b = some u) : Inv X pins σ H { s with heap := h', toks := t' } := I.un (Un.kept k) (I.hok.kept k)

theorem Inv.laid {a : Addr} {o : HO} {t' : Nat} (I : Inv X pins σ H s) (k : ∀ b u, s.heap.get? b = some u → h'.get? b = some u) (hp : s.heap.objs.size ≤ a) (new : ObjOk X.prog X.w (upd H a o) h' a o) :
    Inv X pins σ (upd H a o) { s with heap := h', toks := t' } := I.un (Un.laid k hp (I.hok.fresh hp)) (I.hok.laid k hp new)

theorem Inv.write {x e : Addr} {o : HO} {t' : Nat} (I : Inv X pins σ H s) (mu : Mut (H x)) (he : e = x ∨ H e = some (.own x)) (k : ∀ b u, b ≠ e → s.heap.get? b = some u → h'.get? b = some u) (heo : ∃ u, h'.get? e = some u)
    (new : ObjOk X.prog X.w (upd H x o) h' x o) : Inv X pins σ (upd H x o) { s with heap := h', toks := t' } := I.un (Un.write mu he k heo) (I.hok.write mu he k heo new)

theorem Inv.weak {σ' : List (Option V)} (I : Inv X pins σ H s) (hl : σ'.length = σ.length) (w : ∀ (i : Nat) v, σ'[i]? = some (some v) → σ[i]? = some (some v)) : Inv X pins σ' H s :=
  ⟨I.ok, I.os, I.bare, I.base, let ⟨m, hn, hl'⟩ := I.loc; ⟨m, hn, fun i x v e1 e2 e3 => hl' i x v e1 (w i v e2) e3⟩, I.cell, I.free, I.freeC, I.pin, I.hok, hl.trans I.len⟩
theorem Inv.pins_of {pins' : List (Addr × Obj)} (I : Inv X pins σ H s) (h : ∀ p ∈ pins', s.heap.get? p.1 = some p.2 ∧ H p.1 = none ∧ p.1 ≠ X.env.locals ∧ p.1 ∉ X.fs ∧ ∀ v, p.2.data ≠ .cell v) : Inv X pins' σ H s :=
  ⟨I.ok, I.os, I.bare, I.base, I.loc, I.cell, I.free, I.freeC, fun p hp => (List.mem_append.mp hp).elim (fun z => I.pin p (List.mem_append_left _ z)) (h p), I.hok, I.len⟩

theorem nodup_ix {N : List Str} (hN : N.Nodup) {i j : Nat} {x : Str} (a : N[i]? = some x) (b : N[j]? = some x) : i = j := by
  obtain ⟨h1, e1⟩ := List.getElem?_eq_some_iff.mp a
  obtain ⟨h2, e2⟩ := List.getElem?_eq_some_iff.mp b
  exact (List.getElem_inj hN).mp (e1.trans e2.symm)


theorem store_ok2 {M : Model} {A : Around} {E : Value → Shared → Prop} {i : Nat} {x : Str} {v : V} {u : Value} {Q : Unit → Shared → Prop} (I : Inv X pins σ H s) (hN : X.N.Nodup) (hi : X.N[i]? = some x) (hx : Loc X.env.scope x) (r : RelV v u)
    (h : ∀ s', Inv X pins (σ.set i (some v)) H s' → (∃ a, Heap.SameBut a s.heap s'.heap ∧ (a = X.env.locals ∨ X.env.cells.lookup x = some a)) → Q () s') (hf : X.fn x = true ∨ X.env.scope.names.lookup x = some .local := by first | exact .inl rfl | exact .inr rfl | assumption) : wpAny M A (storeName X.env x u) Q E s := by
  obtain ⟨m, hn, hl⟩ := id I.loc
  have hcls : (X.env.scope.kind == .class || (X.env.scope.kind == .module && X.env.locals != X.env.globals)) = false := by rw [I.ok.kind]; rfl
  have hiσ : i < σ.length := by rw [I.len]; exact (List.getElem?_eq_some_iff.mp hi).1
  have cne := I.cne
  have tracked : ∀ {a : Addr} {h' : Heap}, (∃ o, s.heap.get? a = some o ∧ H a = none) → Heap.SameBut a s.heap h' → HOk X.prog X.w H h' := fun {a h'} ha hs b ob e => by
    obtain ⟨_, _, hfree⟩ := ha
    refine (I.hok b ob e).stay (fun c w' hc q => (hs.2 c ?_).trans q) (fun _ q => q) fun _ _ q => q
    rintro rfl
    rcases hc with rfl | hc
    · rw [hfree] at e; cases e
    · rw [hfree] at hc; cases hc
  rcases hx with hk | hk
  · refine wpAny_storeName_local hk hn (fun h' hn' hs => ?_) hcls
    obtain ⟨oL, _, _, hoL, _⟩ := id hn
    refine h _ ⟨I.ok, I.os, I.bare, ⟨fun b o e n hb hx => ?_, fun b o e n hb hx => ?_, I.base.free, fun b o e hx => ?_, I.base.tups, I.base.frzs, I.base.tbls⟩, ⟨_, hn', fun j y v' e1 e2 e3 => ?_⟩, fun y c e => ?_, I.free, I.freeC, fun p hp => ?_, tracked ⟨oL, hoL, I.free⟩ hs, by simpa using I.len⟩ ⟨_, hs, .inl rfl⟩
    · exact (hs.2 b (Nat.ne_of_lt (Nat.lt_of_lt_of_le (Heap.lt_size e) I.ok.above))).trans (I.base.keep b o e n hb hx)
    · obtain ⟨sl, e1⟩ := I.base.slot b o e n hb hx
      exact ⟨sl, (hs.2 b (Nat.ne_of_lt (Nat.lt_of_lt_of_le (Heap.lt_size e) I.ok.above))).trans e1⟩
    · obtain ⟨o', e1⟩ := I.base.there b o e hx
      exact ⟨o', (hs.2 b (Nat.ne_of_lt (Nat.lt_of_lt_of_le (Heap.lt_size e) I.ok.above))).trans e1⟩
    · by_cases hj : j = i
      · subst hj
        rw [hi] at e1; cases e1
        rw [List.getElem?_set_self hiσ] at e2
        cases e2
        exact ⟨u, r, .inl ⟨hk, by simp⟩⟩
      · rw [List.getElem?_set_ne (Ne.symm hj)] at e2
        obtain ⟨u', r', q⟩ := hl j y v' e1 e2 e3
        refine ⟨u', r', ?_⟩
        rcases q with ⟨k, e⟩ | ⟨k, c, e, z⟩
        · refine .inl ⟨k, ?_⟩
          have : y ≠ x := fun e => hj (nodup_ix hN e1 (e ▸ hi))
          simp [this, e]
        · exact .inr ⟨k, c, e, z.sameBut hs (cne y c e)⟩
    · obtain ⟨w', z⟩ := I.cell y c e
      exact ⟨w', z.sameBut hs (cne y c e)⟩
    · obtain ⟨e, n, ne, nf, d⟩ := I.pin p hp
      exact ⟨(hs.2 p.1 ne).trans e, n, ne, nf, d⟩
  · have hfn : X.fn x = true := by
      rcases hf with z | z
      · exact z
      · rw [z] at hk; cases hk
    obtain ⟨c, hc⟩ := I.ok.has x (.inl hk)
    obtain ⟨w', z⟩ := I.cell x c hc
    refine wpAny_storeName_cell I.ok.kind hk hc z (fun h' hc' hs => ?_)
    obtain ⟨oc, hoc, hocd⟩ := id z
    refine h { s with heap := h' } ⟨I.ok, I.os, I.bare, ⟨fun b o e n hb hx => ?_, fun b o e n hb hx => ?_, I.base.free, fun b o e hx => ?_, I.base.tups, I.base.frzs, I.base.tbls⟩, ⟨m, hn.sameBut hs (Ne.symm (cne x c hc)), fun j y v' e1 e2 e3 => ?_⟩, fun y c' e => ?_, I.free, I.freeC, fun p hp => ?_, tracked ⟨oc, hoc, I.freeC x c hc⟩ hs, by simpa using I.len⟩ ⟨c, hs, .inr hc⟩
    · exact (hs.2 b (Nat.ne_of_lt (Nat.lt_of_lt_of_le (Heap.lt_size e) (I.ok.cab x c hfn hc)))).trans (I.base.keep b o e n hb hx)
    · obtain ⟨sl, e1⟩ := I.base.slot b o e n hb hx
      exact ⟨sl, (hs.2 b (Nat.ne_of_lt (Nat.lt_of_lt_of_le (Heap.lt_size e) (I.ok.cab x c hfn hc)))).trans e1⟩
    · obtain ⟨o', e1⟩ := I.base.there b o e hx
      exact ⟨o', (hs.2 b (Nat.ne_of_lt (Nat.lt_of_lt_of_le (Heap.lt_size e) (I.ok.cab x c hfn hc)))).trans e1⟩
    · by_cases hj : j = i
      · subst hj
        rw [hi] at e1; cases e1
        rw [List.getElem?_set_self hiσ] at e2
        cases e2
        exact ⟨u, r, .inr ⟨.inl hk, c, hc, hc'⟩⟩
      · rw [List.getElem?_set_ne (Ne.symm hj)] at e2
        obtain ⟨u', r', q⟩ := hl j y v' e1 e2 e3
        refine ⟨u', r', ?_⟩
        rcases q with q | ⟨k, c', e, z'⟩
        · exact .inl q
        · refine .inr ⟨k, c', e, z'.sameBut hs ?_⟩
          rintro rfl
          exact hj (nodup_ix hN e1 (I.ok.inj _ _ _ e hc ▸ hi))
    · by_cases hcc : c' = c
      · subst hcc; exact ⟨_, hc'⟩
      · obtain ⟨w2, z2⟩ := I.cell y c' e
        exact ⟨w2, z2.sameBut hs hcc⟩
    · obtain ⟨e, n, ne, nf, d⟩ := I.pin p hp
      refine ⟨(hs.2 p.1 ?_).trans e, n, ne, nf, d⟩
      intro q
      rw [q, hoc] at e
      have q' : oc = p.2 := Option.some.inj e
      exact d w' (by rw [← q']; exact hocd)
theorem store_ok {M : Model} {A : Around} {E : Value → Shared → Prop} {i : Nat} {x : Str} {v : V} {u : Value} {Q : Unit → Shared → Prop} (I : Inv X pins σ H s) (hN : X.N.Nodup) (hi : X.N[i]? = some x) (hx : Loc X.env.scope x) (r : RelV v u)
    (h : ∀ s', Inv X pins (σ.set i (some v)) H s' → Q () s') (hf : X.fn x = true ∨ X.env.scope.names.lookup x = some .local := by first | exact .inl rfl | exact .inr rfl | assumption) : wpAny M A (storeName X.env x u) Q E s :=
  store_ok2 I hN hi hx r (fun s' I' _ => h s' I') hf

theorem Inv.call' {s' : Shared} {ch : List Addr} (I : Inv X pins σ H s) (ho : s'.os = s.os) (u : Un (frs X.stack) ch H H' s.heap s'.heap) (hok : HOk X.prog X.w H' s'.heap) (hg : AllBare s'.gens)
    (hch : ∀ b ∈ ch, (b ∈ X.ex ∨ X.s₀.heap.objs.size ≤ b) ∧ b ≠ X.env.locals ∧ (∀ x c, X.env.cells.lookup x = some c → c ≠ b) ∧ ∀ p ∈ X.pn ++ pins, p.1 ≠ b) : Inv X pins σ H' s' := by
  obtain ⟨h', g', d', t', o'⟩ := s'
  have e : o' = s.os := ho
  subst e
  exact I.call (g' := g') (t' := t') (d' := d') u hok hg hch
end



abbrev XK := Value → Option Addr → Hp → Prop
abbrev St := List (Option V)
abbrev VK := V → Hp → Prop

abbrev TE := St → Hp → VK → Prop
abbrev TT := St → Hp → (Bool → Hp → Prop) → Prop
abbrev TA := St → Hp → (List V → Hp → Prop) → Prop

structure Ends where
  nx : St → Hp → Prop
  rt : VK
  bk : St → Hp → Prop := fun _ _ => False
  ct : St → Hp → Prop := fun _ _ => False
abbrev TS := Ends → St → Hp → Prop

def EP (X : Cx) (pins : List (Addr × Obj)) (σ : St) (Q : VK) (u : Value) (s' : Shared) : Prop := ∃ v H', Inv X pins σ H' s' ∧ RelV v u ∧ Q v H'
def TP (X : Cx) (pins : List (Addr × Obj)) (σ : St) (Q : Bool → Hp → Prop) (b : Bool) (s' : Shared) : Prop := ∃ H', Inv X pins σ H' s' ∧ Q b H'
def AP (X : Cx) (pins : List (Addr × Obj)) (σ : St) (Q : List V → Hp → Prop) (us : List Value) (s' : Shared) : Prop := ∃ vs H', Inv X pins σ H' s' ∧ Vals vs us ∧ Q vs H'
def SP (X : Cx) (pins : List (Addr × Obj)) (D : Ends) (f : Flow) (s' : Shared) : Prop :=
  match f with
  | .next => ∃ σ' H', Inv X pins σ' H' s' ∧ D.nx σ' H'
  | .brk => ∃ σ' H', Inv X pins σ' H' s' ∧ D.bk σ' H'
  | .cont => ∃ σ' H', Inv X pins σ' H' s' ∧ D.ct σ' H'
  | .ret u => ∃ v σ' H', Inv X pins σ' H' s' ∧ RelV v u ∧ D.rt v H'

def PE (X : Cx) (e : Expr) (t : TE) : Prop :=
  ∀ (pins : List (Addr × Obj)) (s : Shared) (σ : St) (H : Hp) (Q : VK), Inv X pins σ H s → t σ H Q → wpAny (model X.prog X.w) X.A (eval e X.env) (EP X pins σ Q) X.xe s
def PT (X : Cx) (e : Expr) (t : TT) : Prop :=
  ∀ (pins : List (Addr × Obj)) (s : Shared) (σ : St) (H : Hp) (Q : Bool → Hp → Prop), Inv X pins σ H s → t σ H Q → wpAny (model X.prog X.w) X.A (isTrue e X.env (eval e X.env)) (TP X pins σ Q) X.xe s

def PW (X : Cx) (e : Expr) (t : TT) : Prop :=
  ∀ (whole : Sem Value) (pins : List (Addr × Obj)) (s : Shared) (σ : St) (H : Hp) (Q : Bool → Hp → Prop), Inv X pins σ H s → t σ H Q → wpAny (model X.prog X.w) X.A (isTrue e X.env whole) (TP X pins σ Q) X.xe s
theorem PW.pt {X : Cx} {e : Expr} {t : TT} (h : PW X e t) : PT X e t := h _

def PA (X : Cx) (es : List Expr) (t : TA) : Prop :=
  ∀ (pos : Pos) (pins : List (Addr × Obj)) (s : Shared) (σ : St) (H : Hp) (Q : List V → Hp → Prop), Inv X pins σ H s → t σ H Q → wpAny (model X.prog X.w) X.A (spliced (backTo pos (starEach es X.env))) (AP X pins σ Q) X.xe s
def PS (X : Cx) (st : Stmt) (t : TS) : Prop :=
  ∀ (pins : List (Addr × Obj)) (s : Shared) (σ : St) (H : Hp) (D : Ends), Inv X pins σ H s → t D σ H → wpAny (model X.prog X.w) X.A (exec st X.env) (SP X pins D) X.xe s
def PSs (X : Cx) (st : List Stmt) (t : TS) : Prop :=
  ∀ (pins : List (Addr × Obj)) (s : Shared) (σ : St) (H : Hp) (D : Ends), Inv X pins σ H s → t D σ H → wpAny (model X.prog X.w) X.A (execs st X.env) (SP X pins D) X.xe s

theorem thn {α : Type} {t : Sem α} {Q Q' : α → Shared → Prop} {M : Model} {A : Around} {E : Value → Shared → Prop} {s : Shared} (h : wpAny M A t Q E s) (hQ : ∀ a s, Q a s → Q' a s) : wpAny M A t Q' E s := wpAny_mono h hQ fun _ _ x => x
end L2

namespace L2
open PySem PySem.Spec PyProof.Rows
section
variable {X : Cx}


def tVar (i : Nat) : TE := fun σ H Q => ∃ v, σ[i]? = some (some v) ∧ Q v H
def tC (v : V) : TE := fun _ H Q => Q v H
theorem pe_var {i : Nat} {x : Str} {pos : Pos} (hN : X.N[i]? = some x) (hv : Vis X.env.scope x) (hd : (x == ("__debug__" : Str)) = false := by decide) (hcd : (x == ("__classdict__" : Str)) = false := by decide) : PE X (.Name x pos) (tVar i) := by
  intro pins s σ H Q I h
  obtain ⟨v, e, h⟩ := h
  obtain ⟨m, hn, hl⟩ := I.loc
  obtain ⟨u, r, l⟩ := hl i x v hN e hv
  have fin : EP X pins σ Q u s := ⟨v, H, I, r, h⟩
  rcases l with ⟨hk, hm⟩ | ⟨hk, c, hc, hcell⟩
  · exact wpAny_Name (wpAny_loadName_local I.ok.kind hk hn hm fin) hd
  · rcases hk with hk | hk
    · exact wpAny_Name (wpAny_loadName_cell I.ok.kind hk hc hcell fin) hd
    · exact wpAny_Name (wpAny_loadName_free I.ok.kind hk hc hcell fin hcd) hd
theorem pe_int {i j pos} : PE X (.Constant (.int i) j pos) (tC (.int i)) := fun _ _ _ H _ I h => wpAny_Constant_int ⟨.int i, H, I.tok _, ⟨_, rfl⟩, h⟩
theorem pe_bl {b j pos} : PE X (.Constant (.bool b) j pos) (tC (.bl b)) := fun _ _ _ H _ I h => Constant_bool ⟨.bl b, H, I, rfl, h⟩
theorem pe_non {j pos} : PE X (.Constant .none j pos) (tC .non) := fun _ _ _ H _ I h => Constant_none ⟨.non, H, I, rfl, h⟩
theorem pe_str {x j pos} : PE X (.Constant (.str x) j pos) (tC (.str x)) := fun _ _ _ H _ I h => Calls.Constant_str ⟨.str x, H, I.tok _, ⟨_, rfl⟩, h⟩


def Gl (X : Cx) (x : Str) : Prop := X.env.kindOf x = some .globalImplicit
theorem ld_glob {E : Value → Shared → Prop} {pins : List (Addr × Obj)} {s : Shared} {σ : St} {H : Hp} {x : Str} {u : Value} {pos : Pos} {Q : Value → Shared → Prop} (I : Inv X pins σ H s) (hg : Gl X x) (hm : X.mg x = some u) (h : Q u s)
    (hd : (x == ("__debug__" : Str)) = false := by decide) : wpAny (model X.prog X.w) X.A (eval (.Name x pos) X.env) Q E s :=
  Calls.Name_function_global I.ok.kind hg (Calls.loadGlobal_global (by rw [I.ok.glob]; exact I.mod.glob.keeps I.bk) hm h) hd
theorem ld_blt {E : Value → Shared → Prop} {pins : List (Addr × Obj)} {s : Shared} {σ : St} {H : Hp} {x : Str} {u : Value} {pos : Pos} {Q : Value → Shared → Prop} (I : Inv X pins σ H s) (hg : Gl X x) (hm : X.mg x = none) (hv : bootBuiltins x = some u) (h : Q u s)
    (hn : x ≠ "__name__" := by decide) (hd : (x == ("__debug__" : Str)) = false := by decide) : wpAny (model X.prog X.w) X.A (eval (.Name x pos) X.env) Q E s := by
  obtain ⟨mb, h1, h2⟩ := I.mod.blt
  exact Calls.Name_function_global I.ok.kind hg (Calls.loadGlobal_builtin (by rw [I.ok.glob]; exact I.mod.glob.keeps I.bk) hm (by rw [I.ok.blt]; exact h1.keeps I.bk) ((h2 x hn).trans hv) h) hd

theorem pe_glob {x : Str} {v : V} {u : Value} {pos : Pos} (hg : Gl X x) (hm : X.mg x = some u) (r : RelV v u) (hd : (x == ("__debug__" : Str)) = false := by decide) : PE X (.Name x pos) (tC v) :=
  fun _ _ _ H _ I h => ld_glob I hg hm ⟨v, H, I, r, h⟩ hd
theorem pe_bltn {x : Str} {v : V} {u : Value} {pos : Pos} (hg : Gl X x) (hm : X.mg x = none) (hv : bootBuiltins x = some u) (r : RelV v u) (hn : x ≠ "__name__" := by decide) (hd : (x == ("__debug__" : Str)) = false := by decide) : PE X (.Name x pos) (tC v) :=
  fun _ _ _ H _ I h => ld_blt I hg hm hv ⟨v, H, I, r, h⟩ hn hd



variable {a b : Expr} {ta tb : TE} {pos : Pos}
def tB (t : TE) : TT := fun σ H Q => t σ H fun x H1 => ∃ c, x = .bl c ∧ Q c H1
theorem pt_val {e : Expr} {t : TE} (h : PE X e t) (he : ∀ whole, isTrue e X.env whole = (do let v ← whole; standAt e.pos; holding [v] (truthy v)) := by intro _; rfl) : PT X e (tB t) := by
  intro pins s σ H Q I hw
  refine isTrue_plain (thn (h pins s σ H _ I hw) fun v s1 ⟨x, H1, I1, r1, q1⟩ => ?_) (he _)
  obtain ⟨d, rfl, q⟩ := q1
  cases r1
  exact wpAny_truthy_bool ⟨H1, I1, q⟩


variable {tA tB' : TT} {rest : List Expr}
def tAnd (t u : TT) : TT := fun σ H Q => t σ H fun c H1 => if c = true then u σ H1 Q else Q false H1
def tOr (t u : TT) : TT := fun σ H Q => t σ H fun c H1 => if c = true then Q true H1 else u σ H1 Q
def tNot (t : TT) : TT := fun σ H Q => t σ H fun c H1 => Q (!c) H1
theorem pw_and1 (ha : PT X a tA) : PW X (.BoolOp .And [a] pos) tA := by
  intro wh pins s σ H Q I h
  refine isTrue_and (thn (ha pins s σ H Q I h) fun c s1 e => ?_)
  cases c with
  | true => exact isTrue_and_nil e
  | false => exact e
theorem pw_or1 (ha : PT X a tA) : PW X (.BoolOp .Or [a] pos) tA := by
  intro wh pins s σ H Q I h
  refine isTrue_or (thn (ha pins s σ H Q I h) fun c s1 e => ?_)
  cases c with
  | false => exact isTrue_or_nil e
  | true => exact e
theorem pw_and (ha : PT X a tA) (hb : PW X (.BoolOp .And (b :: rest) pos) tB') : PW X (.BoolOp .And (a :: b :: rest) pos) (tAnd tA tB') := by
  intro wh pins s σ H Q I h
  refine isTrue_and (thn (ha pins s σ H _ I h) fun c s1 ⟨H1, I1, q1⟩ => ?_)
  cases c with
  | true => exact hb wh pins s1 σ H1 Q I1 q1
  | false => exact ⟨H1, I1, q1⟩
theorem pw_or (ha : PT X a tA) (hb : PW X (.BoolOp .Or (b :: rest) pos) tB') : PW X (.BoolOp .Or (a :: b :: rest) pos) (tOr tA tB') := by
  intro wh pins s σ H Q I h
  refine isTrue_or (thn (ha pins s σ H _ I h) fun c s1 ⟨H1, I1, q1⟩ => ?_)
  cases c with
  | true => exact ⟨H1, I1, q1⟩
  | false => exact hb wh pins s1 σ H1 Q I1 q1
theorem pt_not (ha : PT X a tA) : PT X (.UnaryOp .Not a pos) (tNot tA) := by
  intro pins s σ H Q I h
  exact isTrue_not (ha pins s σ H (fun c H1 => Q (!c) H1) I h)

def tAndV (ta tb : TE) : TE := fun σ H Q => ta σ H fun x H1 => ∃ c, x = .bl c ∧ if c = true then tb σ H1 Q else Q (.bl false) H1
def tOrV (ta tb : TE) : TE := fun σ H Q => ta σ H fun x H1 => ∃ c, x = .bl c ∧ if c = true then Q (.bl true) H1 else tb σ H1 Q
def tNotV (ta : TE) : TE := fun σ H Q => ta σ H fun x H1 => ∃ c, x = .bl c ∧ Q (.bl (!c)) H1
theorem pe_one {op} {t : TE} (h : PE X a t) : PE X (.BoolOp op [a] pos) t := fun pins s σ H Q I hw => BoolOp_one (h pins s σ H Q I hw)
theorem pe_and (ha : PE X a ta) (hb : PE X (.BoolOp .And (b :: rest) pos) tb) : PE X (.BoolOp .And (a :: b :: rest) pos) (tAndV ta tb) := by
  intro pins s σ H Q I h
  refine BoolOp_and (thn (ha pins s σ H _ I h) fun v s1 ⟨x, H1, I1, r1, q1⟩ => ?_)
  obtain ⟨c, rfl, q1⟩ := q1
  cases r1
  refine wpAny_truthy_bool ?_
  cases c with
  | true => exact hb pins s1 σ H1 Q I1 q1
  | false => exact ⟨.bl false, H1, I1, rfl, q1⟩
theorem pe_or (ha : PE X a ta) (hb : PE X (.BoolOp .Or (b :: rest) pos) tb) : PE X (.BoolOp .Or (a :: b :: rest) pos) (tOrV ta tb) := by
  intro pins s σ H Q I h
  refine BoolOp_or (thn (ha pins s σ H _ I h) fun v s1 ⟨x, H1, I1, r1, q1⟩ => ?_)
  obtain ⟨c, rfl, q1⟩ := q1
  cases r1
  refine wpAny_truthy_bool ?_
  cases c with
  | false => exact hb pins s1 σ H1 Q I1 q1
  | true => exact ⟨.bl true, H1, I1, rfl, q1⟩
theorem pe_not (ha : PE X a ta) : PE X (.UnaryOp .Not a pos) (tNotV ta) := by
  intro pins s σ H Q I h
  refine UnaryOp_ (thn (ha pins s σ H _ I h) fun v s1 ⟨x, H1, I1, r1, q1⟩ => ?_)
  obtain ⟨c, rfl, q1⟩ := q1
  cases r1
  exact not_of (wpAny_truthy_bool ⟨.bl (!c), H1, I1, rfl, q1⟩)

end
end L2

namespace L2
open PySem PySem.Spec PyProof.Rows


def SqL (K : PySem.W.Frag) (H : Hp) (a : Addr) (xs : List V) : Prop :=
  Rd H a (.lst xs) ∨
    ∃ (o : Obj) (its : Array Value) (n : Nat), K.lookup a = some o ∧ o.cls = .type "list" ∧ o.dict = none ∧ o.data = .seq its n ∧ its.size ≤ sizeLine ∧ Vals xs its.toList
def SqT (K : PySem.W.Frag) (H : Hp) (a : Addr) (xs : List V) : Prop :=
  Rd H a (.tup xs) ∨
    ∃ (o : Obj) (its : Array Value) (n : Nat), K.lookup a = some o ∧ o.cls = .type "tuple" ∧ o.data = .seq its n ∧ its.size ≤ sizeLine ∧ Vals xs its.toList
def absV : Value → Option V
  | .none => some .non
  | .bool b => some (.bl b)
  | .int i _ => some (.int i)
  | .str x _ => some (.str x)
  | .bytes b _ => some (.byt b)
  | .float b _ => some (.flt b)
  | .ref a => some (.ref a)
  | .type n => some (.ty n)
  | _ => none
theorem RelV.abs {x : V} {u : Value} (r : RelV x u) : absV u = some x := by
  cases x with
  | non => cases r; rfl
  | bl _ => cases r; rfl
  | int _ => obtain ⟨t, rfl⟩ := r; rfl
  | str _ => obtain ⟨t, rfl⟩ := r; rfl
  | byt _ => obtain ⟨t, rfl⟩ := r; rfl
  | flt _ => obtain ⟨t, rfl⟩ := r; rfl
  | ref _ => cases r; rfl
  | ty _ => cases r; rfl
theorem RelV.inj {x y : V} {u : Value} (r : RelV x u) (q : RelV y u) : x = y := Option.some.inj (r.abs.symm.trans q.abs)
theorem Vals.inj : ∀ {xs ys : List V} {us : List Value}, Vals xs us → Vals ys us → xs = ys
  | _, _, _, .nil, .nil => rfl
  | _, _, _, .cons r t, .cons r' t' => by rw [r.inj r', Vals.inj t t']
section
variable {X : Cx} {pins : List (Addr × Obj)} {σ : St} {H : Hp} {s : Shared} {a : Addr} {xs ys : List V}
theorem SqL.of {K : PySem.W.Frag} (h : H a = some (.lst xs)) : SqL K H a xs := .inl (.inl h)
theorem SqT.of {K : PySem.W.Frag} (h : H a = some (.tup xs)) : SqT K H a xs := .inl (.inl h)
theorem Inv.list (I : Inv X pins σ H s) (h : SqL X.K H a xs) : ∃ its : List Value, Vals xs its ∧ PlainL s.heap a its.toArray ∧ xs.length ≤ sizeLine := by
  rcases h with h | ⟨o, its, n, hk, hc, hd, hs, hz, r⟩
  · obtain ⟨z, its, n, r, e⟩ := h.ok I.hok
    exact ⟨its, r, ⟨_, n, e, rfl, rfl, rfl⟩, z⟩
  · refine ⟨its.toList, r, ⟨o, n, I.kIn a o hk, hc, hd, by simpa using hs⟩, ?_⟩
    have e := r.length
    simp only [Array.length_toList] at e
    omega
theorem Inv.tuple (I : Inv X pins σ H s) (h : SqT X.K H a xs) : ∃ its : List Value, Vals xs its ∧ IsTup s.heap a its.toArray ∧ xs.length ≤ sizeLine := by
  rcases h with h | ⟨o, its, n, hk, hc, hs, hz, r⟩
  · obtain ⟨z, its, r, p⟩ := h.ok I.hok
    exact ⟨its, r, p, z⟩
  · refine ⟨its.toList, r, ⟨o, I.kIn a o hk, hc, n, by simpa using hs⟩, ?_⟩
    have e := r.length
    simp only [Array.length_toList] at e
    omega
theorem Inv.tuple_inj (I : Inv X pins σ H s) (h : SqT X.K H a xs) (h' : SqT X.K H a ys) : xs = ys := by
  obtain ⟨its, r, ⟨o, e, _, n, d⟩, _⟩ := I.tuple h
  obtain ⟨its', r', ⟨o', e', _, n', d'⟩, _⟩ := I.tuple h'
  rw [e] at e'; cases e'
  rw [d] at d'
  injection d' with d1 _
  have : its = its' := by simpa using congrArg Array.toList d1
  subst this
  exact r.inj r'
end


abbrev Cx.wish (X : Cx) (E : Value → Shared → Prop) : Cx := { X with xe := E }

abbrev Cx.nox (X : Cx) : Cx := X.wish fun _ _ => False
theorem Cx.Ok.wish {X : Cx} (ok : X.Ok) (E : Value → Shared → Prop) : (X.wish E).Ok :=
  ⟨ok.mod, ok.kind, ok.glob, ok.blt, ok.above, ok.inj, ok.has, ok.cab, ok.hd, ok.frames, ok.stk, ok.exf, ok.bs, ok.bsz, ok.noex, ok.exfs, ok.funs, ok.frf⟩
theorem Cx.Ok.unwish {X : Cx} {E : Value → Shared → Prop} (ok : (X.wish E).Ok) : X.Ok :=
  ⟨ok.mod, ok.kind, ok.glob, ok.blt, ok.above, ok.inj, ok.has, ok.cab, ok.hd, ok.frames, ok.stk, ok.exf, ok.bs, ok.bsz, ok.noex, ok.exfs, ok.funs, ok.frf⟩
section
variable {X : Cx} {pins : List (Addr × Obj)} {σ : St} {H : Hp} {s : Shared} {E : Value → Shared → Prop}
theorem Inv.wish (I : Inv X pins σ H s) (E : Value → Shared → Prop) : Inv (X.wish E) pins σ H s := ⟨I.ok.wish E, I.os, I.bare, I.base, I.loc, I.cell, I.free, I.freeC, I.pin, I.hok, I.len⟩
theorem Inv.unwish (I : Inv (X.wish E) pins σ H s) : Inv X pins σ H s := ⟨I.ok.unwish, I.os, I.bare, I.base, I.loc, I.cell, I.free, I.freeC, I.pin, I.hok, I.len⟩
theorem SP.unwish {D : Ends} {f : Flow} {s' : Shared} (h : SP (X.wish E) pins D f s') : SP X pins D f s' := by
  cases f with
  | next => obtain ⟨σ', H', I, q⟩ := h; exact ⟨σ', H', I.unwish, q⟩
  | brk => obtain ⟨σ', H', I, q⟩ := h; exact ⟨σ', H', I.unwish, q⟩
  | cont => obtain ⟨σ', H', I, q⟩ := h; exact ⟨σ', H', I.unwish, q⟩
  | ret u => obtain ⟨v, σ', H', I, r, q⟩ := h; exact ⟨v, σ', H', I.unwish, r, q⟩
theorem PSs.nox {st : List Stmt} {t : TS} (h : PSs X.nox st t) : PSs X st t := fun pins s σ H D I hw =>
  wpAny_mono (h pins s σ H D (I.wish _) hw) (fun _ _ q => q.unwish) fun _ _ z => False.elim z
end


section
variable {X : Cx} {st : Stmt} {rest : List Stmt} {t u : TS} {e : Expr} {te : TE} {pos : Pos}
def tNext : TS := fun D σ H => D.nx σ H
def tSeq (t u : TS) : TS := fun D σ H => t { D with nx := u D } σ H
theorem pss_nil : PSs X [] tNext := fun _ _ σ H _ I h => wpAny_execs_nil ⟨σ, H, I, h⟩
theorem pss_cons (h1 : PS X st t) (h2 : PSs X rest u) : PSs X (st :: rest) (tSeq t u) := by
  intro pins s σ H D I h
  refine wpAny_execs_cons (thn (h1 pins s σ H { D with nx := u D } I h) fun f s1 q => ?_)
  cases f with
  | next =>
    obtain ⟨σ', H', I', q⟩ := q
    exact h2 pins s1 σ' H' D I' q
  | ret v => exact q
  | brk => exact q
  | cont => exact q
theorem pss_one (h1 : PS X st t) : PSs X [st] t := by
  intro pins s σ H D I h
  refine wpAny_execs_cons (thn (h1 pins s σ H D I h) fun f s1 q => ?_)
  cases f with
  | next => exact wpAny_execs_nil q
  | ret v => exact q
  | brk => exact q
  | cont => exact q
theorem Inv.quiet {pins : List (Addr × Obj)} {σ : St} {H : Hp} {s : Shared} (I : Inv X pins σ H s) : interactive X.env = false := by simp [interactive, I.ok.kind]

def tDrop (te : TE) : TS := fun D σ H => te σ H fun _ H1 => D.nx σ H1
theorem ps_expr (he : PE X e te) (hs : swapsWith e none pos.line X.env = pure false := by rfl) : PS X (.Expr e pos) (tDrop te) := by
  intro pins s σ H D I h
  exact wpAny_Expr_any (thn (he pins s σ H _ I h) fun v s1 ⟨x, H1, I1, r1, q1⟩ => ⟨σ, H1, I1, q1⟩) I.quiet hs
def tRet (te : TE) : TS := fun D σ H => te σ H D.rt
theorem ps_ret (he : PE X e te) : PS X (.Return (some e) pos) (tRet te) := by
  intro pins s σ H D I h
  exact wpAny_Return_some (thn (he pins s σ H _ I h) fun v s1 ⟨x, H1, I1, r1, q1⟩ => ⟨x, σ, H1, I1, r1, q1⟩)
def tIfS (c : TT) (t u : TS) : TS := fun D σ H => c σ H fun b H1 => if b = true then t D σ H1 else u D σ H1
theorem ps_if {c : Expr} {a b : List Stmt} {tc : TT} (hc : PT X c tc) (ha : PSs X a t) (hb : PSs X b u) : PS X (.If c a b pos) (tIfS tc t u) := by
  intro pins s σ H D I h
  refine wpAny_If (thn (hc pins s σ H _ I h) fun d s1 ⟨H1, I1, q1⟩ => ?_)
  cases d with
  | true => exact ha pins s1 σ H1 D I1 q1
  | false => exact hb pins s1 σ H1 D I1 q1

end


abbrev TG := V → St → Hp → (St → Hp → Prop) → Prop
def PG (X : Cx) (target : Expr) (t : TG) : Prop :=
  ∀ (pins : List (Addr × Obj)) (s : Shared) (σ : St) (H : Hp) (v : V) (u : Value) (Q : St → Hp → Prop), Inv X pins σ H s → RelV v u → t v σ H Q →
    wpAny (model X.prog X.w) X.A (assign target X.env u) (fun _ s' => ∃ σ' H', Inv X pins σ' H' s' ∧ Q σ' H') X.xe s

abbrev TSet := V → V → V → Hp → (Hp → Prop) → Prop
def PSet (X : Cx) (t : TSet) : Prop :=
  ∀ (pins : List (Addr × Obj)) (s : Shared) (σ : St) (H : Hp) (o i v : V) (ov iv u : Value) (Q : Hp → Prop), Inv X pins σ H s → RelV o ov → RelV i iv → RelV v u → t o i v H Q →
    wpAny (model X.prog X.w) X.A (setItem ov iv u) (fun _ s' => ∃ H', Inv X pins σ H' s' ∧ Q H') X.xe s

section
variable {X : Cx} {pos : Pos}
def gName (i : Nat) : TG := fun v σ H Q => Q (σ.set i (some v)) H
theorem pg_name {i : Nat} {x : Str} (hN : X.N.Nodup) (hi : X.N[i]? = some x) (hx : Loc X.env.scope x) (hf : X.fn x = true ∨ X.env.scope.names.lookup x = some .local := by first | exact .inl rfl | exact .inr rfl | assumption) : PG X (.Name x pos) (gName i) := by
  intro pins s σ H v u Q I r h
  exact wpAny_assign_Name (store_ok I hN hi hx r (fun s' I' => ⟨_, H, I', h⟩) hf)
def gSub (to ti : TE) (t : TSet) : TG := fun v σ H Q => to σ H fun o H1 => ti σ H1 fun i H2 => t o i v H2 fun H3 => Q σ H3
theorem pg_sub {o i : Expr} {to ti : TE} {t : TSet} (ho : PE X o to) (hi : PE X i ti) (hs : PSet X t)
    (ha : ∀ v, assign (.Subscript o i pos) X.env v = (do
      let ov ← holding [v] (eval o X.env)
      let iv ← holding [v, ov] (eval i X.env)
      standAt pos
      holding [v, ov, iv] (setItem ov iv v)
      release [v, ov, iv] []) := by intro _; rfl) : PG X (.Subscript o i pos) (gSub to ti t) := by
  intro pins s σ H v u Q I r h
  rw [ha]
  refine wpAny_bind (wpAny_holding (thn (ho pins s σ H _ I h) fun ov s1 ⟨x, H1, I1, r1, q1⟩ => ?_))
  refine wpAny_bind (wpAny_holding (thn (hi pins s1 σ H1 _ I1 q1) fun iv s2 ⟨y, H2, I2, r2, q2⟩ => ?_))
  refine wpAny_bind (wpAny_standAt (wpAny_bind (wpAny_holding (thn (hs pins s2 σ H2 x y v ov iv u _ I2 r1 r2 r q2) fun _ s3 ⟨H3, I3, q3⟩ => ?_))))
  exact wpAny_release ⟨σ, H3, I3, q3⟩

def tAsg (te : TE) (g : TG) : TS := fun D σ H => te σ H fun x H1 => g x σ H1 D.nx
theorem ps_asg {tg e : Expr} {te : TE} {g : TG} (he : PE X e te) (hg : PG X tg g) (hs : swapsWithSole [tg] e pos.line X.env = pure false := by rfl) (hw : swappedStores [tg] e X.env = pure none := by rfl)
    (h1 : (assignEach [tg] X.env).map (·.2) = [assign tg X.env] := by rfl) : PS X (.Assign [tg] e pos) (tAsg te g) := by
  intro pins s σ H D I h
  refine wpAny_Assign_stores (thn (he pins s σ H _ I h) fun v s1 ⟨x, H1, I1, r1, q1⟩ => ?_) hs hw
  rw [h1]
  exact thn (hg pins s1 σ H1 x v _ I1 r1 q1) fun _ s2 q => q

theorem ps_set {i : Nat} {x : Str} {e : Expr} {te : TE} {pos' : Pos} (hN : X.N.Nodup) (hi : X.N[i]? = some x) (hx : Loc X.env.scope x) (he : PE X e te) (hs : swapsWith e (some (.Name x pos')) pos.line X.env = pure false := by rfl) (hf : X.fn x = true ∨ X.env.scope.names.lookup x = some .local := by first | exact .inl rfl | exact .inr rfl | assumption) :
    PS X (.Assign [.Name x pos'] e pos) (tAsg te (gName i)) := by
  intro pins s σ H D I h
  refine wpAny_Assign_Name (thn (he pins s σ H _ I h) fun v s1 ⟨y, H1, I1, r1, q1⟩ => ?_) hs
  exact store_ok I1 hN hi hx r1 (fun s2 I2 => ⟨_, H1, I2, q1⟩) hf

end


section
variable {X : Cx} {pos : Pos}

end



structure It where
  go : Nat → Hp → Prop
  yld : Nat → Hp → V → Hp → Prop
  stop : Nat → Hp → Prop

def FpOk (X : Cx) (pins : List (Addr × Obj)) (H : Hp) (b : Addr) : Prop :=
  H b = none ∧ b ≠ X.env.locals ∧ b ∉ X.fs ∧ (b ∈ X.ex ∨ X.s₀.heap.objs.size ≤ b) ∧ (∀ x c, X.env.cells.lookup x = some c → c ≠ b) ∧ ∀ p ∈ X.pn ++ pins, p.1 ≠ b
theorem Inv.fpOk {X : Cx} {pins : List (Addr × Obj)} {σ : St} {H H' : Hp} {s : Shared} {b : Addr} (I : Inv X pins σ H s) (hb : s.heap.objs.size ≤ b) (hn : H' b = none) : FpOk X pins H' b := by
  refine ⟨hn, Nat.ne_of_gt (Nat.lt_of_lt_of_le I.lt hb), I.nofs hb, .inr (Nat.le_trans I.sz hb), fun x c e z => ?_, fun p hp z => ?_⟩
  · obtain ⟨v, q⟩ := I.cell x c e
    exact absurd (Nat.lt_of_lt_of_le q.lt (by rw [z]; exact hb)) (Nat.lt_irrefl _)
  · exact absurd (Nat.lt_of_lt_of_le (Heap.lt_size (I.pin p hp).1) (by rw [z]; exact hb)) (Nat.lt_irrefl _)
structure Turn (P : Program) (w : World) (K : PySem.W.Frag) (tg : Expr) (J : It) (fp : List Addr) (it : Addr) (tn : Nat → Heap → Prop) : Prop where
  mem : it ∈ fp
  obj : ∀ i h, tn i h → ∀ b ∈ fp, ∃ o, h.get? b = some o ∧ ∀ v, o.data ≠ .cell v
  keep : ∀ i h h', tn i h → (∀ b ∈ fp, ∀ o, h.get? b = some o → h'.get? b = some o) → tn i h'
  item : ∀ (X : Cx), X.prog = P → X.w = w → X.K = K → X.calm = true → ∀ (i : Nat) (pins : List (Addr × Obj)) (s : Shared) (σ : St) (H : Hp) (E : Value → Shared → Prop), Inv X pins σ H s → (∀ b ∈ fp, FpOk X pins H b) → tn i s.heap → J.go i H →
    wpAny (model P w) X.A (pyNext (.ref it)) (fun r s1 => ∃ u, r = some u ∧
      wpAny (model P w) X.A (letOwnedTupleGo tg (.ref it) u) (fun _ s2 => ∃ x H', Inv X pins σ H' s2 ∧ RelV x u ∧ J.yld i H x H' ∧ tn (i + 1) s2.heap ∧ ∀ b ∈ fp, H' b = none) E s1) E s
  done : ∀ (X : Cx), X.prog = P → X.w = w → X.K = K → X.calm = true → ∀ (i : Nat) (pins : List (Addr × Obj)) (s : Shared) (σ : St) (H : Hp) (E : Value → Shared → Prop), Inv X pins σ H s → (∀ b ∈ fp, FpOk X pins H b) → tn i s.heap → J.stop i H →
    wpAny (model P w) X.A (pyNext (.ref it)) (fun r s1 => r = none ∧ Inv X pins σ H s1) E s
  self : ∀ (A : Around) (i : Nat) (s : Shared) (Q : Value → Shared → Prop) (E : Value → Shared → Prop), tn i s.heap → Q (.ref it) s → wpAny (model P w) A (pyIter (.ref it)) Q E s
abbrev TI := St → Hp → (It → Hp → Prop) → Prop

def PIE (X : Cx) (pins : List (Addr × Obj)) (σ : St) (tg : Expr) (R : It → Hp → Prop) (itv : Value) (s2 : Shared) : Prop :=
  ∃ (it : Addr) (fp : List Addr) (tn : Nat → Heap → Prop) (J : It) (H' : Hp), itv = .ref it ∧ Inv X pins σ H' s2 ∧ Turn X.prog X.w X.K tg J fp it tn ∧ tn 0 s2.heap ∧ (∀ b ∈ fp, FpOk X pins H' b) ∧ R J H'
def PI (X : Cx) (tg iter : Expr) (wi : TI) : Prop :=
  ∀ (pins : List (Addr × Obj)) (s : Shared) (σ : St) (H : Hp) (R : It → Hp → Prop), Inv X pins σ H s → wi σ H R →
    wpAny (model X.prog X.w) X.A (eval iter X.env) (fun v s1 => wpAny (model X.prog X.w) X.A (pyIter v) (PIE X pins σ tg R) X.xe s1) X.xe s


theorem go_of {M : Model} {A : Around} {E : Value → Shared → Prop} {s : Shared} {tg : Expr} {it : Addr} {u : Value} {o : Obj} {n : String} {vs : Array Value} {Q : Unit → Shared → Prop} (ho : s.heap.get? it = some o) (hc : o.cls = .type n) (hd : o.data = .fields vs)
    (hn : ["enumerate", "zip", "dict_itemiterator", "dict_reverseitemiterator", "odict_iterator", "itertools.zip_longest", "itertools.pairwise"].contains n = false) (hQ : Q () s) : wpAny M A (letOwnedTupleGo tg (.ref it) u) Q E s := by
  unfold letOwnedTupleGo
  cases tg <;> first
    | exact wpAny_pure hQ
    | (cases u <;> first
        | exact wpAny_pure hQ
        | (refine wpAny_bind (wpAny_load ho ?_)
           rw [hc, hd]
           show wpAny M A (if (["enumerate", "zip", "dict_itemiterator", "dict_reverseitemiterator", "odict_iterator", "itertools.zip_longest", "itertools.pairwise"].contains n && vs[0]? == some (rawInt _)) = true then _ else _) Q E s
           rw [if_neg (by intro h; rw [hn, Bool.false_and] at h; cases h)]
           exact wpAny_pure hQ))


def Itt (K : PySem.W.Frag) (a : Addr) : It :=
  ⟨fun i H => ∃ xs x, SqT K H a xs ∧ xs[i]? = some x, fun i H x H' => H' = H ∧ ∀ xs, SqT K H a xs → xs[i]? = some x, fun i H => ∃ xs, SqT K H a xs ∧ xs.length ≤ i⟩

def Itr (lo : Int) (n : Nat) : It := ⟨fun i _ => i < n, fun i H x H' => H' = H ∧ x = .int (lo + i), fun i _ => n ≤ i⟩
theorem turn_tuple {P : Program} {w : World} {K : PySem.W.Frag} {tg : Expr} (a it : Addr) : Turn P w K tg (Itt K a) [it] it (fun i h => h.IsTupleIter it a i) where
  mem := by simp
  obj := fun i h st b hb => by
    have e : b = it := by simpa using hb
    subst e
    obtain ⟨o, e, c, d⟩ := st
    exact ⟨o, e, fun v z => by rw [d] at z; cases z⟩
  keep := fun i h h' st k => st.at fun o e => k it (by simp) o e
  item := by
    intro X hP hw hK hc i pins s σ H E I hf st hg
    subst hP hw hK
    obtain ⟨xs, x, hq, hx⟩ := hg
    obtain ⟨its, rv, p, hz⟩ := I.tuple hq
    obtain ⟨u, hu, ru⟩ := rv.get hx
    obtain ⟨f0, f1, f2, f3, f4, f5⟩ := hf it (by simp)
    refine wpAny_pyNext_tuple_item st (show s.heap.IsTuple a its.toArray from p) (x := u) (by simpa using hu) fun h' st' sb => ?_
    have I1 : Inv X pins σ H { s with heap := h' } := I.turned (t' := s.toks) (fun b o hb e => (sb.2 b hb).trans e) f0 f1 f3 f4 f5
    obtain ⟨o, e, c, d⟩ := id st'
    exact ⟨u, rfl, go_of (s := { s with heap := h' }) e c d (by decide) ⟨x, H, I1, ru, ⟨rfl, fun ys hy => by rw [I.tuple_inj hy hq]; exact hx⟩, st', fun b hb => (hf b hb).1⟩⟩
  done := by
    intro X hP hw hK hc i pins s σ H E I hf st hg
    subst hP hw hK
    obtain ⟨xs, hq, hx⟩ := hg
    obtain ⟨its, rv, p, hz⟩ := I.tuple hq
    obtain ⟨f0, f1, f2, f3, f4, f5⟩ := hf it (by simp)
    have hl := rv.length
    exact wpAny_pyNext_tuple_end (I.ok.hd hc) st (show s.heap.IsTuple a its.toArray from p) (by simp; omega) fun h' eb => ⟨rfl, I.turned (t' := s.toks) (fun b o hb e => eb b o hb e) f0 f1 f3 f4 f5⟩
  self := fun _ _ _ _ _ st h => wpAny_pyIter_tupleiter st h
theorem turn_range {P : Program} {w : World} {K : PySem.W.Frag} {tg : Expr} (it : Addr) (lo : Int) (n : Nat) : Turn P w K tg (Itr lo n) [it] it (fun i h => IsRangeIter h it (lo + (i : Nat) * 1) ((n : Int) - (i : Nat)) 1) where
  mem := by simp
  obj := fun i h st b hb => by
    have e : b = it := by simpa using hb
    subst e
    exact ⟨_, st, fun v z => by
      have z' : Data.fields _ = Data.cell v := z
      cases z'⟩
  keep := fun i h h' st k => k it (by simp) _ st
  item := by
    intro X hP hw hK hc i pins s σ H E I hf st hg
    subst hP hw hK
    obtain ⟨f0, f1, f2, f3, f4, f5⟩ := hf it (by simp)
    have W := Walks.range (prog := X.prog) (w := X.w) (I.ok.hd hc) it lo 1 n
    refine W.item i s _ _ hg st fun v h' tk hv st' kk => ?_
    obtain ⟨t, rfl⟩ := hv
    have I1 : Inv X pins σ H { s with heap := h', toks := tk } := I.turned (fun b o hb e => kk b o (by simpa using hb) e) f0 f1 f3 f4 f5
    refine ⟨_, rfl, go_of (s := { s with heap := h', toks := tk }) (n := "range_iterator") st' rfl rfl (by decide) ⟨.int (lo + i), H, I1, ⟨t, ?_⟩, ⟨rfl, rfl⟩, st', fun b hb => (hf b hb).1⟩⟩
    rw [Int.mul_one]
  done := by
    intro X hP hw hK hc i pins s σ H E I hf st hg
    subst hP hw hK
    obtain ⟨f0, f1, f2, f3, f4, f5⟩ := hf it (by simp)
    exact wpAny_pyNext_range_end (I.ok.hd hc) st (by have : n ≤ i := hg; omega) fun h' eb => ⟨rfl, I.turned (t' := s.toks) (fun b o hb e => eb b o hb e) f0 f1 f3 f4 f5⟩
  self := fun _ _ _ _ _ st h => wpAny_pyIter_rangeiter st h
end L2

namespace L2
open PySem PySem.Spec PyProof.Rows
section
variable {X : Cx} {tg : Expr}
def iTup (K : PySem.W.Frag) (tl : TE) : TI := fun σ H R => tl σ H fun x H1 => ∃ a, x = .ref a ∧ (∃ xs, SqT K H1 a xs) ∧ R (Itt K a) H1
theorem pi_tup {l : Expr} {tl : TE} (hl : PE X l tl) : PI X tg l (iTup X.K tl) := by
  intro pins s σ H R I h
  refine thn (hl pins s σ H _ I h) fun v s1 ⟨x, H1, I1, r1, q1⟩ => ?_
  obtain ⟨a, e, ⟨xs, hq⟩, q⟩ := q1
  subst e
  cases r1
  obtain ⟨its, rv, p, hz⟩ := I1.tuple hq
  refine wpAny_pyIter_tuple (show s1.heap.IsTuple a its.toArray from p) ?_
  refine ⟨s1.heap.objs.size, [s1.heap.objs.size], _, _, H1, rfl, I1.kept (t' := s1.toks) fun b o e => Heap.get?_push_of_some _ e, turn_tuple a _, ⟨_, Heap.get?_push_size _ rfl, rfl, rfl⟩, fun b hb => ?_, q⟩
  have e : b = s1.heap.objs.size := by simpa using hb
  subst e
  exact I1.fpOk (Nat.le_refl _) (I1.hok.fresh (Nat.le_refl _))

theorem range_it {pins : List (Addr × Obj)} {σ : St} {H : Hp} {s : Shared} {R : It → Hp → Prop} {E : Value → Shared → Prop} {lo hi : Int} {t u v : Tok} {tk : Nat} (I : Inv X pins σ H s) (h1 : -(2 ^ 62) ≤ lo) (h2 : lo < 2 ^ 62) (h3 : -(2 ^ 62) ≤ hi) (h4 : hi < 2 ^ 62)
    (q : R (Itr lo (hi - lo).toNat) H) : wpAny (model X.prog X.w) X.A (pyIter (.ref s.heap.objs.size)) (PIE X pins σ tg R) E { s with heap := s.heap.push { cls := .type "range", data := .fields #[.int lo t, .int hi u, .int 1 v] }, toks := tk } := by
  refine wpAny_pyIter_range (IsRange.new ..) (small_one h1 h2 h3 h4) ?_
  have I1 : Inv X pins σ H { s with heap := s.heap.push { cls := .type "range", data := .fields #[.int lo t, .int hi u, .int 1 v] }, toks := tk } := I.kept fun b o e => Heap.get?_push_of_some _ e
  refine ⟨(s.heap.push { cls := .type "range", data := .fields #[.int lo t, .int hi u, .int 1 v] }).objs.size, [(s.heap.push { cls := .type "range", data := .fields #[.int lo t, .int hi u, .int 1 v] }).objs.size], _, _, H, rfl,
    I1.kept (t' := tk) fun b o e => Heap.get?_push_of_some _ e, turn_range _ lo (hi - lo).toNat, ?_, fun b hb => ?_, q⟩
  · have e1 : lo + ((0 : Nat) : Int) * 1 = lo := by simp
    have e2 : (((hi - lo).toNat : Nat) : Int) - ((0 : Nat) : Int) = Builtin.Range.rangeSize lo hi 1 := by rw [rangeSize_one]; split <;> omega
    show IsRangeIter _ _ (lo + ((0 : Nat) : Int) * 1) ((((hi - lo).toNat : Nat) : Int) - ((0 : Nat) : Int)) 1
    rw [e1, e2]
    exact Heap.get?_push_size _ rfl
  · have e : b = (s.heap.push { cls := .type "range", data := .fields #[.int lo t, .int hi u, .int 1 v] }).objs.size := by simpa using hb
    subst e
    exact I1.fpOk (Nat.le_refl _) (I1.hok.fresh (Nat.le_refl _))
def iRng1 (ta : TA) : TI := fun σ H R => ta σ H fun vs H1 => ∃ j : Int, vs = [.int j] ∧ -(2 ^ 62) ≤ j ∧ j < 2 ^ 62 ∧ R (Itr 0 j.toNat) H1
theorem pi_range1 {a : Expr} {ta : TA} {p pos : Pos} (hg : Gl X "range") (hm : X.mg "range" = none) (ha : PA X [a] ta) (hs : starEach [a] X.env = [(false, eval a X.env)] := by rfl) : PI X tg (.Call (.Name "range" p) [a] [] pos) (iRng1 ta) := by
  intro pins s σ H R I h
  refine Call_ (ld_blt I hg hm boot_range (PyProof.Rows.callWith_type1 (thn (ha pos pins s σ H _ I h) fun us s1 ⟨vs, H1, I1, r1, q1⟩ => ?_) hs rfl))
  obtain ⟨j, e, q1, q2, q⟩ := q1
  subst e
  cases r1 with
  | cons r rr =>
    cases rr
    obtain ⟨t, rfl⟩ := r
    exact call_range_1 (range_it I1 (by omega) (by omega) q1 q2 (by simpa using q))
def tFor (wi : TI) (g : TG) (tb : TS) : TS := fun D σ H => wi σ H fun J H1 => ∃ W : Nat → Nat → St → Hp → Prop, (∃ m, W 0 m σ H1) ∧ ∀ i m σ H, W i m σ H →
  (J.stop i H ∧ D.nx σ H) ∨ (J.go i H ∧ ∃ N : St → Hp → Prop, (∀ σ' H', N σ' H' → ∃ m', m' < m ∧ W (i + 1) m' σ' H') ∧ ∀ x H', J.yld i H x H' → g x σ H' fun σ2 H2 => tb { D with nx := N, ct := N, bk := D.nx } σ2 H2)

def pinsAt (fp : List Addr) (h : Heap) : List (Addr × Obj) := fp.filterMap fun b => (h.get? b).map fun o => (b, o)
theorem mem_pinsAt {fp : List Addr} {h : Heap} {b : Addr} {o : Obj} (hb : b ∈ fp) (e : h.get? b = some o) : (b, o) ∈ pinsAt fp h := List.mem_filterMap.mpr ⟨b, hb, by rw [e]; rfl⟩
theorem of_pinsAt {fp : List Addr} {h : Heap} {p : Addr × Obj} (hp : p ∈ pinsAt fp h) : p.1 ∈ fp ∧ h.get? p.1 = some p.2 := by
  obtain ⟨b, hb, e⟩ := List.mem_filterMap.mp hp
  cases q : h.get? b with
  | none => rw [q] at e; cases e
  | some o =>
    rw [q] at e
    have e' : (b, o) = p := Option.some.inj e
    subst e'
    exact ⟨hb, q⟩
theorem Inv.pinned {pins : List (Addr × Obj)} {σ : St} {H : Hp} {s : Shared} {fp : List Addr} (I : Inv X pins σ H s) (hf : ∀ b ∈ fp, FpOk X pins H b) (ho : ∀ b ∈ fp, ∃ o, s.heap.get? b = some o ∧ ∀ v, o.data ≠ .cell v) : Inv X (pins ++ pinsAt fp s.heap) σ H s :=
  I.pins_of fun p hp => (List.mem_append.mp hp).elim (fun z => I.pin p (List.mem_append_right _ z)) fun z => by
    obtain ⟨hb, e⟩ := of_pinsAt z
    obtain ⟨f0, f1, f2, _⟩ := hf p.1 hb
    obtain ⟨o, e', d⟩ := ho p.1 hb
    rw [e] at e'; cases e'
    exact ⟨e, f0, f1, f2, d⟩
theorem Inv.unpinned {pins pl : List (Addr × Obj)} {σ : St} {H : Hp} {s : Shared} (I : Inv X (pins ++ pl) σ H s) : Inv X pins σ H s := I.pins_of fun p hp => I.pin p (List.mem_append_right _ (List.mem_append_left _ hp))
theorem ps_for {iter : Expr} {body : List Stmt} {wi : TI} {g : TG} {tb : TS} {pos : Pos} (hp : PassesOwn (model X.prog X.w) X.A X.env X.xe) (hc : X.calm = true) (hi : PI X tg iter wi) (hg : PG X tg g) (hb : PSs X body tb)
    (hs : ∀ x, foldedSetIterable iter X.env x = pure x := by intro _; rfl) : PS X (.For tg iter body [] pos) (tFor wi g tb) := by
  intro pins s σ H D I h
  refine wpAny_For (thn (hi pins s σ H _ I h) fun v s1 h1 => thn h1 fun itv s2 h2 => ?_) hs
  obtain ⟨it, fp, tn, J, H2, e, I2, T, st2, f2, W, ⟨m0, w0⟩, turn⟩ := h2
  subst e
  -- what stays true of the iterator's objects through the loop
  have stat : ∀ {H' : Hp}, (∀ b ∈ fp, H' b = none) → ∀ b ∈ fp, FpOk X pins H' b := fun hn b hb => ⟨hn b hb, (f2 b hb).2⟩
  refine codeAny_forLoop_any (fun n s' => ∃ i σ' H', Inv X pins σ' H' s' ∧ tn i s'.heap ∧ (∀ b ∈ fp, H' b = none) ∧ W i n σ' H') ?_ m0 ⟨0, σ, H2, I2, st2, fun b hb => (f2 b hb).1, w0⟩
  rintro n s3 ⟨i, σ3, H3, I3, st3, fr3, w3⟩
  rcases turn i n σ3 H3 w3 with ⟨stop, qn⟩ | ⟨go, N, hN, step⟩
  · refine wpAny_passesOwn hp (thn (T.done X rfl rfl rfl hc i pins s3 σ3 H3 X.xe I3 (stat fr3) st3 stop) fun r s4 ⟨hr, I4⟩ => ?_)
    subst hr
    exact wpAny_execs_nil ⟨σ3, H3, I4, qn⟩
  · refine wpAny_passesOwn hp (thn (T.item X rfl rfl rfl hc i pins s3 σ3 H3 X.xe I3 (stat fr3) st3 go) fun r s4 ⟨u, hr, h4⟩ => ?_)
    subst hr
    refine wpAny_passesOwn hp (thn h4 fun _ s5 ⟨x, H5, I5, r5, y5, st5, fr5⟩ => ?_)
    have I5' := I5.pinned (stat fr5) (T.obj _ _ st5)
    refine wpAny_passesOwn hp (thn (hg _ s5 σ3 H5 x u _ I5' r5 (step x H5 y5)) fun _ s6 ⟨σ6, H6, I6, q6⟩ => ?_)
    refine wpAny_passesOwn hp (thn (hb _ s6 σ6 H6 _ I6 q6) fun f s7 q7 => ?_)
    have again : ∀ {σ7 : St} {H7 : Hp}, Inv X (pins ++ pinsAt fp s5.heap) σ7 H7 s7 → N σ7 H7 → ∃ m, m < n ∧ ∃ i σ' H', Inv X pins σ' H' s7 ∧ tn i s7.heap ∧ (∀ b ∈ fp, H' b = none) ∧ W i m σ' H' := fun {σ7 H7} I7 n7 => by
      obtain ⟨m', hm, w7⟩ := hN σ7 H7 n7
      refine ⟨m', hm, i + 1, σ7, H7, I7.unpinned, T.keep _ _ _ st5 fun b hb o e => (I7.pin (b, o) (List.mem_append_right _ (List.mem_append_right _ (mem_pinsAt hb e)))).1, fun b hb => ?_, w7⟩
      obtain ⟨o, e, d⟩ := T.obj _ _ st5 b hb
      exact (I7.pin (b, o) (List.mem_append_right _ (List.mem_append_right _ (mem_pinsAt hb e)))).2.1
    cases f with
    | next => obtain ⟨σ7, H7, I7, n7⟩ := q7; exact again I7 n7
    | cont => obtain ⟨σ7, H7, I7, n7⟩ := q7; exact again I7 n7
    | brk => obtain ⟨σ7, H7, I7, q7⟩ := q7; exact ⟨σ7, H7, I7.unpinned, q7⟩
    | ret v => obtain ⟨x7, σ7, H7, I7, r7, q7⟩ := q7; exact ⟨x7, σ7, H7, I7.unpinned, r7, q7⟩
end



theorem for_tup {K : PySem.W.Frag} {a : Addr} {xs : List V} {g : TG} {tb : TS} {D : Ends} {σ : St} {H : Hp} (Pv : Nat → St → Hp → Prop) (h0 : Pv 0 σ H) (hl : ∀ i σ H, i ≤ xs.length → Pv i σ H → SqT K H a xs)
    (hs : ∀ i x σ H, xs[i]? = some x → Pv i σ H → g x σ H fun σ2 H2 => tb { D with nx := Pv (i + 1), ct := Pv (i + 1), bk := D.nx } σ2 H2) (hd : ∀ σ H, Pv xs.length σ H → D.nx σ H) :
    ∃ W : Nat → Nat → St → Hp → Prop, (∃ m, W 0 m σ H) ∧ ∀ i m σ H, W i m σ H →
      ((Itt K a).stop i H ∧ D.nx σ H) ∨ ((Itt K a).go i H ∧ ∃ N : St → Hp → Prop, (∀ σ' H', N σ' H' → ∃ m', m' < m ∧ W (i + 1) m' σ' H') ∧ ∀ x H', (Itt K a).yld i H x H' → g x σ H' fun σ2 H2 => tb { D with nx := N, ct := N, bk := D.nx } σ2 H2) := by
  refine ⟨fun i m σ H => m = xs.length - i ∧ i ≤ xs.length ∧ Pv i σ H, ⟨xs.length, by simp, Nat.zero_le _, h0⟩, ?_⟩
  rintro i m σ H ⟨rfl, hi, p⟩
  have q := hl i σ H hi p
  by_cases hlt : i < xs.length
  · refine .inr ⟨⟨xs, xs[i], q, by simp [hlt]⟩, Pv (i + 1), fun σ' H' p' => ⟨xs.length - (i + 1), by omega, rfl, hlt, p'⟩, fun x H' y => ?_⟩
    obtain ⟨e, y⟩ := y
    subst e
    exact hs i x σ _ (y xs q) p
  · have e : i = xs.length := by omega
    subst e
    exact .inl ⟨⟨xs, q, Nat.le_refl _⟩, hd σ H p⟩
theorem for_range {lo : Int} {n : Nat} {g : TG} {tb : TS} {D : Ends} {σ : St} {H : Hp} (Pv : Nat → St → Hp → Prop) (h0 : Pv 0 σ H)
    (hs : ∀ i σ H, i < n → Pv i σ H → g (.int (lo + i)) σ H fun σ2 H2 => tb { D with nx := Pv (i + 1), ct := Pv (i + 1), bk := D.nx } σ2 H2) (hd : ∀ σ H, Pv n σ H → D.nx σ H) :
    ∃ W : Nat → Nat → St → Hp → Prop, (∃ m, W 0 m σ H) ∧ ∀ i m σ H, W i m σ H →
      ((Itr lo n).stop i H ∧ D.nx σ H) ∨ ((Itr lo n).go i H ∧ ∃ N : St → Hp → Prop, (∀ σ' H', N σ' H' → ∃ m', m' < m ∧ W (i + 1) m' σ' H') ∧ ∀ x H', (Itr lo n).yld i H x H' → g x σ H' fun σ2 H2 => tb { D with nx := N, ct := N, bk := D.nx } σ2 H2) := by
  refine ⟨fun i m σ H => m = n - i ∧ i ≤ n ∧ Pv i σ H, ⟨n, by simp, Nat.zero_le _, h0⟩, ?_⟩
  rintro i m σ H ⟨rfl, hi, p⟩
  by_cases hlt : i < n
  · refine .inr ⟨hlt, Pv (i + 1), fun σ' H' p' => ⟨n - (i + 1), by omega, rfl, hlt, p'⟩, fun x H' y => ?_⟩
    obtain ⟨e, y⟩ := y
    subst e y
    exact hs i σ _ hlt p
  · have e : i = n := by omega
    subst e
    exact .inl ⟨Nat.le_refl _, hd σ H p⟩

end L2

namespace L2
open PySem PySem.Spec PyProof.Rows

abbrev R2 := V → V → Hp → VK → Prop

def OpR (X : Cx) (f : Value → Value → Sem Value) (r : R2) : Prop :=
  ∀ (pins : List (Addr × Obj)) (s : Shared) (σ : St) (H : Hp) (x y : V) (v u : Value) (Q : VK), Inv X pins σ H s → RelV x v → RelV y u → r x y H Q →
    wpAny (model X.prog X.w) X.A (f v u) (EP X pins σ Q) X.xe s

def UnR (X : Cx) (f : Value → Sem Value) (r : V → Hp → VK → Prop) : Prop :=
  ∀ (pins : List (Addr × Obj)) (s : Shared) (σ : St) (H : Hp) (x : V) (v : Value) (Q : VK), Inv X pins σ H s → RelV x v → r x H Q →
    wpAny (model X.prog X.w) X.A (f v) (EP X pins σ Q) X.xe s

def CallR (X : Cx) (f : Value) (r : List V → Hp → VK → Prop) : Prop :=
  ∀ (pins : List (Addr × Obj)) (s : Shared) (σ : St) (H : Hp) (xs : List V) (us : List Value) (Q : VK), Inv X pins σ H s → Vals xs us → r xs H Q →
    wpAny (model X.prog X.w) X.A (call f us) (EP X pins σ Q) X.xe s

def tOp (r : R2) (ta tb : TE) : TE := fun σ H Q => ta σ H fun x H1 => tb σ H1 fun y H2 => r x y H2 Q
def tUn (r : V → Hp → VK → Prop) (ta : TE) : TE := fun σ H Q => ta σ H fun x H1 => r x H1 Q

def rI (C : Int → Int → Prop) (g : Int → Int → V) : R2 := fun x y H Q => ∃ i j, x = .int i ∧ y = .int j ∧ C i j ∧ Q (g i j) H
def rI0 (g : Int → Int → V) : R2 := fun x y H Q => ∃ i j, x = .int i ∧ y = .int j ∧ Q (g i j) H
def rU (g : Int → V) : V → Hp → VK → Prop := fun x H Q => ∃ i, x = .int i ∧ Q (g i) H

section
variable {X : Cx} {a b c : Expr} {ta tb tc : TE} {pos : Pos}

theorem binT (ha : PE X a ta) (hb : PE X b tb) {pins : List (Addr × Obj)} {s : Shared} {σ : St} {H : Hp} {R : V → V → Hp → Prop} (I : Inv X pins σ H s)
    (h : ta σ H fun x H1 => tb σ H1 fun y H2 => R x y H2) {Q : Value → Shared → Prop} {f : Value → Value → Sem Value}
    (hf : ∀ v u s2 x y H2, Inv X pins σ H2 s2 → RelV x v → RelV y u → R x y H2 → wpAny (model X.prog X.w) X.A (f v u) Q X.xe s2) :
    wpAny (model X.prog X.w) X.A (eval a X.env) (fun v s₁ => wpAny (model X.prog X.w) X.A (eval b X.env) (fun u s₂ => wpAny (model X.prog X.w) X.A (f v u) Q X.xe s₂) X.xe s₁) X.xe s := by
  refine thn (ha pins s σ H _ I h) fun v s1 ⟨x, H1, I1, r1, q1⟩ => ?_
  refine thn (hb pins s1 σ H1 _ I1 q1) fun u s2 ⟨y, H2, I2, r2, q2⟩ => ?_
  exact hf v u s2 x y H2 I2 r1 r2 q2

theorem pe_op {op : Operator} {r : R2} (ho : OpR X (binaryOp op) r) (ha : PE X a ta) (hb : PE X b tb) : PE X (.BinOp a op b pos) (tOp r ta tb) := by
  intro pins s σ H Q I h
  exact wpAny_BinOp (binT ha hb I h fun v u s2 x y H2 I2 rx ry q => ho pins s2 σ H2 x y v u Q I2 rx ry q)
theorem pe_un {op : UnaryOp} {r : V → Hp → VK → Prop} (ho : UnR X (unaryOp op) r) (ha : PE X a ta) : PE X (.UnaryOp op a pos) (tUn r ta) := by
  intro pins s σ H Q I h
  exact UnaryOp_ (thn (ha pins s σ H _ I h) fun v s1 ⟨x, H1, I1, r1, q1⟩ => ho pins s1 σ H1 x v Q I1 r1 q1)

theorem opI {f : Value → Value → Sem Value} {C : Int → Int → Prop} {g : Int → Int → Int}
    (rule : ∀ (i j : Int) (t u : Tok) (s : Shared) (Q : Value → Shared → Prop) (E : Value → Shared → Prop), C i j → Q (.int (g i j) s.toks) { s with toks := s.toks + 1 } → wpAny (model X.prog X.w) X.A (f (.int i t) (.int j u)) Q E s) :
    OpR X f (rI C fun i j => .int (g i j)) := by
  intro pins s σ H x y v u Q I rx ry h
  obtain ⟨i, j, rfl, rfl, hc, q⟩ := h
  obtain ⟨t, rfl⟩ := rx
  obtain ⟨t', rfl⟩ := ry
  exact rule i j t t' s _ _ hc ⟨.int (g i j), H, I.tok _, ⟨_, rfl⟩, q⟩
theorem opI0 {f : Value → Value → Sem Value} {g : Int → Int → Int}
    (rule : ∀ (i j : Int) (t u : Tok) (s : Shared) (Q : Value → Shared → Prop) (E : Value → Shared → Prop), Q (.int (g i j) s.toks) { s with toks := s.toks + 1 } → wpAny (model X.prog X.w) X.A (f (.int i t) (.int j u)) Q E s) :
    OpR X f (rI0 fun i j => .int (g i j)) := by
  intro pins s σ H x y v u Q I rx ry h
  obtain ⟨i, j, rfl, rfl, q⟩ := h
  obtain ⟨t, rfl⟩ := rx
  obtain ⟨t', rfl⟩ := ry
  exact rule i j t t' s _ _ ⟨.int (g i j), H, I.tok _, ⟨_, rfl⟩, q⟩
theorem opB0 {f : Value → Value → Sem Value} {g : Int → Int → Bool}
    (rule : ∀ (i j : Int) (t u : Tok) (s : Shared) (Q : Value → Shared → Prop) (E : Value → Shared → Prop), Q (.bool (g i j)) s → wpAny (model X.prog X.w) X.A (f (.int i t) (.int j u)) Q E s) :
    OpR X f (rI0 fun i j => .bl (g i j)) := by
  intro pins s σ H x y v u Q I rx ry h
  obtain ⟨i, j, rfl, rfl, q⟩ := h
  obtain ⟨t, rfl⟩ := rx
  obtain ⟨t', rfl⟩ := ry
  exact rule i j t t' s _ _ ⟨.bl (g i j), H, I, rfl, q⟩

def CPow (i j : Int) : Prop := 0 ≤ j ∧ j ≤ 1000000 ∧ i.natAbs < 2 ^ 64
def CMul (i j : Int) : Prop := (-(2 ^ 64) < i ∧ i < 2 ^ 64) ∨ (-(2 ^ 64) < j ∧ j < 2 ^ 64)
theorem CMul.ok {i j : Int} (h : CMul i j) : IntMulOk i j := by
  rcases h with ⟨h1, h2⟩ | ⟨h1, h2⟩
  · exact .of_left (intBits_le_64 h1 h2)
  · exact .of_right (intBits_le_64 h1 h2)
theorem op_add : OpR X (binaryOp .Add) (rI0 fun i j => .int (i + j)) := opI0 fun _ _ _ _ _ _ _ q => add_int q
theorem op_sub : OpR X (binaryOp .Sub) (rI0 fun i j => .int (i - j)) := opI0 fun _ _ _ _ _ _ _ q => sub_int q
theorem op_mul : OpR X (binaryOp .Mult) (rI CMul fun i j => .int (i * j)) := opI fun _ _ _ _ _ _ _ hc q => mul_int q hc.ok

theorem op_mod : OpR X (binaryOp .Mod) (rI (fun _ j => 0 < j) fun i j => .int (i % j)) := opI fun i j _ _ _ _ _ hc q => by
  have h1 : (0 : Int) < j := hc
  exact mod_int' (by omega) (by rw [Int.fmod_eq_emod_of_nonneg i (by omega)]; exact q)
theorem op_pow : OpR X (binaryOp .Pow) (rI CPow fun i j => .int (i ^ j.toNat)) := opI fun _ _ _ _ _ _ _ hc q => pow_int_small hc.1 hc.2.1 hc.2.2 q
theorem unI {f : Value → Sem Value} {g : Int → Int}
    (rule : ∀ (i : Int) (t : Tok) (s : Shared) (Q : Value → Shared → Prop) (E : Value → Shared → Prop), Q (.int (g i) s.toks) { s with toks := s.toks + 1 } → wpAny (model X.prog X.w) X.A (f (.int i t)) Q E s) :
    UnR X f (rU fun i => .int (g i)) := by
  intro pins s σ H x v Q I rx h
  obtain ⟨i, rfl, q⟩ := h
  obtain ⟨t, rfl⟩ := rx
  exact rule i t s _ _ ⟨.int (g i), H, I.tok _, ⟨_, rfl⟩, q⟩
theorem un_neg : UnR X (unaryOp .USub) (rU fun i => .int (-i)) := unI fun _ _ _ _ _ q => neg_int q
end



def scal : V → V → Bool
  | .non, .non => true | .non, .int _ => true | .int _, .non => true | .non, .bl _ => true | .bl _, .non => true | .non, .str _ => true | .str _, .non => true
  | .int _, .int _ => true | .bl _, .bl _ => true | .str _, .str _ => true | .byt _, .byt _ => true
  | .int _, .str _ => true | .str _, .int _ => true | .bl _, .str _ => true | .str _, .bl _ => true
  | _, _ => false
def rEq : R2 := fun x y H Q => scal x y = true ∧ Q (.bl (decide (x = y))) H
def rNe : R2 := fun x y H Q => scal x y = true ∧ Q (.bl (!decide (x = y))) H

theorem dec_int {i j : Int} : decide (V.int i = V.int j) = (i == j) := by
  rw [Bool.eq_iff_iff]
  simp
theorem dec_bl {i j : Bool} : decide (V.bl i = V.bl j) = (i == j) := by
  rw [Bool.eq_iff_iff]
  simp
theorem dec_str {i j : Str} : decide (V.str i = V.str j) = (i == j) := by
  rw [Bool.eq_iff_iff]
  simp
theorem dec_byt {i j : Array UInt8} : decide (V.byt i = V.byt j) = (i.toList == j.toList) := by
  rw [Bool.eq_iff_iff]
  cases i
  cases j
  simp

section
variable {X : Cx} {a b c : Expr} {ta tb tc : TE} {pos : Pos}
theorem fin_bl {pins : List (Addr × Obj)} {σ : St} {H : Hp} {s : Shared} {Q : VK} {k k' : Bool} (I : Inv X pins σ H s) (q : Q (.bl k) H) (e : k = k') : EP X pins σ Q (.bool k') s := by
  subst e
  exact ⟨.bl k, H, I, rfl, q⟩
theorem op_eq : OpR X (compareOp .Eq) rEq := by
  intro pins s σ H x y v u Q I rx ry h
  obtain ⟨hs, q⟩ := h
  cases x with
  | non =>
    cases rx
    cases y with
    | non => cases ry; exact PySem.EqNone.eq_none_none (fin_bl I q (by simp))
    | bl j => cases ry; exact PySem.EqNone.eq_none_bool (fin_bl I q (by simp))
    | int j => obtain ⟨t', rfl⟩ := ry; exact PySem.EqNone.eq_none_int (fin_bl I q (by simp))
    | str j => obtain ⟨t', rfl⟩ := ry; exact PySem.EqNone.eq_none_str (fin_bl I q (by simp))
    | _ => exact absurd (show false = true from hs) Bool.false_ne_true
  | bl i =>
    cases rx
    cases y with
    | non => cases ry; exact PySem.EqNone.eq_bool_none (fin_bl I q (by simp))
    | bl j => cases ry; exact eq_bool (fin_bl I q dec_bl)
    | str j => obtain ⟨t', rfl⟩ := ry; exact PySem.EqMixed.eq_bool_str (fin_bl I q (by simp))
    | _ => exact absurd (show false = true from hs) Bool.false_ne_true
  | int i =>
    obtain ⟨t, rfl⟩ := rx
    cases y with
    | non => cases ry; exact PySem.EqNone.eq_int_none (fin_bl I q (by simp))
    | int j => obtain ⟨t', rfl⟩ := ry; exact eq_int (fin_bl I q dec_int)
    | str j => obtain ⟨t', rfl⟩ := ry; exact PySem.EqMixed.eq_int_str (fin_bl I q (by simp))
    | _ => exact absurd (show false = true from hs) Bool.false_ne_true
  | str i =>
    obtain ⟨t, rfl⟩ := rx
    cases y with
    | non => cases ry; exact PySem.EqNone.eq_str_none (fin_bl I q (by simp))
    | bl j => cases ry; exact PySem.EqMixed.eq_str_bool (fin_bl I q (by simp))
    | int j => obtain ⟨t', rfl⟩ := ry; exact PySem.EqMixed.eq_str_int (fin_bl I q (by simp))
    | str j => obtain ⟨t', rfl⟩ := ry; exact eq_str (fin_bl I q dec_str)
    | _ => exact absurd (show false = true from hs) Bool.false_ne_true
  | byt i =>
    obtain ⟨t, rfl⟩ := rx
    cases y with
    | byt j => obtain ⟨t', rfl⟩ := ry; exact PySem.W.eq_bytes (fin_bl I q dec_byt)
    | _ => exact absurd (show false = true from hs) Bool.false_ne_true
  | _ => cases y <;> exact absurd (show false = true from hs) Bool.false_ne_true
theorem op_ne : OpR X (compareOp .NotEq) rNe := by
  intro pins s σ H x y v u Q I rx ry h
  obtain ⟨hs, q⟩ := h
  cases x with
  | non =>
    cases rx
    cases y with
    | non => cases ry; exact PySem.EqNone.ne_none_none (fin_bl I q (by simp))
    | bl j => cases ry; exact PySem.EqNone.ne_none_bool (fin_bl I q (by simp))
    | int j => obtain ⟨t', rfl⟩ := ry; exact PySem.EqNone.ne_none_int (fin_bl I q (by simp))
    | str j => obtain ⟨t', rfl⟩ := ry; exact PySem.EqNone.ne_none_str (fin_bl I q (by simp))
    | _ => exact absurd (show false = true from hs) Bool.false_ne_true
  | bl i =>
    cases rx
    cases y with
    | non => cases ry; exact PySem.EqNone.ne_bool_none (fin_bl I q (by simp))
    | bl j => cases ry; exact ne_bool (fin_bl I q (congrArg not dec_bl))
    | str j => obtain ⟨t', rfl⟩ := ry; exact PySem.EqMixed.ne_bool_str (fin_bl I q (by simp))
    | _ => exact absurd (show false = true from hs) Bool.false_ne_true
  | int i =>
    obtain ⟨t, rfl⟩ := rx
    cases y with
    | non => cases ry; exact PySem.EqNone.ne_int_none (fin_bl I q (by simp))
    | int j => obtain ⟨t', rfl⟩ := ry; exact ne_int (fin_bl I q (congrArg not dec_int))
    | str j => obtain ⟨t', rfl⟩ := ry; exact PySem.EqMixed.ne_int_str (fin_bl I q (by simp))
    | _ => exact absurd (show false = true from hs) Bool.false_ne_true
  | str i =>
    obtain ⟨t, rfl⟩ := rx
    cases y with
    | non => cases ry; exact PySem.EqNone.ne_str_none (fin_bl I q (by simp))
    | bl j => cases ry; exact PySem.EqMixed.ne_str_bool (fin_bl I q (by simp))
    | int j => obtain ⟨t', rfl⟩ := ry; exact PySem.EqMixed.ne_str_int (fin_bl I q (by simp))
    | str j => obtain ⟨t', rfl⟩ := ry; exact ne_str (fin_bl I q (congrArg not dec_str))
    | _ => exact absurd (show false = true from hs) Bool.false_ne_true
  | byt i =>
    obtain ⟨t, rfl⟩ := rx
    cases y with
    | byt j => obtain ⟨t', rfl⟩ := ry; exact PySem.W.ne_bytes (fin_bl I q (congrArg not dec_byt))
    | _ => exact absurd (show false = true from hs) Bool.false_ne_true
  | _ => cases y <;> exact absurd (show false = true from hs) Bool.false_ne_true

theorem op_lt : OpR X (compareOp .Lt) (rI0 fun i j => .bl (decide (i < j))) := opB0 fun _ _ _ _ _ _ _ q => lt_int q
theorem op_le : OpR X (compareOp .LtE) (rI0 fun i j => .bl (decide (i ≤ j))) := opB0 fun _ _ _ _ _ _ _ q => le_int q
theorem op_gt : OpR X (compareOp .Gt) (rI0 fun i j => .bl (decide (j < i))) := opB0 fun _ _ _ _ _ _ _ q => gt_int q
theorem nomark (b : Expr) {op : CmpOp} (h : op ≠ .In := by decide) (h2 : op ≠ .NotIn := by decide) : behindInMarks op b = false := by
  have e1 : (op == CmpOp.In) = false := by cases op <;> first | rfl | exact absurd rfl h
  have e2 : (op == CmpOp.NotIn) = false := by cases op <;> first | rfl | exact absurd rfl h2
  cases b <;> simp [behindInMarks, e1, e2]

theorem pe_cmpR {op : CmpOp} {r : R2} (ho : OpR X (compareOp op) r) (ha : PE X a ta) (hb : PE X b tb) (hm : behindInMarks op b = false) : PE X (.Compare a [op] [b] pos) (tOp r ta tb) := by
  intro pins s σ H Q I h
  exact wpAny_Compare1 (binT ha hb I h fun v u s2 x y H2 I2 rx ry q => ho pins s2 σ H2 x y v u Q I2 rx ry q) hm

def tTest (t : TE) : TT := fun σ H Q => t σ H fun x H' => ∃ k, x = .bl k ∧ Q k H'
theorem pt_cmpR {op : CmpOp} {r : R2} (ho : OpR X (compareOp op) r) (ha : PE X a ta) (hb : PE X b tb) (hm : behindInMarks op b = false) : PT X (.Compare a [op] [b] pos) (tTest (tOp r ta tb)) := by
  intro pins s σ H Q I h
  refine wpAny_isTrue_Compare1 (thn (ha pins s σ H _ I h) fun v s1 ⟨x, H1, I1, r1, q1⟩ => thn (hb pins s1 σ H1 _ I1 q1) fun u s2 ⟨y, H2, I2, r2, q2⟩ =>
    thn (ho pins s2 σ H2 x y v u _ I2 r1 r2 q2) fun c s3 ⟨z, H3, I3, r3, k, e, q3⟩ => ?_) hm
  subst e
  cases r3
  exact wpAny_truthy_bool ⟨H3, I3, q3⟩

def tChain (r r' : R2) (ta tb tc : TE) : TE := fun σ H Q => ta σ H fun x H1 => tb σ H1 fun y H2 => r x y H2 fun z H3 => ∃ k, z = .bl k ∧
  (if k = true then tc σ H3 fun w' H4 => r' y w' H4 Q else Q (.bl false) H3)
theorem pe_chain {op op' : CmpOp} {r r' : R2} (ho : OpR X (compareOp op) r) (ho' : OpR X (compareOp op') r') (ha : PE X a ta) (hb : PE X b tb) (hc : PE X c tc)
    (hm : lastMarks [op, op'] [b, c] = false := by with_unfolding_all rfl) : PE X (.Compare a [op, op'] [b, c] pos) (tChain r r' ta tb tc) := by
  intro pins s σ H Q I h
  refine Compare_chain (thn (ha pins s σ H _ I h) fun v s1 ⟨x, H1, I1, r1, q1⟩ => chain_link (thn (hb pins s1 σ H1 _ I1 q1) fun u s2 ⟨y, H2, I2, r2, q2⟩ =>
    thn (ho pins s2 σ H2 x y v u _ I2 r1 r2 q2) fun d s3 ⟨z, H3, I3, r3, k, e, q3⟩ => ?_)) hm
  subst e
  cases r3
  refine wpAny_truthy_bool ?_
  cases k with
  | false => exact ite_ff ⟨.bl false, H3, I3, rfl, q3⟩
  | true => exact ite_tt (chain_last (thn (hc pins s3 σ H3 _ I3 q3) fun w' s4 ⟨z', H4, I4, r4, q4⟩ => ho' pins s4 σ H4 y z' u w' Q I4 r2 r4 q4))
theorem pt_chain {op op' : CmpOp} {r r' : R2} (ho : OpR X (compareOp op) r) (ho' : OpR X (compareOp op') r') (ha : PE X a ta) (hb : PE X b tb) (hc : PE X c tc)
    (hm : lastMarks [op, op'] [b, c] = false := by with_unfolding_all rfl) : PT X (.Compare a [op, op'] [b, c] pos) (tTest (tChain r r' ta tb tc)) := by
  intro pins s σ H Q I h
  refine isTrue_chain (thn (ha pins s σ H _ I h) fun v s1 ⟨x, H1, I1, r1, q1⟩ => test_link (thn (hb pins s1 σ H1 _ I1 q1) fun u s2 ⟨y, H2, I2, r2, q2⟩ =>
    thn (ho pins s2 σ H2 x y v u _ I2 r1 r2 q2) fun d s3 ⟨z, H3, I3, r3, k, e, q3⟩ => ?_)) hm
  subst e
  cases r3
  refine wpAny_truthy_bool ?_
  cases k with
  | false =>
    obtain ⟨k', e', q'⟩ := q3
    cases e'
    exact ite_ff ⟨H3, I3, q'⟩
  | true =>
    refine ite_tt (test_last (thn (hc pins s3 σ H3 _ I3 q3) fun w' s4 ⟨z', H4, I4, r4, q4⟩ => thn (ho' pins s4 σ H4 y z' u w' _ I4 r2 r4 q4) fun d' s5 ⟨z2, H5, I5, r5, k2, e2, q5⟩ => ?_))
    subst e2
    cases r5
    exact wpAny_truthy_bool ⟨H5, I5, q5⟩



theorem line63 : (sizeLine : Nat) < 2 ^ 63 := by rw [sizeLine_eq]; decide
theorem vals1 {x : V} {us : List Value} (r : Vals [x] us) : ∃ u, us = [u] ∧ RelV x u := by
  cases r with
  | cons r1 r2 => cases r2; exact ⟨_, rfl, r1⟩
theorem vals2 {x y : V} {us : List Value} (r : Vals [x, y] us) : ∃ u w', us = [u, w'] ∧ RelV x u ∧ RelV y w' := by
  cases r with
  | cons r1 r2 =>
    cases r2 with
    | cons r3 r4 => cases r4; exact ⟨_, _, rfl, r1, r3⟩
theorem call_max2 (hc : X.calm = true) : CallR X (.builtin "max") (fun xs H Q => ∃ i j, xs = [.int i, .int j] ∧ Q (.int (if j > i then j else i)) H) := by
  intro pins s σ H xs us Q I r h
  obtain ⟨i, j, rfl, q⟩ := h
  obtain ⟨u, w', rfl, ⟨t, rfl⟩, ⟨t', rfl⟩⟩ := vals2 r
  refine max_two_ints (I.ok.hd hc) fun h' tk k => ⟨_, H, I.kept k, ?_, q⟩
  by_cases hj : j > i
  · rw [if_pos hj, if_pos hj]; exact ⟨_, rfl⟩
  · rw [if_neg hj, if_neg hj]; exact ⟨_, rfl⟩
theorem call_min2 (hc : X.calm = true) : CallR X (.builtin "min") (fun xs H Q => ∃ i j, xs = [.int i, .int j] ∧ Q (.int (if j < i then j else i)) H) := by
  intro pins s σ H xs us Q I r h
  obtain ⟨i, j, rfl, q⟩ := h
  obtain ⟨u, w', rfl, ⟨t, rfl⟩, ⟨t', rfl⟩⟩ := vals2 r
  refine min_two_ints (I.ok.hd hc) fun h' tk k => ⟨_, H, I.kept k, ?_, q⟩
  by_cases hj : j < i
  · rw [if_pos hj, if_pos hj]; exact ⟨_, rfl⟩
  · rw [if_neg hj, if_neg hj]; exact ⟨_, rfl⟩
def LenV (K : PySem.W.Frag) (x : V) (H : Hp) (n : Nat) : Prop :=
  match x with
  | .str y => y.length ≤ sizeLine ∧ n = y.length
  | .byt y => y.size ≤ sizeLine ∧ n = y.size
  | .ref p => (∃ xs, SqL K H p xs ∧ n = xs.length) ∨ ∃ xs, SqT K H p xs ∧ n = xs.length
  | _ => False
theorem call_len : CallR X (.builtin "len") (fun xs H Q => ∃ x n, xs = [x] ∧ LenV X.K x H n ∧ Q (.int n) H) := by
  intro pins s σ H xs us Q I r h
  obtain ⟨x, n, rfl, e, q⟩ := h
  obtain ⟨u, rfl, rx⟩ := vals1 r
  have hl := line63
  have hs : sizeLine = 16777216 := sizeLine_eq
  cases x with
  | str y =>
    obtain ⟨t, rfl⟩ := rx
    obtain ⟨hy, e'⟩ : y.length ≤ sizeLine ∧ n = y.length := e
    subst e'
    exact len_str (by omega) ⟨.int _, H, I.tok _, ⟨_, rfl⟩, q⟩
  | byt y =>
    obtain ⟨t, rfl⟩ := rx
    obtain ⟨hy, e'⟩ : y.size ≤ sizeLine ∧ n = y.size := e
    subst e'
    exact PySem.W.len_bytes (by omega) ⟨.int _, H, I.tok _, ⟨_, rfl⟩, q⟩
  | ref p =>
    cases rx
    have e' : (∃ xs, SqL X.K H p xs ∧ n = xs.length) ∨ ∃ xs, SqT X.K H p xs ∧ n = xs.length := e
    rcases e' with ⟨xs, hx, e'⟩ | ⟨xs, hx, e'⟩
    · subst e'
      obtain ⟨its, r', pl, hz⟩ := I.list hx
      have hlen := r'.length
      exact Calls.call_len_list pl.isList (by simp only [List.size_toArray]; omega) ⟨.int xs.length, H, I.tok _, ⟨_, by simp only [List.size_toArray]; rw [hlen]⟩, q⟩
    · subst e'
      obtain ⟨its, r', pl, hz⟩ := I.tuple hx
      have hlen := r'.length
      exact len_tuple pl (by simp only [List.size_toArray]; omega) ⟨.int xs.length, H, I.tok _, ⟨_, by simp only [List.size_toArray]; rw [hlen]⟩, q⟩
  | _ => exact (show False from e).elim

end
end L2

namespace L2
open PySem PySem.Spec PyProof.Rows


structure ObjM (h : Heap) (x dx C : Addr) (mA : Str → Option Value) : Prop where
  obj : h.get? x = some (PySem.W.instObj C dx)
  ns : h.Ns1 dx mA
  ne : dx ≠ x

theorem lookIn_ns {h : Heap} {dx : Addr} {mA : Str → Option Value} (n : h.Ns1 dx mA) : ∃ od, h.get? dx = some od ∧ ∀ name, PySem.W.lookIn name od = some (mA name) := by
  obtain ⟨o, es, ep, ho, hd, hk, _, hm⟩ := n
  refine ⟨o, ho, fun name => ?_⟩
  have e := hm name
  unfold nsFind findBy at e
  rw [← Array.find?_toList] at e
  unfold PySem.W.lookIn
  rw [hd]
  dsimp only
  split
  · rename_i y q
    rw [q] at e
    exact congrArg some e
  · rename_i q
    rw [q] at e
    have a : es.toList.any (·.refKey) = false := by
      rw [List.any_eq_false]
      intro y hy
      obtain ⟨z, t, hkey⟩ := hk y (Array.mem_toList_iff.mp hy)
      simp [DictEntry.refKey, hkey]
    have a' : ¬ es.toList.any (·.refKey) = true := by rw [a]; exact Bool.false_ne_true
    rw [if_neg a']
    exact congrArg some e

theorem ObjM.look {h : Heap} {x dx C : Addr} {mA : Str → Option Value} (I : ObjM h x dx C mA) : ∃ od, PySem.W.InstAt h x (PySem.W.instObj C dx) C (some od) ∧ ∀ name, PySem.W.lookIn name od = some (mA name) :=
  let ⟨od, ho, hl⟩ := lookIn_ns I.ns
  ⟨od, ⟨I.obj, rfl, rfl, ho⟩, hl⟩

section
variable {prog : Program} {w : World} {A : Around} {E : Value → Shared → Prop} {s : Shared} {K : PySem.W.Frag} {x dx C f : Addr} {mA : Str → Option Value} {name : Str} {v : Value}

end


section
variable {P : Program} {w : World} {H H' : Hp} {h h' : Heap} {a C dx : Addr} {fs fs' : List (Str × V)}
theorem ins_get (hok : HOk P w H h) (e : H a = some (.ins C dx fs)) : ∃ mA, ObjM h a dx C mA ∧ (∀ f, RelO (fs.lookup f) (mA f)) ∧ PySem.Within mA (fs.map (·.1)) ∧ fs.length ≤ 1000 ∧ H dx = some (.own a) := by
  obtain ⟨d, z, ne, ob, mA, n, r, q⟩ := (show ObjOk P w H h a (.ins C dx fs) from hok a _ e)
  exact ⟨mA, ⟨ob, n, ne⟩, r, q, z, d⟩
end


structure Cls (K : PySem.W.Frag) (C : Addr) : Prop where
  pg : PySem.W.plainGet K C Str.empty = true
  hd : PySem.W.hasDictIn K C = true
  po : PySem.W.plainOver K C = true
  sa : PySem.W.findIn K (.ref C) "__setattr__" = some (some (.builtin "object.__setattr__"))
theorem Cls.get {K : PySem.W.Frag} {C : Addr} (c : Cls K C) (f : Str) : PySem.W.plainGet K C f = true := c.pg

section
variable {X : Cx} {pins : List (Addr × Obj)} {σ : St} {H : Hp} {s : Shared} {a C dx : Addr} {fs : List (Str × V)} {f : Str} {v : V} {A : Around} {E : Value → Shared → Prop}

end



section
variable {X : Cx} {o e value : Expr} {f : Str} {pos pos' tpos : Pos} {ta tv : TE}
end


section
variable {X : Cx} {pins : List (Addr × Obj)} {σ : St} {H : Hp} {s : Shared} {A : Around} {E : Value → Shared → Prop} {Q : Value → Shared → Prop} {c : Value} {b : Bool}

inductive TyOf (K : PySem.W.Frag) (H : Hp) : V → Value → Prop where
  | non : TyOf K H .non (.type "NoneType")
  | bl (x : Bool) : TyOf K H (.bl x) (.type "bool")
  | int (i : Int) : TyOf K H (.int i) (.type "int")
  | str (x : Str) : TyOf K H (.str x) (.type "str")
  | flt (x : UInt64) : TyOf K H (.flt x) (.type "float")
  | lst {a : Addr} {xs : List V} (e : H a = some (.lst xs)) : TyOf K H (.ref a) (.type "list")
  | frz {a : Addr} {o : Obj} {xs : List V} (e : H a = some (.frz o (.lst xs))) : TyOf K H (.ref a) (.type "list")
  | tup {a : Addr} {xs : List V} (e : H a = some (.tup xs)) : TyOf K H (.ref a) (.type "tuple")
  | dK {a : Addr} {kvs : List (Key × V)} (e : H a = some (.dK kvs)) : TyOf K H (.ref a) (.type "dict")
  | dT {a : Addr} {kvs : List (List Key × V)} (e : H a = some (.dT kvs)) : TyOf K H (.ref a) (.type "dict")
  | ins {a C dx : Addr} {fs : List (Str × V)} (e : H a = some (.ins C dx fs)) (cl : Cls K C) (ha : PySem.W.findIn K (.ref C) "__class__" = some (some (.builtin "object.__class__")))
      (hn : PySem.W.specialIn K (.builtin "object.__class__") "__get__" = some (some (.builtin "getset_descriptor.__get__"))) (htk : PySem.W.takesIn K (.builtin "object.__class__") = some true)
      (hm : PySem.W.mroIn K C (.type "object") = some true) : TyOf K H (.ref a) (.ref C)

theorem isinst_ok {x : V} {u t : Value} (I : Inv X pins σ H s) (rx : RelV x u) (ty : TyOf X.K H x t) (e : PySem.W.kitOne X.K t c = some b) (h : ∀ tk, Q (.bool b) { s with toks := tk }) :
    wpAny (model X.prog X.w) A (call (.builtin "isinstance") [u, c]) Q E s := by
  cases ty with
  | non => cases (show u = Value.none from rx); exact PySem.W.kia_one PySem.W.kitx_none I.kIn True.intro e (fun z => nomatch z) h
  | bl y => cases (show u = Value.bool y from rx); exact PySem.W.kia_one PySem.W.kitx_bool I.kIn True.intro e (fun z => nomatch z) h
  | int i => obtain ⟨t, q⟩ := (show ∃ t, u = Value.int i t from rx); cases q; exact PySem.W.kia_one PySem.W.kitx_int I.kIn True.intro e (fun z => nomatch z) h
  | str y => obtain ⟨t, q⟩ := (show ∃ t, u = Value.str y t from rx); cases q; exact PySem.W.kia_one PySem.W.kitx_str I.kIn True.intro e (fun z => nomatch z) h
  | flt y => obtain ⟨t, q⟩ := (show ∃ t, u = Value.float y t from rx); cases q; exact PySem.W.kia_one PySem.W.kitx_float I.kIn True.intro e (fun z => nomatch z) h
  | @lst a xs ea =>
    cases (show u = Value.ref a from rx)
    obtain ⟨_, _, n, _, h1⟩ := (show ObjOk X.prog X.w H s.heap a (.lst xs) from I.hok a _ ea)
    exact PySem.W.kia_one PySem.W.kitx_list I.kIn ⟨_, h1, rfl⟩ e (fun z => nomatch z) h
  | @frz a ob xs ea =>
    cases (show u = Value.ref a from rx)
    obtain ⟨_, _, _, n, _, h1⟩ := (show ObjOk X.prog X.w H s.heap a (.frz ob (.lst xs)) from I.hok a _ ea)
    exact PySem.W.kia_one PySem.W.kitx_list I.kIn ⟨_, h1, rfl⟩ e (fun z => nomatch z) h
  | @tup a xs ea =>
    cases (show u = Value.ref a from rx)
    obtain ⟨_, _, _, p⟩ := (show ObjOk X.prog X.w H s.heap a (.tup xs) from I.hok a _ ea)
    obtain ⟨o, h1, h2, _⟩ := p
    exact PySem.W.kia_one PySem.W.kitx_tuple I.kIn ⟨o, h1, h2⟩ e (fun z => nomatch z) h
  | @dK a kvs ea =>
    cases (show u = Value.ref a from rx)
    obtain ⟨_, _, vs, _, p⟩ := (show ObjOk X.prog X.w H s.heap a (.dK kvs) from I.hok a _ ea)
    obtain ⟨o, es, ep, h1, h2, _⟩ := p
    exact PySem.W.kia_one PySem.W.kitx_dict I.kIn ⟨o, h1, h2.1⟩ e (fun z => nomatch z) h
  | @dT a kvs ea =>
    cases (show u = Value.ref a from rx)
    obtain ⟨_, _, xs, _, o, es, ep, h1, h2, _⟩ := (show ObjOk X.prog X.w H s.heap a (.dT kvs) from I.hok a _ ea)
    exact PySem.W.kia_one PySem.W.kitx_dict I.kIn ⟨o, h1, h2.1⟩ e (fun z => nomatch z) h
  | @ins a C dx fs ea cl ha hn htk hm =>
    cases (show u = Value.ref a from rx)
    obtain ⟨mA, O, _⟩ := ins_get I.hok ea
    obtain ⟨od, J, _⟩ := O.look
    exact PySem.W.kia_one (PySem.W.kitx_own (cl.get _) cl.hd ha hn htk hm) I.kIn J e (fun z => nomatch z) h
end
end L2

namespace L2
open PySem PySem.Spec PyProof.Rows


structure Room (k : Nat) (A : Around) : Prop where
  hd : A.handled = none
  dp : A.depth + 3 * k + 5 < recursionLimit
  un : A.units + 16 * k + 200 < cLine
theorem Room.mono {j k : Nat} {A : Around} (r : Room k A) (h : j ≤ k) : Room j A := ⟨r.hd, by have := r.dp; omega, by have := r.un; omega⟩
theorem Room.deeper {k : Nat} {A : Around} (r : Room (k + 1) A) (env : Env) : Room k (A.deeper env) :=
  ⟨r.hd, by have := r.dp; show A.depth + 1 + 3 * k + 5 < _; omega, by have := r.un; show A.units + 3 + 16 * k + 200 < _; omega⟩
theorem Room.depth {k : Nat} {A : Around} (r : Room k A) : A.depth < recursionLimit := by have := r.dp; omega
theorem Room.units {k : Nat} {A : Around} (r : Room k A) : A.units + 64 < cLine := by have := r.un; omega
theorem Room.units0 {k : Nat} {A : Around} (r : Room k A) : A.units < cLine := by have := r.un; omega


def tNil : TA := fun _ H Q => Q [] H
def tCons (ta : TE) (tr : TA) : TA := fun σ H Q => ta σ H fun x H1 => tr σ H1 fun xs H2 => Q (x :: xs) H2
section
variable {X : Cx} {e : Expr} {es : List Expr} {te : TE} {t : TA} {pos : Pos}
theorem pa_nil : PA X [] tNil := fun _ _ _ _ H Q I h => Calls.spliced_nil ⟨[], H, I, .nil, h⟩
theorem pa_cons (ha : PE X e te) (hr : PA X es t) (hs : starEach (e :: es) X.env = (false, eval e X.env) :: starEach es X.env := by rfl) : PA X (e :: es) (tCons te t) := by
  intro pos pins s σ H Q I h
  rw [hs]
  show wpAny _ _ (spliced ((false, eval e X.env) :: backTo pos (starEach es X.env))) _ _ s
  refine Calls.spliced_cons (thn (ha pins s σ H _ I h) fun u s1 ⟨x, H1, I1, r1, q1⟩ => ?_)
  exact thn (hr pos pins s1 σ H1 _ I1 q1) fun us s2 ⟨xs, H2, I2, r2, q2⟩ => ⟨x :: xs, H2, I2, .cons r1 r2, q2⟩


def tTup (t : TA) : TE := fun σ H Q => t σ H fun xs H1 => xs.length ≤ sizeLine ∧ ∀ p, H1 p = none → Q (.ref p) (upd H1 p (.tup xs))
def tLst (t : TA) : TE := fun σ H Q => t σ H fun xs H1 => xs.length ≤ sizeLine ∧ ∀ p, H1 p = none → Q (.ref p) (upd H1 p (.lst xs))
theorem pe_tup {x1} (h : PA X es t) : PE X (.Tuple es x1 pos) (tTup t) := by
  intro pins s σ H Q I hq
  refine wpAny_Tuple_spliced (thn (h pos pins s σ H _ I hq) fun us s1 ⟨xs, H1, I1, r, z, q⟩ => ⟨by rw [← r.length]; exact z, ?_⟩)
  have hf : H1 s1.heap.objs.size = none := I1.hok.fresh (Nat.le_refl _)
  refine ⟨.ref s1.heap.objs.size, upd H1 s1.heap.objs.size (.tup xs), I1.laid (t' := s1.toks) (fun b u e => Heap.get?_push_of_some _ e) (Nat.le_refl _) ?_, rfl, q _ hf⟩
  exact ⟨z, us, r, ⟨_, Heap.get?_push_size _ rfl, rfl, _, rfl⟩⟩
theorem pe_lst (h : PA X es t) : PE X (.List es pos) (tLst t) := by
  intro pins s σ H Q I hq
  refine wpAny_List_spliced (thn (h pos pins s σ H _ I hq) fun us s1 ⟨xs, H1, I1, r, z, q⟩ => ⟨by rw [← r.length]; exact z, ?_⟩)
  have hf : H1 s1.heap.objs.size = none := I1.hok.fresh (Nat.le_refl _)
  refine ⟨.ref s1.heap.objs.size, upd H1 s1.heap.objs.size (.lst xs), I1.laid (t' := s1.toks) (fun b u e => Heap.get?_push_of_some _ e) (Nat.le_refl _) ?_, rfl, q _ hf⟩
  exact ⟨z, us, 0, r, Heap.get?_push_size _ rfl⟩
end



abbrev Sp := List V → Hp → VK → XK → Prop

abbrev CXT := List Env → Hp → Shared → XK → Value → Shared → Prop


structure Env0 (P : Program) (w : World) (K : PySem.W.Frag) (mg : Str → Option Value) (base : Heap) (A : Around) (outer : List Env) (s : Shared) (H : Hp) : Prop where
  frames : A.frames = some outer
  mod : Mod K mg base
  bs : ∀ b o, base.get? b = some o → s.heap.get? b = some o ∧ H b = none
  bsz : base.objs.size ≤ s.heap.objs.size
  funs : s.heap.FunFrames base outer
  frf : ∀ b ∈ frs outer, H b = none
  hok : HOk P w H s.heap
  bare : AllBare s.gens

def CE (outer : List Env) (P : Program) (w : World) (H : Hp) (s : Shared) (Q : VK) (u : Value) (s' : Shared) : Prop :=
  ∃ v H', s'.os = s.os ∧ AllBare s'.gens ∧ Un (frs outer) [] H H' s.heap s'.heap ∧ HOk P w H' s'.heap ∧ RelV v u ∧ Q v H'
def CR (CX : CXT) (outer : List Env) (P : Program) (w : World) (H : Hp) (s : Shared) (Q : VK) (E : XK) (r : Result) (s' : Shared) : Prop :=
  match r with
  | .ok (.ret u) => CE outer P w H s Q u s'
  | .ok _ => False
  | .error e => CX outer H s E e s'
structure FnOk (P : Program) (w : World) (K : PySem.W.Frag) (mg : Str → Option Value) (base : Heap) (CX : CXT) (k : Nat) (f : Addr) (fd : FuncData) (ps : List Str) (sp : Sp) : Prop where
  len : ∀ vs H Q E, sp vs H Q E → vs.length = ps.length
  run : ∀ (A : Around) (outer : List Env) (s : Shared) (H : Hp) (args : Args) (us : List Value) (vs : List V) (Q : VK) (E : XK), Room k A → Env0 P w K mg base A outer s H → BindsTo s fd args (ps.zip us) → Vals vs us → sp vs H Q E →
    codeAny (model P w) A (.call (.ref f) args) (CR CX outer P w H s Q E) s
section
variable {X : Cx} {pins : List (Addr × Obj)} {σ : St} {H : Hp} {s s' : Shared}

theorem Inv.env0 (I : Inv X pins σ H s) : Env0 X.prog X.w X.K X.mg X.base X.A X.stack s H :=
  ⟨I.ok.frames, I.ok.mod, I.bs, Nat.le_trans I.ok.bsz I.sz, I.stack, I.stkFree, I.hok, I.bare⟩

theorem Inv.after {Q : VK} {u : Value} (I : Inv X pins σ H s) (h : CE X.stack X.prog X.w H s Q u s') : EP X pins σ Q u s' := by
  obtain ⟨v, H', os, bare, un, hok, r, q⟩ := h
  obtain ⟨hh, g, d, t, os'⟩ := s'
  obtain rfl : os' = s.os := os
  exact ⟨v, H', I.call (h' := hh) (g' := g) (d' := d) (t' := t) (ch := []) un hok bare (fun b z => absurd z (by simp)), r, q⟩
end



def tCall (sp : Sp) (dvs : List V) (E : XK) (t : TA) : TE := fun σ H Q => t σ H fun vs H1 => sp (vs ++ dvs) H1 Q E

def Binds (K : PySem.W.Frag) (fd : FuncData) (ps : List Str) (ds : List Value) : Prop :=
  ∀ (s : Shared) (us : List Value), K.In s.heap → (us ++ ds).length = ps.length → BindsTo s fd ⟨us, []⟩ (ps.zip (us ++ ds))

theorem Binds.all {K : PySem.W.Frag} {fd : FuncData} {ps : List Str} (h : ∀ us : List Value, us.length = ps.length → bindArgs fd ⟨us, []⟩ = pure (ps.zip us)) : Binds K fd ps [] := fun s us _ hl => by
  rw [List.append_nil] at hl ⊢
  exact .of_eq (h us hl)


def Passes (CX : CXT) (X : Cx) (E : XK) : Prop := ∀ (pins : List (Addr × Obj)) (σ : St) (H : Hp) (s : Shared) (e : Value) (s' : Shared), Inv X pins σ H s → CX X.stack H s E e s' → X.xe e s'

section
variable {X : Cx} {CX : CXT} {k : Nat} {f C : Addr} {fd : FuncData} {ps : List Str} {sp : Sp} {dvs : List V} {ds : List Value} {E : XK} {x m : Str} {p pos apos : Pos} {e o : Expr} {es : List Expr} {ta : TE} {t : TA}


theorem run_fn {pins : List (Addr × Obj)} {σ : St} {H : Hp} {s : Shared} {Q : VK} {us : List Value} {vs : List V} (F : FnOk X.prog X.w X.K X.mg X.base CX k f fd ps sp) (hr : Room k X.A) (hb : Binds X.K fd ps ds) (hd : Vals dvs ds) (hx : Passes CX X E)
    (I : Inv X pins σ H s) (r : Vals vs us) (h : sp (vs ++ dvs) H Q E) : wpAny (model X.prog X.w) X.A (call (.ref f) us) (EP X pins σ Q) X.xe s := by
  have r2 : Vals (vs ++ dvs) (us ++ ds) := r.append hd
  have hl : (us ++ ds).length = ps.length := by rw [← r2.length]; exact F.len _ _ _ _ h
  refine wpAny_call (codeAny_mono (F.run X.A X.stack s H ⟨us, []⟩ (us ++ ds) (vs ++ dvs) Q E hr I.env0 (hb s us I.kIn hl) r2 h) fun r s' hq => ?_)
  cases r with
  | error e => exact hx pins σ H s e s' I hq
  | ok fl =>
    cases fl with
    | ret u => exact I.after hq
    | next => exact False.elim hq
    | brk => exact False.elim hq
    | cont => exact False.elim hq

theorem pe_call (F : FnOk X.prog X.w X.K X.mg X.base CX k f fd ps sp) (hr : Room k X.A) (hg : Gl X x) (hm : X.mg x = some (.ref f)) (hk : PySem.W.keepIn X.K (.ref f) = true) (hb : Binds X.K fd ps ds) (hd : Vals dvs ds) (hx : Passes CX X E)
    (ha : PA X (e :: es) t) (hdb : (x == ("__debug__" : Str)) = false := by decide) (he : starEach (e :: es) X.env = (false, eval e X.env) :: starEach es X.env := by rfl) (hpl : (backTo pos (starEach es X.env)).any (·.1) = false := by rfl) :
    PE X (.Call (.Name x p) (e :: es) [] pos) (tCall sp dvs E t) := by
  intro pins s σ H Q I h
  refine wpAny_Call_Name_kw (ld_glob I hg hm ?_ hdb)
  refine PySem.W.callWith_K (h₀ := X.base) I.ok.mod.kin hk (thn (ha pos pins s σ H _ I h) fun us s1 ⟨vs, H1, I1, r, q⟩ => ⟨I1.kIn, ?_⟩) he hpl
  exact run_fn F hr hb hd hx I1 r q
end



section
variable {X : Cx} {CX : CXT} {k : Nat} {f C : Addr} {fd : FuncData} {ps ks : List Str} {sp : Sp} {E : XK} {x m : Str} {p pos apos kpos : Pos} {e o : Expr} {es : List Expr} {kws : List Keyword} {te ta : TE} {t tk : TA} {nm : Option Str}
variable {g : List Value → List Value → List Value} {gV : List V → List V → List V}
end



structure FnScope (N P : List Str) (sc : Scope) : Prop where
  kind : sc.kind = .function
  co : sc.isCoroutine = false
  gen : sc.isGenerator = false
  nd : N.Nodup
  pre : N.take P.length = P
  par : ∀ x ∈ P, sc.names.lookup x = some .local ∨ sc.names.lookup x = some .cell
  nofree : ∀ y ∈ sc.names, y.2 ≠ .free

theorem bindL_out {kindOf : Str → Option NameKind} {x : Str} : ∀ {binds : List (Str × Value)} {m : Str → Option Value}, (∀ v, (x, v) ∉ binds) → bindL kindOf binds m x = m x
  | [], _, _ => rfl
  | (n, v) :: r, m, h => by
    unfold bindL
    rw [bindL_out fun w hw => h w (List.mem_cons_of_mem _ hw)]
    split
    · have : x ≠ n := by rintro rfl; exact h v List.mem_cons_self
      simp [this]
    · rfl
theorem bindC_out {kindOf : Str → Option NameKind} {x : Str} : ∀ {binds : List (Str × Value)} {m : Str → Option Value}, (∀ v, (x, v) ∉ binds) → bindC kindOf binds m x = m x
  | [], _, _ => rfl
  | (n, v) :: r, m, h => by
    unfold bindC
    rw [bindC_out fun w hw => h w (List.mem_cons_of_mem _ hw)]
    split
    · rfl
    · have : x ≠ n := by rintro rfl; exact h v List.mem_cons_self
      simp [this]
theorem bindL_get {kindOf : Str → Option NameKind} {x : Str} {v : Value} : ∀ {P : List Str} {vs : List Value} {i : Nat} {m : Str → Option Value}, P.Nodup → P[i]? = some x → vs[i]? = some v → kindOf x = some .local →
    bindL kindOf (P.zip vs) m x = some v
  | [], _, _, _, _, h, _, _ => by simp at h
  | _ :: _, [], _, _, _, _, h, _ => by simp at h
  | p :: P, w :: vs, 0, m, nd, h1, h2, hk => by
    simp at h1 h2; subst h1; subst h2
    show bindL kindOf ((p, w) :: P.zip vs) m p = _
    unfold bindL
    rw [bindL_out fun v hv => (List.nodup_cons.mp nd).1 (List.of_mem_zip hv).1, if_pos hk]
    simp
  | p :: P, w :: vs, i + 1, m, nd, h1, h2, hk => by
    show bindL kindOf ((p, w) :: P.zip vs) m x = _
    unfold bindL
    exact bindL_get (i := i) (List.nodup_cons.mp nd).2 (by simpa using h1) (by simpa using h2) hk
theorem bindC_get {kindOf : Str → Option NameKind} {x : Str} {v : Value} : ∀ {P : List Str} {vs : List Value} {i : Nat} {m : Str → Option Value}, P.Nodup → P[i]? = some x → vs[i]? = some v → kindOf x ≠ some .local →
    bindC kindOf (P.zip vs) m x = some v
  | [], _, _, _, _, h, _, _ => by simp at h
  | _ :: _, [], _, _, _, _, h, _ => by simp at h
  | p :: P, w :: vs, 0, m, nd, h1, h2, hk => by
    simp at h1 h2; subst h1; subst h2
    show bindC kindOf ((p, w) :: P.zip vs) m p = _
    unfold bindC
    rw [bindC_out fun v hv => (List.nodup_cons.mp nd).1 (List.of_mem_zip hv).1, if_neg hk]
    simp
  | p :: P, w :: vs, i + 1, m, nd, h1, h2, hk => by
    show bindC kindOf ((p, w) :: P.zip vs) m x = _
    unfold bindC
    exact bindC_get (i := i) (List.nodup_cons.mp nd).2 (by simpa using h1) (by simpa using h2) hk


def start (N : List Str) (vs : List V) : St := vs.map some ++ List.replicate (N.length - vs.length) none


def cxOf (CX : CXT) (P : Program) (w : World) (K : PySem.W.Frag) (mg : Str → Option Value) (base : Heap) (N : List Str) (qual : Str) (scope : Scope) (f : Addr) (cd : Value) (A : Around) (outer : List Env) (s : Shared) (H : Hp) (E : XK) : Cx where
  prog := P
  w := w
  K := K
  mg := mg
  base := base
  A := A.deeper (envOfC qual scope s.heap.objs.size f cd)
  N := N
  s₀ := s
  H₀ := H
  env := envOfC qual scope s.heap.objs.size f cd
  outer := outer
  stack := envOfC qual scope s.heap.objs.size f cd :: outer
  ex := []
  calm := true
  fn := fun _ => true
  pn := []
  xe := fun e s' => wpAny (model P w) (A.deeper (envOfC qual scope s.heap.objs.size f cd)) (leaving (envOfC qual scope s.heap.objs.size f cd) e) (fun _ s'' => CX outer H s E e s'') (fun e' s'' => CX outer H s E e' s'') s'

theorem cell_has {sc : Scope} {n : Nat} {x : Str} (h : sc.names.lookup x = some .cell) : ∃ c, (cellsFrom n sc.names []).lookup x = some c := by
  have q := PySem.W.cellsFrom_some sc.names n [] (.inl h)
  exact Option.isSome_iff_exists.mp q

theorem inv_start {CX : CXT} {P : Program} {w : World} {K : PySem.W.Frag} {mg : Str → Option Value} {base : Heap} {N ps : List Str} {qual : Str} {scope : Scope} {f : Addr} {cd : Value} {A : Around} {outer : List Env} {s s1 : Shared} {H : Hp} {E : XK} {us : List Value} {vs : List V}
    (S : FnScope N ps scope) (hd : A.handled = none) (e0 : Env0 P w K mg base A outer s H) (hl : vs.length = ps.length) (r : Vals vs us)
    (x : InCallC s s.heap.objs.size (bindL (envOfC qual scope s.heap.objs.size f cd).kindOf (ps.zip us) fun _ => none) (cellsFrom (s.heap.objs.size + 1) scope.names []) (bindC (envOfC qual scope s.heap.objs.size f cd).kindOf (ps.zip us) fun _ => none) s1) :
    Inv (cxOf CX P w K mg base N qual scope f cd A outer s H E) [] (start N vs) H s1 := by
  have hpl : ps.length ≤ N.length := by have := congrArg List.length S.pre; rw [List.length_take] at this; omega
  obtain ⟨h1, tk, rfl, hk⟩ := x.done
  have noA : ∀ b : Addr, b ∉ (cxOf CX P w K mg base N qual scope f cd A outer s H E).ex := fun b z => absurd (show b ∈ ([] : List Addr) from z) (by simp)
  refine ⟨⟨e0.mod, S.kind, rfl, rfl, Nat.le_refl _, fun y z c h1 h2 => ?_, fun y hy => ?_, fun y c _ h => ?_, fun _ => hd, Around.frames_deeper e0.frames, .inr ⟨rfl, rfl⟩, fun b z => absurd z (noA b), e0.bs, e0.bsz, fun b _ _ => noA b, fun b z => absurd z (noA b), e0.funs, e0.frf⟩,
    rfl, e0.bare, Un.kept hk, ⟨_, x.toInCall.ns, fun i y v h1 h2 h3 => ?_⟩, fun y c h => ⟨_, x.cell y c h⟩, e0.hok.fresh (Nat.le_refl _), fun y c h => ?_, fun p hp => absurd (show p ∈ ([] : List (Addr × Obj)) from hp) (by simp), e0.hok.kept hk, ?_⟩
  · exact name_of_addr x.apart (PySem.mem_of_lookup h1) (PySem.mem_of_lookup h2)
  · have hy : scope.names.lookup y = some .cell ∨ scope.names.lookup y = some .free := hy
    rcases hy with hy | hy
    · exact cell_has hy
    · exact absurd rfl (S.nofree _ (PySem.mem_of_lookup hy))
  · exact Nat.le_of_lt (x.above y c (PySem.mem_of_lookup h))
  · have hi : i < vs.length := by
      unfold start at h2
      by_cases hi : i < vs.length
      · exact hi
      · rw [List.getElem?_append_right (by simpa using hi)] at h2
        rw [List.getElem?_replicate] at h2
        split at h2 <;> cases h2
    have ha : vs[i]? = some v := by
      unfold start at h2
      rw [List.getElem?_append_left (by simpa using hi), List.getElem?_map] at h2
      cases e : vs[i]? with
      | none => rw [e] at h2; cases h2
      | some a => rw [e] at h2; cases h2; rfl
    obtain ⟨u, hu, rv⟩ := r.get ha
    have hp : ps[i]? = some y := by
      rw [← S.pre, List.getElem?_take_of_lt (by omega)]; exact h1
    have ndP : ps.Nodup := by rw [← S.pre]; exact S.nd.sublist (List.take_sublist _ _)
    refine ⟨u, rv, ?_⟩
    rcases S.par y (List.mem_of_getElem? hp) with k | k
    · exact .inl ⟨k, bindL_get ndP hp hu k⟩
    · obtain ⟨c, e⟩ := cell_has (n := s.heap.objs.size + 1) k
      refine .inr ⟨.inl k, c, e, ?_⟩
      have q := x.cell y c e
      rw [bindC_get ndP hp hu (by show scope.names.lookup y ≠ _; rw [k]; decide)] at q
      exact q
  · exact e0.hok.fresh (Nat.le_of_lt (x.above y c (PySem.mem_of_lookup h)))
  · unfold start
    show _ = N.length
    rw [List.length_append, List.length_map, List.length_replicate]
    omega


theorem fn_of {CX : CXT} {P : Program} {w : World} {K : PySem.W.Frag} {mg : Str → Option Value} {base : Heap} {k : Nat} {f : Addr} {name qual : Str} {params : Arguments} {body : List Stmt} {scope : Scope} {dV kV doc pm cdv ct oc : Value} {an od : Option Addr}
    {osl : Array (Option Value)} {N ps : List Str} {sp : Sp} (lk : K.lookup f = some ⟨oc, od, .func (PySem.W.fnOf name qual params body scope dV kV doc pm an cdv ct), osl⟩) (hcd : PySem.W.codeIn K cdv qual = true) (S : FnScope N ps scope)
    (len : ∀ vs H Q E, sp vs H Q E → vs.length = ps.length)
    (hbody : ∀ (A : Around) (outer : List Env) (s : Shared) (H : Hp) (vs : List V) (Q : VK) (E : XK), Room k (A.deeper (envOfC qual scope s.heap.objs.size f cdv)) → sp vs H Q E →
      ∃ t, PSs (cxOf CX P w K mg base N qual scope f cdv A outer s H E) body t ∧ t { nx := fun _ H' => Q .non H', rt := Q } (start N vs) H) :
    FnOk P w K mg base CX (k + 1) f (PySem.W.fnOf name qual params body scope dV kV doc pm an cdv ct) ps sp := by
  refine ⟨len, fun A outer s H args us vs Q E hr e0 hb r hsp => ?_⟩
  have hl := len _ _ _ _ hsp
  have KX : K.In s.heap := e0.mod.kin.keeps fun b o e => (e0.bs b o e).1
  have lim : s.heap.NoLimit := e0.mod.nolimit.keeps fun b o e => (e0.bs b o e).1
  have hkind : ∀ y ∈ ps.zip us, scope.names.lookup y.1 = some .local ∨ (scope.names.lookup y.1 = some .cell ∧ ((cellsFrom (s.heap.objs.size + 1) scope.names []).lookup y.1).isSome = true) := fun ⟨n, v⟩ hy => by
    rcases S.par n (List.of_mem_zip hy).1 with q | q
    · exact .inl q
    · exact .inr ⟨q, PySem.W.cellsFrom_some _ _ _ (.inl q)⟩
  refine codeAny_call_function hr.depth (KX _ _ lk) rfl S.co S.gen rfl (PySem.W.codeRec_of KX hcd) (hb _ _ _ _ ?_)
  refine wpAny_newFunctionEnv_cells S.kind hkind fun env he s1 x => ?_
  subst he
  refine ⟨lim.keeps x.toInCall.keep, codeAny_func ?_⟩
  obtain ⟨t, ht, hq⟩ := hbody A outer s H vs Q E (hr.deeper _) hsp
  have I : Inv (cxOf CX P w K mg base N qual scope f cdv A outer s H E) [] (start N vs) H s1 := inv_start S hr.hd e0 hl r x
  refine wpAny_mono (ht [] s1 (start N vs) H _ I hq) (fun fl s' hs => ?_) fun e s' hs => hs
  have fin : ∀ {σ' : St} {H' : Hp} {v : V} {u : Value}, Inv (cxOf CX P w K mg base N qual scope f cdv A outer s H E) [] σ' H' s' → RelV v u → Q v H' → CE outer P w H s Q u s' :=
    fun {σ' H' v u} J rv q => ⟨v, H', J.os, J.bare, J.base, J.hok, rv, q⟩
  cases fl with
  | ret u =>
    obtain ⟨v, σ', H', J, rv, q⟩ := hs
    exact fin J rv q
  | next =>
    obtain ⟨σ', H', J, q⟩ := hs
    exact fin (v := V.non) (u := Value.none) J rfl q
  | brk =>
    obtain ⟨_, _, _, q⟩ := hs
    exact False.elim q
  | cont =>
    obtain ⟨_, _, _, q⟩ := hs
    exact False.elim q
end L2

namespace L2
open PySem PySem.Spec PyProof.Rows
section
variable {X : Cx} {x : Str} {p pos : Pos} {e : Expr} {es : List Expr} {t : TA} {id T : String} {r : List V → Hp → VK → Prop}

def tCB (r : List V → Hp → VK → Prop) (t : TA) : TE := fun σ H Q => t σ H fun vs H1 => r vs H1 Q

theorem pe_callB (hc : CallR X (.builtin id) r) (hg : Gl X x) (hm : X.mg x = none) (hv : bootBuiltins x = some (.builtin id)) (ha : PA X (e :: es) t) (hn : x ≠ "__name__" := by decide) (hdb : (x == ("__debug__" : Str)) = false := by decide)
    (he : starEach (e :: es) X.env = (false, eval e X.env) :: starEach es X.env := by rfl) (hpl : (backTo pos (starEach es X.env)).any (·.1) = false := by rfl) : PE X (.Call (.Name x p) (e :: es) [] pos) (tCB r t) := by
  intro pins s σ H Q I h
  refine wpAny_Call_Name_kw (ld_blt I hg hm hv ?_ hn hdb)
  exact PyProof.Rows.callWith_builtin1 (thn (ha pos pins s σ H _ I h) fun us s1 ⟨vs, H1, I1, r1, q1⟩ => hc pins s1 σ H1 vs us Q I1 r1 q1) he hpl

theorem pe_callTy (hc : CallR X (.type T) r) (hg : Gl X x) (hm : X.mg x = none) (hv : bootBuiltins x = some (.type T)) (ha : PA X (e :: es) t) (hn : x ≠ "__name__" := by decide) (hdb : (x == ("__debug__" : Str)) = false := by decide)
    (he : starEach (e :: es) X.env = (false, eval e X.env) :: starEach es X.env := by rfl) (hpl : (backTo pos (starEach es X.env)).any (·.1) = false := by rfl) : PE X (.Call (.Name x p) (e :: es) [] pos) (tCB r t) := by
  intro pins s σ H Q I h
  refine wpAny_Call_Name_kw (ld_blt I hg hm hv ?_ hn hdb)
  exact PyProof.Rows.callWith_type1 (thn (ha pos pins s σ H _ I h) fun us s1 ⟨vs, H1, I1, r1, q1⟩ => hc pins s1 σ H1 vs us Q I1 r1 q1) he hpl

end
end L2

namespace HT
open PySem PyProof.Rows


section
open PySem.SeqAt
open PySem.AutoSeq1 (wpAny_loadPart')
open PySem.MeetsSeq PySem.MeetsSeq2 PySem.MeetsSeq3

end

section
variable {prog : Program} {w : World} {A : Around} {E : Value → Shared → Prop} {s : Shared}

theorem cat_tup {t b : Addr} {vs ws : List Value} {Q : Value → Shared → Prop} (ht : IsTup s.heap t vs.toArray) (hb : IsTup s.heap b ws.toArray) (hv : vs ≠ [])
    (h1 : ws = [] → Q (.ref t) s) (h2 : ws ≠ [] → Q (.ref s.heap.objs.size) { s with heap := s.heap.push { cls := .type "tuple", data := .seq (vs ++ ws).toArray } })
    (hsz : vs.length + ws.length ≤ sizeLine) : wpAny (model prog w) A (binaryOp .Add (.ref t) (.ref b)) Q E s := by
  obtain ⟨⟨cls, dd, data, sl⟩, ho, hc, n, hd⟩ := id ht
  obtain ⟨⟨cls2, dd2, data2, sl2⟩, ho2, hc2, n2, hd2⟩ := id hb
  simp only at hc hd hc2 hd2
  subst hc hd hc2 hd2
  have e : vs.toArray ++ ws.toArray = (vs ++ ws).toArray := by simp
  by_cases hw : ws = []
  · exact concat_meets ⟨_, ho, rfl⟩ ⟨_, ho2, rfl⟩ noFill_tuple_add seq_tuple_add PySem.F.slot_tuple_add PySem.F.entry_tuple_add (PySem.F.args_tuple_add_2 _ _)
      (tuple_addW1 t b vs.toArray ws.toArray n n2 dd dd2 sl sl2 (by simpa using hv) (by simp [hw])) ⟨ho, ho2, h1 hw⟩
  · refine concat_meets ⟨_, ho, rfl⟩ ⟨_, ho2, rfl⟩ noFill_tuple_add seq_tuple_add PySem.F.slot_tuple_add PySem.F.entry_tuple_add (PySem.F.args_tuple_add_2 _ _)
      (tuple_addW2 t b vs.toArray ws.toArray n n2 dd dd2 sl sl2 (by simpa using hv) (by simpa using hw) (by rw [List.size_toArray, List.size_toArray]; exact hsz)) ⟨ho, ho2, ?_⟩
    rw [e]
    exact h2 hw



def sIx (n d : Nat) : Option Int → Nat
  | none => d
  | some v => if v < 0 then (v + (n : Int)).toNat else min v.toNat n
theorem sIx_nat (n d k : Nat) : sIx n d (some (k : Int)) = min k n := by
  show (if (k : Int) < 0 then ((k : Int) + (n : Int)).toNat else min (k : Int).toNat n) = min k n
  rw [if_neg (by omega), Int.toNat_natCast]
theorem sIx_le (n d : Nat) (hd : d ≤ n) (o : Option Int) : sIx n d o ≤ n := by
  cases o with
  | none => exact hd
  | some v =>
    show (if v < 0 then (v + (n : Int)).toNat else min v.toNat n) ≤ n
    by_cases hv : v < 0
    · rw [if_pos hv]; omega
    · rw [if_neg hv]; exact Nat.min_le_right _ _
theorem clip_eq (v : Int) (n d : Nat) : (if v < 0 then max (v + (n : Int)) 0 else min v (n : Int)) = ((sIx n d (some v) : Nat) : Int) := by
  show (if v < 0 then max (v + (n : Int)) 0 else min v (n : Int)) = (((if v < 0 then (v + (n : Int)).toNat else min v.toNat n) : Nat) : Int)
  by_cases hv : v < 0
  · simp only [if_pos hv]; omega
  · simp only [if_neg hv]; omega
theorem adjust_gen (lo hi : Option Int) (n : Nat) : Builtin.Slice.sliceAdjust lo hi 1 (n : Int) = (((sIx n 0 lo : Nat) : Int), ((sIx n n hi : Nat) : Int)) := by
  have h1 : ¬ ((1 : Int) < 0) := by omega
  unfold Builtin.Slice.sliceAdjust
  simp only [h1, if_false]
  refine Prod.ext ?_ ?_
  · cases lo with
    | none => rfl
    | some v => exact clip_eq v n 0
  · cases hi with
    | none => rfl
    | some v => exact clip_eq v n n
theorem places_gen (i j : Nat) : Builtin.Slice.slicePlaces (i : Int) (j : Int) 1 = j - i := by
  unfold Builtin.Slice.slicePlaces
  have h1 : (1 : Int) > 0 := by omega
  simp only [h1, if_true, Int.ediv_one]
  split <;> omega
theorem slicePart_ {v : Value} {o : Option Int} {Q : Option Int → Shared → Prop} (p : IsPart v o) (h : Q o s) : wpAny (model prog w) A (Builtin.Slice.slicePartIndex v) Q E s := by
  cases p with
  | none => exact slicePart_none h
  | int i t => exact slicePart_int h
theorem sliceApplied_gen {sl : Addr} {vl vu : Value} {lo hi : Option Int} {n : Nat} {Q : Int × Int × Nat → Shared → Prop} (hs : s.heap.IsSliceOf sl vl vu .none) (pl : IsPart vl lo) (pu : IsPart vu hi)
    (h : Q (((sIx n 0 lo : Nat) : Int), 1, sIx n n hi - sIx n 0 lo) s) : wpAny (model prog w) A (Builtin.Slice.sliceApplied (.ref sl) (pure (n : Int))) Q E s := by
  obtain ⟨os, hos, hcs, hds⟩ := id hs
  unfold Builtin.Slice.sliceApplied Builtin.Slice.sliceFields
  refine wpAny_bind (wpAny_bind (wpAny_field hos hds (x := vl) rfl (wpAny_bind (wpAny_field hos hds (x := vu) rfl (wpAny_bind (wpAny_field hos hds (x := .none) rfl (wpAny_pure ?_)))))))
  refine wpAny_bind (slicePart_none ?_)
  show wpAny _ _ (if ((1 : Int) == 0) = true then _ else _) _ _ s
  rw [if_neg (by decide)]
  refine wpAny_bind (slicePart_ pl (wpAny_bind (slicePart_ pu (wpAny_bind (wpAny_pure ?_)))))
  show wpAny _ _ (match Builtin.Slice.sliceAdjust lo hi 1 (n : Int) with | (lo, hi) => pure (lo, (1 : Int), Builtin.Slice.slicePlaces lo hi 1)) _ _ s
  rw [adjust_gen lo hi n]
  show wpAny _ _ (pure (((sIx n 0 lo : Nat) : Int), (1 : Int), Builtin.Slice.slicePlaces ((sIx n 0 lo : Nat) : Int) ((sIx n n hi : Nat) : Int) 1)) _ _ s
  rw [places_gen]
  exact wpAny_pure h
theorem pick_gen (xs : Array Value) (i k : Nat) : ((List.range k).filterMap fun (m : Nat) => xs[((i : Int) + (m : Int) * 1).toNat]?).toArray = ((xs.toList.drop i).take k).toArray := by
  have e : (fun (m : Nat) => xs[((i : Int) + (m : Int) * 1).toNat]?) = fun m => xs[i + m]? := by
    funext m
    have : ((i : Int) + (m : Int) * 1).toNat = i + m := by omega
    rw [this]
  rw [e]
  have := pick_run xs i k
  rw [List.filterMap_map] at this
  have e2 : ((fun x => xs[x]?) ∘ fun x => i + x) = fun m => xs[i + m]? := rfl
  rw [e2] at this
  rw [this]

theorem getItem_tuple_cut {t sl : Addr} {items : Array Value} {vl vu : Value} {lo hi : Option Int} {Q : Value → Shared → Prop} (ht : IsTup s.heap t items) (hs : s.heap.IsSliceOf sl vl vu .none) (pl : IsPart vl lo) (pu : IsPart vu hi)
    (hw : ¬ (sIx items.size 0 lo = 0 ∧ sIx items.size items.size hi = items.size))
    (h : Q (.ref s.heap.objs.size) { s with heap := s.heap.push { cls := .type "tuple", data := .seq ((items.toList.drop (sIx items.size 0 lo)).take (sIx items.size items.size hi - sIx items.size 0 lo)).toArray } })
    (hsz : items.size ≤ sizeLine) : wpAny (model prog w) A (getItem (.ref t) (.ref sl)) Q E s := by
  have htake : sizeOk (.seq ((items.toList.drop (sIx items.size 0 lo)).take (sIx items.size items.size hi - sIx items.size 0 lo)).toArray) := by
    show ((items.toList.drop (sIx items.size 0 lo)).take (sIx items.size items.size hi - sIx items.size 0 lo)).toArray.size ≤ sizeLine
    rw [List.size_toArray, List.length_take, List.length_drop, Array.length_toList]
    omega
  have hj : sIx items.size items.size hi ≤ items.size := sIx_le _ _ (Nat.le_refl _) hi
  obtain ⟨os, hos, hcs, hds⟩ := id hs
  have hTs : s.TypeIs (.ref sl) "slice" := ⟨os, hos, hcs⟩
  unfold getItem
  try with_reducible refine wpAny_holding ?_
  first | refine wpAny_bind (wpAny_pure ?_) | skip
  refine wpAny_bind (wpAny_sequenceKey ht.typeIs (by decide) ?_)
  refine wpAny_bind (wpAny_callSpecial?_slot (name := Str.ofString "__getitem__") ht.typeIs PyProof.Rows.slot_tuple_getitem
    (wpAny_call_entry PyProof.Rows.slot_tuple_getitem ht.typeIs entry_tuple_getitem ?_ (args_tuple_getitem _ _)))
  show wpAny _ _ (Builtin.Tuple.tupleItemsOf (.ref t) >>= _) _ _ s
  refine wpAny_bind (tupleItemsOf_ ht ?_)
  refine wpAny_bind (wpAny_typeOf hTs ?_)
  rw [if_pos (by decide)]
  refine wpAny_bind (sliceApplied_gen hs pl pu ?_)
  have hno : ¬ ((((sIx items.size 0 lo : Nat) : Int) == 0 && (1 : Int) == 1 && (sIx items.size items.size hi - sIx items.size 0 lo) == items.size) = true) := by
    intro q
    rw [Bool.and_eq_true, Bool.and_eq_true] at q
    have q1 : ((sIx items.size 0 lo : Nat) : Int) = 0 := eq_of_beq q.1.1
    have q2 : sIx items.size items.size hi - sIx items.size 0 lo = items.size := eq_of_beq q.2
    exact hw ⟨by omega, by omega⟩
  show wpAny _ _ (if (((sIx items.size 0 lo : Nat) : Int) == 0 && (1 : Int) == 1 && (sIx items.size items.size hi - sIx items.size 0 lo) == items.size) = true then _ else _) _ _ s
  rw [if_neg hno, pick_gen]
  first
    | exact wpAny_bind (m := Builtin.Tuple.tupleExact _) (wpAny_newObj_type (wpAny_pure ⟨_, rfl, wpAny_pure h⟩) htake)
    | exact wpAny_bind (m := Builtin.Tuple.tupleExact _) (wpAny_newObj_type (wpAny_bind (wpAny_pure (wpAny_pure ⟨_, rfl, wpAny_pure h⟩))) htake)
    | exact wpAny_bind (wpAny_bind (m := Builtin.Tuple.tupleExact _) (wpAny_newObj_type (wpAny_pure (wpAny_pure ⟨_, rfl, wpAny_pure h⟩)) htake))
    | exact wpAny_bind (wpAny_bind (m := Builtin.Tuple.tupleExact _) (wpAny_newObj_type (wpAny_pure ⟨_, rfl, wpAny_pure h⟩) htake))
end
end HT

namespace L2
open PySem PySem.Spec PyProof.Rows


abbrev TO := St → Hp → (Option Int → Hp → Prop) → Prop

def PO (X : Cx) (e : Option Expr) (t : TO) : Prop :=
  ∀ (pins : List (Addr × Obj)) (s : Shared) (σ : St) (H : Hp) (Q : Option Int → Hp → Prop), Inv X pins σ H s → t σ H Q →
    wpAny (model X.prog X.w) X.A (evalPart e X.env) (fun u s' => ∃ o H', Inv X pins σ H' s' ∧ IsPart u o ∧ Q o H') X.xe s
def tNoPart : TO := fun _ H Q => Q none H
def tPart (t : TE) : TO := fun σ H Q => t σ H fun x H1 => ∃ i, x = .int i ∧ Q (some i) H1

theorem intsAre_of {ns : List Int} : ∀ {us : List Value}, Vals (ns.map V.int) us → IntsAre us ns := by
  induction ns with
  | nil => intro us r; rw [List.map_nil] at r; cases r; exact .nil
  | cons n ns ih =>
    intro us r
    rw [List.map_cons] at r
    cases r with
    | cons r1 r2 =>
      obtain ⟨t, e⟩ := r1
      subst e
      exact .cons n t (ih r2)

section
variable {X : Cx} {e : Expr} {te : TE} {lo hi : Option Expr} {tl th : TO} {pos p2 : Pos}

theorem po_none : PO X none tNoPart := by
  intro pins s σ H Q I h
  rw [evalPart_none]
  exact wpAny_pure ⟨none, H, I, .none, h⟩
theorem po_some (h : PE X e te) : PO X (some e) (tPart te) := by
  intro pins s σ H Q I hw
  rw [evalPart_some]
  refine thn (h pins s σ H _ I hw) fun u s1 ⟨x, H1, I1, r1, q1⟩ => ?_
  obtain ⟨i, rfl, q⟩ := q1
  obtain ⟨t, rfl⟩ := r1
  exact ⟨some i, H1, I1, .int i t, q⟩


def SlR (X : Cx) (r : V → Option Int → Option Int → Hp → VK → Prop) : Prop :=
  ∀ (pins : List (Addr × Obj)) (s : Shared) (σ : St) (H : Hp) (x : V) (v vl vu : Value) (lo hi : Option Int) (sl : Addr) (Q : VK), Inv X pins σ H s → RelV x v → s.heap.IsSliceOf sl vl vu .none → IsPart vl lo → IsPart vu hi → r x lo hi H Q →
    ∃ T id, typeLookup (.type T) "__getitem__" = pure (some (.builtin id)) ∧ s.TypeIs v T ∧ wpAny (model X.prog X.w) X.A (getItem v (.ref sl)) (EP X pins σ Q) X.xe s
def tSl (r : V → Option Int → Option Int → Hp → VK → Prop) (te : TE) (tl th : TO) : TE := fun σ H Q => te σ H fun x H1 => tl σ H1 fun l H2 => th σ H2 fun u H3 => r x l u H3 Q

theorem pe_slice {r : V → Option Int → Option Int → Hp → VK → Prop} (hr : SlR X r) (he : PE X e te) (hl : PO X lo tl) (hu : PO X hi th) : PE X (.Subscript e (.Slice lo hi none p2) pos) (tSl r te tl th) := by
  intro pins s σ H Q I h
  refine Subscript_ (thn (he pins s σ H _ I h) fun v s1 ⟨x, H1, I1, r1, q1⟩ => ?_)
  refine wpAny_Slice (thn (hl pins s1 σ H1 _ I1 q1) fun vl s2 ⟨l, H2, I2, pl, q2⟩ => thn (hu pins s2 σ H2 _ I2 q2) fun vu s3 ⟨u, H3, I3, pu, q3⟩ => ?_)
  rw [evalPart_none]
  refine wpAny_pure ?_
  have I4 : Inv X pins σ H3 { s3 with heap := s3.heap.push { cls := .type "slice", data := .fields #[vl, vu, .none] } } := I3.kept (t' := s3.toks) fun b ob q => Heap.get?_push_of_some _ q
  obtain ⟨T, id, hT, ht, hg⟩ := hr pins { s3 with heap := s3.heap.push { cls := .type "slice", data := .fields #[vl, vu, .none] } } σ H3 x v vl vu l u s3.heap.objs.size Q I4 r1 (Heap.IsSliceOf.new ..) pl pu q3
  show wpAny (model X.prog X.w) X.A (subscriptTail e (.Slice lo hi none p2) v (.ref s3.heap.objs.size)) (EP X pins σ Q) X.xe { s3 with heap := s3.heap.push { cls := .type "slice", data := .fields #[vl, vu, .none] } }
  exact tail_any (ops := [.ref s3.heap.objs.size, v]) ht hT hg (by with_unfolding_all rfl)


def cutV (xs : List V) (lo hi : Option Int) : List V := (xs.drop (HT.sIx xs.length 0 lo)).take (HT.sIx xs.length xs.length hi - HT.sIx xs.length 0 lo)
theorem cutV_length (xs : List V) (lo hi : Option Int) : (cutV xs lo hi).length ≤ xs.length := by
  unfold cutV
  rw [List.length_take, List.length_drop]
  omega

def rSlT (K : PySem.W.Frag) : V → Option Int → Option Int → Hp → VK → Prop := fun x lo hi H Q => ∃ a xs, x = .ref a ∧ SqT K H a xs ∧
  ¬ (HT.sIx xs.length 0 lo = 0 ∧ HT.sIx xs.length xs.length hi = xs.length) ∧ ∀ p, H p = none → Q (.ref p) (upd H p (.tup (cutV xs lo hi)))
theorem sl_tup : SlR X (rSlT X.K) := by
  intro pins s σ H x v vl vu lo hi sl Q I rx hs pl pu h
  obtain ⟨a, xs, rfl, hx, hw, q⟩ := h
  cases rx
  obtain ⟨its, r, ht, hz⟩ := I.tuple hx
  have hlen : its.toArray.size = xs.length := by rw [List.size_toArray]; exact r.length.symm
  refine ⟨"tuple", _, PyProof.Rows.slot_tuple_getitem.lookup, ht.typeIs, ?_⟩
  refine HT.getItem_tuple_cut ht hs pl pu (by rw [hlen]; exact hw) ?_ (by rw [hlen]; exact hz)
  rw [hlen]
  refine ⟨.ref s.heap.objs.size, _, I.laid (t' := s.toks) (o := .tup (cutV xs lo hi)) (fun b ob q => Heap.get?_push_of_some _ q) (Nat.le_refl _) ?_, rfl, q _ (I.hok.fresh (Nat.le_refl _))⟩
  exact ⟨Nat.le_trans (cutV_length xs lo hi) hz, _, (r.drop (HT.sIx xs.length 0 lo)).take (HT.sIx xs.length xs.length hi - HT.sIx xs.length 0 lo), IsTup.new _ _⟩


def rCatT (K : PySem.W.Frag) : R2 := fun x y H Q => ∃ a b xs ys, x = .ref a ∧ y = .ref b ∧ SqT K H a xs ∧ SqT K H b ys ∧ xs ≠ [] ∧ xs.length + ys.length ≤ sizeLine ∧
  (ys = [] → Q (.ref a) H) ∧ (ys ≠ [] → ∀ p, H p = none → Q (.ref p) (upd H p (.tup (xs ++ ys))))
theorem Vals.nil_iff {xs : List V} {us : List Value} (r : Vals xs us) : us = [] ↔ xs = [] := by
  cases r with
  | nil => simp
  | cons _ _ => simp
theorem op_catT : OpR X (binaryOp .Add) (rCatT X.K) := by
  intro pins s σ H x y v u Q I rx ry h
  obtain ⟨a, b, xs, ys, rfl, rfl, ha, hb, hx, hz, q1, q2⟩ := h
  cases rx
  cases ry
  obtain ⟨its, r1, p1, _⟩ := I.tuple ha
  obtain ⟨its2, r2, p2, _⟩ := I.tuple hb
  refine HT.cat_tup p1 p2 (fun z => hx (r1.nil_iff.mp z)) (fun z => ⟨.ref a, H, I, rfl, q1 (r2.nil_iff.mp z)⟩) (fun z => ?_) (by rw [← r1.length, ← r2.length]; exact hz)
  refine ⟨.ref s.heap.objs.size, _, I.laid (t' := s.toks) (o := .tup (xs ++ ys)) (fun b ob q => Heap.get?_push_of_some _ q) (Nat.le_refl _) ?_, rfl, q2 (fun w => z (r2.nil_iff.mpr w)) _ (I.hok.fresh (Nat.le_refl _))⟩
  exact ⟨by rw [List.length_append]; exact hz, _, r1.append r2, IsTup.new _ _⟩

end
end L2

namespace L2
open PySem PySem.Spec PyProof.Rows



def ixN (n : Nat) (i : Int) : Option Nat := if 0 ≤ i then (if i < n then some i.toNat else none) else if -(n : Int) ≤ i then some (i + n).toNat else none
def atI {α : Type} (xs : List α) (i : Int) : Option α := (ixN xs.length i).bind fun j => xs[j]?
theorem ixN_seq {n : Nat} {i : Int} {j : Nat} (h : ixN n i = some j) : seqIndex? i n = some j ∧ j < n ∧ -(n : Int) ≤ i ∧ i < n := by
  unfold ixN at h
  by_cases h0 : 0 ≤ i
  · rw [if_pos h0] at h
    by_cases h1 : i < n
    · rw [if_pos h1] at h
      have e : i.toNat = j := Option.some.inj h
      exact ⟨by rw [seqIndex_of h0 h1, e], by omega, by omega, h1⟩
    · rw [if_neg h1] at h; cases h
  · rw [if_neg h0] at h
    by_cases h1 : -(n : Int) ≤ i
    · rw [if_pos h1] at h
      have e : (i + n).toNat = j := Option.some.inj h
      exact ⟨by rw [seqIndex_neg (by omega) h1, e], by omega, h1, by omega⟩
    · rw [if_neg h1] at h; cases h
theorem atI_get {α : Type} {xs : List α} {i : Int} {v : α} (h : atI xs i = some v) : ∃ j, seqIndex? i xs.length = some j ∧ xs[j]? = some v ∧ j < xs.length ∧ -(xs.length : Int) ≤ i ∧ i < xs.length := by
  unfold atI at h
  cases e : ixN xs.length i with
  | none => rw [e] at h; cases h
  | some j =>
    rw [e] at h
    obtain ⟨h1, h2, h3, h4⟩ := ixN_seq e
    exact ⟨j, h1, h, h2, h3, h4⟩
theorem atI_nat {α : Type} {xs : List α} {j : Nat} {v : α} (h : xs[j]? = some v) : atI xs (j : Int) = some v := by
  have hj : j < xs.length := (List.getElem?_eq_some_iff.mp h).1
  have e : ixN xs.length (j : Int) = some j := by
    unfold ixN
    rw [if_pos (by omega), if_pos (by omega)]; simp
  unfold atI; rw [e]; exact h
def PlainIx (b : Expr) : Prop := ∀ o i, subscripted b false o i = operate [o, i] (getItem o i)

def IxR (X : Cx) (r : R2) : Prop :=
  ∀ (value slice : Expr) (pins : List (Addr × Obj)) (s : Shared) (σ : St) (H : Hp) (x y : V) (v u : Value) (Q : VK), Inv X pins σ H s → RelV x v → RelV y u → r x y H Q →
    subscripted slice false v u = operate [v, u] (getItem v u) → wpAny (model X.prog X.w) X.A (subscriptTail value slice v u) (EP X pins σ Q) X.xe s

def MtR (X : Cx) (id : String) (r : V → List V → Hp → VK → Prop) : Prop :=
  ∀ (pins : List (Addr × Obj)) (s : Shared) (σ : St) (H : Hp) (x : V) (xs : List V) (v : Value) (us : List Value) (Q : VK), Inv X pins σ H s → RelV x v → Vals xs us → r x xs H Q →
    wpAny (model X.prog X.w) X.A (call (.builtin id) (v :: us)) (EP X pins σ Q) X.xe s
section
variable {X : Cx} {a b : Expr} {ta tb : TE} {pos : Pos}
theorem pe_ix {r : R2} (hr : IxR X r) (ha : PE X a ta) (hb : PE X b tb) (hs : PlainIx b) : PE X (.Subscript a b pos) (tOp r ta tb) := by
  intro pins s σ H Q I h
  exact Subscript_ (binT ha hb I h fun v u s2 x y H2 I2 rx ry q => hr a b pins s2 σ H2 x y v u Q I2 rx ry q (hs _ _))

def rIxL (K : PySem.W.Frag) : R2 := fun x y H Q => ∃ p xs i v, x = .ref p ∧ y = .int i ∧ SqL K H p xs ∧ atI xs i = some v ∧ Q v H
def rIxT (K : PySem.W.Frag) : R2 := fun x y H Q => ∃ p xs i v, x = .ref p ∧ y = .int i ∧ SqT K H p xs ∧ atI xs i = some v ∧ Q v H
theorem ix_list : IxR X (rIxL X.K) := by
  intro value slice pins s σ H x y v u Q I rx ry h hs
  obtain ⟨p, xs, i, z, rfl, rfl, hq, he, q⟩ := h
  cases rx
  obtain ⟨t, rfl⟩ := ry
  obtain ⟨its, r, pl, hz⟩ := I.list hq
  obtain ⟨j, h1, h2, h3, h4, h5⟩ := atI_get he
  obtain ⟨w, ew, rw'⟩ := r.get h2
  have hl := r.length
  have hn := line63
  have fin : EP X pins σ Q w s := ⟨z, H, I, rw', q⟩
  by_cases h0 : 0 ≤ i
  · have hj : i.toNat = j := by
      rw [seqIndex_of h0 h5] at h1
      exact Option.some.inj h1
    exact item_listR pl.isList h0 (by omega) (by rw [hj]; simpa using ew) fin hs
  · have hj : (i + (its.toArray.size : Int)).toNat = j := by
      rw [seqIndex_neg (by omega) h4] at h1
      rw [List.size_toArray, ← hl]
      exact Option.some.inj h1
    exact subscriptTail_builtinR (x := w) pl.isList.typeIs slot_list_getitem.lookup
      (wpAny_getItem_list_neg (Q := fun r s' => r = w ∧ EP X pins σ Q r s') pl.isList (by omega) (by rw [List.size_toArray] <;> omega) (by omega) (by rw [hj]; simpa using ew) ⟨rfl, fin⟩) hs
theorem ix_tup : IxR X (rIxT X.K) := by
  intro value slice pins s σ H x y v u Q I rx ry h hs
  obtain ⟨p, xs, i, z, rfl, rfl, hq, he, q⟩ := h
  cases rx
  obtain ⟨t, rfl⟩ := ry
  obtain ⟨its, r, pl, hz⟩ := I.tuple hq
  obtain ⟨j, h1, h2, h3, h4, h5⟩ := atI_get he
  obtain ⟨w, ew, rw'⟩ := r.get h2
  have hl := r.length
  have hn := line63
  have fin : EP X pins σ Q w s := ⟨z, H, I, rw', q⟩
  exact subscriptTail_builtinR (x := w) pl.typeIs slot_tuple_getitem.lookup
    (getItem_tuple (j := j) (Q := fun r s' => r = w ∧ EP X pins σ Q r s') pl (by omega) (by omega) (by rw [List.size_toArray, ← hl]; exact h1) (by simpa using ew) ⟨rfl, fin⟩) hs
theorem mapSeq_set (its : List Value) (n j : Nat) (u : Value) : Obj.mapSeq (·.setIfInBounds j u) { cls := .type "list", data := .seq its.toArray n } = { cls := .type "list", data := .seq (its.set j u).toArray n } := by
  simp [Obj.mapSeq]
theorem Inv.lst {pins : List (Addr × Obj)} {σ : St} {H : Hp} {s : Shared} {p : Addr} {xs : List V} (I : Inv X pins σ H s) (h : H p = some (.lst xs)) :
    ∃ (its : List Value) (n : Nat), Vals xs its ∧ s.heap.get? p = some { cls := .type "list", data := .seq its.toArray n } ∧ xs.length ≤ sizeLine := by
  obtain ⟨z, its, n, r, e⟩ := I.hok p _ h
  exact ⟨its, n, r, e, z⟩

theorem Inv.lstUpd {pins : List (Addr × Obj)} {σ : St} {H : Hp} {s : Shared} {p : Addr} {xs ys : List V} {its its' : List Value} {n n' : Nat} {f : Obj → Obj} (I : Inv X pins σ H s) (h : H p = some (.lst xs))
    (ho : s.heap.get? p = some { cls := .type "list", data := .seq its.toArray n }) (hf : f { cls := .type "list", data := .seq its.toArray n } = { cls := .type "list", data := .seq its'.toArray n' }) (r : Vals ys its') (hz : ys.length ≤ sizeLine) (t : Nat) :
    Inv X pins σ (upd H p (.lst ys)) { s with heap := s.heap.update p f, toks := t } := by
  have e : (s.heap.update p f).get? p = some { cls := .type "list", data := .seq its'.toArray n' } := by
    rw [Heap.get?_update_self f ho (by rw [hf] <;> rfl), hf]
  refine I.write (x := p) (e := p) (by rw [h]; trivial) (.inl rfl) (fun b u hb q => (Heap.get?_update_other _ _ (Ne.symm hb)).trans q) ⟨_, e⟩ ?_
  exact ⟨hz, its', n', r, e⟩
def rSetL : V → V → V → Hp → (Hp → Prop) → Prop := fun o i v H Q => ∃ p xs k j, o = .ref p ∧ i = .int k ∧ H p = some (.lst xs) ∧ ixN xs.length k = some j ∧ Q (upd H p (.lst (xs.set j v)))
theorem set_list : PSet X rSetL := by
  intro pins s σ H o i v ov iv u Q I ro ri rv h
  obtain ⟨p, xs, k, j, rfl, rfl, hp, hj, q⟩ := h
  cases ro
  obtain ⟨t, rfl⟩ := ri
  obtain ⟨its, n, r, ho, hz⟩ := I.lst hp
  obtain ⟨h1, h2, h3, h4⟩ := ixN_seq hj
  have hl := r.length
  have hn := line63
  have I' : Inv X pins σ (upd H p (.lst (xs.set j v))) { s with heap := s.heap.update p (Obj.mapSeq (·.setIfInBounds j u)) } :=
    I.lstUpd hp ho (mapSeq_set its n j u) (r.set rv j) (by rw [List.length_set]; exact hz) s.toks
  by_cases h0 : 0 ≤ k
  · have hk : k.toNat = j := by
      rw [seqIndex_of h0 h4] at h1
      exact Option.some.inj h1
    exact PySem.W.ki_setAt ho h0 (by omega) (by rw [List.size_toArray, ← hl]; exact h4) (by rw [hk]; exact ⟨_, I', q⟩)
  · have hk : (k + (its.toArray.size : Int)).toNat = j := by
      rw [seqIndex_neg (by omega) h3] at h1
      rw [List.size_toArray, ← hl]
      exact Option.some.inj h1
    exact PySem.W.ki_setBack ho (by omega) (by rw [List.size_toArray, ← hl]; exact h3) (by omega) (by rw [hk]; exact ⟨_, I', q⟩)


theorem slice_bounds (lo hi : Option Int) (n : Nat) : (sliceBounds lo hi none n).1 = ((HT.sIx n 0 lo : Nat) : Int) ∧ (sliceBounds lo hi none n).2.1 = ((HT.sIx n n hi : Nat) : Int) ∧ (sliceBounds lo hi none n).2.2 = 1 := by
  refine ⟨?_, ?_, rfl⟩
  · cases lo with
    | none => simp [sliceBounds, HT.sIx]
    | some i =>
      simp only [sliceBounds, HT.sIx, Option.getD_none, show (1 : Int) > 0 by decide, if_true]
      by_cases h : i < 0
      · simp only [h, if_true] <;> omega
      · simp only [h, if_false] <;> omega
  · cases hi with
    | none => simp [sliceBounds, HT.sIx]
    | some i =>
      simp only [sliceBounds, HT.sIx, Option.getD_none, show (1 : Int) > 0 by decide, if_true]
      by_cases h : i < 0
      · simp only [h, if_true] <;> omega
      · simp only [h, if_false] <;> omega
theorem slicePick_cut (its : List Value) (lo hi : Option Int) : slicePick its.toArray lo hi none = ((its.drop (HT.sIx its.length 0 lo)).take (HT.sIx its.length its.length hi - HT.sIx its.length 0 lo)).toArray := by
  obtain ⟨h1, h2, h3⟩ := slice_bounds lo hi its.toArray.size
  unfold slicePick
  rw [h1, h2, h3]
  simp only [sliceRange_one, pick_run, List.size_toArray] <;> rfl

def rSlL (K : PySem.W.Frag) : V → Option Int → Option Int → Hp → VK → Prop := fun x lo hi H Q => ∃ a xs, x = .ref a ∧ SqL K H a xs ∧ ∀ p, H p = none → Q (.ref p) (upd H p (.lst (cutV xs lo hi)))
theorem sl_list : SlR X (rSlL X.K) := by
  intro pins s σ H x v vl vu lo hi sl Q I rx hs pl pu h
  obtain ⟨a, xs, rfl, hx, q⟩ := h
  cases rx
  obtain ⟨its, r, ht, hz⟩ := I.list hx
  have hlen := r.length
  refine ⟨"list", _, slot_list_getitem.lookup, ht.isList.typeIs, ?_⟩
  refine wpAny_getItem_list_slice ht.isList hs pl pu .none (by simp) ?_ (by rw [List.size_toArray] <;> omega)
  rw [slicePick_cut, ← hlen]
  refine ⟨.ref s.heap.objs.size, _, I.laid (t' := s.toks) (o := .lst (cutV xs lo hi)) (fun b ob q => Heap.get?_push_of_some _ q) (Nat.le_refl _) ?_, rfl, q _ (I.hok.fresh (Nat.le_refl _))⟩
  exact ⟨Nat.le_trans (cutV_length xs lo hi) hz, _, 0, (r.drop (HT.sIx xs.length 0 lo)).take (HT.sIx xs.length xs.length hi - HT.sIx xs.length 0 lo), Heap.get?_push_size _ rfl⟩


theorem call_tuple_of : CallR X (.type "tuple") (fun xs H Q => ∃ p ys, xs = [.ref p] ∧ ((SqL X.K H p ys ∧ ∀ l, H l = none → Q (.ref l) (upd H l (.tup ys))) ∨ (SqT X.K H p ys ∧ Q (.ref p) H))) := by
  intro pins s σ H xs us Q I r h
  obtain ⟨p, ys, rfl, h⟩ := h
  obtain ⟨u, rfl, rx⟩ := vals1 r
  cases rx
  rcases h with ⟨hq, q⟩ | ⟨hq, q⟩
  · obtain ⟨its, r', pl, hz⟩ := I.list hq
    have hlen := r'.length
    refine call_tuple_list pl.isList (fun h' kp => ?_) (by simp only [List.size_toArray] <;> omega)
    have I1 : Inv X pins σ H { s with heap := h' } := I.kept (t' := s.toks) kp
    have I2 : Inv X pins σ (upd H h'.objs.size (.tup ys)) { s with heap := h'.push { cls := .type "tuple", data := .seq its.toArray } } :=
      I1.laid (t' := s.toks) (fun b o e => Heap.get?_push_of_some _ e) (Nat.le_refl _) (show ObjOk X.prog X.w _ _ _ (.tup ys) from ⟨hz, its, r', IsTup.new _ _⟩)
    exact ⟨.ref h'.objs.size, _, I2, rfl, q _ (I1.hok.fresh (Nat.le_refl _))⟩
  · obtain ⟨its, r', pl, hz⟩ := I.tuple hq
    exact call_tuple_same pl ⟨.ref p, H, I, rfl, q⟩



def tyV (K : PySem.W.Frag) (T : String) (x : V) (H : Hp) : Prop := match x with
  | .str _ => T = "str"
  | .int _ => T = "int"
  | .ref p => (T = "list" ∧ ∃ xs, SqL K H p xs) ∨ (T = "tuple" ∧ ∃ o, K.lookup p = some o ∧ o.cls = .type "tuple" ∧ o.dict = none) ∨
      (T = "dict" ∧ ((∃ kvs, H p = some (.dK kvs)) ∨ ∃ kvs, H p = some (.dT kvs))) ∨ (T = "set" ∧ ∃ S n, H p = some (.set S n))
  | _ => False
theorem tyV_is {pins : List (Addr × Obj)} {σ : St} {H : Hp} {s : Shared} {T : String} {x : V} {v : Value} (I : Inv X pins σ H s) (r : RelV x v) (ty : tyV X.K T x H) :
    s.TypeIs v T ∧ ∀ a, v = .ref a → ∃ ob, s.heap.get? a = some ob ∧ ob.dict = none := by
  cases x with
  | str z =>
    obtain ⟨t, rfl⟩ := r
    cases (show T = "str" from ty)
    exact ⟨typeIs_str s z t, fun _ e => nomatch e⟩
  | int i =>
    obtain ⟨t, rfl⟩ := r
    cases (show T = "int" from ty)
    exact ⟨typeIs_int s i t, fun _ e => nomatch e⟩
  | ref p =>
    cases r
    rcases ty with ⟨rfl, xs, hq⟩ | ⟨rfl, o, hk, hc, hd⟩ | ⟨rfl, hk⟩ | ⟨rfl, S, n, hk⟩
    · obtain ⟨its, _, pl, _⟩ := I.list hq
      refine ⟨pl.isList.typeIs, fun a e => ?_⟩
      cases e
      obtain ⟨o, n, e, c, hd, _⟩ := pl
      exact ⟨o, e, hd⟩
    · refine ⟨⟨o, I.kIn p o hk, hc⟩, fun a e => ?_⟩
      cases e
      exact ⟨o, I.kIn _ o hk, hd⟩
    · have z : ∃ o, s.heap.get? p = some o ∧ o.ExactDict := by
        rcases hk with ⟨kvs, hk⟩ | ⟨kvs, hk⟩
        · obtain ⟨_, _, _, _, o, _, _, e, ex, _⟩ := I.hok p _ hk
          exact ⟨o, e, ex⟩
        · obtain ⟨_, _, _, _, o, _, _, e, ex, _⟩ := I.hok p _ hk
          exact ⟨o, e, ex⟩
      obtain ⟨o, e, ex⟩ := z
      refine ⟨⟨o, e, ex.1⟩, fun a e2 => ?_⟩
      cases e2
      exact ⟨o, e, ex.2.1⟩
    · obtain ⟨o, _, _, _, e, ex, _⟩ := I.hok p _ hk
      refine ⟨⟨o, e, ex.1⟩, fun a e2 => ?_⟩
      cases e2
      exact ⟨o, e, ex.2.1⟩
  | _ => exact False.elim ty
def tBM (K : PySem.W.Frag) (T : String) (r : V → List V → Hp → VK → Prop) (to : TE) (t : TA) : TE := fun σ H Q => to σ H fun x H1 => tyV K T x H1 ∧ t σ H1 fun xs H2 => r x xs H2 Q
variable {o e : Expr} {es : List Expr} {to : TE} {t : TA} {name : Str} {apos cpos : Pos} {T id : String} {r : V → List V → Hp → VK → Prop}
theorem pe_bm (pa : PlainAttrs T) (slot : Slot T name id) (hty : typeOf (.builtin id) = pure (.type "method_descriptor")) (hm : MtR X id r) (ho : PE X o to) (ha : PA X (e :: es) t)
    (hbase : attributeBase o name X.env (eval o X.env) = eval o X.env := by rfl)
    (hfew : ((backTo cpos (starEach (e :: es) X.env)).all (fun x => !x.1) && (backToKw cpos (keywordEach [] X.env)).all (fun x => x.1.isSome)
      && decide ((e :: es).length + ([] : List Keyword).length + (if ([] : List Keyword).isEmpty then 0 else 1) < 30)) = true := by rfl)
    (hline : (apos.endLine == cpos.line) = true := by rfl) (hs : starEach (e :: es) X.env = (false, eval e X.env) :: starEach es X.env := by rfl) (hplain : (backTo cpos (starEach es X.env)).any (·.1) = false := by rfl) :
    PE X (.Call (.Attribute o name apos) (e :: es) [] cpos) (tBM X.K T r to t) := by
  intro pins s σ H Q I h
  refine wpAny_Call_method_late hbase hfew hline rfl (thn (ho pins s σ H _ I h) fun v s1 ⟨x, H1, I1, r1, ty, q1⟩ => ?_)
  obtain ⟨h1, h2⟩ := tyV_is I1 r1 ty
  refine ⟨T, id, pa, slot, hty, h1, h2, ?_⟩
  have hA := ha cpos pins s1 σ H1 _ I1 q1
  rw [hs] at hA ⊢
  refine Calls.callWith_builtin (by show (false || (backTo cpos (starEach es X.env)).any (·.1)) = false; rw [hplain] <;> rfl) (Calls.evalArgs_plain ?_)
  exact thn hA fun us s2 ⟨vs, H2, I2, r2, q2⟩ => hm pins s2 σ H2 x vs v us Q I2 r1 r2 q2

end
end L2

namespace L2
open PySem PySem.Spec PyProof.Rows

def MtM (X : Cx) (id : String) (r : V → List V → Hp → VK → Prop) : Prop :=
  ∀ (pins : List (Addr × Obj)) (s : Shared) (σ : St) (H : Hp) (x : V) (xs : List V) (v : Value) (us : List Value) (Q : VK), Inv X pins σ H s → RelV x v → Vals xs us → r x xs H Q →
    wpAny (model X.prog X.w) X.A (call (.builtin id) (v :: us)) (EP X pins σ Q) X.xe s


theorem Vals.one : ∀ {x : V} {us : List Value}, Vals [x] us → ∃ u, us = [u] ∧ RelV x u
  | _, _, .cons r .nil => ⟨_, rfl, r⟩
theorem Vals.rep {xs : List V} {us : List Value} (h : Vals xs us) : ∀ k : Nat, Vals (List.replicate k xs).flatten (List.replicate k us).flatten
  | 0 => .nil
  | k + 1 => by
    rw [List.replicate_succ, List.replicate_succ, List.flatten_cons, List.flatten_cons]
    exact Vals.append h (Vals.rep h k)
theorem foldl_rep (its : List Value) : ∀ (k : Nat) (acc : List Value),
    List.foldl (fun x1 x2 => x1 ++ x2) acc.toArray (List.replicate k its.toArray) = (acc ++ (List.replicate k its).flatten).toArray
  | 0, acc => by simp
  | k + 1, acc => by
    have e : acc.toArray ++ its.toArray = (acc ++ its).toArray := by simp
    have e2 : (acc ++ its) ++ (List.replicate k its).flatten = acc ++ (List.replicate (k + 1) its).flatten := by
      rw [List.replicate_succ, List.flatten_cons, List.append_assoc]
    rw [← e2, ← foldl_rep its k (acc ++ its), ← e, List.replicate_succ, List.foldl_cons]

section
variable {X : Cx} {pins : List (Addr × Obj)} {σ : St} {H : Hp} {s : Shared} {l b : Addr} {xs ys zs : List V}


theorem Inv.lset {its its' : List Value} {n : Nat} {f : Array Value → Array Value} {t' : Nat} (I : Inv X pins σ H s) (hH : H l = some (.lst xs))
    (e : s.heap.get? l = some { cls := .type "list", data := .seq its.toArray n }) (hf : f its.toArray = its'.toArray) (hv : Vals ys its') (hz : ys.length ≤ sizeLine) :
    Inv X pins σ (upd H l (.lst ys)) { s with heap := s.heap.update l (Obj.mapSeq f), toks := t' } := by
  have q := PySem.IsL.update e f
  rw [hf] at q
  refine I.write (x := l) (e := l) (by rw [hH]; exact trivial) (.inl rfl) (fun b' u hb hu => (Heap.get?_update_other s.heap (Obj.mapSeq f) (Ne.symm hb)).trans hu) ⟨_, q⟩ ?_
  exact ⟨hz, its', _, hv, q⟩
theorem Inv.lnew {its : List Value} {t' : Nat} (I : Inv X pins σ H s) (hv : Vals ys its) (hz : ys.length ≤ sizeLine) :
    Inv X pins σ (upd H s.heap.objs.size (.lst ys)) { s with heap := s.heap.push { cls := .type "list", data := .seq its.toArray }, toks := t' } :=
  I.laid (fun _ _ q => Heap.get?_push_of_some _ q) (Nat.le_refl _) ⟨hz, its, 0, hv, Heap.get?_push_size _ rfl⟩
theorem Inv.fresh (I : Inv X pins σ H s) : H s.heap.objs.size = none := I.hok.fresh (Nat.le_refl _)
theorem Inv.lstM (I : Inv X pins σ H s) (hH : H l = some (.lst xs)) : xs.length ≤ sizeLine ∧ ∃ (its : List Value) (n : Nat), Vals xs its ∧ xs.length = its.length ∧ s.heap.get? l = some { cls := .type "list", data := .seq its.toArray n } := by
  obtain ⟨z, its, n, r, e⟩ := I.hok l _ hH
  exact ⟨z, its, n, r, r.length, e⟩

theorem notLongL {n : Nat} (h : n ≤ sizeLine) : Builtin.List.listTooLong n = false := by
  unfold Builtin.List.listTooLong
  exact decide_eq_false (by omega)
end

section
variable {X : Cx}


def rAppend : V → List V → Hp → VK → Prop := fun x vs H Q => ∃ l xs y, x = .ref l ∧ vs = [y] ∧ H l = some (.lst xs) ∧ xs.length < sizeLine ∧ Q .non (upd H l (.lst (xs ++ [y])))
theorem mt_append : MtM X "list.append" rAppend := by
  intro pins s σ H x vs v us Q I rx rv h
  obtain ⟨l, xs, y, rfl, rfl, hH, hz, q⟩ := h
  cases rx
  obtain ⟨u, rfl, ru⟩ := rv.one
  obtain ⟨z, its, n, r, hl, e⟩ := I.lstM hH
  refine call_meets F.slot_list_append ⟨_, e, rfl⟩ F.entry_list_append (F.args_list_append_2 _ _) (PySem.list_append l its.toArray n u (by rw [List.size_toArray]; omega)) ⟨e, ?_⟩
  refine ⟨.non, _, I.lset (its' := its ++ [u]) hH e (by simp) (r.append (.cons ru .nil)) ?_, rfl, q⟩
  rw [List.length_append, List.length_singleton]
  omega

def rCat : R2 := fun x y H Q => ∃ l b xs zs, x = .ref l ∧ y = .ref b ∧ H l = some (.lst xs) ∧ H b = some (.lst zs) ∧ xs.length + zs.length ≤ sizeLine ∧ ∀ p, H p = none → Q (.ref p) (upd H p (.lst (xs ++ zs)))
theorem op_cat : OpR X (binaryOp .Add) rCat := by
  intro pins s σ H x y v u Q I rx ry h
  obtain ⟨l, b, xs, zs, rfl, rfl, hH, hB, hz, q⟩ := h
  cases rx
  cases ry
  obtain ⟨z, its, n, r, hl, e⟩ := I.lstM hH
  obtain ⟨z2, its2, n2, r2, hl2, e2⟩ := I.lstM hB
  refine PySem.P.add_list e e2 ?_ (by rw [List.size_toArray, List.size_toArray]; omega)
  have ea : its.toArray ++ its2.toArray = (its ++ its2).toArray := by simp
  rw [ea]
  exact ⟨.ref _, _, I.lnew (t' := s.toks) (r.append r2) (by rw [List.length_append]; omega), rfl, q _ I.fresh⟩

def rRep : R2 := fun x y H Q => ∃ l k xs, x = .ref l ∧ y = .int k ∧ H l = some (.lst xs) ∧ -(2 ^ 63) ≤ k ∧ k < 2 ^ 63 ∧ xs.length * k.toNat ≤ sizeLine ∧
  ∀ p, H p = none → Q (.ref p) (upd H p (.lst (List.replicate k.toNat xs).flatten))
theorem len_rep {α : Type} (xs : List α) (k : Nat) : (List.replicate k xs).flatten.length = k * xs.length := by
  induction k with
  | zero => simp
  | succ k ih => rw [List.replicate_succ, List.flatten_cons, List.length_append, ih, Nat.succ_mul, Nat.add_comm]
theorem op_rep : OpR X (binaryOp .Mult) rRep := by
  intro pins s σ H x y v u Q I rx ry h
  obtain ⟨l, k, xs, rfl, rfl, hH, h1, h2, hz, q⟩ := h
  cases rx
  obtain ⟨t, rfl⟩ := ry
  obtain ⟨z, its, n, r, hl, e⟩ := I.lstM hH
  have hlen : its.toArray.size * k.toNat ≤ sizeLine := by rw [List.size_toArray, ← hl]; exact hz
  have hcap : ¬ its.toArray.size * k.toNat > (2 ^ 63 - 1) / 8 := by
    have : (sizeLine : Nat) ≤ (2 ^ 63 - 1) / 8 := by decide
    omega
  have hfit : ¬ (!Builtin.List.listFitsIndex k) = true := by
    rw [fitsIndex_both h1 h2]
    exact Bool.false_ne_true
  have hlong : ¬ Builtin.List.listTooLong (its.toArray.size * k.toNat) = true := by
    rw [notLongL hlen]
    exact Bool.false_ne_true
  have hnew : List.foldl (fun x1 x2 => x1 ++ x2) #[] (List.replicate (if its.toArray.isEmpty = true then 0 else k.toNat) its.toArray) = (List.replicate k.toNat its).flatten.toArray := by
    have f0 : ∀ m : Nat, List.foldl (fun x1 x2 => x1 ++ x2) #[] (List.replicate m its.toArray) = (List.replicate m its).flatten.toArray := fun m => by
      have := foldl_rep its m []
      rw [List.nil_append] at this
      exact this
    rw [f0]
    cases its with
    | nil => simp
    | cons a r' => rw [if_neg (by simp)]
  refine wpAny_binaryOp_repeat_ref (T := "list") (U := "int") (by decide) ⟨_, e, rfl⟩ (fun s' => typeIs_int s' k t) noFill_list_mul F.fills_int_mul F.slot_int_rmul repeat_list F.slot_int_index.lookup
    (call_meets F.slot_int_rmul (typeIs_int s k t) F.entry_int_rmul (F.args_int_rmul_2 _ _) (int___rmul___int_list k t l its.toArray n)
      ⟨e, rfl, ⟨_, e, rfl⟩, call_meets F.slot_list_mul ⟨_, e, rfl⟩ F.entry_list_mul (F.args_list_mul_2 _ _) (AutoListH.list___mul___list_int_3 l its.toArray n k t hfit hcap hlong) ⟨e, ?_⟩⟩)
  rw [hnew]
  exact ⟨.ref _, _, I.lnew (t' := s.toks) (r.rep k.toNat) (by rw [len_rep, Nat.mul_comm]; exact hz), rfl, q _ I.fresh⟩


end


section
variable {prog : Program} {w : World} {A : Around} {E : Value → Shared → Prop} {s : Shared}
set_option maxRecDepth 100000 in

end

section
variable {X : Cx}

end
end L2

namespace Att
open PySem PySem.W PySem.Calls PyProof.Rows


theorem ints_of_wellAll {P : Params} {h : Heap} : ∀ (ns : List Int) (vs : List Value), WellAll P h vs (ns.map WData.int) → IntsAre vs ns := by
  intro ns
  induction ns with
  | nil =>
    intro vs w
    rw [List.map_nil] at w
    cases w
    exact .nil
  | cons n ns ih =>
    intro vs w
    rw [List.map_cons] at w
    cases w with
    | cons a b =>
      cases a
      exact .cons _ _ (ih _ b)

theorem script_of {l : OpenLaw} {n : Nat} (hn : l.most = some n) {P : Params} {h : Heap} {args : List WData} {vals : List Value}
    (hpre : l.row.toRowW.claim.pre args = true) (hwl : WellAll P h vals args) :
    ∃ a vs ns, vals = [Value.ref a] ∧ args = [WData.list (ns.map WData.int)] ∧ h.get? a = some { cls := .type "list", data := .seq vs.toArray } ∧ IntsAre vs ns ∧ ns.length ≤ n := by
  have hsh : WShape.hasAll [] args [.list .int] = true := (pre_splitW hpre).1
  have hc : l.pre.holds [] { args := args } = true := (pre_splitW hpre).2
  obtain ⟨d, r, rfl, h1, h2⟩ := hasAllW_cons hsh
  obtain rfl := hasAllW_nil h2
  obtain ⟨xs, rfl, h3⟩ := hasW_list h1
  obtain ⟨ns, rfl⟩ := items_int h3
  have hlen : ns.length ≤ n := by
    unfold OpenLaw.pre at hc
    have h4 : (WTm.not (.lt (.lit (.int (n : Int))) (.len (.arg 0)))).holds [] { args := [.list (ns.map .int)] } = true := by
      have h4 := (holds_andW hc).1
      rw [hn] at h4
      exact h4
    have h5 := condW_of h4 (w_not (w_lt w_lit (w_len_list (w_arg rfl))))
    rw [List.length_map] at h5
    refine Nat.le_of_not_lt fun q => ?_
    have q' : (n : Int) < ((ns.length : Nat) : Int) := by omega
    first
      | (rw [decide_eq_true q'] at h5; exact absurd h5 (by decide))
      | (simp at h5; omega)
  cases hwl with
  | cons w1 w2 =>
    cases w2
    cases w1 with
    | list ho hall => exact ⟨_, _, ns, rfl, rfl, ho, ints_of_wellAll ns _ hall, hlen⟩

theorem post_true (l : OpenLaw) (args : List WData) : l.row.toRowW.claim.post args (.bool true) args = true :=
  postW_of (r := l.row.toRowW) (X := (true == true))
    (show WShape.has [] (.bool true) .bool = true by first | rfl | decide | simp [WShape.has, WShape.arms, WShape.armsAll])
    (show (WTm.eq .res (.lit (.bool true))).value [] { args := args, res := some (.bool true), after := args } = some (.bool (true == true)) from w_eq_bool (w_res rfl) w_lit) rfl


theorem attach_call {l : OpenLaw} {n : Nat} {q : Program} {loose : List Str} {XP : (Str → Option Value) → Heap → Prop} {YP : World → Heap → Prop} {d : DefRec}
    (hn : l.most = some n) (hdf : d.params.defaults = [])
    (call : ∀ (w : World) (s₀ s₁ : Shared) (mg mb : Str → Option Value) (fa : Addr) (o : Obj) (pm cd doc : Value) (a : Addr) (vs : List Value) (ns : List Int),
      Ground q loose [] XP w s₀ mg mb s₁.heap → YP w s₁.heap →
      s₁.heap.get? fa = some o → o.data = .func (docDef d.name d.params d.body d.scope pm cd doc) → s₁.heap.CodeRec cd d.name → mg d.name = some (.ref fa) →
      s₁.heap.get? a = some { cls := .type "list", data := .seq vs.toArray } → IntsAre vs ns → ns.length ≤ n → s₁.gens = #[] →
      codeAny (model l.prog w) callerA (.call (.ref fa) ⟨[.ref a], []⟩) (fun r s' => r = .ok (.ret (.bool true)) ∧ OldK s₁.heap s'.heap ∧ s'.os = s₁.os ∧ AllBare s'.gens) s₁) :
    WalkO q loose XP YP l.row.toRowW d [] (fun f vs => PySem.call f vs) := by
  intro w s₀ s₁ mg mb G Y fa o pm cd doc dV kV ho hd hcd hD hmg hg args vals as hpre hlay hrd hwl hlo
  obtain rfl : dV = .none := Dflts.none hD hdf
  obtain rfl : kV = .none := Dflts.noKw hD
  obtain ⟨a, vs, ns, rfl, rfl, hobj, hints, hlen⟩ := script_of hn hpre hwl
  refine enter_call (codeAny_mono (call w s₀ s₁ mg mb fa o pm cd doc a vs ns G Y ho (fd_plain hd) hcd hmg hobj hints hlen hg) fun r s' hq => ?_)
  obtain ⟨rfl, h2, h3, h4⟩ := hq
  exact ⟨.inl ⟨.bool true, .bool true, [], rfl, fun _ => rfl, .bool true, post_true l _, fun _ => ⟨List.Pairwise.nil, fun _ hm => (nomatch hm)⟩⟩, h2, h3, h4⟩


section
variable {prog : Program} {w : World} {A : Around} {E : Value → Shared → Prop} {s : Shared} {K : Frag}


end
end Att

namespace L2
open PySem PySem.Spec PyProof.Rows

theorem vals_ints : ∀ {vs : List Value} {ns : List Int}, IntsAre vs ns → Vals (ns.map V.int) vs
  | _, _, .nil => .nil
  | _, _, .cons n t h => .cons ⟨t, rfl⟩ (vals_ints h)


def Only (H : Hp) : Prop := ∀ b, H b = none ∨ ∃ o xs, H b = some (.frz o (.lst xs))


theorem law_call {P : Program} {w : World} {K : PySem.W.Frag} {mg mb : Str → Option Value} {CX : CXT} {k : Nat} {fa a : Addr} {fd : FuncData} {x : Str} {sp : Sp} {s₁ : Shared} {vs : List Value} {ns : List Int}
    (KX : K.In s₁.heap) (hns : s₁.heap.Ns mainGlobals mg) (hb : s₁.heap.Ns builtinsNs mb) (hbb : ∀ x : Str, x ≠ "__name__" → mb x = bootBuiltins x) (hlim : s₁.heap.NoLimit) (hg : s₁.gens = #[])
    (ha : s₁.heap.get? a = some { cls := .type "list", data := .seq vs.toArray }) (hi : IntsAre vs ns) (hl : ns.length ≤ sizeLine) (hr : Room k callerA)
    (F : ∀ base : Heap, K.In base → base.Ns mainGlobals mg → FnOk P w K mg base CX k fa fd [x] sp) (hbind : ∀ (s : Shared) (u : Value), BindsTo s fd ⟨[u], []⟩ [(x, u)])
    (hsp : ∀ H : Hp, Only H → SqL K H a (ns.map V.int) → sp [.ref a] H (fun v _ => v = .bl true) fun _ _ _ => False)
    (hCX : ∀ H e s', CX [] H s₁ (fun _ _ _ => False) e s' → False) :
    codeAny (model P w) callerA (.call (.ref fa) ⟨[.ref a], []⟩) (fun r s' => r = .ok (.ret (.bool true)) ∧ OldK s₁.heap s'.heap ∧ s'.os = s₁.os ∧ AllBare s'.gens) s₁ := by
  have rv := vals_ints hi
  have lenV := hi.length
  -- from an abstract heap in which nothing but the script may be tracked
  have core : ∀ H : Hp, Only H → SqL K H a (ns.map V.int) → HOk P w H s₁.heap → (∀ b, H b ≠ none → b = a) → (H a ≠ none → K.lookup a = none) →
      codeAny (model P w) callerA (.call (.ref fa) ⟨[.ref a], []⟩) (fun r s' => r = .ok (.ret (.bool true)) ∧ OldK s₁.heap s'.heap ∧ s'.os = s₁.os ∧ AllBare s'.gens) s₁ := by
    intro H hO hS hok hA hK
    have base_of : ∀ {b : Addr} {o : Obj}, s₁.heap.get? b = some o → H b = none → (hidT s₁.heap H).get? b = some o := fun e n => hidT_get e n
    have noA : ∀ {b : Addr} {o : Obj} {es : Array DictEntry} {ep : Nat}, s₁.heap.get? b = some o → o.data = .dict es ep → H b = none := fun {b o es ep} e d => by
      cases q : H b with
      | none => rfl
      | some u =>
        have e' : b = a := hA b (by rw [q]; simp)
        subst e'
        rw [ha] at e; cases e
        have d' : Data.seq vs.toArray _ = Data.dict es ep := d
        cases d'
    have nsK : ∀ {b : Addr} {m : Str → Option Value}, s₁.heap.Ns b m → (hidT s₁.heap H).Ns b m := fun {b m} ⟨o, es, ep, e, d, r⟩ => ⟨o, es, ep, base_of e (noA e d), d, r⟩
    have hKb : K.In (hidT s₁.heap H) := fun b o e => base_of (KX b o e) (by
      cases q : H b with
      | none => rfl
      | some u =>
        have e' : b = a := hA b (by rw [q]; simp)
        subst e'
        rw [hK (by rw [q]; simp)] at e; cases e)
    have hM : Mod K mg (hidT s₁.heap H) := ⟨hKb, nsK hns, ⟨mb, nsK hb, hbb⟩, let ⟨mc, h1, h2⟩ := hlim; ⟨mc, nsK h1, h2⟩⟩
    have e0 : Env0 P w K mg (hidT s₁.heap H) callerA [] s₁ H := ⟨rfl, hM, fun b o e => of_hidT e, Nat.le_of_eq (hidT_size _ _), trivial, fun b hb => absurd (show b ∈ ([] : List Addr) from hb) (by simp), hok, .of_eq hg⟩
    refine codeAny_mono ((F _ hKb (nsK hns)).run callerA [] s₁ H ⟨[.ref a], []⟩ [.ref a] [.ref a] _ _ hr e0 (hbind s₁ (.ref a)) (.cons rfl .nil) (hsp H hO hS)) fun r s' h => ?_
    cases r with
    | error e => exact (hCX H e s' h).elim
    | ok fl =>
      cases fl with
      | next => exact False.elim h
      | brk => exact False.elim h
      | cont => exact False.elim h
      | ret u =>
        obtain ⟨v, H', os, bare, un, hok', r', q⟩ := h
        have q' : v = .bl true := q
        subst q'
        obtain rfl : u = Value.bool true := r'
        refine ⟨rfl, OldK.of_keep fun b o e => ?_, os, bare⟩
        cases q : H b with
        | none => exact un.keep b o e q (by intro z; exact absurd (show b ∈ ([] : List Addr) from z) (by simp)) (by simp)
        | some u =>
          rcases hO b with z | ⟨ob, xs, z⟩
          · rw [q] at z; cases z
          · have z2 := un.frzs b ob _ z
            obtain ⟨e1, _⟩ := hok b _ z
            obtain ⟨e2, _⟩ := hok' b _ z2
            rw [e] at e1; cases e1
            exact e2
  cases hk : K.lookup a with
  | some o =>
    -- the script is one of the module's own objects
    have e := KX a o hk
    rw [ha] at e
    cases e
    refine core (fun _ => none) (fun _ => .inl rfl) (.inr ⟨_, vs.toArray, _, hk, rfl, rfl, rfl, by rw [List.size_toArray, lenV]; exact hl, by simpa using rv⟩) (fun b u z => by have z' : (none : Option HO) = some u := z; cases z') (fun b z => absurd rfl z) fun z => absurd rfl z
  | none =>
    refine core (fun b => if b = a then some (.frz { cls := .type "list", data := .seq vs.toArray } (.lst (ns.map V.int))) else none) (fun b => ?_) (.inl (.inr ⟨{ cls := .type "list", data := .seq vs.toArray }, if_pos rfl⟩)) (fun b u z => ?_) (fun b z => ?_) fun _ => hk
    · by_cases hb : b = a
      · exact .inr ⟨_, _, if_pos hb⟩
      · exact .inl (if_neg hb)
    · by_cases hb : b = a
      · have z' := (if_pos hb).symm.trans z
        cases z'
        subst hb
        exact ⟨ha, by rw [List.length_map]; exact hl, vs, _, rv, ha⟩
      · have z' := (if_neg hb).symm.trans z
        cases z'
    · by_cases hb : b = a
      · exact hb
      · exact absurd (if_neg hb) z
end L2

namespace L2
open PySem PySem.Spec PyProof.Rows

theorem walk_of {l : PySem.W.OpenLaw} {n k : Nat} {q : Program} {loose : List Str} {XP : (Str → Option Value) → Heap → Prop} {YP : World → Heap → Prop} {d : DefRec} {K : Params → PySem.W.Frag} {CX : World → CXT} {sp : World → Sp} {x : Str}
    (hn : l.most = some n) (hn2 : n ≤ sizeLine) (hdf : d.params.defaults = []) (hr : Room k callerA)
    (hY : ∀ (w : World) (h : Heap), YP w h → (K w.params).In h)
    (F : ∀ (w : World) (mg : Str → Option Value) (fa : Addr) (h : Heap), (K w.params).In h → h.Ns mainGlobals mg → mg d.name = some (.ref fa) →
      ∃ fd : FuncData, (∀ (s : Shared) (u : Value), BindsTo s fd ⟨[u], []⟩ [(x, u)]) ∧
        ∀ base : Heap, (K w.params).In base → base.Ns mainGlobals mg → FnOk l.prog w (K w.params) mg base (CX w) k fa fd [x] (sp w))
    (hsp : ∀ (w : World) (H : Hp) (a : Addr) (ns : List Int), ns.length ≤ n → Only H → SqL (K w.params) H a (ns.map V.int) → sp w [.ref a] H (fun v _ => v = .bl true) fun _ _ _ => False)
    (hCX : ∀ (w : World) (H : Hp) (s : Shared) (e : Value) (s' : Shared), CX w [] H s (fun _ _ _ => False) e s' → False) :
    PySem.W.WalkO q loose XP YP l.row.toRowW d [] (fun f vs => PySem.call f vs) := by
  refine Att.attach_call hn hdf fun w s₀ s₁ mg mb fa o pm cd doc a vs ns G Y ho hd hcd hmg hobj hints hlen hg => ?_
  have KX := hY w _ Y
  obtain ⟨fd, hb, hF⟩ := F w mg fa _ KX G.T.g hmg
  exact law_call KX G.T.g G.T.b G.T.builtins G.T.nolimit hg hobj hints (Nat.le_trans hlen hn2) hr hF hb (fun H hO hS => hsp w H a ns hlen hO hS) fun H e s' => hCX w H s₁ e s'

end L2




namespace L2
open PySem PySem.Spec PyProof.Rows



def defArgs (s : Stmt) : Arguments := match s with
  | .FunctionDef _ a _ _ _ _ _ _ _ _ => a
  | _ => { posonlyargs := [], args := [], vararg := none, kwonlyargs := [], kw_defaults := [], kwarg := none, defaults := [] }
def defBody (s : Stmt) : List Stmt := match s with
  | .FunctionDef _ _ b _ _ _ _ _ _ _ => b
  | _ => []
def defScope (s : Stmt) : Scope := match s with
  | .FunctionDef _ _ _ _ _ _ sc _ _ _ => sc
  | _ => { kind := .function, names := [], isGenerator := false, isCoroutine := false }


abbrev CX0 : CXT := fun _ _ _ _ _ _ => False
abbrev E0 : XK := fun _ _ _ => False
section
variable {P : Program} {w : World} {K : PySem.W.Frag} {mg : Str → Option Value} {base : Heap}

end
theorem small1000 {n : Nat} (h : n ≤ 1000) : n < sizeLine := Nat.lt_of_le_of_lt h (by decide)


section
variable {X : Cx}
theorem pv (i : Nat) {x : Str} {pos : Pos} (hN : X.N[i]? = some x := by rfl) (hv : Vis X.env.scope x := by first | exact Or.inl rfl | exact Or.inr (Or.inl rfl) | exact Or.inr (Or.inr rfl)) (hd : (x == ("__debug__" : Str)) = false := by decide)
    (hcd : (x == ("__classdict__" : Str)) = false := by decide) : PE X (.Name x pos) (tVar i) := pe_var hN hv hd hcd
end


theorem iteF {A B : Prop} (h : B) : if false = true then A else B := by
  rw [if_neg Bool.false_ne_true]
  exact h
theorem iteT {A B : Prop} (h : A) : if true = true then A else B := by
  rw [if_pos rfl]
  exact h
theorem ite2 {c A B : Prop} [Decidable c] (h1 : c → A) (h2 : ¬ c → B) : if c then A else B := by
  by_cases h : c
  · rw [if_pos h]
    exact h1 h
  · rw [if_neg h]
    exact h2 h
theorem iteNS {c A B : Prop} [Decidable c] (hc : c) (h : B) : if (!decide c) = true then A else B := by
  rw [decide_eq_true hc]
  exact iteF h



def Same (H H' : Hp) : Prop := ∀ b o, H b = some o → H' b = some o
theorem Same.refl (H : Hp) : Same H H := fun _ _ h => h
theorem Same.trans {H H1 H2 : Hp} (a : Same H H1) (b : Same H1 H2) : Same H H2 := fun c o h => b c o (a c o h)
theorem Same.seq {K : PySem.W.Frag} {H H' : Hp} {a : Addr} {xs : List V} (e : Same H H') (h : SqL K H a xs) : SqL K H' a xs := by
  rcases h with (h | ⟨o, h⟩) | h
  · exact .inl (.inl (e _ _ h))
  · exact .inl (.inr ⟨o, e _ _ h⟩)
  · exact .inr h

end L2
namespace L2
open PySem PySem.Spec PyProof.Rows


section
variable {κ : Type} [DecidableEq κ]
end



section
variable {P : Program} {w : World} {H : Hp} {h : Heap} {a : Addr}
end


section
variable {X : Cx} {pins : List (Addr × Obj)} {σ : St} {H : Hp} {s : Shared} {a : Addr} {y v : V} {u r : Value} {o : Option V} {A : Around} {E : Value → Shared → Prop}

theorem Inv.big (I : Inv X pins σ H s) : sysModules < s.heap.objs.size := by
  have h : mainGlobals < s.heap.objs.size := (I.mod.glob.keeps I.bk).lt
  exact Nat.lt_trans (by decide) h


end

section
variable {X : Cx} {pins : List (Addr × Obj)} {σ : St} {H : Hp} {s : Shared} {a : Addr} {kvs : List (Key × V)} {k : Key} {u : Value} {A : Around} {E : Value → Shared → Prop}

end




section
variable {X : Cx} {o i e value : Expr} {pos pos' tpos : Pos} {td ty tv : TE}
end



theorem dk_empty {P : Program} {w : World} {H : Hp} (h : Heap) (hb : sysModules < h.objs.size) : ObjOk P w H (h.push { cls := .type "dict", data := .dict #[] }) h.objs.size (.dK []) :=
  ⟨Nat.zero_le _, beq_eq_false_iff_ne.mpr (Ne.symm (Nat.ne_of_lt hb)), [], .nil, Heap.DictOf.new h⟩
def tDNewK : TE := fun _ H Q => ∀ p, H p = none → Q (.ref p) (upd H p (.dK []))
section
variable {X : Cx} {pos : Pos}
theorem pe_dnewK : PE X (.Dict [] [] pos) tDNewK := fun pins s σ H Q I h =>
  wpAny_Dict_empty ⟨.ref s.heap.objs.size, _, I.laid (a := s.heap.objs.size) (o := .dK []) (t' := s.toks) (fun _ _ q => Heap.get?_push_of_some _ q) (Nat.le_refl _) (dk_empty s.heap I.big), rfl, h _ (I.hok.fresh (Nat.le_refl _))⟩
end


section
variable {X : Cx} {pins : List (Addr × Obj)} {σ : St} {H : Hp} {s : Shared} {a : Addr} {y d : V} {u r : Value} {o : Option V} {A : Around} {E : Value → Shared → Prop}

end

section
variable {X : Cx} {o e f : Expr} {apos cpos : Pos} {td ty tx : TE}
end


section
variable {X : Cx} {pins : List (Addr × Obj)} {σ : St} {H : Hp} {s : Shared} {a : Addr} {kvs : List (Key × V)} {A : Around} {E : Value → Shared → Prop}
end


section
variable {X : Cx} {pins : List (Addr × Obj)} {σ : St} {H : Hp} {s : Shared} {a : Addr} {y : V} {u : Value} {A : Around} {E : Value → Shared → Prop}

end
end L2
namespace L2
open PySem PySem.Spec PyProof.Rows
section
variable {κ : Type} [DecidableEq κ]
end
end L2

set_option maxHeartbeats 4000000
namespace L2
open PySem PySem.Spec PyProof.Rows


def Itg (n : Nat) (g : Nat → V) : It := ⟨fun i _ => i < n, fun i H x H' => H' = H ∧ x = g i, fun i _ => n ≤ i⟩
theorem turn_walk {P : Program} {w : World} {K : PySem.W.Frag} {tg : Expr} {it : Addr} {n : Nat} {Pn : Nat → Value → Prop} {St : Nat → Heap → Prop} {g : Nat → V}
    (W : ∀ A : Around, A.handled = none → Walks P w A it [it] [it] n Pn St) (hv : ∀ i v, Pn i v → RelV (g i) v)
    (hk : ∀ i h h', St i h → (∀ o, h.get? it = some o → h'.get? it = some o) → St i h')
    (hself : ∀ (A : Around) (i : Nat) (s : Shared) (Q : Value → Shared → Prop) (E : Value → Shared → Prop), St i s.heap → Q (.ref it) s → wpAny (model P w) A (pyIter (.ref it)) Q E s)
    (ho : ∀ i h, St i h → ∃ o c vs, h.get? it = some o ∧ o.cls = .type c ∧ o.data = .fields vs ∧
      ["enumerate", "zip", "dict_itemiterator", "dict_reverseitemiterator", "odict_iterator", "itertools.zip_longest", "itertools.pairwise"].contains c = false) :
    Turn P w K tg (Itg n g) [it] it (fun i h => i ≤ n ∧ St i h) where
  mem := by simp
  obj := fun i h st b hb => by
    have e : b = it := by simpa using hb
    subst e
    obtain ⟨o, c, vs, e, _, d, _⟩ := ho i h st.2
    exact ⟨o, e, fun v z => by rw [d] at z; cases z⟩
  keep := fun i h h' st k => ⟨st.1, hk i h h' st.2 fun o e => k it (by simp) o e⟩
  item := by
    intro X hP hw hK hc i pins s σ H E I hf st hg
    subst hP hw hK
    obtain ⟨f0, f1, f2, f3, f4, f5⟩ := hf it (by simp)
    refine (W X.A (I.ok.hd hc)).item i s _ _ hg st.2 fun v h' tk hP st' kk => ?_
    have I1 : Inv X pins σ H { s with heap := h', toks := tk } := I.turned (fun b o hb e => kk b o (by simpa using hb) e) f0 f1 f3 f4 f5
    obtain ⟨o, c, vs, e, hcls, d, hn⟩ := ho _ _ st'
    exact ⟨v, rfl, go_of (s := { s with heap := h', toks := tk }) e hcls d hn ⟨g i, H, I1, hv i v hP, ⟨rfl, rfl⟩, ⟨hg, st'⟩, fun b hb => (hf b hb).1⟩⟩
  done := by
    intro X hP hw hK hc i pins s σ H E I hf st hg
    subst hP hw hK
    obtain ⟨f0, f1, f2, f3, f4, f5⟩ := hf it (by simp)
    have hg' : n ≤ i := hg
    have e : i = n := Nat.le_antisymm st.1 hg'
    subst e
    exact (W X.A (I.ok.hd hc)).done s _ _ st.2 fun h' tk kk => ⟨rfl, I.turned (fun b o hb e => kk b o (by simpa using hb) e) f0 f1 f3 f4 f5⟩
  self := fun A i s Q E st h => hself A i s Q E st.2 h
theorem for_gen {n : Nat} {g' : Nat → V} {g : TG} {tb : TS} {D : Ends} {σ : St} {H : Hp} (Pv : Nat → St → Hp → Prop) (h0 : Pv 0 σ H)
    (hs : ∀ i σ H, i < n → Pv i σ H → g (g' i) σ H fun σ2 H2 => tb { D with nx := Pv (i + 1), ct := Pv (i + 1), bk := D.nx } σ2 H2) (hd : ∀ σ H, Pv n σ H → D.nx σ H) :
    ∃ W : Nat → Nat → St → Hp → Prop, (∃ m, W 0 m σ H) ∧ ∀ i m σ H, W i m σ H →
      ((Itg n g').stop i H ∧ D.nx σ H) ∨ ((Itg n g').go i H ∧ ∃ N : St → Hp → Prop, (∀ σ' H', N σ' H' → ∃ m', m' < m ∧ W (i + 1) m' σ' H') ∧ ∀ x H', (Itg n g').yld i H x H' → g x σ H' fun σ2 H2 => tb { D with nx := N, ct := N, bk := D.nx } σ2 H2) := by
  refine ⟨fun i m σ H => m = n - i ∧ i ≤ n ∧ Pv i σ H, ⟨n, by simp, Nat.zero_le _, h0⟩, ?_⟩
  rintro i m σ H ⟨rfl, hi, p⟩
  by_cases hlt : i < n
  · refine .inr ⟨hlt, Pv (i + 1), fun σ' H' p' => ⟨n - (i + 1), by omega, rfl, hlt, p'⟩, fun x H' y => ?_⟩
    obtain ⟨e, y⟩ := y
    subst e y
    exact hs i σ _ hlt p
  · have e : i = n := by omega
    subst e
    exact .inl ⟨Nat.le_refl _, hd σ H p⟩

section
variable {X : Cx} {tg : Expr}

def iRng3 (ta : TA) : TI := fun σ H R => ta σ H fun vs H1 => ∃ (i j c : Int) (n : Nat), vs = [.int i, .int j, .int c] ∧ c ≠ 0 ∧ (c < 1073741824 ∧ -1073741824 < c) ∧ Builtin.Range.small i j c = true ∧ Builtin.Range.rangeSize i j c = (n : Int) ∧ R (Itg n fun k => .int (i + (k : Int) * c)) H1
theorem pi_range3 {a b d : Expr} {ta : TA} {p pos : Pos} (hg : Gl X "range") (hm : X.mg "range" = none) (ha : PA X [a, b, d] ta)
    (hs : starEach [a, b, d] X.env = (false, eval a X.env) :: starEach [b, d] X.env := by rfl) (hpl : (backTo pos (starEach [b, d] X.env)).any (·.1) = false := by rfl) :
    PI X tg (.Call (.Name "range" p) [a, b, d] [] pos) (iRng3 ta) := by
  intro pins s σ H R I h
  refine Call_ (ld_blt I hg hm boot_range (PyProof.Rows.callWith_type1 (thn (ha pos pins s σ H _ I h) fun us s1 ⟨vs, H1, I1, r1, q1⟩ => ?_) hs hpl))
  obtain ⟨i, j, c, n, e, hc, hc2, hsm, hsz, q⟩ := q1
  subst e
  cases r1 with
  | cons r rr =>
    cases rr with
    | cons r' rr =>
      cases rr with
      | cons r'' rr =>
        cases rr
        obtain ⟨t, rfl⟩ := r
        obtain ⟨t', rfl⟩ := r'
        obtain ⟨t'', rfl⟩ := r''
        refine call_range_3 hc ?_ (.inl (PyProof.noPylong_small (by omega)))
        refine wpAny_pyIter_range (IsRange.new ..) hsm ?_
        have I2 : Inv X pins σ H1 { s1 with heap := s1.heap.push { cls := .type "range", data := .fields #[.int i t, .int j t', .int c t''] } } := I1.kept (t' := s1.toks) fun b o e => Heap.get?_push_of_some _ e
        refine ⟨(s1.heap.push { cls := .type "range", data := .fields #[.int i t, .int j t', .int c t''] }).objs.size, [(s1.heap.push { cls := .type "range", data := .fields #[.int i t, .int j t', .int c t''] }).objs.size], _, _, H1, rfl,
          I2.kept (t' := s1.toks) fun b o e => Heap.get?_push_of_some _ e,
          turn_walk (g := fun k => .int (i + (k : Int) * c)) (fun A hA => Walks.range hA _ i c n) (fun k v h => let ⟨t, e⟩ := h; ⟨t, e⟩) (fun i h h' st k => k _ st) (fun A i s Q E st hQ => wpAny_pyIter_rangeiter st hQ)
            (fun i h st => ⟨_, _, _, st, rfl, rfl, by decide⟩), ⟨Nat.zero_le _, ?_⟩, fun b hb => ?_, q⟩
        · have e1 : i + ((0 : Nat) : Int) * c = i := by simp
          have e2 : (n : Int) - ((0 : Nat) : Int) = Builtin.Range.rangeSize i j c := by rw [hsz]; simp
          show IsRangeIter _ _ (i + ((0 : Nat) : Int) * c) ((n : Int) - ((0 : Nat) : Int)) c
          rw [e1, e2]
          exact Heap.get?_push_size _ rfl
        · have e : b = (s1.heap.push { cls := .type "range", data := .fields #[.int i t, .int j t', .int c t''] }).objs.size := by simpa using hb
          subst e
          exact I2.fpOk (Nat.le_refl _) (I2.hok.fresh (Nat.le_refl _))
end


section
variable {X : Cx}
def rIsiT (K : PySem.W.Frag) (T : String) : List V → Hp → VK → Prop := fun xs H Q => ∃ x t b, xs = [x, .ty T] ∧ TyOf K H x t ∧ PySem.W.kitOne K t (.type T) = some b ∧ Q (.bl b) H
theorem call_isiT (T : String) : CallR X (.builtin "isinstance") (rIsiT X.K T) := by
  intro pins s σ H xs us Q I r h
  obtain ⟨x, t, b, rfl, ty, hk, q⟩ := h
  obtain ⟨u, c, rfl, rx, rc⟩ := vals2 r
  cases (show c = .type T from rc)
  exact isinst_ok I rx ty hk fun tk => ⟨.bl b, H, I.tok _, rfl, q⟩
end
end L2

namespace L2
open PySem PySem.Spec PyProof.Rows


section
variable {prog : Program} {w : World} {A : Around} {R : Result → Shared → Prop} {s : Shared}
theorem compLoop_go {elt target iter : Expr} {scope : Scope} {pos : Pos} {it acc : Value} {env : Env} (I : Nat → Shared → Prop)
    (turn : ∀ n s, I n s → wpAny (model prog w) A (pyNext it) (fun r s1 => match r with
      | none => R (.ok .next) s1
      | some v => wpAny (model prog w) A (letOwnedTupleGo target it v) (fun _ s2 => wpAny (model prog w) A (assign target env v) (fun _ s3 =>
          wpAny (model prog w) A (eval elt env) (fun x s4 =>
            wpAny (model prog w) A (call (.builtin "list.append") [acc, x]) (fun _ s5 => ∃ m, m < n ∧ I m s5) (notedBy (model prog w) A env fun e s' => R (.error e) s') s4) (notedBy (model prog w) A env fun e s' => R (.error e) s') s3)
          (notedBy (model prog w) A env fun e s' => R (.error e) s') s2) (notedBy (model prog w) A env fun e s' => R (.error e) s') s1) (notedBy (model prog w) A env fun e s' => R (.error e) s') s)
    (n : Nat) (h : I n s) :
    codeAny (model prog w) A (.compLoop (.ListComp elt [⟨target, iter, [], 0⟩] scope pos) 0 it acc env) R s := by
  refine codeAny_loop rfl I (fun n s hI => ?_) n h
  show wpAny _ A ((compTurn (.ListComp elt [⟨target, iter, [], 0⟩] scope pos) 0 it acc env).onRaise (fun x => do noteFrame x env; theTreesLotGoes x)) _ _ s
  refine wpAny_noted ?_
  rw [compTurn_list]
  refine wpAny_bind (wpAny_standAt (wpAny_bind (wpAny_mono (turn n s hI) (fun r s1 h1 => ?_) fun _ _ h' => h')))
  cases r with
  | none => exact wpAny_pure h1
  | some v =>
    refine wpAny_bind (wpAny_mono h1 (fun _ s2 h2 => wpAny_bind (wpAny_mono h2 (fun _ s3 h3 => ?_) fun _ _ h' => h')) fun _ _ h' => h')
    refine wpAny_bind (wpAny_tests_nil ?_)
    exact wpAny_bind (wpAny_bind (wpAny_mono h3 (fun x s4 h4 => wpAny_bind (wpAny_mono h4 (fun _ s5 h5 => wpAny_pure (wpAny_pure ⟨rfl, h5⟩)) fun _ _ h' => h')) fun _ _ h' => h'))
end

section
variable {X : Cx} {elt tg iter : Expr} {scope : Scope} {pos : Pos} {N' : List Str} {wi : TI} {g : TG} {te : TE}
theorem HOk.but {P : Program} {w : World} {H : Hp} {h h' : Heap} {C : Addr} (x : HOk P w H h) (n : H C = none) (k : ∀ b u, b ≠ C → h.get? b = some u → h'.get? b = some u) : HOk P w H h' := fun a o e =>
  (x a o e).stay (fun b u hb q => k b u (by
    rcases hb with z | z
    · rw [z]; intro z2; rw [z2, n] at e; cases e
    · intro z2; rw [z2, n] at z; cases z) q) (fun _ q => q) fun _ _ q => q
end

section
variable {X : Cx}
theorem boolsAre_of : ∀ {bs : List Bool} {us : List Value}, Vals (bs.map V.bl) us → LSm.BoolsAre us bs
  | [], us, r => by rw [List.map_nil] at r; cases r; exact .nil
  | b :: bs, us, r => by
    rw [List.map_cons] at r
    cases r with
    | cons r1 r2 =>
      cases (show _ = Value.bool b from r1)
      exact .cons b (boolsAre_of r2)
theorem call_all (hc : X.calm = true) : CallR X (.builtin "all") (fun xs H Q => ∃ (a : Addr) (bs : List Bool), xs = [.ref a] ∧ SqL X.K H a (bs.map V.bl) ∧ Q (.bl (bs.all id)) H) := by
  intro pins s σ H xs us Q I r h
  obtain ⟨a, bs, rfl, hS, q⟩ := h
  obtain ⟨u, rfl, ru⟩ := vals1 r
  cases ru
  obtain ⟨its, rv, pl, _⟩ := I.list hS
  have hb := boolsAre_of rv
  have hlt : a < s.heap.objs.size := by obtain ⟨_, e, _⟩ := pl.isList; exact Heap.lt_size e
  refine call_all_walk (wpAny_pyIter_list pl.isList ?_)
  refine ⟨s.heap.objs.size, [s.heap.objs.size, a], [s.heap.objs.size], its.toArray.size, _, _, fun i => (bs[i]?).getD true, rfl, Walks.list (A := X.A.in1) (I.ok.hd hc) _ a (Nat.ne_of_lt hlt) its.toArray,
    ⟨⟨_, Heap.get?_push_size _ rfl, rfl, rfl⟩, pl.isList.push _⟩, fun i v s' Q' E' hP hQ => ?_, fun h' tk hk => ?_⟩
  · obtain ⟨b, e, rfl⟩ := hb.get i v (by simpa using hP)
    simp only [e, Option.getD_some] at hQ
    exact wpAny_truthy_bool hQ
  · have e : ((List.range its.toArray.size).all fun i => (bs[i]?).getD true) = bs.all id := by
      rw [List.size_toArray, hb.length]; exact LSm.range_all bs
    rw [e]
    exact ⟨.bl _, H, I.kept (LSm.kept_iter hk), rfl, q⟩


end
end L2

namespace L2
open PySem PySem.Spec PyProof.Rows



def Quiet (CX : CXT) : Prop := ∀ outer H s e s', CX outer H s E0 e s' → False
theorem quiet0 : Quiet CX0 := fun _ _ _ _ _ h => h
theorem passQ {CX : CXT} {X : Cx} (q : Quiet CX) : Passes CX X E0 := fun _ _ _ _ _ _ _ h => (q _ _ _ _ _ h).elim
structure Fok (P : Program) (w : World) (K : PySem.W.Frag) (mg : Str → Option Value) (base : Heap) (CX : CXT) (j : Nat) (x : Str) (ps : List Str) (dvs : List V) (sp : Sp) : Prop where
  ex : ∃ f fd ds, FnOk P w K mg base CX j f fd ps sp ∧ Binds K fd ps ds ∧ Vals dvs ds ∧ PySem.W.keepIn K (.ref f) = true ∧ mg x = some (.ref f)
section
variable {X : Cx} {CX : CXT} {j k : Nat} {ps : List Str} {sp : Sp} {dvs : List V} {E : XK} {x : Str} {p pos : Pos} {e : Expr} {es : List Expr} {t : TA}

theorem pe_callX (F : Fok X.prog X.w X.K X.mg X.base CX j x ps dvs sp) (hr : Room k X.A) (hx : Passes CX X E) (ha : PA X (e :: es) t) (hj : j ≤ k := by decide) (hg : Gl X x := by rfl)
    (hdb : (x == ("__debug__" : Str)) = false := by decide) (he : starEach (e :: es) X.env = (false, eval e X.env) :: starEach es X.env := by rfl) (hpl : (backTo pos (starEach es X.env)).any (·.1) = false := by rfl) :
    PE X (.Call (.Name x p) (e :: es) [] pos) (tCall sp dvs E t) := by
  obtain ⟨f, fd, ds, G, b, v, kp, m⟩ := F.ex
  exact pe_call G (hr.mono hj) hg m kp b v hx ha hdb he hpl
theorem pe_callF (F : Fok X.prog X.w X.K X.mg X.base CX j x ps dvs sp) (q : Quiet CX) (hr : Room k X.A) (ha : PA X (e :: es) t) (hj : j ≤ k := by decide) (hg : Gl X x := by rfl)
    (hdb : (x == ("__debug__" : Str)) = false := by decide) (he : starEach (e :: es) X.env = (false, eval e X.env) :: starEach es X.env := by rfl) (hpl : (backTo pos (starEach es X.env)).any (·.1) = false := by rfl) :
    PE X (.Call (.Name x p) (e :: es) [] pos) (tCall sp dvs E0 t) := pe_callX F hr (passQ q) ha hj hg hdb he hpl
end
section
variable {P : Program} {w : World} {K : PySem.W.Frag} {mg : Str → Option Value} {base : Heap}

structure FunD (K : PySem.W.Frag) (x qual : Str) (st : Stmt) (f : Addr) (fd : FuncData) (dV : Value) : Prop where
  ex : ∃ (oc : Value) (od : Option Addr) (kV doc pm : Value) (an : Option Addr) (cdv ct : Value) (osl : Array (Option Value)),
    fd = PySem.W.fnOf x qual (defArgs st) (defBody st) (defScope st) dV kV doc pm an cdv ct ∧ K.lookup f = some ⟨oc, od, .func fd, osl⟩ ∧ PySem.W.codeIn K cdv qual = true
  kp : PySem.W.keepIn K (.ref f) = true
theorem funD_mk {x qual : Str} {st : Stmt} {f : Addr} {oc : Value} {od an : Option Addr} {osl : Array (Option Value)} {dV kV doc pm cdv ct : Value} (l : K.lookup f = some ⟨oc, od, .func (PySem.W.fnOf x qual (defArgs st) (defBody st) (defScope st) dV kV doc pm an cdv ct), osl⟩)
    (c : PySem.W.codeIn K cdv qual = true) (k : PySem.W.keepIn K (.ref f) = true) : FunD K x qual st f (PySem.W.fnOf x qual (defArgs st) (defBody st) (defScope st) dV kV doc pm an cdv ct) dV := ⟨⟨oc, od, kV, doc, pm, an, cdv, ct, osl, rfl, l, c⟩, k⟩

theorem FunD.ok {x qual : Str} {st : Stmt} {f : Addr} {fd : FuncData} {dV : Value} {N ps : List Str} {k : Nat} {sp : Sp} {CX : CXT} (F : FunD K x qual st f fd dV) (S : FnScope N ps (defScope st)) (len : ∀ vs H Q E, sp vs H Q E → vs.length = ps.length)
    (hbody : ∀ (cdv : Value) (A : Around) (outer : List Env) (s : Shared) (H : Hp) (vs : List V) (Q : VK) (E : XK), Room k (A.deeper (envOfC qual (defScope st) s.heap.objs.size f cdv)) → sp vs H Q E →
      ∃ t, PSs (cxOf CX P w K mg base N qual (defScope st) f cdv A outer s H E).nox (defBody st) t ∧ t { nx := fun _ H' => Q .non H', rt := Q } (start N vs) H) : FnOk P w K mg base CX (k + 1) f fd ps sp := by
  obtain ⟨oc, od, kV, doc, pm, an, cdv, ct, osl, rfl, lk, hcd⟩ := F.ex
  refine fn_of lk hcd S len fun A outer s H vs Q E hr hsp => ?_
  obtain ⟨t, h, q⟩ := hbody cdv A outer s H vs Q E hr hsp
  exact ⟨t, h.nox, q⟩

theorem FunD.binds {x qual : Str} {st : Stmt} {f : Addr} {fd : FuncData} {dV : Value} {ps : List Str} (F : FunD K x qual st f fd dV)
    (h : ∀ (kV doc pm : Value) (an : Option Addr) (cdv ct : Value) (us : List Value), us.length = ps.length → bindArgs (PySem.W.fnOf x qual (defArgs st) (defBody st) (defScope st) dV kV doc pm an cdv ct) ⟨us, []⟩ = pure (ps.zip us)) : Binds K fd ps [] := by
  obtain ⟨oc, od, kV, doc, pm, an, cdv, ct, osl, rfl, lk, hcd⟩ := F.ex
  exact .all (h kV doc pm an cdv ct)

theorem fok {CX : CXT} {j : Nat} {x qual : Str} {st : Stmt} {f : Addr} {fd : FuncData} {dV : Value} {ps : List Str} {sp : Sp} (F : FunD K x qual st f fd dV) (G : FnOk P w K mg base CX j f fd ps sp) (b : Binds K fd ps []) (m : mg x = some (.ref f)) :
    Fok P w K mg base CX j x ps [] sp := ⟨f, fd, [], G, b, .nil, F.kp, m⟩

end


section
variable {X : Cx}
def CDivW (i j : Int) : Prop := 0 < j ∧ j < 2 ^ 1000
theorem op_fdivW : OpR X (binaryOp .FloorDiv) (rI CDivW fun i j => .int (i / j)) := opI fun i j _ _ _ _ _ hc q => by
  have h1 : (0 : Int) < j := hc.1
  have h2 : j < 2 ^ 1000 := hc.2
  refine floordiv_int (by omega) (by rw [Int.fdiv_eq_ediv_of_nonneg i (by omega)]; exact q) (.inl (PyProof.noPylong_of_log2 ?_))
  have e : j.natAbs.log2 < 1000 := by
    refine (Nat.log2_lt (by omega)).mpr ?_
    have e2 : ((j.natAbs : Nat) : Int) = j := by omega
    have e3 : ((2 ^ 1000 : Nat) : Int) = (2 : Int) ^ 1000 := by rw [Int.natCast_pow]; rfl
    omega
  omega
theorem cdivW {i j : Int} (h0 : 0 < j) (h1 : j < 1000000000000000000000000) : CDivW i j := ⟨h0, Int.lt_trans h1 (by decide +kernel)⟩
end
theorem bt_int : bootBuiltins "int" = some (.type "int") := by decide +kernel
theorem bt_bool : bootBuiltins "bool" = some (.type "bool") := by decide +kernel
theorem bt_tuple : bootBuiltins "tuple" = some (.type "tuple") := by decide +kernel
theorem bb_isinstance : bootBuiltins "isinstance" = some (.builtin "isinstance") := by decide +kernel
theorem bb_max : bootBuiltins "max" = some (.builtin "max") := by decide +kernel
theorem bb_min : bootBuiltins "min" = some (.builtin "min") := by decide +kernel
theorem bb_all : bootBuiltins "all" = some (.builtin "all") := by decide +kernel
theorem bb_len : bootBuiltins "len" = some (.builtin "len") := by decide +kernel
section
variable {K : PySem.W.Frag}
theorem kit_ii : PySem.W.kitOne K (.type "int") (.type "int") = some true := by kernel_rfl
theorem kit_ib : PySem.W.kitOne K (.type "int") (.type "bool") = some false := by kernel_rfl
theorem kit_si : PySem.W.kitOne K (.type "str") (.type "int") = some false := by kernel_rfl
theorem kit_bi : PySem.W.kitOne K (.type "bool") (.type "int") = some true := by kernel_rfl
theorem kit_bb : PySem.W.kitOne K (.type "bool") (.type "bool") = some true := by kernel_rfl
theorem kit_tt : PySem.W.kitOne K (.type "tuple") (.type "tuple") = some true := by kernel_rfl
theorem kit_ni : PySem.W.kitOne K (.type "NoneType") (.type "int") = some false := by kernel_rfl
theorem kit_li : PySem.W.kitOne K (.type "list") (.type "int") = some false := by kernel_rfl
theorem kit_ti : PySem.W.kitOne K (.type "tuple") (.type "int") = some false := by kernel_rfl
theorem kit_di : PySem.W.kitOne K (.type "dict") (.type "int") = some false := by kernel_rfl
end
end L2

namespace L2
open PySem PySem.Spec PyProof.Rows


section
variable {prog : Program} {w : World} {A : Around} {E : Value → Shared → Prop} {s : Shared}
end
end L2

namespace L2
open PySem PySem.Spec PyProof.Rows

end L2

namespace L2
open PySem PySem.Spec PyProof.Rows
section
variable {prog : Program} {w : World} {A : Around} {E : Value → Shared → Prop} {s : Shared}
end

section
variable {X : Cx} {pins : List (Addr × Obj)} {σ : St} {H : Hp} {s : Shared} {h' : Heap}
end
section
variable {X : Cx}
end
end L2

namespace L2
open PySem PySem.Spec PyProof.Rows


end L2

namespace L2
open PySem PySem.Spec PyProof.Rows

end L2

namespace L2
open PySem PySem.Spec PyProof.Rows


section
variable {P : Program} {w : World} {H H' : Hp} {h h' h'' bs : Heap} {l : List Env} {hid : List Addr}

end
section
variable {P : Program} {w : World} {K : PySem.W.Frag} {mg : Str → Option Value} {base : Heap} {N : List Str} {qual : Str} {scope : Scope} {f : Addr} {cd : Value} {A : Around} {outer : List Env} {s0 : Shared} {H0 : Hp} {E : XK}

end
end L2

namespace L2
open PySem PySem.Spec PyProof.Rows


section
variable {X : Cx}
end


section
variable {prog : Program} {w : World} {A : Around} {E : Value → Shared → Prop} {h : Heap} {g : Array GenState} {d : Drawn} {t : Nat} {os : OsState} {a C : Addr} {o : Obj} {vs : Array Value}
end
end L2

namespace L2
open PySem PySem.Spec PyProof.Rows
section
variable {X : Cx}

end


section
variable {X : Cx} {pins : List (Addr × Obj)} {σ : St} {H : Hp} {s : Shared}
end
end L2

namespace L2
open PySem PySem.Spec PyProof.Rows
section
variable {X : Cx}
end
end L2

namespace L2
open PySem PySem.Spec PyProof.Rows

section
variable {prog : Program} {w : World} {A : Around} {E : Value → Shared → Prop} {s : Shared} {x : Str} {t : Tok}
end
section
variable {X : Cx} {tg : Expr}
end
end L2

namespace L2
open PySem PySem.Spec PyProof.Rows

def clo (env : Env) (xs : List Str) : List (Str × Addr) := xs.map fun x => (x, (env.cells.lookup x).getD 0)
def CapsOk (env : Env) (scope : Scope) (xs caps : List Str) : Prop := ∀ x ∈ caps, env.kindOf x = some .cell ∧ (relabel scope env).names.lookup x = some .cell ∧ x ∈ xs
theorem capsOk_nil {env : Env} {scope : Scope} {xs : List Str} : CapsOk env scope xs [] := fun _ h => by cases h
theorem capsOk_cons {env : Env} {scope : Scope} {xs : List Str} {x : Str} {r : List Str} (h1 : env.kindOf x = some .cell) (h2 : (relabel scope env).names.lookup x = some .cell) (h3 : x ∈ xs) (h : CapsOk env scope xs r) : CapsOk env scope xs (x :: r) := fun y hy => by
  rcases List.mem_cons.mp hy with rfl | hy
  · exact ⟨h1, h2, h3⟩
  · exact h y hy
theorem clo_of {env : Env} {x : Str} {c : Addr} : ∀ {xs : List Str}, x ∈ xs → env.cells.lookup x = some c → (clo env xs).lookup x = some c
  | [], h, _ => by cases h
  | y :: r, h, e => by
    unfold clo
    rw [List.map_cons, List.lookup_cons]
    by_cases z : x = y
    · subst z; simp [e]
    · have zb : (x == y) = false := by simpa using z
      rw [zb]
      rcases List.mem_cons.mp h with q | q
      · exact absurd q z
      · exact clo_of q e
theorem clo_has {env : Env} {x : Str} : ∀ {xs : List Str}, x ∈ xs → ∃ c, (clo env xs).lookup x = some c
  | [], h => by cases h
  | y :: r, h => by
    unfold clo
    rw [List.map_cons, List.lookup_cons]
    by_cases z : x = y
    · subst z; exact ⟨_, by simp; rfl⟩
    · have zb : (x == y) = false := by simpa using z
      rw [zb]
      rcases List.mem_cons.mp h with q | q
      · exact absurd q z
      · exact clo_has q
theorem clo_sub {env : Env} {x : Str} {c : Addr} {xs : List Str} (hin : (xs.all fun x => (env.cells.lookup x).isSome) = true) (e : (clo env xs).lookup x = some c) : env.cells.lookup x = some c := by
  induction xs with
  | nil => cases e
  | cons y r ih =>
    unfold clo at e
    rw [List.map_cons, List.lookup_cons] at e
    rw [List.all_cons, Bool.and_eq_true] at hin
    by_cases z : x = y
    · subst z
      obtain ⟨a, ha⟩ := Option.isSome_iff_exists.mp hin.1
      rw [ha] at e ⊢
      simpa using e
    · have zb : (x == y) = false := by simpa using z
      rw [zb] at e
      exact ih hin.2 e
theorem caps_len {σ : St} {vs : List V} {is : List Nat} {N N' caps : List Str} {k : Nat} (hvs : is.map (fun i => σ[i]?) = vs.map fun v => some (some v)) (his : is.map (N[·]?) = caps.map some) (hN : N'.drop k = caps) (hk : k ≤ N'.length) :
    (List.replicate k (none : Option V) ++ vs.map some).length = N'.length := by
  have h1 := congrArg List.length hvs
  have h2 := congrArg List.length his
  have h3 := congrArg List.length hN
  simp only [List.length_map, List.length_drop, List.length_append, List.length_replicate] at *
  omega
theorem caps_at {σ : St} {vs : List V} {is : List Nat} {N N' caps : List Str} {k i : Nat} {x : Str} {v : V} (hvs : is.map (fun i => σ[i]?) = vs.map fun v => some (some v)) (his : is.map (N[·]?) = caps.map some) (hN : N'.drop k = caps)
    (e1 : N'[i]? = some x) (e2 : (List.replicate k (none : Option V) ++ vs.map some)[i]? = some (some v)) : ∃ j : Nat, N[j]? = some x ∧ x ∈ caps ∧ σ[j]? = some (some v) := by
  have hik : k ≤ i := by
    by_cases h : k ≤ i
    · exact h
    · rw [List.getElem?_append_left (by simpa using h), List.getElem?_replicate] at e2
      split at e2 <;> cases e2
  rw [List.getElem?_append_right (by simpa using hik), List.length_replicate] at e2
  have e1' : caps[i - k]? = some x := by rw [← hN, List.getElem?_drop, Nat.add_sub_cancel' hik]; exact e1
  have ev : vs[i - k]? = some v := by
    rw [List.getElem?_map] at e2
    cases z : vs[i - k]? with
    | none => rw [z] at e2; cases e2
    | some a => rw [z] at e2; cases e2; rfl
  have q1 := congrArg (·[i - k]?) hvs
  have q2 := congrArg (·[i - k]?) his
  simp only [List.getElem?_map, ev, e1', Option.map_some] at q1 q2
  cases z : is[i - k]? with
  | none => rw [z] at q1; cases q1
  | some j =>
    rw [z] at q1 q2
    exact ⟨j, Option.some.inj q2, List.mem_of_getElem? e1', Option.some.inj q1⟩
theorem caps_keep {σ : St} {vs : List V} {k : Nat} (h : σ.drop k = vs.map some) (i : Nat) (v : V) (e : (List.replicate k (none : Option V) ++ vs.map some)[i]? = some (some v)) : σ[i]? = some (some v) := by
  have hik : k ≤ i := by
    by_cases h : k ≤ i
    · exact h
    · rw [List.getElem?_append_left (by simpa using h), List.getElem?_replicate] at e
      split at e <;> cases e
  rw [List.getElem?_append_right (by simpa using hik), List.length_replicate, ← h, List.getElem?_drop, Nat.add_sub_cancel' hik] at e
  exact e
theorem all_of {names : List (Str × NameKind)} {xs : List Str} (h : (names.all fun y => !(y.2 == .cell || y.2 == .free) || xs.contains y.1) = true) : ∀ y ∈ names, (y.2 = .cell ∨ y.2 = .free) → y.1 ∈ xs := fun y hy hk => by
  have z := List.all_eq_true.mp h y hy
  rcases hk with e | e
  · rw [e] at z
    exact List.contains_iff_mem.mp (by simpa using z)
  · rw [e] at z
    exact List.contains_iff_mem.mp (by simpa using z)
def cxCompC (X : Cx) (N' : List Str) (scope : Scope) (xs : List Str) (C : Addr) (s0 : Shared) (H0 : Hp) (fp : List Addr) (pins : List (Addr × Obj)) : Cx where
  prog := X.prog
  w := X.w
  K := X.K
  mg := X.mg
  base := X.base
  A := X.A
  N := N'
  s₀ := s0
  H₀ := H0
  env := compEnvC scope (clo X.env xs) C X.env
  outer := X.stack
  stack := X.stack
  ex := fp
  fn := fun _ => false
  calm := X.calm
  pn := X.pn ++ pins
  xe := fun _ _ => False

def compKC (σ0 : St) (k : Nat) (cs : St) (g : TG) (te : TE) (Q : VK) : It → Hp → Prop := fun J H1 => ∀ D, H1 D = none → ∃ W : Nat → Nat → List V → Hp → Prop, (∃ m, W 0 m [] (upd H1 D (.lst []))) ∧
  ∀ i m ys H2, W i m ys H2 → H2 D = some (.lst ys) ∧ ((J.stop i H2 ∧ Q (.ref D) H2) ∨ (J.go i H2 ∧ ys.length < sizeLine ∧
    ∀ x H', J.yld i H2 x H' → g x σ0 H' fun σ2 H3 => σ2.drop k = cs ∧ te σ2 H3 fun y H4 => H4 D = some (.lst ys) ∧ ∃ m', m' < m ∧ W (i + 1) m' (ys ++ [y]) (upd H4 D (.lst (ys ++ [y])))))
def tCompC (is : List Nat) (k : Nat) (wi : TI) (g : TG) (te : TE) : TE := fun σ H Q => ∃ vs : List V, is.map (fun i => σ[i]?) = vs.map (fun v => some (some v)) ∧ wi σ H (compKC (List.replicate k none ++ vs.map some) k (vs.map some) g te Q)
section
variable {X : Cx} {elt tg iter cnd : Expr} {scope : Scope} {pos : Pos} {N' : List Str} {wi : TI} {g : TG} {te : TE} {tt : TT}
theorem pe_compC (xs caps : List Str) (is : List Nat) (k : Nat) (hclos : closureFor scope X.env = pure (clo X.env xs)) (hin : (xs.all fun x => (X.env.cells.lookup x).isSome) = true) (hcap : CapsOk X.env scope xs caps) (his : is.map (X.N[·]?) = caps.map some) (hN : N'.drop k = caps) (hk : k ≤ N'.length)
    (hallB : ((relabel scope X.env).names.all fun y => !(y.2 == .cell || y.2 == .free) || xs.contains y.1) = true) (hcell : ∀ y ∈ scope.names, y.2 ≠ .cell) (hkind : scope.kind = .function) (hnames : ∀ y ∈ scope.names, y.2 = .local → scope.names.lookup y.1 = some .local)
    (hcalm : X.calm = true) (hi : PI X tg iter wi) (hg : ∀ C s0 H0 fp pins, PG (cxCompC X N' scope xs C s0 H0 fp pins) tg g) (he : ∀ C s0 H0 fp pins, PE (cxCompC X N' scope xs C s0 H0 fp pins) elt te)
    (hs : ∀ x, foldedSetIterable iter X.env x = pure x := by intro _; rfl) : PE X (.ListComp elt [⟨tg, iter, [], 0⟩] scope pos) (tCompC is k wi g te) := by
  intro pins s σ H Q I h
  have hall := all_of hallB
  obtain ⟨vs, hvs, h⟩ := h
  rw [eval_ListComp]
  refine wpAny_comprehension_free (use := none) rfl hs hclos hkind hnames (thn (hi pins s σ H _ I h) fun v s1 h1 => thn h1 fun itv s2 h2 => ?_)
  obtain ⟨it, fp, tn, J, H2, e, I2, T, st2, f2, hW⟩ := h2
  subst e
  refine wpAny_newObj_type (wpAny_newFunctionEnv hcell (by intro y hy; simp at hy) (fun h₁ hns₁ hsb₁ => ?_) hkind)
  dsimp only at hns₁ hsb₁ ⊢
  generalize hH2 : s2.heap.push { cls := .type "list", dict := none, data := .seq ([] : List Value).toArray } = P2 at hns₁ hsb₁ ⊢
  have hC : P2.objs.size = s2.heap.objs.size + 1 := by rw [← hH2, Heap.size_push]
  have below : ∀ b, b < s2.heap.objs.size → b ≠ P2.objs.size ∧ b ≠ s2.heap.objs.size := fun b hb => ⟨by rw [hC]; exact Nat.ne_of_lt (Nat.lt_succ_of_lt hb), Nat.ne_of_lt hb⟩
  have hDC : s2.heap.objs.size ≠ P2.objs.size := by rw [hC]; exact Nat.ne_of_lt (Nat.lt_succ_self _)
  have old : ∀ b o, s2.heap.get? b = some o → h₁.get? b = some o := fun b o e => hsb₁.extBut b o (below b (Heap.lt_size e)).1 (Heap.get?_push_of_some _ (hH2 ▸ Heap.get?_push_of_some _ e))
  have hD : h₁.get? s2.heap.objs.size = some { cls := .type "list", dict := none, data := .seq ([] : List Value).toArray } := hsb₁.extBut _ _ hDC (Heap.get?_push_of_some _ (hH2 ▸ Heap.get?_push_size _ rfl))
  have frD : H2 s2.heap.objs.size = none := I2.hok.fresh (Nat.le_refl _)
  have frC : H2 P2.objs.size = none := I2.hok.fresh (by rw [hC]; exact Nat.le_succ _)
  have hfp : ∀ b ∈ fp, b < s2.heap.objs.size := fun b hb => by
    obtain ⟨o, e, _⟩ := T.obj _ _ st2 b hb
    exact Heap.lt_size e
  have nst : ∀ b, b ≠ X.env.locals → b ∉ X.fs → b ∉ frs X.stack := fun b n1 n2 z => by
    rcases List.mem_cons.mp (I2.stkSub b z) with e | e
    · exact n1 e
    · exact n2 e
  obtain ⟨W, ⟨m0, w0⟩, turn⟩ := hW s2.heap.objs.size frD
  have csub : ∀ (x : Str) (c : Addr), (clo X.env xs).lookup x = some c → X.env.cells.lookup x = some c := fun x c e => clo_sub hin e
  have cold : ∀ (x : Str) (c : Addr), (clo X.env xs).lookup x = some c → ∃ v, s2.heap.IsCell c v := fun x c e => I2.cell x c (csub x c e)
  have clt : ∀ (x : Str) (c : Addr), (clo X.env xs).lookup x = some c → c < s2.heap.objs.size := fun x c e => by
    obtain ⟨v, o, ho, _⟩ := cold x c e
    exact Heap.lt_size ho
  have ok' : (cxCompC X N' scope xs P2.objs.size s2 H2 fp pins).Ok := by
    refine ⟨I2.ok.mod, hkind, I2.ok.glob, I2.ok.blt, ?_, fun x y c e e' => I2.ok.inj x y c (csub x c e) (csub y c e'), fun x hx => ?_, (fun x c z _ => by cases z), I2.ok.hd, I2.ok.frames, .inl rfl, fun b hb => ⟨(below b (hfp b hb)).1, fun x c e => (f2 b hb).2.2.2.2.1 x c (csub x c e)⟩, I2.bs, Nat.le_trans I2.ok.bsz I2.sz, fun b o e hb => ?_, fun b hb => nst b (f2 b hb).2.1 (f2 b hb).2.2.1, I2.stack, I2.stkFree⟩
    · show s2.heap.objs.size ≤ P2.objs.size
      rw [hC]; exact Nat.le_succ _
    · have hx' : (relabel scope X.env).names.lookup x = some .cell ∨ (relabel scope X.env).names.lookup x = some .free := hx
      rcases hx' with z | z
      · exact clo_has (hall _ (PySem.mem_of_lookup z) (.inl rfl))
      · exact clo_has (hall _ (PySem.mem_of_lookup z) (.inr rfl))
    · rcases (f2 b hb).2.2.2.1 with z | z
      · exact I2.ok.noex b o e z
      · exact absurd (Nat.lt_of_lt_of_le (Heap.lt_size (I2.ok.bs b o e).1) z) (Nat.lt_irrefl _)
  have I' : Inv (cxCompC X N' scope xs P2.objs.size s2 H2 fp pins) [] (List.replicate k none ++ vs.map some) (upd H2 s2.heap.objs.size (.lst [])) { s2 with heap := h₁, toks := s2.toks + ([] : List (Str × Value)).length } := by
    refine ⟨ok', rfl, I2.bare, Un.laid old (Nat.le_refl _) frD, ⟨_, hns₁, fun i x v e1 e2 e3 => ?_⟩, fun x c e => ?_, ?_, fun x c e => ?_, fun p hp => ?_, I2.hok.laid old (Nat.le_refl _) ⟨by simp, [], 0, .nil, hD⟩, ?_⟩
    · obtain ⟨j, ej, hj1, hj2⟩ := caps_at hvs his hN e1 e2
      obtain ⟨hc1, hc2, hc3⟩ := hcap x hj1
      obtain ⟨m, hn, hl⟩ := I2.loc
      obtain ⟨u, r, l⟩ := hl j x v ej hj2 (.inr (.inl hc1))
      refine ⟨u, r, .inr ⟨.inl hc2, ?_⟩⟩
      rcases l with ⟨z, _⟩ | ⟨_, c, ec, ⟨o, ho, hd⟩⟩
      · rw [show X.env.kindOf x = some .cell from hc1] at z; cases z
      · exact ⟨c, clo_of hc3 ec, o, old _ _ ho, hd⟩
    · obtain ⟨v, o, ho, hd⟩ := cold x c e
      exact ⟨v, o, old _ _ ho, hd⟩
    · show upd H2 s2.heap.objs.size (.lst []) P2.objs.size = none
      rw [upd_ne (Ne.symm hDC)]; exact frC
    · show upd H2 s2.heap.objs.size (.lst []) c = none
      rw [upd_ne (below _ (clt x c e)).2]; exact I2.freeC x c (csub x c e)
    · have hp' : p ∈ X.pn ++ pins := by
        rcases List.mem_append.mp hp with z | z
        · exact z
        · cases z
      obtain ⟨a1, a2, a3, a4, a5⟩ := I2.pin p hp'
      refine ⟨old _ _ a1, ?_, (below _ (Heap.lt_size a1)).1, nst _ a3 a4, a5⟩
      rw [upd_ne (below _ (Heap.lt_size a1)).2]; exact a2
    · show (List.replicate k none ++ vs.map some).length = N'.length
      exact caps_len hvs his hN hk
  have stat : ∀ {H' : Hp}, (∀ b ∈ fp, H' b = none) → ∀ b ∈ fp, FpOk (cxCompC X N' scope xs P2.objs.size s2 H2 fp pins) [] H' b := fun {H'} hn b hb =>
    ⟨hn b hb, (below b (hfp b hb)).1, nst b (f2 b hb).2.1 (f2 b hb).2.2.1, .inl hb, fun x c e => (f2 b hb).2.2.2.2.1 x c (csub x c e), fun p hp => (f2 b hb).2.2.2.2.2 p (by
      rcases List.mem_append.mp hp with z | z
      · exact z
      · cases z)⟩
  have fin : ∀ (ys : List V) (σ' : St) (H' : Hp) (s' : Shared), Inv (cxCompC X N' scope xs P2.objs.size s2 H2 fp pins) [] σ' H' s' → Q (.ref s2.heap.objs.size) H' →
      ∃ m, s'.heap.Ns P2.objs.size m ∧ ∀ h', Heap.SameBut P2.objs.size s'.heap h' → EP X pins σ Q (.ref s2.heap.objs.size) { s' with heap := h' } := by
    intro ys σ' H' s' J1 q
    obtain ⟨m, hm, _⟩ := id J1.loc
    refine ⟨m, hm, fun h' sb => ⟨.ref s2.heap.objs.size, H', ?_, rfl, q⟩⟩
    have ne : ∀ b o, s2.heap.get? b = some o → b ≠ P2.objs.size := fun b o e => (below b (Heap.lt_size e)).1
    refine I2.call' (s' := { s' with heap := h' }) (ch := fp) J1.os ⟨fun b o e n hb hx => ?_, fun b o e n hb hx => ?_, fun b o e n hx => J1.base.free b o e n hx, fun b o e hx => ?_, J1.base.tups, J1.base.frzs, J1.base.tbls⟩ (J1.hok.but J1.free fun b u hb q => (sb.2 b hb).trans q) J1.bare fun b hb => ⟨(f2 b hb).2.2.2.1, (f2 b hb).2.1, (f2 b hb).2.2.2.2.1, (f2 b hb).2.2.2.2.2⟩
    · exact (sb.2 b (ne b o e)).trans (J1.base.keep b o e n hb hx)
    · obtain ⟨sl, z⟩ := J1.base.slot b o e n hb hx
      exact ⟨sl, (sb.2 b (ne b o e)).trans z⟩
    · obtain ⟨o', z⟩ := J1.base.there b o e hx
      exact ⟨o', (sb.2 b (ne b o e)).trans z⟩
  have loop : codeAny (model X.prog X.w) X.A (.compLoop (.ListComp elt [⟨tg, iter, [], 0⟩] scope pos) 0 (.ref it) (.ref s2.heap.objs.size) (compEnvC scope (clo X.env xs) P2.objs.size X.env))
      (compPost (model X.prog X.w) X.A X.xe none (EP X pins σ Q) (.ref s2.heap.objs.size) P2.objs.size)
      { s2 with heap := h₁, toks := s2.toks + ([] : List (Str × Value)).length } := by
    refine compLoop_go (fun n s' => ∃ i ys σ' H', σ'.drop k = vs.map some ∧ Inv (cxCompC X N' scope xs P2.objs.size s2 H2 fp pins) [] σ' H' s' ∧ tn i s'.heap ∧ (∀ b ∈ fp, H' b = none) ∧ W i n ys H') ?_ m0
      ⟨0, [], List.replicate k none ++ vs.map some, _, by simp, I', T.keep _ _ _ st2 (fun b hb o e => old b o e), fun b hb => by rw [upd_ne (below b (hfp b hb)).2]; exact (f2 b hb).1, w0⟩
    rintro n s3 ⟨i, ys, σ3, H3, hd3, J3, st3, fr3, w3⟩
    obtain ⟨hl, q3⟩ := turn i n ys H3 w3
    rcases q3 with ⟨stop, q⟩ | ⟨go, hlt, step⟩
    · refine thn (T.done (cxCompC X N' scope xs P2.objs.size s2 H2 fp pins) rfl rfl rfl hcalm i [] s3 σ3 H3 _ J3 (stat fr3) st3 stop) fun r s4 ⟨hr, J4⟩ => ?_
      subst hr
      exact fin ys σ3 H3 s4 J4 q
    · refine thn (T.item (cxCompC X N' scope xs P2.objs.size s2 H2 fp pins) rfl rfl rfl hcalm i [] s3 σ3 H3 _ J3 (stat fr3) st3 go) fun r s4 ⟨u, hr, h4⟩ => ?_
      subst hr
      refine thn h4 fun _ s5 ⟨x, H5, J5, r5, y5, st5, fr5⟩ => ?_
      have J5' := J5.pinned (stat fr5) (T.obj _ _ st5)
      have J6 : Inv (cxCompC X N' scope xs P2.objs.size s2 H2 fp pins) ([] ++ pinsAt fp s5.heap) (List.replicate k none ++ vs.map some) H5 s5 := J5'.weak (by rw [J5'.len]; exact caps_len hvs his hN hk) (caps_keep hd3)
      refine wpAny_mono (hg _ _ _ _ _ _ s5 _ H5 x u _ J6 r5 (step x H5 y5)) (fun _ s6 ⟨σ6, H6, J7, hd6, q6⟩ => ?_) fun _ _ z => False.elim z
      refine wpAny_mono (he _ _ _ _ _ _ s6 σ6 H6 _ J7 q6) (fun yv s7 ⟨y, H7, J8, r7, q7⟩ => ?_) fun _ _ z => False.elim z
      obtain ⟨hl7, m', hm', w7⟩ := q7
      refine wpAny_mono (mt_append (X := cxCompC X N' scope xs P2.objs.size s2 H2 fp pins) _ s7 σ6 H7 (.ref s2.heap.objs.size) [y] (.ref s2.heap.objs.size) [yv] (fun v H8 => H8 = upd H7 s2.heap.objs.size (.lst (ys ++ [y]))) J8 rfl (.cons r7 .nil) ⟨_, ys, y, rfl, rfl, hl7, hlt, rfl⟩) (fun _ s8 ⟨v8, H8, J9, r8, e8⟩ => ?_) fun _ _ z => False.elim z
      subst e8
      have pk : ∀ b ∈ fp, ∀ o, s5.heap.get? b = some o → s8.heap.get? b = some o ∧ upd H7 s2.heap.objs.size (.lst (ys ++ [y])) b = none := fun b hb o e =>
        let z := J9.pin (b, o) (List.mem_append_right _ (List.mem_append_right _ (mem_pinsAt hb e)))
        ⟨z.1, z.2.1⟩
      refine ⟨m', hm', i + 1, ys ++ [y], σ6, _, hd6, J9.unpinned, T.keep _ _ _ st5 fun b hb o e => (pk b hb o e).1, fun b hb => ?_, w7⟩
      obtain ⟨o, e, _⟩ := T.obj _ _ st5 b hb
      exact (pk b hb o e).2
  exact codeAny_compStart_list loop (T.self X.A 0 { s2 with heap := h₁, toks := s2.toks + ([] : List (Str × Value)).length } _ _ (T.keep _ _ _ st2 fun b hb o e => old b o e) loop)
end
end L2

namespace L2
open PySem PySem.Spec PyProof.Rows

section
variable {X : Cx}
end
mutual
inductive Dat (H : Hp) : V → PyData → Prop
  | non : Dat H .non .none
  | bl (b : Bool) : Dat H (.bl b) (.bool b)
  | int (i : Int) : Dat H (.int i) (.int i)
  | str (x : Str) : Dat H (.str x) (.str x)
  | lst {a : Addr} {xs : List V} {ds : List PyData} : H a = some (.lst xs) → Dats H xs ds → Dat H (.ref a) (.list ds)
  | tup {a : Addr} {xs : List V} {ds : List PyData} : H a = some (.tup xs) → Dats H xs ds → Dat H (.ref a) (.tuple ds)
inductive Dats (H : Hp) : List V → List PyData → Prop
  | nil : Dats H [] []
  | cons {x : V} {xs : List V} {d : PyData} {ds : List PyData} : Dat H x d → Dats H xs ds → Dats H (x :: xs) (d :: ds)
end
section
variable {P : Program} {w : World} {H : Hp} {h : Heap}
mutual
theorem Dat.reads (ok : HOk P w H h) : ∀ {x : V} {d : PyData} {u : Value}, Dat H x d → RelV x u → ∃ as, Reads h u d as
  | _, _, u, .non, r => by cases (show u = Value.none from r); exact ⟨_, .none⟩
  | _, _, u, .bl b, r => by cases (show u = Value.bool b from r); exact ⟨_, .bool b⟩
  | _, _, u, .int i, r => by obtain ⟨t, rfl⟩ := r; exact ⟨_, .int i t⟩
  | _, _, u, .str x, r => by obtain ⟨t, rfl⟩ := r; exact ⟨_, .str x t⟩
  | _, _, u, .lst (a := a) e q, r => by
    cases (show u = Value.ref a from r)
    obtain ⟨_, its, n, rv, g⟩ := ok a _ e
    obtain ⟨as, rs⟩ := Dats.reads ok q rv
    exact ⟨_, .list g rfl rfl rs⟩
  | _, _, u, .tup (a := a) e q, r => by
    cases (show u = Value.ref a from r)
    obtain ⟨_, its, rv, o, g, c, n, dd⟩ := ok a _ e
    obtain ⟨as, rs⟩ := Dats.reads ok q rv
    exact ⟨_, .tuple g c dd rs⟩
theorem Dats.reads (ok : HOk P w H h) : ∀ {xs : List V} {ds : List PyData} {us : List Value}, Dats H xs ds → Vals xs us → ∃ as, ReadsAll h us ds as
  | _, _, _, .nil, .nil => ⟨_, .nil⟩
  | _, _, _, .cons p q, .cons r s => by
    obtain ⟨as, x⟩ := Dat.reads ok p r
    obtain ⟨bs, y⟩ := Dats.reads ok q s
    exact ⟨_, .cons x y⟩
end
end
def rEqD (neg : Bool) : R2 := fun x y H Q => ∃ d1 d2, Dat H x d1 ∧ Dat H y d2 ∧ SeqAt.shaped d1 = true ∧ SeqAt.shaped d2 = true ∧ Q (.bl (if neg then !PyData.eqv d1 d2 else PyData.eqv d1 d2)) H
section
variable {X : Cx}
theorem op_eqD {k : Nat} (hr : Room k X.A) : OpR X (compareOp .Eq) (rEqD false) := by
  intro pins s σ H x y v u Q I rx ry h
  obtain ⟨d1, d2, p, q, s1, s2, h⟩ := h
  obtain ⟨as, r1⟩ := p.reads I.hok rx
  obtain ⟨bs, r2⟩ := q.reads I.hok ry
  exact eq_dataH r1 r2 s1 s2 hr.units ⟨.bl _, H, I, rfl, h⟩
theorem op_neD {k : Nat} (hr : Room k X.A) : OpR X (compareOp .NotEq) (rEqD true) := by
  intro pins s σ H x y v u Q I rx ry h
  obtain ⟨d1, d2, p, q, s1, s2, h⟩ := h
  obtain ⟨as, r1⟩ := p.reads I.hok rx
  obtain ⟨bs, r2⟩ := q.reads I.hok ry
  exact ne_dataH r1 r2 s1 s2 hr.units ⟨.bl _, H, I, rfl, h⟩
end
end L2

namespace L2
open PySem PySem.Spec PyProof.Rows
section
variable {X : Cx}
end
section
variable {X : Cx} {K : PySem.W.Frag}

end

section
variable {K : PySem.W.Frag} {σ0 cs : St} {k : Nat} {g : TG} {te : TE} {tt : TT} {H1 : Hp} {Q : VK}
theorem compC_by {J : It} (n : Nat) (gv : Nat → V → Prop) (Pv : Addr → Nat → List V → Hp → Prop) (hn : n ≤ sizeLine)
    (hgo : ∀ D i ys H, i < n → Pv D i ys H → J.go i H) (hst : ∀ D ys H, Pv D n ys H → J.stop n H) (hy : ∀ D i ys H x H', i < n → Pv D i ys H → J.yld i H x H' → H' = H ∧ gv i x)
    (hl : ∀ D i ys H, Pv D i ys H → H D = some (.lst ys) ∧ ys.length ≤ i) (h0 : ∀ D, H1 D = none → Pv D 0 [] (upd H1 D (.lst [])))
    (hs : ∀ D i x ys H, i < n → gv i x → H1 D = none → Pv D i ys H → g x σ0 H fun σ2 H3 => σ2.drop k = cs ∧ te σ2 H3 fun y H4 => H4 D = some (.lst ys) ∧ Pv D (i + 1) (ys ++ [y]) (upd H4 D (.lst (ys ++ [y]))))
    (hd : ∀ D ys H, H1 D = none → Pv D n ys H → Q (.ref D) H) (mono : ∀ x σ H (R R' : St → Hp → Prop), (∀ σ' H', R σ' H' → R' σ' H') → g x σ H R → g x σ H R')
    (mono2 : ∀ σ H (R R' : VK), (∀ v H', R v H' → R' v H') → te σ H R → te σ H R') : compKC σ0 k cs g te Q J H1 := by
  intro D hD
  refine ⟨fun i m ys H => m = n - i ∧ i ≤ n ∧ Pv D i ys H, ⟨n, rfl, Nat.zero_le _, h0 D hD⟩, ?_⟩
  rintro i m ys H ⟨rfl, hi, p⟩
  obtain ⟨e1, e2⟩ := hl D i ys H p
  refine ⟨e1, ?_⟩
  by_cases hlt : i < n
  · refine .inr ⟨hgo D i ys H hlt p, by omega, fun x H' y => ?_⟩
    obtain ⟨rfl, hx⟩ := hy D i ys H x H' hlt p y
    refine mono _ _ _ _ _ (fun σ2 H3 ⟨z1, z2⟩ => ⟨z1, mono2 _ _ _ _ (fun v H4 ⟨z3, z4⟩ => ⟨z3, n - (i + 1), by omega, rfl, hlt, z4⟩) z2⟩) (hs D i x ys H' hlt hx hD p)
  · have e : i = n := by omega
    subst e
    exact .inl ⟨hst D ys H p, hd D ys H hD p⟩
theorem compC_tup {a : Addr} (xs : List V) (Pv : Addr → Nat → List V → Hp → Prop) (hn : xs.length ≤ sizeLine) (hq : ∀ D i ys H, Pv D i ys H → SqT K H a xs)
    (hl : ∀ D i ys H, Pv D i ys H → H D = some (.lst ys) ∧ ys.length ≤ i) (h0 : ∀ D, H1 D = none → Pv D 0 [] (upd H1 D (.lst [])))
    (hs : ∀ D i x ys H, xs[i]? = some x → H1 D = none → Pv D i ys H → g x σ0 H fun σ2 H3 => σ2.drop k = cs ∧ te σ2 H3 fun y H4 => H4 D = some (.lst ys) ∧ Pv D (i + 1) (ys ++ [y]) (upd H4 D (.lst (ys ++ [y]))))
    (hd : ∀ D ys H, H1 D = none → Pv D xs.length ys H → Q (.ref D) H) (mono : ∀ x σ H (R R' : St → Hp → Prop), (∀ σ' H', R σ' H' → R' σ' H') → g x σ H R → g x σ H R')
    (mono2 : ∀ σ H (R R' : VK), (∀ v H', R v H' → R' v H') → te σ H R → te σ H R') : compKC σ0 k cs g te Q (Itt K a) H1 :=
  compC_by xs.length (fun i x => xs[i]? = some x) Pv hn (fun D i ys H hi p => ⟨xs, xs[i], hq D i ys H p, by simp [hi]⟩) (fun D ys H p => ⟨xs, hq D _ ys H p, Nat.le_refl _⟩)
    (fun D i ys H x H' hi p y => ⟨y.1, y.2 xs (hq D i ys H p)⟩) hl h0 (fun D i x ys H hi hx hD p => hs D i x ys H hx hD p) hd mono mono2
end
inductive Tr where
  | col (i : Int)
  | four (a b c d : Tr)
deriving DecidableEq
def Tr.data : Tr → PyData
  | .col i => .int i
  | .four a b c d => .tuple [a.data, b.data, c.data, d.data]
def Tr.deep : Tr → Nat
  | .col _ => 0
  | .four a b c d => max a.deep (max b.deep (max c.deep d.deep)) + 1
def Tr.isCol : Tr → Bool
  | .col _ => true
  | .four .. => false
inductive TrAt (H : Hp) : V → Tr → Prop
  | col (i : Int) : TrAt H (.int i) (.col i)
  | four {p : Addr} {a b c d : V} {ta tb tc td : Tr} : H p = some (.tup [a, b, c, d]) → TrAt H a ta → TrAt H b tb → TrAt H c tc → TrAt H d td → TrAt H (.ref p) (.four ta tb tc td)

def Tups (H H' : Hp) : Prop := ∀ b xs, H b = some (.tup xs) → H' b = some (.tup xs)
theorem Same.tups {H H' : Hp} (s : Same H H') : Tups H H' := fun b xs e => s b _ e
theorem Tups.trans {H H' H'' : Hp} (s : Tups H H') (t : Tups H' H'') : Tups H H'' := fun b xs e => t b xs (s b xs e)
theorem Tups.lst {H : Hp} {l : Addr} {xs ys : List V} (e : H l = some (.lst xs)) : Tups H (upd H l (.lst ys)) := fun b zs q => by
  rw [upd_ne (ne_of q e (by intro z; cases z))]; exact q
theorem TrAt.up {H H' : Hp} (s : Tups H H') : ∀ {v : V} {t : Tr}, TrAt H v t → TrAt H' v t
  | _, _, .col i => .col i
  | _, _, .four e a b c d => .four (s _ _ e) (TrAt.up s a) (TrAt.up s b) (TrAt.up s c) (TrAt.up s d)
theorem TrAt.dat {H : Hp} : ∀ {v : V} {t : Tr}, TrAt H v t → Dat H v t.data
  | _, _, .col i => .int i
  | _, _, .four e a b c d => .tup e (.cons a.dat (.cons b.dat (.cons c.dat (.cons d.dat .nil))))
theorem Tr.eqv : ∀ t u : Tr, PyData.eqv t.data u.data = decide (t = u)
  | .col i, .col j => by
    show (i == j) = _
    by_cases h : i = j <;> simp [h]
  | .col i, .four .. => by
    show false = _
    simp
  | .four .., .col j => by
    show false = _
    simp
  | .four a b c d, .four a' b' c' d' => by
    show (PyData.eqv a.data a'.data && (PyData.eqv b.data b'.data && (PyData.eqv c.data c'.data && (PyData.eqv d.data d'.data && true)))) = _
    rw [Tr.eqv a a', Tr.eqv b b', Tr.eqv c c', Tr.eqv d d']
    by_cases h1 : a = a' <;> by_cases h2 : b = b' <;> by_cases h3 : c = c' <;> by_cases h4 : d = d' <;> simp [h1, h2, h3, h4]
theorem Tr.lay : ∀ t : Tr, t.data.canLay0 = true
  | .col i => rfl
  | .four a b c d => by
    show (a.data.canLay0 && (b.data.canLay0 && (c.data.canLay0 && (d.data.canLay0 && true)))) = true
    rw [Tr.lay a, Tr.lay b, Tr.lay c, Tr.lay d]; rfl
theorem Tr.depth : ∀ t : Tr, t.data.depth = t.deep
  | .col i => rfl
  | .four a b c d => by
    show max a.data.depth (max b.data.depth (max c.data.depth (max d.data.depth 0))) + 1 = _
    rw [Tr.depth a, Tr.depth b, Tr.depth c, Tr.depth d, Nat.max_zero]; rfl
theorem Tr.shaped {t : Tr} (h : t.deep ≤ 64) : SeqAt.shaped t.data = true := by
  unfold SeqAt.shaped
  rw [Tr.lay, Tr.depth, decide_eq_true h]; rfl
end L2

namespace L2
open PySem PySem.Spec PyProof.Rows

section
variable {X : Cx} {elt tg iter cnd : Expr} {scope : Scope} {pos : Pos} {N' : List Str} {wi : TI} {g : TG} {te : TE} {tt : TT}
theorem ps_setC {y : Str} {py spos : Pos} {i0 : Nat} (xs caps : List Str) (is : List Nat) (k : Nat) (hclos : closureFor scope X.env = pure (clo X.env xs)) (hin : (xs.all fun x => (X.env.cells.lookup x).isSome) = true) (hcap : CapsOk X.env scope xs caps) (his : is.map (X.N[·]?) = caps.map some) (hN : N'.drop k = caps) (hk : k ≤ N'.length)
    (hallB : ((relabel scope X.env).names.all fun y => !(y.2 == .cell || y.2 == .free) || xs.contains y.1) = true) (hcell : ∀ y ∈ scope.names, y.2 ≠ .cell) (hkind : scope.kind = .function) (hnames : ∀ y ∈ scope.names, y.2 = .local → scope.names.lookup y.1 = some .local)
    (hcalm : X.calm = true) (hi : PI X tg iter wi) (hg : ∀ C s0 H0 fp pins, PG (cxCompC X N' scope xs C s0 H0 fp pins) tg g) (he : ∀ C s0 H0 fp pins, PE (cxCompC X N' scope xs C s0 H0 fp pins) elt te)
    (hNd : X.N.Nodup) (hi0 : X.N[i0]? = some y) (hy : Loc X.env.scope y) (hsw : swapsWith (.ListComp elt [⟨tg, iter, [], 0⟩] scope pos) (some (.Name y py)) spos.line X.env = pure true := by rfl) (hf : X.fn y = true ∨ X.env.scope.names.lookup y = some .local := by first | exact .inl rfl | exact .inr rfl | assumption)
    (hs : ∀ x, foldedSetIterable iter X.env x = pure x := by intro _; rfl) : PS X (.Assign [.Name y py] (.ListComp elt [⟨tg, iter, [], 0⟩] scope pos) spos) (tAsg (tCompC is k wi g te) (gName i0)) := by
  intro pins s σ H D0 I h
  have hall := all_of hallB
  obtain ⟨vs, hvs, h⟩ := h
  rw [exec_Assign_Name_used _ _ _ _ hsw]
  refine wpAny_bind (wpAny_standAt (wpAny_bind ?_))
  show wpAny _ X.A (do let _ ← comprehension (.ListComp elt [⟨tg, iter, [], 0⟩] scope pos) scope X.env _ (newList []) false (eval iter X.env) (some (assign (.Name y py) X.env))) _ _ s
  refine wpAny_bind (wpAny_mono (wpAny_comprehension_free (use := some (assign (.Name y py) X.env)) (Q := fun _ s' => SP X pins D0 .next s') rfl hs hclos hkind hnames (thn (hi pins s σ H _ I h) fun v s1 h1 => thn h1 fun itv s2 h2 => ?_)) (fun _ s' hq => wpAny_pure (wpAny_pure hq)) fun _ _ e => e)
  obtain ⟨it, fp, tn, J, H2, e, I2, T, st2, f2, hW⟩ := h2
  subst e
  refine wpAny_newObj_type (wpAny_newFunctionEnv hcell (by intro y hy; simp at hy) (fun h₁ hns₁ hsb₁ => ?_) hkind)
  dsimp only at hns₁ hsb₁ ⊢
  generalize hH2 : s2.heap.push { cls := .type "list", dict := none, data := .seq ([] : List Value).toArray } = P2 at hns₁ hsb₁ ⊢
  have hC : P2.objs.size = s2.heap.objs.size + 1 := by rw [← hH2, Heap.size_push]
  have below : ∀ b, b < s2.heap.objs.size → b ≠ P2.objs.size ∧ b ≠ s2.heap.objs.size := fun b hb => ⟨by rw [hC]; exact Nat.ne_of_lt (Nat.lt_succ_of_lt hb), Nat.ne_of_lt hb⟩
  have hDC : s2.heap.objs.size ≠ P2.objs.size := by rw [hC]; exact Nat.ne_of_lt (Nat.lt_succ_self _)
  have old : ∀ b o, s2.heap.get? b = some o → h₁.get? b = some o := fun b o e => hsb₁.extBut b o (below b (Heap.lt_size e)).1 (Heap.get?_push_of_some _ (hH2 ▸ Heap.get?_push_of_some _ e))
  have hD : h₁.get? s2.heap.objs.size = some { cls := .type "list", dict := none, data := .seq ([] : List Value).toArray } := hsb₁.extBut _ _ hDC (Heap.get?_push_of_some _ (hH2 ▸ Heap.get?_push_size _ rfl))
  have frD : H2 s2.heap.objs.size = none := I2.hok.fresh (Nat.le_refl _)
  have frC : H2 P2.objs.size = none := I2.hok.fresh (by rw [hC]; exact Nat.le_succ _)
  have hfp : ∀ b ∈ fp, b < s2.heap.objs.size := fun b hb => by
    obtain ⟨o, e, _⟩ := T.obj _ _ st2 b hb
    exact Heap.lt_size e
  have nst : ∀ b, b ≠ X.env.locals → b ∉ X.fs → b ∉ frs X.stack := fun b n1 n2 z => by
    rcases List.mem_cons.mp (I2.stkSub b z) with e | e
    · exact n1 e
    · exact n2 e
  obtain ⟨W, ⟨m0, w0⟩, turn⟩ := hW s2.heap.objs.size frD
  have csub : ∀ (x : Str) (c : Addr), (clo X.env xs).lookup x = some c → X.env.cells.lookup x = some c := fun x c e => clo_sub hin e
  have cold : ∀ (x : Str) (c : Addr), (clo X.env xs).lookup x = some c → ∃ v, s2.heap.IsCell c v := fun x c e => I2.cell x c (csub x c e)
  have clt : ∀ (x : Str) (c : Addr), (clo X.env xs).lookup x = some c → c < s2.heap.objs.size := fun x c e => by
    obtain ⟨v, o, ho, _⟩ := cold x c e
    exact Heap.lt_size ho
  have ok' : (cxCompC X N' scope xs P2.objs.size s2 H2 fp pins).Ok := by
    refine ⟨I2.ok.mod, hkind, I2.ok.glob, I2.ok.blt, ?_, fun x y c e e' => I2.ok.inj x y c (csub x c e) (csub y c e'), fun x hx => ?_, (fun x c z _ => by cases z), I2.ok.hd, I2.ok.frames, .inl rfl, fun b hb => ⟨(below b (hfp b hb)).1, fun x c e => (f2 b hb).2.2.2.2.1 x c (csub x c e)⟩, I2.bs, Nat.le_trans I2.ok.bsz I2.sz, fun b o e hb => ?_, fun b hb => nst b (f2 b hb).2.1 (f2 b hb).2.2.1, I2.stack, I2.stkFree⟩
    · show s2.heap.objs.size ≤ P2.objs.size
      rw [hC]; exact Nat.le_succ _
    · have hx' : (relabel scope X.env).names.lookup x = some .cell ∨ (relabel scope X.env).names.lookup x = some .free := hx
      rcases hx' with z | z
      · exact clo_has (hall _ (PySem.mem_of_lookup z) (.inl rfl))
      · exact clo_has (hall _ (PySem.mem_of_lookup z) (.inr rfl))
    · rcases (f2 b hb).2.2.2.1 with z | z
      · exact I2.ok.noex b o e z
      · exact absurd (Nat.lt_of_lt_of_le (Heap.lt_size (I2.ok.bs b o e).1) z) (Nat.lt_irrefl _)
  have I' : Inv (cxCompC X N' scope xs P2.objs.size s2 H2 fp pins) [] (List.replicate k none ++ vs.map some) (upd H2 s2.heap.objs.size (.lst [])) { s2 with heap := h₁, toks := s2.toks + ([] : List (Str × Value)).length } := by
    refine ⟨ok', rfl, I2.bare, Un.laid old (Nat.le_refl _) frD, ⟨_, hns₁, fun i x v e1 e2 e3 => ?_⟩, fun x c e => ?_, ?_, fun x c e => ?_, fun p hp => ?_, I2.hok.laid old (Nat.le_refl _) ⟨by simp, [], 0, .nil, hD⟩, ?_⟩
    · obtain ⟨j, ej, hj1, hj2⟩ := caps_at hvs his hN e1 e2
      obtain ⟨hc1, hc2, hc3⟩ := hcap x hj1
      obtain ⟨m, hn, hl⟩ := I2.loc
      obtain ⟨u, r, l⟩ := hl j x v ej hj2 (.inr (.inl hc1))
      refine ⟨u, r, .inr ⟨.inl hc2, ?_⟩⟩
      rcases l with ⟨z, _⟩ | ⟨_, c, ec, ⟨o, ho, hd⟩⟩
      · rw [show X.env.kindOf x = some .cell from hc1] at z; cases z
      · exact ⟨c, clo_of hc3 ec, o, old _ _ ho, hd⟩
    · obtain ⟨v, o, ho, hd⟩ := cold x c e
      exact ⟨v, o, old _ _ ho, hd⟩
    · show upd H2 s2.heap.objs.size (.lst []) P2.objs.size = none
      rw [upd_ne (Ne.symm hDC)]; exact frC
    · show upd H2 s2.heap.objs.size (.lst []) c = none
      rw [upd_ne (below _ (clt x c e)).2]; exact I2.freeC x c (csub x c e)
    · have hp' : p ∈ X.pn ++ pins := by
        rcases List.mem_append.mp hp with z | z
        · exact z
        · cases z
      obtain ⟨a1, a2, a3, a4, a5⟩ := I2.pin p hp'
      refine ⟨old _ _ a1, ?_, (below _ (Heap.lt_size a1)).1, nst _ a3 a4, a5⟩
      rw [upd_ne (below _ (Heap.lt_size a1)).2]; exact a2
    · show (List.replicate k none ++ vs.map some).length = N'.length
      exact caps_len hvs his hN hk
  have stat : ∀ {H' : Hp}, (∀ b ∈ fp, H' b = none) → ∀ b ∈ fp, FpOk (cxCompC X N' scope xs P2.objs.size s2 H2 fp pins) [] H' b := fun {H'} hn b hb =>
    ⟨hn b hb, (below b (hfp b hb)).1, nst b (f2 b hb).2.1 (f2 b hb).2.2.1, .inl hb, fun x c e => (f2 b hb).2.2.2.2.1 x c (csub x c e), fun p hp => (f2 b hb).2.2.2.2.2 p (by
      rcases List.mem_append.mp hp with z | z
      · exact z
      · cases z)⟩
  have fin : ∀ (ys : List V) (σ' : St) (H' : Hp) (s' : Shared), Inv (cxCompC X N' scope xs P2.objs.size s2 H2 fp pins) [] σ' H' s' → D0.nx (σ.set i0 (some (.ref s2.heap.objs.size))) H' →
      wpAny (model X.prog X.w) X.A (assign (.Name y py) X.env (.ref s2.heap.objs.size)) (fun _ s'' => ∃ m, s''.heap.Ns P2.objs.size m ∧ ∀ h', Heap.SameBut P2.objs.size s''.heap h' → SP X pins D0 .next { s'' with heap := h' }) X.xe s' := by
    intro ys σ' H' s' J1 q
    obtain ⟨m, hm, _⟩ := id J1.loc
    have J2 : Inv X pins σ H' s' := I2.call' (s' := s') (ch := fp) J1.os ⟨J1.base.keep, J1.base.slot, J1.base.free, J1.base.there, J1.base.tups, J1.base.frzs, J1.base.tbls⟩ J1.hok J1.bare fun b hb => ⟨(f2 b hb).2.2.2.1, (f2 b hb).2.1, (f2 b hb).2.2.2.2.1, (f2 b hb).2.2.2.2.2⟩
    have s0C : X.s₀.heap.objs.size ≤ P2.objs.size := Nat.le_trans I2.sz (by rw [hC]; exact Nat.le_succ _)
    have neL : P2.objs.size ≠ X.env.locals := Ne.symm (below _ I2.lt).1
    have neC : ∀ x c, X.env.cells.lookup x = some c → c ≠ P2.objs.size := fun x c e => by
      obtain ⟨v, o, ho, _⟩ := I2.cell x c e
      exact (below _ (Heap.lt_size ho)).1
    have neP : ∀ p ∈ X.pn ++ pins, p.1 ≠ P2.objs.size := fun p hp => (below _ (Heap.lt_size (I2.pin p hp).1)).1
    refine wpAny_assign_Name (store_ok2 J2 hNd hi0 hy (v := .ref s2.heap.objs.size) rfl (fun s5 J5 hsb => ?_) hf)
    obtain ⟨a, sb, ha⟩ := hsb
    have nea : P2.objs.size ≠ a := by
      rcases ha with rfl | ha
      · exact neL
      · exact Ne.symm (neC _ _ ha)
    refine ⟨m, hm.sameBut sb nea, fun h' sb' => ⟨_, H', ?_, q⟩⟩
    exact J5.turned (t' := s5.toks) (fun b o hb e => (sb'.2 b hb).trans e) J1.free neL (.inr s0C) neC neP
  have loop : codeAny (model X.prog X.w) X.A (.compLoop (.ListComp elt [⟨tg, iter, [], 0⟩] scope pos) 0 (.ref it) (.ref s2.heap.objs.size) (compEnvC scope (clo X.env xs) P2.objs.size X.env))
      (compPost (model X.prog X.w) X.A X.xe (some (assign (.Name y py) X.env)) (fun _ s' => SP X pins D0 .next s') (.ref s2.heap.objs.size) P2.objs.size)
      { s2 with heap := h₁, toks := s2.toks + ([] : List (Str × Value)).length } := by
    refine compLoop_go (fun n s' => ∃ i ys σ' H', σ'.drop k = vs.map some ∧ Inv (cxCompC X N' scope xs P2.objs.size s2 H2 fp pins) [] σ' H' s' ∧ tn i s'.heap ∧ (∀ b ∈ fp, H' b = none) ∧ W i n ys H') ?_ m0
      ⟨0, [], List.replicate k none ++ vs.map some, _, by simp, I', T.keep _ _ _ st2 (fun b hb o e => old b o e), fun b hb => by rw [upd_ne (below b (hfp b hb)).2]; exact (f2 b hb).1, w0⟩
    rintro n s3 ⟨i, ys, σ3, H3, hd3, J3, st3, fr3, w3⟩
    obtain ⟨hl, q3⟩ := turn i n ys H3 w3
    rcases q3 with ⟨stop, q⟩ | ⟨go, hlt, step⟩
    · refine thn (T.done (cxCompC X N' scope xs P2.objs.size s2 H2 fp pins) rfl rfl rfl hcalm i [] s3 σ3 H3 _ J3 (stat fr3) st3 stop) fun r s4 ⟨hr, J4⟩ => ?_
      subst hr
      exact fin ys σ3 H3 s4 J4 q
    · refine thn (T.item (cxCompC X N' scope xs P2.objs.size s2 H2 fp pins) rfl rfl rfl hcalm i [] s3 σ3 H3 _ J3 (stat fr3) st3 go) fun r s4 ⟨u, hr, h4⟩ => ?_
      subst hr
      refine thn h4 fun _ s5 ⟨x, H5, J5, r5, y5, st5, fr5⟩ => ?_
      have J5' := J5.pinned (stat fr5) (T.obj _ _ st5)
      have J6 : Inv (cxCompC X N' scope xs P2.objs.size s2 H2 fp pins) ([] ++ pinsAt fp s5.heap) (List.replicate k none ++ vs.map some) H5 s5 := J5'.weak (by rw [J5'.len]; exact caps_len hvs his hN hk) (caps_keep hd3)
      refine wpAny_mono (hg _ _ _ _ _ _ s5 _ H5 x u _ J6 r5 (step x H5 y5)) (fun _ s6 ⟨σ6, H6, J7, hd6, q6⟩ => ?_) fun _ _ z => False.elim z
      refine wpAny_mono (he _ _ _ _ _ _ s6 σ6 H6 _ J7 q6) (fun yv s7 ⟨y, H7, J8, r7, q7⟩ => ?_) fun _ _ z => False.elim z
      obtain ⟨hl7, m', hm', w7⟩ := q7
      refine wpAny_mono (mt_append (X := cxCompC X N' scope xs P2.objs.size s2 H2 fp pins) _ s7 σ6 H7 (.ref s2.heap.objs.size) [y] (.ref s2.heap.objs.size) [yv] (fun v H8 => H8 = upd H7 s2.heap.objs.size (.lst (ys ++ [y]))) J8 rfl (.cons r7 .nil) ⟨_, ys, y, rfl, rfl, hl7, hlt, rfl⟩) (fun _ s8 ⟨v8, H8, J9, r8, e8⟩ => ?_) fun _ _ z => False.elim z
      subst e8
      have pk : ∀ b ∈ fp, ∀ o, s5.heap.get? b = some o → s8.heap.get? b = some o ∧ upd H7 s2.heap.objs.size (.lst (ys ++ [y])) b = none := fun b hb o e =>
        let z := J9.pin (b, o) (List.mem_append_right _ (List.mem_append_right _ (mem_pinsAt hb e)))
        ⟨z.1, z.2.1⟩
      refine ⟨m', hm', i + 1, ys ++ [y], σ6, _, hd6, J9.unpinned, T.keep _ _ _ st5 fun b hb o e => (pk b hb o e).1, fun b hb => ?_, w7⟩
      obtain ⟨o, e, _⟩ := T.obj _ _ st5 b hb
      exact (pk b hb o e).2
  exact codeAny_compStart_list loop (T.self X.A 0 { s2 with heap := h₁, toks := s2.toks + ([] : List (Str × Value)).length } _ _ (T.keep _ _ _ st2 fun b hb o e => old b o e) loop)
end
end L2

namespace L2
open PySem PySem.Spec PyProof.Rows
section
variable {X : Cx}
end
end L2

namespace L2
open PySem PySem.Spec PyProof.Rows
section
variable {X : Cx} {pos : Pos}

end
end L2

namespace L2
open PySem PySem.Spec PyProof.Rows

def tCut (t : TS) : TS := fun D σ H => ∃ Pv : St → Hp → Prop, t { D with nx := Pv } σ H ∧ ∀ σ' H', Pv σ' H' → D.nx σ' H'
section
variable {X : Cx} {st : Stmt} {t : TS}
theorem ps_cut (h : PS X st t) : PS X st (tCut t) := by
  intro pins s σ H D I ⟨Pv, h1, h2⟩
  refine thn (h pins s σ H { D with nx := Pv } I h1) fun f s1 q => ?_
  cases f with
  | next =>
    obtain ⟨σ', H', I', q⟩ := q
    exact ⟨σ', H', I', h2 _ _ q⟩
  | ret v => exact q
  | brk => exact q
  | cont => exact q
end
end L2

namespace L2
open PySem PySem.Spec PyProof.Rows
section
variable {prog : Program} {w : World} {A : Around} {E : Value → Shared → Prop} {s : Shared}

end
section
variable {prog : Program} {w : World} {A : Around} {E : Value → Shared → Prop} {s : Shared}
end
section
variable {X : Cx} {tg : Expr}
end
end L2

namespace L2
open PySem PySem.Spec PyProof.Rows
section
variable {K : PySem.W.Frag} {σ0 cs : St} {k : Nat} {g : TG} {te : TE} {tt : TT} {H1 : Hp} {Q : VK}
end
section
variable {X : Cx} {K : PySem.W.Frag} {o e : Expr} {es : List Expr} {to : TE} {t : TA} {name : Str} {apos cpos : Pos} {T id : String} {r : V → List V → Hp → VK → Prop}
end
end L2

namespace L2
open PySem PySem.Spec PySem.Calls PyProof.Rows
section
variable {X : Cx}
end
section
variable {K : PySem.W.Frag} {σ0 cs : St} {k : Nat} {g : TG} {te : TE} {tt : TT} {H1 : Hp} {Q : VK}
theorem compC_range {lo : Int} {n : Nat} (Pv : Addr → Nat → List V → Hp → Prop) (hn : n ≤ sizeLine)
    (hl : ∀ D i ys H, Pv D i ys H → H D = some (.lst ys) ∧ ys.length ≤ i) (h0 : ∀ D, H1 D = none → Pv D 0 [] (upd H1 D (.lst [])))
    (hs : ∀ D i ys H, i < n → H1 D = none → Pv D i ys H → g (.int (lo + i)) σ0 H fun σ2 H3 => σ2.drop k = cs ∧ te σ2 H3 fun y H4 => H4 D = some (.lst ys) ∧ Pv D (i + 1) (ys ++ [y]) (upd H4 D (.lst (ys ++ [y]))))
    (hd : ∀ D ys H, H1 D = none → Pv D n ys H → Q (.ref D) H) (mono : ∀ x σ H (R R' : St → Hp → Prop), (∀ σ' H', R σ' H' → R' σ' H') → g x σ H R → g x σ H R')
    (mono2 : ∀ σ H (R R' : VK), (∀ v H', R v H' → R' v H') → te σ H R → te σ H R') : compKC σ0 k cs g te Q (Itr lo n) H1 :=
  compC_by n (fun i x => x = .int (lo + i)) Pv hn (fun D i ys H hi p => hi) (fun D ys H p => Nat.le_refl _)
    (fun D i ys H x H' hi p y => y) hl h0 (fun D i x ys H hi hx hD p => hx ▸ hs D i ys H hi hD p) hd mono mono2
end
end L2

namespace L2
open PySem PySem.Spec PySem.Calls PyProof.Rows
section
variable {X : Cx} {K : PySem.W.Frag}
end
end L2

namespace L2
open PySem PySem.Spec PySem.Calls PyProof.Rows

section
variable {P : Program} {w : World} {K : PySem.W.Frag} {mg : Str → Option Value} {base : Heap}
end
section
variable {X : Cx} {CX : CXT} {j k : Nat} {ps : List Str} {sp : Sp} {x : Str} {p pos : Pos} {e : Expr} {es : List Expr} {t : TA}
end
end L2


namespace Qs
open PySem L2
end Qs

namespace L2
open PySem PySem.Spec PyProof.Rows
section
variable {X : Cx}
theorem pe_gint {x : Str} {i : Int} {pos : Pos} (h : ∃ t, X.mg x = some (.int i t)) (hg : Gl X x := by rfl) (hd : (x == ("__debug__" : Str)) = false := by decide) : PE X (.Name x pos) (tC (.int i)) := by
  obtain ⟨t, h⟩ := h
  exact pe_glob hg h ⟨t, rfl⟩ hd
end
section
variable {X : Cx}
theorem pe_bty {x : Str} {n : String} {pos : Pos} (hm : X.mg x = none) (hv : bootBuiltins x = some (.type n)) (hg : Gl X x := by rfl) (hn : x ≠ "__name__" := by decide) (hd : (x == ("__debug__" : Str)) = false := by decide) : PE X (.Name x pos) (tC (.ty n)) :=
  pe_bltn hg hm hv rfl hn hd
end

theorem Same.new {H : Hp} {p : Addr} (h : H p = none) (o : HO) : Same H (upd H p o) := fun b u q => by rw [upd_ne (ne_of_none q h)]; exact q
theorem Same.set {H : Hp} {H' : Hp} {p : Addr} (h : Same H H') (hp : H p = none) (o : HO) : Same H (upd H' p o) := fun b u q => by rw [upd_ne (ne_of_none q hp)]; exact h b u q
theorem small {n : Nat} (h : n ≤ 1000) : n ≤ sizeLine := Nat.le_of_lt (small1000 h)
end L2

namespace L2
open PySem PySem.Spec PyProof.Rows
def notStar : PySem.Expr → Bool
  | .Starred _ _ => false
  | _ => true
theorem star_of {e : PySem.Expr} {es : List PySem.Expr} {env : Env} (h : notStar e = true) : starEach (e :: es) env = (false, eval e env) :: starEach es env := by
  cases e <;> first | rfl | (cases h)
theorem pa_c {X : Cx} {e : PySem.Expr} {es : List PySem.Expr} {te : TE} {t : TA} (ha : PE X e te) (hr : PA X es t) (h : notStar e = true := by rfl) : PA X (e :: es) (tCons te t) := pa_cons ha hr (star_of h)
end L2
namespace L2
open PySem PySem.Spec PyProof.Rows
end L2
namespace L2
open PySem PySem.Spec PyProof.Rows

structure PAx (X : Cx) (es : List PySem.Expr) (t : TA) : Prop where
  h : PA X es t
section
variable {X : Cx} {e : PySem.Expr} {es : List PySem.Expr} {te : TE} {t : TA} {pos : Pos}
theorem pax_nil : PAx X [] tNil := ⟨pa_nil⟩
theorem pax_c (ha : PE X e te) (hr : PAx X es t) (h : notStar e = true := by rfl) : PAx X (e :: es) (tCons te t) := ⟨pa_c ha hr.h h⟩
theorem pe_tupx {x1} (h : PAx X es t) : PE X (.Tuple es x1 pos) (tTup t) := pe_tup h.h
theorem pe_lstx (h : PAx X es t) : PE X (.List es pos) (tLst t) := pe_lst h.h
end
end L2

namespace L2
open PySem PySem.Spec PySem.Calls PyProof.Rows

section
variable {X : Cx}
end
def notComp : PySem.Expr → Bool
  | .ListComp _ _ _ _ => false
  | .SetComp _ _ _ _ => false
  | .DictComp _ _ _ _ _ => false
  | _ => true
theorem swaps_of {e : PySem.Expr} {t : Option PySem.Expr} {l : Nat} {env : Env} (h : notComp e = true) : swapsWith e t l env = pure false := by
  cases e <;> first | rfl | (cases h)

structure PEx (X : Cx) (e : PySem.Expr) (t : TE) : Prop where
  h : PE X e t
structure PSx (X : Cx) (st : Stmt) (t : TS) : Prop where
  h : PS X st t
structure PSsx (X : Cx) (st : List Stmt) (t : TS) : Prop where
  h : PSs X st t
section
variable {X : Cx} {st : Stmt} {rest : List Stmt} {t u : TS}
theorem pssx_one (h : PSx X st t) : PSsx X [st] t := ⟨pss_one h.h⟩
theorem pssx_cons (h1 : PSx X st t) (h2 : PSsx X rest u) : PSsx X (st :: rest) (tSeq t u) := ⟨pss_cons h1.h h2.h⟩
theorem pex_lst {es : List PySem.Expr} {ta : TA} {pos : Pos} (h : PAx X es ta) : PEx X (.List es pos) (tLst ta) := ⟨pe_lst h.h⟩
theorem psx_set {i : Nat} {x : Str} {es : List PySem.Expr} {lp : Pos} {te : TE} {pos pos' : Pos} (hN : X.N.Nodup) (hi : X.N[i]? = some x) (hx : Loc X.env.scope x) (he : PEx X (.List es lp) te)
    (hf : X.fn x = true ∨ X.env.scope.names.lookup x = some .local := by first | exact .inl rfl | exact .inr rfl | assumption) : PSx X (.Assign [.Name x pos'] (.List es lp) pos) (tAsg te (gName i)) :=
  ⟨ps_set hN hi hx he.h (swaps_of rfl) hf⟩
end
section
variable {P : Program} {w : World} {K : PySem.W.Frag} {mg : Str → Option Value} {base : Heap}
theorem FunD.oks {x qual : Str} {st : Stmt} {f : Addr} {fd : FuncData} {dV : Value} {N ps : List Str} {k : Nat} {sp : Sp} {CX : CXT} (F : FunD K x qual st f fd dV) (S : FnScope N ps (defScope st)) (len : ∀ vs H Q E, sp vs H Q E → vs.length = ps.length)
    (hbody : ∀ (cdv : Value) (A : Around) (outer : List Env) (s : Shared) (H : Hp) (vs : List V) (Q : VK) (E : XK), Room k (A.deeper (envOfC qual (defScope st) s.heap.objs.size f cdv)) → sp vs H Q E →
      ∃ t, PSsx (cxOf CX P w K mg base N qual (defScope st) f cdv A outer s H E).nox (defBody st) t ∧ t { nx := fun _ H' => Q .non H', rt := Q } (start N vs) H) : FnOk P w K mg base CX (k + 1) f fd ps sp :=
  F.ok S len fun cdv A outer s H vs Q E hr h => by
    obtain ⟨t, h1, h2⟩ := hbody cdv A outer s H vs Q E hr h
    exact ⟨t, h1.h, h2⟩
end
end L2

namespace L2
open PySem PySem.Spec PySem.Calls PyProof.Rows
section
variable {X : Cx}

theorem call_maxL (hc : X.calm = true) : CallR X (.builtin "max") (fun xs H Q => ∃ (a : Addr) (ns : List Int), xs = [.ref a] ∧ SqL X.K H a (ns.map V.int) ∧ 0 < ns.length ∧ ∀ M, M ∈ ns → (∀ x, x ∈ ns → x ≤ M) → Q (.int M) H) := by
  intro pins s σ H xs us Q I r h
  obtain ⟨a, ns, rfl, hS, hne, q⟩ := h
  obtain ⟨u, rfl, ru⟩ := vals1 r
  cases ru
  obtain ⟨its, rv, pl, _⟩ := I.list hS
  have hi : IntsAre its ns := intsAre_of rv
  have hl := pl.isList
  obtain ⟨xs, e⟩ := hi.allInts.items
  have hns : ns = xs.toList.map (·.1) := by rw [← hi.numsOf, ← nums_intItems, ← e]
  have hsz : 0 < xs.size := by
    have h3 := hne; rw [hns, List.length_map, Array.length_toList] at h3; exact h3
  rw [e] at hl
  refine max_intList (I.ok.hd hc) hl hsz fun v h' tk hv hk => ?_
  obtain ⟨t, rfl⟩ := intItems_at hv
  obtain ⟨h1, h2⟩ := argBest_gt (numAt xs) (xs.size - 1)
  refine ⟨.int _, H, I.kept hk, ⟨t, rfl⟩, q _ ?_ fun a ha => ?_⟩
  · rw [hns, numAt_eq]; exact getD_mem (by rw [List.length_map, Array.length_toList]; omega)
  · rw [hns] at ha
    obtain ⟨j, hj, rfl⟩ := mem_getD ha
    rw [List.length_map, Array.length_toList] at hj
    rw [← numAt_eq]; exact h2 j (by omega)

def rEqE (K : PySem.W.Frag) : R2 := fun x y H Q => ∃ (p1 p2 : Addr) (xs : List V), x = .ref p1 ∧ y = .ref p2 ∧ SqT K H p1 xs ∧ SqT K H p2 [] ∧ Q (.bl (decide (xs.length = 0))) H
theorem op_eqE {k : Nat} (hr : Room k X.A) : OpR X (compareOp .Eq) (rEqE X.K) := by
  intro pins s σ H x y v u Q I rx ry h
  obtain ⟨p1, p2, xs, rfl, rfl, q1, q2, q⟩ := h
  cases rx
  cases ry
  obtain ⟨us, r1, t1, _⟩ := I.tuple q1
  obtain ⟨vs, r2, t2, _⟩ := I.tuple q2
  have l1 := r1.length
  have l2 := r2.length
  refine SeqAt.eq_tupleAt (e := fun _ => true) t1 t2 hr.units0 (fun j h1 h2 => ?_) ⟨.bl _, H, I, rfl, ?_⟩
  · simp only [List.size_toArray] at h1 h2
    rw [← l2] at h2
    exact absurd h2 (Nat.not_lt_zero _)
  · have e : (((List.range (min us.toArray.size vs.toArray.size)).all fun _ => true) && us.toArray.size == vs.toArray.size) = decide (xs.length = 0) := by
      simp only [List.size_toArray, ← l1, ← l2, List.length_nil, Nat.min_zero, List.range_zero, List.all_nil, Bool.true_and]
      rfl
    rw [e]
    exact q
end

namespace HT
section
variable {prog : Program} {w : World} {A : Around} {E : Value → Shared → Prop} {s : Shared}
theorem cat_tup0 {t b : Addr} {ws : List Value} {Q : Value → Shared → Prop} (ht : IsTup s.heap t [].toArray) (hb : IsTup s.heap b ws.toArray) (h : Q (.ref b) s) : wpAny (model prog w) A (binaryOp .Add (.ref t) (.ref b)) Q E s := by
  obtain ⟨⟨cls, dd, data, sl⟩, ho, hc, n, hd⟩ := id ht
  obtain ⟨⟨cls2, dd2, data2, sl2⟩, ho2, hc2, n2, hd2⟩ := id hb
  simp only at hc hd hc2 hd2
  subst hc hd hc2 hd2
  exact concat_meets ⟨_, ho, rfl⟩ ⟨_, ho2, rfl⟩ noFill_tuple_add seq_tuple_add PySem.F.slot_tuple_add PySem.F.entry_tuple_add (PySem.F.args_tuple_add_2 _ _)
    (tuple_addW0 t b [].toArray ws.toArray n n2 dd dd2 sl sl2 (by simp)) ⟨ho, ho2, h⟩
end
end HT
section
variable {X : Cx}
def rCatE : R2 := fun x y H Q => ∃ a b xs ys, x = .ref a ∧ y = .ref b ∧ H a = some (.tup xs) ∧ H b = some (.tup ys) ∧ xs.length + ys.length ≤ sizeLine ∧ ∀ p H', Same H H' → H' p = some (.tup (xs ++ ys)) → Q (.ref p) H'
theorem op_catE : OpR X (binaryOp .Add) rCatE := by
  intro pins s σ H x y v u Q I rx ry h
  obtain ⟨a, b, xs, ys, rfl, rfl, ha, hb, hz, q⟩ := h
  by_cases hx : xs = []
  · subst hx
    cases rx
    cases ry
    obtain ⟨its, r1, p1, _⟩ := I.tuple (SqT.of ha)
    obtain ⟨its2, r2, p2, _⟩ := I.tuple (SqT.of hb)
    have e : its = [] := r1.nil_iff.mpr rfl
    subst e
    exact HT.cat_tup0 p1 p2 ⟨.ref b, H, I, rfl, q b H (Same.refl H) hb⟩
  · refine op_catT pins s σ H _ _ v u Q I rx ry ⟨a, b, xs, ys, rfl, rfl, SqT.of ha, SqT.of hb, hx, hz, fun e => ?_, fun _ p hp => q p _ (Same.new hp _) upd_same⟩
    subst e
    exact q a H (Same.refl H) (by rw [List.append_nil]; exact ha)
end

section
variable {X : Cx}
theorem pax_cx {e : PySem.Expr} {es : List PySem.Expr} {te : TE} {t : TA} (ha : PEx X e te) (hr : PAx X es t) (h : notStar e = true := by rfl) : PAx X (e :: es) (tCons te t) := pax_c ha.h hr h
theorem pex_tup {es : List PySem.Expr} {ta : TA} {x1} {pos : Pos} (h : PAx X es ta) : PEx X (.Tuple es x1 pos) (tTup ta) := ⟨pe_tup h.h⟩
theorem pex_op {a b : PySem.Expr} {ta tb : TE} {pos : Pos} {op : Operator} {r : R2} (ho : OpR X (binaryOp op) r) (ha : PEx X a ta) (hb : PEx X b tb) : PEx X (.BinOp a op b pos) (tOp r ta tb) := ⟨pe_op ho ha.h hb.h⟩
theorem psx_setop {i : Nat} {x : Str} {a b : PySem.Expr} {op : Operator} {lp : Pos} {te : TE} {pos pos' : Pos} (hN : X.N.Nodup) (hi : X.N[i]? = some x) (hx : Loc X.env.scope x) (he : PEx X (.BinOp a op b lp) te)
    (hf : X.fn x = true ∨ X.env.scope.names.lookup x = some .local := by first | exact .inl rfl | exact .inr rfl | assumption) : PSx X (.Assign [.Name x pos'] (.BinOp a op b lp) pos) (tAsg te (gName i)) :=
  ⟨ps_set hN hi hx he.h (swaps_of rfl) hf⟩
end
end L2

namespace Qs
open PySem L2

def top (i : Nat) : Stmt := PySem.Challenge.pw_quartersheet_k15_what_is_a_sheet.main.body.getD i (.Pass ⟨0, 0, 0, 0⟩)

structure Tx (K : PySem.W.Frag) (mg : Str → Option Value) : Prop where
  b_isinstance : mg "isinstance" = none
  b_int : mg "int" = none
  b_bool : mg "bool" = none
  c_MOST : ∃ t, mg "MOST" = some (.int 40 t)
  c_LAST_COLOUR : ∃ t, mg "LAST_COLOUR" = some (.int 35 t)
  b_tuple : mg "tuple" = none
  b_all : mg "all" = none
  b_len : mg "len" = none
  b_range : mg "range" = none
  b_max : mg "max" = none
  b_min : mg "min" = none
end Qs
namespace Qs
open PySem L2

end Qs
namespace Qs
open PySem L2

def oneB (a b c d : Tr) : Bool := a.isCol && (decide (a = a) && (decide (b = a) && (decide (c = a) && (decide (d = a) && true))))
theorem oneB_iff {a b c d : Tr} : oneB a b c d = true ↔ a.isCol = true ∧ b = a ∧ c = a ∧ d = a := by
  unfold oneB
  simp only [Bool.and_eq_true, decide_eq_true_eq, and_true, true_and]
theorem kit_it {K : PySem.W.Frag} : PySem.W.kitOne K (.type "int") (.type "tuple") = some false := by kernel_rfl

section
variable {P : Program} {w : World} {K : PySem.W.Frag} {mg : Str → Option Value} {base : Heap} {CX : CXT} {f : Addr} {fd : FuncData}
theorem at4 {α : Type} {a b c d x : α} {i : Nat} (h : [a, b, c, d][i]? = some x) : (i = 0 ∧ x = a) ∨ (i = 1 ∧ x = b) ∨ (i = 2 ∧ x = c) ∨ (i = 3 ∧ x = d) := by
  rcases i with _ | _ | _ | _ | i
  · exact .inl ⟨rfl, (Option.some.inj h).symm⟩
  · exact .inr (.inl ⟨rfl, (Option.some.inj h).symm⟩)
  · exact .inr (.inr (.inl ⟨rfl, (Option.some.inj h).symm⟩))
  · exact .inr (.inr (.inr ⟨rfl, (Option.some.inj h).symm⟩))
  · simp at h
end
end Qs
namespace Qs
open PySem L2
theorem TyOf.up {K : PySem.W.Frag} {H H' : Hp} {x : V} {t : Value} (sm : Same H H') (h : TyOf K H x t) : TyOf K H' x t := by
  cases h with
  | non => exact .non
  | bl x => exact .bl x
  | int i => exact .int i
  | str x => exact .str x
  | flt x => exact .flt x
  | lst e => exact .lst (sm _ _ e)
  | frz e => exact .frz (sm _ _ e)
  | tup e => exact .tup (sm _ _ e)
  | dK e => exact .dK (sm _ _ e)
  | dT e => exact .dT (sm _ _ e)
  | ins e cl ha hn htk hm => exact .ins (sm _ _ e) cl ha hn htk hm

inductive Th where
  | int (i : Int)
  | bl (b : Bool)
  | odd
  | tup (ts : List Th)
inductive ThAt (K : PySem.W.Frag) (H : Hp) : V → Th → Prop
  | int (i : Int) : ThAt K H (.int i) (.int i)
  | bl (b : Bool) : ThAt K H (.bl b) (.bl b)
  | odd {x : V} {ty : Value} : TyOf K H x ty → PySem.W.kitOne K ty (.type "int") = some false → PySem.W.kitOne K ty (.type "tuple") = some false → ThAt K H x .odd
  | tup {p : Addr} {xs : List V} {ts : List Th} : H p = some (.tup xs) → xs.length = ts.length → ts.length ≤ 100 → (∀ (i : Nat) (x : V) (t : Th), xs[i]? = some x → ts[i]? = some t → ThAt K H x t) → ThAt K H (.ref p) (.tup ts)
theorem ThAt.up {K : PySem.W.Frag} {H H' : Hp} {v : V} {t : Th} (h : ThAt K H v t) (s : Same H H') : ThAt K H' v t := by
  induction h with
  | int i => exact .int i
  | bl b => exact .bl b
  | odd a b c => exact .odd (TyOf.up s a) b c
  | tup e l lb _ ih => exact .tup (s _ _ e) l lb ih

def DepLe : Nat → Th → Prop
  | 0, .tup ts => ts = []
  | n + 1, .tup ts => ∀ t ∈ ts, DepLe n t
  | _, _ => True
theorem dep_int {n : Nat} {i : Int} : DepLe n (.int i) := by cases n <;> exact trivial
theorem dep_bl {n : Nat} {b : Bool} : DepLe n (.bl b) := by cases n <;> exact trivial
theorem dep_odd {n : Nat} : DepLe n .odd := by cases n <;> exact trivial
theorem DepLe.mono : ∀ {n m : Nat} {t : Th}, n ≤ m → DepLe n t → DepLe m t
  | _, _, .int _, _, _ => dep_int
  | _, _, .bl _, _, _ => dep_bl
  | _, _, .odd, _, _ => dep_odd
  | 0, 0, .tup ts, _, h => h
  | 0, m + 1, .tup ts, _, h => by
    have e : ts = [] := h
    subst e
    show ∀ t ∈ [], DepLe m t
    intro t ht
    cases ht
  | n + 1, 0, .tup _, h, _ => absurd h (Nat.not_succ_le_zero n)
  | n + 1, m + 1, .tup ts, h, hd => by
    have hd' : ∀ t ∈ ts, DepLe n t := hd
    show ∀ t ∈ ts, DepLe m t
    exact fun t ht => DepLe.mono (Nat.le_of_succ_le_succ h) (hd' t ht)

def Q4 : Nat → Th → Prop
  | _, .int _ => True
  | n + 1, .tup ts => ts.length = 4 ∧ ∀ t ∈ ts, Q4 n t
  | _, _ => False
theorem q4_int {n : Nat} {i : Int} : Q4 n (.int i) := by cases n <;> exact trivial
theorem q4_bl {n : Nat} {b : Bool} (h : Q4 n (.bl b)) : False := by cases n <;> exact h
theorem q4_odd {n : Nat} (h : Q4 n .odd) : False := by cases n <;> exact h
theorem Q4.dep : ∀ {n : Nat} {t : Th}, Q4 n t → DepLe n t
  | _, .int _, _ => dep_int
  | _, .bl _, h => (q4_bl h).elim
  | _, .odd, h => (q4_odd h).elim
  | 0, .tup _, h => h.elim
  | n + 1, .tup ts, h => fun t ht => Q4.dep (h.2 t ht)
theorem Q4.mono : ∀ {n m : Nat} {t : Th}, n ≤ m → Q4 n t → Q4 m t
  | _, _, .int _, _, _ => q4_int
  | _, _, .bl _, _, h => (q4_bl h).elim
  | _, _, .odd, _, h => (q4_odd h).elim
  | 0, _, .tup _, _, h => h.elim
  | n + 1, 0, .tup _, h, _ => absurd h (Nat.not_succ_le_zero n)
  | n + 1, m + 1, .tup ts, h, hq => ⟨hq.1, fun t ht => Q4.mono (Nat.le_of_succ_le_succ h) (hq.2 t ht)⟩

theorem th4 {K : PySem.W.Frag} {H : Hp} {a b c d : V} {ta tb tc td : Th} (ha : ThAt K H a ta) (hb : ThAt K H b tb) (hc : ThAt K H c tc) (hd : ThAt K H d td) : ∀ (i : Nat) (x : V) (t : Th), [a, b, c, d][i]? = some x → [ta, tb, tc, td][i]? = some t → ThAt K H x t := by
  intro i x t hx ht
  rcases i with _ | _ | _ | _ | i
  · rw [← Option.some.inj hx, ← Option.some.inj ht]; exact ha
  · rw [← Option.some.inj hx, ← Option.some.inj ht]; exact hb
  · rw [← Option.some.inj hx, ← Option.some.inj ht]; exact hc
  · rw [← Option.some.inj hx, ← Option.some.inj ht]; exact hd
  · simp at hx
theorem ThAt.ofTr {K : PySem.W.Frag} {H : Hp} {v : V} {t : Tr} (h : TrAt H v t) : ∃ th, ThAt K H v th ∧ Q4 t.deep th := by
  induction h with
  | col i => exact ⟨.int i, .int i, q4_int⟩
  | @four p a b c d ta tb tc td e _ _ _ _ ia ib ic id' =>
    obtain ⟨a', ha, da⟩ := ia
    obtain ⟨b', hb, db⟩ := ib
    obtain ⟨c', hc, dc⟩ := ic
    obtain ⟨d', hd, dd⟩ := id'
    refine ⟨.tup [a', b', c', d'], .tup e rfl (by show 4 ≤ 100; decide) (th4 ha hb hc hd), ?_⟩
    have l1 : ta.deep ≤ (Tr.four ta tb tc td).deep - 1 := by simp only [Tr.deep]; omega
    have l2 : tb.deep ≤ (Tr.four ta tb tc td).deep - 1 := by simp only [Tr.deep]; omega
    have l3 : tc.deep ≤ (Tr.four ta tb tc td).deep - 1 := by simp only [Tr.deep]; omega
    have l4 : td.deep ≤ (Tr.four ta tb tc td).deep - 1 := by simp only [Tr.deep]; omega
    have l0 : (Tr.four ta tb tc td).deep = (Tr.four ta tb tc td).deep - 1 + 1 := by simp only [Tr.deep]; omega
    rw [l0]
    refine ⟨rfl, fun t ht => ?_⟩
    simp only [List.mem_cons, List.not_mem_nil, or_false] at ht
    rcases ht with rfl | rfl | rfl | rfl
    · exact Q4.mono l1 da
    · exact Q4.mono l2 db
    · exact Q4.mono l3 dc
    · exact Q4.mono l4 dd

def trOf : Nat → Th → Option Tr
  | 0, t => match t with
    | .int i => if 0 ≤ i ∧ i ≤ 35 then some (.col i) else none
    | _ => none
  | l + 1, t => match t with
    | .int i => if 0 ≤ i ∧ i ≤ 35 then some (.col i) else none
    | .tup [a, b, c, d] => match trOf l a, trOf l b, trOf l c, trOf l d with
      | some x, some y, some z, some w => if oneB x y z w = true then none else some (.four x y z w)
      | _, _, _, _ => none
    | _ => none
theorem trOf_int {l : Nat} {i : Int} : trOf l (.int i) = if 0 ≤ i ∧ i ≤ 35 then some (.col i) else none := by cases l <;> rfl
theorem trOf_bl {l : Nat} {b : Bool} : trOf l (.bl b) = none := by cases l <;> rfl
theorem trOf_odd {l : Nat} : trOf l .odd = none := by cases l <;> rfl
theorem trOf_zero {ts : List Th} : trOf 0 (.tup ts) = none := rfl
theorem trOf_at {K : PySem.W.Frag} {H : Hp} : ∀ {l : Nat} {th : Th} {t : Tr} {v : V}, trOf l th = some t → ThAt K H v th → TrAt H v t ∧ t.deep ≤ l
  | l, .int i, t, v, h, hv => by
    rw [trOf_int] at h
    split at h
    · have e := Option.some.inj h
      subst e
      cases hv
      exact ⟨.col i, Nat.zero_le _⟩
    · cases h
  | l, .bl _, _, _, h, _ => by rw [trOf_bl] at h; cases h
  | l, .odd, _, _, h, _ => by rw [trOf_odd] at h; cases h
  | 0, .tup _, _, _, h, _ => by rw [trOf_zero] at h; cases h
  | l + 1, .tup ts, t, v, h, hv => by
    unfold trOf at h
    split at h
    · rename_i heq; cases heq
    · rename_i a b c d e2
      injection e2 with e2
      subst e2
      split at h
      · rename_i x y z w hx hy hz hw
        split at h
        · cases h
        · have e := Option.some.inj h
          subst e
          cases hv with
          | @tup p xs _ e le lb hh =>
            match xs, le, hh, e with
            | [xa, xb, xc, xd], _, hh, e =>
              obtain ⟨r1, d1⟩ := trOf_at hx (hh 0 _ _ rfl rfl)
              obtain ⟨r2, d2⟩ := trOf_at hy (hh 1 _ _ rfl rfl)
              obtain ⟨r3, d3⟩ := trOf_at hz (hh 2 _ _ rfl rfl)
              obtain ⟨r4, d4⟩ := trOf_at hw (hh 3 _ _ rfl rfl)
              exact ⟨.four e r1 r2 r3 r4, by simp only [Tr.deep]; omega⟩
      · cases h
    · cases h

def shB : Th → Bool
  | .tup [.int i, t] => decide (0 ≤ i ∧ i ≤ 40) && (trOf i.toNat t).isSome
  | _ => false
theorem shB_len {ts : List Th} (h : ts.length ≠ 2) : shB (.tup ts) = false := by
  unfold shB
  split
  · rename_i heq
    injection heq with heq
    subst heq
    exact absurd rfl h
  · rfl
theorem shB_2 {i : Int} {t : Th} : shB (.tup [.int i, t]) = (decide (0 ≤ i ∧ i ≤ 40) && (trOf i.toNat t).isSome) := rfl
end Qs


namespace Qs
open PySem L2
section
variable {P : Program} {w : World} {K : PySem.W.Frag} {mg : Str → Option Value} {base : Heap} {CX : CXT} {f : Addr} {fd : FuncData}
abbrev s_is_whole : Stmt := top 3
theorem sc_is_whole : FnScope ["thing"] ["thing"] (defScope s_is_whole) := ⟨rfl, rfl, rfl, by decide +kernel, rfl, by decide +kernel, by decide +kernel⟩
def sp_is_whole (K : PySem.W.Frag) : Sp := fun vs H Q _ => ∃ x, vs = [x] ∧ ((∃ i, x = .int i ∧ Q (.bl true) H) ∨ (∃ b, x = .bl b ∧ Q (.bl false) H) ∨ ∃ t, TyOf K H x t ∧ PySem.W.kitOne K t (.type "int") = some false ∧ Q (.bl false) H)
theorem ok_is_whole (T : Tx K mg) (F : FunD K "is_whole" "is_whole" s_is_whole f fd .none) : FnOk P w K mg base CX 1 f fd ["thing"] (sp_is_whole K) := by
  refine F.ok sc_is_whole (fun vs H Q E h => ?_) (fun cdv A outer s H vs Q E hr h => ?_)
  · obtain ⟨x, rfl, _⟩ := h
    rfl
  obtain ⟨x, rfl, h⟩ := h
  refine ⟨_, (pss_one (ps_ret (pe_and (pe_callB (call_isiT "int") rfl T.b_isinstance bb_isinstance (pa_cons (pv 0) (pa_cons (pe_bty T.b_int bt_int) pa_nil))) (pe_one (pe_not (pe_callB (call_isiT "bool") rfl T.b_isinstance bb_isinstance (pa_cons (pv 0) (pa_cons (pe_bty T.b_bool bt_bool) pa_nil)))))))), ?_⟩
  rcases h with ⟨i, rfl, q⟩ | ⟨b, rfl, q⟩ | ⟨t, ty, hk, q⟩
  · refine ⟨_, rfl, _, _, _, rfl, .int i, kit_ii, _, rfl, iteT ?_⟩
    exact ⟨_, rfl, _, _, _, rfl, .int i, kit_ib, _, rfl, q⟩
  · refine ⟨_, rfl, _, _, _, rfl, .bl b, kit_bi, _, rfl, iteT ?_⟩
    exact ⟨_, rfl, _, _, _, rfl, .bl b, kit_bb, _, rfl, q⟩
  · exact ⟨_, rfl, _, _, _, rfl, ty, hk, _, rfl, iteF q⟩

def NoInt (K : PySem.W.Frag) (H : Hp) (x : V) : Prop := (∃ b, x = .bl b) ∨ ∃ t, TyOf K H x t ∧ PySem.W.kitOne K t (.type "int") = some false
abbrev s_is_level : Stmt := top 4
theorem sc_is_level : FnScope ["thing"] ["thing"] (defScope s_is_level) := ⟨rfl, rfl, rfl, by decide +kernel, rfl, by decide +kernel, by decide +kernel⟩
def gsp_upto (K : PySem.W.Frag) (m : Int) : Sp := fun vs H Q _ => ∃ x, vs = [x] ∧ ((∃ i, x = .int i ∧ Q (.bl (decide (0 ≤ i ∧ i ≤ m))) H) ∨ (NoInt K H x ∧ Q (.bl false) H))
theorem gok_is_level (T : Tx K mg) (q : Quiet CX) (F : FunD K "is_level" "is_level" s_is_level f fd .none) (C_is_whole : Fok P w K mg base CX 1 "is_whole" ["thing"] [] (sp_is_whole K)) : FnOk P w K mg base CX 2 f fd ["thing"] (gsp_upto K 40) := by
  refine F.ok sc_is_level (fun vs H Q E h => ?_) (fun cdv A outer s H vs Q E hr h => ?_)
  · obtain ⟨x, rfl, _⟩ := h
    rfl
  obtain ⟨x, rfl, h⟩ := h
  refine ⟨_, (pss_one (ps_ret (pe_and (pe_callF C_is_whole q hr (pa_cons (pv 0) pa_nil)) (pe_one (pe_chain op_le op_le pe_int (pv 0) (pe_gint T.c_MOST)))))), ?_⟩
  rcases h with ⟨i, rfl, h⟩ | ⟨no, h⟩
  · refine ⟨_, rfl, _, rfl, .inl ⟨i, rfl, _, rfl, iteT ?_⟩⟩
    refine ⟨_, rfl, _, _, rfl, rfl, _, rfl, ite2 (fun c => ?_) (fun c => ?_)⟩
    · have c' : (0 : Int) ≤ i := of_decide_eq_true c
      refine ⟨_, _, rfl, rfl, ?_⟩
      show Q (.bl (decide (i ≤ 40))) H
      have e : decide (i ≤ 40) = decide (0 ≤ i ∧ i ≤ 40) := decide_eq_decide.mpr ⟨fun z => ⟨c', z⟩, fun z => z.2⟩
      rw [e]; exact h
    · have e : decide (0 ≤ i ∧ i ≤ 40) = false := decide_eq_false fun z => c (decide_eq_true z.1)
      rw [e] at h; exact h
  · rcases no with ⟨b, rfl⟩ | ⟨t, ty, hk⟩
    · exact ⟨_, rfl, _, rfl, .inr (.inl ⟨b, rfl, _, rfl, iteF h⟩)⟩
    · exact ⟨_, rfl, _, rfl, .inr (.inr ⟨t, ty, hk, _, rfl, iteF h⟩)⟩
abbrev s_is_colour : Stmt := top 5
theorem sc_is_colour : FnScope ["thing"] ["thing"] (defScope s_is_colour) := ⟨rfl, rfl, rfl, by decide +kernel, rfl, by decide +kernel, by decide +kernel⟩
theorem gok_is_colour (T : Tx K mg) (q : Quiet CX) (F : FunD K "is_colour" "is_colour" s_is_colour f fd .none) (C_is_whole : Fok P w K mg base CX 1 "is_whole" ["thing"] [] (sp_is_whole K)) : FnOk P w K mg base CX 2 f fd ["thing"] (gsp_upto K 35) := by
  refine F.ok sc_is_colour (fun vs H Q E h => ?_) (fun cdv A outer s H vs Q E hr h => ?_)
  · obtain ⟨x, rfl, _⟩ := h
    rfl
  obtain ⟨x, rfl, h⟩ := h
  refine ⟨_, (pss_one (ps_ret (pe_and (pe_callF C_is_whole q hr (pa_cons (pv 0) pa_nil)) (pe_one (pe_chain op_le op_le pe_int (pv 0) (pe_gint T.c_LAST_COLOUR)))))), ?_⟩
  rcases h with ⟨i, rfl, h⟩ | ⟨no, h⟩
  · refine ⟨_, rfl, _, rfl, .inl ⟨i, rfl, _, rfl, iteT ?_⟩⟩
    refine ⟨_, rfl, _, _, rfl, rfl, _, rfl, ite2 (fun c => ?_) (fun c => ?_)⟩
    · have c' : (0 : Int) ≤ i := of_decide_eq_true c
      refine ⟨_, _, rfl, rfl, ?_⟩
      show Q (.bl (decide (i ≤ 35))) H
      have e : decide (i ≤ 35) = decide (0 ≤ i ∧ i ≤ 35) := decide_eq_decide.mpr ⟨fun z => ⟨c', z⟩, fun z => z.2⟩
      rw [e]; exact h
    · have e : decide (0 ≤ i ∧ i ≤ 35) = false := decide_eq_false fun z => c (decide_eq_true z.1)
      rw [e] at h; exact h
  · rcases no with ⟨b, rfl⟩ | ⟨t, ty, hk⟩
    · exact ⟨_, rfl, _, rfl, .inr (.inl ⟨b, rfl, _, rfl, iteF h⟩)⟩
    · exact ⟨_, rfl, _, rfl, .inr (.inr ⟨t, ty, hk, _, rfl, iteF h⟩)⟩
theorem kit_bt {K : PySem.W.Frag} : PySem.W.kitOne K (.type "bool") (.type "tuple") = some false := by kernel_rfl
abbrev s_is_of_one_colour : Stmt := top 7
theorem sc_is_of_one_colour : FnScope ["parts", "first"] ["parts"] (defScope s_is_of_one_colour) := ⟨rfl, rfl, rfl, by decide +kernel, rfl, by decide +kernel, by decide +kernel⟩
def sp_is_oneT : Sp := fun vs H Q _ => ∃ (l : Addr) (a b c d : V) (ta tb tc td : Tr), vs = [.ref l] ∧ H l = some (.tup [a, b, c, d]) ∧ TrAt H a ta ∧ TrAt H b tb ∧ TrAt H c tc ∧ TrAt H d td ∧
  (ta.deep ≤ 60 ∧ tb.deep ≤ 60 ∧ tc.deep ≤ 60 ∧ td.deep ≤ 60) ∧ ∀ H', Same H H' → Q (.bl (oneB ta tb tc td)) H'
theorem ok_is_of_one_colour (T : Tx K mg) (F : FunD K "is_of_one_colour" "is_of_one_colour" s_is_of_one_colour f fd .none) : FnOk P w K mg base CX 1 f fd ["parts"] sp_is_oneT := by
  refine F.ok sc_is_of_one_colour (fun vs H Q E h => ?_) (fun cdv A outer s H vs Q E hr h => ?_)
  · obtain ⟨_, _, _, _, _, _, _, _, _, rfl, _⟩ := h
    rfl
  obtain ⟨l, a, b, c, d, ta, tb, tc, td, rfl, hl, ha, hb, hc, hd, ⟨da, db, dc, dd⟩, q'⟩ := h
  refine ⟨_, (pss_cons (ps_set (i := 1) sc_is_of_one_colour.nd rfl (Or.inr rfl) (pe_ix ix_tup (pv 0) pe_int (fun _ _ => rfl))) (pss_cons (ps_if (pt_val (pe_callB (call_isiT "tuple") rfl T.b_isinstance bb_isinstance (pa_cons (pv 1) (pa_cons (pe_bty T.b_tuple bt_tuple) pa_nil)))) (pss_one (ps_ret pe_bl)) pss_nil) (pss_one (ps_ret (pe_callB (call_all rfl) rfl T.b_all bb_all (pa_cons (pe_compC (N' := ["part", "first"]) ["first"] ["first"] [1] 1 (by with_unfolding_all rfl) rfl (capsOk_cons rfl rfl (by decide) capsOk_nil) rfl rfl (by decide) rfl (by decide +kernel) rfl (by decide +kernel) rfl (pi_tup (pv 0)) (fun C s0 H0 fp pins => (pg_name (i := 0) (show (["part", "first"] : List Str).Nodup by decide +kernel) rfl (Or.inl rfl) (Or.inr rfl))) (fun C s0 H0 fp pins => (pe_cmpR (op_eqD hr) (pv 0) (pv 1) (nomark _)))) pa_nil)))))), ?_⟩
  refine ⟨_, rfl, l, _, _, a, rfl, rfl, SqT.of hl, rfl, ?_⟩
  cases ha with
  | four e =>
    refine ⟨_, rfl, _, _, _, rfl, .tup e, kit_tt, _, rfl, iteT ?_⟩
    exact q' H (Same.refl H)
  | col i =>
    refine ⟨_, rfl, _, _, _, rfl, .int i, kit_it, _, rfl, iteF ?_⟩
    have full : ∃ bs : List Bool, bs = [decide (Tr.col i = Tr.col i), decide (tb = .col i), decide (tc = .col i), decide (td = .col i)] := ⟨_, rfl⟩
    obtain ⟨bs, ebs⟩ := full
    have hi : TrAt H (.int i) (.col i) := .col i
    refine ⟨[.int i], rfl, _, rfl, l, rfl, ⟨_, SqT.of hl⟩, compC_tup [.int i, b, c, d] (fun D j ys H' => Same H H' ∧ H' D = some (.lst ys) ∧ j ≤ 4 ∧ ys = (bs.take j).map V.bl) (by show 4 ≤ sizeLine; decide) (fun D j ys H' h => SqT.of (h.1 _ _ hl))
      (fun D j ys H' h => ⟨h.2.1, by rw [h.2.2.2]; simp; omega⟩) (fun D hD => ⟨Same.new hD _, upd_same, by decide, rfl⟩) ?_ ?_ (fun _ _ _ _ _ k h => k _ _ h) ?_⟩
    · rintro D j x ys H' hx hD ⟨s1, s2, s3, s4⟩
      have key : ∃ tx, TrAt H x tx ∧ tx.deep ≤ 60 ∧ bs[j]? = some (decide (tx = .col i)) := by
        rcases at4 hx with ⟨rfl, rfl⟩ | ⟨rfl, rfl⟩ | ⟨rfl, rfl⟩ | ⟨rfl, rfl⟩
        · exact ⟨_, hi, Nat.zero_le _, by rw [ebs]; rfl⟩
        · exact ⟨_, hb, db, by rw [ebs]; rfl⟩
        · exact ⟨_, hc, dc, by rw [ebs]; rfl⟩
        · exact ⟨_, hd, dd, by rw [ebs]; rfl⟩
      obtain ⟨tx, htx, dx, ex⟩ := key
      refine ⟨rfl, _, rfl, _, rfl, tx.data, (Tr.col i).data, (htx.up s1.tups).dat, .int i, Tr.shaped (by omega), Tr.shaped (Nat.zero_le _), s2, Same.set s1 hD _, upd_same, ?_, ?_⟩
      · have := (List.getElem?_eq_some_iff.mp hx).1
        exact this
      · rw [Tr.eqv, List.take_add_one, ex, s4, List.map_append]; rfl
    · rintro D ys H' hD ⟨s1, s2, s3, s4⟩
      refine ⟨D, bs, rfl, SqL.of (by rw [s2, s4]; congr 2; rw [ebs]; rfl), ?_⟩
      have e : bs.all id = oneB (.col i) tb tc td := by rw [ebs]; rfl
      rw [e]
      exact q' H' s1
    · intro σ H' R R' k h
      obtain ⟨x1, e1, x2, e2, d1, d2, p1, p2, p3, p4, h⟩ := h
      exact ⟨x1, e1, x2, e2, d1, d2, p1, p2, p3, p4, k _ _ h⟩
theorem trOf_4 {l : Nat} {a b c d : Th} : trOf (l + 1) (.tup [a, b, c, d]) = match trOf l a, trOf l b, trOf l c, trOf l d with
    | some x, some y, some z, some w => if oneB x y z w = true then none else some (.four x y z w)
    | _, _, _, _ => none := rfl

theorem trOf_four {l : Nat} {a b c d : Th} : (trOf (l + 1) (.tup [a, b, c, d])).isSome = true ↔ ∃ x y z w, trOf l a = some x ∧ trOf l b = some y ∧ trOf l c = some z ∧ trOf l d = some w ∧ oneB x y z w = false := by
  rw [trOf_4]
  cases ha : trOf l a with
  | none => simp
  | some x =>
    cases hb : trOf l b with
    | none => simp
    | some y =>
      cases hc : trOf l c with
      | none => simp
      | some z =>
        cases hd : trOf l d with
        | none => simp
        | some u => cases ho : oneB x y z u <;> simp [ho]
theorem trOf_len {l : Nat} {ts : List Th} (h : ts.length ≠ 4) : trOf l (.tup ts) = none := by
  cases l with
  | zero => rfl
  | succ l =>
    unfold trOf
    split
    · rename_i heq; cases heq
    · rename_i heq
      injection heq with heq
      subst heq
      exact absurd rfl h
    · rfl
abbrev s_is_tree : Stmt := top 8
theorem sc_is_tree : FnScope ["thing", "level"] ["thing", "level"] (defScope s_is_tree) := ⟨rfl, rfl, rfl, by decide +kernel, rfl, by decide +kernel, by decide +kernel⟩
def sp_is_tree (K : PySem.W.Frag) (m : Nat) : Sp := fun vs H Q _ => ∃ (v : V) (th : Th) (l : Nat), vs = [v, .int (l : Int)] ∧ ThAt K H v th ∧ l < m ∧ m ≤ 41 ∧ ∀ H', Same H H' → Q (.bl (trOf l th).isSome) H'
theorem ok_is_tree (T : Tx K mg) (q : Quiet CX) (F : FunD K "is_tree" "is_tree" s_is_tree f fd .none) (C_is_colour : Fok P w K mg base CX 2 "is_colour" ["thing"] [] (gsp_upto K 35)) (C_is_of_one_colour : Fok P w K mg base CX 1 "is_of_one_colour" ["parts"] [] sp_is_oneT) (b : Binds K fd ["thing", "level"] []) (m : mg "is_tree" = some (.ref f)) :
    ∀ n, FnOk P w K mg base CX (3 + n) f fd ["thing", "level"] (sp_is_tree K n)
  | 0 => by
    refine F.ok sc_is_tree (fun vs H Q E h => ?_) (fun cdv A outer s H vs Q E hr h => ?_)
    · obtain ⟨_, _, _, rfl, _⟩ := h
      rfl
    obtain ⟨_, _, _, _, _, h, _⟩ := h
    exact absurd h (Nat.not_lt_zero _)
  | m' + 1 => by
    have C_is_tree : Fok P w K mg base CX (3 + m') "is_tree" ["thing", "level"] [] (sp_is_tree K m') := fok F (ok_is_tree T q F C_is_colour C_is_of_one_colour b m m') b m
    refine F.ok sc_is_tree (fun vs H Q E h => ?_) (fun cdv A outer s H vs Q E hr h => ?_)
    · obtain ⟨_, _, _, rfl, _⟩ := h
      rfl
    obtain ⟨v, th, l, rfl, hv, hl, hm, q'⟩ := h
    refine ⟨_, (pss_cons (ps_if (pt_val (pe_callF C_is_colour q hr (pa_cons (pv 0) pa_nil) (hj := by first | decide | omega | (simp only [Nat.add_eq]; omega)))) (pss_one (ps_ret pe_bl)) pss_nil) (pss_cons (ps_if (PW.pt (pw_or (pt_cmpR op_eq (pv 1) pe_int (nomark _)) (pw_or (pt_not (pt_val (pe_callB (call_isiT "tuple") rfl T.b_isinstance bb_isinstance (pa_cons (pv 0) (pa_cons (pe_bty T.b_tuple bt_tuple) pa_nil))))) (pw_or1 (pt_cmpR op_ne (pe_callB call_len rfl T.b_len bb_len (pa_cons (pv 0) pa_nil)) pe_int (nomark _)))))) (pss_one (ps_ret pe_bl)) pss_nil) (pss_one (ps_ret (pe_and (pe_callB (call_all rfl) rfl T.b_all bb_all (pa_cons (pe_compC (N' := ["part", "level"]) ["level"] ["level"] [1] 1 (by with_unfolding_all rfl) rfl (capsOk_cons rfl rfl (by decide) capsOk_nil) rfl rfl (by decide) rfl (by decide +kernel) rfl (by decide +kernel) rfl (pi_tup (pv 0)) (fun C s0 H0 fp pins => (pg_name (i := 0) (show (["part", "level"] : List Str).Nodup by decide +kernel) rfl (Or.inl rfl) (Or.inr rfl))) (fun C s0 H0 fp pins => (pe_callF C_is_tree q hr (pa_cons (pv 0) (pa_cons (pe_op op_sub (pv 1) pe_int) pa_nil)) (hj := by first | decide | omega | (simp only [Nat.add_eq]; omega))))) pa_nil)) (pe_one (pe_not (pe_callF C_is_of_one_colour q hr (pa_cons (pv 0) pa_nil) (hj := by first | decide | omega | (simp only [Nat.add_eq]; omega)))))))))), ?_⟩
    have r0 := Same.refl H
    cases hv with
    | int i =>
      refine ⟨_, rfl, _, rfl, .inl ⟨i, rfl, ?_⟩⟩
      by_cases hi : 0 ≤ i ∧ i ≤ 35
      · rw [show decide (0 ≤ i ∧ i ≤ 35) = true from decide_eq_true hi]
        have := q' H r0
        rw [show trOf l (.int i) = some (.col i) by rw [trOf_int, if_pos hi]] at this
        exact ⟨_, rfl, iteT this⟩
      · rw [show decide (0 ≤ i ∧ i ≤ 35) = false from decide_eq_false hi]
        have := q' H r0
        rw [show trOf l (.int i) = none by rw [trOf_int, if_neg hi]] at this
        exact ⟨_, rfl, iteF ⟨_, rfl, rfl, _, rfl, ite2 (fun _ => iteT this) (fun _ => ⟨_, rfl, _, _, _, rfl, .int i, kit_it, _, rfl, iteT (iteT this)⟩)⟩⟩
    | bl bb =>
      have := q' H r0
      rw [trOf_bl] at this
      exact ⟨_, rfl, _, rfl, .inr ⟨.inl ⟨bb, rfl⟩, _, rfl, iteF ⟨_, rfl, rfl, _, rfl, ite2 (fun _ => iteT this) (fun _ => ⟨_, rfl, _, _, _, rfl, .bl bb, kit_bt, _, rfl, iteT (iteT this)⟩)⟩⟩⟩
    | odd ty k1 k2 =>
      have := q' H r0
      rw [trOf_odd] at this
      exact ⟨_, rfl, _, rfl, .inr ⟨.inr ⟨_, ty, k1⟩, _, rfl, iteF ⟨_, rfl, rfl, _, rfl, ite2 (fun _ => iteT this) (fun _ => ⟨_, rfl, _, _, _, rfl, ty, k2, _, rfl, iteT (iteT this)⟩)⟩⟩⟩
    | @tup p xs ts e le lb hh =>
      refine ⟨_, rfl, _, rfl, .inr ⟨.inr ⟨_, .tup e, kit_ti⟩, _, rfl, iteF ?_⟩⟩
      rcases l with _ | l
      · have := q' H r0
        rw [trOf_zero] at this
        exact ⟨_, rfl, rfl, _, rfl, ite2 (fun _ => iteT this) (fun d => absurd (decide_eq_true rfl) d)⟩
      refine ⟨_, rfl, rfl, _, rfl, ite2 (fun d => absurd (of_decide_eq_true d) (fun h => ?_)) (fun _ => ?_)⟩
      · have h' : V.int ((l + 1 : Nat) : Int) = V.int 0 := h
        injection h' with h'
        omega
      refine ⟨_, rfl, _, _, _, rfl, .tup e, kit_tt, _, rfl, iteF ?_⟩
      refine ⟨_, rfl, _, _, rfl, .inr ⟨_, SqT.of e, rfl⟩, rfl, _, rfl, ite2 (fun d => ?_) (fun d => ?_)⟩
      · have d' : (!decide (V.int ((xs.length : Nat) : Int) = V.int 4)) = true := d
        have n4 : ts.length ≠ 4 := fun h => by
          rw [le, h] at d'
          simp at d'
        have := q' H r0
        rw [trOf_len n4] at this
        exact this
      have d' : ¬ (!decide (V.int ((xs.length : Nat) : Int) = V.int 4)) = true := d
      have d2 : V.int ((xs.length : Nat) : Int) = V.int 4 := by simpa using d'
      injection d2 with d3
      have lx : xs.length = 4 := by omega
      obtain ⟨t0, t1, t2, t3, rfl⟩ : ∃ z0 z1 z2 z3, ts = [z0, z1, z2, z3] := by
        rw [lx] at le
        match ts, le with
        | [z0, z1, z2, z3], _ => exact ⟨z0, z1, z2, z3, rfl⟩
      obtain ⟨x0, x1, x2, x3, rfl⟩ : ∃ z0 z1 z2 z3, xs = [z0, z1, z2, z3] := by
        match xs, lx with
        | [z0, z1, z2, z3], _ => exact ⟨z0, z1, z2, z3, rfl⟩
      obtain ⟨bs, ebs⟩ : ∃ bs : List Bool, bs = [t0, t1, t2, t3].map fun t => (trOf l t).isSome := ⟨_, rfl⟩
      refine ⟨[.int ((l + 1 : Nat) : Int)], rfl, _, rfl, p, rfl, ⟨_, SqT.of e⟩, compC_tup [x0, x1, x2, x3] (fun D j ys H' => Same H H' ∧ H' D = some (.lst ys) ∧ j ≤ 4 ∧ ys = (bs.take j).map V.bl) (by show 4 ≤ sizeLine; decide) (fun D j ys H' h => SqT.of (h.1 _ _ e))
        (fun D j ys H' h => ⟨h.2.1, by rw [h.2.2.2]; simp; omega⟩) (fun D hD => ⟨Same.new hD _, upd_same, by decide, rfl⟩) ?_ ?_ (fun _ _ _ _ _ k h => k _ _ h) ?_⟩
      · rintro D j x ys H' hx hD ⟨s1, s2, s3, s4⟩
        have hj : j < 4 := (List.getElem?_eq_some_iff.mp hx).1
        obtain ⟨t, ht⟩ : ∃ t, [t0, t1, t2, t3][j]? = some t := ⟨_, List.getElem?_eq_getElem (by exact hj)⟩
        have ex : bs[j]? = some (trOf l t).isSome := by rw [ebs, List.getElem?_map, ht]; rfl
        refine ⟨rfl, _, rfl, _, rfl, _, _, rfl, rfl, x, t, l, (by show [x, V.int (((l + 1 : Nat) : Int) - 1)] = _; rw [show ((l + 1 : Nat) : Int) - 1 = (l : Int) by omega]), (hh j x t hx ht).up s1, by omega, by omega, fun H2 sm => ⟨sm _ _ s2, Same.set (s1.trans sm) hD _, upd_same, hj, ?_⟩⟩
        rw [List.take_add_one, ex, s4, List.map_append]; rfl
      · rintro D ys H' hD ⟨s1, s2, s3, s4⟩
        refine ⟨D, bs, rfl, SqL.of (by rw [s2, s4]; congr 2; rw [ebs]; rfl), _, rfl, ?_⟩
        cases hb : bs.all id with
        | false =>
          have := q' H' s1
          rw [show (trOf (l + 1) (.tup [t0, t1, t2, t3])).isSome = false from ?_] at this
          · exact iteF this
          · cases hs : (trOf (l + 1) (.tup [t0, t1, t2, t3])).isSome with
            | false => rfl
            | true =>
              obtain ⟨x, y, z, u, h0, h1, h2, h3, _⟩ := trOf_four.mp hs
              rw [ebs] at hb
              simp [h0, h1, h2, h3] at hb
        | true =>
          rw [ebs] at hb
          simp at hb
          obtain ⟨h0, h1, h2, h3⟩ := hb
          obtain ⟨y0, e0⟩ := Option.isSome_iff_exists.mp h0
          obtain ⟨y1, e1⟩ := Option.isSome_iff_exists.mp h1
          obtain ⟨y2, e2⟩ := Option.isSome_iff_exists.mp h2
          obtain ⟨y3, e3⟩ := Option.isSome_iff_exists.mp h3
          obtain ⟨r0, d0⟩ := trOf_at e0 ((hh 0 _ _ rfl rfl).up s1)
          obtain ⟨r1, d1⟩ := trOf_at e1 ((hh 1 _ _ rfl rfl).up s1)
          obtain ⟨r2, d2⟩ := trOf_at e2 ((hh 2 _ _ rfl rfl).up s1)
          obtain ⟨r3, d3⟩ := trOf_at e3 ((hh 3 _ _ rfl rfl).up s1)
          refine iteT ⟨_, rfl, p, x0, x1, x2, x3, y0, y1, y2, y3, rfl, s1 _ _ e, r0, r1, r2, r3, ⟨by omega, by omega, by omega, by omega⟩, fun H3 s3' => ⟨_, rfl, ?_⟩⟩
          have := q' H3 (s1.trans s3')
          rw [show (trOf (l + 1) (.tup [t0, t1, t2, t3])).isSome = !oneB y0 y1 y2 y3 from ?_] at this
          · exact this
          · rw [trOf_4, e0, e1, e2, e3]
            cases ho : oneB y0 y1 y2 y3 <;> simp [ho]
      · rintro σ H' R R' k ⟨a1, f1, a2, f2, i, j, g1, g2, x, t, l2, g3, g4, g5, g6, h⟩
        exact ⟨a1, f1, a2, f2, i, j, g1, g2, x, t, l2, g3, g4, g5, g6, fun H2 sm => k _ _ (h H2 sm)⟩
abbrev s_is_sheet : Stmt := top 10
theorem sc_is_sheet : FnScope ["thing"] ["thing"] (defScope s_is_sheet) := ⟨rfl, rfl, rfl, by decide +kernel, rfl, by decide +kernel, by decide +kernel⟩
def sp_is_sheet (K : PySem.W.Frag) : Sp := fun vs H Q _ => ∃ (v : V) (th : Th), vs = [v] ∧ ThAt K H v th ∧ ∀ H', Same H H' → Q (.bl (shB th)) H'
theorem ok_is_sheet (T : Tx K mg) (q : Quiet CX) (F : FunD K "is_sheet" "is_sheet" s_is_sheet f fd .none) (C_is_level : Fok P w K mg base CX 2 "is_level" ["thing"] [] (gsp_upto K 40)) (C_is_tree : Fok P w K mg base CX 44 "is_tree" ["thing", "level"] [] (sp_is_tree K 41)) : FnOk P w K mg base CX 45 f fd ["thing"] (sp_is_sheet K) := by
  refine F.ok sc_is_sheet (fun vs H Q E h => ?_) (fun cdv A outer s H vs Q E hr h => ?_)
  · obtain ⟨_, _, rfl, _⟩ := h
    rfl
  obtain ⟨v, th, rfl, hv, q'⟩ := h
  refine ⟨_, (pss_cons (ps_if (PW.pt (pw_or (pt_not (pt_val (pe_callB (call_isiT "tuple") rfl T.b_isinstance bb_isinstance (pa_cons (pv 0) (pa_cons (pe_bty T.b_tuple bt_tuple) pa_nil))))) (pw_or1 (pt_cmpR op_ne (pe_callB call_len rfl T.b_len bb_len (pa_cons (pv 0) pa_nil)) pe_int (nomark _))))) (pss_one (ps_ret pe_bl)) pss_nil) (pss_one (ps_ret (pe_and (pe_callF C_is_level q hr (pa_cons (pe_ix ix_tup (pv 0) pe_int (fun _ _ => rfl)) pa_nil)) (pe_one (pe_callF C_is_tree q hr (pa_cons (pe_ix ix_tup (pv 0) pe_int (fun _ _ => rfl)) (pa_cons (pe_ix ix_tup (pv 0) pe_int (fun _ _ => rfl)) pa_nil)))))))), ?_⟩
  have r0 := Same.refl H
  cases hv with
  | int i => exact ⟨_, rfl, _, _, _, rfl, .int i, kit_it, _, rfl, iteT (iteT (q' H r0))⟩
  | bl bb => exact ⟨_, rfl, _, _, _, rfl, .bl bb, kit_bt, _, rfl, iteT (iteT (q' H r0))⟩
  | odd ty k1 k2 => exact ⟨_, rfl, _, _, _, rfl, ty, k2, _, rfl, iteT (iteT (q' H r0))⟩
  | @tup p xs ts e le lb hh =>
    refine ⟨_, rfl, _, _, _, rfl, .tup e, kit_tt, _, rfl, iteF ?_⟩
    refine ⟨_, rfl, _, _, rfl, .inr ⟨_, SqT.of e, rfl⟩, rfl, _, rfl, ite2 (fun d => ?_) (fun d => ?_)⟩
    · have d' : (!decide (V.int ((xs.length : Nat) : Int) = V.int 2)) = true := d
      have := q' H r0
      rw [shB_len (fun h => by rw [le, h] at d'; simp at d')] at this
      exact this
    have d' : ¬ (!decide (V.int ((xs.length : Nat) : Int) = V.int 2)) = true := d
    have d2 : V.int ((xs.length : Nat) : Int) = V.int 2 := by simpa using d'
    injection d2 with d3
    have lx : xs.length = 2 := by omega
    obtain ⟨t0, t1, rfl⟩ : ∃ z0 z1, ts = [z0, z1] := by
      rw [lx] at le
      match ts, le with
      | [z0, z1], _ => exact ⟨z0, z1, rfl⟩
    obtain ⟨x0, x1, rfl⟩ : ∃ z0 z1, xs = [z0, z1] := by
      match xs, lx with
      | [z0, z1], _ => exact ⟨z0, z1, rfl⟩
    have h0 := hh 0 _ _ rfl rfl
    have h1 := hh 1 _ _ rfl rfl
    refine ⟨_, rfl, p, _, 0, _, rfl, rfl, SqT.of e, rfl, _, rfl, ?_⟩
    cases h0 with
    | int i =>
      refine .inl ⟨i, rfl, ?_⟩
      by_cases hi : 0 ≤ i ∧ i ≤ 40
      · rw [show decide (0 ≤ i ∧ i ≤ 40) = true from decide_eq_true hi]
        obtain ⟨l, rfl⟩ : ∃ l : Nat, i = (l : Int) := ⟨i.toNat, by omega⟩
        refine ⟨_, rfl, iteT ⟨_, rfl, p, _, 1, _, rfl, rfl, SqT.of e, rfl, _, rfl, p, _, 0, _, rfl, rfl, SqT.of e, rfl, x1, t1, l, rfl, h1, by omega, by decide, fun H' sm => ?_⟩⟩
        have := q' H' sm
        rw [shB_2, show decide (0 ≤ (l : Int) ∧ (l : Int) ≤ 40) = true from decide_eq_true hi, Bool.true_and, Int.toNat_natCast] at this
        exact this
      · rw [show decide (0 ≤ i ∧ i ≤ 40) = false from decide_eq_false hi]
        have := q' H r0
        rw [shB_2, show decide (0 ≤ i ∧ i ≤ 40) = false from decide_eq_false hi, Bool.false_and] at this
        exact ⟨_, rfl, iteF this⟩
    | bl bb => exact .inr ⟨.inl ⟨bb, rfl⟩, _, rfl, iteF (q' H r0)⟩
    | odd ty k1 k2 => exact .inr ⟨.inr ⟨_, ty, k1⟩, _, rfl, iteF (q' H r0)⟩
    | tup e' => exact .inr ⟨.inr ⟨_, .tup e', kit_ti⟩, _, rfl, iteF (q' H r0)⟩
end
end Qs


namespace Qs
open PySem L2
def cell (ns : List Int) (k : Nat) : Int := (ns[k]?).getD 0
theorem four_of (m : Int) : ∃ d : Nat, d < 4 ∧ m % 4 = (d : Int) := ⟨(m % 4).toNat, by omega, by omega⟩
theorem shaped4 {a b c d : Tr} (ha : a.deep ≤ 60) (hb : b.deep ≤ 60) (hc : c.deep ≤ 60) (hd : d.deep ≤ 60) : SeqAt.shaped (.list [a.data, b.data, c.data, d.data]) = true := by
  have e1 : (PyData.list [a.data, b.data, c.data, d.data]).canLay0 = true := by
    show (a.data.canLay0 && (b.data.canLay0 && (c.data.canLay0 && (d.data.canLay0 && true)))) = true
    rw [Tr.lay a, Tr.lay b, Tr.lay c, Tr.lay d]; rfl
  have e2 : (PyData.list [a.data, b.data, c.data, d.data]).depth ≤ 64 := by
    show max a.data.depth (max b.data.depth (max c.data.depth (max d.data.depth 0))) + 1 ≤ 64
    rw [Tr.depth a, Tr.depth b, Tr.depth c, Tr.depth d]; omega
  unfold SeqAt.shaped
  rw [e1, decide_eq_true e2]; rfl
section
variable {P : Program} {w : World} {K : PySem.W.Frag} {mg : Str → Option Value} {base : Heap} {CX : CXT} {f : Addr} {fd : FuncData}
abbrev s_law_at : Stmt := top 12
theorem sc_law_at : FnScope ["_law_script", "_law_k"] ["_law_script", "_law_k"] (defScope s_law_at) := ⟨rfl, rfl, rfl, by decide +kernel, rfl, by decide +kernel, by decide +kernel⟩
def sp_law_at (K : PySem.W.Frag) : Sp := fun vs H Q _ => ∃ (a : Addr) (ns : List Int) (k : Nat), vs = [.ref a, .int k] ∧ SqL K H a (ns.map V.int) ∧ ns.length ≤ 63 ∧ Q (.int (cell ns k)) H
theorem ok_law_at (T : Tx K mg) (F : FunD K "_law_at" "_law_at" s_law_at f fd .none) : FnOk P w K mg base CX 1 f fd ["_law_script", "_law_k"] (sp_law_at K) := by
  refine F.ok sc_law_at (fun vs H Q E h => ?_) (fun cdv A outer s H vs Q E hr h => ?_)
  · obtain ⟨_, _, _, rfl, _⟩ := h
    rfl
  obtain ⟨a, ns, k, rfl, hS, hl, q'⟩ := h
  refine ⟨_, (pss_cons (ps_if (pt_cmpR op_lt (pv 1) (pe_callB call_len rfl T.b_len bb_len (pa_cons (pv 0) pa_nil)) (nomark _)) (pss_one (ps_ret (pe_ix ix_list (pv 0) (pv 1) (fun _ _ => rfl)))) pss_nil) (pss_one (ps_ret pe_int))), ?_⟩
  refine ⟨_, rfl, _, rfl, _, _, rfl, .inl ⟨_, hS, rfl⟩, _, _, rfl, rfl, _, rfl, ite2 (fun c => ?_) (fun c => ?_)⟩
  · have c' : (k : Int) < (((ns.map V.int).length : Nat) : Int) := of_decide_eq_true c
    rw [List.length_map] at c'
    have hk : k < ns.length := by omega
    have e : (ns.map V.int)[k]? = some (.int (cell ns k)) := by simp [cell, hk]
    exact ⟨_, rfl, _, rfl, a, _, _, _, rfl, rfl, hS, atI_nat e, q'⟩
  · have c' : ¬ (k : Int) < (((ns.map V.int).length : Nat) : Int) := fun z => c (decide_eq_true z)
    rw [List.length_map] at c'
    have e : cell ns k = 0 := by
      have : ns[k]? = none := List.getElem?_eq_none (by omega)
      simp [cell, this]
    rw [e] at q'
    exact q'
end
end Qs
namespace Qs
open PySem L2
section
variable {P : Program} {w : World} {K : PySem.W.Frag} {mg : Str → Option Value} {base : Heap} {CX : CXT} {f : Addr} {fd : FuncData}
abbrev s_law_deep : Stmt := top 17
theorem sc_law_deep : FnScope ["_law_tree_here"] ["_law_tree_here"] (defScope s_law_deep) := ⟨rfl, rfl, rfl, by decide +kernel, rfl, by decide +kernel, by decide +kernel⟩
def sp_law_deep (K : PySem.W.Frag) (m : Nat) : Sp := fun vs H Q _ => ∃ (v : V) (th : Th) (n : Nat), vs = [v] ∧ ThAt K H v th ∧ DepLe n th ∧ n < m ∧ m ≤ 60 ∧ ∀ (k : Nat) H', k ≤ n → Same H H' → Q (.int (k : Int)) H'
theorem ok_law_deep (T : Tx K mg) (q : Quiet CX) (F : FunD K "_law_deep" "_law_deep" s_law_deep f fd .none) (b : Binds K fd ["_law_tree_here"] []) (m : mg "_law_deep" = some (.ref f)) :
    ∀ n, FnOk P w K mg base CX (1 + n) f fd ["_law_tree_here"] (sp_law_deep K n)
  | 0 => by
    refine F.ok sc_law_deep (fun vs H Q E h => ?_) (fun cdv A outer s H vs Q E hr h => ?_)
    · obtain ⟨_, _, _, rfl, _⟩ := h
      rfl
    obtain ⟨_, _, _, _, _, _, h, _⟩ := h
    exact absurd h (Nat.not_lt_zero _)
  | m' + 1 => by
    have C__law_deep : Fok P w K mg base CX (1 + m') "_law_deep" ["_law_tree_here"] [] (sp_law_deep K m') := fok F (ok_law_deep T q F b m m') b m
    refine F.ok sc_law_deep (fun vs H Q E h => ?_) (fun cdv A outer s H vs Q E hr h => ?_)
    · obtain ⟨_, _, _, rfl, _⟩ := h
      rfl
    obtain ⟨v, th, n, rfl, hv, hd, hn, hm, q'⟩ := h
    refine ⟨_, (pss_cons (ps_if (PW.pt (pw_or (pt_not (pt_val (pe_callB (call_isiT "tuple") rfl T.b_isinstance bb_isinstance (pa_cons (pv 0) (pa_cons (pe_bty T.b_tuple bt_tuple) pa_nil))))) (pw_or1 (pt_cmpR (op_eqE hr) (pv 0) (pe_tupx pax_nil) (nomark _))))) (pss_one (ps_ret pe_int)) pss_nil) (pss_one (ps_ret (pe_op op_add pe_int (pe_callB (call_maxL rfl) rfl T.b_max bb_max (pa_cons (pe_compC (N' := ["_law_one"]) [] [] [] 1 (by with_unfolding_all rfl) rfl capsOk_nil rfl rfl (by decide) rfl (by decide +kernel) rfl (by decide +kernel) rfl (pi_tup (pv 0)) (fun C s0 H0 fp pins => (pg_name (i := 0) (show (["_law_one"] : List Str).Nodup by decide +kernel) rfl (Or.inl rfl) (Or.inr rfl))) (fun C s0 H0 fp pins => (pe_callF C__law_deep q hr (pa_cons (pv 0) pa_nil) (hj := by first | decide | omega | (simp only [Nat.add_eq]; omega))))) pa_nil)))))), ?_⟩
    have r0 := q' 0 H (Nat.zero_le _) (Same.refl H)
    cases hv with
    | int i => exact ⟨_, rfl, _, _, _, rfl, .int i, kit_it, _, rfl, iteT (iteT r0)⟩
    | bl bb => exact ⟨_, rfl, _, _, _, rfl, .bl bb, kit_bt, _, rfl, iteT (iteT r0)⟩
    | odd ty k1 k2 => exact ⟨_, rfl, _, _, _, rfl, ty, k2, _, rfl, iteT (iteT r0)⟩
    | @tup p xs ts e le lb hh =>
      refine ⟨_, rfl, _, _, _, rfl, .tup e, kit_tt, _, rfl, iteF ?_⟩
      refine ⟨_, rfl, (by show 0 ≤ sizeLine; decide), fun pe he => ?_⟩
      generalize e1 : upd H pe _ = H1
      have s1 : Same H H1 := e1 ▸ Same.new he _
      have u1 : H1 pe = some (.tup []) := by rw [← e1]; exact upd_same
      refine ⟨p, pe, xs, rfl, rfl, SqT.of (s1 _ _ e), SqT.of u1, _, rfl, ite2 (fun _ => q' 0 H1 (Nat.zero_le _) s1) (fun c => ?_)⟩
      have hx : xs.length ≠ 0 := fun h => c (decide_eq_true h)
      rcases n with _ | n
      · have e0 : ts = [] := hd
        rw [le, e0] at hx
        exact absurd rfl hx
      have hd' : ∀ t ∈ ts, DepLe n t := hd
      refine ⟨[], rfl, _, rfl, p, rfl, ⟨_, SqT.of (s1 _ _ e)⟩, compC_tup xs (fun D (j : Nat) ys H' => Same H1 H' ∧ H' D = some (.lst ys) ∧ ∃ ks : List Nat, ks.length = j ∧ (∀ k ∈ ks, k ≤ n) ∧ ys = ks.map fun (k : Nat) => V.int (k : Int)) (small (by omega)) (fun D j ys H' h => SqT.of ((s1.trans h.1) _ _ e))
        (fun D j ys H' h => ⟨h.2.1, by obtain ⟨ks, l, _, rfl⟩ := h.2.2; simp [l]⟩) (fun D hD => ⟨Same.new hD _, upd_same, [], rfl, fun k hk => absurd hk (by simp), rfl⟩) ?_ ?_ (fun _ _ _ _ _ k h => k _ _ h) ?_⟩
      · rintro D j x ys H' hx hD ⟨c1, c2, ks, lk, hk, rfl⟩
        have hj : j < ts.length := by rw [← le]; exact (List.getElem?_eq_some_iff.mp hx).1
        have ht : ts[j]? = some ts[j] := List.getElem?_eq_getElem hj
        refine ⟨rfl, _, rfl, x, ts[j], n, rfl, (hh j x _ hx ht).up (s1.trans c1), hd' _ (List.getElem_mem hj), by omega, by omega, fun k H2 hk2 sm => ⟨sm _ _ c2, Same.set (c1.trans sm) hD _, upd_same, ks ++ [k], by rw [List.length_append, lk]; rfl, fun a ha => ?_, by rw [List.map_append]; rfl⟩⟩
        rcases List.mem_append.mp ha with ha | ha
        · exact hk a ha
        · rw [List.mem_singleton.mp ha]; exact hk2
      · rintro D ys H' hD ⟨c1, c2, ks, lk, hk, rfl⟩
        refine ⟨D, ks.map fun (k : Nat) => (k : Int), rfl, SqL.of (by rw [c2, List.map_map]; rfl), by rw [List.length_map]; omega, fun M hM _ => ?_⟩
        obtain ⟨k, hk1, rfl⟩ := List.mem_map.mp hM
        refine ⟨_, _, rfl, rfl, ?_⟩
        have := q' (1 + k) H' (by have := hk k hk1; omega) (s1.trans c1)
        rw [show ((1 + k : Nat) : Int) = 1 + (k : Int) by omega] at this
        exact this
      · rintro σ H' R R' k ⟨a1, f1, x, t, n2, g3, g4, g5, g6, g7, h⟩
        exact ⟨a1, f1, x, t, n2, g3, g4, g5, g6, g7, fun k2 H2 hk2 sm => k _ _ (h k2 H2 hk2 sm)⟩
abbrev s_law_is_tree : Stmt := top 16
theorem sc_law_is_tree : FnScope ["_law_thing_here", "_law_level", "_law_one"] ["_law_thing_here", "_law_level"] (defScope s_law_is_tree) := ⟨rfl, rfl, rfl, by decide +kernel, rfl, by decide +kernel, by decide +kernel⟩
def sp_law_is_tree (K : PySem.W.Frag) (m : Nat) : Sp := fun vs H Q _ => ∃ (v : V) (th : Th) (l : Nat), vs = [v, .int (l : Int)] ∧ ThAt K H v th ∧ l < m ∧ m ≤ 41 ∧ ∀ H', Same H H' → Q (.bl (trOf l th).isSome) H'
theorem ok_law_is_tree (T : Tx K mg) (q : Quiet CX) (F : FunD K "_law_is_tree" "_law_is_tree" s_law_is_tree f fd .none) (b : Binds K fd ["_law_thing_here", "_law_level"] []) (m : mg "_law_is_tree" = some (.ref f)) :
    ∀ n, FnOk P w K mg base CX (1 + n) f fd ["_law_thing_here", "_law_level"] (sp_law_is_tree K n)
  | 0 => by
    refine F.ok sc_law_is_tree (fun vs H Q E h => ?_) (fun cdv A outer s H vs Q E hr h => ?_)
    · obtain ⟨_, _, _, rfl, _⟩ := h
      rfl
    obtain ⟨_, _, _, _, _, h, _⟩ := h
    exact absurd h (Nat.not_lt_zero _)
  | m' + 1 => by
    have C__law_is_tree : Fok P w K mg base CX (1 + m') "_law_is_tree" ["_law_thing_here", "_law_level"] [] (sp_law_is_tree K m') := fok F (ok_law_is_tree T q F b m m') b m
    refine F.ok sc_law_is_tree (fun vs H Q E h => ?_) (fun cdv A outer s H vs Q E hr h => ?_)
    · obtain ⟨_, _, _, rfl, _⟩ := h
      rfl
    obtain ⟨v, th, l, rfl, hv, hl, hm, q'⟩ := h
    refine ⟨_, (pss_cons (ps_if (PW.pt (pw_and (pt_val (pe_callB (call_isiT "int") rfl T.b_isinstance bb_isinstance (pa_cons (pv 0) (pa_cons (pe_bty T.b_int bt_int) pa_nil)))) (pw_and1 (pt_not (pt_val (pe_callB (call_isiT "bool") rfl T.b_isinstance bb_isinstance (pa_cons (pv 0) (pa_cons (pe_bty T.b_bool bt_bool) pa_nil)))))))) (pss_one (ps_ret (pe_chain op_le op_le pe_int (pv 0) pe_int))) pss_nil) (pss_cons (ps_if (PW.pt (pw_or (pt_not (pt_val (pe_callB (call_isiT "tuple") rfl T.b_isinstance bb_isinstance (pa_cons (pv 0) (pa_cons (pe_bty T.b_tuple bt_tuple) pa_nil))))) (pw_or (pt_cmpR op_ne (pe_callB call_len rfl T.b_len bb_len (pa_cons (pv 0) pa_nil)) pe_int (nomark _)) (pw_or1 (pt_cmpR op_eq (pv 1) pe_int (nomark _)))))) (pss_one (ps_ret pe_bl)) pss_nil) (pss_cons (ps_for PassesOwn.never rfl (pi_tup (pv 0)) (pg_name (i := 2) sc_law_is_tree.nd rfl (Or.inl rfl)) (pss_one (ps_if (pt_not (pt_val (pe_callF C__law_is_tree q hr (pa_cons (pv 2) (pa_cons (pe_op op_sub (pv 1) pe_int) pa_nil)) (hj := by first | decide | omega | (simp only [Nat.add_eq]; omega))))) (pss_one (ps_ret pe_bl)) pss_nil))) (pss_one (ps_ret (pe_or (pe_callB (call_isiT "tuple") rfl T.b_isinstance bb_isinstance (pa_cons (pe_ix ix_tup (pv 0) pe_int (fun _ _ => rfl)) (pa_cons (pe_bty T.b_tuple bt_tuple) pa_nil))) (pe_one (pe_cmpR (op_neD hr) (pv 0) (pe_tupx (pax_c (pe_ix ix_tup (pv 0) pe_int (fun _ _ => rfl)) (pax_c (pe_ix ix_tup (pv 0) pe_int (fun _ _ => rfl)) (pax_c (pe_ix ix_tup (pv 0) pe_int (fun _ _ => rfl)) (pax_c (pe_ix ix_tup (pv 0) pe_int (fun _ _ => rfl)) pax_nil))))) (nomark _))))))))), ?_⟩
    have r0 := q' H (Same.refl H)
    cases hv with
    | int i =>
      refine ⟨_, rfl, _, _, _, rfl, .int i, kit_ii, _, rfl, iteT ?_⟩
      refine ⟨_, rfl, _, _, _, rfl, .int i, kit_ib, _, rfl, iteT ?_⟩
      rw [trOf_int] at r0
      refine ⟨_, rfl, _, _, rfl, rfl, _, rfl, ite2 (fun c => ?_) (fun c => ?_)⟩
      · have c' : (0 : Int) ≤ i := of_decide_eq_true c
        refine ⟨_, _, rfl, rfl, ?_⟩
        show Q (.bl (decide (i ≤ 35))) H
        by_cases h : i ≤ 35
        · rw [if_pos ⟨c', h⟩] at r0; rw [decide_eq_true h]; exact r0
        · rw [if_neg (fun z => h z.2)] at r0; rw [decide_eq_false h]; exact r0
      · rw [if_neg (fun z => c (decide_eq_true z.1))] at r0; exact r0
    | bl bb =>
      rw [trOf_bl] at r0
      refine ⟨_, rfl, _, _, _, rfl, .bl bb, kit_bi, _, rfl, iteT ?_⟩
      refine ⟨_, rfl, _, _, _, rfl, .bl bb, kit_bb, _, rfl, iteF ?_⟩
      exact ⟨_, rfl, _, _, _, rfl, .bl bb, kit_bt, _, rfl, iteT (iteT r0)⟩
    | odd ty k1 k2 =>
      rw [trOf_odd] at r0
      refine ⟨_, rfl, _, _, _, rfl, ty, k1, _, rfl, iteF (iteF ?_)⟩
      exact ⟨_, rfl, _, _, _, rfl, ty, k2, _, rfl, iteT (iteT r0)⟩
    | @tup p xs ts e le lb hh =>
      refine ⟨_, rfl, _, _, _, rfl, .tup e, kit_ti, _, rfl, iteF (iteF ?_)⟩
      refine ⟨_, rfl, _, _, _, rfl, .tup e, kit_tt, _, rfl, iteF ?_⟩
      refine ⟨_, rfl, _, _, rfl, .inr ⟨_, SqT.of e, rfl⟩, rfl, _, rfl, ite2 (fun d => iteT ?_) (fun d => ?_)⟩
      · have d' : (!decide (V.int ((xs.length : Nat) : Int) = V.int 4)) = true := d
        rw [trOf_len (fun h => by rw [le, h] at d'; simp at d')] at r0
        exact r0
      have d' : ¬ (!decide (V.int ((xs.length : Nat) : Int) = V.int 4)) = true := d
      have d2 : V.int ((xs.length : Nat) : Int) = V.int 4 := by simpa using d'
      injection d2 with d3
      have lx : xs.length = 4 := by omega
      rcases l with _ | l
      · rw [trOf_zero] at r0
        exact ⟨_, rfl, rfl, _, rfl, ite2 (fun _ => r0) (fun d => absurd (decide_eq_true rfl) d)⟩
      refine ⟨_, rfl, rfl, _, rfl, ite2 (fun d => absurd (of_decide_eq_true d) (fun h => ?_)) (fun _ => ?_)⟩
      · have h' : V.int ((l + 1 : Nat) : Int) = V.int 0 := h
        injection h' with h'
        omega
      obtain ⟨t0, t1, t2, t3, rfl⟩ : ∃ z0 z1 z2 z3, ts = [z0, z1, z2, z3] := by
        rw [lx] at le
        match ts, le with
        | [z0, z1, z2, z3], _ => exact ⟨z0, z1, z2, z3, rfl⟩
      obtain ⟨x0, x1, x2, x3, rfl⟩ : ∃ z0 z1 z2 z3, xs = [z0, z1, z2, z3] := by
        match xs, lx with
        | [z0, z1, z2, z3], _ => exact ⟨z0, z1, z2, z3, rfl⟩
      refine ⟨_, rfl, p, rfl, ⟨_, SqT.of e⟩, for_tup (xs := [x0, x1, x2, x3]) (fun j σ H2 => Same H H2 ∧ (∀ (i : Nat) (t : Th), i < j → [t0, t1, t2, t3][i]? = some t → (trOf l t).isSome = true) ∧ ∃ o : Option V, σ = [some (.ref p), some (.int ((l + 1 : Nat) : Int)), o]) ⟨Same.refl H, fun i t hi _ => absurd hi (Nat.not_lt_zero _), none, rfl⟩ (fun j σ H2 _ h => SqT.of (h.1 _ _ e)) ?_ ?_⟩
      · rintro j x σ H2 hx ⟨s2, hb, o, rfl⟩
        have hj : j < 4 := (List.getElem?_eq_some_iff.mp hx).1
        obtain ⟨t, ht⟩ : ∃ t, [t0, t1, t2, t3][j]? = some t := ⟨_, List.getElem?_eq_getElem (by exact hj)⟩
        refine ⟨_, rfl, _, rfl, _, _, rfl, rfl, x, t, l, (by show [x, V.int (((l + 1 : Nat) : Int) - 1)] = _; rw [show ((l + 1 : Nat) : Int) - 1 = (l : Int) by omega]), (hh j x t hx ht).up s2, by omega, by omega, fun H3 s3 => ⟨_, rfl, ?_⟩⟩
        cases hs : (trOf l t).isSome with
        | false =>
          have r1 := q' H3 (s2.trans s3)
          rw [show (trOf (l + 1) (.tup [t0, t1, t2, t3])).isSome = false from ?_] at r1
          · exact iteT r1
          · cases hs' : (trOf (l + 1) (.tup [t0, t1, t2, t3])).isSome with
            | false => rfl
            | true =>
              obtain ⟨y0, y1, y2, y3, h0, h1, h2, h3, _⟩ := trOf_four.mp hs'
              rcases at4 ht with ⟨_, rfl⟩ | ⟨_, rfl⟩ | ⟨_, rfl⟩ | ⟨_, rfl⟩
              · rw [h0] at hs; cases hs
              · rw [h1] at hs; cases hs
              · rw [h2] at hs; cases hs
              · rw [h3] at hs; cases hs
        | true =>
          refine iteF ⟨s2.trans s3, fun i t' hi ht' => ?_, _, rfl⟩
          rcases Nat.lt_or_ge i j with h1 | h1
          · exact hb i t' h1 ht'
          · have e1 : i = j := by omega
            subst e1
            rw [ht] at ht'
            rw [← Option.some.inj ht']
            exact hs
      · rintro σ H2 ⟨s2, hb, o, rfl⟩
        obtain ⟨y0, e0⟩ := Option.isSome_iff_exists.mp (hb 0 t0 (by show 0 < 4; decide) rfl)
        obtain ⟨y1, e1⟩ := Option.isSome_iff_exists.mp (hb 1 t1 (by show 1 < 4; decide) rfl)
        obtain ⟨y2, e2⟩ := Option.isSome_iff_exists.mp (hb 2 t2 (by show 2 < 4; decide) rfl)
        obtain ⟨y3, e3⟩ := Option.isSome_iff_exists.mp (hb 3 t3 (by show 3 < 4; decide) rfl)
        obtain ⟨r0', d0⟩ := trOf_at e0 ((hh 0 _ _ rfl rfl).up s2)
        obtain ⟨r1, d1⟩ := trOf_at e1 ((hh 1 _ _ rfl rfl).up s2)
        obtain ⟨r2, d2⟩ := trOf_at e2 ((hh 2 _ _ rfl rfl).up s2)
        obtain ⟨r3, d3⟩ := trOf_at e3 ((hh 3 _ _ rfl rfl).up s2)
        have ef := s2 _ _ e
        have es : (trOf (l + 1) (.tup [t0, t1, t2, t3])).isSome = !oneB y0 y1 y2 y3 := by
          rw [trOf_4, e0, e1, e2, e3]
          cases ho : oneB y0 y1 y2 y3 <;> simp [ho]
        rw [es] at q'
        cases id r0' with
        | four e' =>
          refine ⟨_, rfl, p, _, 0, _, rfl, rfl, SqT.of ef, rfl, _, _, _, rfl, .tup e', kit_tt, _, rfl, iteT ?_⟩
          exact q' H2 s2
        | col i =>
          refine ⟨_, rfl, p, _, 0, _, rfl, rfl, SqT.of ef, rfl, _, _, _, rfl, .int i, kit_it, _, rfl, iteF ?_⟩
          refine ⟨_, rfl, _, rfl, p, _, 0, _, rfl, rfl, SqT.of ef, rfl, _, rfl, p, _, 0, _, rfl, rfl, SqT.of ef, rfl, _, rfl, p, _, 0, _, rfl, rfl, SqT.of ef, rfl, _, rfl, p, _, 0, _, rfl, rfl, SqT.of ef, rfl, (by show 4 ≤ sizeLine; decide), fun pn hn => ?_⟩
          generalize en : upd H2 pn _ = H3
          have s3 : Same H2 H3 := en ▸ Same.new hn _
          have un : H3 pn = some (.tup [.int i, .int i, .int i, .int i]) := by rw [← en]; exact upd_same
          have tA : TrAt H3 (.ref p) (.four (.col i) y1 y2 y3) := .four (s3 _ _ ef) (.col i) (r1.up s3.tups) (r2.up s3.tups) (r3.up s3.tups)
          have tB : TrAt H3 (.ref pn) (.four (.col i) (.col i) (.col i) (.col i)) := .four un (.col i) (.col i) (.col i) (.col i)
          refine ⟨(Tr.four (.col i) y1 y2 y3).data, (Tr.four (.col i) (.col i) (.col i) (.col i)).data, tA.dat, tB.dat, Tr.shaped (by simp only [Tr.deep]; omega), Tr.shaped (by simp only [Tr.deep]; omega), ?_⟩
          have rr := q' H3 (s2.trans s3)
          rw [show (!oneB (.col i) y1 y2 y3) = (if true = true then !PyData.eqv (Tr.four (.col i) y1 y2 y3).data (Tr.four (.col i) (.col i) (.col i) (.col i)).data else PyData.eqv (Tr.four (.col i) y1 y2 y3).data (Tr.four (.col i) (.col i) (.col i) (.col i)).data) from ?_] at rr
          · exact rr
          · rw [if_pos rfl, Tr.eqv]
            congr 1
            rw [Bool.eq_iff_iff, oneB_iff, decide_eq_true_iff]
            constructor
            · rintro ⟨_, rfl, rfl, rfl⟩; rfl
            · intro h
              injection h with h0 h1 h2 h3
              exact ⟨rfl, h1, h2, h3⟩
end
end Qs


namespace Qs
open PySem L2
section
variable {P : Program} {w : World} {K : PySem.W.Frag} {mg : Str → Option Value} {base : Heap} {CX : CXT} {f : Addr} {fd : FuncData}
abbrev s_law_is_sheet : Stmt := top 19
theorem sc_law_is_sheet : FnScope ["_law_thing_here"] ["_law_thing_here"] (defScope s_law_is_sheet) := ⟨rfl, rfl, rfl, by decide +kernel, rfl, by decide +kernel, by decide +kernel⟩
theorem ok_law_is_sheet (T : Tx K mg) (q : Quiet CX) (F : FunD K "_law_is_sheet" "_law_is_sheet" s_law_is_sheet f fd .none) (C__law_is_tree : Fok P w K mg base CX 42 "_law_is_tree" ["_law_thing_here", "_law_level"] [] (sp_law_is_tree K 41)) : FnOk P w K mg base CX 43 f fd ["_law_thing_here"] (sp_is_sheet K) := by
  refine F.ok sc_law_is_sheet (fun vs H Q E h => ?_) (fun cdv A outer s H vs Q E hr h => ?_)
  · obtain ⟨_, _, rfl, _⟩ := h
    rfl
  obtain ⟨v, th, rfl, hv, q'⟩ := h
  refine ⟨_, (pss_cons (ps_if (PW.pt (pw_or (pt_not (pt_val (pe_callB (call_isiT "tuple") rfl T.b_isinstance bb_isinstance (pa_cons (pv 0) (pa_cons (pe_bty T.b_tuple bt_tuple) pa_nil))))) (pw_or1 (pt_cmpR op_ne (pe_callB call_len rfl T.b_len bb_len (pa_cons (pv 0) pa_nil)) pe_int (nomark _))))) (pss_one (ps_ret pe_bl)) pss_nil) (pss_cons (ps_if (PW.pt (pw_or (pt_not (pt_val (pe_callB (call_isiT "int") rfl T.b_isinstance bb_isinstance (pa_cons (pe_ix ix_tup (pv 0) pe_int (fun _ _ => rfl)) (pa_cons (pe_bty T.b_int bt_int) pa_nil))))) (pw_or (pt_val (pe_callB (call_isiT "bool") rfl T.b_isinstance bb_isinstance (pa_cons (pe_ix ix_tup (pv 0) pe_int (fun _ _ => rfl)) (pa_cons (pe_bty T.b_bool bt_bool) pa_nil)))) (pw_or1 (pt_not (pt_chain op_le op_le pe_int (pe_ix ix_tup (pv 0) pe_int (fun _ _ => rfl)) pe_int)))))) (pss_one (ps_ret pe_bl)) pss_nil) (pss_one (ps_ret (pe_callF C__law_is_tree q hr (pa_cons (pe_ix ix_tup (pv 0) pe_int (fun _ _ => rfl)) (pa_cons (pe_ix ix_tup (pv 0) pe_int (fun _ _ => rfl)) pa_nil))))))), ?_⟩
  have r0 := q' H (Same.refl H)
  cases hv with
  | int i => exact ⟨_, rfl, _, _, _, rfl, .int i, kit_it, _, rfl, iteT (iteT r0)⟩
  | bl bb => exact ⟨_, rfl, _, _, _, rfl, .bl bb, kit_bt, _, rfl, iteT (iteT r0)⟩
  | odd ty k1 k2 => exact ⟨_, rfl, _, _, _, rfl, ty, k2, _, rfl, iteT (iteT r0)⟩
  | @tup p xs ts e le lb hh =>
    refine ⟨_, rfl, _, _, _, rfl, .tup e, kit_tt, _, rfl, iteF ?_⟩
    refine ⟨_, rfl, _, _, rfl, .inr ⟨_, SqT.of e, rfl⟩, rfl, _, rfl, ite2 (fun d => ?_) (fun d => ?_)⟩
    · have d' : (!decide (V.int ((xs.length : Nat) : Int) = V.int 2)) = true := d
      rw [shB_len (fun h => by rw [le, h] at d'; simp at d')] at r0
      exact r0
    have d' : ¬ (!decide (V.int ((xs.length : Nat) : Int) = V.int 2)) = true := d
    have d2 : V.int ((xs.length : Nat) : Int) = V.int 2 := by simpa using d'
    injection d2 with d3
    have lx : xs.length = 2 := by omega
    obtain ⟨t0, t1, rfl⟩ : ∃ z0 z1, ts = [z0, z1] := by
      rw [lx] at le
      match ts, le with
      | [z0, z1], _ => exact ⟨z0, z1, rfl⟩
    obtain ⟨x0, x1, rfl⟩ : ∃ z0 z1, xs = [z0, z1] := by
      match xs, lx with
      | [z0, z1], _ => exact ⟨z0, z1, rfl⟩
    have h0 := hh 0 _ _ rfl rfl
    have h1 := hh 1 _ _ rfl rfl
    cases h0 with
    | int i =>
      refine ⟨_, rfl, p, _, 0, _, rfl, rfl, SqT.of e, rfl, _, _, _, rfl, .int i, kit_ii, _, rfl, iteF ?_⟩
      refine ⟨_, rfl, p, _, 0, _, rfl, rfl, SqT.of e, rfl, _, _, _, rfl, .int i, kit_ib, _, rfl, iteF ?_⟩
      rw [shB_2] at r0
      refine ⟨_, rfl, p, _, 0, _, rfl, rfl, SqT.of e, rfl, _, _, rfl, rfl, _, rfl, ite2 (fun c1 => ⟨_, _, rfl, rfl, _, rfl, ite2 (fun c2 => ?_) (fun c2 => ?_)⟩) (fun c1 => ⟨_, rfl, iteT ?_⟩)⟩
      · have c2' : (!decide (i ≤ 40)) = true := c2
        rw [show decide (0 ≤ i ∧ i ≤ 40) = false from decide_eq_false (fun h => by rw [decide_eq_true h.2] at c2'; exact absurd c2' (by decide)), Bool.false_and] at r0
        exact r0
      · have c1' : (0 : Int) ≤ i := of_decide_eq_true c1
        have c2' : ¬ (!decide (i ≤ 40)) = true := c2
        have c3 : i ≤ 40 := by simpa using c2'
        obtain ⟨l, rfl⟩ : ∃ l : Nat, i = (l : Int) := ⟨i.toNat, by omega⟩
        refine ⟨_, rfl, p, _, 1, _, rfl, rfl, SqT.of e, rfl, _, rfl, p, _, 0, _, rfl, rfl, SqT.of e, rfl, x1, t1, l, rfl, h1, by omega, by decide, fun H' sm => ?_⟩
        have r1 := q' H' sm
        rw [shB_2, show decide (0 ≤ (l : Int) ∧ (l : Int) ≤ 40) = true from decide_eq_true ⟨c1', c3⟩, Bool.true_and, Int.toNat_natCast] at r1
        exact r1
      · rw [show decide (0 ≤ i ∧ i ≤ 40) = false from decide_eq_false fun h => c1 (decide_eq_true h.1), Bool.false_and] at r0
        exact r0
    | bl bb =>
      refine ⟨_, rfl, p, _, 0, _, rfl, rfl, SqT.of e, rfl, _, _, _, rfl, .bl bb, kit_bi, _, rfl, iteF ?_⟩
      exact ⟨_, rfl, p, _, 0, _, rfl, rfl, SqT.of e, rfl, _, _, _, rfl, .bl bb, kit_bb, _, rfl, iteT (iteT r0)⟩
    | odd ty k1 k2 => exact ⟨_, rfl, p, _, 0, _, rfl, rfl, SqT.of e, rfl, _, _, _, rfl, ty, k1, _, rfl, iteT (iteT r0)⟩
    | tup e' => exact ⟨_, rfl, p, _, 0, _, rfl, rfl, SqT.of e, rfl, _, _, _, rfl, .tup e', kit_ti, _, rfl, iteT (iteT r0)⟩
abbrev s_law_tree : Stmt := top 13
theorem sc_law_tree : FnScope ["_law_cell", "_law_deep_here", "_law_four", "_law_rest", "_law_k"] ["_law_cell", "_law_deep_here"] (defScope s_law_tree) := ⟨rfl, rfl, rfl, by decide +kernel, rfl, by decide +kernel, by decide +kernel⟩
def sp_law_tree (m : Nat) : Sp := fun vs H Q _ => ∃ (c : Int) (d : Nat), vs = [.int c, .int (d : Int)] ∧ d < m ∧ m ≤ 10 ∧ ∀ v t H', Same H H' → TrAt H' v t → t.deep ≤ d → Q v H'
theorem ok_law_tree (T : Tx K mg) (q : Quiet CX) (F : FunD K "_law_tree" "_law_tree" s_law_tree f fd .none) (b : Binds K fd ["_law_cell", "_law_deep_here"] []) (m : mg "_law_tree" = some (.ref f)) :
    ∀ n, FnOk P w K mg base CX (1 + n) f fd ["_law_cell", "_law_deep_here"] (sp_law_tree n)
  | 0 => by
    refine F.ok sc_law_tree (fun vs H Q E h => ?_) (fun cdv A outer s H vs Q E hr h => ?_)
    · obtain ⟨_, _, rfl, _⟩ := h
      rfl
    obtain ⟨_, _, _, h, _⟩ := h
    exact absurd h (Nat.not_lt_zero _)
  | m' + 1 => by
    have C__law_tree : Fok P w K mg base CX (1 + m') "_law_tree" ["_law_cell", "_law_deep_here"] [] (sp_law_tree m') := fok F (ok_law_tree T q F b m m') b m
    refine F.ok sc_law_tree (fun vs H Q E h => ?_) (fun cdv A outer s H vs Q E hr h => ?_)
    · obtain ⟨_, _, rfl, _⟩ := h
      rfl
    obtain ⟨c, d, rfl, hd, hm, q'⟩ := h
    refine ⟨_, (pss_cons (ps_if (PW.pt (pw_or (pt_cmpR op_eq (pv 1) pe_int (nomark _)) (pw_or1 (pt_cmpR op_eq (pe_op op_mod (pv 0) pe_int) pe_int (nomark _))))) (pss_one (ps_ret (pe_op op_mod (pe_op op_fdivW (pv 0) pe_int) (pe_ix ix_list (pe_lstx (pax_c pe_int (pax_c pe_int pax_nil))) (pe_op op_mod (pe_op op_fdivW (pv 0) pe_int) pe_int) (fun _ _ => rfl))))) pss_nil) (pss_cons (ps_set (i := 2) sc_law_tree.nd rfl (Or.inl rfl) (pe_lstx pax_nil)) (pss_cons (ps_set (i := 3) sc_law_tree.nd rfl (Or.inl rfl) (pe_op op_add (pe_op op_fdivW (pv 0) pe_int) pe_int)) (pss_cons (ps_for PassesOwn.never rfl (pi_range1 rfl T.b_range (pa_cons pe_int pa_nil)) (pg_name (i := 4) sc_law_tree.nd rfl (Or.inl rfl)) (pss_one (ps_expr (pe_bm PySem.F.plainAttrs_list PySem.F.slot_list_append PySem.F.type_list_append mt_append (pv 2) (pa_cons (pe_callF C__law_tree q hr (pa_cons (pe_op op_mod (pe_op op_add (pe_op op_mul (pv 3) (pe_op op_add (pv 4) pe_int)) (pe_op op_mul pe_int (pv 4))) pe_int) (pa_cons (pe_op op_sub (pv 1) pe_int) pa_nil)) (hj := by first | decide | omega | (simp only [Nat.add_eq]; omega))) pa_nil))))) (pss_cons (ps_cut (ps_if (PW.pt (pw_and (pt_cmpR (op_eqD hr) (pv 2) (pe_op op_rep (pe_lstx (pax_c (pe_ix ix_list (pv 2) pe_int (fun _ _ => rfl)) pax_nil)) pe_int) (nomark _)) (pw_and1 (pt_not (pt_val (pe_callB (call_isiT "tuple") rfl T.b_isinstance bb_isinstance (pa_cons (pe_ix ix_list (pv 2) pe_int (fun _ _ => rfl)) (pa_cons (pe_bty T.b_tuple bt_tuple) pa_nil)))))))) (pss_one (ps_asg (pe_op op_mod (pe_op op_add (pe_ix ix_list (pv 2) pe_int (fun _ _ => rfl)) pe_int) pe_int) (pg_sub (pv 2) (pe_op op_mod (pv 0) pe_int) set_list))) pss_nil)) (pss_one (ps_ret (pe_tupx (pax_c (pe_ix ix_list (pv 2) pe_int (fun _ _ => rfl)) (pax_c (pe_ix ix_list (pv 2) pe_int (fun _ _ => rfl)) (pax_c (pe_ix ix_list (pv 2) pe_int (fun _ _ => rfl)) (pax_c (pe_ix ix_list (pv 2) pe_int (fun _ _ => rfl)) pax_nil)))))))))))), ?_⟩
    obtain ⟨dv, hdv, hat⟩ : ∃ dv : Int, 0 < dv ∧ atI [V.int 2, .int 36] (c / 14 % 2) = some (.int dv) := by
      have h : c / 14 % 2 = 0 ∨ c / 14 % 2 = 1 := by omega
      rcases h with h | h <;> rw [h]
      · exact ⟨2, by decide, rfl⟩
      · exact ⟨36, by decide, rfl⟩
    refine ⟨_, rfl, rfl, _, rfl, ite2 (fun _ => iteT ?L1) (fun c1 => ⟨_, rfl, _, _, rfl, rfl, (by show (0 : Int) < 7; decide), rfl, _, rfl, ite2 (fun _ => ?L2) (fun _ => ?R)⟩)⟩
    case L1 =>
      refine ⟨_, rfl, _, _, rfl, rfl, cdivW (by decide) (by decide), (by show 2 ≤ sizeLine; decide), fun l hl => ?_⟩
      exact ⟨_, rfl, _, _, rfl, rfl, cdivW (by decide) (by decide), _, _, rfl, rfl, (by show (0 : Int) < 2; decide), l, _, _, _, rfl, rfl, SqL.of upd_same, hat, _, _, rfl, rfl, hdv, q' _ _ _ (Same.new hl _) (.col _) (Nat.zero_le _)⟩
    case L2 =>
      refine ⟨_, rfl, _, _, rfl, rfl, cdivW (by decide) (by decide), (by show 2 ≤ sizeLine; decide), fun l hl => ?_⟩
      exact ⟨_, rfl, _, _, rfl, rfl, cdivW (by decide) (by decide), _, _, rfl, rfl, (by show (0 : Int) < 2; decide), l, _, _, _, rfl, rfl, SqL.of upd_same, hat, _, _, rfl, rfl, hdv, q' _ _ _ (Same.new hl _) (.col _) (Nat.zero_le _)⟩
    case R =>
      have d0 : d ≠ 0 := fun h => c1 (decide_eq_true (by rw [h]; rfl))
      refine ⟨(by show 0 ≤ sizeLine; decide), fun l hl0 => ?_⟩
      refine ⟨_, rfl, _, _, rfl, rfl, cdivW (by decide) (by decide), _, _, rfl, rfl, ?_⟩
      refine ⟨_, rfl, by decide, by decide, for_range (fun (k : Nat) σ H2 => Same H H2 ∧ ∃ (ys : List V) (o : Option V), H2 l = some (.lst ys) ∧ ys.length = k ∧ (∀ u ∈ ys, ∃ r, TrAt H2 u r ∧ r.deep ≤ d - 1) ∧ σ = [some (.int c), some (.int (d : Int)), some (.ref l), some (.int (c / 7 + 3)), o]) ⟨Same.new hl0 _, [], none, upd_same, rfl, fun u hu => absurd hu (by simp), rfl⟩ ?_ ?_⟩
      · rintro k σ H2 hk ⟨s2, ys, o, u2, ly, hys, rfl⟩
        have hk' : k < 4 := hk
        rw [show (0 : Int) + (k : Int) = (k : Int) by omega]
        refine ⟨_, rfl, .inl ⟨rfl, _, SqL.of u2⟩, _, rfl, _, rfl, _, _, rfl, rfl, _, _, rfl, rfl, .inr ⟨by omega, by omega⟩, _, rfl, _, _, rfl, rfl, .inl ⟨by decide, by decide⟩, _, _, rfl, rfl, _, _, rfl, rfl, (by show (0 : Int) < 1000003; decide), _, rfl, _, _, rfl, rfl, _, d - 1, (by show [V.int _, V.int ((d : Int) - 1)] = [V.int _, V.int ((d - 1 : Nat) : Int)]; rw [show (d : Int) - 1 = ((d - 1 : Nat) : Int) by omega]), by omega, by omega, fun v' r H3 s3 hv dv => ?_⟩
        have u3 := s3 _ _ u2
        have tl := Tups.lst (ys := ys ++ [v']) u3
        refine ⟨l, ys, _, rfl, rfl, u3, small1000 (by omega), Same.set (s2.trans s3) hl0 _, ys ++ [v'], _, upd_same, by rw [List.length_append, ly]; rfl, fun g hg => ?_, rfl⟩
        rcases List.mem_append.mp hg with hg | hg
        · obtain ⟨r1, w1, w2⟩ := hys g hg
          exact ⟨r1, w1.up (s3.tups.trans tl), w2⟩
        · rw [List.mem_singleton.mp hg]
          exact ⟨r, hv.up tl, dv⟩
      · rintro σ H4 ⟨s4, ys, o, u4, ly, hys, rfl⟩
        have ly' : ys.length = 4 := ly
        obtain ⟨xa, xb, xc, xd, rfl⟩ : ∃ z0 z1 z2 z3, ys = [z0, z1, z2, z3] := by
          match ys, ly' with
          | [z0, z1, z2, z3], _ => exact ⟨z0, z1, z2, z3, rfl⟩
        obtain ⟨ta, ja, ga⟩ := hys xa (by simp)
        obtain ⟨tb, jb, gb⟩ := hys xb (by simp)
        obtain ⟨tc, jc, gc⟩ := hys xc (by simp)
        obtain ⟨td, jd, gd⟩ := hys xd (by simp)
        clear hys
        refine ⟨fun σ H5 => Same H H5 ∧ ∃ (ya yb yc yd : V) (sa sb sc sd : Tr), H5 l = some (.lst [ya, yb, yc, yd]) ∧ TrAt H5 ya sa ∧ TrAt H5 yb sb ∧ TrAt H5 yc sc ∧ TrAt H5 yd sd ∧ (sa.deep ≤ d - 1 ∧ sb.deep ≤ d - 1 ∧ sc.deep ≤ d - 1 ∧ sd.deep ≤ d - 1) ∧ σ = [some (.int c), some (.int (d : Int)), some (.ref l), some (.int (c / 7 + 3)), o], ?_, ?_⟩
        · refine ⟨_, rfl, _, rfl, l, _, 0, xa, rfl, rfl, SqL.of u4, rfl, (by show 1 ≤ sizeLine; decide), fun m1 hm1 => ?_⟩
          refine ⟨m1, 4, _, rfl, rfl, upd_same, by decide, by decide, (by show 4 ≤ sizeLine; decide), fun m2 hm2 => ?_⟩
          have er : (List.replicate (4 : Int).toNat [xa]).flatten = [xa, xa, xa, xa] := rfl
          rw [er]
          have sy := (Same.new hm1 (.lst [xa])).trans (Same.new hm2 (.lst [xa, xa, xa, xa]))
          have um : upd (upd H4 m1 (.lst [xa])) m2 (.lst [xa, xa, xa, xa]) m2 = some (.lst [xa, xa, xa, xa]) := upd_same
          generalize upd (upd H4 m1 (.lst [xa])) m2 (.lst [xa, xa, xa, xa]) = H5 at *
          have ka := ja.up sy.tups
          have kb := jb.up sy.tups
          have kc := jc.up sy.tups
          have kd := jd.up sy.tups
          have u5 := sy _ _ u4
          have s5 := s4.trans sy
          have fin : Same H H5 ∧ ∃ (ya yb yc yd : V) (sa sb sc sd : Tr), H5 l = some (.lst [ya, yb, yc, yd]) ∧ TrAt H5 ya sa ∧ TrAt H5 yb sb ∧ TrAt H5 yc sc ∧ TrAt H5 yd sd ∧ (sa.deep ≤ d - 1 ∧ sb.deep ≤ d - 1 ∧ sc.deep ≤ d - 1 ∧ sd.deep ≤ d - 1) ∧ [some (V.int c), some (.int (d : Int)), some (.ref l), some (.int (c / 7 + 3)), o] = [some (.int c), some (.int (d : Int)), some (.ref l), some (.int (c / 7 + 3)), o] := ⟨s5, xa, xb, xc, xd, ta, tb, tc, td, u5, ka, kb, kc, kd, ⟨ga, gb, gc, gd⟩, rfl⟩
          refine ⟨_, _, .lst u5 (.cons ka.dat (.cons kb.dat (.cons kc.dat (.cons kd.dat .nil)))), .lst um (.cons ka.dat (.cons ka.dat (.cons ka.dat (.cons ka.dat .nil)))), shaped4 (by omega) (by omega) (by omega) (by omega), shaped4 (by omega) (by omega) (by omega) (by omega), _, rfl, ite2 (fun _ => ?_) (fun _ => iteF fin)⟩
          cases id ka with
          | four e' => exact ⟨_, rfl, l, _, 0, _, rfl, rfl, SqL.of u5, rfl, _, _, _, rfl, .tup e', kit_tt, _, rfl, iteF fin⟩
          | col i =>
            refine ⟨_, rfl, l, _, 0, _, rfl, rfl, SqL.of u5, rfl, _, _, _, rfl, .int i, kit_it, _, rfl, iteT ?_⟩
            obtain ⟨e, he, ee⟩ := four_of c
            have hix : ixN [V.int i, xb, xc, xd].length (e : Int) = some e := by
              unfold ixN
              rw [if_pos (by omega), if_pos (by simp; omega), Int.toNat_natCast]
            refine ⟨_, rfl, l, _, 0, _, rfl, rfl, SqL.of u5, rfl, _, _, rfl, rfl, _, _, rfl, rfl, (by show (0 : Int) < 36; decide), _, rfl, _, rfl, _, _, rfl, rfl, (by show (0 : Int) < 4; decide), l, [V.int i, xb, xc, xd], (e : Int), e, rfl, congrArg V.int ee, u5, hix, ?_⟩
            have tl := fun zs : List V => Tups.lst (ys := zs) u5
            rcases e with _ | _ | _ | _ | e
            · exact ⟨Same.set s5 hl0 _, _, _, _, _, .col _, tb, tc, td, upd_same, .col _, kb.up (tl _), kc.up (tl _), kd.up (tl _), ⟨Nat.zero_le _, gb, gc, gd⟩, rfl⟩
            · exact ⟨Same.set s5 hl0 _, _, _, _, _, .col _, .col _, tc, td, upd_same, .col _, .col _, kc.up (tl _), kd.up (tl _), ⟨ga, Nat.zero_le _, gc, gd⟩, rfl⟩
            · exact ⟨Same.set s5 hl0 _, _, _, _, _, .col _, tb, .col _, td, upd_same, .col _, kb.up (tl _), .col _, kd.up (tl _), ⟨ga, gb, Nat.zero_le _, gd⟩, rfl⟩
            · exact ⟨Same.set s5 hl0 _, _, _, _, _, .col _, tb, tc, .col _, upd_same, .col _, kb.up (tl _), kc.up (tl _), .col _, ⟨ga, gb, gc, Nat.zero_le _⟩, rfl⟩
            · omega
        · rintro σ H5 ⟨s5, ya, yb, yc, yd, sa, sb, sc, sd, u5, ka, kb, kc, kd, ⟨g1, g2, g3, g4⟩, rfl⟩
          refine ⟨_, rfl, l, _, 0, _, rfl, rfl, SqL.of u5, rfl, _, rfl, l, _, 1, _, rfl, rfl, SqL.of u5, rfl, _, rfl, l, _, 2, _, rfl, rfl, SqL.of u5, rfl, _, rfl, l, _, 3, _, rfl, rfl, SqL.of u5, rfl, (by show 4 ≤ sizeLine; decide), fun p hp => ?_⟩
          have sn := Same.new hp (.tup [ya, yb, yc, yd])
          exact q' _ (.four sa sb sc sd) _ (s5.trans sn) (.four upd_same (ka.up sn.tups) (kb.up sn.tups) (kc.up sn.tups) (kd.up sn.tups)) (by simp only [Tr.deep]; omega)
end
end Qs


namespace Qs
open PySem L2
theorem cp30 : CPow 10 30 := ⟨by decide, by decide, by decide⟩
theorem round_at {K : PySem.W.Frag} {H : Hp} {u : V} {t : Th} {i0 i1 i2 i3 : Int} {n e : Nat} (he : e < 4) (hu : ThAt K H u t) (hq : Q4 n t) : ∃ a b c d ta tb tc td, (cutV [V.int i0, .int i1, .int i2, .int i3] none (some (e : Int)) ++ [u]) ++ cutV [V.int i0, .int i1, .int i2, .int i3] (some ((e : Int) + 1)) none = [a, b, c, d] ∧
    ThAt K H a ta ∧ ThAt K H b tb ∧ ThAt K H c tc ∧ ThAt K H d td ∧ ∀ x ∈ [ta, tb, tc, td], Q4 n x := by
  rcases e with _ | _ | _ | _ | e
  · exact ⟨_, _, _, _, _, _, _, _, rfl, hu, .int _, .int _, .int _, by simp only [List.mem_cons, List.not_mem_nil, or_false, forall_eq_or_imp, forall_eq]; exact ⟨hq, q4_int, q4_int, q4_int⟩⟩
  · exact ⟨_, _, _, _, _, _, _, _, rfl, .int _, hu, .int _, .int _, by simp only [List.mem_cons, List.not_mem_nil, or_false, forall_eq_or_imp, forall_eq]; exact ⟨q4_int, hq, q4_int, q4_int⟩⟩
  · exact ⟨_, _, _, _, _, _, _, _, rfl, .int _, .int _, hu, .int _, by simp only [List.mem_cons, List.not_mem_nil, or_false, forall_eq_or_imp, forall_eq]; exact ⟨q4_int, q4_int, hq, q4_int⟩⟩
  · exact ⟨_, _, _, _, _, _, _, _, rfl, .int _, .int _, .int _, hu, by simp only [List.mem_cons, List.not_mem_nil, or_false, forall_eq_or_imp, forall_eq]; exact ⟨q4_int, q4_int, q4_int, hq⟩⟩
  · omega
theorem spoil_at {K : PySem.W.Frag} {H : Hp} {u x0 x1 x2 x3 : V} {t t0 t1 t2 t3 : Th} {n e : Nat} (he : e < 4) (hu : ThAt K H u t) (h0 : ThAt K H x0 t0) (h1 : ThAt K H x1 t1) (h2 : ThAt K H x2 t2) (h3 : ThAt K H x3 t3) (hq : DepLe n t) (hs : ∀ x ∈ [t0, t1, t2, t3], DepLe n x) :
    ∃ a b c d ta tb tc td, (cutV [x0, x1, x2, x3] none (some (e : Int)) ++ [u]) ++ cutV [x0, x1, x2, x3] (some ((e : Int) + 1)) none = [a, b, c, d] ∧
    ThAt K H a ta ∧ ThAt K H b tb ∧ ThAt K H c tc ∧ ThAt K H d td ∧ ∀ x ∈ [ta, tb, tc, td], DepLe n x := by
  simp only [List.mem_cons, List.not_mem_nil, or_false, forall_eq_or_imp, forall_eq] at hs
  obtain ⟨s0, s1, s2, s3⟩ := hs
  rcases e with _ | _ | _ | _ | e
  · exact ⟨_, _, _, _, _, _, _, _, rfl, hu, h1, h2, h3, by simp only [List.mem_cons, List.not_mem_nil, or_false, forall_eq_or_imp, forall_eq]; exact ⟨hq, s1, s2, s3⟩⟩
  · exact ⟨_, _, _, _, _, _, _, _, rfl, h0, hu, h2, h3, by simp only [List.mem_cons, List.not_mem_nil, or_false, forall_eq_or_imp, forall_eq]; exact ⟨s0, hq, s2, s3⟩⟩
  · exact ⟨_, _, _, _, _, _, _, _, rfl, h0, h1, hu, h3, by simp only [List.mem_cons, List.not_mem_nil, or_false, forall_eq_or_imp, forall_eq]; exact ⟨s0, s1, hq, s3⟩⟩
  · exact ⟨_, _, _, _, _, _, _, _, rfl, h0, h1, h2, hu, by simp only [List.mem_cons, List.not_mem_nil, or_false, forall_eq_or_imp, forall_eq]; exact ⟨s0, s1, s2, hq⟩⟩
  · omega
theorem ThAt.ints {K : PySem.W.Frag} {H : Hp} {p : Addr} (is : List Int) (h : H p = some (.tup (is.map V.int))) (hl : is.length ≤ 100) : ThAt K H (.ref p) (.tup (is.map Th.int)) := by
  refine .tup h (by simp) (by simpa using hl) fun i x t hx ht => ?_
  rw [List.getElem?_map] at hx ht
  cases hi : is[i]? with
  | none => rw [hi] at hx; cases hx
  | some j =>
    rw [hi] at hx ht
    rw [← Option.some.inj hx, ← Option.some.inj ht]
    exact .int j
theorem dep4 {n : Nat} {a b c d : Th} (ha : DepLe n a) (hb : DepLe n b) (hc : DepLe n c) (hd : DepLe n d) : DepLe (n + 1) (.tup [a, b, c, d]) := fun t ht => by
  simp only [List.mem_cons, List.not_mem_nil, or_false] at ht
  rcases ht with rfl | rfl | rfl | rfl <;> assumption
theorem kit_nt {K : PySem.W.Frag} : PySem.W.kitOne K (.type "NoneType") (.type "tuple") = some false := by kernel_rfl
theorem kit_st {K : PySem.W.Frag} : PySem.W.kitOne K (.type "str") (.type "tuple") = some false := by kernel_rfl
theorem kit_lt {K : PySem.W.Frag} : PySem.W.kitOne K (.type "list") (.type "tuple") = some false := by kernel_rfl
theorem kit_dt {K : PySem.W.Frag} : PySem.W.kitOne K (.type "dict") (.type "tuple") = some false := by kernel_rfl
theorem dep_ints {n : Nat} (is : List Int) : DepLe (n + 1) (.tup (is.map Th.int)) := fun t ht => by
  obtain ⟨i, _, rfl⟩ := List.mem_map.mp ht
  exact dep_int
section
variable {P : Program} {w : World} {K : PySem.W.Frag} {mg : Str → Option Value} {base : Heap} {CX : CXT} {f : Addr} {fd : FuncData}
abbrev s_law_round : Stmt := top 14
theorem sc_law_round : FnScope ["_law_tree_here", "_law_cell", "_law_many", "_law_k", "_law_others", "_law_at_here"] ["_law_tree_here", "_law_cell", "_law_many"] (defScope s_law_round) := ⟨rfl, rfl, rfl, by decide +kernel, rfl, by decide +kernel, by decide +kernel⟩
def sp_law_round (K : PySem.W.Frag) : Sp := fun vs H Q _ => ∃ (v : V) (th : Th) (c : Int) (many d : Nat), vs = [v, .int c, .int (many : Int)] ∧ ThAt K H v th ∧ Q4 d th ∧ many ≤ 38 ∧ ∀ v' th' H', Same H H' → ThAt K H' v' th' → Q4 (d + many) th' → Q v' H'
theorem ok_law_round (T : Tx K mg) (F : FunD K "_law_round" "_law_round" s_law_round f fd .none) : FnOk P w K mg base CX 1 f fd ["_law_tree_here", "_law_cell", "_law_many"] (sp_law_round K) := by
  refine F.ok sc_law_round (fun vs H Q E h => ?_) (fun cdv A outer s H vs Q E hr h => ?_)
  · obtain ⟨_, _, _, _, _, rfl, _⟩ := h
    rfl
  obtain ⟨v, th, c, many, d, rfl, hv, hd, hm, q'⟩ := h
  refine ⟨_, (pss_cons (ps_for PassesOwn.never rfl (pi_range1 rfl T.b_range (pa_cons (pv 2) pa_nil)) (pg_name (i := 3) sc_law_round.nd rfl (Or.inl rfl)) (pss_cons (ps_setC (i0 := 4) (N' := ["_law_j", "_law_cell"]) ["_law_cell"] ["_law_cell"] [1] 1 (by with_unfolding_all rfl) rfl (capsOk_cons rfl rfl (by decide) capsOk_nil) rfl rfl (by decide) rfl (by decide +kernel) rfl (by decide +kernel) rfl (pi_range1 rfl T.b_range (pa_cons pe_int pa_nil)) (fun C s0 H0 fp pins => (pg_name (i := 0) (show (["_law_j", "_law_cell"] : List Str).Nodup by decide +kernel) rfl (Or.inl rfl) (Or.inr rfl))) (fun C s0 H0 fp pins => (pe_op op_mod (pe_op op_add (pe_op op_fdivW (pv 1) pe_int) (pv 0)) pe_int)) sc_law_round.nd rfl (Or.inl rfl)) (pss_cons (ps_set (i := 5) sc_law_round.nd rfl (Or.inl rfl) (pe_op op_mod (pe_op op_add (pv 1) (pv 3)) pe_int)) (pss_one (ps_set (i := 0) sc_law_round.nd rfl (Or.inl rfl) (pe_callTy call_tuple_of rfl T.b_tuple bt_tuple (pa_cons (pe_op op_cat (pe_op op_cat (pe_slice sl_list (pv 4) po_none (po_some (pv 5))) (pe_lstx (pax_c (pv 0) pax_nil))) (pe_slice sl_list (pv 4) (po_some (pe_op op_add (pv 5) pe_int)) po_none)) pa_nil))))))) (pss_one (ps_ret (pv 0)))), ?_⟩
  refine ⟨_, rfl, _, rfl, by omega, by omega, for_range (fun (k : Nat) σ H2 => Same H H2 ∧ ∃ (u : V) (t : Th) (o3 o4 o5 : Option V), ThAt K H2 u t ∧ Q4 (d + k) t ∧ σ = [some u, some (.int c), some (.int (many : Int)), o3, o4, o5]) ⟨Same.refl H, v, th, none, none, none, hv, hd, rfl⟩ ?_ ?_⟩
  · rintro k σ H2 hk ⟨s2, u, t, o3, o4, o5, hu, hq, rfl⟩
    refine ⟨[.int c], rfl, 4, rfl, by decide, by decide, compC_range (fun D (j : Nat) ys H' => Same H2 H' ∧ H' D = some (.lst ys) ∧ ∃ is : List Int, is.length = j ∧ ys = is.map V.int) (by show 4 ≤ sizeLine; decide) (fun D j ys H' h => ⟨h.2.1, by obtain ⟨is, l, rfl⟩ := h.2.2; simp [l]⟩) (fun D hD => ⟨Same.new hD _, upd_same, [], rfl, rfl⟩) ?_ ?_ (fun _ _ _ _ _ k h => k _ _ h) ?_⟩
    · rintro D j ys H' hj hD ⟨c1, c2, is, li, rfl⟩
      exact ⟨rfl, _, rfl, _, _, rfl, rfl, cdivW (by decide) (by decide), _, rfl, _, _, rfl, rfl, _, _, rfl, rfl, (by show (0 : Int) < 36; decide), c2, Same.set c1 hD _, upd_same, is ++ [_], by rw [List.length_append, li]; rfl, by rw [List.map_append]; rfl⟩
    · rintro D ys H3 hD ⟨c1, c2, is, li, rfl⟩
      obtain ⟨i0, i1, i2, i3, rfl⟩ : ∃ z0 z1 z2 z3, is = [z0, z1, z2, z3] := by
        match is, li with
        | [z0, z1, z2, z3], _ => exact ⟨z0, z1, z2, z3, rfl⟩
      obtain ⟨e, he, ee⟩ := four_of (c + (0 + (k : Int)))
      refine ⟨_, rfl, _, rfl, _, _, rfl, rfl, _, _, rfl, rfl, (by show (0 : Int) < 4; decide), ?_⟩
      rw [show (fun i j : Int => V.int (i % j)) (c + (0 + (k : Int))) 4 = V.int (e : Int) from congrArg V.int ee]
      refine ⟨_, rfl, _, rfl, _, rfl, D, _, rfl, SqL.of c2, fun p1 h1 => ?_⟩
      generalize e1 : upd H3 p1 _ = A1
      have t1 : Same H3 A1 := e1 ▸ Same.new h1 _
      have u1 : A1 p1 = some (.lst (cutV [V.int i0, .int i1, .int i2, .int i3] none (some (e : Int)))) := by rw [← e1]; exact upd_same
      refine ⟨_, rfl, (by show 1 ≤ sizeLine; decide), fun p2 h2 => ?_⟩
      generalize e2 : upd A1 p2 _ = A2
      have t2 : Same A1 A2 := e2 ▸ Same.new h2 _
      have u2 : A2 p2 = some (.lst [u]) := by rw [← e2]; exact upd_same
      have l1 := cutV_length [V.int i0, .int i1, .int i2, .int i3] none (some (e : Int))
      have l2 := cutV_length [V.int i0, .int i1, .int i2, .int i3] (some ((e : Int) + 1)) none
      have l4 : [V.int i0, .int i1, .int i2, .int i3].length = 4 := rfl
      have z1 : (cutV [V.int i0, .int i1, .int i2, .int i3] none (some (e : Int))).length + [u].length ≤ 1000 := by show _ + 1 ≤ 1000; omega
      have z2 : (cutV [V.int i0, .int i1, .int i2, .int i3] none (some (e : Int)) ++ [u]).length + (cutV [V.int i0, .int i1, .int i2, .int i3] (some ((e : Int) + 1)) none).length ≤ 1000 := by rw [List.length_append]; show _ + 1 + _ ≤ 1000; omega
      refine ⟨p1, p2, _, _, rfl, rfl, t2 _ _ u1, u2, small z1, fun p3 h3 => ?_⟩
      generalize e3 : upd A2 p3 _ = A3
      have t3 : Same A2 A3 := e3 ▸ Same.new h3 _
      have u3 : A3 p3 = some (.lst (cutV [V.int i0, .int i1, .int i2, .int i3] none (some (e : Int)) ++ [u])) := by rw [← e3]; exact upd_same
      refine ⟨_, rfl, _, rfl, _, _, rfl, rfl, _, rfl, D, _, rfl, SqL.of ((t1.trans (t2.trans t3)) _ _ c2), fun p4 h4 => ?_⟩
      generalize e4 : upd A3 p4 _ = A4
      have t4 : Same A3 A4 := e4 ▸ Same.new h4 _
      have u4 : A4 p4 = some (.lst (cutV [V.int i0, .int i1, .int i2, .int i3] (some ((e : Int) + 1)) none)) := by rw [← e4]; exact upd_same
      refine ⟨p3, p4, _, _, rfl, rfl, t4 _ _ u3, u4, small z2, fun p5 h5 => ?_⟩
      generalize e5 : upd A4 p5 _ = A5
      have t5 : Same A4 A5 := e5 ▸ Same.new h5 _
      have u5 : A5 p5 = some (.lst ((cutV [V.int i0, .int i1, .int i2, .int i3] none (some (e : Int)) ++ [u]) ++ cutV [V.int i0, .int i1, .int i2, .int i3] (some ((e : Int) + 1)) none)) := by rw [← e5]; exact upd_same
      refine ⟨p5, _, rfl, .inl ⟨SqL.of u5, fun p6 h6 => ?_⟩⟩
      generalize e6 : upd A5 p6 _ = A6
      have t6 : Same A5 A6 := e6 ▸ Same.new h6 _
      have u6 : A6 p6 = some (.tup ((cutV [V.int i0, .int i1, .int i2, .int i3] none (some (e : Int)) ++ [u]) ++ cutV [V.int i0, .int i1, .int i2, .int i3] (some ((e : Int) + 1)) none)) := by rw [← e6]; exact upd_same
      have st := c1.trans (t1.trans (t2.trans (t3.trans (t4.trans (t5.trans t6)))))
      obtain ⟨xa, xb, xc, xd, ta, tb, tc, td, eL, ra, rb, rc, rd, rq⟩ := round_at (K := K) (H := A6) (i0 := i0) (i1 := i1) (i2 := i2) (i3 := i3) he (hu.up st) hq
      rw [eL] at u6
      exact ⟨s2.trans st, .ref p6, .tup [ta, tb, tc, td], _, _, _, .tup u6 rfl (by show 4 ≤ 100; decide) (th4 ra rb rc rd), ⟨rfl, rq⟩, rfl⟩
    · rintro σ H' R R' k2 ⟨a1, f1, j1, j2, g1, g2, g3, a2, f2, j3, j4, g4, g5, j5, j6, g6, g7, g8, h⟩
      exact ⟨a1, f1, j1, j2, g1, g2, g3, a2, f2, j3, j4, g4, g5, j5, j6, g6, g7, g8, k2 _ _ h⟩
  · rintro σ H2 ⟨s2, u, t, o3, o4, o5, hu, hq, rfl⟩
    exact ⟨_, rfl, q' u t H2 s2 hu (by rw [Int.toNat_natCast] at hq; exact hq)⟩
abbrev s_law_spoiled : Stmt := top 15
theorem sc_law_spoiled : FnScope ["_law_tree_here", "_law_cell", "_law_at_here", "_law_some"] ["_law_tree_here", "_law_cell"] (defScope s_law_spoiled) := ⟨rfl, rfl, rfl, by decide +kernel, rfl, by decide +kernel, by decide +kernel⟩
def sp_law_spoiled (K : PySem.W.Frag) (m : Nat) : Sp := fun vs H Q _ => ∃ (v : V) (th : Th) (c : Int) (n : Nat), vs = [v, .int c] ∧ ThAt K H v th ∧ Q4 n th ∧ n < m ∧ m ≤ 60 ∧ ∀ v' th' H', Same H H' → ThAt K H' v' th' → DepLe (n + 3) th' → Q v' H'
theorem ok_law_spoiled (T : Tx K mg) (q : Quiet CX) (F : FunD K "_law_spoiled" "_law_spoiled" s_law_spoiled f fd .none) (b : Binds K fd ["_law_tree_here", "_law_cell"] []) (m : mg "_law_spoiled" = some (.ref f)) :
    ∀ n, FnOk P w K mg base CX (1 + n) f fd ["_law_tree_here", "_law_cell"] (sp_law_spoiled K n)
  | 0 => by
    refine F.ok sc_law_spoiled (fun vs H Q E h => ?_) (fun cdv A outer s H vs Q E hr h => ?_)
    · obtain ⟨_, _, _, _, rfl, _⟩ := h
      rfl
    obtain ⟨_, _, _, _, _, _, _, h, _⟩ := h
    exact absurd h (Nat.not_lt_zero _)
  | m' + 1 => by
    have C__law_spoiled : Fok P w K mg base CX (1 + m') "_law_spoiled" ["_law_tree_here", "_law_cell"] [] (sp_law_spoiled K m') := fok F (ok_law_spoiled T q F b m m') b m
    refine F.oks sc_law_spoiled (fun vs H Q E h => ?_) (fun cdv A outer s H vs Q E hr h => ?_)
    · obtain ⟨_, _, _, _, rfl, _⟩ := h
      rfl
    obtain ⟨v, th, c, n, rfl, hv, hq, hn, hm, q'⟩ := h
    refine ⟨_, (pssx_cons (PSx.mk (ps_if (PW.pt (pw_and (pt_val (pe_callB (call_isiT "tuple") rfl T.b_isinstance bb_isinstance (pa_cons (pv 0) (pa_cons (pe_bty T.b_tuple bt_tuple) pa_nil)))) (pw_and1 (pt_cmpR op_gt (pe_op op_mod (pv 1) pe_int) pe_int (nomark _))))) (pss_cons (ps_set (i := 2) sc_law_spoiled.nd rfl (Or.inl rfl) (pe_op op_mod (pe_op op_fdivW (pv 1) pe_int) pe_int) (hs := swaps_of rfl)) (pss_one (ps_ret (pe_op op_catE (pe_op op_catE (pe_slice sl_tup (pv 0) po_none (po_some (pv 2))) (pe_tupx (pax_c (pe_callF C__law_spoiled q hr (pa_cons (pe_ix ix_tup (pv 0) (pv 2) (fun _ _ => rfl)) (pa_cons (pe_op op_fdivW (pv 1) pe_int) pa_nil)) (hj := by first | decide | omega | (simp only [Nat.add_eq]; omega))) pax_nil))) (pe_slice sl_tup (pv 0) (po_some (pe_op op_add (pv 2) pe_int)) po_none))))) pss_nil)) (pssx_cons (psx_set (i := 3) sc_law_spoiled.nd rfl (Or.inl rfl) (pex_lst (pax_cx (PEx.mk pe_int) (pax_cx (PEx.mk (pe_un un_neg pe_int)) (pax_cx (PEx.mk (pe_op op_add pe_int (pe_op op_mod (pe_op op_fdivW (pv 1) pe_int) (pe_op op_pow pe_int pe_int)))) (pax_cx (PEx.mk pe_bl) (pax_cx (PEx.mk pe_bl) (pax_cx (PEx.mk pe_non) (pax_cx (PEx.mk pe_str) (pax_cx (pex_lst (pax_cx (PEx.mk pe_int) (pax_cx (PEx.mk pe_int) (pax_cx (PEx.mk pe_int) (pax_cx (PEx.mk pe_int) pax_nil))))) (pax_cx (pex_tup (pax_cx (PEx.mk pe_int) (pax_cx (PEx.mk pe_int) (pax_cx (PEx.mk pe_int) pax_nil)))) (pax_cx (pex_tup (pax_cx (PEx.mk pe_int) (pax_cx (PEx.mk pe_int) (pax_cx (PEx.mk pe_int) (pax_cx (PEx.mk pe_int) (pax_cx (PEx.mk pe_int) pax_nil)))))) pax_nil)))))))))))) (pssx_cons (psx_setop (i := 3) sc_law_spoiled.nd rfl (Or.inl rfl) (pex_op op_cat (PEx.mk (pv 3)) (pex_lst (pax_cx (pex_tup (pax_cx (PEx.mk pe_int) (pax_cx (PEx.mk pe_int) (pax_cx (PEx.mk pe_int) (pax_cx (PEx.mk pe_int) pax_nil))))) (pax_cx (pex_tup (pax_cx (PEx.mk pe_int) (pax_cx (PEx.mk pe_int) (pax_cx (PEx.mk pe_int) (pax_cx (PEx.mk pe_int) pax_nil))))) (pax_cx (pex_tup pax_nil) (pax_cx (PEx.mk pe_dnewK) (pax_cx (pex_tup (pax_cx (pex_tup (pax_cx (PEx.mk pe_int) (pax_cx (PEx.mk pe_int) (pax_cx (PEx.mk pe_int) (pax_cx (PEx.mk pe_int) pax_nil))))) (pax_cx (PEx.mk pe_int) (pax_cx (PEx.mk pe_int) (pax_cx (PEx.mk pe_int) pax_nil))))) (pax_cx (pex_tup (pax_cx (PEx.mk pe_bl) (pax_cx (PEx.mk pe_int) (pax_cx (PEx.mk pe_int) (pax_cx (PEx.mk pe_int) pax_nil))))) pax_nil))))))))) (pssx_one (PSx.mk (ps_ret (pe_ix ix_list (pv 3) (pe_op op_mod (pe_op op_fdivW (pv 1) pe_int) pe_int) (fun _ _ => rfl)))))))), ?_⟩
    have p30 : (0 : Int) < 10 ^ (30 : Int).toNat := by decide +kernel
    obtain ⟨big, ebig⟩ : ∃ big : Int, big = 36 + c / 36 % 10 ^ (30 : Int).toNat := ⟨_, rfl⟩
    cases id hv with
    | bl bb => exact (q4_bl hq).elim
    | odd a b c => exact (q4_odd hq).elim
    | int i =>
      refine ⟨_, rfl, _, _, _, rfl, .int i, kit_it, _, rfl, iteF (iteF ?_)⟩
      refine ⟨_, rfl, _, rfl, _, _, rfl, rfl, cdivW (by decide) (by decide), _, _, rfl, rfl, cp30, _, _, rfl, rfl, p30, _, _, rfl, rfl, (by show 4 ≤ sizeLine; decide), fun p1 g1 => ?_⟩
      generalize e1 : upd H p1 _ = B1
      have t1 : Same H B1 := e1 ▸ Same.new g1 _
      have u1 : B1 p1 = some (.lst [.int 0, .int 1, .int 0, .int 0]) := by rw [← e1]; exact upd_same
      refine ⟨(by show 3 ≤ sizeLine; decide), fun p2 g2 => ?_⟩
      generalize e2 : upd B1 p2 _ = B2
      have t2 : Same B1 B2 := e2 ▸ Same.new g2 _
      have u2 : B2 p2 = some (.tup [.int 0, .int 1, .int 2]) := by rw [← e2]; exact upd_same
      refine ⟨(by show 5 ≤ sizeLine; decide), fun p3 g3 => ?_⟩
      generalize e3 : upd B2 p3 _ = B3
      have t3 : Same B2 B3 := e3 ▸ Same.new g3 _
      have u3 : B3 p3 = some (.tup [.int 0, .int 1, .int 0, .int 1, .int 0]) := by rw [← e3]; exact upd_same
      refine ⟨(by show 10 ≤ sizeLine; decide), fun p4 g4 => ?_⟩
      generalize e4 : upd B3 p4 _ = B4
      have t4 : Same B3 B4 := e4 ▸ Same.new g4 _
      have u4 : B4 p4 = some (.lst [.int 36, .int (-1), .int big, .bl true, .bl false, .non, .str "1", .ref p1, .ref p2, .ref p3]) := by rw [← e4, ebig]; exact upd_same
      refine ⟨_, rfl, (by show 4 ≤ sizeLine; decide), fun p5 g5 => ?_⟩
      generalize e5 : upd B4 p5 _ = B5
      have t5 : Same B4 B5 := e5 ▸ Same.new g5 _
      have u5 : B5 p5 = some (.tup [.int 5, .int 5, .int 5, .int 5]) := by rw [← e5]; exact upd_same
      refine ⟨(by show 4 ≤ sizeLine; decide), fun p6 g6 => ?_⟩
      generalize e6 : upd B5 p6 _ = B6
      have t6 : Same B5 B6 := e6 ▸ Same.new g6 _
      have u6 : B6 p6 = some (.tup [.int 0, .int 1, .int 1, .int 1]) := by rw [← e6]; exact upd_same
      refine ⟨(by show 0 ≤ sizeLine; decide), fun p7 g7 => ?_⟩
      generalize e7 : upd B6 p7 _ = B7
      have t7 : Same B6 B7 := e7 ▸ Same.new g7 _
      have u7 : B7 p7 = some (.tup []) := by rw [← e7]; exact upd_same
      intro p8 g8
      generalize e8 : upd B7 p8 _ = B8
      have t8 : Same B7 B8 := e8 ▸ Same.new g8 _
      have u8 : B8 p8 = some (.dK []) := by rw [← e8]; exact upd_same
      refine ⟨(by show 4 ≤ sizeLine; decide), fun p9 g9 => ?_⟩
      generalize e9 : upd B8 p9 _ = B9
      have t9 : Same B8 B9 := e9 ▸ Same.new g9 _
      have u9 : B9 p9 = some (.tup [.int 1, .int 1, .int 1, .int 1]) := by rw [← e9]; exact upd_same
      refine ⟨(by show 4 ≤ sizeLine; decide), fun p10 g10 => ?_⟩
      generalize e10 : upd B9 p10 _ = B10
      have t10 : Same B9 B10 := e10 ▸ Same.new g10 _
      have u10 : B10 p10 = some (.tup [.ref p9, .int 1, .int 1, .int 1]) := by rw [← e10]; exact upd_same
      refine ⟨(by show 4 ≤ sizeLine; decide), fun p11 g11 => ?_⟩
      generalize e11 : upd B10 p11 _ = B11
      have t11 : Same B10 B11 := e11 ▸ Same.new g11 _
      have u11 : B11 p11 = some (.tup [.bl false, .int 0, .int 0, .int 1]) := by rw [← e11]; exact upd_same
      refine ⟨(by show 6 ≤ sizeLine; decide), fun p12 g12 => ?_⟩
      generalize e12 : upd B11 p12 _ = B12
      have t12 : Same B11 B12 := e12 ▸ Same.new g12 _
      have u12 : B12 p12 = some (.lst [.ref p5, .ref p6, .ref p7, .ref p8, .ref p10, .ref p11]) := by rw [← e12]; exact upd_same
      refine ⟨p4, p12, _, _, rfl, rfl, (t5.trans (t6.trans (t7.trans (t8.trans (t9.trans (t10.trans (t11.trans t12))))))) _ _ u4, u12, (by show 16 ≤ sizeLine; decide), fun p13 g13 => ?_⟩
      generalize e13 : upd B12 p13 _ = B13
      have t13 : Same B12 B13 := e13 ▸ Same.new g13 _
      have u13 : B13 p13 = some (.lst [.int 36, .int (-1), .int big, .bl true, .bl false, .non, .str "1", .ref p1, .ref p2, .ref p3, .ref p5, .ref p6, .ref p7, .ref p8, .ref p10, .ref p11]) := by rw [← e13]; exact upd_same
      have tt : Same H B13 := t1.trans (t2.trans (t3.trans (t4.trans (t5.trans (t6.trans (t7.trans (t8.trans (t9.trans (t10.trans (t11.trans (t12.trans t13)))))))))))
      have pick : ∃ x th, atI [V.int 36, .int (-1), .int big, .bl true, .bl false, .non, .str "1", .ref p1, .ref p2, .ref p3, .ref p5, .ref p6, .ref p7, .ref p8, .ref p10, .ref p11] (c / 3 % 16) = some x ∧ ThAt K B13 x th ∧ DepLe (n + 3) th := by
        obtain ⟨k, hk, ek⟩ : ∃ k : Nat, k < 16 ∧ c / 3 % 16 = (k : Int) := ⟨(c / 3 % 16).toNat, by omega, by omega⟩
        rw [ek]
        rcases k with _ | _ | _ | _ | _ | _ | _ | _ | _ | _ | _ | _ | _ | _ | _ | _ | k
        · exact ⟨_, _, rfl, .int _, dep_int⟩
        · exact ⟨_, _, rfl, .int _, dep_int⟩
        · exact ⟨_, _, rfl, .int _, dep_int⟩
        · exact ⟨_, _, rfl, .bl _, dep_bl⟩
        · exact ⟨_, _, rfl, .bl _, dep_bl⟩
        · exact ⟨_, _, rfl, .odd .non kit_ni kit_nt, dep_odd⟩
        · exact ⟨_, _, rfl, .odd (.str _) kit_si kit_st, dep_odd⟩
        · exact ⟨_, _, rfl, .odd (.lst ((t2.trans (t3.trans (t4.trans (t5.trans (t6.trans (t7.trans (t8.trans (t9.trans (t10.trans (t11.trans (t12.trans t13))))))))))) _ _ u1)) kit_li kit_lt, dep_odd⟩
        · exact ⟨_, _, rfl, ThAt.ints [0, 1, 2] ((t3.trans (t4.trans (t5.trans (t6.trans (t7.trans (t8.trans (t9.trans (t10.trans (t11.trans (t12.trans t13)))))))))) _ _ u2) (by decide), dep_ints _⟩
        · exact ⟨_, _, rfl, ThAt.ints [0, 1, 0, 1, 0] ((t4.trans (t5.trans (t6.trans (t7.trans (t8.trans (t9.trans (t10.trans (t11.trans (t12.trans t13))))))))) _ _ u3) (by decide), dep_ints _⟩
        · exact ⟨_, _, rfl, ThAt.ints [5, 5, 5, 5] ((t6.trans (t7.trans (t8.trans (t9.trans (t10.trans (t11.trans (t12.trans t13))))))) _ _ u5) (by decide), dep_ints _⟩
        · exact ⟨_, _, rfl, ThAt.ints [0, 1, 1, 1] ((t7.trans (t8.trans (t9.trans (t10.trans (t11.trans (t12.trans t13)))))) _ _ u6) (by decide), dep_ints _⟩
        · exact ⟨_, _, rfl, ThAt.ints [] ((t8.trans (t9.trans (t10.trans (t11.trans (t12.trans t13))))) _ _ u7) (by decide), dep_ints _⟩
        · exact ⟨_, _, rfl, .odd (.dK ((t9.trans (t10.trans (t11.trans (t12.trans t13)))) _ _ u8)) kit_di kit_dt, dep_odd⟩
        · exact ⟨_, _, rfl, .tup ((t11.trans (t12.trans t13)) _ _ u10) rfl (by show 4 ≤ 100; decide) (th4 (ThAt.ints [1, 1, 1, 1] ((t10.trans (t11.trans (t12.trans t13))) _ _ u9) (by decide)) (.int 1) (.int 1) (.int 1)), dep4 (dep_ints _) dep_int dep_int dep_int⟩
        · exact ⟨_, _, rfl, .tup ((t12.trans t13) _ _ u11) rfl (by show 4 ≤ 100; decide) (th4 (.bl false) (.int 0) (.int 0) (.int 1)), dep4 dep_bl dep_int dep_int dep_int⟩
        · omega
      obtain ⟨x, tx, hat, hx, hd⟩ := pick
      exact ⟨_, rfl, _, rfl, _, _, rfl, rfl, cdivW (by decide) (by decide), _, _, rfl, rfl, (by show (0 : Int) < 16; decide), p13, _, _, _, rfl, rfl, SqL.of u13, hat, q' _ tx B13 tt hx hd⟩
    | @tup p xs ts e le lb hh =>
      refine ⟨_, rfl, _, _, _, rfl, .tup e, kit_tt, _, rfl, iteT ?_⟩
      refine ⟨_, rfl, _, _, rfl, rfl, (by show (0 : Int) < 3; decide), _, _, rfl, rfl, _, rfl, ite2 (fun _ => ?_) (fun _ => ?_)⟩
      · rcases n with _ | n
        · exact hq.elim
        obtain ⟨l4, hq'⟩ := hq
        obtain ⟨t0, t1, t2, t3, rfl⟩ : ∃ z0 z1 z2 z3, ts = [z0, z1, z2, z3] := by
          match ts, l4 with
          | [z0, z1, z2, z3], _ => exact ⟨z0, z1, z2, z3, rfl⟩
        obtain ⟨x0, x1, x2, x3, rfl⟩ : ∃ z0 z1 z2 z3, xs = [z0, z1, z2, z3] := by
          rw [l4] at le
          match xs, le with
          | [z0, z1, z2, z3], _ => exact ⟨z0, z1, z2, z3, rfl⟩
        obtain ⟨k, hk, ek⟩ := four_of (c / 3)
        refine ⟨_, rfl, _, _, rfl, rfl, cdivW (by decide) (by decide), _, _, rfl, rfl, (by show (0 : Int) < 4; decide), ?_⟩
        rw [show (fun i j : Int => V.int (i % j)) (c / 3) 4 = V.int (k : Int) from congrArg V.int ek]
        have w1 : ¬ (HT.sIx [x0, x1, x2, x3].length 0 none = 0 ∧ HT.sIx [x0, x1, x2, x3].length [x0, x1, x2, x3].length (some (k : Int)) = [x0, x1, x2, x3].length) := by
          rw [HT.sIx_nat]
          show ¬ (_ ∧ min k 4 = 4)
          omega
        have w2 : ¬ (HT.sIx [x0, x1, x2, x3].length 0 (some ((k : Int) + 1)) = 0 ∧ HT.sIx [x0, x1, x2, x3].length [x0, x1, x2, x3].length none = [x0, x1, x2, x3].length) := by
          rw [show (k : Int) + 1 = ((k + 1 : Nat) : Int) by omega, HT.sIx_nat]
          show ¬ (min (k + 1) 4 = 0 ∧ _)
          omega
        refine ⟨_, rfl, _, rfl, _, rfl, p, _, rfl, SqT.of e, w1, fun p1 h1 => ?_⟩
        generalize e1 : upd H p1 _ = A1
        have s1 : Same H A1 := e1 ▸ Same.new h1 _
        have u1 : A1 p1 = some (.tup (cutV [x0, x1, x2, x3] none (some (k : Int)))) := by rw [← e1]; exact upd_same
        obtain ⟨x, hx⟩ : ∃ x, [x0, x1, x2, x3][k]? = some x := ⟨_, List.getElem?_eq_getElem (by exact hk)⟩
        obtain ⟨t, ht⟩ : ∃ t, [t0, t1, t2, t3][k]? = some t := ⟨_, List.getElem?_eq_getElem (by exact hk)⟩
        refine ⟨_, rfl, _, rfl, p, _, _, x, rfl, rfl, SqT.of (s1 _ _ e), atI_nat hx, _, rfl, _, _, rfl, rfl, cdivW (by decide) (by decide), x, t, c / 12, n, rfl, (hh k x t hx ht).up s1, hq' t (List.mem_of_getElem? ht), by omega, by omega, fun v' th' H3 s3 hv' dv' => ⟨(by show 1 ≤ sizeLine; decide), fun p2 h2 => ?_⟩⟩
        generalize e2 : upd H3 p2 _ = A2
        have s2 : Same H3 A2 := e2 ▸ Same.new h2 _
        have u2 : A2 p2 = some (.tup [v']) := by rw [← e2]; exact upd_same
        have l1 := cutV_length [x0, x1, x2, x3] none (some (k : Int))
        have l2 := cutV_length [x0, x1, x2, x3] (some ((k : Int) + 1)) none
        have l5 : [x0, x1, x2, x3].length = 4 := rfl
        have z1 : (cutV [x0, x1, x2, x3] none (some (k : Int))).length + [v'].length ≤ 1000 := by show _ + 1 ≤ 1000; omega
        have z2 : (cutV [x0, x1, x2, x3] none (some (k : Int)) ++ [v']).length + (cutV [x0, x1, x2, x3] (some ((k : Int) + 1)) none).length ≤ 1000 := by rw [List.length_append]; show _ + 1 + _ ≤ 1000; omega
        refine ⟨p1, p2, _, _, rfl, rfl, (s3.trans s2) _ _ u1, u2, small z1, fun p3 A3 s4 u3 => ?_⟩
        refine ⟨_, rfl, _, rfl, _, _, rfl, rfl, _, rfl, p, _, rfl, SqT.of ((s1.trans (s3.trans (s2.trans s4))) _ _ e), w2, fun p4 h4 => ?_⟩
        generalize e4 : upd A3 p4 _ = A4
        have s5 : Same A3 A4 := e4 ▸ Same.new h4 _
        have u4 : A4 p4 = some (.tup (cutV [x0, x1, x2, x3] (some ((k : Int) + 1)) none)) := by rw [← e4]; exact upd_same
        refine ⟨p3, p4, _, _, rfl, rfl, s5 _ _ u3, u4, small z2, fun p5 A5 s6 u5 => ?_⟩
        have st := s1.trans (s3.trans (s2.trans (s4.trans (s5.trans s6))))
        obtain ⟨xa, xb, xc, xd, ta, tb, tc, td, eL, ra, rb, rc, rd, rq⟩ := spoil_at (K := K) (H := A5) (n := n + 3) hk (hv'.up (s2.trans (s4.trans (s5.trans s6)))) ((hh 0 _ _ rfl rfl).up st) ((hh 1 _ _ rfl rfl).up st) ((hh 2 _ _ rfl rfl).up st) ((hh 3 _ _ rfl rfl).up st) dv' (fun x hx => DepLe.mono (Nat.le_add_right n 3) (hq' x hx).dep)
        rw [eL] at u5
        refine q' (.ref p5) (.tup [ta, tb, tc, td]) A5 st (.tup u5 rfl (by show 4 ≤ 100; decide) (th4 ra rb rc rd)) ?_
        show DepLe (n + 3 + 1) (.tup [ta, tb, tc, td])
        exact rq
      refine ⟨_, rfl, _, rfl, _, _, rfl, rfl, cdivW (by decide) (by decide), _, _, rfl, rfl, cp30, _, _, rfl, rfl, p30, _, _, rfl, rfl, (by show 4 ≤ sizeLine; decide), fun p1 g1 => ?_⟩
      generalize e1 : upd H p1 _ = B1
      have t1 : Same H B1 := e1 ▸ Same.new g1 _
      have u1 : B1 p1 = some (.lst [.int 0, .int 1, .int 0, .int 0]) := by rw [← e1]; exact upd_same
      refine ⟨(by show 3 ≤ sizeLine; decide), fun p2 g2 => ?_⟩
      generalize e2 : upd B1 p2 _ = B2
      have t2 : Same B1 B2 := e2 ▸ Same.new g2 _
      have u2 : B2 p2 = some (.tup [.int 0, .int 1, .int 2]) := by rw [← e2]; exact upd_same
      refine ⟨(by show 5 ≤ sizeLine; decide), fun p3 g3 => ?_⟩
      generalize e3 : upd B2 p3 _ = B3
      have t3 : Same B2 B3 := e3 ▸ Same.new g3 _
      have u3 : B3 p3 = some (.tup [.int 0, .int 1, .int 0, .int 1, .int 0]) := by rw [← e3]; exact upd_same
      refine ⟨(by show 10 ≤ sizeLine; decide), fun p4 g4 => ?_⟩
      generalize e4 : upd B3 p4 _ = B4
      have t4 : Same B3 B4 := e4 ▸ Same.new g4 _
      have u4 : B4 p4 = some (.lst [.int 36, .int (-1), .int big, .bl true, .bl false, .non, .str "1", .ref p1, .ref p2, .ref p3]) := by rw [← e4, ebig]; exact upd_same
      refine ⟨_, rfl, (by show 4 ≤ sizeLine; decide), fun p5 g5 => ?_⟩
      generalize e5 : upd B4 p5 _ = B5
      have t5 : Same B4 B5 := e5 ▸ Same.new g5 _
      have u5 : B5 p5 = some (.tup [.int 5, .int 5, .int 5, .int 5]) := by rw [← e5]; exact upd_same
      refine ⟨(by show 4 ≤ sizeLine; decide), fun p6 g6 => ?_⟩
      generalize e6 : upd B5 p6 _ = B6
      have t6 : Same B5 B6 := e6 ▸ Same.new g6 _
      have u6 : B6 p6 = some (.tup [.int 0, .int 1, .int 1, .int 1]) := by rw [← e6]; exact upd_same
      refine ⟨(by show 0 ≤ sizeLine; decide), fun p7 g7 => ?_⟩
      generalize e7 : upd B6 p7 _ = B7
      have t7 : Same B6 B7 := e7 ▸ Same.new g7 _
      have u7 : B7 p7 = some (.tup []) := by rw [← e7]; exact upd_same
      intro p8 g8
      generalize e8 : upd B7 p8 _ = B8
      have t8 : Same B7 B8 := e8 ▸ Same.new g8 _
      have u8 : B8 p8 = some (.dK []) := by rw [← e8]; exact upd_same
      refine ⟨(by show 4 ≤ sizeLine; decide), fun p9 g9 => ?_⟩
      generalize e9 : upd B8 p9 _ = B9
      have t9 : Same B8 B9 := e9 ▸ Same.new g9 _
      have u9 : B9 p9 = some (.tup [.int 1, .int 1, .int 1, .int 1]) := by rw [← e9]; exact upd_same
      refine ⟨(by show 4 ≤ sizeLine; decide), fun p10 g10 => ?_⟩
      generalize e10 : upd B9 p10 _ = B10
      have t10 : Same B9 B10 := e10 ▸ Same.new g10 _
      have u10 : B10 p10 = some (.tup [.ref p9, .int 1, .int 1, .int 1]) := by rw [← e10]; exact upd_same
      refine ⟨(by show 4 ≤ sizeLine; decide), fun p11 g11 => ?_⟩
      generalize e11 : upd B10 p11 _ = B11
      have t11 : Same B10 B11 := e11 ▸ Same.new g11 _
      have u11 : B11 p11 = some (.tup [.bl false, .int 0, .int 0, .int 1]) := by rw [← e11]; exact upd_same
      refine ⟨(by show 6 ≤ sizeLine; decide), fun p12 g12 => ?_⟩
      generalize e12 : upd B11 p12 _ = B12
      have t12 : Same B11 B12 := e12 ▸ Same.new g12 _
      have u12 : B12 p12 = some (.lst [.ref p5, .ref p6, .ref p7, .ref p8, .ref p10, .ref p11]) := by rw [← e12]; exact upd_same
      refine ⟨p4, p12, _, _, rfl, rfl, (t5.trans (t6.trans (t7.trans (t8.trans (t9.trans (t10.trans (t11.trans t12))))))) _ _ u4, u12, (by show 16 ≤ sizeLine; decide), fun p13 g13 => ?_⟩
      generalize e13 : upd B12 p13 _ = B13
      have t13 : Same B12 B13 := e13 ▸ Same.new g13 _
      have u13 : B13 p13 = some (.lst [.int 36, .int (-1), .int big, .bl true, .bl false, .non, .str "1", .ref p1, .ref p2, .ref p3, .ref p5, .ref p6, .ref p7, .ref p8, .ref p10, .ref p11]) := by rw [← e13]; exact upd_same
      have tt : Same H B13 := t1.trans (t2.trans (t3.trans (t4.trans (t5.trans (t6.trans (t7.trans (t8.trans (t9.trans (t10.trans (t11.trans (t12.trans t13)))))))))))
      have pick : ∃ x th, atI [V.int 36, .int (-1), .int big, .bl true, .bl false, .non, .str "1", .ref p1, .ref p2, .ref p3, .ref p5, .ref p6, .ref p7, .ref p8, .ref p10, .ref p11] (c / 3 % 16) = some x ∧ ThAt K B13 x th ∧ DepLe (n + 3) th := by
        obtain ⟨k, hk, ek⟩ : ∃ k : Nat, k < 16 ∧ c / 3 % 16 = (k : Int) := ⟨(c / 3 % 16).toNat, by omega, by omega⟩
        rw [ek]
        rcases k with _ | _ | _ | _ | _ | _ | _ | _ | _ | _ | _ | _ | _ | _ | _ | _ | k
        · exact ⟨_, _, rfl, .int _, dep_int⟩
        · exact ⟨_, _, rfl, .int _, dep_int⟩
        · exact ⟨_, _, rfl, .int _, dep_int⟩
        · exact ⟨_, _, rfl, .bl _, dep_bl⟩
        · exact ⟨_, _, rfl, .bl _, dep_bl⟩
        · exact ⟨_, _, rfl, .odd .non kit_ni kit_nt, dep_odd⟩
        · exact ⟨_, _, rfl, .odd (.str _) kit_si kit_st, dep_odd⟩
        · exact ⟨_, _, rfl, .odd (.lst ((t2.trans (t3.trans (t4.trans (t5.trans (t6.trans (t7.trans (t8.trans (t9.trans (t10.trans (t11.trans (t12.trans t13))))))))))) _ _ u1)) kit_li kit_lt, dep_odd⟩
        · exact ⟨_, _, rfl, ThAt.ints [0, 1, 2] ((t3.trans (t4.trans (t5.trans (t6.trans (t7.trans (t8.trans (t9.trans (t10.trans (t11.trans (t12.trans t13)))))))))) _ _ u2) (by decide), dep_ints _⟩
        · exact ⟨_, _, rfl, ThAt.ints [0, 1, 0, 1, 0] ((t4.trans (t5.trans (t6.trans (t7.trans (t8.trans (t9.trans (t10.trans (t11.trans (t12.trans t13))))))))) _ _ u3) (by decide), dep_ints _⟩
        · exact ⟨_, _, rfl, ThAt.ints [5, 5, 5, 5] ((t6.trans (t7.trans (t8.trans (t9.trans (t10.trans (t11.trans (t12.trans t13))))))) _ _ u5) (by decide), dep_ints _⟩
        · exact ⟨_, _, rfl, ThAt.ints [0, 1, 1, 1] ((t7.trans (t8.trans (t9.trans (t10.trans (t11.trans (t12.trans t13)))))) _ _ u6) (by decide), dep_ints _⟩
        · exact ⟨_, _, rfl, ThAt.ints [] ((t8.trans (t9.trans (t10.trans (t11.trans (t12.trans t13))))) _ _ u7) (by decide), dep_ints _⟩
        · exact ⟨_, _, rfl, .odd (.dK ((t9.trans (t10.trans (t11.trans (t12.trans t13)))) _ _ u8)) kit_di kit_dt, dep_odd⟩
        · exact ⟨_, _, rfl, .tup ((t11.trans (t12.trans t13)) _ _ u10) rfl (by show 4 ≤ 100; decide) (th4 (ThAt.ints [1, 1, 1, 1] ((t10.trans (t11.trans (t12.trans t13))) _ _ u9) (by decide)) (.int 1) (.int 1) (.int 1)), dep4 (dep_ints _) dep_int dep_int dep_int⟩
        · exact ⟨_, _, rfl, .tup ((t12.trans t13) _ _ u11) rfl (by show 4 ≤ 100; decide) (th4 (.bl false) (.int 0) (.int 0) (.int 1)), dep4 dep_bl dep_int dep_int dep_int⟩
        · omega
      obtain ⟨x, tx, hat, hx, hd⟩ := pick
      exact ⟨_, rfl, _, rfl, _, _, rfl, rfl, cdivW (by decide) (by decide), _, _, rfl, rfl, (by show (0 : Int) < 16; decide), p13, _, _, _, rfl, rfl, SqL.of u13, hat, q' _ tx B13 tt hx hd⟩
end
end Qs


namespace Qs
open PySem L2
theorem th1 {K : PySem.W.Frag} {H : Hp} {a : V} {ta : Th} (ha : ThAt K H a ta) : ∀ (i : Nat) (x : V) (t : Th), [a][i]? = some x → [ta][i]? = some t → ThAt K H x t := by
  intro i x t hx ht
  rcases i with _ | i
  · rw [← Option.some.inj hx, ← Option.some.inj ht]; exact ha
  · simp at hx
theorem th2 {K : PySem.W.Frag} {H : Hp} {a b : V} {ta tb : Th} (ha : ThAt K H a ta) (hb : ThAt K H b tb) : ∀ (i : Nat) (x : V) (t : Th), [a, b][i]? = some x → [ta, tb][i]? = some t → ThAt K H x t := by
  intro i x t hx ht
  rcases i with _ | _ | i
  · rw [← Option.some.inj hx, ← Option.some.inj ht]; exact ha
  · rw [← Option.some.inj hx, ← Option.some.inj ht]; exact hb
  · simp at hx
theorem th3 {K : PySem.W.Frag} {H : Hp} {a b c : V} {ta tb tc : Th} (ha : ThAt K H a ta) (hb : ThAt K H b tb) (hc : ThAt K H c tc) : ∀ (i : Nat) (x : V) (t : Th), [a, b, c][i]? = some x → [ta, tb, tc][i]? = some t → ThAt K H x t := by
  intro i x t hx ht
  rcases i with _ | _ | _ | i
  · rw [← Option.some.inj hx, ← Option.some.inj ht]; exact ha
  · rw [← Option.some.inj hx, ← Option.some.inj ht]; exact hb
  · rw [← Option.some.inj hx, ← Option.some.inj ht]; exact hc
  · simp at hx
section
variable {P : Program} {w : World} {K : PySem.W.Frag} {mg : Str → Option Value} {base : Heap} {CX : CXT} {f : Addr} {fd : FuncData}
abbrev s_law_thing : Stmt := top 18
theorem sc_law_thing : FnScope ["_law_cell", "_law_more", "_law_many", "_law_tree_here", "_law_level", "_law_some"] ["_law_cell", "_law_more"] (defScope s_law_thing) := ⟨rfl, rfl, rfl, by decide +kernel, rfl, by decide +kernel, by decide +kernel⟩
def sp_law_thing (K : PySem.W.Frag) : Sp := fun vs H Q _ => ∃ (c e : Int), vs = [.int c, .int e] ∧ ∀ v th H', Same H H' → ThAt K H' v th → Q v H'
theorem ok_law_thing (T : Tx K mg) (q : Quiet CX) (F : FunD K "_law_thing" "_law_thing" s_law_thing f fd .none) (C__law_tree : Fok P w K mg base CX 6 "_law_tree" ["_law_cell", "_law_deep_here"] [] (sp_law_tree 5)) (C__law_round : Fok P w K mg base CX 1 "_law_round" ["_law_tree_here", "_law_cell", "_law_many"] [] (sp_law_round K))
    (C__law_spoiled : Fok P w K mg base CX 44 "_law_spoiled" ["_law_tree_here", "_law_cell"] [] (sp_law_spoiled K 43)) (C__law_deep : Fok P w K mg base CX 47 "_law_deep" ["_law_tree_here"] [] (sp_law_deep K 46)) : FnOk P w K mg base CX 48 f fd ["_law_cell", "_law_more"] (sp_law_thing K) := by
  refine F.oks sc_law_thing (fun vs H Q E h => ?_) (fun cdv A outer s H vs Q E hr h => ?_)
  · obtain ⟨_, _, rfl, _⟩ := h
    rfl
  obtain ⟨c, e, rfl, q'⟩ := h
  refine ⟨_, (pssx_cons (PSx.mk (ps_set (i := 2) sc_law_thing.nd rfl (Or.inl rfl) pe_int)) (pssx_cons (PSx.mk (ps_cut (ps_if (pt_cmpR op_eq (pe_op op_mod (pv 1) pe_int) pe_int (nomark _)) (pss_one (ps_set (i := 2) sc_law_thing.nd rfl (Or.inl rfl) (pe_op op_mod (pe_op op_fdivW (pv 1) pe_int) pe_int) (hs := swaps_of rfl))) pss_nil))) (pssx_cons (PSx.mk (ps_set (i := 3) sc_law_thing.nd rfl (Or.inl rfl) (pe_callF C__law_round q hr (pa_cons (pe_callF C__law_tree q hr (pa_cons (pe_op op_mod (pv 0) pe_int) (pa_cons (pe_op op_mod (pe_op op_fdivW (pv 0) pe_int) pe_int) pa_nil))) (pa_cons (pv 1) (pa_cons (pv 2) pa_nil)))))) (pssx_cons (PSx.mk (ps_cut (ps_if (pt_cmpR op_gt (pe_op op_mod (pv 1) pe_int) pe_int (nomark _)) (pss_one (ps_set (i := 3) sc_law_thing.nd rfl (Or.inl rfl) (pe_callF C__law_spoiled q hr (pa_cons (pv 3) (pa_cons (pe_op op_fdivW (pv 1) pe_int) pa_nil))))) pss_nil))) (pssx_cons (PSx.mk (ps_set (i := 4) sc_law_thing.nd rfl (Or.inl rfl) (pe_callB (call_min2 rfl) rfl T.b_min bb_min (pa_cons pe_int (pa_cons (pe_op op_add (pe_callF C__law_deep q hr (pa_cons (pv 3) pa_nil)) (pe_op op_mod (pe_op op_fdivW (pv 0) pe_int) pe_int)) pa_nil))))) (pssx_cons (PSx.mk (ps_if (pt_cmpR op_lt (pe_op op_mod (pv 0) pe_int) pe_int (nomark _)) (pss_one (ps_ret (pe_tupx (pax_c (pv 4) (pax_c (pv 3) pax_nil))))) pss_nil)) (pssx_cons (psx_set (i := 5) sc_law_thing.nd rfl (Or.inl rfl) (pex_lst (pax_cx (pex_tup (pax_cx (PEx.mk (pe_op op_sub (pe_callF C__law_deep q hr (pa_cons (pv 3) pa_nil)) pe_int)) (pax_cx (PEx.mk (pv 3)) pax_nil))) (pax_cx (pex_tup (pax_cx (PEx.mk pe_int) (pax_cx (PEx.mk (pv 3)) pax_nil))) (pax_cx (pex_tup (pax_cx (PEx.mk (pe_un un_neg pe_int)) (pax_cx (PEx.mk (pv 3)) pax_nil))) (pax_cx (pex_lst (pax_cx (PEx.mk (pv 4)) (pax_cx (PEx.mk (pv 3)) pax_nil))) (pax_cx (pex_tup (pax_cx (PEx.mk (pv 4)) (pax_cx (PEx.mk (pv 3)) (pax_cx (PEx.mk pe_int) pax_nil)))) (pax_cx (pex_tup (pax_cx (PEx.mk pe_bl) (pax_cx (PEx.mk (pv 3)) pax_nil))) pax_nil)))))))) (pssx_cons (psx_setop (i := 5) sc_law_thing.nd rfl (Or.inl rfl) (pex_op op_cat (PEx.mk (pv 5)) (pex_lst (pax_cx (pex_tup (pax_cx (PEx.mk pe_non) (pax_cx (PEx.mk pe_int) pax_nil))) (pax_cx (pex_tup (pax_cx (PEx.mk (pv 4)) pax_nil)) (pax_cx (PEx.mk (pv 3)) (pax_cx (pex_tup (pax_cx (PEx.mk pe_int) (pax_cx (PEx.mk (pv 3)) pax_nil))) (pax_cx (PEx.mk pe_non) (pax_cx (PEx.mk pe_str) pax_nil))))))))) (pssx_one (PSx.mk (ps_ret (pe_ix ix_list (pv 5) (pe_op op_mod (pe_op op_fdivW (pv 0) pe_int) pe_int) (fun _ _ => rfl))))))))))))), ?_⟩
  refine ⟨fun σ H1 => H1 = H ∧ ∃ many : Nat, many ≤ 38 ∧ σ = [some (.int c), some (.int e), some (.int (many : Int)), none, none, none], ?_, ?_⟩
  · refine ⟨_, rfl, _, _, rfl, rfl, (by show (0 : Int) < 4; decide), rfl, _, rfl, ite2 (fun _ => ?_) (fun _ => ⟨rfl, 0, by decide, rfl⟩)⟩
    obtain ⟨k, hk, ek⟩ : ∃ k : Nat, k ≤ 38 ∧ e / 4 % 39 = (k : Int) := ⟨(e / 4 % 39).toNat, by omega, by omega⟩
    exact ⟨_, rfl, _, _, rfl, rfl, cdivW (by decide) (by decide), _, _, rfl, rfl, (by show (0 : Int) < 39; decide), rfl, k, hk, by rw [← ek]; rfl⟩
  rintro σ H1 ⟨rfl, many, hmany, rfl⟩
  obtain ⟨dd, hdd, edd⟩ : ∃ k : Nat, k ≤ 4 ∧ c / 7 % 5 = (k : Int) := ⟨(c / 7 % 5).toNat, by omega, by omega⟩
  refine ⟨_, rfl, _, _, rfl, rfl, (by show (0 : Int) < 1000003; decide), _, rfl, _, _, rfl, rfl, cdivW (by decide) (by decide), _, _, rfl, rfl, (by show (0 : Int) < 5; decide), c % 1000003, dd, (by show [V.int _, V.int (c / 7 % 5)] = [V.int _, V.int _]; rw [edd]), by omega, by decide, fun v t H2 s2 hv dv => ?_⟩
  obtain ⟨th, hth, hq⟩ := ThAt.ofTr (K := K) hv
  refine ⟨_, rfl, _, rfl, v, th, e, many, t.deep, rfl, hth, hq, hmany, fun v' th' H3 s3 hv' hq' => ?_⟩
  have hq42 : Q4 42 th' := Q4.mono (by omega) hq'
  have s13 := s2.trans s3
  refine ⟨fun σ H4 => Same H3 H4 ∧ ∃ (u : V) (tu : Th), ThAt K H4 u tu ∧ DepLe 45 tu ∧ σ = [some (.int c), some (.int e), some (.int (many : Int)), some u, none, none], ?_, ?_⟩
  · refine ⟨_, rfl, _, _, rfl, rfl, (by show (0 : Int) < 4; decide), _, _, rfl, rfl, _, rfl, ite2 (fun _ => ?_) (fun _ => ⟨Same.refl _, v', th', hv', DepLe.mono (by decide) hq42.dep, rfl⟩)⟩
    exact ⟨_, rfl, _, rfl, _, _, rfl, rfl, cdivW (by decide) (by decide), v', th', e / 4, 42, rfl, hv', hq42, by decide, by decide, fun v2 th2 H4 s4 hv2 hd2 => ⟨s4, v2, th2, hv2, hd2, rfl⟩⟩
  rintro σ H4 ⟨s4, u, tu, hu, hd, rfl⟩
  have s14 := s13.trans s4
  refine ⟨_, rfl, u, tu, 45, rfl, hu, hd, by decide, by decide, fun k H5 hk s5 => ⟨_, rfl, _, _, rfl, rfl, cdivW (by decide) (by decide), _, _, rfl, rfl, (by show (0 : Int) < 3; decide), _, _, rfl, rfl, _, _, rfl, ?_⟩⟩
  obtain ⟨L, eL⟩ : ∃ L : Int, L = (if (k : Int) + c / 5 % 3 < 40 then (k : Int) + c / 5 % 3 else 40) := ⟨_, rfl⟩
  dsimp only
  rw [← eL]
  have hu5 := hu.up s5
  refine ⟨_, rfl, _, _, rfl, rfl, (by show (0 : Int) < 8; decide), _, _, rfl, rfl, _, rfl, ite2 (fun _ => ?_) (fun _ => ?_)⟩
  · refine ⟨_, rfl, _, rfl, (by show 2 ≤ sizeLine; decide), fun p hp => ?_⟩
    have sn := Same.new hp (.tup [.int L, u])
    exact q' _ (.tup [.int L, tu]) _ (s14.trans (s5.trans sn)) (.tup upd_same rfl (by show 2 ≤ 100; decide) (th2 (.int L) (hu5.up sn)))
  refine ⟨_, rfl, u, tu, 45, rfl, hu5, hd, by decide, by decide, fun k2 H6 hk2 s6 => ?_⟩
  have hu6 := hu5.up s6
  have s06 := s14.trans (s5.trans s6)
  refine ⟨_, _, rfl, rfl, _, rfl, (by show 2 ≤ sizeLine; decide), fun p1 g1 => ?_⟩
  generalize e1 : upd H6 p1 _ = B1
  have t1 : Same H6 B1 := e1 ▸ Same.new g1 _
  have u1 : B1 p1 = some (.tup [.int ((k2 : Int) - 1), u]) := by rw [← e1]; exact upd_same
  refine ⟨_, rfl, (by show 2 ≤ sizeLine; decide), fun p2 g2 => ?_⟩
  generalize e2 : upd B1 p2 _ = B2
  have t2 : Same B1 B2 := e2 ▸ Same.new g2 _
  have u2 : B2 p2 = some (.tup [.int 41, u]) := by rw [← e2]; exact upd_same
  refine ⟨_, rfl, _, rfl, (by show 2 ≤ sizeLine; decide), fun p3 g3 => ?_⟩
  generalize e3 : upd B2 p3 _ = B3
  have t3 : Same B2 B3 := e3 ▸ Same.new g3 _
  have u3 : B3 p3 = some (.tup [.int (-1), u]) := by rw [← e3]; exact upd_same
  refine ⟨_, rfl, _, rfl, (by show 2 ≤ sizeLine; decide), fun p4 g4 => ?_⟩
  generalize e4 : upd B3 p4 _ = B4
  have t4 : Same B3 B4 := e4 ▸ Same.new g4 _
  have u4 : B4 p4 = some (.lst [.int L, u]) := by rw [← e4]; exact upd_same
  refine ⟨_, rfl, _, rfl, (by show 3 ≤ sizeLine; decide), fun p5 g5 => ?_⟩
  generalize e5 : upd B4 p5 _ = B5
  have t5 : Same B4 B5 := e5 ▸ Same.new g5 _
  have u5 : B5 p5 = some (.tup [.int L, u, .int 0]) := by rw [← e5]; exact upd_same
  refine ⟨_, rfl, (by show 2 ≤ sizeLine; decide), fun p6 g6 => ?_⟩
  generalize e6 : upd B5 p6 _ = B6
  have t6 : Same B5 B6 := e6 ▸ Same.new g6 _
  have u6 : B6 p6 = some (.tup [.bl true, u]) := by rw [← e6]; exact upd_same
  refine ⟨(by show 6 ≤ sizeLine; decide), fun p7 g7 => ?_⟩
  generalize e7 : upd B6 p7 _ = B7
  have t7 : Same B6 B7 := e7 ▸ Same.new g7 _
  have u7 : B7 p7 = some (.lst [.ref p1, .ref p2, .ref p3, .ref p4, .ref p5, .ref p6]) := by rw [← e7]; exact upd_same
  refine ⟨_, rfl, (by show 2 ≤ sizeLine; decide), fun p8 g8 => ?_⟩
  generalize e8 : upd B7 p8 _ = B8
  have t8 : Same B7 B8 := e8 ▸ Same.new g8 _
  have u8 : B8 p8 = some (.tup [.non, .int 1]) := by rw [← e8]; exact upd_same
  refine ⟨_, rfl, (by show 1 ≤ sizeLine; decide), fun p9 g9 => ?_⟩
  generalize e9 : upd B8 p9 _ = B9
  have t9 : Same B8 B9 := e9 ▸ Same.new g9 _
  have u9 : B9 p9 = some (.tup [.int L]) := by rw [← e9]; exact upd_same
  refine ⟨_, rfl, _, rfl, (by show 2 ≤ sizeLine; decide), fun p10 g10 => ?_⟩
  generalize e10 : upd B9 p10 _ = B10
  have t10 : Same B9 B10 := e10 ▸ Same.new g10 _
  have u10 : B10 p10 = some (.tup [.int 40, u]) := by rw [← e10]; exact upd_same
  refine ⟨(by show 6 ≤ sizeLine; decide), fun p11 g11 => ?_⟩
  generalize e11 : upd B10 p11 _ = B11
  have t11 : Same B10 B11 := e11 ▸ Same.new g11 _
  have u11 : B11 p11 = some (.lst [.ref p8, .ref p9, u, .ref p10, .non, .str "3"]) := by rw [← e11]; exact upd_same
  refine ⟨p7, p11, _, _, rfl, rfl, (t8.trans (t9.trans (t10.trans t11))) _ _ u7, u11, (by show 12 ≤ sizeLine; decide), fun p12 g12 => ?_⟩
  generalize e12 : upd B11 p12 _ = B12
  have t12 : Same B11 B12 := e12 ▸ Same.new g12 _
  have u12 : B12 p12 = some (.lst [.ref p1, .ref p2, .ref p3, .ref p4, .ref p5, .ref p6, .ref p8, .ref p9, u, .ref p10, .non, .str "3"]) := by rw [← e12]; exact upd_same
  have hu12 := hu6.up (t1.trans (t2.trans (t3.trans (t4.trans (t5.trans (t6.trans (t7.trans (t8.trans (t9.trans (t10.trans (t11.trans t12)))))))))))
  have tt := s06.trans (t1.trans (t2.trans (t3.trans (t4.trans (t5.trans (t6.trans (t7.trans (t8.trans (t9.trans (t10.trans (t11.trans t12)))))))))))
  have pick : ∃ x tx, atI [V.ref p1, .ref p2, .ref p3, .ref p4, .ref p5, .ref p6, .ref p8, .ref p9, u, .ref p10, .non, .str "3"] (c / 8 % 12) = some x ∧ ThAt K B12 x tx := by
    obtain ⟨k, hk, ek⟩ : ∃ k : Nat, k < 12 ∧ c / 8 % 12 = (k : Int) := ⟨(c / 8 % 12).toNat, by omega, by omega⟩
    rw [ek]
    rcases k with _ | _ | _ | _ | _ | _ | _ | _ | _ | _ | _ | _ | k
    · exact ⟨_, _, rfl, .tup ((t2.trans (t3.trans (t4.trans (t5.trans (t6.trans (t7.trans (t8.trans (t9.trans (t10.trans (t11.trans t12)))))))))) _ _ u1) rfl (by show 2 ≤ 100; decide) (th2 (.int _) hu12)⟩
    · exact ⟨_, _, rfl, .tup ((t3.trans (t4.trans (t5.trans (t6.trans (t7.trans (t8.trans (t9.trans (t10.trans (t11.trans t12))))))))) _ _ u2) rfl (by show 2 ≤ 100; decide) (th2 (.int _) hu12)⟩
    · exact ⟨_, _, rfl, .tup ((t4.trans (t5.trans (t6.trans (t7.trans (t8.trans (t9.trans (t10.trans (t11.trans t12)))))))) _ _ u3) rfl (by show 2 ≤ 100; decide) (th2 (.int _) hu12)⟩
    · exact ⟨_, _, rfl, .odd (.lst ((t5.trans (t6.trans (t7.trans (t8.trans (t9.trans (t10.trans (t11.trans t12))))))) _ _ u4)) kit_li kit_lt⟩
    · exact ⟨_, _, rfl, .tup ((t6.trans (t7.trans (t8.trans (t9.trans (t10.trans (t11.trans t12)))))) _ _ u5) rfl (by show 3 ≤ 100; decide) (th3 (.int _) hu12 (.int _))⟩
    · exact ⟨_, _, rfl, .tup ((t7.trans (t8.trans (t9.trans (t10.trans (t11.trans t12))))) _ _ u6) rfl (by show 2 ≤ 100; decide) (th2 (.bl _) hu12)⟩
    · exact ⟨_, _, rfl, .tup ((t9.trans (t10.trans (t11.trans t12))) _ _ u8) rfl (by show 2 ≤ 100; decide) (th2 (.odd .non kit_ni kit_nt) (.int _))⟩
    · exact ⟨_, _, rfl, .tup ((t10.trans (t11.trans t12)) _ _ u9) rfl (by show 1 ≤ 100; decide) (th1 (.int _))⟩
    · exact ⟨_, _, rfl, hu12⟩
    · exact ⟨_, _, rfl, .tup ((t11.trans t12) _ _ u10) rfl (by show 2 ≤ 100; decide) (th2 (.int _) hu12)⟩
    · exact ⟨_, _, rfl, .odd .non kit_ni kit_nt⟩
    · exact ⟨_, _, rfl, .odd (.str _) kit_si kit_st⟩
    · omega
  obtain ⟨x, tx, hat, hx⟩ := pick
  exact ⟨_, rfl, _, rfl, _, _, rfl, rfl, cdivW (by decide) (by decide), _, _, rfl, rfl, (by show (0 : Int) < 12; decide), p12, _, _, _, rfl, rfl, SqL.of u12, hat, q' _ tx B12 tt hx⟩
abbrev s_law : Stmt := top 20
theorem sc_law : FnScope ["_law_script", "_law_at_here", "_law_thing_here", "_law_found"] ["_law_script"] (defScope s_law) := ⟨rfl, rfl, rfl, by decide +kernel, rfl, by decide +kernel, by decide +kernel⟩
def sp_law (K : PySem.W.Frag) : Sp := fun vs H Q _ => ∃ (a : Addr) (ns : List Int), vs = [.ref a] ∧ SqL K H a (ns.map V.int) ∧ ns.length ≤ 63 ∧ ∀ H', Q (.bl true) H'
theorem rng15 {M : Int} (h0 : 0 ≤ M) (h1 : M ≤ 63) : ∃ N : Nat, Builtin.Range.small 0 M 2 = true ∧ Builtin.Range.rangeSize 0 M 2 = (N : Int) ∧ N ≤ 40 := by
  have e : ∀ m : Nat, m < 64 → Builtin.Range.small 0 (m : Int) 2 = true ∧ Builtin.Range.rangeSize 0 (m : Int) 2 = (((m + 1) / 2 : Nat) : Int) := by decide +kernel
  obtain ⟨m, rfl⟩ : ∃ m : Nat, M = (m : Int) := ⟨M.toNat, by omega⟩
  obtain ⟨e1, e2⟩ := e m (by omega)
  exact ⟨(m + 1) / 2, e1, e2, by omega⟩
theorem ok_law (T : Tx K mg) (q : Quiet CX) (F : FunD K "law" "law" s_law f fd .none) (C__law_at : Fok P w K mg base CX 1 "_law_at" ["_law_script", "_law_k"] [] (sp_law_at K)) (C__law_thing : Fok P w K mg base CX 48 "_law_thing" ["_law_cell", "_law_more"] [] (sp_law_thing K)) (C_is_sheet : Fok P w K mg base CX 45 "is_sheet" ["thing"] [] (sp_is_sheet K)) (C__law_is_sheet : Fok P w K mg base CX 43 "_law_is_sheet" ["_law_thing_here"] [] (sp_is_sheet K)) :
    FnOk P w K mg base CX 49 f fd ["_law_script"] (sp_law K) := by
  refine F.ok sc_law (fun vs H Q E h => ?_) (fun cdv A outer s H vs Q E hr h => ?_)
  · obtain ⟨_, _, rfl, _⟩ := h
    rfl
  obtain ⟨a, ns, rfl, hS, h63, q'⟩ := h
  refine ⟨_, (pss_cons (ps_for PassesOwn.never rfl (pi_range3 rfl T.b_range (pa_cons pe_int (pa_cons (pe_callB (call_max2 rfl) rfl T.b_max bb_max (pa_cons pe_int (pa_cons (pe_callB (call_min2 rfl) rfl T.b_min bb_min (pa_cons (pe_callB call_len rfl T.b_len bb_len (pa_cons (pv 0) pa_nil)) (pa_cons pe_int pa_nil))) pa_nil))) (pa_cons pe_int pa_nil)))) (pg_name (i := 1) sc_law.nd rfl (Or.inl rfl)) (pss_cons (ps_set (i := 2) sc_law.nd rfl (Or.inl rfl) (pe_callF C__law_thing q hr (pa_cons (pe_callF C__law_at q hr (pa_cons (pv 0) (pa_cons (pv 1) pa_nil))) (pa_cons (pe_callF C__law_at q hr (pa_cons (pv 0) (pa_cons (pe_op op_add (pv 1) pe_int) pa_nil))) pa_nil)))) (pss_cons (ps_set (i := 3) sc_law.nd rfl (Or.inl rfl) (pe_callF C_is_sheet q hr (pa_cons (pv 2) pa_nil))) (pss_one (ps_if (PW.pt (pw_or (pt_not (pt_val (pe_callB (call_isiT "bool") rfl T.b_isinstance bb_isinstance (pa_cons (pv 3) (pa_cons (pe_bty T.b_bool bt_bool) pa_nil))))) (pw_or1 (pt_cmpR op_ne (pv 3) (pe_callF C__law_is_sheet q hr (pa_cons (pv 2) pa_nil)) (nomark _))))) (pss_one (ps_ret pe_bl)) pss_nil))))) (pss_one (ps_ret pe_bl))), ?_⟩
  refine ⟨_, rfl, _, _, rfl, .inl ⟨_, hS, rfl⟩, _, _, rfl, _, _, rfl, ?_⟩
  obtain ⟨L, eL⟩ : ∃ L : Int, L = (((ns.map V.int).length : Nat) : Int) := ⟨_, rfl⟩
  have hL : 0 ≤ L ∧ L ≤ 63 := by rw [eL, List.length_map]; omega
  obtain ⟨M, eM, hM⟩ : ∃ M : Int, M = (if (if (40 : Int) < L then (40 : Int) else L) > 2 then (if (40 : Int) < L then (40 : Int) else L) else 2) ∧ (0 ≤ M ∧ M ≤ 63) := ⟨_, rfl, by split <;> split <;> omega⟩
  obtain ⟨N, sm, sz, hN⟩ := rng15 hM.1 hM.2
  refine ⟨0, M, 2, N, (by show [V.int 0, V.int _, V.int 2] = [V.int 0, V.int M, V.int 2]; rw [eM, eL]), by decide, by decide, sm, sz, for_gen (fun i σ H2 => Same H H2 ∧ ∃ o1 o2 o3 : Option V, σ = [some (.ref a), o1, o2, o3]) ⟨Same.refl H, _, _, _, rfl⟩ ?_ ?_⟩
  · rintro k σ H2 hk ⟨s2, o1, o2, o3, rfl⟩
    have hS2 := s2.seq hS
    refine ⟨_, rfl, _, rfl, a, ns, 2 * k, (by show [V.ref a, V.int (0 + (k : Int) * 2)] = [V.ref a, V.int ((2 * k : Nat) : Int)]; rw [show (0 : Int) + (k : Int) * 2 = ((2 * k : Nat) : Int) by omega]), hS2, h63, ?_⟩
    refine ⟨_, rfl, _, rfl, _, _, rfl, rfl, a, ns, 2 * k + 1, (by show [V.ref a, V.int (0 + (k : Int) * 2 + 1)] = [V.ref a, V.int ((2 * k + 1 : Nat) : Int)]; rw [show (0 : Int) + (k : Int) * 2 + 1 = ((2 * k + 1 : Nat) : Int) by omega]), hS2, h63, _, _, rfl, fun v th H3 s3 hv => ?_⟩
    refine ⟨_, rfl, v, th, rfl, hv, fun H4 s4 => ?_⟩
    refine ⟨_, rfl, _, _, _, rfl, .bl _, kit_bb, _, rfl, iteF ?_⟩
    exact ⟨_, rfl, _, rfl, v, th, rfl, hv.up s4, fun H5 s5 => ⟨rfl, _, rfl, iteNS rfl ⟨s2.trans (s3.trans (s4.trans s5)), _, _, _, rfl⟩⟩⟩
  · rintro σ H2 ⟨s2, o1, o2, o3, rfl⟩
    exact q' _
end
end Qs


namespace Qs
open PySem L2
theorem all_mk {l : PySem.W.OpenLaw} {w : World} {K : PySem.W.Frag} {h : Heap} {mg : Str → Option Value} {fa f0 f1 f2 f3 f4 f5 f6 f7 f8 f9 f10 f11 f12 f13 f14 : Addr} (X : K.In h) (G : h.Ns mainGlobals mg) (hfa : mg "law" = some (.ref fa))
    {od0 an0 od1 an1 od2 an2 od3 an3 od4 an4 od5 an5 od6 an6 od7 an7 od8 an8 od9 an9 od10 an10 od11 an11 od12 an12 od13 an13 od14 an14 : Option Addr} {sl0 sl1 sl2 sl3 sl4 sl5 sl6 sl7 sl8 sl9 sl10 sl11 sl12 sl13 sl14 : Array (Option Value)} {oc0 kV0 dc0 pm0 cd0 ct0 oc1 kV1 dc1 pm1 cd1 ct1 oc2 kV2 dc2 pm2 cd2 ct2 oc3 kV3 dc3 pm3 cd3 ct3 oc4 kV4 dc4 pm4 cd4 ct4 oc5 kV5 dc5 pm5 cd5 ct5 oc6 kV6 dc6 pm6 cd6 ct6 oc7 kV7 dc7 pm7 cd7 ct7 oc8 kV8 dc8 pm8 cd8 ct8 oc9 kV9 dc9 pm9 cd9 ct9 oc10 kV10 dc10 pm10 cd10 ct10 oc11 kV11 dc11 pm11 cd11 ct11 oc12 kV12 dc12 pm12 cd12 ct12 oc13 kV13 dc13 pm13 cd13 ct13 oc14 kV14 dc14 pm14 cd14 ct14 : Value}
    (a0 : PySem.W.nsIn K mainGlobals "is_whole" = some (some (.ref f0))) (l0 : K.lookup f0 = some ⟨oc0, od0, .func (PySem.W.fnOf "is_whole" "is_whole" (defArgs s_is_whole) (defBody s_is_whole) (defScope s_is_whole) .none kV0 dc0 pm0 an0 cd0 ct0), sl0⟩) (c0 : PySem.W.codeIn K cd0 "is_whole" = true) (k0 : PySem.W.keepIn K (.ref f0) = true)
    (a1 : PySem.W.nsIn K mainGlobals "is_level" = some (some (.ref f1))) (l1 : K.lookup f1 = some ⟨oc1, od1, .func (PySem.W.fnOf "is_level" "is_level" (defArgs s_is_level) (defBody s_is_level) (defScope s_is_level) .none kV1 dc1 pm1 an1 cd1 ct1), sl1⟩) (c1 : PySem.W.codeIn K cd1 "is_level" = true) (k1 : PySem.W.keepIn K (.ref f1) = true)
    (a2 : PySem.W.nsIn K mainGlobals "is_colour" = some (some (.ref f2))) (l2 : K.lookup f2 = some ⟨oc2, od2, .func (PySem.W.fnOf "is_colour" "is_colour" (defArgs s_is_colour) (defBody s_is_colour) (defScope s_is_colour) .none kV2 dc2 pm2 an2 cd2 ct2), sl2⟩) (c2 : PySem.W.codeIn K cd2 "is_colour" = true) (k2 : PySem.W.keepIn K (.ref f2) = true)
    (a3 : PySem.W.nsIn K mainGlobals "is_of_one_colour" = some (some (.ref f3))) (l3 : K.lookup f3 = some ⟨oc3, od3, .func (PySem.W.fnOf "is_of_one_colour" "is_of_one_colour" (defArgs s_is_of_one_colour) (defBody s_is_of_one_colour) (defScope s_is_of_one_colour) .none kV3 dc3 pm3 an3 cd3 ct3), sl3⟩) (c3 : PySem.W.codeIn K cd3 "is_of_one_colour" = true) (k3 : PySem.W.keepIn K (.ref f3) = true)
    (a4 : PySem.W.nsIn K mainGlobals "is_tree" = some (some (.ref f4))) (l4 : K.lookup f4 = some ⟨oc4, od4, .func (PySem.W.fnOf "is_tree" "is_tree" (defArgs s_is_tree) (defBody s_is_tree) (defScope s_is_tree) .none kV4 dc4 pm4 an4 cd4 ct4), sl4⟩) (c4 : PySem.W.codeIn K cd4 "is_tree" = true) (k4 : PySem.W.keepIn K (.ref f4) = true)
    (a5 : PySem.W.nsIn K mainGlobals "is_sheet" = some (some (.ref f5))) (l5 : K.lookup f5 = some ⟨oc5, od5, .func (PySem.W.fnOf "is_sheet" "is_sheet" (defArgs s_is_sheet) (defBody s_is_sheet) (defScope s_is_sheet) .none kV5 dc5 pm5 an5 cd5 ct5), sl5⟩) (c5 : PySem.W.codeIn K cd5 "is_sheet" = true) (k5 : PySem.W.keepIn K (.ref f5) = true)
    (a6 : PySem.W.nsIn K mainGlobals "_law_at" = some (some (.ref f6))) (l6 : K.lookup f6 = some ⟨oc6, od6, .func (PySem.W.fnOf "_law_at" "_law_at" (defArgs s_law_at) (defBody s_law_at) (defScope s_law_at) .none kV6 dc6 pm6 an6 cd6 ct6), sl6⟩) (c6 : PySem.W.codeIn K cd6 "_law_at" = true) (k6 : PySem.W.keepIn K (.ref f6) = true)
    (a7 : PySem.W.nsIn K mainGlobals "_law_tree" = some (some (.ref f7))) (l7 : K.lookup f7 = some ⟨oc7, od7, .func (PySem.W.fnOf "_law_tree" "_law_tree" (defArgs s_law_tree) (defBody s_law_tree) (defScope s_law_tree) .none kV7 dc7 pm7 an7 cd7 ct7), sl7⟩) (c7 : PySem.W.codeIn K cd7 "_law_tree" = true) (k7 : PySem.W.keepIn K (.ref f7) = true)
    (a8 : PySem.W.nsIn K mainGlobals "_law_round" = some (some (.ref f8))) (l8 : K.lookup f8 = some ⟨oc8, od8, .func (PySem.W.fnOf "_law_round" "_law_round" (defArgs s_law_round) (defBody s_law_round) (defScope s_law_round) .none kV8 dc8 pm8 an8 cd8 ct8), sl8⟩) (c8 : PySem.W.codeIn K cd8 "_law_round" = true) (k8 : PySem.W.keepIn K (.ref f8) = true)
    (a9 : PySem.W.nsIn K mainGlobals "_law_spoiled" = some (some (.ref f9))) (l9 : K.lookup f9 = some ⟨oc9, od9, .func (PySem.W.fnOf "_law_spoiled" "_law_spoiled" (defArgs s_law_spoiled) (defBody s_law_spoiled) (defScope s_law_spoiled) .none kV9 dc9 pm9 an9 cd9 ct9), sl9⟩) (c9 : PySem.W.codeIn K cd9 "_law_spoiled" = true) (k9 : PySem.W.keepIn K (.ref f9) = true)
    (a10 : PySem.W.nsIn K mainGlobals "_law_is_tree" = some (some (.ref f10))) (l10 : K.lookup f10 = some ⟨oc10, od10, .func (PySem.W.fnOf "_law_is_tree" "_law_is_tree" (defArgs s_law_is_tree) (defBody s_law_is_tree) (defScope s_law_is_tree) .none kV10 dc10 pm10 an10 cd10 ct10), sl10⟩) (c10 : PySem.W.codeIn K cd10 "_law_is_tree" = true) (k10 : PySem.W.keepIn K (.ref f10) = true)
    (a11 : PySem.W.nsIn K mainGlobals "_law_deep" = some (some (.ref f11))) (l11 : K.lookup f11 = some ⟨oc11, od11, .func (PySem.W.fnOf "_law_deep" "_law_deep" (defArgs s_law_deep) (defBody s_law_deep) (defScope s_law_deep) .none kV11 dc11 pm11 an11 cd11 ct11), sl11⟩) (c11 : PySem.W.codeIn K cd11 "_law_deep" = true) (k11 : PySem.W.keepIn K (.ref f11) = true)
    (a12 : PySem.W.nsIn K mainGlobals "_law_thing" = some (some (.ref f12))) (l12 : K.lookup f12 = some ⟨oc12, od12, .func (PySem.W.fnOf "_law_thing" "_law_thing" (defArgs s_law_thing) (defBody s_law_thing) (defScope s_law_thing) .none kV12 dc12 pm12 an12 cd12 ct12), sl12⟩) (c12 : PySem.W.codeIn K cd12 "_law_thing" = true) (k12 : PySem.W.keepIn K (.ref f12) = true)
    (a13 : PySem.W.nsIn K mainGlobals "_law_is_sheet" = some (some (.ref f13))) (l13 : K.lookup f13 = some ⟨oc13, od13, .func (PySem.W.fnOf "_law_is_sheet" "_law_is_sheet" (defArgs s_law_is_sheet) (defBody s_law_is_sheet) (defScope s_law_is_sheet) .none kV13 dc13 pm13 an13 cd13 ct13), sl13⟩) (c13 : PySem.W.codeIn K cd13 "_law_is_sheet" = true) (k13 : PySem.W.keepIn K (.ref f13) = true)
    (a14 : PySem.W.nsIn K mainGlobals "law" = some (some (.ref f14))) (l14 : K.lookup f14 = some ⟨oc14, od14, .func (PySem.W.fnOf "law" "law" (defArgs s_law) (defBody s_law) (defScope s_law) .none kV14 dc14 pm14 an14 cd14 ct14), sl14⟩) (c14 : PySem.W.codeIn K cd14 "law" = true) (k14 : PySem.W.keepIn K (.ref f14) = true)
    (z0 : PySem.W.nsIn K mainGlobals "isinstance" = some none)
    (z1 : PySem.W.nsIn K mainGlobals "int" = some none)
    (z2 : PySem.W.nsIn K mainGlobals "bool" = some none)
    {zt3 : Tok} (z3 : PySem.W.nsIn K mainGlobals "MOST" = some (some (.int 40 zt3)))
    {zt4 : Tok} (z4 : PySem.W.nsIn K mainGlobals "LAST_COLOUR" = some (some (.int 35 zt4)))
    (z5 : PySem.W.nsIn K mainGlobals "tuple" = some none)
    (z6 : PySem.W.nsIn K mainGlobals "all" = some none)
    (z7 : PySem.W.nsIn K mainGlobals "len" = some none)
    (z8 : PySem.W.nsIn K mainGlobals "range" = some none)
    (z9 : PySem.W.nsIn K mainGlobals "max" = some none)
    (z10 : PySem.W.nsIn K mainGlobals "min" = some none)
    : ∃ fd : FuncData, (∀ (s : Shared) (v : Value), BindsTo s fd ⟨[v], []⟩ [("_law_script", v)]) ∧ ∀ base : Heap, K.In base → base.Ns mainGlobals mg → FnOk l.prog w K mg base CX0 49 fa fd ["_law_script"] (sp_law K) := by
  have e := hfa.symm.trans (PySem.W.mg_of X G a14)
  cases e
  have T : Tx K mg := ⟨PySem.W.mg_none_of X G z0, PySem.W.mg_none_of X G z1, PySem.W.mg_none_of X G z2, ⟨_, PySem.W.mg_of X G z3⟩, ⟨_, PySem.W.mg_of X G z4⟩, PySem.W.mg_none_of X G z5, PySem.W.mg_none_of X G z6, PySem.W.mg_none_of X G z7, PySem.W.mg_none_of X G z8, PySem.W.mg_none_of X G z9, PySem.W.mg_none_of X G z10⟩
  have F0 := funD_mk (st := s_is_whole) l0 c0 k0
  have F1 := funD_mk (st := s_is_level) l1 c1 k1
  have F2 := funD_mk (st := s_is_colour) l2 c2 k2
  have F3 := funD_mk (st := s_is_of_one_colour) l3 c3 k3
  have F4 := funD_mk (st := s_is_tree) l4 c4 k4
  have F5 := funD_mk (st := s_is_sheet) l5 c5 k5
  have F6 := funD_mk (st := s_law_at) l6 c6 k6
  have F7 := funD_mk (st := s_law_tree) l7 c7 k7
  have F8 := funD_mk (st := s_law_round) l8 c8 k8
  have F9 := funD_mk (st := s_law_spoiled) l9 c9 k9
  have F10 := funD_mk (st := s_law_is_tree) l10 c10 k10
  have F11 := funD_mk (st := s_law_deep) l11 c11 k11
  have F12 := funD_mk (st := s_law_thing) l12 c12 k12
  have F13 := funD_mk (st := s_law_is_sheet) l13 c13 k13
  have F14 := funD_mk (st := s_law) l14 c14 k14
  have b0 := F0.binds (ps := ["thing"]) fun _ _ _ _ _ _ us hl => match us, hl with | [_], _ => rfl
  have b1 := F1.binds (ps := ["thing"]) fun _ _ _ _ _ _ us hl => match us, hl with | [_], _ => rfl
  have b2 := F2.binds (ps := ["thing"]) fun _ _ _ _ _ _ us hl => match us, hl with | [_], _ => rfl
  have b3 := F3.binds (ps := ["parts"]) fun _ _ _ _ _ _ us hl => match us, hl with | [_], _ => rfl
  have b4 := F4.binds (ps := ["thing", "level"]) fun _ _ _ _ _ _ us hl => match us, hl with | [_, _], _ => rfl
  have b5 := F5.binds (ps := ["thing"]) fun _ _ _ _ _ _ us hl => match us, hl with | [_], _ => rfl
  have b6 := F6.binds (ps := ["_law_script", "_law_k"]) fun _ _ _ _ _ _ us hl => match us, hl with | [_, _], _ => rfl
  have b7 := F7.binds (ps := ["_law_cell", "_law_deep_here"]) fun _ _ _ _ _ _ us hl => match us, hl with | [_, _], _ => rfl
  have b8 := F8.binds (ps := ["_law_tree_here", "_law_cell", "_law_many"]) fun _ _ _ _ _ _ us hl => match us, hl with | [_, _, _], _ => rfl
  have b9 := F9.binds (ps := ["_law_tree_here", "_law_cell"]) fun _ _ _ _ _ _ us hl => match us, hl with | [_, _], _ => rfl
  have b10 := F10.binds (ps := ["_law_thing_here", "_law_level"]) fun _ _ _ _ _ _ us hl => match us, hl with | [_, _], _ => rfl
  have b11 := F11.binds (ps := ["_law_tree_here"]) fun _ _ _ _ _ _ us hl => match us, hl with | [_], _ => rfl
  have b12 := F12.binds (ps := ["_law_cell", "_law_more"]) fun _ _ _ _ _ _ us hl => match us, hl with | [_, _], _ => rfl
  have b13 := F13.binds (ps := ["_law_thing_here"]) fun _ _ _ _ _ _ us hl => match us, hl with | [_], _ => rfl
  refine ⟨PySem.W.fnOf "law" "law" (defArgs s_law) (defBody s_law) (defScope s_law) .none kV14 dc14 pm14 an14 cd14 ct14, fun s v => .of_eq rfl, fun base _ _ => ?_⟩
  have C_is_whole : Fok l.prog w K mg base CX0 1 "is_whole" ["thing"] [] (sp_is_whole K) := fok F0 (ok_is_whole T F0) b0 (PySem.W.mg_of X G a0)
  have C_is_level : Fok l.prog w K mg base CX0 2 "is_level" ["thing"] [] (gsp_upto K 40) := fok F1 (gok_is_level T quiet0 F1 C_is_whole) b1 (PySem.W.mg_of X G a1)
  have C_is_colour : Fok l.prog w K mg base CX0 2 "is_colour" ["thing"] [] (gsp_upto K 35) := fok F2 (gok_is_colour T quiet0 F2 C_is_whole) b2 (PySem.W.mg_of X G a2)
  have C_is_of_one_colour : Fok l.prog w K mg base CX0 1 "is_of_one_colour" ["parts"] [] (sp_is_oneT) := fok F3 (ok_is_of_one_colour T F3) b3 (PySem.W.mg_of X G a3)
  have C_is_tree : Fok l.prog w K mg base CX0 44 "is_tree" ["thing", "level"] [] (sp_is_tree K 41) := fok F4 (ok_is_tree T quiet0 F4 C_is_colour C_is_of_one_colour b4 (PySem.W.mg_of X G a4) 41) b4 (PySem.W.mg_of X G a4)
  have C_is_sheet : Fok l.prog w K mg base CX0 45 "is_sheet" ["thing"] [] (sp_is_sheet K) := fok F5 (ok_is_sheet T quiet0 F5 C_is_level C_is_tree) b5 (PySem.W.mg_of X G a5)
  have C__law_at : Fok l.prog w K mg base CX0 1 "_law_at" ["_law_script", "_law_k"] [] (sp_law_at K) := fok F6 (ok_law_at T F6) b6 (PySem.W.mg_of X G a6)
  have C__law_tree : Fok l.prog w K mg base CX0 6 "_law_tree" ["_law_cell", "_law_deep_here"] [] (sp_law_tree 5) := fok F7 (ok_law_tree T quiet0 F7 b7 (PySem.W.mg_of X G a7) 5) b7 (PySem.W.mg_of X G a7)
  have C__law_round : Fok l.prog w K mg base CX0 1 "_law_round" ["_law_tree_here", "_law_cell", "_law_many"] [] (sp_law_round K) := fok F8 (ok_law_round T F8) b8 (PySem.W.mg_of X G a8)
  have C__law_spoiled : Fok l.prog w K mg base CX0 44 "_law_spoiled" ["_law_tree_here", "_law_cell"] [] (sp_law_spoiled K 43) := fok F9 (ok_law_spoiled T quiet0 F9 b9 (PySem.W.mg_of X G a9) 43) b9 (PySem.W.mg_of X G a9)
  have C__law_is_tree : Fok l.prog w K mg base CX0 42 "_law_is_tree" ["_law_thing_here", "_law_level"] [] (sp_law_is_tree K 41) := fok F10 (ok_law_is_tree T quiet0 F10 b10 (PySem.W.mg_of X G a10) 41) b10 (PySem.W.mg_of X G a10)
  have C__law_deep : Fok l.prog w K mg base CX0 47 "_law_deep" ["_law_tree_here"] [] (sp_law_deep K 46) := fok F11 (ok_law_deep T quiet0 F11 b11 (PySem.W.mg_of X G a11) 46) b11 (PySem.W.mg_of X G a11)
  have C__law_thing : Fok l.prog w K mg base CX0 48 "_law_thing" ["_law_cell", "_law_more"] [] (sp_law_thing K) := fok F12 (ok_law_thing T quiet0 F12 C__law_tree C__law_round C__law_spoiled C__law_deep) b12 (PySem.W.mg_of X G a12)
  have C__law_is_sheet : Fok l.prog w K mg base CX0 43 "_law_is_sheet" ["_law_thing_here"] [] (sp_is_sheet K) := fok F13 (ok_law_is_sheet T quiet0 F13 C__law_is_tree) b13 (PySem.W.mg_of X G a13)
  exact ok_law T quiet0 F14 C__law_at C__law_thing C_is_sheet C__law_is_sheet
theorem walk {l : PySem.W.OpenLaw} {q : Program} {loose : List Str} {XP : (Str → Option Value) → Heap → Prop} {YP : World → Heap → Prop} {d : DefRec} {K : Params → PySem.W.Frag} (hn : l.most = some 63) (hdf : d.params.defaults = [])
    (hY : ∀ (w : World) (h : Heap), YP w h → (K w.params).In h)
    (F : ∀ (w : World) (mg : Str → Option Value) (fa : Addr) (h : Heap), (K w.params).In h → h.Ns mainGlobals mg → mg d.name = some (.ref fa) →
      ∃ fd : FuncData, (∀ (s : Shared) (u : Value), BindsTo s fd ⟨[u], []⟩ [("_law_script", u)]) ∧ ∀ base : Heap, (K w.params).In base → base.Ns mainGlobals mg → FnOk l.prog w (K w.params) mg base CX0 49 fa fd ["_law_script"] (sp_law (K w.params))) :
    PySem.W.WalkO q loose XP YP l.row.toRowW d [] (fun f vs => PySem.call f vs) :=
  L2.walk_of (n := 63) (k := 49) (x := "_law_script") (CX := fun w => CX0) (sp := fun w => sp_law (K w.params)) hn (by decide) hdf ⟨rfl, by decide, by decide⟩ hY F (fun _ _ a ns hl _ hS => ⟨a, ns, rfl, hS, hl, fun _ => rfl⟩) fun _ _ _ _ _ z => z
end Qs
open PySem PySem.W PyProof.Rows
set_option maxRecDepth 100000 in
set_option maxHeartbeats 0 in
theorem PySem.Challenge.cw_quartersheet_k15_what_is_a_sheet_holds : PySem.Challenge.rw_quartersheet_k15_what_is_a_sheet.Holds := by
  w_on; o_law; k_head; (case hw => w_witness2)
  k_fill
  refine Qs.walk (l := PySem.Challenge.rw_quartersheet_k15_what_is_a_sheet) rfl rfl (fun w h Y => PySem.W.kIn_of Y) ?F
  case F =>
    intro w mg fa h KX G hmg
    refine' Qs.all_mk KX G hmg ?a0 ?l0 ?c0 ?k0 ?a1 ?l1 ?c1 ?k1 ?a2 ?l2 ?c2 ?k2 ?a3 ?l3 ?c3 ?k3 ?a4 ?l4 ?c4 ?k4 ?a5 ?l5 ?c5 ?k5 ?a6 ?l6 ?c6 ?k6 ?a7 ?l7 ?c7 ?k7 ?a8 ?l8 ?c8 ?k8 ?a9 ?l9 ?c9 ?k9 ?a10 ?l10 ?c10 ?k10 ?a11 ?l11 ?c11 ?k11 ?a12 ?l12 ?c12 ?k12 ?a13 ?l13 ?c13 ?k13 ?a14 ?l14 ?c14 ?k14 ?z0 ?z1 ?z2 ?z3 ?z4 ?z5 ?z6 ?z7 ?z8 ?z9 ?z10
    (case a0 => k_is)
    (case l0 => k_is)
    (case c0 => k_is)
    (case k0 => k_is)
    (case a1 => k_is)
    (case l1 => k_is)
    (case c1 => k_is)
    (case k1 => k_is)
    (case a2 => k_is)
    (case l2 => k_is)
    (case c2 => k_is)
    (case k2 => k_is)
    (case a3 => k_is)
    (case l3 => k_is)
    (case c3 => k_is)
    (case k3 => k_is)
    (case a4 => k_is)
    (case l4 => k_is)
    (case c4 => k_is)
    (case k4 => k_is)
    (case a5 => k_is)
    (case l5 => k_is)
    (case c5 => k_is)
    (case k5 => k_is)
    (case a6 => k_is)
    (case l6 => k_is)
    (case c6 => k_is)
    (case k6 => k_is)
    (case a7 => k_is)
    (case l7 => k_is)
    (case c7 => k_is)
    (case k7 => k_is)
    (case a8 => k_is)
    (case l8 => k_is)
    (case c8 => k_is)
    (case k8 => k_is)
    (case a9 => k_is)
    (case l9 => k_is)
    (case c9 => k_is)
    (case k9 => k_is)
    (case a10 => k_is)
    (case l10 => k_is)
    (case c10 => k_is)
    (case k10 => k_is)
    (case a11 => k_is)
    (case l11 => k_is)
    (case c11 => k_is)
    (case k11 => k_is)
    (case a12 => k_is)
    (case l12 => k_is)
    (case c12 => k_is)
    (case k12 => k_is)
    (case a13 => k_is)
    (case l13 => k_is)
    (case c13 => k_is)
    (case k13 => k_is)
    (case a14 => k_is)
    (case l14 => k_is)
    (case c14 => k_is)
    (case k14 => k_is)
    (case z0 => k_is)
    (case z1 => k_is)
    (case z2 => k_is)
    (case z3 => k_is)
    (case z4 => k_is)
    (case z5 => k_is)
    (case z6 => k_is)
    (case z7 => k_is)
    (case z8 => k_is)
    (case z9 => k_is)
    (case z10 => k_is)


