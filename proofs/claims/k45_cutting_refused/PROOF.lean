import PyProof.Rows.All
import Wide.All
import OpenK.AllK
import Wide.FinOn
import Lean
import PyProof.EqAt
import PyProof.EqKinds
import PyProof.TupleCall
import PySem.Challenge.RW_quartersheet_k45_cutting_refused
set_option Elab.async false
set_option linter.all false
set_option maxRecDepth 100000

namespace L2
open PySem PySem.Spec PyProof.Rows


abbrev Key := Sum Int Str
def keyIs : Key → Value → Bool
  | .inl k, v => Value.isInt k v
  | .inr x, v => Value.isStrOf x v
def keyH (w : World) : Key → Int
  | .inl k => hashInt k
  | .inr x => hashStr w x
theorem keyIs_shape : ∀ {k : Key} {v : Value}, keyIs k v = true → (∃ i t, k = Sum.inl i ∧ v = Value.int i t) ∨ (∃ x t, k = Sum.inr x ∧ v = Value.str x t)
  | .inl i, v, h => by
    obtain ⟨t, e⟩ := Value.isInt_shape (k := i) (v := v) h
    exact .inl ⟨i, t, rfl, e⟩
  | .inr x, v, h => by
    obtain ⟨t, e⟩ := Value.isStrOf_shape (x := x) (v := v) h
    exact .inr ⟨x, t, rfl, e⟩
theorem key_ll (a b : Int) : decide ((Sum.inl a : Key) = Sum.inl b) = (a == b) := by
  by_cases e : a = b
  · subst e; simp
  · have h : ¬ (Sum.inl a : Key) = Sum.inl b := fun q => e (Sum.inl.inj q)
    rw [decide_eq_false h]
    exact (beq_eq_false_iff_ne.mpr e).symm
theorem key_rr (a b : Str) : decide ((Sum.inr a : Key) = Sum.inr b) = decide (a = b) := by
  by_cases e : a = b
  · subst e; simp
  · have h : ¬ (Sum.inr a : Key) = Sum.inr b := fun q => e (Sum.inr.inj q)
    rw [decide_eq_false h, decide_eq_false e]
theorem key_lr (a : Int) (b : Str) : decide ((Sum.inl a : Key) = Sum.inr b) = false := decide_eq_false (fun q => nomatch q)
theorem key_rl (a : Str) (b : Int) : decide ((Sum.inr a : Key) = Sum.inl b) = false := decide_eq_false (fun q => nomatch q)

def mixKind (prog : Program) (w : World) : PySem.KeyKind prog w Key where
  is := keyIs
  hash := keyH w
  inj := fun v a b ha hb => by
    rcases keyIs_shape ha with ⟨i, t, rfl, rfl⟩ | ⟨x, t, rfl, rfl⟩
    · rcases keyIs_shape hb with ⟨j, u, rfl, e⟩ | ⟨y, u, rfl, e⟩
      · injection e with e1 _; rw [e1]
      · exact nomatch e
    · rcases keyIs_shape hb with ⟨j, u, rfl, e⟩ | ⟨y, u, rfl, e⟩
      · exact nomatch e
      · injection e with e1 _; rw [e1]
  byValue := fun k v h => by
    rcases keyIs_shape h with ⟨i, t, rfl, rfl⟩ | ⟨x, t, rfl, rfl⟩ <;> rfl
  pyHash := fun hv h => by
    rcases keyIs_shape hv with ⟨i, t, rfl, rfl⟩ | ⟨x, t, rfl, rfl⟩
    · exact wpAny_pyHash_int h
    · exact wpAny_pyHash_str h
  eqBool := fun hu hv h => by
    rcases keyIs_shape hu with ⟨i, t, rfl, rfl⟩ | ⟨x, t, rfl, rfl⟩
    · rcases keyIs_shape hv with ⟨j, u, rfl, rfl⟩ | ⟨y, u, rfl, rfl⟩
      · rw [key_ll] at h; exact wpAny_eqBool_int h
      · rw [key_lr] at h; exact SeqAt.EqAt.int_str i t y u _ _ _ _ h
    · rcases keyIs_shape hv with ⟨j, u, rfl, rfl⟩ | ⟨y, u, rfl, rfl⟩
      · rw [key_rl] at h; exact SeqAt.EqAt.str_int x t j u _ _ _ _ h
      · rw [key_rr] at h; exact wpAny_eqBool_str h
  «strs» := fun k x t v h => by
    rcases keyIs_shape h with ⟨i, u, rfl, e⟩ | ⟨y, u, rfl, e⟩
    · exact nomatch e
    · injection e with e1 _
      subst e1
      cases v <;> rfl

end L2

namespace L2
open PySem PySem.Spec PyProof.Rows


inductive V where
  | non | bl (b : Bool) | int (i : Int) | str (x : Str) | byt (b : Array UInt8) | flt (b : UInt64) | ref (a : Addr) | ty (n : String)
  deriving DecidableEq

def RelV : V → Value → Prop
  | .non, u => u = Value.none
  | .bl b, u => u = Value.bool b
  | .int i, u => ∃ t, u = Value.int i t
  | .str x, u => ∃ t, u = Value.str x t
  | .byt b, u => ∃ t, u = Value.bytes b t
  | .flt b, u => ∃ t, u = Value.float b t
  | .ref a, u => u = Value.ref a
  | .ty n, u => u = Value.type n

abbrev Vals : List V → List Value → Prop := Paired RelV
theorem Vals.length {xs : List V} {us : List Value} (r : Vals xs us) : xs.length = us.length := Paired.length r
theorem Vals.get : ∀ {xs : List V} {us : List Value} {i : Nat} {x : V}, Vals xs us → xs[i]? = some x → ∃ u, us[i]? = some u ∧ RelV x u
  | _, _, _, _, .nil, e => by simp at e
  | _, _, 0, _, .cons r _, e => by simp at e; subst e; exact ⟨_, rfl, r⟩
  | _, _, i + 1, x, .cons _ t, e => by
    obtain ⟨u, h1, h2⟩ := Vals.get (i := i) (x := x) t (by simpa using e)
    exact ⟨u, by simpa using h1, h2⟩
theorem Vals.set {x : V} {u : Value} (r : RelV x u) : ∀ {xs : List V} {us : List Value} (i : Nat), Vals xs us → Vals (xs.set i x) (us.set i u)
  | _, _, _, .nil => .nil
  | _, _, 0, .cons _ t => .cons r t
  | _, _, i + 1, .cons q t => .cons q (Vals.set r i t)
theorem Vals.append : ∀ {xs ys : List V} {us ws : List Value}, Vals xs us → Vals ys ws → Vals (xs ++ ys) (us ++ ws)
  | _, _, _, _, .nil, s => s
  | _, _, _, _, .cons r t, s => .cons r (Vals.append t s)
def RelO : Option V → Option Value → Prop
  | some v, some u => RelV v u
  | none, none => True
  | _, _ => False
def KV {κ : Type} : List (κ × V) → List (κ × Value) → Prop := Paired fun (p : κ × V) (q : κ × Value) => p.1 = q.1 ∧ RelV p.2 q.2


def kV : Key → V
  | .inl i => .int i
  | .inr x => .str x


inductive HO where
  
  | lst (xs : List V)
  
  | tup (xs : List V)
  
  | dK (kvs : List (Key × V)) | dT (kvs : List (List Key × V))
  
  | set (S : Int → Bool) (n : Nat)
  
  | ins (C dx : Addr) (fs : List (Str × V))
  
  | own (x : Addr)
  
  | xd (fs : List (Str × V))
  
  | met (f x : Addr)
  
  | rng (lo hi : Int)
  
  | frz (o : Obj) (u : HO)
  
  | tbl (ps : Array Value)
  
  | ext (φ : Heap → Prop)

abbrev Hp := Addr → Option HO
def upd (H : Hp) (a : Addr) (o : HO) : Hp := fun b => if b = a then some o else H b
theorem upd_same {H : Hp} {a : Addr} {o : HO} : upd H a o a = some o := by unfold upd; rw [if_pos rfl]
theorem upd_ne {H : Hp} {a b : Addr} {o : HO} (h : b ≠ a) : upd H a o b = H b := by unfold upd; rw [if_neg h]
theorem upd_upd {H : Hp} {a : Addr} {o u : HO} : upd (upd H a o) a u = upd H a u := by
  funext b; unfold upd; split <;> rfl

theorem ne_of {H : Hp} {a b : Addr} {o u : HO} (h : H a = some o) (h' : H b = some u) (d : o ≠ u) : a ≠ b := by
  intro e; subst e; rw [h] at h'; exact d (Option.some.inj h')
theorem ne_of_none {H : Hp} {a b : Addr} {o : HO} (h : H a = some o) (h' : H b = none) : a ≠ b := by
  intro e; subst e; rw [h] at h'; cases h'

section
variable (P : Program) (w : World)
def ObjOk (H : Hp) (h : Heap) (a : Addr) : HO → Prop
  | .lst xs => xs.length ≤ sizeLine ∧ ∃ (its : List Value) (n : Nat), Vals xs its ∧ h.get? a = some { cls := .type "list", data := .seq its.toArray n }
  | .tup xs => xs.length ≤ sizeLine ∧ ∃ its : List Value, Vals xs its ∧ IsTup h a its.toArray
  | .dK kvs => kvs.length ≤ sizeLine ∧ (a == sysModules) = false ∧ ∃ vs, KV kvs vs ∧ h.DictOf (mixKind P w) a vs
  | .dT kvs => kvs.length ≤ sizeLine ∧ (a == sysModules) = false ∧ ∃ xs : List (List Key × Addr × Value),
      Paired (fun (p : List Key × V) (q : List Key × Addr × Value) => p.1 = q.1 ∧ H q.2.1 = some (.tup (p.1.map kV)) ∧ RelV p.2 q.2.2) kvs xs ∧
      ∃ o es ep, h.get? a = some o ∧ o.ExactDict ∧ o.data = .dict es ep ∧ es.toList = xs.map (entryOfKey (tupleKind (mixKind P w))) ∧ (xs.map (·.1)).Nodup
  | .set S n => h.SetOf (intKind P w) a S n
  | .ins C dx fs => H dx = some (.own a) ∧ fs.length ≤ 1000 ∧ dx ≠ a ∧ h.get? a = some (PySem.W.instObj C dx) ∧
      ∃ mA, h.Ns1 dx mA ∧ (∀ f, RelO (fs.lookup f) (mA f)) ∧ PySem.Within mA (fs.map (·.1))
  | .own _ => ∃ o, h.get? a = some o
  | .xd fs => ∃ mA, h.Ns1 a mA ∧ ∀ f, RelO (fs.lookup f) (mA f)
  | .rng lo hi => ∃ t u v, h.get? a = some { cls := .type "range", data := .fields #[.int lo t, .int hi u, .int 1 v] }
  | .frz o u => h.get? a = some o ∧ ObjOk H h a u
  | .tbl ps => h.get? a = some { cls := .none, data := .fields ps }
  | .met f x => h.get? a = some (PySem.W.methodObj (.ref f) (.ref x))
  | .ext φ => φ h ∧ (∃ o, h.get? a = some o) ∧ ∀ h1 h2 : Heap, φ h1 → (∀ o, h1.get? a = some o → h2.get? a = some o) → φ h2

def HOk (H : Hp) (h : Heap) : Prop := ∀ a o, H a = some o → ObjOk P w H h a o
end

section
variable {P : Program} {w : World} {H H' : Hp} {h h' : Heap} {a : Addr} {o : HO}
theorem ObjOk.lt (x : ObjOk P w H h a o) : a < h.objs.size := by
  cases o with
  | lst xs => obtain ⟨_, _, _, _, e⟩ := x; exact Heap.lt_size e
  | tup xs => obtain ⟨_, _, _, p⟩ := x; exact p.lt
  | dK kvs => obtain ⟨_, _, _, _, o, _, _, e, _⟩ := x; exact Heap.lt_size e
  | dT kvs => obtain ⟨_, _, _, _, o, _, _, e, _⟩ := x; exact Heap.lt_size e
  | set S n => obtain ⟨o, _, _, _, e, _⟩ := x; exact Heap.lt_size e
  | ins C dx fs => obtain ⟨_, _, _, e, _⟩ := x; exact Heap.lt_size e
  | own y => obtain ⟨_, e⟩ := x; exact Heap.lt_size e
  | xd fs => obtain ⟨_, ⟨_, _, _, e, _⟩, _⟩ := x; exact Heap.lt_size e
  | rng lo hi => obtain ⟨_, _, _, e⟩ := x; exact Heap.lt_size e
  | frz ob u => obtain ⟨e, _⟩ := x; exact Heap.lt_size e
  | tbl ps => exact Heap.lt_size (show h.get? a = some _ from x)
  | met f y => exact Heap.lt_size (show h.get? a = some _ from x)
  | ext φ => obtain ⟨_, ⟨_, e⟩, _⟩ := x; exact Heap.lt_size e
theorem Paired.mapP {α β : Type} {F G : α → β → Prop} : ∀ {l₁ : List α} {l₂ : List β}, Paired F l₁ l₂ → (∀ a b, F a b → G a b) → Paired G l₁ l₂
  | _, _, .nil, _ => .nil
  | _, _, .cons r t, f => .cons (f _ _ r) (Paired.mapP t f)
theorem ObjOk.stay (x : ObjOk P w H h a o) (k : ∀ b u, (b = a ∨ H b = some (.own a)) → h.get? b = some u → h'.get? b = some u)
    (ho : ∀ b, H b = some (.own a) → H' b = some (.own a)) (ht : ∀ b xs, H b = some (.tup xs) → H' b = some (.tup xs)) : ObjOk P w H' h' a o := by
  induction o with
  | lst xs => obtain ⟨z, its, n, r, e⟩ := x; exact ⟨z, its, n, r, k _ _ (.inl rfl) e⟩
  | tup xs => obtain ⟨z, its, r, ob, e, c⟩ := x; exact ⟨z, its, r, ob, k _ _ (.inl rfl) e, c⟩
  | dK kvs => obtain ⟨z, y, vs, r, ob, es, ep, e, c⟩ := x; exact ⟨z, y, vs, r, ob, es, ep, k _ _ (.inl rfl) e, c⟩
  | dT kvs =>
    obtain ⟨z, y, xs, r, ob, es, ep, e, c⟩ := x
    exact ⟨z, y, xs, Paired.mapP r fun p q z => ⟨z.1, ht _ _ z.2.1, z.2.2⟩, ob, es, ep, k _ _ (.inl rfl) e, c⟩
  | set S n => obtain ⟨ob, es, ep, t, e, c⟩ := x; exact ⟨ob, es, ep, t, k _ _ (.inl rfl) e, c⟩
  | ins C dx fs =>
    obtain ⟨d, z, ne, e, mA, ⟨od, es, ep, e2, c⟩, r⟩ := x
    exact ⟨ho _ d, z, ne, k _ _ (.inl rfl) e, mA, ⟨od, es, ep, k _ _ (.inr d) e2, c⟩, r⟩
  | own y => obtain ⟨ob, e⟩ := x; exact ⟨ob, k _ _ (.inl rfl) e⟩
  | xd fs => obtain ⟨mA, ⟨od, es, ep, e, c⟩, r⟩ := x; exact ⟨mA, ⟨od, es, ep, k _ _ (.inl rfl) e, c⟩, r⟩
  | rng lo hi => obtain ⟨t, u, v, e⟩ := x; exact ⟨t, u, v, k _ _ (.inl rfl) e⟩
  | frz ob u ih => obtain ⟨e, q⟩ := x; exact ⟨k _ _ (.inl rfl) e, ih q⟩
  | tbl ps =>
    have e : h.get? a = some { cls := .none, data := .fields ps } := x
    show h'.get? a = some { cls := .none, data := .fields ps }
    exact k a _ (.inl rfl) e
  | met f y =>
    have e : h.get? a = some (PySem.W.methodObj (.ref f) (.ref y)) := x
    show h'.get? a = some (PySem.W.methodObj (.ref f) (.ref y))
    exact k a _ (.inl rfl) e
  | ext φ => obtain ⟨p, ⟨o, e⟩, st⟩ := x; exact ⟨st _ _ p fun o q => k _ _ (.inl rfl) q, ⟨o, k _ _ (.inl rfl) e⟩, st⟩
theorem HOk.lt (x : HOk P w H h) (e : H a = some o) : a < h.objs.size := (x a o e).lt
theorem HOk.fresh (x : HOk P w H h) (e : h.objs.size ≤ a) : H a = none := by
  cases q : H a with
  | none => rfl
  | some u => exact absurd (Nat.lt_of_lt_of_le (x.lt q) e) (Nat.lt_irrefl _)

theorem HOk.kept (x : HOk P w H h) (k : ∀ b u, h.get? b = some u → h'.get? b = some u) : HOk P w H h' := fun a o e =>
  (x a o e).stay (fun b u _ q => k b u q) (fun _ q => q) fun _ _ q => q

theorem HOk.laid (x : HOk P w H h) (k : ∀ b u, h.get? b = some u → h'.get? b = some u) (hp : h.objs.size ≤ a) (new : ObjOk P w (upd H a o) h' a o) : HOk P w (upd H a o) h' := fun b u e => by
  have hn := x.fresh hp
  by_cases hb : b = a
  · subst hb; rw [upd_same] at e; cases e; exact new
  · rw [upd_ne hb] at e
    exact (x b u e).stay (fun c v _ q => k c v q) (fun c q => by rw [upd_ne (ne_of_none q hn)]; exact q) fun c xs q => by rw [upd_ne (ne_of_none q hn)]; exact q
end


def Rd (H : Hp) (a : Addr) (u : HO) : Prop := H a = some u ∨ ∃ o, H a = some (.frz o u)
theorem Rd.ok {P : Program} {w : World} {H : Hp} {h : Heap} {a : Addr} {u : HO} (r : Rd H a u) (x : HOk P w H h) : ObjOk P w H h a u := by
  rcases r with r | ⟨o, r⟩
  · exact x a u r
  · obtain ⟨_, q⟩ := x a _ r
    exact q

def Mut : Option HO → Prop
  | some (.lst _) => True
  | some (.dK _) => True
  | some (.dT _) => True
  | some (.set _ _) => True
  | some (.ins _ _ _) => True
  | some (.ext _) => True
  | _ => False
section
variable {P : Program} {w : World} {H : Hp} {h h' : Heap} {x e : Addr} {o' : HO}

theorem HOk.write (ok : HOk P w H h) (mu : Mut (H x)) (he : e = x ∨ H e = some (.own x)) (k : ∀ b u, b ≠ e → h.get? b = some u → h'.get? b = some u) (heo : ∃ u, h'.get? e = some u)
    (new : ObjOk P w (upd H x o') h' x o') : HOk P w (upd H x o') h' := fun b u q => by
  have nown : ∀ c y, H c = some (.own y) → c ≠ x := fun c y r z => by subst z; rw [r] at mu; exact mu
  have ntup : ∀ c xs, H c = some (.tup xs) → c ≠ x := fun c xs r z => by subst z; rw [r] at mu; exact mu
  by_cases hb : b = x
  · subst hb; rw [upd_same] at q; cases q; exact new
  · rw [upd_ne hb] at q
    by_cases hbe : b = e
    · have q' : H b = some (.own x) := by
        rcases he with z | z
        · exact absurd (hbe.trans z) hb
        · rw [hbe]; exact z
      rw [q] at q'; cases q'
      obtain ⟨v, hv⟩ := heo
      exact ⟨v, by rw [hbe]; exact hv⟩
    · refine (ok b u q).stay (fun c v hc r => k c v ?_ r) (fun c r => by rw [upd_ne (nown c b r)]; exact r) fun c xs r => by rw [upd_ne (ntup c xs r)]; exact r
      rcases hc with rfl | hc
      · exact hbe
      · rintro rfl
        rcases he with z | z
        · exact nown c b hc z
        · rw [hc] at z; cases z; exact hb rfl
end


structure Un (fs ex : List Addr) (H H' : Hp) (h h' : Heap) : Prop where
  keep : ∀ b o, h.get? b = some o → H b = none → b ∉ fs → b ∉ ex → h'.get? b = some o
  slot : ∀ b o, h.get? b = some o → H b = none → b ∈ fs → b ∉ ex → ∃ sl, h'.get? b = some { o with slots := sl }
  free : ∀ b o, h.get? b = some o → H b = none → b ∉ ex → H' b = none
  there : ∀ b o, h.get? b = some o → b ∉ ex → ∃ o', h'.get? b = some o'
  tups : ∀ b xs, H b = some (.tup xs) → H' b = some (.tup xs)
  frzs : ∀ b o u, H b = some (.frz o u) → H' b = some (.frz o u)
  tbls : ∀ b ps, H b = some (.tbl ps) → ∃ more, H' b = some (.tbl (ps ++ more))
section
variable {fs fs' ex ex' : List Addr} {H H1 H2 : Hp} {h h1 h2 h' : Heap} {a x e : Addr} {o : HO}
theorem Un.any (u : Un fs ex H H1 h h1) {b : Addr} {ob : Obj} (q : h.get? b = some ob) (n : H b = none) (hx : b ∉ ex) : ∃ sl, h1.get? b = some { ob with slots := sl } := by
  by_cases hb : b ∈ fs
  · exact u.slot b ob q n hb hx
  · exact ⟨ob.slots, u.keep b ob q n hb hx⟩
theorem Un.kept (k : ∀ b u, h.get? b = some u → h'.get? b = some u) : Un fs ex H H h h' :=
  ⟨fun b ob q _ _ _ => k b ob q, fun b ob q _ _ _ => ⟨ob.slots, k b ob q⟩, fun _ _ _ n _ => n, fun b ob q _ => ⟨ob, k b ob q⟩, fun _ _ q => q, fun _ _ _ q => q, fun _ ps q => ⟨#[], by rw [q]; simp⟩⟩
theorem Un.refl : Un fs ex H H h h := Un.kept fun _ _ q => q
theorem Un.laid (k : ∀ b u, h.get? b = some u → h'.get? b = some u) (hp : h.objs.size ≤ a) (hn : H a = none) : Un fs ex H (upd H a o) h h' where
  keep := fun b u q _ _ _ => k b u q
  slot := fun b u q _ _ _ => ⟨u.slots, k b u q⟩
  free := fun b u q n _ => by rw [upd_ne (Nat.ne_of_lt (Nat.lt_of_lt_of_le (Heap.lt_size q) hp))]; exact n
  there := fun b u q _ => ⟨u, k b u q⟩
  tups := fun b xs q => by rw [upd_ne (ne_of_none q hn)]; exact q
  frzs := fun b u xs q => by rw [upd_ne (ne_of_none q hn)]; exact q
  tbls := fun b ps q => ⟨#[], by rw [upd_ne (ne_of_none q hn), q]; simp⟩
theorem Un.write (mu : Mut (H x)) (he : e = x ∨ H e = some (.own x)) (k : ∀ b u, b ≠ e → h.get? b = some u → h'.get? b = some u) (heo : ∃ u, h'.get? e = some u) : Un fs ex H (upd H x o) h h' := by
  have hx : ∀ b, H b = none → b ≠ x := fun b n z => by subst z; rw [n] at mu; exact mu
  have hb : ∀ b, H b = none → b ≠ e := fun b n z => by
    subst z
    rcases he with r | r
    · exact hx b n r
    · rw [n] at r; cases r
  have hm : ∀ b u, H b = some u → ¬ Mut (some u) → b ≠ x := fun b u q nm z => by subst z; rw [q] at mu; exact nm mu
  refine ⟨fun b u q n _ _ => k b u (hb b n) q, fun b u q n _ _ => ⟨u.slots, k b u (hb b n) q⟩, fun b u q n _ => by rw [upd_ne (hx b n)]; exact n, fun b u q _ => ?_,
    fun b xs q => by rw [upd_ne (hm b _ q fun z => z)]; exact q, fun b u xs q => by rw [upd_ne (hm b _ q fun z => z)]; exact q, fun b ps q => ⟨#[], by rw [upd_ne (hm b _ q fun z => z), q]; simp⟩⟩
  by_cases hbe : b = e
  · subst hbe; exact heo
  · exact ⟨u, k b u hbe q⟩
end


def trk (h : Heap) (H : Hp) : List Addr := (List.range h.objs.size).filter fun a => (H a).isSome
def hidT (h : Heap) (H : Hp) : Heap := PySem.W.hideAll h (trk h H)
theorem hidT_size (h : Heap) (H : Hp) : (hidT h H).objs.size = h.objs.size := PySem.W.hideAll_size _ _
theorem hidT_get {h : Heap} {H : Hp} {b : Addr} {o : Obj} (e : h.get? b = some o) (n : H b = none) : (hidT h H).get? b = some o :=
  PySem.W.hideAll_get _ e fun hm => by
    have q : (H b).isSome = true := (List.mem_filter.mp hm).2
    rw [n] at q; simp at q
theorem of_hidT {h : Heap} {H : Hp} {b : Addr} {o : Obj} (e : (hidT h H).get? b = some o) : h.get? b = some o ∧ H b = none := by
  have e' : h.get? b = some o := PySem.W.of_hideAll (trk h H) e
  refine ⟨e', ?_⟩
  cases q : H b with
  | none => rfl
  | some x =>
    have hm : b ∈ trk h H := List.mem_filter.mpr ⟨List.mem_range.mpr (Heap.lt_size e'), by simp [q]⟩
    have z : (hidT h H).get? b = none := PySem.W.hideAll_none (trk h H) hm
    rw [z] at e; cases e


end L2

namespace L2
open PySem PySem.Spec PyProof.Rows


structure Mod (K : PySem.W.Frag) (mg : Str → Option Value) (base : Heap) : Prop where
  kin : K.In base
  glob : base.Ns mainGlobals mg
  blt : ∃ mb, base.Ns builtinsNs mb ∧ ∀ x : Str, x ≠ "__name__" → mb x = bootBuiltins x
  nolimit : base.NoLimit


structure Cx where
  prog : Program
  w : World
  K : PySem.W.Frag
  mg : Str → Option Value
  base : Heap
  A : Around
  N : List Str
  s₀ : Shared
  H₀ : Hp
  env : Env
  outer : List Env
  stack : List Env
  ex : List Addr
  fn : Str → Bool
  calm : Bool
  pn : List (Addr × Obj)
  xe : Value → Shared → Prop

def frs (l : List Env) : List Addr := l.filterMap (·.frame)
abbrev Cx.fs (X : Cx) : List Addr := frs X.outer

def Vis (sc : Scope) (x : Str) : Prop := sc.names.lookup x = some .local ∨ sc.names.lookup x = some .cell ∨ sc.names.lookup x = some .free
def Loc (sc : Scope) (x : Str) : Prop := sc.names.lookup x = some .local ∨ sc.names.lookup x = some .cell
def Look (env : Env) (h : Heap) (m : Str → Option Value) (x : Str) (u : Value) : Prop :=
  (env.kindOf x = some .local ∧ m x = some u) ∨ ((env.kindOf x = some .cell ∨ env.kindOf x = some .free) ∧ ∃ c, env.cells.lookup x = some c ∧ h.IsCell c (some u))

structure Cx.Ok (X : Cx) : Prop where
  mod : Mod X.K X.mg X.base
  kind : X.env.scope.kind = .function
  glob : X.env.globals = mainGlobals
  blt : X.env.builtins = builtinsNs
  above : X.s₀.heap.objs.size ≤ X.env.locals
  inj : ∀ x y c, X.env.cells.lookup x = some c → X.env.cells.lookup y = some c → x = y
  has : ∀ x, (X.env.kindOf x = some .cell ∨ X.env.kindOf x = some .free) → ∃ c, X.env.cells.lookup x = some c
  cab : ∀ x c, X.fn x = true → X.env.cells.lookup x = some c → X.s₀.heap.objs.size ≤ c
  hd : X.calm = true → X.A.handled = none
  frames : X.A.frames = some X.stack
  stk : X.stack = X.outer ∨ (X.stack = X.env :: X.outer ∧ X.env.frame = some X.env.locals)
  exf : ∀ b ∈ X.ex, b ≠ X.env.locals ∧ ∀ x c, X.env.cells.lookup x = some c → c ≠ b
  bs : ∀ b o, X.base.get? b = some o → X.s₀.heap.get? b = some o ∧ X.H₀ b = none
  bsz : X.base.objs.size ≤ X.s₀.heap.objs.size
  noex : ∀ b o, X.base.get? b = some o → b ∉ X.ex
  exfs : ∀ b ∈ X.ex, b ∉ X.fs
  funs : X.s₀.heap.FunFrames X.base X.outer
  frf : ∀ b ∈ X.fs, X.H₀ b = none

structure Inv (X : Cx) (pins : List (Addr × Obj)) (σ : List (Option V)) (H : Hp) (s : Shared) : Prop where
  ok : X.Ok
  os : s.os = X.s₀.os
  bare : AllBare s.gens
  base : Un X.fs X.ex X.H₀ H X.s₀.heap s.heap
  loc : ∃ m, s.heap.Ns X.env.locals m ∧ ∀ (i : Nat) (x : Str) (v : V), X.N[i]? = some x → σ[i]? = some (some v) → Vis X.env.scope x → ∃ u, RelV v u ∧ Look X.env s.heap m x u
  cell : ∀ x c, X.env.cells.lookup x = some c → ∃ v, s.heap.IsCell c v
  free : H X.env.locals = none
  freeC : ∀ x c, X.env.cells.lookup x = some c → H c = none
  pin : ∀ p ∈ X.pn ++ pins, s.heap.get? p.1 = some p.2 ∧ H p.1 = none ∧ p.1 ≠ X.env.locals ∧ p.1 ∉ X.fs ∧ ∀ v, p.2.data ≠ .cell v
  hok : HOk X.prog X.w H s.heap
  len : σ.length = X.N.length

section
variable {X : Cx} {pins : List (Addr × Obj)} {σ : List (Option V)} {H H' : Hp} {s : Shared} {h' : Heap}

theorem Cx.Ok.nofr (ok : X.Ok) {b : Addr} {o : Obj} (e : X.base.get? b = some o) : b ∉ X.fs := fun hb => by
  have := (ok.funs.mem hb).1
  rw [e] at this; cases this
theorem Inv.bs (I : Inv X pins σ H s) : ∀ b o, X.base.get? b = some o → s.heap.get? b = some o ∧ H b = none := fun b o e =>
  ⟨I.base.keep b o (I.ok.bs b o e).1 (I.ok.bs b o e).2 (I.ok.nofr e) (I.ok.noex b o e), I.base.free b o (I.ok.bs b o e).1 (I.ok.bs b o e).2 (I.ok.noex b o e)⟩
theorem Inv.bk (I : Inv X pins σ H s) : ∀ b o, X.base.get? b = some o → s.heap.get? b = some o := fun b o e => (I.bs b o e).1
theorem Inv.mod (I : Inv X pins σ H s) : Mod X.K X.mg X.base := I.ok.mod
theorem Inv.kIn (I : Inv X pins σ H s) : X.K.In s.heap := I.ok.mod.kin.keeps I.bk
theorem Inv.lt (I : Inv X pins σ H s) : X.env.locals < s.heap.objs.size := let ⟨_, hn, _⟩ := I.loc; hn.lt
theorem Inv.sz (I : Inv X pins σ H s) : X.s₀.heap.objs.size ≤ s.heap.objs.size := Nat.le_trans I.ok.above (Nat.le_of_lt I.lt)
theorem Inv.nofs (I : Inv X pins σ H s) {a : Addr} (h : s.heap.objs.size ≤ a) : a ∉ X.fs := fun hb => by
  obtain ⟨_, o, ho, _⟩ := I.ok.funs.mem hb
  exact absurd (Nat.lt_of_lt_of_le (Heap.lt_size ho) (Nat.le_trans I.sz h)) (Nat.lt_irrefl _)
theorem Inv.cne (I : Inv X pins σ H s) : ∀ x c, X.env.cells.lookup x = some c → c ≠ X.env.locals := fun x c e z => by
  obtain ⟨v, o, ho, hd⟩ := I.cell x c e
  obtain ⟨m, ⟨o', es, ep, ho', hd', _⟩, _⟩ := I.loc
  rw [z, ho'] at ho; cases ho; rw [hd'] at hd; cases hd
theorem Inv.funs (I : Inv X pins σ H s) : s.heap.FunFrames X.base X.outer := by
  have all : ∀ (l : List Env), (∀ b ∈ frs l, b ∈ X.fs) → X.s₀.heap.FunFrames X.base l → s.heap.FunFrames X.base l := by
    intro l
    induction l with
    | nil => intro _ _; trivial
    | cons env r ih =>
      intro hs hl
      obtain ⟨hk, ⟨L, o, hf, hn, ho, hd⟩, hr⟩ := hl
      have hL : L ∈ X.fs := hs L (by unfold frs; rw [List.filterMap_cons, hf]; exact List.mem_cons_self)
      obtain ⟨sl, e⟩ := I.base.slot L o ho (I.ok.frf L hL) hL fun z => I.ok.exfs L z hL
      exact ⟨hk, ⟨L, _, hf, hn, e, hd⟩, ih (fun b hb => hs b (by unfold frs; rw [List.filterMap_cons, hf]; exact List.mem_cons_of_mem _ hb)) hr⟩
  exact all X.outer (fun _ hb => hb) I.ok.funs


theorem Inv.stack (I : Inv X pins σ H s) : s.heap.FunFrames X.base X.stack := by
  rcases I.ok.stk with e | ⟨e, hf⟩
  · rw [e]; exact I.funs
  · rw [e]
    obtain ⟨m, hn, _⟩ := I.loc
    refine .cons (by rw [I.ok.kind]; decide) hf hn ?_ I.funs
    exact Heap.get?_none_of_le (Nat.le_trans I.ok.bsz I.ok.above)
theorem Inv.stkSub (I : Inv X pins σ H s) : ∀ b ∈ frs X.stack, b ∈ X.env.locals :: X.fs := fun b hb => by
  rcases I.ok.stk with e | ⟨e, hf⟩
  · rw [e] at hb; exact List.mem_cons_of_mem _ hb
  · rw [e] at hb
    unfold frs at hb
    rw [List.filterMap_cons, hf] at hb
    exact hb
theorem Inv.stkFree (I : Inv X pins σ H s) : ∀ b ∈ frs X.stack, H b = none := fun b hb => by
  rcases List.mem_cons.mp (I.stkSub b hb) with e | hb
  · rw [e]; exact I.free
  · obtain ⟨_, o, ho, _⟩ := I.ok.funs.mem hb
    exact I.base.free b o ho (I.ok.frf b hb) fun z => I.ok.exfs b z hb


theorem Inv.step {g' : Array GenState} {t' : Nat} {d' : Drawn} {ch : List Addr} (I : Inv X pins σ H s)
    (hch : ∀ b ∈ ch, (b ∈ X.ex ∨ X.s₀.heap.objs.size ≤ b) ∧ b ≠ X.env.locals ∧ (∀ x c, X.env.cells.lookup x = some c → c ≠ b) ∧ ∀ p ∈ X.pn ++ pins, p.1 ≠ b)
    (keep : ∀ b o, b ≠ X.env.locals → b ∉ X.fs → b ∉ ch → s.heap.get? b = some o → H b = none → h'.get? b = some o)
    (slot : ∀ b o, b ≠ X.env.locals → b ∈ X.fs → b ∉ ch → s.heap.get? b = some o → H b = none → ∃ sl, h'.get? b = some { o with slots := sl }) (free : ∀ b o, b ∉ ch → s.heap.get? b = some o → H b = none → H' b = none)
    (there : ∀ b o, b ∉ ch → s.heap.get? b = some o → ∃ o', h'.get? b = some o')
    (tups : ∀ b xs, H b = some (.tup xs) → H' b = some (.tup xs)) (frzs : ∀ b o u, H b = some (.frz o u) → H' b = some (.frz o u)) (tbls : ∀ b ps, H b = some (.tbl ps) → ∃ more, H' b = some (.tbl (ps ++ more)))
    (ns : ∀ m, s.heap.Ns X.env.locals m → h'.Ns X.env.locals m) (hok : HOk X.prog X.w H' h') (hg : AllBare g') :
    Inv X pins σ H' { s with heap := h', gens := g', drawn := d', toks := t' } := by
  have neL : ∀ b o, X.s₀.heap.get? b = some o → b ≠ X.env.locals := fun b o e => Nat.ne_of_lt (Nat.lt_of_lt_of_le (Heap.lt_size e) I.ok.above)
  have neC : ∀ b o, X.s₀.heap.get? b = some o → b ∉ X.ex → b ∉ ch := fun b o e hx hb => by
    rcases (hch b hb).1 with z | z
    · exact hx z
    · exact absurd (Nat.lt_of_lt_of_le (Heap.lt_size e) z) (Nat.lt_irrefl _)
  have cellK : ∀ x c, X.env.cells.lookup x = some c → ∀ v, s.heap.IsCell c v → h'.IsCell c v := fun x c e v ⟨o, ho, hd⟩ => by
    have nch : c ∉ ch := fun z => (hch c z).2.2.1 x c e rfl
    by_cases hc : c ∈ X.fs
    · obtain ⟨sl, q⟩ := slot c o (I.cne x c e) hc nch ho (I.freeC x c e)
      exact ⟨_, q, hd⟩
    · exact ⟨o, keep c o (I.cne x c e) hc nch ho (I.freeC x c e), hd⟩
  refine ⟨I.ok, I.os, hg, ⟨fun b o e n hb hx => ?_, fun b o e n hb hx => ?_, fun b o e n hx => ?_, fun b o e hx => ?_, fun b xs e => tups b xs (I.base.tups b xs e), fun b o xs e => frzs b o xs (I.base.frzs b o xs e), fun b ps e => ?_⟩, ?_, fun x c e => ?_, ?_, fun x c e => ?_, fun p hp => ?_, hok, I.len⟩
  · exact keep b o (neL b o e) hb (neC b o e hx) (I.base.keep b o e n hb hx) (I.base.free b o e n hx)
  · obtain ⟨sl, e1⟩ := I.base.slot b o e n hb hx
    obtain ⟨sl', e2⟩ := slot b _ (neL b o e) hb (neC b o e hx) e1 (I.base.free b o e n hx)
    exact ⟨sl', e2⟩
  · obtain ⟨o', e1⟩ := I.base.there b o e hx
    exact free b o' (neC b o e hx) e1 (I.base.free b o e n hx)
  · obtain ⟨o', e1⟩ := I.base.there b o e hx
    exact there b o' (neC b o e hx) e1
  · obtain ⟨m1, e1⟩ := I.base.tbls b ps e
    obtain ⟨m2, e2⟩ := tbls b _ e1
    exact ⟨m1 ++ m2, by rw [e2, Array.append_assoc]⟩
  · obtain ⟨m, hn, hl⟩ := I.loc
    refine ⟨m, ns m hn, fun i x v e1 e2 e3 => ?_⟩
    obtain ⟨u, r, l⟩ := hl i x v e1 e2 e3
    refine ⟨u, r, ?_⟩
    rcases l with l | ⟨k, c, e, z⟩
    · exact .inl l
    · exact .inr ⟨k, c, e, cellK x c e _ z⟩
  · obtain ⟨v, z⟩ := I.cell x c e
    exact ⟨v, cellK x c e v z⟩
  · obtain ⟨m, ⟨o, _, _, ho, _⟩, _⟩ := I.loc
    exact free _ o (fun z => (hch _ z).2.1 rfl) ho I.free
  · obtain ⟨v, o, ho, hd⟩ := I.cell x c e
    exact free c o (fun z => (hch c z).2.2.1 x c e rfl) ho (I.freeC x c e)
  · obtain ⟨e, n, ne, nf, d⟩ := I.pin p hp
    have nch : p.1 ∉ ch := fun z => (hch p.1 z).2.2.2 p hp rfl
    exact ⟨keep p.1 p.2 ne nf nch e n, free p.1 p.2 nch e n, ne, nf, d⟩

theorem Inv.un {t' : Nat} (I : Inv X pins σ H s) (u : Un X.fs [] H H' s.heap h') (hok : HOk X.prog X.w H' h') : Inv X pins σ H' { s with heap := h', toks := t' } := by
  obtain ⟨m, ⟨o, es, ep, ho, r⟩, _⟩ := id I.loc
  obtain ⟨sl, hL⟩ := u.any ho I.free (by simp)
  exact I.step (g' := s.gens) (d' := s.drawn) (ch := []) (fun _ z => nomatch z) (fun b o _ hb _ e n => u.keep b o e n hb (by simp)) (fun b o _ hb _ e n => u.slot b o e n hb (by simp)) (fun b o _ e n => u.free b o e n (by simp)) (fun b o _ e => u.there b o e (by simp)) u.tups u.frzs u.tbls (fun m' hm => by
    obtain ⟨o', es', ep', ho', r'⟩ := hm
    rw [ho] at ho'; cases ho'
    exact ⟨_, es', ep', hL, r'⟩) hok I.bare

theorem Inv.call {g' : Array GenState} {t' : Nat} {d' : Drawn} {ch : List Addr} (I : Inv X pins σ H s) (u : Un (frs X.stack) ch H H' s.heap h') (hok : HOk X.prog X.w H' h') (hg : AllBare g')
    (hch : ∀ b ∈ ch, (b ∈ X.ex ∨ X.s₀.heap.objs.size ≤ b) ∧ b ≠ X.env.locals ∧ (∀ x c, X.env.cells.lookup x = some c → c ≠ b) ∧ ∀ p ∈ X.pn ++ pins, p.1 ≠ b) :
    Inv X pins σ H' { s with heap := h', gens := g', drawn := d', toks := t' } := by
  obtain ⟨m, ⟨o, es, ep, ho, r⟩, _⟩ := id I.loc
  obtain ⟨sl, hL⟩ := u.any ho I.free fun z => (hch _ z).2.1 rfl
  exact I.step (ch := ch) hch (fun b o hL hb hc e n => u.keep b o e n (fun z => (List.mem_cons.mp (I.stkSub b z)).elim hL hb) hc) (fun b o _ _ hc e n => u.any e n hc) (fun b o hc e n => u.free b o e n hc) (fun b o hc e => u.there b o e hc) u.tups u.frzs u.tbls (fun m' hm => by
    obtain ⟨o', es', ep', ho', r'⟩ := hm
    rw [ho] at ho'; cases ho'
    exact ⟨_, es', ep', hL, r'⟩) hok hg

theorem Inv.turned {t' : Nat} {it : Addr} (I : Inv X pins σ H s) (k : ∀ b o, b ≠ it → s.heap.get? b = some o → h'.get? b = some o) (hn : H it = none) (hL : it ≠ X.env.locals)
    (h1 : it ∈ X.ex ∨ X.s₀.heap.objs.size ≤ it) (h2 : ∀ x c, X.env.cells.lookup x = some c → c ≠ it) (h3 : ∀ p ∈ X.pn ++ pins, p.1 ≠ it) : Inv X pins σ H { s with heap := h', toks := t' } := by
  have nit : ∀ b u, H b = some u → b ≠ it := fun b u e z => by rw [z, hn] at e; cases e
  refine I.step (g' := s.gens) (d' := s.drawn) (ch := [it]) (fun b hb => ?_) (fun b o _ _ hc e _ => k b o (fun z => hc (by simp [z])) e) (fun b o _ _ hc e _ => ⟨o.slots, k b o (fun z => hc (by simp [z])) e⟩) (fun _ _ _ _ n => n)
    (fun b o hc e => ⟨o, k b o (fun z => hc (by simp [z])) e⟩) (fun _ _ e => e) (fun _ _ _ e => e) (fun b ps e => ⟨#[], by rw [e]; simp⟩) (fun m hm => ?_) (fun b u e => ?_) I.bare
  · have e : b = it := by simpa using hb
    subst e
    exact ⟨h1, hL, h2, h3⟩
  · obtain ⟨o, es, ep, ho, r⟩ := hm
    exact ⟨o, es, ep, k _ o (Ne.symm hL) ho, r⟩
  · refine (I.hok b u e).stay (fun c v hc q => k c v ?_ q) (fun _ q => q) fun _ _ q => q
    rcases hc with z | z
    · rw [z]; exact nit b u e
    · exact nit c _ z
theorem Inv.tok (I : Inv X pins σ H s) (t : Nat) : Inv X pins σ H { s with toks := t } := I.un (h' := s.heap) (t' := t) Un.refl I.hok

theorem Inv.kept {t' : Nat} (I : Inv X pins σ H s) (k : ∀ b u, s.heap.get? b = some u → h'.get? b = some u) : Inv X pins σ H { s with heap := h', toks := t' } := I.un (Un.kept k) (I.hok.kept k)

theorem Inv.laid {a : Addr} {o : HO} {t' : Nat} (I : Inv X pins σ H s) (k : ∀ b u, s.heap.get? b = some u → h'.get? b = some u) (hp : s.heap.objs.size ≤ a) (new : ObjOk X.prog X.w (upd H a o) h' a o) :
    Inv X pins σ (upd H a o) { s with heap := h', toks := t' } := I.un (Un.laid k hp (I.hok.fresh hp)) (I.hok.laid k hp new)

theorem Inv.write {x e : Addr} {o : HO} {t' : Nat} (I : Inv X pins σ H s) (mu : Mut (H x)) (he : e = x ∨ H e = some (.own x)) (k : ∀ b u, b ≠ e → s.heap.get? b = some u → h'.get? b = some u) (heo : ∃ u, h'.get? e = some u)
    (new : ObjOk X.prog X.w (upd H x o) h' x o) : Inv X pins σ (upd H x o) { s with heap := h', toks := t' } := I.un (Un.write mu he k heo) (I.hok.write mu he k heo new)

theorem Inv.weak {σ' : List (Option V)} (I : Inv X pins σ H s) (hl : σ'.length = σ.length) (w : ∀ (i : Nat) v, σ'[i]? = some (some v) → σ[i]? = some (some v)) : Inv X pins σ' H s :=
  ⟨I.ok, I.os, I.bare, I.base, let ⟨m, hn, hl'⟩ := I.loc; ⟨m, hn, fun i x v e1 e2 e3 => hl' i x v e1 (w i v e2) e3⟩, I.cell, I.free, I.freeC, I.pin, I.hok, hl.trans I.len⟩
theorem Inv.pins_of {pins' : List (Addr × Obj)} (I : Inv X pins σ H s) (h : ∀ p ∈ pins', s.heap.get? p.1 = some p.2 ∧ H p.1 = none ∧ p.1 ≠ X.env.locals ∧ p.1 ∉ X.fs ∧ ∀ v, p.2.data ≠ .cell v) : Inv X pins' σ H s :=
  ⟨I.ok, I.os, I.bare, I.base, I.loc, I.cell, I.free, I.freeC, fun p hp => (List.mem_append.mp hp).elim (fun z => I.pin p (List.mem_append_left _ z)) (h p), I.hok, I.len⟩

theorem nodup_ix {N : List Str} (hN : N.Nodup) {i j : Nat} {x : Str} (a : N[i]? = some x) (b : N[j]? = some x) : i = j := by
  obtain ⟨h1, e1⟩ := List.getElem?_eq_some_iff.mp a
  obtain ⟨h2, e2⟩ := List.getElem?_eq_some_iff.mp b
  exact (List.getElem_inj hN).mp (e1.trans e2.symm)


theorem store_ok2 {M : Model} {A : Around} {E : Value → Shared → Prop} {i : Nat} {x : Str} {v : V} {u : Value} {Q : Unit → Shared → Prop} (I : Inv X pins σ H s) (hN : X.N.Nodup) (hi : X.N[i]? = some x) (hx : Loc X.env.scope x) (r : RelV v u)
    (h : ∀ s', Inv X pins (σ.set i (some v)) H s' → (∃ a, Heap.SameBut a s.heap s'.heap ∧ (a = X.env.locals ∨ X.env.cells.lookup x = some a)) → Q () s') (hf : X.fn x = true ∨ X.env.scope.names.lookup x = some .local := by first | exact .inl rfl | exact .inr rfl | assumption) : wpAny M A (storeName X.env x u) Q E s := by
  obtain ⟨m, hn, hl⟩ := id I.loc
  have hcls : (X.env.scope.kind == .class || (X.env.scope.kind == .module && X.env.locals != X.env.globals)) = false := by rw [I.ok.kind]; rfl
  have hiσ : i < σ.length := by rw [I.len]; exact (List.getElem?_eq_some_iff.mp hi).1
  have cne := I.cne
  have tracked : ∀ {a : Addr} {h' : Heap}, (∃ o, s.heap.get? a = some o ∧ H a = none) → Heap.SameBut a s.heap h' → HOk X.prog X.w H h' := fun {a h'} ha hs b ob e => by
    obtain ⟨_, _, hfree⟩ := ha
    refine (I.hok b ob e).stay (fun c w' hc q => (hs.2 c ?_).trans q) (fun _ q => q) fun _ _ q => q
    rintro rfl
    rcases hc with rfl | hc
    · rw [hfree] at e; cases e
    · rw [hfree] at hc; cases hc
  rcases hx with hk | hk
  · refine wpAny_storeName_local hk hn (fun h' hn' hs => ?_) hcls
    obtain ⟨oL, _, _, hoL, _⟩ := id hn
    refine h _ ⟨I.ok, I.os, I.bare, ⟨fun b o e n hb hx => ?_, fun b o e n hb hx => ?_, I.base.free, fun b o e hx => ?_, I.base.tups, I.base.frzs, I.base.tbls⟩, ⟨_, hn', fun j y v' e1 e2 e3 => ?_⟩, fun y c e => ?_, I.free, I.freeC, fun p hp => ?_, tracked ⟨oL, hoL, I.free⟩ hs, by simpa using I.len⟩ ⟨_, hs, .inl rfl⟩
    · exact (hs.2 b (Nat.ne_of_lt (Nat.lt_of_lt_of_le (Heap.lt_size e) I.ok.above))).trans (I.base.keep b o e n hb hx)
    · obtain ⟨sl, e1⟩ := I.base.slot b o e n hb hx
      exact ⟨sl, (hs.2 b (Nat.ne_of_lt (Nat.lt_of_lt_of_le (Heap.lt_size e) I.ok.above))).trans e1⟩
    · obtain ⟨o', e1⟩ := I.base.there b o e hx
      exact ⟨o', (hs.2 b (Nat.ne_of_lt (Nat.lt_of_lt_of_le (Heap.lt_size e) I.ok.above))).trans e1⟩
    · by_cases hj : j = i
      · subst hj
        rw [hi] at e1; cases e1
        rw [List.getElem?_set_self hiσ] at e2
        cases e2
        exact ⟨u, r, .inl ⟨hk, by simp⟩⟩
      · rw [List.getElem?_set_ne (Ne.symm hj)] at e2
        obtain ⟨u', r', q⟩ := hl j y v' e1 e2 e3
        refine ⟨u', r', ?_⟩
        rcases q with ⟨k, e⟩ | ⟨k, c, e, z⟩
        · refine .inl ⟨k, ?_⟩
          have : y ≠ x := fun e => hj (nodup_ix hN e1 (e ▸ hi))
          simp [this, e]
        · exact .inr ⟨k, c, e, z.sameBut hs (cne y c e)⟩
    · obtain ⟨w', z⟩ := I.cell y c e
      exact ⟨w', z.sameBut hs (cne y c e)⟩
    · obtain ⟨e, n, ne, nf, d⟩ := I.pin p hp
      exact ⟨(hs.2 p.1 ne).trans e, n, ne, nf, d⟩
  · have hfn : X.fn x = true := by
      rcases hf with z | z
      · exact z
      · rw [z] at hk; cases hk
    obtain ⟨c, hc⟩ := I.ok.has x (.inl hk)
    obtain ⟨w', z⟩ := I.cell x c hc
    refine wpAny_storeName_cell I.ok.kind hk hc z (fun h' hc' hs => ?_)
    obtain ⟨oc, hoc, hocd⟩ := id z
    refine h { s with heap := h' } ⟨I.ok, I.os, I.bare, ⟨fun b o e n hb hx => ?_, fun b o e n hb hx => ?_, I.base.free, fun b o e hx => ?_, I.base.tups, I.base.frzs, I.base.tbls⟩, ⟨m, hn.sameBut hs (Ne.symm (cne x c hc)), fun j y v' e1 e2 e3 => ?_⟩, fun y c' e => ?_, I.free, I.freeC, fun p hp => ?_, tracked ⟨oc, hoc, I.freeC x c hc⟩ hs, by simpa using I.len⟩ ⟨c, hs, .inr hc⟩
    · exact (hs.2 b (Nat.ne_of_lt (Nat.lt_of_lt_of_le (Heap.lt_size e) (I.ok.cab x c hfn hc)))).trans (I.base.keep b o e n hb hx)
    · obtain ⟨sl, e1⟩ := I.base.slot b o e n hb hx
      exact ⟨sl, (hs.2 b (Nat.ne_of_lt (Nat.lt_of_lt_of_le (Heap.lt_size e) (I.ok.cab x c hfn hc)))).trans e1⟩
    · obtain ⟨o', e1⟩ := I.base.there b o e hx
      exact ⟨o', (hs.2 b (Nat.ne_of_lt (Nat.lt_of_lt_of_le (Heap.lt_size e) (I.ok.cab x c hfn hc)))).trans e1⟩
    · by_cases hj : j = i
      · subst hj
        rw [hi] at e1; cases e1
        rw [List.getElem?_set_self hiσ] at e2
        cases e2
        exact ⟨u, r, .inr ⟨.inl hk, c, hc, hc'⟩⟩
      · rw [List.getElem?_set_ne (Ne.symm hj)] at e2
        obtain ⟨u', r', q⟩ := hl j y v' e1 e2 e3
        refine ⟨u', r', ?_⟩
        rcases q with q | ⟨k, c', e, z'⟩
        · exact .inl q
        · refine .inr ⟨k, c', e, z'.sameBut hs ?_⟩
          rintro rfl
          exact hj (nodup_ix hN e1 (I.ok.inj _ _ _ e hc ▸ hi))
    · by_cases hcc : c' = c
      · subst hcc; exact ⟨_, hc'⟩
      · obtain ⟨w2, z2⟩ := I.cell y c' e
        exact ⟨w2, z2.sameBut hs hcc⟩
    · obtain ⟨e, n, ne, nf, d⟩ := I.pin p hp
      refine ⟨(hs.2 p.1 ?_).trans e, n, ne, nf, d⟩
      intro q
      rw [q, hoc] at e
      have q' : oc = p.2 := Option.some.inj e
      exact d w' (by rw [← q']; exact hocd)
theorem store_ok {M : Model} {A : Around} {E : Value → Shared → Prop} {i : Nat} {x : Str} {v : V} {u : Value} {Q : Unit → Shared → Prop} (I : Inv X pins σ H s) (hN : X.N.Nodup) (hi : X.N[i]? = some x) (hx : Loc X.env.scope x) (r : RelV v u)
    (h : ∀ s', Inv X pins (σ.set i (some v)) H s' → Q () s') (hf : X.fn x = true ∨ X.env.scope.names.lookup x = some .local := by first | exact .inl rfl | exact .inr rfl | assumption) : wpAny M A (storeName X.env x u) Q E s :=
  store_ok2 I hN hi hx r (fun s' I' _ => h s' I') hf

theorem Inv.call' {s' : Shared} {ch : List Addr} (I : Inv X pins σ H s) (ho : s'.os = s.os) (u : Un (frs X.stack) ch H H' s.heap s'.heap) (hok : HOk X.prog X.w H' s'.heap) (hg : AllBare s'.gens)
    (hch : ∀ b ∈ ch, (b ∈ X.ex ∨ X.s₀.heap.objs.size ≤ b) ∧ b ≠ X.env.locals ∧ (∀ x c, X.env.cells.lookup x = some c → c ≠ b) ∧ ∀ p ∈ X.pn ++ pins, p.1 ≠ b) : Inv X pins σ H' s' := by
  obtain ⟨h', g', d', t', o'⟩ := s'
  have e : o' = s.os := ho
  subst e
  exact I.call (g' := g') (t' := t') (d' := d') u hok hg hch
end



abbrev XK := Value → Option Addr → Hp → Prop
abbrev St := List (Option V)
abbrev VK := V → Hp → Prop

abbrev TE := St → Hp → VK → Prop
abbrev TT := St → Hp → (Bool → Hp → Prop) → Prop
abbrev TA := St → Hp → (List V → Hp → Prop) → Prop

structure Ends where
  nx : St → Hp → Prop
  rt : VK
  bk : St → Hp → Prop := fun _ _ => False
  ct : St → Hp → Prop := fun _ _ => False
abbrev TS := Ends → St → Hp → Prop

def EP (X : Cx) (pins : List (Addr × Obj)) (σ : St) (Q : VK) (u : Value) (s' : Shared) : Prop := ∃ v H', Inv X pins σ H' s' ∧ RelV v u ∧ Q v H'
def TP (X : Cx) (pins : List (Addr × Obj)) (σ : St) (Q : Bool → Hp → Prop) (b : Bool) (s' : Shared) : Prop := ∃ H', Inv X pins σ H' s' ∧ Q b H'
def AP (X : Cx) (pins : List (Addr × Obj)) (σ : St) (Q : List V → Hp → Prop) (us : List Value) (s' : Shared) : Prop := ∃ vs H', Inv X pins σ H' s' ∧ Vals vs us ∧ Q vs H'
def SP (X : Cx) (pins : List (Addr × Obj)) (D : Ends) (f : Flow) (s' : Shared) : Prop :=
  match f with
  | .next => ∃ σ' H', Inv X pins σ' H' s' ∧ D.nx σ' H'
  | .brk => ∃ σ' H', Inv X pins σ' H' s' ∧ D.bk σ' H'
  | .cont => ∃ σ' H', Inv X pins σ' H' s' ∧ D.ct σ' H'
  | .ret u => ∃ v σ' H', Inv X pins σ' H' s' ∧ RelV v u ∧ D.rt v H'

def PE (X : Cx) (e : Expr) (t : TE) : Prop :=
  ∀ (pins : List (Addr × Obj)) (s : Shared) (σ : St) (H : Hp) (Q : VK), Inv X pins σ H s → t σ H Q → wpAny (model X.prog X.w) X.A (eval e X.env) (EP X pins σ Q) X.xe s
def PT (X : Cx) (e : Expr) (t : TT) : Prop :=
  ∀ (pins : List (Addr × Obj)) (s : Shared) (σ : St) (H : Hp) (Q : Bool → Hp → Prop), Inv X pins σ H s → t σ H Q → wpAny (model X.prog X.w) X.A (isTrue e X.env (eval e X.env)) (TP X pins σ Q) X.xe s

def PW (X : Cx) (e : Expr) (t : TT) : Prop :=
  ∀ (whole : Sem Value) (pins : List (Addr × Obj)) (s : Shared) (σ : St) (H : Hp) (Q : Bool → Hp → Prop), Inv X pins σ H s → t σ H Q → wpAny (model X.prog X.w) X.A (isTrue e X.env whole) (TP X pins σ Q) X.xe s
theorem PW.pt {X : Cx} {e : Expr} {t : TT} (h : PW X e t) : PT X e t := h _

def PA (X : Cx) (es : List Expr) (t : TA) : Prop :=
  ∀ (pos : Pos) (pins : List (Addr × Obj)) (s : Shared) (σ : St) (H : Hp) (Q : List V → Hp → Prop), Inv X pins σ H s → t σ H Q → wpAny (model X.prog X.w) X.A (spliced (backTo pos (starEach es X.env))) (AP X pins σ Q) X.xe s
def PS (X : Cx) (st : Stmt) (t : TS) : Prop :=
  ∀ (pins : List (Addr × Obj)) (s : Shared) (σ : St) (H : Hp) (D : Ends), Inv X pins σ H s → t D σ H → wpAny (model X.prog X.w) X.A (exec st X.env) (SP X pins D) X.xe s
def PSs (X : Cx) (st : List Stmt) (t : TS) : Prop :=
  ∀ (pins : List (Addr × Obj)) (s : Shared) (σ : St) (H : Hp) (D : Ends), Inv X pins σ H s → t D σ H → wpAny (model X.prog X.w) X.A (execs st X.env) (SP X pins D) X.xe s

theorem thn {α : Type} {t : Sem α} {Q Q' : α → Shared → Prop} {M : Model} {A : Around} {E : Value → Shared → Prop} {s : Shared} (h : wpAny M A t Q E s) (hQ : ∀ a s, Q a s → Q' a s) : wpAny M A t Q' E s := wpAny_mono h hQ fun _ _ x => x
end L2

namespace L2
open PySem PySem.Spec PyProof.Rows
section
variable {X : Cx}


def tVar (i : Nat) : TE := fun σ H Q => ∃ v, σ[i]? = some (some v) ∧ Q v H
def tC (v : V) : TE := fun _ H Q => Q v H
theorem pe_var {i : Nat} {x : Str} {pos : Pos} (hN : X.N[i]? = some x) (hv : Vis X.env.scope x) (hd : (x == ("__debug__" : Str)) = false := by decide) (hcd : (x == ("__classdict__" : Str)) = false := by decide) : PE X (.Name x pos) (tVar i) := by
  intro pins s σ H Q I h
  obtain ⟨v, e, h⟩ := h
  obtain ⟨m, hn, hl⟩ := I.loc
  obtain ⟨u, r, l⟩ := hl i x v hN e hv
  have fin : EP X pins σ Q u s := ⟨v, H, I, r, h⟩
  rcases l with ⟨hk, hm⟩ | ⟨hk, c, hc, hcell⟩
  · exact wpAny_Name (wpAny_loadName_local I.ok.kind hk hn hm fin) hd
  · rcases hk with hk | hk
    · exact wpAny_Name (wpAny_loadName_cell I.ok.kind hk hc hcell fin) hd
    · exact wpAny_Name (wpAny_loadName_free I.ok.kind hk hc hcell fin hcd) hd
theorem pe_int {i j pos} : PE X (.Constant (.int i) j pos) (tC (.int i)) := fun _ _ _ H _ I h => wpAny_Constant_int ⟨.int i, H, I.tok _, ⟨_, rfl⟩, h⟩
theorem pe_bl {b j pos} : PE X (.Constant (.bool b) j pos) (tC (.bl b)) := fun _ _ _ H _ I h => Constant_bool ⟨.bl b, H, I, rfl, h⟩
theorem pe_non {j pos} : PE X (.Constant .none j pos) (tC .non) := fun _ _ _ H _ I h => Constant_none ⟨.non, H, I, rfl, h⟩
theorem pe_str {x j pos} : PE X (.Constant (.str x) j pos) (tC (.str x)) := fun _ _ _ H _ I h => Calls.Constant_str ⟨.str x, H, I.tok _, ⟨_, rfl⟩, h⟩


def Gl (X : Cx) (x : Str) : Prop := X.env.kindOf x = some .globalImplicit
theorem ld_glob {E : Value → Shared → Prop} {pins : List (Addr × Obj)} {s : Shared} {σ : St} {H : Hp} {x : Str} {u : Value} {pos : Pos} {Q : Value → Shared → Prop} (I : Inv X pins σ H s) (hg : Gl X x) (hm : X.mg x = some u) (h : Q u s)
    (hd : (x == ("__debug__" : Str)) = false := by decide) : wpAny (model X.prog X.w) X.A (eval (.Name x pos) X.env) Q E s :=
  Calls.Name_function_global I.ok.kind hg (Calls.loadGlobal_global (by rw [I.ok.glob]; exact I.mod.glob.keeps I.bk) hm h) hd
theorem ld_blt {E : Value → Shared → Prop} {pins : List (Addr × Obj)} {s : Shared} {σ : St} {H : Hp} {x : Str} {u : Value} {pos : Pos} {Q : Value → Shared → Prop} (I : Inv X pins σ H s) (hg : Gl X x) (hm : X.mg x = none) (hv : bootBuiltins x = some u) (h : Q u s)
    (hn : x ≠ "__name__" := by decide) (hd : (x == ("__debug__" : Str)) = false := by decide) : wpAny (model X.prog X.w) X.A (eval (.Name x pos) X.env) Q E s := by
  obtain ⟨mb, h1, h2⟩ := I.mod.blt
  exact Calls.Name_function_global I.ok.kind hg (Calls.loadGlobal_builtin (by rw [I.ok.glob]; exact I.mod.glob.keeps I.bk) hm (by rw [I.ok.blt]; exact h1.keeps I.bk) ((h2 x hn).trans hv) h) hd

theorem pe_glob {x : Str} {v : V} {u : Value} {pos : Pos} (hg : Gl X x) (hm : X.mg x = some u) (r : RelV v u) (hd : (x == ("__debug__" : Str)) = false := by decide) : PE X (.Name x pos) (tC v) :=
  fun _ _ _ H _ I h => ld_glob I hg hm ⟨v, H, I, r, h⟩ hd
theorem pe_bltn {x : Str} {v : V} {u : Value} {pos : Pos} (hg : Gl X x) (hm : X.mg x = none) (hv : bootBuiltins x = some u) (r : RelV v u) (hn : x ≠ "__name__" := by decide) (hd : (x == ("__debug__" : Str)) = false := by decide) : PE X (.Name x pos) (tC v) :=
  fun _ _ _ H _ I h => ld_blt I hg hm hv ⟨v, H, I, r, h⟩ hn hd



variable {a b : Expr} {ta tb : TE} {pos : Pos}
def tB (t : TE) : TT := fun σ H Q => t σ H fun x H1 => ∃ c, x = .bl c ∧ Q c H1
theorem pt_val {e : Expr} {t : TE} (h : PE X e t) (he : ∀ whole, isTrue e X.env whole = (do let v ← whole; standAt e.pos; holding [v] (truthy v)) := by intro _; rfl) : PT X e (tB t) := by
  intro pins s σ H Q I hw
  refine isTrue_plain (thn (h pins s σ H _ I hw) fun v s1 ⟨x, H1, I1, r1, q1⟩ => ?_) (he _)
  obtain ⟨d, rfl, q⟩ := q1
  cases r1
  exact wpAny_truthy_bool ⟨H1, I1, q⟩


variable {tA tB' : TT} {rest : List Expr}
def tAnd (t u : TT) : TT := fun σ H Q => t σ H fun c H1 => if c = true then u σ H1 Q else Q false H1
def tOr (t u : TT) : TT := fun σ H Q => t σ H fun c H1 => if c = true then Q true H1 else u σ H1 Q
def tNot (t : TT) : TT := fun σ H Q => t σ H fun c H1 => Q (!c) H1
theorem pw_and1 (ha : PT X a tA) : PW X (.BoolOp .And [a] pos) tA := by
  intro wh pins s σ H Q I h
  refine isTrue_and (thn (ha pins s σ H Q I h) fun c s1 e => ?_)
  cases c with
  | true => exact isTrue_and_nil e
  | false => exact e
theorem pw_or1 (ha : PT X a tA) : PW X (.BoolOp .Or [a] pos) tA := by
  intro wh pins s σ H Q I h
  refine isTrue_or (thn (ha pins s σ H Q I h) fun c s1 e => ?_)
  cases c with
  | false => exact isTrue_or_nil e
  | true => exact e
theorem pw_and (ha : PT X a tA) (hb : PW X (.BoolOp .And (b :: rest) pos) tB') : PW X (.BoolOp .And (a :: b :: rest) pos) (tAnd tA tB') := by
  intro wh pins s σ H Q I h
  refine isTrue_and (thn (ha pins s σ H _ I h) fun c s1 ⟨H1, I1, q1⟩ => ?_)
  cases c with
  | true => exact hb wh pins s1 σ H1 Q I1 q1
  | false => exact ⟨H1, I1, q1⟩
theorem pw_or (ha : PT X a tA) (hb : PW X (.BoolOp .Or (b :: rest) pos) tB') : PW X (.BoolOp .Or (a :: b :: rest) pos) (tOr tA tB') := by
  intro wh pins s σ H Q I h
  refine isTrue_or (thn (ha pins s σ H _ I h) fun c s1 ⟨H1, I1, q1⟩ => ?_)
  cases c with
  | true => exact ⟨H1, I1, q1⟩
  | false => exact hb wh pins s1 σ H1 Q I1 q1
theorem pt_not (ha : PT X a tA) : PT X (.UnaryOp .Not a pos) (tNot tA) := by
  intro pins s σ H Q I h
  exact isTrue_not (ha pins s σ H (fun c H1 => Q (!c) H1) I h)

def tAndV (ta tb : TE) : TE := fun σ H Q => ta σ H fun x H1 => ∃ c, x = .bl c ∧ if c = true then tb σ H1 Q else Q (.bl false) H1
def tOrV (ta tb : TE) : TE := fun σ H Q => ta σ H fun x H1 => ∃ c, x = .bl c ∧ if c = true then Q (.bl true) H1 else tb σ H1 Q
def tNotV (ta : TE) : TE := fun σ H Q => ta σ H fun x H1 => ∃ c, x = .bl c ∧ Q (.bl (!c)) H1
theorem pe_one {op} {t : TE} (h : PE X a t) : PE X (.BoolOp op [a] pos) t := fun pins s σ H Q I hw => BoolOp_one (h pins s σ H Q I hw)
theorem pe_and (ha : PE X a ta) (hb : PE X (.BoolOp .And (b :: rest) pos) tb) : PE X (.BoolOp .And (a :: b :: rest) pos) (tAndV ta tb) := by
  intro pins s σ H Q I h
  refine BoolOp_and (thn (ha pins s σ H _ I h) fun v s1 ⟨x, H1, I1, r1, q1⟩ => ?_)
  obtain ⟨c, rfl, q1⟩ := q1
  cases r1
  refine wpAny_truthy_bool ?_
  cases c with
  | true => exact hb pins s1 σ H1 Q I1 q1
  | false => exact ⟨.bl false, H1, I1, rfl, q1⟩
theorem pe_or (ha : PE X a ta) (hb : PE X (.BoolOp .Or (b :: rest) pos) tb) : PE X (.BoolOp .Or (a :: b :: rest) pos) (tOrV ta tb) := by
  intro pins s σ H Q I h
  refine BoolOp_or (thn (ha pins s σ H _ I h) fun v s1 ⟨x, H1, I1, r1, q1⟩ => ?_)
  obtain ⟨c, rfl, q1⟩ := q1
  cases r1
  refine wpAny_truthy_bool ?_
  cases c with
  | false => exact hb pins s1 σ H1 Q I1 q1
  | true => exact ⟨.bl true, H1, I1, rfl, q1⟩
theorem pe_not (ha : PE X a ta) : PE X (.UnaryOp .Not a pos) (tNotV ta) := by
  intro pins s σ H Q I h
  refine UnaryOp_ (thn (ha pins s σ H _ I h) fun v s1 ⟨x, H1, I1, r1, q1⟩ => ?_)
  obtain ⟨c, rfl, q1⟩ := q1
  cases r1
  exact not_of (wpAny_truthy_bool ⟨.bl (!c), H1, I1, rfl, q1⟩)

end
end L2

namespace L2
open PySem PySem.Spec PyProof.Rows


def SqL (K : PySem.W.Frag) (H : Hp) (a : Addr) (xs : List V) : Prop :=
  Rd H a (.lst xs) ∨
    ∃ (o : Obj) (its : Array Value) (n : Nat), K.lookup a = some o ∧ o.cls = .type "list" ∧ o.dict = none ∧ o.data = .seq its n ∧ its.size ≤ sizeLine ∧ Vals xs its.toList
def SqT (K : PySem.W.Frag) (H : Hp) (a : Addr) (xs : List V) : Prop :=
  Rd H a (.tup xs) ∨
    ∃ (o : Obj) (its : Array Value) (n : Nat), K.lookup a = some o ∧ o.cls = .type "tuple" ∧ o.data = .seq its n ∧ its.size ≤ sizeLine ∧ Vals xs its.toList
def absV : Value → Option V
  | .none => some .non
  | .bool b => some (.bl b)
  | .int i _ => some (.int i)
  | .str x _ => some (.str x)
  | .bytes b _ => some (.byt b)
  | .float b _ => some (.flt b)
  | .ref a => some (.ref a)
  | .type n => some (.ty n)
  | _ => none
theorem RelV.abs {x : V} {u : Value} (r : RelV x u) : absV u = some x := by
  cases x with
  | non => cases r; rfl
  | bl _ => cases r; rfl
  | int _ => obtain ⟨t, rfl⟩ := r; rfl
  | str _ => obtain ⟨t, rfl⟩ := r; rfl
  | byt _ => obtain ⟨t, rfl⟩ := r; rfl
  | flt _ => obtain ⟨t, rfl⟩ := r; rfl
  | ref _ => cases r; rfl
  | ty _ => cases r; rfl
theorem RelV.inj {x y : V} {u : Value} (r : RelV x u) (q : RelV y u) : x = y := Option.some.inj (r.abs.symm.trans q.abs)
theorem Vals.inj : ∀ {xs ys : List V} {us : List Value}, Vals xs us → Vals ys us → xs = ys
  | _, _, _, .nil, .nil => rfl
  | _, _, _, .cons r t, .cons r' t' => by rw [r.inj r', Vals.inj t t']
section
variable {X : Cx} {pins : List (Addr × Obj)} {σ : St} {H : Hp} {s : Shared} {a : Addr} {xs ys : List V}
theorem SqL.of {K : PySem.W.Frag} (h : H a = some (.lst xs)) : SqL K H a xs := .inl (.inl h)
theorem SqT.of {K : PySem.W.Frag} (h : H a = some (.tup xs)) : SqT K H a xs := .inl (.inl h)
theorem Inv.list (I : Inv X pins σ H s) (h : SqL X.K H a xs) : ∃ its : List Value, Vals xs its ∧ PlainL s.heap a its.toArray ∧ xs.length ≤ sizeLine := by
  rcases h with h | ⟨o, its, n, hk, hc, hd, hs, hz, r⟩
  · obtain ⟨z, its, n, r, e⟩ := h.ok I.hok
    exact ⟨its, r, ⟨_, n, e, rfl, rfl, rfl⟩, z⟩
  · refine ⟨its.toList, r, ⟨o, n, I.kIn a o hk, hc, hd, by simpa using hs⟩, ?_⟩
    have e := r.length
    simp only [Array.length_toList] at e
    omega
theorem Inv.tuple (I : Inv X pins σ H s) (h : SqT X.K H a xs) : ∃ its : List Value, Vals xs its ∧ IsTup s.heap a its.toArray ∧ xs.length ≤ sizeLine := by
  rcases h with h | ⟨o, its, n, hk, hc, hs, hz, r⟩
  · obtain ⟨z, its, r, p⟩ := h.ok I.hok
    exact ⟨its, r, p, z⟩
  · refine ⟨its.toList, r, ⟨o, I.kIn a o hk, hc, n, by simpa using hs⟩, ?_⟩
    have e := r.length
    simp only [Array.length_toList] at e
    omega
theorem Inv.list_inj (I : Inv X pins σ H s) (h : SqL X.K H a xs) (h' : SqL X.K H a ys) : xs = ys := by
  obtain ⟨its, r, ⟨o, n, e, _, _, d⟩, _⟩ := I.list h
  obtain ⟨its', r', ⟨o', n', e', _, _, d'⟩, _⟩ := I.list h'
  rw [e] at e'; cases e'
  rw [d] at d'
  injection d' with d1 _
  have : its = its' := by simpa using congrArg Array.toList d1
  subst this
  exact r.inj r'
theorem Inv.tuple_inj (I : Inv X pins σ H s) (h : SqT X.K H a xs) (h' : SqT X.K H a ys) : xs = ys := by
  obtain ⟨its, r, ⟨o, e, _, n, d⟩, _⟩ := I.tuple h
  obtain ⟨its', r', ⟨o', e', _, n', d'⟩, _⟩ := I.tuple h'
  rw [e] at e'; cases e'
  rw [d] at d'
  injection d' with d1 _
  have : its = its' := by simpa using congrArg Array.toList d1
  subst this
  exact r.inj r'
end


abbrev Cx.wish (X : Cx) (E : Value → Shared → Prop) : Cx := { X with xe := E }

abbrev Cx.nox (X : Cx) : Cx := X.wish fun _ _ => False
theorem Cx.Ok.wish {X : Cx} (ok : X.Ok) (E : Value → Shared → Prop) : (X.wish E).Ok :=
  ⟨ok.mod, ok.kind, ok.glob, ok.blt, ok.above, ok.inj, ok.has, ok.cab, ok.hd, ok.frames, ok.stk, ok.exf, ok.bs, ok.bsz, ok.noex, ok.exfs, ok.funs, ok.frf⟩
theorem Cx.Ok.unwish {X : Cx} {E : Value → Shared → Prop} (ok : (X.wish E).Ok) : X.Ok :=
  ⟨ok.mod, ok.kind, ok.glob, ok.blt, ok.above, ok.inj, ok.has, ok.cab, ok.hd, ok.frames, ok.stk, ok.exf, ok.bs, ok.bsz, ok.noex, ok.exfs, ok.funs, ok.frf⟩
section
variable {X : Cx} {pins : List (Addr × Obj)} {σ : St} {H : Hp} {s : Shared} {E : Value → Shared → Prop}
theorem Inv.wish (I : Inv X pins σ H s) (E : Value → Shared → Prop) : Inv (X.wish E) pins σ H s := ⟨I.ok.wish E, I.os, I.bare, I.base, I.loc, I.cell, I.free, I.freeC, I.pin, I.hok, I.len⟩
theorem Inv.unwish (I : Inv (X.wish E) pins σ H s) : Inv X pins σ H s := ⟨I.ok.unwish, I.os, I.bare, I.base, I.loc, I.cell, I.free, I.freeC, I.pin, I.hok, I.len⟩
theorem SP.unwish {D : Ends} {f : Flow} {s' : Shared} (h : SP (X.wish E) pins D f s') : SP X pins D f s' := by
  cases f with
  | next => obtain ⟨σ', H', I, q⟩ := h; exact ⟨σ', H', I.unwish, q⟩
  | brk => obtain ⟨σ', H', I, q⟩ := h; exact ⟨σ', H', I.unwish, q⟩
  | cont => obtain ⟨σ', H', I, q⟩ := h; exact ⟨σ', H', I.unwish, q⟩
  | ret u => obtain ⟨v, σ', H', I, r, q⟩ := h; exact ⟨v, σ', H', I.unwish, r, q⟩
theorem PSs.nox {st : List Stmt} {t : TS} (h : PSs X.nox st t) : PSs X st t := fun pins s σ H D I hw =>
  wpAny_mono (h pins s σ H D (I.wish _) hw) (fun _ _ q => q.unwish) fun _ _ z => False.elim z
end


section
variable {X : Cx} {st : Stmt} {rest : List Stmt} {t u : TS} {e : Expr} {te : TE} {pos : Pos}
def tNext : TS := fun D σ H => D.nx σ H
def tSeq (t u : TS) : TS := fun D σ H => t { D with nx := u D } σ H
theorem pss_nil : PSs X [] tNext := fun _ _ σ H _ I h => wpAny_execs_nil ⟨σ, H, I, h⟩
theorem pss_cons (h1 : PS X st t) (h2 : PSs X rest u) : PSs X (st :: rest) (tSeq t u) := by
  intro pins s σ H D I h
  refine wpAny_execs_cons (thn (h1 pins s σ H { D with nx := u D } I h) fun f s1 q => ?_)
  cases f with
  | next =>
    obtain ⟨σ', H', I', q⟩ := q
    exact h2 pins s1 σ' H' D I' q
  | ret v => exact q
  | brk => exact q
  | cont => exact q
theorem pss_one (h1 : PS X st t) : PSs X [st] t := by
  intro pins s σ H D I h
  refine wpAny_execs_cons (thn (h1 pins s σ H D I h) fun f s1 q => ?_)
  cases f with
  | next => exact wpAny_execs_nil q
  | ret v => exact q
  | brk => exact q
  | cont => exact q
theorem Inv.quiet {pins : List (Addr × Obj)} {σ : St} {H : Hp} {s : Shared} (I : Inv X pins σ H s) : interactive X.env = false := by simp [interactive, I.ok.kind]

def tDrop (te : TE) : TS := fun D σ H => te σ H fun _ H1 => D.nx σ H1
theorem ps_expr (he : PE X e te) (hs : swapsWith e none pos.line X.env = pure false := by rfl) : PS X (.Expr e pos) (tDrop te) := by
  intro pins s σ H D I h
  exact wpAny_Expr_any (thn (he pins s σ H _ I h) fun v s1 ⟨x, H1, I1, r1, q1⟩ => ⟨σ, H1, I1, q1⟩) I.quiet hs
def tRet (te : TE) : TS := fun D σ H => te σ H D.rt
theorem ps_ret (he : PE X e te) : PS X (.Return (some e) pos) (tRet te) := by
  intro pins s σ H D I h
  exact wpAny_Return_some (thn (he pins s σ H _ I h) fun v s1 ⟨x, H1, I1, r1, q1⟩ => ⟨x, σ, H1, I1, r1, q1⟩)
def tIfS (c : TT) (t u : TS) : TS := fun D σ H => c σ H fun b H1 => if b = true then t D σ H1 else u D σ H1
theorem ps_if {c : Expr} {a b : List Stmt} {tc : TT} (hc : PT X c tc) (ha : PSs X a t) (hb : PSs X b u) : PS X (.If c a b pos) (tIfS tc t u) := by
  intro pins s σ H D I h
  refine wpAny_If (thn (hc pins s σ H _ I h) fun d s1 ⟨H1, I1, q1⟩ => ?_)
  cases d with
  | true => exact ha pins s1 σ H1 D I1 q1
  | false => exact hb pins s1 σ H1 D I1 q1

end


abbrev TG := V → St → Hp → (St → Hp → Prop) → Prop
abbrev TGs := List V → St → Hp → (St → Hp → Prop) → Prop
def PG (X : Cx) (target : Expr) (t : TG) : Prop :=
  ∀ (pins : List (Addr × Obj)) (s : Shared) (σ : St) (H : Hp) (v : V) (u : Value) (Q : St → Hp → Prop), Inv X pins σ H s → RelV v u → t v σ H Q →
    wpAny (model X.prog X.w) X.A (assign target X.env u) (fun _ s' => ∃ σ' H', Inv X pins σ' H' s' ∧ Q σ' H') X.xe s

def PGs (X : Cx) (ts : List Expr) (t : TGs) : Prop :=
  ∀ (pins : List (Addr × Obj)) (s : Shared) (σ : St) (H : Hp) (vs : List V) (us : List Value) (Q : St → Hp → Prop), Inv X pins σ H s → Vals vs us → t vs σ H Q →
    wpAny (model X.prog X.w) X.A (assignInOrder ((assignEach ts X.env).map (·.2)) us) (fun _ s' => ∃ σ' H', Inv X pins σ' H' s' ∧ Q σ' H') X.xe s

abbrev TSet := V → V → V → Hp → (Hp → Prop) → Prop
def PSet (X : Cx) (t : TSet) : Prop :=
  ∀ (pins : List (Addr × Obj)) (s : Shared) (σ : St) (H : Hp) (o i v : V) (ov iv u : Value) (Q : Hp → Prop), Inv X pins σ H s → RelV o ov → RelV i iv → RelV v u → t o i v H Q →
    wpAny (model X.prog X.w) X.A (setItem ov iv u) (fun _ s' => ∃ H', Inv X pins σ H' s' ∧ Q H') X.xe s

section
variable {X : Cx} {pos : Pos}
def gName (i : Nat) : TG := fun v σ H Q => Q (σ.set i (some v)) H
theorem pg_name {i : Nat} {x : Str} (hN : X.N.Nodup) (hi : X.N[i]? = some x) (hx : Loc X.env.scope x) (hf : X.fn x = true ∨ X.env.scope.names.lookup x = some .local := by first | exact .inl rfl | exact .inr rfl | assumption) : PG X (.Name x pos) (gName i) := by
  intro pins s σ H v u Q I r h
  exact wpAny_assign_Name (store_ok I hN hi hx r (fun s' I' => ⟨_, H, I', h⟩) hf)
def gNil : TGs := fun vs σ H Q => vs = [] ∧ Q σ H
def gCons (t : TG) (u : TGs) : TGs := fun vs σ H Q => ∃ v r, vs = v :: r ∧ t v σ H fun σ' H' => u r σ' H' Q
theorem pgs_nil : PGs X [] gNil := by
  intro pins s σ H vs us Q I r h
  obtain ⟨e, h⟩ := h
  subst e
  cases r
  exact assignInOrder_nil ⟨σ, H, I, h⟩
theorem pgs_cons {e : Expr} {es : List Expr} {t : TG} {u : TGs} (h1 : PG X e t) (h2 : PGs X es u)
    (hs : (assignEach (e :: es) X.env).map (·.2) = assign e X.env :: (assignEach es X.env).map (·.2) := by rfl) : PGs X (e :: es) (gCons t u) := by
  intro pins s σ H vs us Q I r h
  obtain ⟨v, vr, e1, h⟩ := h
  subst e1
  cases r with
  | cons r rr =>
    rw [hs]
    refine assignInOrder_cons (thn (h1 pins s σ H _ _ _ I r h) fun _ s1 ⟨σ1, H1, I1, q1⟩ => ?_)
    exact h2 pins s1 σ1 H1 _ _ Q I1 rr q1

def gTup (K : PySem.W.Frag) (n : Nat) (t : TGs) : TG := fun v σ H Q => ∃ a xs, v = .ref a ∧ SqT K H a xs ∧ xs.length = n ∧ t xs σ H Q
theorem pg_tup {es : List Expr} {k : Nat} {t : TGs} {n : Nat} (hc : X.calm = true) (h : PGs X es t)
    (hn : (assignEach es X.env).length = n := by rfl) (hst : (assignEach es X.env).findIdx? (·.1) = none := by rfl) : PG X (.Tuple es k pos) (gTup X.K n t) := by
  intro pins s σ H v u Q I r hw
  obtain ⟨a, xs, e1, hq, hl, hw⟩ := hw
  subst e1
  cases r
  obtain ⟨its, rv, ht, hz⟩ := I.tuple hq
  refine assign_Tuple_tuple (I.ok.hd hc) ht (by simp [hn, ← hl, rv.length]) hst fun h' hx => ?_
  have I1 : Inv X pins σ H { s with heap := h' } := I.kept (t' := s.toks) fun b o e => hx b o (Nat.ne_of_lt (Heap.lt_size e)) e
  exact h pins _ σ H xs _ Q I1 (by simpa using rv) hw

def gSub (to ti : TE) (t : TSet) : TG := fun v σ H Q => to σ H fun o H1 => ti σ H1 fun i H2 => t o i v H2 fun H3 => Q σ H3
theorem pg_sub {o i : Expr} {to ti : TE} {t : TSet} (ho : PE X o to) (hi : PE X i ti) (hs : PSet X t)
    (ha : ∀ v, assign (.Subscript o i pos) X.env v = (do
      let ov ← holding [v] (eval o X.env)
      let iv ← holding [v, ov] (eval i X.env)
      standAt pos
      holding [v, ov, iv] (setItem ov iv v)
      release [v, ov, iv] []) := by intro _; rfl) : PG X (.Subscript o i pos) (gSub to ti t) := by
  intro pins s σ H v u Q I r h
  rw [ha]
  refine wpAny_bind (wpAny_holding (thn (ho pins s σ H _ I h) fun ov s1 ⟨x, H1, I1, r1, q1⟩ => ?_))
  refine wpAny_bind (wpAny_holding (thn (hi pins s1 σ H1 _ I1 q1) fun iv s2 ⟨y, H2, I2, r2, q2⟩ => ?_))
  refine wpAny_bind (wpAny_standAt (wpAny_bind (wpAny_holding (thn (hs pins s2 σ H2 x y v ov iv u _ I2 r1 r2 r q2) fun _ s3 ⟨H3, I3, q3⟩ => ?_))))
  exact wpAny_release ⟨σ, H3, I3, q3⟩

def tAsg (te : TE) (g : TG) : TS := fun D σ H => te σ H fun x H1 => g x σ H1 D.nx
theorem ps_asg {tg e : Expr} {te : TE} {g : TG} (he : PE X e te) (hg : PG X tg g) (hs : swapsWithSole [tg] e pos.line X.env = pure false := by rfl) (hw : swappedStores [tg] e X.env = pure none := by rfl)
    (h1 : (assignEach [tg] X.env).map (·.2) = [assign tg X.env] := by rfl) : PS X (.Assign [tg] e pos) (tAsg te g) := by
  intro pins s σ H D I h
  refine wpAny_Assign_stores (thn (he pins s σ H _ I h) fun v s1 ⟨x, H1, I1, r1, q1⟩ => ?_) hs hw
  rw [h1]
  exact thn (hg pins s1 σ H1 x v _ I1 r1 q1) fun _ s2 q => q

theorem ps_set {i : Nat} {x : Str} {e : Expr} {te : TE} {pos' : Pos} (hN : X.N.Nodup) (hi : X.N[i]? = some x) (hx : Loc X.env.scope x) (he : PE X e te) (hs : swapsWith e (some (.Name x pos')) pos.line X.env = pure false := by rfl) (hf : X.fn x = true ∨ X.env.scope.names.lookup x = some .local := by first | exact .inl rfl | exact .inr rfl | assumption) :
    PS X (.Assign [.Name x pos'] e pos) (tAsg te (gName i)) := by
  intro pins s σ H D I h
  refine wpAny_Assign_Name (thn (he pins s σ H _ I h) fun v s1 ⟨y, H1, I1, r1, q1⟩ => ?_) hs
  exact store_ok I1 hN hi hx r1 (fun s2 I2 => ⟨_, H1, I2, q1⟩) hf

end


section
variable {X : Cx} {pos : Pos}

end



structure It where
  go : Nat → Hp → Prop
  yld : Nat → Hp → V → Hp → Prop
  stop : Nat → Hp → Prop

def FpOk (X : Cx) (pins : List (Addr × Obj)) (H : Hp) (b : Addr) : Prop :=
  H b = none ∧ b ≠ X.env.locals ∧ b ∉ X.fs ∧ (b ∈ X.ex ∨ X.s₀.heap.objs.size ≤ b) ∧ (∀ x c, X.env.cells.lookup x = some c → c ≠ b) ∧ ∀ p ∈ X.pn ++ pins, p.1 ≠ b
theorem Inv.fpOk {X : Cx} {pins : List (Addr × Obj)} {σ : St} {H H' : Hp} {s : Shared} {b : Addr} (I : Inv X pins σ H s) (hb : s.heap.objs.size ≤ b) (hn : H' b = none) : FpOk X pins H' b := by
  refine ⟨hn, Nat.ne_of_gt (Nat.lt_of_lt_of_le I.lt hb), I.nofs hb, .inr (Nat.le_trans I.sz hb), fun x c e z => ?_, fun p hp z => ?_⟩
  · obtain ⟨v, q⟩ := I.cell x c e
    exact absurd (Nat.lt_of_lt_of_le q.lt (by rw [z]; exact hb)) (Nat.lt_irrefl _)
  · exact absurd (Nat.lt_of_lt_of_le (Heap.lt_size (I.pin p hp).1) (by rw [z]; exact hb)) (Nat.lt_irrefl _)
structure Turn (P : Program) (w : World) (K : PySem.W.Frag) (tg : Expr) (J : It) (fp : List Addr) (it : Addr) (tn : Nat → Heap → Prop) : Prop where
  mem : it ∈ fp
  obj : ∀ i h, tn i h → ∀ b ∈ fp, ∃ o, h.get? b = some o ∧ ∀ v, o.data ≠ .cell v
  keep : ∀ i h h', tn i h → (∀ b ∈ fp, ∀ o, h.get? b = some o → h'.get? b = some o) → tn i h'
  item : ∀ (X : Cx), X.prog = P → X.w = w → X.K = K → X.calm = true → ∀ (i : Nat) (pins : List (Addr × Obj)) (s : Shared) (σ : St) (H : Hp) (E : Value → Shared → Prop), Inv X pins σ H s → (∀ b ∈ fp, FpOk X pins H b) → tn i s.heap → J.go i H →
    wpAny (model P w) X.A (pyNext (.ref it)) (fun r s1 => ∃ u, r = some u ∧
      wpAny (model P w) X.A (letOwnedTupleGo tg (.ref it) u) (fun _ s2 => ∃ x H', Inv X pins σ H' s2 ∧ RelV x u ∧ J.yld i H x H' ∧ tn (i + 1) s2.heap ∧ ∀ b ∈ fp, H' b = none) E s1) E s
  done : ∀ (X : Cx), X.prog = P → X.w = w → X.K = K → X.calm = true → ∀ (i : Nat) (pins : List (Addr × Obj)) (s : Shared) (σ : St) (H : Hp) (E : Value → Shared → Prop), Inv X pins σ H s → (∀ b ∈ fp, FpOk X pins H b) → tn i s.heap → J.stop i H →
    wpAny (model P w) X.A (pyNext (.ref it)) (fun r s1 => r = none ∧ Inv X pins σ H s1) E s
  self : ∀ (A : Around) (i : Nat) (s : Shared) (Q : Value → Shared → Prop) (E : Value → Shared → Prop), tn i s.heap → Q (.ref it) s → wpAny (model P w) A (pyIter (.ref it)) Q E s
abbrev TI := St → Hp → (It → Hp → Prop) → Prop

def PIE (X : Cx) (pins : List (Addr × Obj)) (σ : St) (tg : Expr) (R : It → Hp → Prop) (itv : Value) (s2 : Shared) : Prop :=
  ∃ (it : Addr) (fp : List Addr) (tn : Nat → Heap → Prop) (J : It) (H' : Hp), itv = .ref it ∧ Inv X pins σ H' s2 ∧ Turn X.prog X.w X.K tg J fp it tn ∧ tn 0 s2.heap ∧ (∀ b ∈ fp, FpOk X pins H' b) ∧ R J H'
def PI (X : Cx) (tg iter : Expr) (wi : TI) : Prop :=
  ∀ (pins : List (Addr × Obj)) (s : Shared) (σ : St) (H : Hp) (R : It → Hp → Prop), Inv X pins σ H s → wi σ H R →
    wpAny (model X.prog X.w) X.A (eval iter X.env) (fun v s1 => wpAny (model X.prog X.w) X.A (pyIter v) (PIE X pins σ tg R) X.xe s1) X.xe s


theorem go_of {M : Model} {A : Around} {E : Value → Shared → Prop} {s : Shared} {tg : Expr} {it : Addr} {u : Value} {o : Obj} {n : String} {vs : Array Value} {Q : Unit → Shared → Prop} (ho : s.heap.get? it = some o) (hc : o.cls = .type n) (hd : o.data = .fields vs)
    (hn : ["enumerate", "zip", "dict_itemiterator", "dict_reverseitemiterator", "odict_iterator", "itertools.zip_longest", "itertools.pairwise"].contains n = false) (hQ : Q () s) : wpAny M A (letOwnedTupleGo tg (.ref it) u) Q E s := by
  unfold letOwnedTupleGo
  cases tg <;> first
    | exact wpAny_pure hQ
    | (cases u <;> first
        | exact wpAny_pure hQ
        | (refine wpAny_bind (wpAny_load ho ?_)
           rw [hc, hd]
           show wpAny M A (if (["enumerate", "zip", "dict_itemiterator", "dict_reverseitemiterator", "odict_iterator", "itertools.zip_longest", "itertools.pairwise"].contains n && vs[0]? == some (rawInt _)) = true then _ else _) Q E s
           rw [if_neg (by intro h; rw [hn, Bool.false_and] at h; cases h)]
           exact wpAny_pure hQ))


def Itl (K : PySem.W.Frag) (a : Addr) : It :=
  ⟨fun i H => ∃ xs x, SqL K H a xs ∧ xs[i]? = some x, fun i H x H' => H' = H ∧ ∀ xs, SqL K H a xs → xs[i]? = some x, fun i H => ∃ xs, SqL K H a xs ∧ xs.length ≤ i⟩
def Itt (K : PySem.W.Frag) (a : Addr) : It :=
  ⟨fun i H => ∃ xs x, SqT K H a xs ∧ xs[i]? = some x, fun i H x H' => H' = H ∧ ∀ xs, SqT K H a xs → xs[i]? = some x, fun i H => ∃ xs, SqT K H a xs ∧ xs.length ≤ i⟩

def Itr (lo : Int) (n : Nat) : It := ⟨fun i _ => i < n, fun i H x H' => H' = H ∧ x = .int (lo + i), fun i _ => n ≤ i⟩
theorem turn_list {P : Program} {w : World} {K : PySem.W.Frag} {tg : Expr} (a it : Addr) : Turn P w K tg (Itl K a) [it] it (fun i h => h.IsListIter it a i) where
  mem := by simp
  obj := fun i h st b hb => by
    have e : b = it := by simpa using hb
    subst e
    obtain ⟨o, e, c, d⟩ := st
    exact ⟨o, e, fun v z => by rw [d] at z; cases z⟩
  keep := fun i h h' st k => st.at fun o e => k it (by simp) o e
  item := by
    intro X hP hw hK hc i pins s σ H E I hf st hg
    subst hP hw hK
    obtain ⟨xs, x, hq, hx⟩ := hg
    obtain ⟨its, rv, p, hz⟩ := I.list hq
    obtain ⟨u, hu, ru⟩ := rv.get hx
    obtain ⟨f0, f1, f2, f3, f4, f5⟩ := hf it (by simp)
    refine wpAny_pyNext_list_item st p.isList (x := u) (by simpa using hu) fun h' st' sb => ?_
    have I1 : Inv X pins σ H { s with heap := h' } := I.turned (t' := s.toks) (fun b o hb e => (sb.2 b hb).trans e) f0 f1 f3 f4 f5
    obtain ⟨o, e, c, d⟩ := id st'
    exact ⟨u, rfl, go_of (s := { s with heap := h' }) e c d (by decide) ⟨x, H, I1, ru, ⟨rfl, fun ys hy => by rw [I.list_inj hy hq]; exact hx⟩, st', fun b hb => (hf b hb).1⟩⟩
  done := by
    intro X hP hw hK hc i pins s σ H E I hf st hg
    subst hP hw hK
    obtain ⟨xs, hq, hx⟩ := hg
    obtain ⟨its, rv, p, hz⟩ := I.list hq
    obtain ⟨f0, f1, f2, f3, f4, f5⟩ := hf it (by simp)
    have hl := rv.length
    exact wpAny_pyNext_list_end (I.ok.hd hc) st p.isList (by simp; omega) fun h' eb => ⟨rfl, I.turned (t' := s.toks) (fun b o hb e => eb b o hb e) f0 f1 f3 f4 f5⟩
  self := fun _ _ _ _ _ st h => wpAny_pyIter_listiter st h
theorem turn_tuple {P : Program} {w : World} {K : PySem.W.Frag} {tg : Expr} (a it : Addr) : Turn P w K tg (Itt K a) [it] it (fun i h => h.IsTupleIter it a i) where
  mem := by simp
  obj := fun i h st b hb => by
    have e : b = it := by simpa using hb
    subst e
    obtain ⟨o, e, c, d⟩ := st
    exact ⟨o, e, fun v z => by rw [d] at z; cases z⟩
  keep := fun i h h' st k => st.at fun o e => k it (by simp) o e
  item := by
    intro X hP hw hK hc i pins s σ H E I hf st hg
    subst hP hw hK
    obtain ⟨xs, x, hq, hx⟩ := hg
    obtain ⟨its, rv, p, hz⟩ := I.tuple hq
    obtain ⟨u, hu, ru⟩ := rv.get hx
    obtain ⟨f0, f1, f2, f3, f4, f5⟩ := hf it (by simp)
    refine wpAny_pyNext_tuple_item st (show s.heap.IsTuple a its.toArray from p) (x := u) (by simpa using hu) fun h' st' sb => ?_
    have I1 : Inv X pins σ H { s with heap := h' } := I.turned (t' := s.toks) (fun b o hb e => (sb.2 b hb).trans e) f0 f1 f3 f4 f5
    obtain ⟨o, e, c, d⟩ := id st'
    exact ⟨u, rfl, go_of (s := { s with heap := h' }) e c d (by decide) ⟨x, H, I1, ru, ⟨rfl, fun ys hy => by rw [I.tuple_inj hy hq]; exact hx⟩, st', fun b hb => (hf b hb).1⟩⟩
  done := by
    intro X hP hw hK hc i pins s σ H E I hf st hg
    subst hP hw hK
    obtain ⟨xs, hq, hx⟩ := hg
    obtain ⟨its, rv, p, hz⟩ := I.tuple hq
    obtain ⟨f0, f1, f2, f3, f4, f5⟩ := hf it (by simp)
    have hl := rv.length
    exact wpAny_pyNext_tuple_end (I.ok.hd hc) st (show s.heap.IsTuple a its.toArray from p) (by simp; omega) fun h' eb => ⟨rfl, I.turned (t' := s.toks) (fun b o hb e => eb b o hb e) f0 f1 f3 f4 f5⟩
  self := fun _ _ _ _ _ st h => wpAny_pyIter_tupleiter st h
theorem turn_range {P : Program} {w : World} {K : PySem.W.Frag} {tg : Expr} (it : Addr) (lo : Int) (n : Nat) : Turn P w K tg (Itr lo n) [it] it (fun i h => IsRangeIter h it (lo + (i : Nat) * 1) ((n : Int) - (i : Nat)) 1) where
  mem := by simp
  obj := fun i h st b hb => by
    have e : b = it := by simpa using hb
    subst e
    exact ⟨_, st, fun v z => by
      have z' : Data.fields _ = Data.cell v := z
      cases z'⟩
  keep := fun i h h' st k => k it (by simp) _ st
  item := by
    intro X hP hw hK hc i pins s σ H E I hf st hg
    subst hP hw hK
    obtain ⟨f0, f1, f2, f3, f4, f5⟩ := hf it (by simp)
    have W := Walks.range (prog := X.prog) (w := X.w) (I.ok.hd hc) it lo 1 n
    refine W.item i s _ _ hg st fun v h' tk hv st' kk => ?_
    obtain ⟨t, rfl⟩ := hv
    have I1 : Inv X pins σ H { s with heap := h', toks := tk } := I.turned (fun b o hb e => kk b o (by simpa using hb) e) f0 f1 f3 f4 f5
    refine ⟨_, rfl, go_of (s := { s with heap := h', toks := tk }) (n := "range_iterator") st' rfl rfl (by decide) ⟨.int (lo + i), H, I1, ⟨t, ?_⟩, ⟨rfl, rfl⟩, st', fun b hb => (hf b hb).1⟩⟩
    rw [Int.mul_one]
  done := by
    intro X hP hw hK hc i pins s σ H E I hf st hg
    subst hP hw hK
    obtain ⟨f0, f1, f2, f3, f4, f5⟩ := hf it (by simp)
    exact wpAny_pyNext_range_end (I.ok.hd hc) st (by have : n ≤ i := hg; omega) fun h' eb => ⟨rfl, I.turned (t' := s.toks) (fun b o hb e => eb b o hb e) f0 f1 f3 f4 f5⟩
  self := fun _ _ _ _ _ st h => wpAny_pyIter_rangeiter st h
end L2

namespace L2
open PySem PySem.Spec PyProof.Rows
section
variable {X : Cx} {tg : Expr}
def iList (K : PySem.W.Frag) (tl : TE) : TI := fun σ H R => tl σ H fun x H1 => ∃ a, x = .ref a ∧ (∃ xs, SqL K H1 a xs) ∧ R (Itl K a) H1
def iTup (K : PySem.W.Frag) (tl : TE) : TI := fun σ H R => tl σ H fun x H1 => ∃ a, x = .ref a ∧ (∃ xs, SqT K H1 a xs) ∧ R (Itt K a) H1
theorem pi_list {l : Expr} {tl : TE} (hl : PE X l tl) : PI X tg l (iList X.K tl) := by
  intro pins s σ H R I h
  refine thn (hl pins s σ H _ I h) fun v s1 ⟨x, H1, I1, r1, q1⟩ => ?_
  obtain ⟨a, e, ⟨xs, hq⟩, q⟩ := q1
  subst e
  cases r1
  obtain ⟨its, rv, p, hz⟩ := I1.list hq
  refine wpAny_pyIter_list p.isList ?_
  refine ⟨s1.heap.objs.size, [s1.heap.objs.size], _, _, H1, rfl, I1.kept (t' := s1.toks) fun b o e => Heap.get?_push_of_some _ e, turn_list a _, ⟨_, Heap.get?_push_size _ rfl, rfl, rfl⟩, fun b hb => ?_, q⟩
  have e : b = s1.heap.objs.size := by simpa using hb
  subst e
  exact I1.fpOk (Nat.le_refl _) (I1.hok.fresh (Nat.le_refl _))
theorem pi_tup {l : Expr} {tl : TE} (hl : PE X l tl) : PI X tg l (iTup X.K tl) := by
  intro pins s σ H R I h
  refine thn (hl pins s σ H _ I h) fun v s1 ⟨x, H1, I1, r1, q1⟩ => ?_
  obtain ⟨a, e, ⟨xs, hq⟩, q⟩ := q1
  subst e
  cases r1
  obtain ⟨its, rv, p, hz⟩ := I1.tuple hq
  refine wpAny_pyIter_tuple (show s1.heap.IsTuple a its.toArray from p) ?_
  refine ⟨s1.heap.objs.size, [s1.heap.objs.size], _, _, H1, rfl, I1.kept (t' := s1.toks) fun b o e => Heap.get?_push_of_some _ e, turn_tuple a _, ⟨_, Heap.get?_push_size _ rfl, rfl, rfl⟩, fun b hb => ?_, q⟩
  have e : b = s1.heap.objs.size := by simpa using hb
  subst e
  exact I1.fpOk (Nat.le_refl _) (I1.hok.fresh (Nat.le_refl _))

theorem range_it {pins : List (Addr × Obj)} {σ : St} {H : Hp} {s : Shared} {R : It → Hp → Prop} {E : Value → Shared → Prop} {lo hi : Int} {t u v : Tok} {tk : Nat} (I : Inv X pins σ H s) (h1 : -(2 ^ 62) ≤ lo) (h2 : lo < 2 ^ 62) (h3 : -(2 ^ 62) ≤ hi) (h4 : hi < 2 ^ 62)
    (q : R (Itr lo (hi - lo).toNat) H) : wpAny (model X.prog X.w) X.A (pyIter (.ref s.heap.objs.size)) (PIE X pins σ tg R) E { s with heap := s.heap.push { cls := .type "range", data := .fields #[.int lo t, .int hi u, .int 1 v] }, toks := tk } := by
  refine wpAny_pyIter_range (IsRange.new ..) (small_one h1 h2 h3 h4) ?_
  have I1 : Inv X pins σ H { s with heap := s.heap.push { cls := .type "range", data := .fields #[.int lo t, .int hi u, .int 1 v] }, toks := tk } := I.kept fun b o e => Heap.get?_push_of_some _ e
  refine ⟨(s.heap.push { cls := .type "range", data := .fields #[.int lo t, .int hi u, .int 1 v] }).objs.size, [(s.heap.push { cls := .type "range", data := .fields #[.int lo t, .int hi u, .int 1 v] }).objs.size], _, _, H, rfl,
    I1.kept (t' := tk) fun b o e => Heap.get?_push_of_some _ e, turn_range _ lo (hi - lo).toNat, ?_, fun b hb => ?_, q⟩
  · have e1 : lo + ((0 : Nat) : Int) * 1 = lo := by simp
    have e2 : (((hi - lo).toNat : Nat) : Int) - ((0 : Nat) : Int) = Builtin.Range.rangeSize lo hi 1 := by rw [rangeSize_one]; split <;> omega
    show IsRangeIter _ _ (lo + ((0 : Nat) : Int) * 1) ((((hi - lo).toNat : Nat) : Int) - ((0 : Nat) : Int)) 1
    rw [e1, e2]
    exact Heap.get?_push_size _ rfl
  · have e : b = (s.heap.push { cls := .type "range", data := .fields #[.int lo t, .int hi u, .int 1 v] }).objs.size := by simpa using hb
    subst e
    exact I1.fpOk (Nat.le_refl _) (I1.hok.fresh (Nat.le_refl _))
def iRng1 (ta : TA) : TI := fun σ H R => ta σ H fun vs H1 => ∃ j : Int, vs = [.int j] ∧ -(2 ^ 62) ≤ j ∧ j < 2 ^ 62 ∧ R (Itr 0 j.toNat) H1
theorem pi_range1 {a : Expr} {ta : TA} {p pos : Pos} (hg : Gl X "range") (hm : X.mg "range" = none) (ha : PA X [a] ta) (hs : starEach [a] X.env = [(false, eval a X.env)] := by rfl) : PI X tg (.Call (.Name "range" p) [a] [] pos) (iRng1 ta) := by
  intro pins s σ H R I h
  refine Call_ (ld_blt I hg hm boot_range (PyProof.Rows.callWith_type1 (thn (ha pos pins s σ H _ I h) fun us s1 ⟨vs, H1, I1, r1, q1⟩ => ?_) hs rfl))
  obtain ⟨j, e, q1, q2, q⟩ := q1
  subst e
  cases r1 with
  | cons r rr =>
    cases rr
    obtain ⟨t, rfl⟩ := r
    exact call_range_1 (range_it I1 (by omega) (by omega) q1 q2 (by simpa using q))
def tFor (wi : TI) (g : TG) (tb : TS) : TS := fun D σ H => wi σ H fun J H1 => ∃ W : Nat → Nat → St → Hp → Prop, (∃ m, W 0 m σ H1) ∧ ∀ i m σ H, W i m σ H →
  (J.stop i H ∧ D.nx σ H) ∨ (J.go i H ∧ ∃ N : St → Hp → Prop, (∀ σ' H', N σ' H' → ∃ m', m' < m ∧ W (i + 1) m' σ' H') ∧ ∀ x H', J.yld i H x H' → g x σ H' fun σ2 H2 => tb { D with nx := N, ct := N, bk := D.nx } σ2 H2)

def pinsAt (fp : List Addr) (h : Heap) : List (Addr × Obj) := fp.filterMap fun b => (h.get? b).map fun o => (b, o)
theorem mem_pinsAt {fp : List Addr} {h : Heap} {b : Addr} {o : Obj} (hb : b ∈ fp) (e : h.get? b = some o) : (b, o) ∈ pinsAt fp h := List.mem_filterMap.mpr ⟨b, hb, by rw [e]; rfl⟩
theorem of_pinsAt {fp : List Addr} {h : Heap} {p : Addr × Obj} (hp : p ∈ pinsAt fp h) : p.1 ∈ fp ∧ h.get? p.1 = some p.2 := by
  obtain ⟨b, hb, e⟩ := List.mem_filterMap.mp hp
  cases q : h.get? b with
  | none => rw [q] at e; cases e
  | some o =>
    rw [q] at e
    have e' : (b, o) = p := Option.some.inj e
    subst e'
    exact ⟨hb, q⟩
theorem Inv.pinned {pins : List (Addr × Obj)} {σ : St} {H : Hp} {s : Shared} {fp : List Addr} (I : Inv X pins σ H s) (hf : ∀ b ∈ fp, FpOk X pins H b) (ho : ∀ b ∈ fp, ∃ o, s.heap.get? b = some o ∧ ∀ v, o.data ≠ .cell v) : Inv X (pins ++ pinsAt fp s.heap) σ H s :=
  I.pins_of fun p hp => (List.mem_append.mp hp).elim (fun z => I.pin p (List.mem_append_right _ z)) fun z => by
    obtain ⟨hb, e⟩ := of_pinsAt z
    obtain ⟨f0, f1, f2, _⟩ := hf p.1 hb
    obtain ⟨o, e', d⟩ := ho p.1 hb
    rw [e] at e'; cases e'
    exact ⟨e, f0, f1, f2, d⟩
theorem Inv.unpinned {pins pl : List (Addr × Obj)} {σ : St} {H : Hp} {s : Shared} (I : Inv X (pins ++ pl) σ H s) : Inv X pins σ H s := I.pins_of fun p hp => I.pin p (List.mem_append_right _ (List.mem_append_left _ hp))
theorem ps_for {iter : Expr} {body : List Stmt} {wi : TI} {g : TG} {tb : TS} {pos : Pos} (hp : PassesOwn (model X.prog X.w) X.A X.env X.xe) (hc : X.calm = true) (hi : PI X tg iter wi) (hg : PG X tg g) (hb : PSs X body tb)
    (hs : ∀ x, foldedSetIterable iter X.env x = pure x := by intro _; rfl) : PS X (.For tg iter body [] pos) (tFor wi g tb) := by
  intro pins s σ H D I h
  refine wpAny_For (thn (hi pins s σ H _ I h) fun v s1 h1 => thn h1 fun itv s2 h2 => ?_) hs
  obtain ⟨it, fp, tn, J, H2, e, I2, T, st2, f2, W, ⟨m0, w0⟩, turn⟩ := h2
  subst e
  -- what stays true of the iterator's objects through the loop
  have stat : ∀ {H' : Hp}, (∀ b ∈ fp, H' b = none) → ∀ b ∈ fp, FpOk X pins H' b := fun hn b hb => ⟨hn b hb, (f2 b hb).2⟩
  refine codeAny_forLoop_any (fun n s' => ∃ i σ' H', Inv X pins σ' H' s' ∧ tn i s'.heap ∧ (∀ b ∈ fp, H' b = none) ∧ W i n σ' H') ?_ m0 ⟨0, σ, H2, I2, st2, fun b hb => (f2 b hb).1, w0⟩
  rintro n s3 ⟨i, σ3, H3, I3, st3, fr3, w3⟩
  rcases turn i n σ3 H3 w3 with ⟨stop, qn⟩ | ⟨go, N, hN, step⟩
  · refine wpAny_passesOwn hp (thn (T.done X rfl rfl rfl hc i pins s3 σ3 H3 X.xe I3 (stat fr3) st3 stop) fun r s4 ⟨hr, I4⟩ => ?_)
    subst hr
    exact wpAny_execs_nil ⟨σ3, H3, I4, qn⟩
  · refine wpAny_passesOwn hp (thn (T.item X rfl rfl rfl hc i pins s3 σ3 H3 X.xe I3 (stat fr3) st3 go) fun r s4 ⟨u, hr, h4⟩ => ?_)
    subst hr
    refine wpAny_passesOwn hp (thn h4 fun _ s5 ⟨x, H5, I5, r5, y5, st5, fr5⟩ => ?_)
    have I5' := I5.pinned (stat fr5) (T.obj _ _ st5)
    refine wpAny_passesOwn hp (thn (hg _ s5 σ3 H5 x u _ I5' r5 (step x H5 y5)) fun _ s6 ⟨σ6, H6, I6, q6⟩ => ?_)
    refine wpAny_passesOwn hp (thn (hb _ s6 σ6 H6 _ I6 q6) fun f s7 q7 => ?_)
    have again : ∀ {σ7 : St} {H7 : Hp}, Inv X (pins ++ pinsAt fp s5.heap) σ7 H7 s7 → N σ7 H7 → ∃ m, m < n ∧ ∃ i σ' H', Inv X pins σ' H' s7 ∧ tn i s7.heap ∧ (∀ b ∈ fp, H' b = none) ∧ W i m σ' H' := fun {σ7 H7} I7 n7 => by
      obtain ⟨m', hm, w7⟩ := hN σ7 H7 n7
      refine ⟨m', hm, i + 1, σ7, H7, I7.unpinned, T.keep _ _ _ st5 fun b hb o e => (I7.pin (b, o) (List.mem_append_right _ (List.mem_append_right _ (mem_pinsAt hb e)))).1, fun b hb => ?_, w7⟩
      obtain ⟨o, e, d⟩ := T.obj _ _ st5 b hb
      exact (I7.pin (b, o) (List.mem_append_right _ (List.mem_append_right _ (mem_pinsAt hb e)))).2.1
    cases f with
    | next => obtain ⟨σ7, H7, I7, n7⟩ := q7; exact again I7 n7
    | cont => obtain ⟨σ7, H7, I7, n7⟩ := q7; exact again I7 n7
    | brk => obtain ⟨σ7, H7, I7, q7⟩ := q7; exact ⟨σ7, H7, I7.unpinned, q7⟩
    | ret v => obtain ⟨x7, σ7, H7, I7, r7, q7⟩ := q7; exact ⟨x7, σ7, H7, I7.unpinned, r7, q7⟩
end



theorem for_tup {K : PySem.W.Frag} {a : Addr} {xs : List V} {g : TG} {tb : TS} {D : Ends} {σ : St} {H : Hp} (Pv : Nat → St → Hp → Prop) (h0 : Pv 0 σ H) (hl : ∀ i σ H, i ≤ xs.length → Pv i σ H → SqT K H a xs)
    (hs : ∀ i x σ H, xs[i]? = some x → Pv i σ H → g x σ H fun σ2 H2 => tb { D with nx := Pv (i + 1), ct := Pv (i + 1), bk := D.nx } σ2 H2) (hd : ∀ σ H, Pv xs.length σ H → D.nx σ H) :
    ∃ W : Nat → Nat → St → Hp → Prop, (∃ m, W 0 m σ H) ∧ ∀ i m σ H, W i m σ H →
      ((Itt K a).stop i H ∧ D.nx σ H) ∨ ((Itt K a).go i H ∧ ∃ N : St → Hp → Prop, (∀ σ' H', N σ' H' → ∃ m', m' < m ∧ W (i + 1) m' σ' H') ∧ ∀ x H', (Itt K a).yld i H x H' → g x σ H' fun σ2 H2 => tb { D with nx := N, ct := N, bk := D.nx } σ2 H2) := by
  refine ⟨fun i m σ H => m = xs.length - i ∧ i ≤ xs.length ∧ Pv i σ H, ⟨xs.length, by simp, Nat.zero_le _, h0⟩, ?_⟩
  rintro i m σ H ⟨rfl, hi, p⟩
  have q := hl i σ H hi p
  by_cases hlt : i < xs.length
  · refine .inr ⟨⟨xs, xs[i], q, by simp [hlt]⟩, Pv (i + 1), fun σ' H' p' => ⟨xs.length - (i + 1), by omega, rfl, hlt, p'⟩, fun x H' y => ?_⟩
    obtain ⟨e, y⟩ := y
    subst e
    exact hs i x σ _ (y xs q) p
  · have e : i = xs.length := by omega
    subst e
    exact .inl ⟨⟨xs, q, Nat.le_refl _⟩, hd σ H p⟩
theorem for_range {lo : Int} {n : Nat} {g : TG} {tb : TS} {D : Ends} {σ : St} {H : Hp} (Pv : Nat → St → Hp → Prop) (h0 : Pv 0 σ H)
    (hs : ∀ i σ H, i < n → Pv i σ H → g (.int (lo + i)) σ H fun σ2 H2 => tb { D with nx := Pv (i + 1), ct := Pv (i + 1), bk := D.nx } σ2 H2) (hd : ∀ σ H, Pv n σ H → D.nx σ H) :
    ∃ W : Nat → Nat → St → Hp → Prop, (∃ m, W 0 m σ H) ∧ ∀ i m σ H, W i m σ H →
      ((Itr lo n).stop i H ∧ D.nx σ H) ∨ ((Itr lo n).go i H ∧ ∃ N : St → Hp → Prop, (∀ σ' H', N σ' H' → ∃ m', m' < m ∧ W (i + 1) m' σ' H') ∧ ∀ x H', (Itr lo n).yld i H x H' → g x σ H' fun σ2 H2 => tb { D with nx := N, ct := N, bk := D.nx } σ2 H2) := by
  refine ⟨fun i m σ H => m = n - i ∧ i ≤ n ∧ Pv i σ H, ⟨n, by simp, Nat.zero_le _, h0⟩, ?_⟩
  rintro i m σ H ⟨rfl, hi, p⟩
  by_cases hlt : i < n
  · refine .inr ⟨hlt, Pv (i + 1), fun σ' H' p' => ⟨n - (i + 1), by omega, rfl, hlt, p'⟩, fun x H' y => ?_⟩
    obtain ⟨e, y⟩ := y
    subst e y
    exact hs i σ _ hlt p
  · have e : i = n := by omega
    subst e
    exact .inl ⟨Nat.le_refl _, hd σ H p⟩

end L2

namespace L2
open PySem PySem.Spec PyProof.Rows

abbrev R2 := V → V → Hp → VK → Prop

def OpR (X : Cx) (f : Value → Value → Sem Value) (r : R2) : Prop :=
  ∀ (pins : List (Addr × Obj)) (s : Shared) (σ : St) (H : Hp) (x y : V) (v u : Value) (Q : VK), Inv X pins σ H s → RelV x v → RelV y u → r x y H Q →
    wpAny (model X.prog X.w) X.A (f v u) (EP X pins σ Q) X.xe s

def UnR (X : Cx) (f : Value → Sem Value) (r : V → Hp → VK → Prop) : Prop :=
  ∀ (pins : List (Addr × Obj)) (s : Shared) (σ : St) (H : Hp) (x : V) (v : Value) (Q : VK), Inv X pins σ H s → RelV x v → r x H Q →
    wpAny (model X.prog X.w) X.A (f v) (EP X pins σ Q) X.xe s

def CallR (X : Cx) (f : Value) (r : List V → Hp → VK → Prop) : Prop :=
  ∀ (pins : List (Addr × Obj)) (s : Shared) (σ : St) (H : Hp) (xs : List V) (us : List Value) (Q : VK), Inv X pins σ H s → Vals xs us → r xs H Q →
    wpAny (model X.prog X.w) X.A (call f us) (EP X pins σ Q) X.xe s

def tOp (r : R2) (ta tb : TE) : TE := fun σ H Q => ta σ H fun x H1 => tb σ H1 fun y H2 => r x y H2 Q
def tUn (r : V → Hp → VK → Prop) (ta : TE) : TE := fun σ H Q => ta σ H fun x H1 => r x H1 Q

def rI (C : Int → Int → Prop) (g : Int → Int → V) : R2 := fun x y H Q => ∃ i j, x = .int i ∧ y = .int j ∧ C i j ∧ Q (g i j) H
def rI0 (g : Int → Int → V) : R2 := fun x y H Q => ∃ i j, x = .int i ∧ y = .int j ∧ Q (g i j) H
def rU (g : Int → V) : V → Hp → VK → Prop := fun x H Q => ∃ i, x = .int i ∧ Q (g i) H

section
variable {X : Cx} {a b c : Expr} {ta tb tc : TE} {pos : Pos}

theorem binT (ha : PE X a ta) (hb : PE X b tb) {pins : List (Addr × Obj)} {s : Shared} {σ : St} {H : Hp} {R : V → V → Hp → Prop} (I : Inv X pins σ H s)
    (h : ta σ H fun x H1 => tb σ H1 fun y H2 => R x y H2) {Q : Value → Shared → Prop} {f : Value → Value → Sem Value}
    (hf : ∀ v u s2 x y H2, Inv X pins σ H2 s2 → RelV x v → RelV y u → R x y H2 → wpAny (model X.prog X.w) X.A (f v u) Q X.xe s2) :
    wpAny (model X.prog X.w) X.A (eval a X.env) (fun v s₁ => wpAny (model X.prog X.w) X.A (eval b X.env) (fun u s₂ => wpAny (model X.prog X.w) X.A (f v u) Q X.xe s₂) X.xe s₁) X.xe s := by
  refine thn (ha pins s σ H _ I h) fun v s1 ⟨x, H1, I1, r1, q1⟩ => ?_
  refine thn (hb pins s1 σ H1 _ I1 q1) fun u s2 ⟨y, H2, I2, r2, q2⟩ => ?_
  exact hf v u s2 x y H2 I2 r1 r2 q2

theorem pe_op {op : Operator} {r : R2} (ho : OpR X (binaryOp op) r) (ha : PE X a ta) (hb : PE X b tb) : PE X (.BinOp a op b pos) (tOp r ta tb) := by
  intro pins s σ H Q I h
  exact wpAny_BinOp (binT ha hb I h fun v u s2 x y H2 I2 rx ry q => ho pins s2 σ H2 x y v u Q I2 rx ry q)
theorem pe_un {op : UnaryOp} {r : V → Hp → VK → Prop} (ho : UnR X (unaryOp op) r) (ha : PE X a ta) : PE X (.UnaryOp op a pos) (tUn r ta) := by
  intro pins s σ H Q I h
  exact UnaryOp_ (thn (ha pins s σ H _ I h) fun v s1 ⟨x, H1, I1, r1, q1⟩ => ho pins s1 σ H1 x v Q I1 r1 q1)

theorem opI {f : Value → Value → Sem Value} {C : Int → Int → Prop} {g : Int → Int → Int}
    (rule : ∀ (i j : Int) (t u : Tok) (s : Shared) (Q : Value → Shared → Prop) (E : Value → Shared → Prop), C i j → Q (.int (g i j) s.toks) { s with toks := s.toks + 1 } → wpAny (model X.prog X.w) X.A (f (.int i t) (.int j u)) Q E s) :
    OpR X f (rI C fun i j => .int (g i j)) := by
  intro pins s σ H x y v u Q I rx ry h
  obtain ⟨i, j, rfl, rfl, hc, q⟩ := h
  obtain ⟨t, rfl⟩ := rx
  obtain ⟨t', rfl⟩ := ry
  exact rule i j t t' s _ _ hc ⟨.int (g i j), H, I.tok _, ⟨_, rfl⟩, q⟩
theorem opI0 {f : Value → Value → Sem Value} {g : Int → Int → Int}
    (rule : ∀ (i j : Int) (t u : Tok) (s : Shared) (Q : Value → Shared → Prop) (E : Value → Shared → Prop), Q (.int (g i j) s.toks) { s with toks := s.toks + 1 } → wpAny (model X.prog X.w) X.A (f (.int i t) (.int j u)) Q E s) :
    OpR X f (rI0 fun i j => .int (g i j)) := by
  intro pins s σ H x y v u Q I rx ry h
  obtain ⟨i, j, rfl, rfl, q⟩ := h
  obtain ⟨t, rfl⟩ := rx
  obtain ⟨t', rfl⟩ := ry
  exact rule i j t t' s _ _ ⟨.int (g i j), H, I.tok _, ⟨_, rfl⟩, q⟩
theorem opB0 {f : Value → Value → Sem Value} {g : Int → Int → Bool}
    (rule : ∀ (i j : Int) (t u : Tok) (s : Shared) (Q : Value → Shared → Prop) (E : Value → Shared → Prop), Q (.bool (g i j)) s → wpAny (model X.prog X.w) X.A (f (.int i t) (.int j u)) Q E s) :
    OpR X f (rI0 fun i j => .bl (g i j)) := by
  intro pins s σ H x y v u Q I rx ry h
  obtain ⟨i, j, rfl, rfl, q⟩ := h
  obtain ⟨t, rfl⟩ := rx
  obtain ⟨t', rfl⟩ := ry
  exact rule i j t t' s _ _ ⟨.bl (g i j), H, I, rfl, q⟩

def CPow (i j : Int) : Prop := 0 ≤ j ∧ j ≤ 1000000 ∧ i.natAbs < 2 ^ 64
def CMul (i j : Int) : Prop := (-(2 ^ 64) < i ∧ i < 2 ^ 64) ∨ (-(2 ^ 64) < j ∧ j < 2 ^ 64)
theorem CMul.ok {i j : Int} (h : CMul i j) : IntMulOk i j := by
  rcases h with ⟨h1, h2⟩ | ⟨h1, h2⟩
  · exact .of_left (intBits_le_64 h1 h2)
  · exact .of_right (intBits_le_64 h1 h2)
theorem op_add : OpR X (binaryOp .Add) (rI0 fun i j => .int (i + j)) := opI0 fun _ _ _ _ _ _ _ q => add_int q
theorem op_sub : OpR X (binaryOp .Sub) (rI0 fun i j => .int (i - j)) := opI0 fun _ _ _ _ _ _ _ q => sub_int q
theorem op_mul : OpR X (binaryOp .Mult) (rI CMul fun i j => .int (i * j)) := opI fun _ _ _ _ _ _ _ hc q => mul_int q hc.ok

theorem op_mod : OpR X (binaryOp .Mod) (rI (fun _ j => 0 < j) fun i j => .int (i % j)) := opI fun i j _ _ _ _ _ hc q => by
  have h1 : (0 : Int) < j := hc
  exact mod_int' (by omega) (by rw [Int.fmod_eq_emod_of_nonneg i (by omega)]; exact q)
theorem op_pow : OpR X (binaryOp .Pow) (rI CPow fun i j => .int (i ^ j.toNat)) := opI fun _ _ _ _ _ _ _ hc q => pow_int_small hc.1 hc.2.1 hc.2.2 q
theorem unI {f : Value → Sem Value} {g : Int → Int}
    (rule : ∀ (i : Int) (t : Tok) (s : Shared) (Q : Value → Shared → Prop) (E : Value → Shared → Prop), Q (.int (g i) s.toks) { s with toks := s.toks + 1 } → wpAny (model X.prog X.w) X.A (f (.int i t)) Q E s) :
    UnR X f (rU fun i => .int (g i)) := by
  intro pins s σ H x v Q I rx h
  obtain ⟨i, rfl, q⟩ := h
  obtain ⟨t, rfl⟩ := rx
  exact rule i t s _ _ ⟨.int (g i), H, I.tok _, ⟨_, rfl⟩, q⟩
theorem un_neg : UnR X (unaryOp .USub) (rU fun i => .int (-i)) := unI fun _ _ _ _ _ q => neg_int q
end



def scal : V → V → Bool
  | .non, .non => true | .non, .int _ => true | .int _, .non => true | .non, .bl _ => true | .bl _, .non => true | .non, .str _ => true | .str _, .non => true
  | .int _, .int _ => true | .bl _, .bl _ => true | .str _, .str _ => true | .byt _, .byt _ => true
  | .int _, .str _ => true | .str _, .int _ => true | .bl _, .str _ => true | .str _, .bl _ => true
  | _, _ => false
def rEq : R2 := fun x y H Q => scal x y = true ∧ Q (.bl (decide (x = y))) H
def rNe : R2 := fun x y H Q => scal x y = true ∧ Q (.bl (!decide (x = y))) H

theorem dec_int {i j : Int} : decide (V.int i = V.int j) = (i == j) := by
  rw [Bool.eq_iff_iff]
  simp
theorem dec_bl {i j : Bool} : decide (V.bl i = V.bl j) = (i == j) := by
  rw [Bool.eq_iff_iff]
  simp
theorem dec_str {i j : Str} : decide (V.str i = V.str j) = (i == j) := by
  rw [Bool.eq_iff_iff]
  simp
theorem dec_byt {i j : Array UInt8} : decide (V.byt i = V.byt j) = (i.toList == j.toList) := by
  rw [Bool.eq_iff_iff]
  cases i
  cases j
  simp

section
variable {X : Cx} {a b c : Expr} {ta tb tc : TE} {pos : Pos}
theorem fin_bl {pins : List (Addr × Obj)} {σ : St} {H : Hp} {s : Shared} {Q : VK} {k k' : Bool} (I : Inv X pins σ H s) (q : Q (.bl k) H) (e : k = k') : EP X pins σ Q (.bool k') s := by
  subst e
  exact ⟨.bl k, H, I, rfl, q⟩
theorem op_eq : OpR X (compareOp .Eq) rEq := by
  intro pins s σ H x y v u Q I rx ry h
  obtain ⟨hs, q⟩ := h
  cases x with
  | non =>
    cases rx
    cases y with
    | non => cases ry; exact PySem.EqNone.eq_none_none (fin_bl I q (by simp))
    | bl j => cases ry; exact PySem.EqNone.eq_none_bool (fin_bl I q (by simp))
    | int j => obtain ⟨t', rfl⟩ := ry; exact PySem.EqNone.eq_none_int (fin_bl I q (by simp))
    | str j => obtain ⟨t', rfl⟩ := ry; exact PySem.EqNone.eq_none_str (fin_bl I q (by simp))
    | _ => exact absurd (show false = true from hs) Bool.false_ne_true
  | bl i =>
    cases rx
    cases y with
    | non => cases ry; exact PySem.EqNone.eq_bool_none (fin_bl I q (by simp))
    | bl j => cases ry; exact eq_bool (fin_bl I q dec_bl)
    | str j => obtain ⟨t', rfl⟩ := ry; exact PySem.EqMixed.eq_bool_str (fin_bl I q (by simp))
    | _ => exact absurd (show false = true from hs) Bool.false_ne_true
  | int i =>
    obtain ⟨t, rfl⟩ := rx
    cases y with
    | non => cases ry; exact PySem.EqNone.eq_int_none (fin_bl I q (by simp))
    | int j => obtain ⟨t', rfl⟩ := ry; exact eq_int (fin_bl I q dec_int)
    | str j => obtain ⟨t', rfl⟩ := ry; exact PySem.EqMixed.eq_int_str (fin_bl I q (by simp))
    | _ => exact absurd (show false = true from hs) Bool.false_ne_true
  | str i =>
    obtain ⟨t, rfl⟩ := rx
    cases y with
    | non => cases ry; exact PySem.EqNone.eq_str_none (fin_bl I q (by simp))
    | bl j => cases ry; exact PySem.EqMixed.eq_str_bool (fin_bl I q (by simp))
    | int j => obtain ⟨t', rfl⟩ := ry; exact PySem.EqMixed.eq_str_int (fin_bl I q (by simp))
    | str j => obtain ⟨t', rfl⟩ := ry; exact eq_str (fin_bl I q dec_str)
    | _ => exact absurd (show false = true from hs) Bool.false_ne_true
  | byt i =>
    obtain ⟨t, rfl⟩ := rx
    cases y with
    | byt j => obtain ⟨t', rfl⟩ := ry; exact PySem.W.eq_bytes (fin_bl I q dec_byt)
    | _ => exact absurd (show false = true from hs) Bool.false_ne_true
  | _ => cases y <;> exact absurd (show false = true from hs) Bool.false_ne_true
theorem op_ne : OpR X (compareOp .NotEq) rNe := by
  intro pins s σ H x y v u Q I rx ry h
  obtain ⟨hs, q⟩ := h
  cases x with
  | non =>
    cases rx
    cases y with
    | non => cases ry; exact PySem.EqNone.ne_none_none (fin_bl I q (by simp))
    | bl j => cases ry; exact PySem.EqNone.ne_none_bool (fin_bl I q (by simp))
    | int j => obtain ⟨t', rfl⟩ := ry; exact PySem.EqNone.ne_none_int (fin_bl I q (by simp))
    | str j => obtain ⟨t', rfl⟩ := ry; exact PySem.EqNone.ne_none_str (fin_bl I q (by simp))
    | _ => exact absurd (show false = true from hs) Bool.false_ne_true
  | bl i =>
    cases rx
    cases y with
    | non => cases ry; exact PySem.EqNone.ne_bool_none (fin_bl I q (by simp))
    | bl j => cases ry; exact ne_bool (fin_bl I q (congrArg not dec_bl))
    | str j => obtain ⟨t', rfl⟩ := ry; exact PySem.EqMixed.ne_bool_str (fin_bl I q (by simp))
    | _ => exact absurd (show false = true from hs) Bool.false_ne_true
  | int i =>
    obtain ⟨t, rfl⟩ := rx
    cases y with
    | non => cases ry; exact PySem.EqNone.ne_int_none (fin_bl I q (by simp))
    | int j => obtain ⟨t', rfl⟩ := ry; exact ne_int (fin_bl I q (congrArg not dec_int))
    | str j => obtain ⟨t', rfl⟩ := ry; exact PySem.EqMixed.ne_int_str (fin_bl I q (by simp))
    | _ => exact absurd (show false = true from hs) Bool.false_ne_true
  | str i =>
    obtain ⟨t, rfl⟩ := rx
    cases y with
    | non => cases ry; exact PySem.EqNone.ne_str_none (fin_bl I q (by simp))
    | bl j => cases ry; exact PySem.EqMixed.ne_str_bool (fin_bl I q (by simp))
    | int j => obtain ⟨t', rfl⟩ := ry; exact PySem.EqMixed.ne_str_int (fin_bl I q (by simp))
    | str j => obtain ⟨t', rfl⟩ := ry; exact ne_str (fin_bl I q (congrArg not dec_str))
    | _ => exact absurd (show false = true from hs) Bool.false_ne_true
  | byt i =>
    obtain ⟨t, rfl⟩ := rx
    cases y with
    | byt j => obtain ⟨t', rfl⟩ := ry; exact PySem.W.ne_bytes (fin_bl I q (congrArg not dec_byt))
    | _ => exact absurd (show false = true from hs) Bool.false_ne_true
  | _ => cases y <;> exact absurd (show false = true from hs) Bool.false_ne_true

theorem op_lt : OpR X (compareOp .Lt) (rI0 fun i j => .bl (decide (i < j))) := opB0 fun _ _ _ _ _ _ _ q => lt_int q
theorem op_le : OpR X (compareOp .LtE) (rI0 fun i j => .bl (decide (i ≤ j))) := opB0 fun _ _ _ _ _ _ _ q => le_int q
theorem op_gt : OpR X (compareOp .Gt) (rI0 fun i j => .bl (decide (j < i))) := opB0 fun _ _ _ _ _ _ _ q => gt_int q
theorem op_ge : OpR X (compareOp .GtE) (rI0 fun i j => .bl (decide (j ≤ i))) := opB0 fun _ _ _ _ _ _ _ q => ge_int q
theorem op_in_str : OpR X (compareOp .In) (fun x y H Q => ∃ i j, x = .str i ∧ y = .str j ∧ Q (.bl (!(Builtin.Str.occurrences j i 0 j.length 1).isEmpty)) H) := by
  intro pins s σ H x y v u Q I rx ry h
  obtain ⟨i, j, rfl, rfl, q⟩ := h
  obtain ⟨t, rfl⟩ := rx
  obtain ⟨t', rfl⟩ := ry
  exact in_str (fin_bl I q rfl)


theorem op_notN : OpR X (compareOp .IsNot) (fun x y H Q => y = .non ∧ Q (.bl (!decide (x = .non))) H) := by
  intro pins s σ H x y v u Q I rx ry h
  obtain ⟨rfl, q⟩ := h
  cases ry
  refine isnot_none_gen (fin_bl I q ?_)
  cases x <;> first
    | (cases rx; rfl)
    | (obtain ⟨t, rfl⟩ := rx; rfl)

theorem op_notin_str : OpR X (compareOp .NotIn) (fun x y H Q => ∃ i j, x = .str i ∧ y = .str j ∧ Q (.bl (!(!(Builtin.Str.occurrences j i 0 j.length 1).isEmpty))) H) := by
  intro pins s σ H x y v u Q I rx ry h
  obtain ⟨i, j, rfl, rfl, q⟩ := h
  obtain ⟨t, rfl⟩ := rx
  obtain ⟨t', rfl⟩ := ry
  exact notIn_str (fin_bl I q rfl)

theorem nomark (b : Expr) {op : CmpOp} (h : op ≠ .In := by decide) (h2 : op ≠ .NotIn := by decide) : behindInMarks op b = false := by
  have e1 : (op == CmpOp.In) = false := by cases op <;> first | rfl | exact absurd rfl h
  have e2 : (op == CmpOp.NotIn) = false := by cases op <;> first | rfl | exact absurd rfl h2
  cases b <;> simp [behindInMarks, e1, e2]

theorem pe_cmpR {op : CmpOp} {r : R2} (ho : OpR X (compareOp op) r) (ha : PE X a ta) (hb : PE X b tb) (hm : behindInMarks op b = false) : PE X (.Compare a [op] [b] pos) (tOp r ta tb) := by
  intro pins s σ H Q I h
  exact wpAny_Compare1 (binT ha hb I h fun v u s2 x y H2 I2 rx ry q => ho pins s2 σ H2 x y v u Q I2 rx ry q) hm

def tTest (t : TE) : TT := fun σ H Q => t σ H fun x H' => ∃ k, x = .bl k ∧ Q k H'
theorem pt_cmpR {op : CmpOp} {r : R2} (ho : OpR X (compareOp op) r) (ha : PE X a ta) (hb : PE X b tb) (hm : behindInMarks op b = false) : PT X (.Compare a [op] [b] pos) (tTest (tOp r ta tb)) := by
  intro pins s σ H Q I h
  refine wpAny_isTrue_Compare1 (thn (ha pins s σ H _ I h) fun v s1 ⟨x, H1, I1, r1, q1⟩ => thn (hb pins s1 σ H1 _ I1 q1) fun u s2 ⟨y, H2, I2, r2, q2⟩ =>
    thn (ho pins s2 σ H2 x y v u _ I2 r1 r2 q2) fun c s3 ⟨z, H3, I3, r3, k, e, q3⟩ => ?_) hm
  subst e
  cases r3
  exact wpAny_truthy_bool ⟨H3, I3, q3⟩

def tChain (r r' : R2) (ta tb tc : TE) : TE := fun σ H Q => ta σ H fun x H1 => tb σ H1 fun y H2 => r x y H2 fun z H3 => ∃ k, z = .bl k ∧
  (if k = true then tc σ H3 fun w' H4 => r' y w' H4 Q else Q (.bl false) H3)
theorem pe_chain {op op' : CmpOp} {r r' : R2} (ho : OpR X (compareOp op) r) (ho' : OpR X (compareOp op') r') (ha : PE X a ta) (hb : PE X b tb) (hc : PE X c tc)
    (hm : lastMarks [op, op'] [b, c] = false := by with_unfolding_all rfl) : PE X (.Compare a [op, op'] [b, c] pos) (tChain r r' ta tb tc) := by
  intro pins s σ H Q I h
  refine Compare_chain (thn (ha pins s σ H _ I h) fun v s1 ⟨x, H1, I1, r1, q1⟩ => chain_link (thn (hb pins s1 σ H1 _ I1 q1) fun u s2 ⟨y, H2, I2, r2, q2⟩ =>
    thn (ho pins s2 σ H2 x y v u _ I2 r1 r2 q2) fun d s3 ⟨z, H3, I3, r3, k, e, q3⟩ => ?_)) hm
  subst e
  cases r3
  refine wpAny_truthy_bool ?_
  cases k with
  | false => exact ite_ff ⟨.bl false, H3, I3, rfl, q3⟩
  | true => exact ite_tt (chain_last (thn (hc pins s3 σ H3 _ I3 q3) fun w' s4 ⟨z', H4, I4, r4, q4⟩ => ho' pins s4 σ H4 y z' u w' Q I4 r2 r4 q4))
theorem pt_chain {op op' : CmpOp} {r r' : R2} (ho : OpR X (compareOp op) r) (ho' : OpR X (compareOp op') r') (ha : PE X a ta) (hb : PE X b tb) (hc : PE X c tc)
    (hm : lastMarks [op, op'] [b, c] = false := by with_unfolding_all rfl) : PT X (.Compare a [op, op'] [b, c] pos) (tTest (tChain r r' ta tb tc)) := by
  intro pins s σ H Q I h
  refine isTrue_chain (thn (ha pins s σ H _ I h) fun v s1 ⟨x, H1, I1, r1, q1⟩ => test_link (thn (hb pins s1 σ H1 _ I1 q1) fun u s2 ⟨y, H2, I2, r2, q2⟩ =>
    thn (ho pins s2 σ H2 x y v u _ I2 r1 r2 q2) fun d s3 ⟨z, H3, I3, r3, k, e, q3⟩ => ?_)) hm
  subst e
  cases r3
  refine wpAny_truthy_bool ?_
  cases k with
  | false =>
    obtain ⟨k', e', q'⟩ := q3
    cases e'
    exact ite_ff ⟨H3, I3, q'⟩
  | true =>
    refine ite_tt (test_last (thn (hc pins s3 σ H3 _ I3 q3) fun w' s4 ⟨z', H4, I4, r4, q4⟩ => thn (ho' pins s4 σ H4 y z' u w' _ I4 r2 r4 q4) fun d' s5 ⟨z2, H5, I5, r5, k2, e2, q5⟩ => ?_))
    subst e2
    cases r5
    exact wpAny_truthy_bool ⟨H5, I5, q5⟩



theorem line63 : (sizeLine : Nat) < 2 ^ 63 := by rw [sizeLine_eq]; decide
theorem op_add_str : OpR X (binaryOp .Add) (fun x y H Q => ∃ i j, x = .str i ∧ y = .str j ∧ i.length + j.length ≤ sizeLine ∧ Q (.str (i ++ j)) H) := by
  intro pins s σ H x y v u Q I rx ry h
  obtain ⟨i, j, rfl, rfl, hz, q⟩ := h
  obtain ⟨t, rfl⟩ := rx
  obtain ⟨t', rfl⟩ := ry
  exact add_str (fun t' tk => ⟨.str (i ++ j), H, I.tok _, ⟨_, rfl⟩, q⟩) hz
theorem vals1 {x : V} {us : List Value} (r : Vals [x] us) : ∃ u, us = [u] ∧ RelV x u := by
  cases r with
  | cons r1 r2 => cases r2; exact ⟨_, rfl, r1⟩
theorem vals2 {x y : V} {us : List Value} (r : Vals [x, y] us) : ∃ u w', us = [u, w'] ∧ RelV x u ∧ RelV y w' := by
  cases r with
  | cons r1 r2 =>
    cases r2 with
    | cons r3 r4 => cases r4; exact ⟨_, _, rfl, r1, r3⟩
theorem call_max2 (hc : X.calm = true) : CallR X (.builtin "max") (fun xs H Q => ∃ i j, xs = [.int i, .int j] ∧ Q (.int (if j > i then j else i)) H) := by
  intro pins s σ H xs us Q I r h
  obtain ⟨i, j, rfl, q⟩ := h
  obtain ⟨u, w', rfl, ⟨t, rfl⟩, ⟨t', rfl⟩⟩ := vals2 r
  refine max_two_ints (I.ok.hd hc) fun h' tk k => ⟨_, H, I.kept k, ?_, q⟩
  by_cases hj : j > i
  · rw [if_pos hj, if_pos hj]; exact ⟨_, rfl⟩
  · rw [if_neg hj, if_neg hj]; exact ⟨_, rfl⟩
theorem call_min2 (hc : X.calm = true) : CallR X (.builtin "min") (fun xs H Q => ∃ i j, xs = [.int i, .int j] ∧ Q (.int (if j < i then j else i)) H) := by
  intro pins s σ H xs us Q I r h
  obtain ⟨i, j, rfl, q⟩ := h
  obtain ⟨u, w', rfl, ⟨t, rfl⟩, ⟨t', rfl⟩⟩ := vals2 r
  refine min_two_ints (I.ok.hd hc) fun h' tk k => ⟨_, H, I.kept k, ?_, q⟩
  by_cases hj : j < i
  · rw [if_pos hj, if_pos hj]; exact ⟨_, rfl⟩
  · rw [if_neg hj, if_neg hj]; exact ⟨_, rfl⟩
theorem call_int1 : CallR X (.type "int") (fun xs H Q => (∃ i, xs = [.int i] ∧ Q (.int i) H) ∨ ∃ k, xs = [.bl k] ∧ Q (.int (if k then 1 else 0)) H) := by
  intro pins s σ H xs us Q I r h
  rcases h with ⟨i, rfl, q⟩ | ⟨k, rfl, q⟩
  · obtain ⟨u, rfl, t, rfl⟩ := vals1 r
    exact call_int_int ⟨.int i, H, I, ⟨_, rfl⟩, q⟩
  · obtain ⟨u, rfl, r1⟩ := vals1 r
    cases r1
    exact call_int_bool ⟨.int (if k then 1 else 0), H, I.tok _, ⟨_, rfl⟩, q⟩
def LenV (K : PySem.W.Frag) (x : V) (H : Hp) (n : Nat) : Prop :=
  match x with
  | .str y => y.length ≤ sizeLine ∧ n = y.length
  | .byt y => y.size ≤ sizeLine ∧ n = y.size
  | .ref p => (∃ xs, SqL K H p xs ∧ n = xs.length) ∨ ∃ xs, SqT K H p xs ∧ n = xs.length
  | _ => False
theorem call_len : CallR X (.builtin "len") (fun xs H Q => ∃ x n, xs = [x] ∧ LenV X.K x H n ∧ Q (.int n) H) := by
  intro pins s σ H xs us Q I r h
  obtain ⟨x, n, rfl, e, q⟩ := h
  obtain ⟨u, rfl, rx⟩ := vals1 r
  have hl := line63
  have hs : sizeLine = 16777216 := sizeLine_eq
  cases x with
  | str y =>
    obtain ⟨t, rfl⟩ := rx
    obtain ⟨hy, e'⟩ : y.length ≤ sizeLine ∧ n = y.length := e
    subst e'
    exact len_str (by omega) ⟨.int _, H, I.tok _, ⟨_, rfl⟩, q⟩
  | byt y =>
    obtain ⟨t, rfl⟩ := rx
    obtain ⟨hy, e'⟩ : y.size ≤ sizeLine ∧ n = y.size := e
    subst e'
    exact PySem.W.len_bytes (by omega) ⟨.int _, H, I.tok _, ⟨_, rfl⟩, q⟩
  | ref p =>
    cases rx
    have e' : (∃ xs, SqL X.K H p xs ∧ n = xs.length) ∨ ∃ xs, SqT X.K H p xs ∧ n = xs.length := e
    rcases e' with ⟨xs, hx, e'⟩ | ⟨xs, hx, e'⟩
    · subst e'
      obtain ⟨its, r', pl, hz⟩ := I.list hx
      have hlen := r'.length
      exact Calls.call_len_list pl.isList (by simp only [List.size_toArray]; omega) ⟨.int xs.length, H, I.tok _, ⟨_, by simp only [List.size_toArray]; rw [hlen]⟩, q⟩
    · subst e'
      obtain ⟨its, r', pl, hz⟩ := I.tuple hx
      have hlen := r'.length
      exact len_tuple pl (by simp only [List.size_toArray]; omega) ⟨.int xs.length, H, I.tok _, ⟨_, by simp only [List.size_toArray]; rw [hlen]⟩, q⟩
  | _ => exact (show False from e).elim

end
end L2

namespace L2
open PySem PySem.Spec PyProof.Rows


structure ObjM (h : Heap) (x dx C : Addr) (mA : Str → Option Value) : Prop where
  obj : h.get? x = some (PySem.W.instObj C dx)
  ns : h.Ns1 dx mA
  ne : dx ≠ x

theorem lookIn_ns {h : Heap} {dx : Addr} {mA : Str → Option Value} (n : h.Ns1 dx mA) : ∃ od, h.get? dx = some od ∧ ∀ name, PySem.W.lookIn name od = some (mA name) := by
  obtain ⟨o, es, ep, ho, hd, hk, _, hm⟩ := n
  refine ⟨o, ho, fun name => ?_⟩
  have e := hm name
  unfold nsFind findBy at e
  rw [← Array.find?_toList] at e
  unfold PySem.W.lookIn
  rw [hd]
  dsimp only
  split
  · rename_i y q
    rw [q] at e
    exact congrArg some e
  · rename_i q
    rw [q] at e
    have a : es.toList.any (·.refKey) = false := by
      rw [List.any_eq_false]
      intro y hy
      obtain ⟨z, t, hkey⟩ := hk y (Array.mem_toList_iff.mp hy)
      simp [DictEntry.refKey, hkey]
    have a' : ¬ es.toList.any (·.refKey) = true := by rw [a]; exact Bool.false_ne_true
    rw [if_neg a']
    exact congrArg some e

theorem ObjM.look {h : Heap} {x dx C : Addr} {mA : Str → Option Value} (I : ObjM h x dx C mA) : ∃ od, PySem.W.InstAt h x (PySem.W.instObj C dx) C (some od) ∧ ∀ name, PySem.W.lookIn name od = some (mA name) :=
  let ⟨od, ho, hl⟩ := lookIn_ns I.ns
  ⟨od, ⟨I.obj, rfl, rfl, ho⟩, hl⟩

section
variable {prog : Program} {w : World} {A : Around} {E : Value → Shared → Prop} {s : Shared} {K : PySem.W.Frag} {x dx C f : Addr} {mA : Str → Option Value} {name : Str} {v : Value}

end


section
variable {P : Program} {w : World} {H H' : Hp} {h h' : Heap} {a C dx : Addr} {fs fs' : List (Str × V)}
theorem ins_get (hok : HOk P w H h) (e : H a = some (.ins C dx fs)) : ∃ mA, ObjM h a dx C mA ∧ (∀ f, RelO (fs.lookup f) (mA f)) ∧ PySem.Within mA (fs.map (·.1)) ∧ fs.length ≤ 1000 ∧ H dx = some (.own a) := by
  obtain ⟨d, z, ne, ob, mA, n, r, q⟩ := (show ObjOk P w H h a (.ins C dx fs) from hok a _ e)
  exact ⟨mA, ⟨ob, n, ne⟩, r, q, z, d⟩
end


structure Cls (K : PySem.W.Frag) (C : Addr) : Prop where
  pg : PySem.W.plainGet K C Str.empty = true
  hd : PySem.W.hasDictIn K C = true
  po : PySem.W.plainOver K C = true
  sa : PySem.W.findIn K (.ref C) "__setattr__" = some (some (.builtin "object.__setattr__"))
theorem Cls.get {K : PySem.W.Frag} {C : Addr} (c : Cls K C) (f : Str) : PySem.W.plainGet K C f = true := c.pg

section
variable {X : Cx} {pins : List (Addr × Obj)} {σ : St} {H : Hp} {s : Shared} {a C dx : Addr} {fs : List (Str × V)} {f : Str} {v : V} {A : Around} {E : Value → Shared → Prop}

end



section
variable {X : Cx} {o e value : Expr} {f : Str} {pos pos' tpos : Pos} {ta tv : TE}
end


section
variable {X : Cx} {pins : List (Addr × Obj)} {σ : St} {H : Hp} {s : Shared} {A : Around} {E : Value → Shared → Prop} {Q : Value → Shared → Prop} {c : Value} {b : Bool}

inductive TyOf (K : PySem.W.Frag) (H : Hp) : V → Value → Prop where
  | non : TyOf K H .non (.type "NoneType")
  | bl (x : Bool) : TyOf K H (.bl x) (.type "bool")
  | int (i : Int) : TyOf K H (.int i) (.type "int")
  | str (x : Str) : TyOf K H (.str x) (.type "str")
  | flt (x : UInt64) : TyOf K H (.flt x) (.type "float")
  | lst {a : Addr} {xs : List V} (e : H a = some (.lst xs)) : TyOf K H (.ref a) (.type "list")
  | frz {a : Addr} {o : Obj} {xs : List V} (e : H a = some (.frz o (.lst xs))) : TyOf K H (.ref a) (.type "list")
  | tup {a : Addr} {xs : List V} (e : H a = some (.tup xs)) : TyOf K H (.ref a) (.type "tuple")
  | dK {a : Addr} {kvs : List (Key × V)} (e : H a = some (.dK kvs)) : TyOf K H (.ref a) (.type "dict")
  | dT {a : Addr} {kvs : List (List Key × V)} (e : H a = some (.dT kvs)) : TyOf K H (.ref a) (.type "dict")
  | ins {a C dx : Addr} {fs : List (Str × V)} (e : H a = some (.ins C dx fs)) (cl : Cls K C) (ha : PySem.W.findIn K (.ref C) "__class__" = some (some (.builtin "object.__class__")))
      (hn : PySem.W.specialIn K (.builtin "object.__class__") "__get__" = some (some (.builtin "getset_descriptor.__get__"))) (htk : PySem.W.takesIn K (.builtin "object.__class__") = some true)
      (hm : PySem.W.mroIn K C (.type "object") = some true) : TyOf K H (.ref a) (.ref C)

theorem isinst_ok {x : V} {u t : Value} (I : Inv X pins σ H s) (rx : RelV x u) (ty : TyOf X.K H x t) (e : PySem.W.kitOne X.K t c = some b) (h : ∀ tk, Q (.bool b) { s with toks := tk }) :
    wpAny (model X.prog X.w) A (call (.builtin "isinstance") [u, c]) Q E s := by
  cases ty with
  | non => cases (show u = Value.none from rx); exact PySem.W.kia_one PySem.W.kitx_none I.kIn True.intro e (fun z => nomatch z) h
  | bl y => cases (show u = Value.bool y from rx); exact PySem.W.kia_one PySem.W.kitx_bool I.kIn True.intro e (fun z => nomatch z) h
  | int i => obtain ⟨t, q⟩ := (show ∃ t, u = Value.int i t from rx); cases q; exact PySem.W.kia_one PySem.W.kitx_int I.kIn True.intro e (fun z => nomatch z) h
  | str y => obtain ⟨t, q⟩ := (show ∃ t, u = Value.str y t from rx); cases q; exact PySem.W.kia_one PySem.W.kitx_str I.kIn True.intro e (fun z => nomatch z) h
  | flt y => obtain ⟨t, q⟩ := (show ∃ t, u = Value.float y t from rx); cases q; exact PySem.W.kia_one PySem.W.kitx_float I.kIn True.intro e (fun z => nomatch z) h
  | @lst a xs ea =>
    cases (show u = Value.ref a from rx)
    obtain ⟨_, _, n, _, h1⟩ := (show ObjOk X.prog X.w H s.heap a (.lst xs) from I.hok a _ ea)
    exact PySem.W.kia_one PySem.W.kitx_list I.kIn ⟨_, h1, rfl⟩ e (fun z => nomatch z) h
  | @frz a ob xs ea =>
    cases (show u = Value.ref a from rx)
    obtain ⟨_, _, _, n, _, h1⟩ := (show ObjOk X.prog X.w H s.heap a (.frz ob (.lst xs)) from I.hok a _ ea)
    exact PySem.W.kia_one PySem.W.kitx_list I.kIn ⟨_, h1, rfl⟩ e (fun z => nomatch z) h
  | @tup a xs ea =>
    cases (show u = Value.ref a from rx)
    obtain ⟨_, _, _, p⟩ := (show ObjOk X.prog X.w H s.heap a (.tup xs) from I.hok a _ ea)
    obtain ⟨o, h1, h2, _⟩ := p
    exact PySem.W.kia_one PySem.W.kitx_tuple I.kIn ⟨o, h1, h2⟩ e (fun z => nomatch z) h
  | @dK a kvs ea =>
    cases (show u = Value.ref a from rx)
    obtain ⟨_, _, vs, _, p⟩ := (show ObjOk X.prog X.w H s.heap a (.dK kvs) from I.hok a _ ea)
    obtain ⟨o, es, ep, h1, h2, _⟩ := p
    exact PySem.W.kia_one PySem.W.kitx_dict I.kIn ⟨o, h1, h2.1⟩ e (fun z => nomatch z) h
  | @dT a kvs ea =>
    cases (show u = Value.ref a from rx)
    obtain ⟨_, _, xs, _, o, es, ep, h1, h2, _⟩ := (show ObjOk X.prog X.w H s.heap a (.dT kvs) from I.hok a _ ea)
    exact PySem.W.kia_one PySem.W.kitx_dict I.kIn ⟨o, h1, h2.1⟩ e (fun z => nomatch z) h
  | @ins a C dx fs ea cl ha hn htk hm =>
    cases (show u = Value.ref a from rx)
    obtain ⟨mA, O, _⟩ := ins_get I.hok ea
    obtain ⟨od, J, _⟩ := O.look
    exact PySem.W.kia_one (PySem.W.kitx_own (cl.get _) cl.hd ha hn htk hm) I.kIn J e (fun z => nomatch z) h
end
end L2

namespace L2
open PySem PySem.Spec PyProof.Rows


structure Room (k : Nat) (A : Around) : Prop where
  hd : A.handled = none
  dp : A.depth + 3 * k + 5 < recursionLimit
  un : A.units + 16 * k + 200 < cLine
theorem Room.mono {j k : Nat} {A : Around} (r : Room k A) (h : j ≤ k) : Room j A := ⟨r.hd, by have := r.dp; omega, by have := r.un; omega⟩
theorem Room.deeper {k : Nat} {A : Around} (r : Room (k + 1) A) (env : Env) : Room k (A.deeper env) :=
  ⟨r.hd, by have := r.dp; show A.depth + 1 + 3 * k + 5 < _; omega, by have := r.un; show A.units + 3 + 16 * k + 200 < _; omega⟩
theorem Room.depth {k : Nat} {A : Around} (r : Room k A) : A.depth < recursionLimit := by have := r.dp; omega
theorem Room.units {k : Nat} {A : Around} (r : Room k A) : A.units + 64 < cLine := by have := r.un; omega
def tNil : TA := fun _ H Q => Q [] H
def tCons (ta : TE) (tr : TA) : TA := fun σ H Q => ta σ H fun x H1 => tr σ H1 fun xs H2 => Q (x :: xs) H2
section
variable {X : Cx} {e : Expr} {es : List Expr} {te : TE} {t : TA} {pos : Pos}
theorem pa_nil : PA X [] tNil := fun _ _ _ _ H Q I h => Calls.spliced_nil ⟨[], H, I, .nil, h⟩
theorem pa_cons (ha : PE X e te) (hr : PA X es t) (hs : starEach (e :: es) X.env = (false, eval e X.env) :: starEach es X.env := by rfl) : PA X (e :: es) (tCons te t) := by
  intro pos pins s σ H Q I h
  rw [hs]
  show wpAny _ _ (spliced ((false, eval e X.env) :: backTo pos (starEach es X.env))) _ _ s
  refine Calls.spliced_cons (thn (ha pins s σ H _ I h) fun u s1 ⟨x, H1, I1, r1, q1⟩ => ?_)
  exact thn (hr pos pins s1 σ H1 _ I1 q1) fun us s2 ⟨xs, H2, I2, r2, q2⟩ => ⟨x :: xs, H2, I2, .cons r1 r2, q2⟩


def tTup (t : TA) : TE := fun σ H Q => t σ H fun xs H1 => xs.length ≤ sizeLine ∧ ∀ p, H1 p = none → Q (.ref p) (upd H1 p (.tup xs))
def tLst (t : TA) : TE := fun σ H Q => t σ H fun xs H1 => xs.length ≤ sizeLine ∧ ∀ p, H1 p = none → Q (.ref p) (upd H1 p (.lst xs))
theorem pe_tup {x1} (h : PA X es t) : PE X (.Tuple es x1 pos) (tTup t) := by
  intro pins s σ H Q I hq
  refine wpAny_Tuple_spliced (thn (h pos pins s σ H _ I hq) fun us s1 ⟨xs, H1, I1, r, z, q⟩ => ⟨by rw [← r.length]; exact z, ?_⟩)
  have hf : H1 s1.heap.objs.size = none := I1.hok.fresh (Nat.le_refl _)
  refine ⟨.ref s1.heap.objs.size, upd H1 s1.heap.objs.size (.tup xs), I1.laid (t' := s1.toks) (fun b u e => Heap.get?_push_of_some _ e) (Nat.le_refl _) ?_, rfl, q _ hf⟩
  exact ⟨z, us, r, ⟨_, Heap.get?_push_size _ rfl, rfl, _, rfl⟩⟩
theorem pe_lst (h : PA X es t) : PE X (.List es pos) (tLst t) := by
  intro pins s σ H Q I hq
  refine wpAny_List_spliced (thn (h pos pins s σ H _ I hq) fun us s1 ⟨xs, H1, I1, r, z, q⟩ => ⟨by rw [← r.length]; exact z, ?_⟩)
  have hf : H1 s1.heap.objs.size = none := I1.hok.fresh (Nat.le_refl _)
  refine ⟨.ref s1.heap.objs.size, upd H1 s1.heap.objs.size (.lst xs), I1.laid (t' := s1.toks) (fun b u e => Heap.get?_push_of_some _ e) (Nat.le_refl _) ?_, rfl, q _ hf⟩
  exact ⟨z, us, 0, r, Heap.get?_push_size _ rfl⟩
end



abbrev Sp := List V → Hp → VK → XK → Prop

abbrev CXT := List Env → Hp → Shared → XK → Value → Shared → Prop


structure Env0 (P : Program) (w : World) (K : PySem.W.Frag) (mg : Str → Option Value) (base : Heap) (A : Around) (outer : List Env) (s : Shared) (H : Hp) : Prop where
  frames : A.frames = some outer
  mod : Mod K mg base
  bs : ∀ b o, base.get? b = some o → s.heap.get? b = some o ∧ H b = none
  bsz : base.objs.size ≤ s.heap.objs.size
  funs : s.heap.FunFrames base outer
  frf : ∀ b ∈ frs outer, H b = none
  hok : HOk P w H s.heap
  bare : AllBare s.gens

def CE (outer : List Env) (P : Program) (w : World) (H : Hp) (s : Shared) (Q : VK) (u : Value) (s' : Shared) : Prop :=
  ∃ v H', s'.os = s.os ∧ AllBare s'.gens ∧ Un (frs outer) [] H H' s.heap s'.heap ∧ HOk P w H' s'.heap ∧ RelV v u ∧ Q v H'
def CR (CX : CXT) (outer : List Env) (P : Program) (w : World) (H : Hp) (s : Shared) (Q : VK) (E : XK) (r : Result) (s' : Shared) : Prop :=
  match r with
  | .ok (.ret u) => CE outer P w H s Q u s'
  | .ok _ => False
  | .error e => CX outer H s E e s'
structure FnOk (P : Program) (w : World) (K : PySem.W.Frag) (mg : Str → Option Value) (base : Heap) (CX : CXT) (k : Nat) (f : Addr) (fd : FuncData) (ps : List Str) (sp : Sp) : Prop where
  len : ∀ vs H Q E, sp vs H Q E → vs.length = ps.length
  run : ∀ (A : Around) (outer : List Env) (s : Shared) (H : Hp) (args : Args) (us : List Value) (vs : List V) (Q : VK) (E : XK), Room k A → Env0 P w K mg base A outer s H → BindsTo s fd args (ps.zip us) → Vals vs us → sp vs H Q E →
    codeAny (model P w) A (.call (.ref f) args) (CR CX outer P w H s Q E) s
theorem FnOk.imp {P : Program} {w : World} {K : PySem.W.Frag} {mg : Str → Option Value} {base : Heap} {CX : CXT} {k : Nat} {f : Addr} {fd : FuncData} {ps : List Str} {sp sp' : Sp} (F : FnOk P w K mg base CX k f fd ps sp)
    (h : ∀ vs H Q E, sp' vs H Q E → sp vs H Q E) : FnOk P w K mg base CX k f fd ps sp' :=
  ⟨fun vs H Q E q => F.len vs H Q E (h _ _ _ _ q), fun A outer s H args us vs Q E hr he hb hv hs => F.run A outer s H args us vs Q E hr he hb hv (h _ _ _ _ hs)⟩

section
variable {X : Cx} {pins : List (Addr × Obj)} {σ : St} {H : Hp} {s s' : Shared}

theorem Inv.env0 (I : Inv X pins σ H s) : Env0 X.prog X.w X.K X.mg X.base X.A X.stack s H :=
  ⟨I.ok.frames, I.ok.mod, I.bs, Nat.le_trans I.ok.bsz I.sz, I.stack, I.stkFree, I.hok, I.bare⟩

theorem Inv.after {Q : VK} {u : Value} (I : Inv X pins σ H s) (h : CE X.stack X.prog X.w H s Q u s') : EP X pins σ Q u s' := by
  obtain ⟨v, H', os, bare, un, hok, r, q⟩ := h
  obtain ⟨hh, g, d, t, os'⟩ := s'
  obtain rfl : os' = s.os := os
  exact ⟨v, H', I.call (h' := hh) (g' := g) (d' := d) (t' := t) (ch := []) un hok bare (fun b z => absurd z (by simp)), r, q⟩
end



def tCall (sp : Sp) (dvs : List V) (E : XK) (t : TA) : TE := fun σ H Q => t σ H fun vs H1 => sp (vs ++ dvs) H1 Q E

def Binds (K : PySem.W.Frag) (fd : FuncData) (ps : List Str) (ds : List Value) : Prop :=
  ∀ (s : Shared) (us : List Value), K.In s.heap → (us ++ ds).length = ps.length → BindsTo s fd ⟨us, []⟩ (ps.zip (us ++ ds))

theorem Binds.all {K : PySem.W.Frag} {fd : FuncData} {ps : List Str} (h : ∀ us : List Value, us.length = ps.length → bindArgs fd ⟨us, []⟩ = pure (ps.zip us)) : Binds K fd ps [] := fun s us _ hl => by
  rw [List.append_nil] at hl ⊢
  exact .of_eq (h us hl)


def Passes (CX : CXT) (X : Cx) (E : XK) : Prop := ∀ (pins : List (Addr × Obj)) (σ : St) (H : Hp) (s : Shared) (e : Value) (s' : Shared), Inv X pins σ H s → CX X.stack H s E e s' → X.xe e s'

section
variable {X : Cx} {CX : CXT} {k : Nat} {f C : Addr} {fd : FuncData} {ps : List Str} {sp : Sp} {dvs : List V} {ds : List Value} {E : XK} {x m : Str} {p pos apos : Pos} {e o : Expr} {es : List Expr} {ta : TE} {t : TA}


theorem run_fn {pins : List (Addr × Obj)} {σ : St} {H : Hp} {s : Shared} {Q : VK} {us : List Value} {vs : List V} (F : FnOk X.prog X.w X.K X.mg X.base CX k f fd ps sp) (hr : Room k X.A) (hb : Binds X.K fd ps ds) (hd : Vals dvs ds) (hx : Passes CX X E)
    (I : Inv X pins σ H s) (r : Vals vs us) (h : sp (vs ++ dvs) H Q E) : wpAny (model X.prog X.w) X.A (call (.ref f) us) (EP X pins σ Q) X.xe s := by
  have r2 : Vals (vs ++ dvs) (us ++ ds) := r.append hd
  have hl : (us ++ ds).length = ps.length := by rw [← r2.length]; exact F.len _ _ _ _ h
  refine wpAny_call (codeAny_mono (F.run X.A X.stack s H ⟨us, []⟩ (us ++ ds) (vs ++ dvs) Q E hr I.env0 (hb s us I.kIn hl) r2 h) fun r s' hq => ?_)
  cases r with
  | error e => exact hx pins σ H s e s' I hq
  | ok fl =>
    cases fl with
    | ret u => exact I.after hq
    | next => exact False.elim hq
    | brk => exact False.elim hq
    | cont => exact False.elim hq

theorem pe_call (F : FnOk X.prog X.w X.K X.mg X.base CX k f fd ps sp) (hr : Room k X.A) (hg : Gl X x) (hm : X.mg x = some (.ref f)) (hk : PySem.W.keepIn X.K (.ref f) = true) (hb : Binds X.K fd ps ds) (hd : Vals dvs ds) (hx : Passes CX X E)
    (ha : PA X (e :: es) t) (hdb : (x == ("__debug__" : Str)) = false := by decide) (he : starEach (e :: es) X.env = (false, eval e X.env) :: starEach es X.env := by rfl) (hpl : (backTo pos (starEach es X.env)).any (·.1) = false := by rfl) :
    PE X (.Call (.Name x p) (e :: es) [] pos) (tCall sp dvs E t) := by
  intro pins s σ H Q I h
  refine wpAny_Call_Name_kw (ld_glob I hg hm ?_ hdb)
  refine PySem.W.callWith_K (h₀ := X.base) I.ok.mod.kin hk (thn (ha pos pins s σ H _ I h) fun us s1 ⟨vs, H1, I1, r, q⟩ => ⟨I1.kIn, ?_⟩) he hpl
  exact run_fn F hr hb hd hx I1 r q
end



section
variable {X : Cx} {CX : CXT} {k : Nat} {f C : Addr} {fd : FuncData} {ps ks : List Str} {sp : Sp} {E : XK} {x m : Str} {p pos apos kpos : Pos} {e o : Expr} {es : List Expr} {kws : List Keyword} {te ta : TE} {t tk : TA} {nm : Option Str}
variable {g : List Value → List Value → List Value} {gV : List V → List V → List V}
end



structure FnScope (N P : List Str) (sc : Scope) : Prop where
  kind : sc.kind = .function
  co : sc.isCoroutine = false
  gen : sc.isGenerator = false
  nd : N.Nodup
  pre : N.take P.length = P
  par : ∀ x ∈ P, sc.names.lookup x = some .local ∨ sc.names.lookup x = some .cell
  nofree : ∀ y ∈ sc.names, y.2 ≠ .free

theorem bindL_out {kindOf : Str → Option NameKind} {x : Str} : ∀ {binds : List (Str × Value)} {m : Str → Option Value}, (∀ v, (x, v) ∉ binds) → bindL kindOf binds m x = m x
  | [], _, _ => rfl
  | (n, v) :: r, m, h => by
    unfold bindL
    rw [bindL_out fun w hw => h w (List.mem_cons_of_mem _ hw)]
    split
    · have : x ≠ n := by rintro rfl; exact h v List.mem_cons_self
      simp [this]
    · rfl
theorem bindC_out {kindOf : Str → Option NameKind} {x : Str} : ∀ {binds : List (Str × Value)} {m : Str → Option Value}, (∀ v, (x, v) ∉ binds) → bindC kindOf binds m x = m x
  | [], _, _ => rfl
  | (n, v) :: r, m, h => by
    unfold bindC
    rw [bindC_out fun w hw => h w (List.mem_cons_of_mem _ hw)]
    split
    · rfl
    · have : x ≠ n := by rintro rfl; exact h v List.mem_cons_self
      simp [this]
theorem bindL_get {kindOf : Str → Option NameKind} {x : Str} {v : Value} : ∀ {P : List Str} {vs : List Value} {i : Nat} {m : Str → Option Value}, P.Nodup → P[i]? = some x → vs[i]? = some v → kindOf x = some .local →
    bindL kindOf (P.zip vs) m x = some v
  | [], _, _, _, _, h, _, _ => by simp at h
  | _ :: _, [], _, _, _, _, h, _ => by simp at h
  | p :: P, w :: vs, 0, m, nd, h1, h2, hk => by
    simp at h1 h2; subst h1; subst h2
    show bindL kindOf ((p, w) :: P.zip vs) m p = _
    unfold bindL
    rw [bindL_out fun v hv => (List.nodup_cons.mp nd).1 (List.of_mem_zip hv).1, if_pos hk]
    simp
  | p :: P, w :: vs, i + 1, m, nd, h1, h2, hk => by
    show bindL kindOf ((p, w) :: P.zip vs) m x = _
    unfold bindL
    exact bindL_get (i := i) (List.nodup_cons.mp nd).2 (by simpa using h1) (by simpa using h2) hk
theorem bindC_get {kindOf : Str → Option NameKind} {x : Str} {v : Value} : ∀ {P : List Str} {vs : List Value} {i : Nat} {m : Str → Option Value}, P.Nodup → P[i]? = some x → vs[i]? = some v → kindOf x ≠ some .local →
    bindC kindOf (P.zip vs) m x = some v
  | [], _, _, _, _, h, _, _ => by simp at h
  | _ :: _, [], _, _, _, _, h, _ => by simp at h
  | p :: P, w :: vs, 0, m, nd, h1, h2, hk => by
    simp at h1 h2; subst h1; subst h2
    show bindC kindOf ((p, w) :: P.zip vs) m p = _
    unfold bindC
    rw [bindC_out fun v hv => (List.nodup_cons.mp nd).1 (List.of_mem_zip hv).1, if_neg hk]
    simp
  | p :: P, w :: vs, i + 1, m, nd, h1, h2, hk => by
    show bindC kindOf ((p, w) :: P.zip vs) m x = _
    unfold bindC
    exact bindC_get (i := i) (List.nodup_cons.mp nd).2 (by simpa using h1) (by simpa using h2) hk


def start (N : List Str) (vs : List V) : St := vs.map some ++ List.replicate (N.length - vs.length) none


def cxOf (CX : CXT) (P : Program) (w : World) (K : PySem.W.Frag) (mg : Str → Option Value) (base : Heap) (N : List Str) (qual : Str) (scope : Scope) (f : Addr) (cd : Value) (A : Around) (outer : List Env) (s : Shared) (H : Hp) (E : XK) : Cx where
  prog := P
  w := w
  K := K
  mg := mg
  base := base
  A := A.deeper (envOfC qual scope s.heap.objs.size f cd)
  N := N
  s₀ := s
  H₀ := H
  env := envOfC qual scope s.heap.objs.size f cd
  outer := outer
  stack := envOfC qual scope s.heap.objs.size f cd :: outer
  ex := []
  calm := true
  fn := fun _ => true
  pn := []
  xe := fun e s' => wpAny (model P w) (A.deeper (envOfC qual scope s.heap.objs.size f cd)) (leaving (envOfC qual scope s.heap.objs.size f cd) e) (fun _ s'' => CX outer H s E e s'') (fun e' s'' => CX outer H s E e' s'') s'

theorem cell_has {sc : Scope} {n : Nat} {x : Str} (h : sc.names.lookup x = some .cell) : ∃ c, (cellsFrom n sc.names []).lookup x = some c := by
  have q := PySem.W.cellsFrom_some sc.names n [] (.inl h)
  exact Option.isSome_iff_exists.mp q

theorem inv_start {CX : CXT} {P : Program} {w : World} {K : PySem.W.Frag} {mg : Str → Option Value} {base : Heap} {N ps : List Str} {qual : Str} {scope : Scope} {f : Addr} {cd : Value} {A : Around} {outer : List Env} {s s1 : Shared} {H : Hp} {E : XK} {us : List Value} {vs : List V}
    (S : FnScope N ps scope) (hd : A.handled = none) (e0 : Env0 P w K mg base A outer s H) (hl : vs.length = ps.length) (r : Vals vs us)
    (x : InCallC s s.heap.objs.size (bindL (envOfC qual scope s.heap.objs.size f cd).kindOf (ps.zip us) fun _ => none) (cellsFrom (s.heap.objs.size + 1) scope.names []) (bindC (envOfC qual scope s.heap.objs.size f cd).kindOf (ps.zip us) fun _ => none) s1) :
    Inv (cxOf CX P w K mg base N qual scope f cd A outer s H E) [] (start N vs) H s1 := by
  have hpl : ps.length ≤ N.length := by have := congrArg List.length S.pre; rw [List.length_take] at this; omega
  obtain ⟨h1, tk, rfl, hk⟩ := x.done
  have noA : ∀ b : Addr, b ∉ (cxOf CX P w K mg base N qual scope f cd A outer s H E).ex := fun b z => absurd (show b ∈ ([] : List Addr) from z) (by simp)
  refine ⟨⟨e0.mod, S.kind, rfl, rfl, Nat.le_refl _, fun y z c h1 h2 => ?_, fun y hy => ?_, fun y c _ h => ?_, fun _ => hd, Around.frames_deeper e0.frames, .inr ⟨rfl, rfl⟩, fun b z => absurd z (noA b), e0.bs, e0.bsz, fun b _ _ => noA b, fun b z => absurd z (noA b), e0.funs, e0.frf⟩,
    rfl, e0.bare, Un.kept hk, ⟨_, x.toInCall.ns, fun i y v h1 h2 h3 => ?_⟩, fun y c h => ⟨_, x.cell y c h⟩, e0.hok.fresh (Nat.le_refl _), fun y c h => ?_, fun p hp => absurd (show p ∈ ([] : List (Addr × Obj)) from hp) (by simp), e0.hok.kept hk, ?_⟩
  · exact name_of_addr x.apart (PySem.mem_of_lookup h1) (PySem.mem_of_lookup h2)
  · have hy : scope.names.lookup y = some .cell ∨ scope.names.lookup y = some .free := hy
    rcases hy with hy | hy
    · exact cell_has hy
    · exact absurd rfl (S.nofree _ (PySem.mem_of_lookup hy))
  · exact Nat.le_of_lt (x.above y c (PySem.mem_of_lookup h))
  · have hi : i < vs.length := by
      unfold start at h2
      by_cases hi : i < vs.length
      · exact hi
      · rw [List.getElem?_append_right (by simpa using hi)] at h2
        rw [List.getElem?_replicate] at h2
        split at h2 <;> cases h2
    have ha : vs[i]? = some v := by
      unfold start at h2
      rw [List.getElem?_append_left (by simpa using hi), List.getElem?_map] at h2
      cases e : vs[i]? with
      | none => rw [e] at h2; cases h2
      | some a => rw [e] at h2; cases h2; rfl
    obtain ⟨u, hu, rv⟩ := r.get ha
    have hp : ps[i]? = some y := by
      rw [← S.pre, List.getElem?_take_of_lt (by omega)]; exact h1
    have ndP : ps.Nodup := by rw [← S.pre]; exact S.nd.sublist (List.take_sublist _ _)
    refine ⟨u, rv, ?_⟩
    rcases S.par y (List.mem_of_getElem? hp) with k | k
    · exact .inl ⟨k, bindL_get ndP hp hu k⟩
    · obtain ⟨c, e⟩ := cell_has (n := s.heap.objs.size + 1) k
      refine .inr ⟨.inl k, c, e, ?_⟩
      have q := x.cell y c e
      rw [bindC_get ndP hp hu (by show scope.names.lookup y ≠ _; rw [k]; decide)] at q
      exact q
  · exact e0.hok.fresh (Nat.le_of_lt (x.above y c (PySem.mem_of_lookup h)))
  · unfold start
    show _ = N.length
    rw [List.length_append, List.length_map, List.length_replicate]
    omega


theorem fn_of {CX : CXT} {P : Program} {w : World} {K : PySem.W.Frag} {mg : Str → Option Value} {base : Heap} {k : Nat} {f : Addr} {name qual : Str} {params : Arguments} {body : List Stmt} {scope : Scope} {dV kV doc pm cdv ct oc : Value} {an od : Option Addr}
    {osl : Array (Option Value)} {N ps : List Str} {sp : Sp} (lk : K.lookup f = some ⟨oc, od, .func (PySem.W.fnOf name qual params body scope dV kV doc pm an cdv ct), osl⟩) (hcd : PySem.W.codeIn K cdv qual = true) (S : FnScope N ps scope)
    (len : ∀ vs H Q E, sp vs H Q E → vs.length = ps.length)
    (hbody : ∀ (A : Around) (outer : List Env) (s : Shared) (H : Hp) (vs : List V) (Q : VK) (E : XK), Room k (A.deeper (envOfC qual scope s.heap.objs.size f cdv)) → sp vs H Q E →
      ∃ t, PSs (cxOf CX P w K mg base N qual scope f cdv A outer s H E) body t ∧ t { nx := fun _ H' => Q .non H', rt := Q } (start N vs) H) :
    FnOk P w K mg base CX (k + 1) f (PySem.W.fnOf name qual params body scope dV kV doc pm an cdv ct) ps sp := by
  refine ⟨len, fun A outer s H args us vs Q E hr e0 hb r hsp => ?_⟩
  have hl := len _ _ _ _ hsp
  have KX : K.In s.heap := e0.mod.kin.keeps fun b o e => (e0.bs b o e).1
  have lim : s.heap.NoLimit := e0.mod.nolimit.keeps fun b o e => (e0.bs b o e).1
  have hkind : ∀ y ∈ ps.zip us, scope.names.lookup y.1 = some .local ∨ (scope.names.lookup y.1 = some .cell ∧ ((cellsFrom (s.heap.objs.size + 1) scope.names []).lookup y.1).isSome = true) := fun ⟨n, v⟩ hy => by
    rcases S.par n (List.of_mem_zip hy).1 with q | q
    · exact .inl q
    · exact .inr ⟨q, PySem.W.cellsFrom_some _ _ _ (.inl q)⟩
  refine codeAny_call_function hr.depth (KX _ _ lk) rfl S.co S.gen rfl (PySem.W.codeRec_of KX hcd) (hb _ _ _ _ ?_)
  refine wpAny_newFunctionEnv_cells S.kind hkind fun env he s1 x => ?_
  subst he
  refine ⟨lim.keeps x.toInCall.keep, codeAny_func ?_⟩
  obtain ⟨t, ht, hq⟩ := hbody A outer s H vs Q E (hr.deeper _) hsp
  have I : Inv (cxOf CX P w K mg base N qual scope f cdv A outer s H E) [] (start N vs) H s1 := inv_start S hr.hd e0 hl r x
  refine wpAny_mono (ht [] s1 (start N vs) H _ I hq) (fun fl s' hs => ?_) fun e s' hs => hs
  have fin : ∀ {σ' : St} {H' : Hp} {v : V} {u : Value}, Inv (cxOf CX P w K mg base N qual scope f cdv A outer s H E) [] σ' H' s' → RelV v u → Q v H' → CE outer P w H s Q u s' :=
    fun {σ' H' v u} J rv q => ⟨v, H', J.os, J.bare, J.base, J.hok, rv, q⟩
  cases fl with
  | ret u =>
    obtain ⟨v, σ', H', J, rv, q⟩ := hs
    exact fin J rv q
  | next =>
    obtain ⟨σ', H', J, q⟩ := hs
    exact fin (v := V.non) (u := Value.none) J rfl q
  | brk =>
    obtain ⟨_, _, _, q⟩ := hs
    exact False.elim q
  | cont =>
    obtain ⟨_, _, _, q⟩ := hs
    exact False.elim q
end L2

namespace L2
open PySem PySem.Spec PyProof.Rows
section
variable {X : Cx} {x : Str} {p pos : Pos} {e : Expr} {es : List Expr} {t : TA} {id T : String} {r : List V → Hp → VK → Prop}

def tCB (r : List V → Hp → VK → Prop) (t : TA) : TE := fun σ H Q => t σ H fun vs H1 => r vs H1 Q

theorem pe_callB (hc : CallR X (.builtin id) r) (hg : Gl X x) (hm : X.mg x = none) (hv : bootBuiltins x = some (.builtin id)) (ha : PA X (e :: es) t) (hn : x ≠ "__name__" := by decide) (hdb : (x == ("__debug__" : Str)) = false := by decide)
    (he : starEach (e :: es) X.env = (false, eval e X.env) :: starEach es X.env := by rfl) (hpl : (backTo pos (starEach es X.env)).any (·.1) = false := by rfl) : PE X (.Call (.Name x p) (e :: es) [] pos) (tCB r t) := by
  intro pins s σ H Q I h
  refine wpAny_Call_Name_kw (ld_blt I hg hm hv ?_ hn hdb)
  exact PyProof.Rows.callWith_builtin1 (thn (ha pos pins s σ H _ I h) fun us s1 ⟨vs, H1, I1, r1, q1⟩ => hc pins s1 σ H1 vs us Q I1 r1 q1) he hpl

theorem pe_callTy (hc : CallR X (.type T) r) (hg : Gl X x) (hm : X.mg x = none) (hv : bootBuiltins x = some (.type T)) (ha : PA X (e :: es) t) (hn : x ≠ "__name__" := by decide) (hdb : (x == ("__debug__" : Str)) = false := by decide)
    (he : starEach (e :: es) X.env = (false, eval e X.env) :: starEach es X.env := by rfl) (hpl : (backTo pos (starEach es X.env)).any (·.1) = false := by rfl) : PE X (.Call (.Name x p) (e :: es) [] pos) (tCB r t) := by
  intro pins s σ H Q I h
  refine wpAny_Call_Name_kw (ld_blt I hg hm hv ?_ hn hdb)
  exact PyProof.Rows.callWith_type1 (thn (ha pos pins s σ H _ I h) fun us s1 ⟨vs, H1, I1, r1, q1⟩ => hc pins s1 σ H1 vs us Q I1 r1 q1) he hpl

end
end L2

namespace HT
open PySem PyProof.Rows


section
open PySem.SeqAt
open PySem.AutoSeq1 (wpAny_loadPart')
open PySem.MeetsSeq PySem.MeetsSeq2 PySem.MeetsSeq3

end

section
variable {prog : Program} {w : World} {A : Around} {E : Value → Shared → Prop} {s : Shared}

end
end HT

namespace L2
open PySem PySem.Spec PyProof.Rows


abbrev TO := St → Hp → (Option Int → Hp → Prop) → Prop

def PO (X : Cx) (e : Option Expr) (t : TO) : Prop :=
  ∀ (pins : List (Addr × Obj)) (s : Shared) (σ : St) (H : Hp) (Q : Option Int → Hp → Prop), Inv X pins σ H s → t σ H Q →
    wpAny (model X.prog X.w) X.A (evalPart e X.env) (fun u s' => ∃ o H', Inv X pins σ H' s' ∧ IsPart u o ∧ Q o H') X.xe s
def tNoPart : TO := fun _ H Q => Q none H
def tPart (t : TE) : TO := fun σ H Q => t σ H fun x H1 => ∃ i, x = .int i ∧ Q (some i) H1

section
variable {X : Cx} {e : Expr} {te : TE} {lo hi : Option Expr} {tl th : TO} {pos p2 : Pos}

theorem po_none : PO X none tNoPart := by
  intro pins s σ H Q I h
  rw [evalPart_none]
  exact wpAny_pure ⟨none, H, I, .none, h⟩
theorem po_some (h : PE X e te) : PO X (some e) (tPart te) := by
  intro pins s σ H Q I hw
  rw [evalPart_some]
  refine thn (h pins s σ H _ I hw) fun u s1 ⟨x, H1, I1, r1, q1⟩ => ?_
  obtain ⟨i, rfl, q⟩ := q1
  obtain ⟨t, rfl⟩ := r1
  exact ⟨some i, H1, I1, .int i t, q⟩


def SlR (X : Cx) (r : V → Option Int → Option Int → Hp → VK → Prop) : Prop :=
  ∀ (pins : List (Addr × Obj)) (s : Shared) (σ : St) (H : Hp) (x : V) (v vl vu : Value) (lo hi : Option Int) (sl : Addr) (Q : VK), Inv X pins σ H s → RelV x v → s.heap.IsSliceOf sl vl vu .none → IsPart vl lo → IsPart vu hi → r x lo hi H Q →
    ∃ T id, typeLookup (.type T) "__getitem__" = pure (some (.builtin id)) ∧ s.TypeIs v T ∧ wpAny (model X.prog X.w) X.A (getItem v (.ref sl)) (EP X pins σ Q) X.xe s
def tSl (r : V → Option Int → Option Int → Hp → VK → Prop) (te : TE) (tl th : TO) : TE := fun σ H Q => te σ H fun x H1 => tl σ H1 fun l H2 => th σ H2 fun u H3 => r x l u H3 Q

theorem pe_slice {r : V → Option Int → Option Int → Hp → VK → Prop} (hr : SlR X r) (he : PE X e te) (hl : PO X lo tl) (hu : PO X hi th) : PE X (.Subscript e (.Slice lo hi none p2) pos) (tSl r te tl th) := by
  intro pins s σ H Q I h
  refine Subscript_ (thn (he pins s σ H _ I h) fun v s1 ⟨x, H1, I1, r1, q1⟩ => ?_)
  refine wpAny_Slice (thn (hl pins s1 σ H1 _ I1 q1) fun vl s2 ⟨l, H2, I2, pl, q2⟩ => thn (hu pins s2 σ H2 _ I2 q2) fun vu s3 ⟨u, H3, I3, pu, q3⟩ => ?_)
  rw [evalPart_none]
  refine wpAny_pure ?_
  have I4 : Inv X pins σ H3 { s3 with heap := s3.heap.push { cls := .type "slice", data := .fields #[vl, vu, .none] } } := I3.kept (t' := s3.toks) fun b ob q => Heap.get?_push_of_some _ q
  obtain ⟨T, id, hT, ht, hg⟩ := hr pins { s3 with heap := s3.heap.push { cls := .type "slice", data := .fields #[vl, vu, .none] } } σ H3 x v vl vu l u s3.heap.objs.size Q I4 r1 (Heap.IsSliceOf.new ..) pl pu q3
  show wpAny (model X.prog X.w) X.A (subscriptTail e (.Slice lo hi none p2) v (.ref s3.heap.objs.size)) (EP X pins σ Q) X.xe { s3 with heap := s3.heap.push { cls := .type "slice", data := .fields #[vl, vu, .none] } }
  exact tail_any (ops := [.ref s3.heap.objs.size, v]) ht hT hg (by with_unfolding_all rfl)


end
end L2

namespace L2
open PySem PySem.Spec PyProof.Rows



def ixN (n : Nat) (i : Int) : Option Nat := if 0 ≤ i then (if i < n then some i.toNat else none) else if -(n : Int) ≤ i then some (i + n).toNat else none
def atI {α : Type} (xs : List α) (i : Int) : Option α := (ixN xs.length i).bind fun j => xs[j]?
theorem ixN_seq {n : Nat} {i : Int} {j : Nat} (h : ixN n i = some j) : seqIndex? i n = some j ∧ j < n ∧ -(n : Int) ≤ i ∧ i < n := by
  unfold ixN at h
  by_cases h0 : 0 ≤ i
  · rw [if_pos h0] at h
    by_cases h1 : i < n
    · rw [if_pos h1] at h
      have e : i.toNat = j := Option.some.inj h
      exact ⟨by rw [seqIndex_of h0 h1, e], by omega, by omega, h1⟩
    · rw [if_neg h1] at h; cases h
  · rw [if_neg h0] at h
    by_cases h1 : -(n : Int) ≤ i
    · rw [if_pos h1] at h
      have e : (i + n).toNat = j := Option.some.inj h
      exact ⟨by rw [seqIndex_neg (by omega) h1, e], by omega, h1, by omega⟩
    · rw [if_neg h1] at h; cases h
theorem atI_get {α : Type} {xs : List α} {i : Int} {v : α} (h : atI xs i = some v) : ∃ j, seqIndex? i xs.length = some j ∧ xs[j]? = some v ∧ j < xs.length ∧ -(xs.length : Int) ≤ i ∧ i < xs.length := by
  unfold atI at h
  cases e : ixN xs.length i with
  | none => rw [e] at h; cases h
  | some j =>
    rw [e] at h
    obtain ⟨h1, h2, h3, h4⟩ := ixN_seq e
    exact ⟨j, h1, h, h2, h3, h4⟩
theorem atI_nat {α : Type} {xs : List α} {j : Nat} {v : α} (h : xs[j]? = some v) : atI xs (j : Int) = some v := by
  have hj : j < xs.length := (List.getElem?_eq_some_iff.mp h).1
  have e : ixN xs.length (j : Int) = some j := by
    unfold ixN
    rw [if_pos (by omega), if_pos (by omega)]; simp
  unfold atI; rw [e]; exact h
def PlainIx (b : Expr) : Prop := ∀ o i, subscripted b false o i = operate [o, i] (getItem o i)

def IxR (X : Cx) (r : R2) : Prop :=
  ∀ (value slice : Expr) (pins : List (Addr × Obj)) (s : Shared) (σ : St) (H : Hp) (x y : V) (v u : Value) (Q : VK), Inv X pins σ H s → RelV x v → RelV y u → r x y H Q →
    subscripted slice false v u = operate [v, u] (getItem v u) → wpAny (model X.prog X.w) X.A (subscriptTail value slice v u) (EP X pins σ Q) X.xe s

def MtR (X : Cx) (id : String) (r : V → List V → Hp → VK → Prop) : Prop :=
  ∀ (pins : List (Addr × Obj)) (s : Shared) (σ : St) (H : Hp) (x : V) (xs : List V) (v : Value) (us : List Value) (Q : VK), Inv X pins σ H s → RelV x v → Vals xs us → r x xs H Q →
    wpAny (model X.prog X.w) X.A (call (.builtin id) (v :: us)) (EP X pins σ Q) X.xe s
section
variable {X : Cx} {a b : Expr} {ta tb : TE} {pos : Pos}
theorem pe_ix {r : R2} (hr : IxR X r) (ha : PE X a ta) (hb : PE X b tb) (hs : PlainIx b) : PE X (.Subscript a b pos) (tOp r ta tb) := by
  intro pins s σ H Q I h
  exact Subscript_ (binT ha hb I h fun v u s2 x y H2 I2 rx ry q => hr a b pins s2 σ H2 x y v u Q I2 rx ry q (hs _ _))

def rIxL (K : PySem.W.Frag) : R2 := fun x y H Q => ∃ p xs i v, x = .ref p ∧ y = .int i ∧ SqL K H p xs ∧ atI xs i = some v ∧ Q v H
def rIxT (K : PySem.W.Frag) : R2 := fun x y H Q => ∃ p xs i v, x = .ref p ∧ y = .int i ∧ SqT K H p xs ∧ atI xs i = some v ∧ Q v H
def rIxS : R2 := fun x y H Q => ∃ z i c, x = .str z ∧ y = .int i ∧ z.length ≤ sizeLine ∧ atI z.cps.toList i = some c ∧ Q (.str ⟨#[c]⟩) H
theorem ix_list : IxR X (rIxL X.K) := by
  intro value slice pins s σ H x y v u Q I rx ry h hs
  obtain ⟨p, xs, i, z, rfl, rfl, hq, he, q⟩ := h
  cases rx
  obtain ⟨t, rfl⟩ := ry
  obtain ⟨its, r, pl, hz⟩ := I.list hq
  obtain ⟨j, h1, h2, h3, h4, h5⟩ := atI_get he
  obtain ⟨w, ew, rw'⟩ := r.get h2
  have hl := r.length
  have hn := line63
  have fin : EP X pins σ Q w s := ⟨z, H, I, rw', q⟩
  by_cases h0 : 0 ≤ i
  · have hj : i.toNat = j := by
      rw [seqIndex_of h0 h5] at h1
      exact Option.some.inj h1
    exact item_listR pl.isList h0 (by omega) (by rw [hj]; simpa using ew) fin hs
  · have hj : (i + (its.toArray.size : Int)).toNat = j := by
      rw [seqIndex_neg (by omega) h4] at h1
      rw [List.size_toArray, ← hl]
      exact Option.some.inj h1
    exact subscriptTail_builtinR (x := w) pl.isList.typeIs slot_list_getitem.lookup
      (wpAny_getItem_list_neg (Q := fun r s' => r = w ∧ EP X pins σ Q r s') pl.isList (by omega) (by rw [List.size_toArray] <;> omega) (by omega) (by rw [hj]; simpa using ew) ⟨rfl, fin⟩) hs
theorem ix_tup : IxR X (rIxT X.K) := by
  intro value slice pins s σ H x y v u Q I rx ry h hs
  obtain ⟨p, xs, i, z, rfl, rfl, hq, he, q⟩ := h
  cases rx
  obtain ⟨t, rfl⟩ := ry
  obtain ⟨its, r, pl, hz⟩ := I.tuple hq
  obtain ⟨j, h1, h2, h3, h4, h5⟩ := atI_get he
  obtain ⟨w, ew, rw'⟩ := r.get h2
  have hl := r.length
  have hn := line63
  have fin : EP X pins σ Q w s := ⟨z, H, I, rw', q⟩
  exact subscriptTail_builtinR (x := w) pl.typeIs slot_tuple_getitem.lookup
    (getItem_tuple (j := j) (Q := fun r s' => r = w ∧ EP X pins σ Q r s') pl (by omega) (by omega) (by rw [List.size_toArray, ← hl]; exact h1) (by simpa using ew) ⟨rfl, fin⟩) hs
theorem ix_str : IxR X rIxS := by
  intro value slice pins s σ H x y v u Q I rx ry h hs
  obtain ⟨z, i, c, rfl, rfl, hz, he, q⟩ := h
  obtain ⟨t, rfl⟩ := rx
  obtain ⟨t', rfl⟩ := ry
  obtain ⟨j, h1, h2, h3, h4, h5⟩ := atI_get he
  have hl : z.cps.toList.length = z.length := by simp [Str.length]
  rw [hl] at h1 h4 h5
  have hn := line63
  exact tail_any (typeIs_str s z t) slot_str_getitem.lookup (getItem_str (c := c) (by
    have e1 : decide (i < -(2 ^ 63 : Int)) = false := decide_eq_false (by omega)
    have e2 : decide (i ≥ 2 ^ 63) = false := decide_eq_false (by omega)
    rw [e1, e2, Bool.or_false]) (by rw [h1]; simpa using h2) ⟨.str ⟨#[c]⟩, H, I.tok _, ⟨_, rfl⟩, q⟩) hs

theorem mapSeq_set (its : List Value) (n j : Nat) (u : Value) : Obj.mapSeq (·.setIfInBounds j u) { cls := .type "list", data := .seq its.toArray n } = { cls := .type "list", data := .seq (its.set j u).toArray n } := by
  simp [Obj.mapSeq]
theorem Inv.lst {pins : List (Addr × Obj)} {σ : St} {H : Hp} {s : Shared} {p : Addr} {xs : List V} (I : Inv X pins σ H s) (h : H p = some (.lst xs)) :
    ∃ (its : List Value) (n : Nat), Vals xs its ∧ s.heap.get? p = some { cls := .type "list", data := .seq its.toArray n } ∧ xs.length ≤ sizeLine := by
  obtain ⟨z, its, n, r, e⟩ := I.hok p _ h
  exact ⟨its, n, r, e, z⟩

theorem Inv.lstUpd {pins : List (Addr × Obj)} {σ : St} {H : Hp} {s : Shared} {p : Addr} {xs ys : List V} {its its' : List Value} {n n' : Nat} {f : Obj → Obj} (I : Inv X pins σ H s) (h : H p = some (.lst xs))
    (ho : s.heap.get? p = some { cls := .type "list", data := .seq its.toArray n }) (hf : f { cls := .type "list", data := .seq its.toArray n } = { cls := .type "list", data := .seq its'.toArray n' }) (r : Vals ys its') (hz : ys.length ≤ sizeLine) (t : Nat) :
    Inv X pins σ (upd H p (.lst ys)) { s with heap := s.heap.update p f, toks := t } := by
  have e : (s.heap.update p f).get? p = some { cls := .type "list", data := .seq its'.toArray n' } := by
    rw [Heap.get?_update_self f ho (by rw [hf] <;> rfl), hf]
  refine I.write (x := p) (e := p) (by rw [h]; trivial) (.inl rfl) (fun b u hb q => (Heap.get?_update_other _ _ (Ne.symm hb)).trans q) ⟨_, e⟩ ?_
  exact ⟨hz, its', n', r, e⟩
def rSetL : V → V → V → Hp → (Hp → Prop) → Prop := fun o i v H Q => ∃ p xs k j, o = .ref p ∧ i = .int k ∧ H p = some (.lst xs) ∧ ixN xs.length k = some j ∧ Q (upd H p (.lst (xs.set j v)))
theorem set_list : PSet X rSetL := by
  intro pins s σ H o i v ov iv u Q I ro ri rv h
  obtain ⟨p, xs, k, j, rfl, rfl, hp, hj, q⟩ := h
  cases ro
  obtain ⟨t, rfl⟩ := ri
  obtain ⟨its, n, r, ho, hz⟩ := I.lst hp
  obtain ⟨h1, h2, h3, h4⟩ := ixN_seq hj
  have hl := r.length
  have hn := line63
  have I' : Inv X pins σ (upd H p (.lst (xs.set j v))) { s with heap := s.heap.update p (Obj.mapSeq (·.setIfInBounds j u)) } :=
    I.lstUpd hp ho (mapSeq_set its n j u) (r.set rv j) (by rw [List.length_set]; exact hz) s.toks
  by_cases h0 : 0 ≤ k
  · have hk : k.toNat = j := by
      rw [seqIndex_of h0 h4] at h1
      exact Option.some.inj h1
    exact PySem.W.ki_setAt ho h0 (by omega) (by rw [List.size_toArray, ← hl]; exact h4) (by rw [hk]; exact ⟨_, I', q⟩)
  · have hk : (k + (its.toArray.size : Int)).toNat = j := by
      rw [seqIndex_neg (by omega) h3] at h1
      rw [List.size_toArray, ← hl]
      exact Option.some.inj h1
    exact PySem.W.ki_setBack ho (by omega) (by rw [List.size_toArray, ← hl]; exact h3) (by omega) (by rw [hk]; exact ⟨_, I', q⟩)


def flatV : V → Bool
  | .non => true
  | .bl _ => true
  | .int _ => true
  | .str _ => true
  | _ => false

def eqV : V → V → Bool
  | .non, .non => true
  | .bl a, .bl b => a == b
  | .bl a, .int b => (if a then 1 else 0) == b
  | .int a, .bl b => a == (if b then 1 else 0)
  | .int a, .int b => a == b
  | .str a, .str b => a == b
  | _, _ => false
theorem eqAt_V {A : Around} {s : Shared} {y x : V} {u v : Value} (ry : RelV y u) (rx : RelV x v) (fy : flatV y = true) (fx : flatV x = true) : SeqAt.EqAt A s u v (eqV y x) := by
  cases y with
  | non =>
    cases ry
    cases x with
    | non => cases rx; exact SeqAt.EqAt.same _
    | bl b => cases rx; exact SeqAt.EqAt.none_bool b
    | int b => obtain ⟨t, rfl⟩ := rx; exact SeqAt.EqAt.none_int b t
    | str b => obtain ⟨t, rfl⟩ := rx; exact SeqAt.EqAt.none_str b t
    | _ => exact absurd (show false = true from fx) Bool.false_ne_true
  | bl a =>
    cases ry
    cases x with
    | non => cases rx; exact SeqAt.EqAt.bool_none a
    | bl b => cases rx; exact SeqAt.EqAt.bool_bool a b
    | int b => obtain ⟨t, rfl⟩ := rx; exact SeqAt.EqAt.bool_int a b t
    | str b => obtain ⟨t, rfl⟩ := rx; exact SeqAt.EqAt.bool_str a b t
    | _ => exact absurd (show false = true from fx) Bool.false_ne_true
  | int a =>
    obtain ⟨t', rfl⟩ := ry
    cases x with
    | non => cases rx; exact SeqAt.EqAt.int_none a t'
    | bl b => cases rx; exact SeqAt.EqAt.int_bool a t' b
    | int b => obtain ⟨t, rfl⟩ := rx; exact SeqAt.EqAt.int_int a t' b t
    | str b => obtain ⟨t, rfl⟩ := rx; exact SeqAt.EqAt.int_str a t' b t
    | _ => exact absurd (show false = true from fx) Bool.false_ne_true
  | str a =>
    obtain ⟨t', rfl⟩ := ry
    cases x with
    | non => cases rx; exact SeqAt.EqAt.str_none a t'
    | bl b => cases rx; exact SeqAt.EqAt.str_bool a t' b
    | int b => obtain ⟨t, rfl⟩ := rx; exact SeqAt.EqAt.str_int a t' b t
    | str b => obtain ⟨t, rfl⟩ := rx; exact SeqAt.EqAt.str_str a t' b t
    | _ => exact absurd (show false = true from fx) Bool.false_ne_true
  | _ => exact absurd (show false = true from fy) Bool.false_ne_true

def eqU (x : V) (u : Value) : Bool := match u with
  | .none => eqV .non x
  | .bool b => eqV (.bl b) x
  | .int i _ => eqV (.int i) x
  | .str z _ => eqV (.str z) x
  | _ => false
theorem eqU_of {x y : V} {u : Value} (r : RelV y u) (f : flatV y = true) : eqU x u = eqV y x := by
  cases y with
  | non => cases r; rfl
  | bl b => cases r; rfl
  | int i => obtain ⟨t, rfl⟩ := r; rfl
  | str z => obtain ⟨t, rfl⟩ := r; rfl
  | _ => exact absurd (show false = true from f) Bool.false_ne_true
theorem mem_eqAt {A : Around} {s : Shared} {x : V} {v : Value} (rx : RelV x v) (fx : flatV x = true) : ∀ {xs : List V} {us : List Value}, Vals xs us → xs.all flatV = true → ∀ u ∈ us, SeqAt.EqAt A s u v (eqU x u)
  | _, _, .nil, _ => fun u hu => by cases hu
  | y :: xs, u :: us, .cons r t, f => fun u' hu => by
    rw [List.all_cons, Bool.and_eq_true] at f
    rcases List.mem_cons.mp hu with rfl | hu
    · rw [eqU_of r f.1]; exact eqAt_V r rx f.1 fx
    · exact mem_eqAt rx fx t f.2 u' hu
theorem call_list_of : CallR X (.type "list") (fun xs H Q => ∃ p ys, xs = [.ref p] ∧ (SqL X.K H p ys ∨ SqT X.K H p ys) ∧ ∀ l, H l = none → Q (.ref l) (upd H l (.lst ys))) := by
  intro pins s σ H xs us Q I r h
  obtain ⟨p, ys, rfl, hq, q⟩ := h
  obtain ⟨u, rfl, rx⟩ := vals1 r
  cases rx
  have fin : ∀ (its : List Value), Vals ys its → ys.length ≤ sizeLine → ∀ (h' : Heap) (c' : Nat), (∀ b o', s.heap.get? b = some o' → h'.get? b = some o') →
      h'.get? s.heap.objs.size = some { cls := .type "list", dict := none, data := .seq its.toArray c', slots := #[] } → EP X pins σ Q (.ref s.heap.objs.size) { s with heap := h' } := fun its r' hz h' c' kp e =>
    ⟨.ref s.heap.objs.size, _, I.laid (t' := s.toks) kp (Nat.le_refl _) (show ObjOk X.prog X.w _ h' _ (.lst ys) from ⟨hz, its, c', r', e⟩), rfl, q _ (I.hok.fresh (Nat.le_refl _))⟩
  rcases hq with hq | hq
  · obtain ⟨its, r', pl, hz⟩ := I.list hq
    have hlen := r'.length
    obtain ⟨o, ho, hc, n, hd⟩ := pl.isList
    exact call_list_seq p (.inl rfl) ho hc hd (fun h' c' kp e => fin its r' hz h' c' kp e) (by simp only [List.size_toArray] <;> omega)
  · obtain ⟨its, r', pl, hz⟩ := I.tuple hq
    have hlen := r'.length
    obtain ⟨o, ho, hc, n, hd⟩ := pl
    exact call_list_seq p (.inr rfl) ho hc hd (fun h' c' kp e => fin its r' hz h' c' kp e) (by simp only [List.size_toArray] <;> omega)
theorem call_tuple_of : CallR X (.type "tuple") (fun xs H Q => ∃ p ys, xs = [.ref p] ∧ ((SqL X.K H p ys ∧ ∀ l, H l = none → Q (.ref l) (upd H l (.tup ys))) ∨ (SqT X.K H p ys ∧ Q (.ref p) H))) := by
  intro pins s σ H xs us Q I r h
  obtain ⟨p, ys, rfl, h⟩ := h
  obtain ⟨u, rfl, rx⟩ := vals1 r
  cases rx
  rcases h with ⟨hq, q⟩ | ⟨hq, q⟩
  · obtain ⟨its, r', pl, hz⟩ := I.list hq
    have hlen := r'.length
    refine call_tuple_list pl.isList (fun h' kp => ?_) (by simp only [List.size_toArray] <;> omega)
    have I1 : Inv X pins σ H { s with heap := h' } := I.kept (t' := s.toks) kp
    have I2 : Inv X pins σ (upd H h'.objs.size (.tup ys)) { s with heap := h'.push { cls := .type "tuple", data := .seq its.toArray } } :=
      I1.laid (t' := s.toks) (fun b o e => Heap.get?_push_of_some _ e) (Nat.le_refl _) (show ObjOk X.prog X.w _ _ _ (.tup ys) from ⟨hz, its, r', IsTup.new _ _⟩)
    exact ⟨.ref h'.objs.size, _, I2, rfl, q _ (I1.hok.fresh (Nat.le_refl _))⟩
  · obtain ⟨its, r', pl, hz⟩ := I.tuple hq
    exact call_tuple_same pl ⟨.ref p, H, I, rfl, q⟩



def tyV (K : PySem.W.Frag) (T : String) (x : V) (H : Hp) : Prop := match x with
  | .str _ => T = "str"
  | .int _ => T = "int"
  | .ref p => (T = "list" ∧ ∃ xs, SqL K H p xs) ∨ (T = "tuple" ∧ ∃ o, K.lookup p = some o ∧ o.cls = .type "tuple" ∧ o.dict = none) ∨
      (T = "dict" ∧ ((∃ kvs, H p = some (.dK kvs)) ∨ ∃ kvs, H p = some (.dT kvs))) ∨ (T = "set" ∧ ∃ S n, H p = some (.set S n))
  | _ => False
theorem tyV_is {pins : List (Addr × Obj)} {σ : St} {H : Hp} {s : Shared} {T : String} {x : V} {v : Value} (I : Inv X pins σ H s) (r : RelV x v) (ty : tyV X.K T x H) :
    s.TypeIs v T ∧ ∀ a, v = .ref a → ∃ ob, s.heap.get? a = some ob ∧ ob.dict = none := by
  cases x with
  | str z =>
    obtain ⟨t, rfl⟩ := r
    cases (show T = "str" from ty)
    exact ⟨typeIs_str s z t, fun _ e => nomatch e⟩
  | int i =>
    obtain ⟨t, rfl⟩ := r
    cases (show T = "int" from ty)
    exact ⟨typeIs_int s i t, fun _ e => nomatch e⟩
  | ref p =>
    cases r
    rcases ty with ⟨rfl, xs, hq⟩ | ⟨rfl, o, hk, hc, hd⟩ | ⟨rfl, hk⟩ | ⟨rfl, S, n, hk⟩
    · obtain ⟨its, _, pl, _⟩ := I.list hq
      refine ⟨pl.isList.typeIs, fun a e => ?_⟩
      cases e
      obtain ⟨o, n, e, c, hd, _⟩ := pl
      exact ⟨o, e, hd⟩
    · refine ⟨⟨o, I.kIn p o hk, hc⟩, fun a e => ?_⟩
      cases e
      exact ⟨o, I.kIn _ o hk, hd⟩
    · have z : ∃ o, s.heap.get? p = some o ∧ o.ExactDict := by
        rcases hk with ⟨kvs, hk⟩ | ⟨kvs, hk⟩
        · obtain ⟨_, _, _, _, o, _, _, e, ex, _⟩ := I.hok p _ hk
          exact ⟨o, e, ex⟩
        · obtain ⟨_, _, _, _, o, _, _, e, ex, _⟩ := I.hok p _ hk
          exact ⟨o, e, ex⟩
      obtain ⟨o, e, ex⟩ := z
      refine ⟨⟨o, e, ex.1⟩, fun a e2 => ?_⟩
      cases e2
      exact ⟨o, e, ex.2.1⟩
    · obtain ⟨o, _, _, _, e, ex, _⟩ := I.hok p _ hk
      refine ⟨⟨o, e, ex.1⟩, fun a e2 => ?_⟩
      cases e2
      exact ⟨o, e, ex.2.1⟩
  | _ => exact False.elim ty
def tBM (K : PySem.W.Frag) (T : String) (r : V → List V → Hp → VK → Prop) (to : TE) (t : TA) : TE := fun σ H Q => to σ H fun x H1 => tyV K T x H1 ∧ t σ H1 fun xs H2 => r x xs H2 Q
variable {o e : Expr} {es : List Expr} {to : TE} {t : TA} {name : Str} {apos cpos : Pos} {T id : String} {r : V → List V → Hp → VK → Prop}
theorem pe_bm (pa : PlainAttrs T) (slot : Slot T name id) (hty : typeOf (.builtin id) = pure (.type "method_descriptor")) (hm : MtR X id r) (ho : PE X o to) (ha : PA X (e :: es) t)
    (hbase : attributeBase o name X.env (eval o X.env) = eval o X.env := by rfl)
    (hfew : ((backTo cpos (starEach (e :: es) X.env)).all (fun x => !x.1) && (backToKw cpos (keywordEach [] X.env)).all (fun x => x.1.isSome)
      && decide ((e :: es).length + ([] : List Keyword).length + (if ([] : List Keyword).isEmpty then 0 else 1) < 30)) = true := by rfl)
    (hline : (apos.endLine == cpos.line) = true := by rfl) (hs : starEach (e :: es) X.env = (false, eval e X.env) :: starEach es X.env := by rfl) (hplain : (backTo cpos (starEach es X.env)).any (·.1) = false := by rfl) :
    PE X (.Call (.Attribute o name apos) (e :: es) [] cpos) (tBM X.K T r to t) := by
  intro pins s σ H Q I h
  refine wpAny_Call_method_late hbase hfew hline rfl (thn (ho pins s σ H _ I h) fun v s1 ⟨x, H1, I1, r1, ty, q1⟩ => ?_)
  obtain ⟨h1, h2⟩ := tyV_is I1 r1 ty
  refine ⟨T, id, pa, slot, hty, h1, h2, ?_⟩
  have hA := ha cpos pins s1 σ H1 _ I1 q1
  rw [hs] at hA ⊢
  refine Calls.callWith_builtin (by show (false || (backTo cpos (starEach es X.env)).any (·.1)) = false; rw [hplain] <;> rfl) (Calls.evalArgs_plain ?_)
  exact thn hA fun us s2 ⟨vs, H2, I2, r2, q2⟩ => hm pins s2 σ H2 x vs v us Q I2 r1 r2 q2

end
end L2

namespace L2
open PySem PySem.Spec PyProof.Rows

def MtM (X : Cx) (id : String) (r : V → List V → Hp → VK → Prop) : Prop :=
  ∀ (pins : List (Addr × Obj)) (s : Shared) (σ : St) (H : Hp) (x : V) (xs : List V) (v : Value) (us : List Value) (Q : VK), Inv X pins σ H s → RelV x v → Vals xs us → r x xs H Q →
    wpAny (model X.prog X.w) X.A (call (.builtin id) (v :: us)) (EP X pins σ Q) X.xe s


theorem Vals.one : ∀ {x : V} {us : List Value}, Vals [x] us → ∃ u, us = [u] ∧ RelV x u
  | _, _, .cons r .nil => ⟨_, rfl, r⟩
theorem Vals.rep {xs : List V} {us : List Value} (h : Vals xs us) : ∀ k : Nat, Vals (List.replicate k xs).flatten (List.replicate k us).flatten
  | 0 => .nil
  | k + 1 => by
    rw [List.replicate_succ, List.replicate_succ, List.flatten_cons, List.flatten_cons]
    exact Vals.append h (Vals.rep h k)
theorem foldl_rep (its : List Value) : ∀ (k : Nat) (acc : List Value),
    List.foldl (fun x1 x2 => x1 ++ x2) acc.toArray (List.replicate k its.toArray) = (acc ++ (List.replicate k its).flatten).toArray
  | 0, acc => by simp
  | k + 1, acc => by
    have e : acc.toArray ++ its.toArray = (acc ++ its).toArray := by simp
    have e2 : (acc ++ its) ++ (List.replicate k its).flatten = acc ++ (List.replicate (k + 1) its).flatten := by
      rw [List.replicate_succ, List.flatten_cons, List.append_assoc]
    rw [← e2, ← foldl_rep its k (acc ++ its), ← e, List.replicate_succ, List.foldl_cons]

section
variable {X : Cx} {pins : List (Addr × Obj)} {σ : St} {H : Hp} {s : Shared} {l b : Addr} {xs ys zs : List V}


theorem Inv.lset {its its' : List Value} {n : Nat} {f : Array Value → Array Value} {t' : Nat} (I : Inv X pins σ H s) (hH : H l = some (.lst xs))
    (e : s.heap.get? l = some { cls := .type "list", data := .seq its.toArray n }) (hf : f its.toArray = its'.toArray) (hv : Vals ys its') (hz : ys.length ≤ sizeLine) :
    Inv X pins σ (upd H l (.lst ys)) { s with heap := s.heap.update l (Obj.mapSeq f), toks := t' } := by
  have q := PySem.IsL.update e f
  rw [hf] at q
  refine I.write (x := l) (e := l) (by rw [hH]; exact trivial) (.inl rfl) (fun b' u hb hu => (Heap.get?_update_other s.heap (Obj.mapSeq f) (Ne.symm hb)).trans hu) ⟨_, q⟩ ?_
  exact ⟨hz, its', _, hv, q⟩
theorem Inv.lnew {its : List Value} {t' : Nat} (I : Inv X pins σ H s) (hv : Vals ys its) (hz : ys.length ≤ sizeLine) :
    Inv X pins σ (upd H s.heap.objs.size (.lst ys)) { s with heap := s.heap.push { cls := .type "list", data := .seq its.toArray }, toks := t' } :=
  I.laid (fun _ _ q => Heap.get?_push_of_some _ q) (Nat.le_refl _) ⟨hz, its, 0, hv, Heap.get?_push_size _ rfl⟩
theorem Inv.fresh (I : Inv X pins σ H s) : H s.heap.objs.size = none := I.hok.fresh (Nat.le_refl _)
theorem Inv.lstM (I : Inv X pins σ H s) (hH : H l = some (.lst xs)) : xs.length ≤ sizeLine ∧ ∃ (its : List Value) (n : Nat), Vals xs its ∧ xs.length = its.length ∧ s.heap.get? l = some { cls := .type "list", data := .seq its.toArray n } := by
  obtain ⟨z, its, n, r, e⟩ := I.hok l _ hH
  exact ⟨z, its, n, r, r.length, e⟩

theorem notLongL {n : Nat} (h : n ≤ sizeLine) : Builtin.List.listTooLong n = false := by
  unfold Builtin.List.listTooLong
  exact decide_eq_false (by omega)
end

section
variable {X : Cx}


def rAppend : V → List V → Hp → VK → Prop := fun x vs H Q => ∃ l xs y, x = .ref l ∧ vs = [y] ∧ H l = some (.lst xs) ∧ xs.length < sizeLine ∧ Q .non (upd H l (.lst (xs ++ [y])))
theorem mt_append : MtM X "list.append" rAppend := by
  intro pins s σ H x vs v us Q I rx rv h
  obtain ⟨l, xs, y, rfl, rfl, hH, hz, q⟩ := h
  cases rx
  obtain ⟨u, rfl, ru⟩ := rv.one
  obtain ⟨z, its, n, r, hl, e⟩ := I.lstM hH
  refine call_meets F.slot_list_append ⟨_, e, rfl⟩ F.entry_list_append (F.args_list_append_2 _ _) (PySem.list_append l its.toArray n u (by rw [List.size_toArray]; omega)) ⟨e, ?_⟩
  refine ⟨.non, _, I.lset (its' := its ++ [u]) hH e (by simp) (r.append (.cons ru .nil)) ?_, rfl, q⟩
  rw [List.length_append, List.length_singleton]
  omega

def rCat : R2 := fun x y H Q => ∃ l b xs zs, x = .ref l ∧ y = .ref b ∧ H l = some (.lst xs) ∧ H b = some (.lst zs) ∧ xs.length + zs.length ≤ sizeLine ∧ ∀ p, H p = none → Q (.ref p) (upd H p (.lst (xs ++ zs)))
theorem op_cat : OpR X (binaryOp .Add) rCat := by
  intro pins s σ H x y v u Q I rx ry h
  obtain ⟨l, b, xs, zs, rfl, rfl, hH, hB, hz, q⟩ := h
  cases rx
  cases ry
  obtain ⟨z, its, n, r, hl, e⟩ := I.lstM hH
  obtain ⟨z2, its2, n2, r2, hl2, e2⟩ := I.lstM hB
  refine PySem.P.add_list e e2 ?_ (by rw [List.size_toArray, List.size_toArray]; omega)
  have ea : its.toArray ++ its2.toArray = (its ++ its2).toArray := by simp
  rw [ea]
  exact ⟨.ref _, _, I.lnew (t' := s.toks) (r.append r2) (by rw [List.length_append]; omega), rfl, q _ I.fresh⟩

def rRep : R2 := fun x y H Q => ∃ l k xs, x = .ref l ∧ y = .int k ∧ H l = some (.lst xs) ∧ -(2 ^ 63) ≤ k ∧ k < 2 ^ 63 ∧ xs.length * k.toNat ≤ sizeLine ∧
  ∀ p, H p = none → Q (.ref p) (upd H p (.lst (List.replicate k.toNat xs).flatten))
theorem len_rep {α : Type} (xs : List α) (k : Nat) : (List.replicate k xs).flatten.length = k * xs.length := by
  induction k with
  | zero => simp
  | succ k ih => rw [List.replicate_succ, List.flatten_cons, List.length_append, ih, Nat.succ_mul, Nat.add_comm]
theorem op_rep : OpR X (binaryOp .Mult) rRep := by
  intro pins s σ H x y v u Q I rx ry h
  obtain ⟨l, k, xs, rfl, rfl, hH, h1, h2, hz, q⟩ := h
  cases rx
  obtain ⟨t, rfl⟩ := ry
  obtain ⟨z, its, n, r, hl, e⟩ := I.lstM hH
  have hlen : its.toArray.size * k.toNat ≤ sizeLine := by rw [List.size_toArray, ← hl]; exact hz
  have hcap : ¬ its.toArray.size * k.toNat > (2 ^ 63 - 1) / 8 := by
    have : (sizeLine : Nat) ≤ (2 ^ 63 - 1) / 8 := by decide
    omega
  have hfit : ¬ (!Builtin.List.listFitsIndex k) = true := by
    rw [fitsIndex_both h1 h2]
    exact Bool.false_ne_true
  have hlong : ¬ Builtin.List.listTooLong (its.toArray.size * k.toNat) = true := by
    rw [notLongL hlen]
    exact Bool.false_ne_true
  have hnew : List.foldl (fun x1 x2 => x1 ++ x2) #[] (List.replicate (if its.toArray.isEmpty = true then 0 else k.toNat) its.toArray) = (List.replicate k.toNat its).flatten.toArray := by
    have f0 : ∀ m : Nat, List.foldl (fun x1 x2 => x1 ++ x2) #[] (List.replicate m its.toArray) = (List.replicate m its).flatten.toArray := fun m => by
      have := foldl_rep its m []
      rw [List.nil_append] at this
      exact this
    rw [f0]
    cases its with
    | nil => simp
    | cons a r' => rw [if_neg (by simp)]
  refine wpAny_binaryOp_repeat_ref (T := "list") (U := "int") (by decide) ⟨_, e, rfl⟩ (fun s' => typeIs_int s' k t) noFill_list_mul F.fills_int_mul F.slot_int_rmul repeat_list F.slot_int_index.lookup
    (call_meets F.slot_int_rmul (typeIs_int s k t) F.entry_int_rmul (F.args_int_rmul_2 _ _) (int___rmul___int_list k t l its.toArray n)
      ⟨e, rfl, ⟨_, e, rfl⟩, call_meets F.slot_list_mul ⟨_, e, rfl⟩ F.entry_list_mul (F.args_list_mul_2 _ _) (AutoListH.list___mul___list_int_3 l its.toArray n k t hfit hcap hlong) ⟨e, ?_⟩⟩)
  rw [hnew]
  exact ⟨.ref _, _, I.lnew (t' := s.toks) (r.rep k.toNat) (by rw [len_rep, Nat.mul_comm]; exact hz), rfl, q _ I.fresh⟩


end


section
variable {prog : Program} {w : World} {A : Around} {E : Value → Shared → Prop} {s : Shared}
set_option maxRecDepth 100000 in

end

section
variable {X : Cx}

end
end L2

namespace Att
open PySem PySem.W PySem.Calls PyProof.Rows


theorem ints_of_wellAll {P : Params} {h : Heap} : ∀ (ns : List Int) (vs : List Value), WellAll P h vs (ns.map WData.int) → IntsAre vs ns := by
  intro ns
  induction ns with
  | nil =>
    intro vs w
    rw [List.map_nil] at w
    cases w
    exact .nil
  | cons n ns ih =>
    intro vs w
    rw [List.map_cons] at w
    cases w with
    | cons a b =>
      cases a
      exact .cons _ _ (ih _ b)

theorem script_of {l : OpenLaw} {n : Nat} (hn : l.most = some n) {P : Params} {h : Heap} {args : List WData} {vals : List Value}
    (hpre : l.row.toRowW.claim.pre args = true) (hwl : WellAll P h vals args) :
    ∃ a vs ns, vals = [Value.ref a] ∧ args = [WData.list (ns.map WData.int)] ∧ h.get? a = some { cls := .type "list", data := .seq vs.toArray } ∧ IntsAre vs ns ∧ ns.length ≤ n := by
  have hsh : WShape.hasAll [] args [.list .int] = true := (pre_splitW hpre).1
  have hc : l.pre.holds [] { args := args } = true := (pre_splitW hpre).2
  obtain ⟨d, r, rfl, h1, h2⟩ := hasAllW_cons hsh
  obtain rfl := hasAllW_nil h2
  obtain ⟨xs, rfl, h3⟩ := hasW_list h1
  obtain ⟨ns, rfl⟩ := items_int h3
  have hlen : ns.length ≤ n := by
    unfold OpenLaw.pre at hc
    have h4 : (WTm.not (.lt (.lit (.int (n : Int))) (.len (.arg 0)))).holds [] { args := [.list (ns.map .int)] } = true := by
      have h4 := (holds_andW hc).1
      rw [hn] at h4
      exact h4
    have h5 := condW_of h4 (w_not (w_lt w_lit (w_len_list (w_arg rfl))))
    rw [List.length_map] at h5
    refine Nat.le_of_not_lt fun q => ?_
    have q' : (n : Int) < ((ns.length : Nat) : Int) := by omega
    first
      | (rw [decide_eq_true q'] at h5; exact absurd h5 (by decide))
      | (simp at h5; omega)
  cases hwl with
  | cons w1 w2 =>
    cases w2
    cases w1 with
    | list ho hall => exact ⟨_, _, ns, rfl, rfl, ho, ints_of_wellAll ns _ hall, hlen⟩

theorem post_true (l : OpenLaw) (args : List WData) : l.row.toRowW.claim.post args (.bool true) args = true :=
  postW_of (r := l.row.toRowW) (X := (true == true))
    (show WShape.has [] (.bool true) .bool = true by first | rfl | decide | simp [WShape.has, WShape.arms, WShape.armsAll])
    (show (WTm.eq .res (.lit (.bool true))).value [] { args := args, res := some (.bool true), after := args } = some (.bool (true == true)) from w_eq_bool (w_res rfl) w_lit) rfl


theorem attach_call {l : OpenLaw} {n : Nat} {q : Program} {loose : List Str} {XP : (Str → Option Value) → Heap → Prop} {YP : World → Heap → Prop} {d : DefRec}
    (hn : l.most = some n) (hdf : d.params.defaults = [])
    (call : ∀ (w : World) (s₀ s₁ : Shared) (mg mb : Str → Option Value) (fa : Addr) (o : Obj) (pm cd doc : Value) (a : Addr) (vs : List Value) (ns : List Int),
      Ground q loose [] XP w s₀ mg mb s₁.heap → YP w s₁.heap →
      s₁.heap.get? fa = some o → o.data = .func (docDef d.name d.params d.body d.scope pm cd doc) → s₁.heap.CodeRec cd d.name → mg d.name = some (.ref fa) →
      s₁.heap.get? a = some { cls := .type "list", data := .seq vs.toArray } → IntsAre vs ns → ns.length ≤ n → s₁.gens = #[] →
      codeAny (model l.prog w) callerA (.call (.ref fa) ⟨[.ref a], []⟩) (fun r s' => r = .ok (.ret (.bool true)) ∧ OldK s₁.heap s'.heap ∧ s'.os = s₁.os ∧ AllBare s'.gens) s₁) :
    WalkO q loose XP YP l.row.toRowW d [] (fun f vs => PySem.call f vs) := by
  intro w s₀ s₁ mg mb G Y fa o pm cd doc dV kV ho hd hcd hD hmg hg args vals as hpre hlay hrd hwl hlo
  obtain rfl : dV = .none := Dflts.none hD hdf
  obtain rfl : kV = .none := Dflts.noKw hD
  obtain ⟨a, vs, ns, rfl, rfl, hobj, hints, hlen⟩ := script_of hn hpre hwl
  refine enter_call (codeAny_mono (call w s₀ s₁ mg mb fa o pm cd doc a vs ns G Y ho (fd_plain hd) hcd hmg hobj hints hlen hg) fun r s' hq => ?_)
  obtain ⟨rfl, h2, h3, h4⟩ := hq
  exact ⟨.inl ⟨.bool true, .bool true, [], rfl, fun _ => rfl, .bool true, post_true l _, fun _ => ⟨List.Pairwise.nil, fun _ hm => (nomatch hm)⟩⟩, h2, h3, h4⟩


section
variable {prog : Program} {w : World} {A : Around} {E : Value → Shared → Prop} {s : Shared} {K : Frag}


end
end Att

namespace L2
open PySem PySem.Spec PyProof.Rows

theorem vals_ints : ∀ {vs : List Value} {ns : List Int}, IntsAre vs ns → Vals (ns.map V.int) vs
  | _, _, .nil => .nil
  | _, _, .cons n t h => .cons ⟨t, rfl⟩ (vals_ints h)


def Only (H : Hp) : Prop := ∀ b, H b = none ∨ ∃ o xs, H b = some (.frz o (.lst xs))


theorem law_call {P : Program} {w : World} {K : PySem.W.Frag} {mg mb : Str → Option Value} {CX : CXT} {k : Nat} {fa a : Addr} {fd : FuncData} {x : Str} {sp : Sp} {s₁ : Shared} {vs : List Value} {ns : List Int}
    (KX : K.In s₁.heap) (hns : s₁.heap.Ns mainGlobals mg) (hb : s₁.heap.Ns builtinsNs mb) (hbb : ∀ x : Str, x ≠ "__name__" → mb x = bootBuiltins x) (hlim : s₁.heap.NoLimit) (hg : s₁.gens = #[])
    (ha : s₁.heap.get? a = some { cls := .type "list", data := .seq vs.toArray }) (hi : IntsAre vs ns) (hl : ns.length ≤ sizeLine) (hr : Room k callerA)
    (F : ∀ base : Heap, K.In base → base.Ns mainGlobals mg → FnOk P w K mg base CX k fa fd [x] sp) (hbind : ∀ (s : Shared) (u : Value), BindsTo s fd ⟨[u], []⟩ [(x, u)])
    (hsp : ∀ H : Hp, Only H → SqL K H a (ns.map V.int) → sp [.ref a] H (fun v _ => v = .bl true) fun _ _ _ => False)
    (hCX : ∀ H e s', CX [] H s₁ (fun _ _ _ => False) e s' → False) :
    codeAny (model P w) callerA (.call (.ref fa) ⟨[.ref a], []⟩) (fun r s' => r = .ok (.ret (.bool true)) ∧ OldK s₁.heap s'.heap ∧ s'.os = s₁.os ∧ AllBare s'.gens) s₁ := by
  have rv := vals_ints hi
  have lenV := hi.length
  -- from an abstract heap in which nothing but the script may be tracked
  have core : ∀ H : Hp, Only H → SqL K H a (ns.map V.int) → HOk P w H s₁.heap → (∀ b, H b ≠ none → b = a) → (H a ≠ none → K.lookup a = none) →
      codeAny (model P w) callerA (.call (.ref fa) ⟨[.ref a], []⟩) (fun r s' => r = .ok (.ret (.bool true)) ∧ OldK s₁.heap s'.heap ∧ s'.os = s₁.os ∧ AllBare s'.gens) s₁ := by
    intro H hO hS hok hA hK
    have base_of : ∀ {b : Addr} {o : Obj}, s₁.heap.get? b = some o → H b = none → (hidT s₁.heap H).get? b = some o := fun e n => hidT_get e n
    have noA : ∀ {b : Addr} {o : Obj} {es : Array DictEntry} {ep : Nat}, s₁.heap.get? b = some o → o.data = .dict es ep → H b = none := fun {b o es ep} e d => by
      cases q : H b with
      | none => rfl
      | some u =>
        have e' : b = a := hA b (by rw [q]; simp)
        subst e'
        rw [ha] at e; cases e
        have d' : Data.seq vs.toArray _ = Data.dict es ep := d
        cases d'
    have nsK : ∀ {b : Addr} {m : Str → Option Value}, s₁.heap.Ns b m → (hidT s₁.heap H).Ns b m := fun {b m} ⟨o, es, ep, e, d, r⟩ => ⟨o, es, ep, base_of e (noA e d), d, r⟩
    have hKb : K.In (hidT s₁.heap H) := fun b o e => base_of (KX b o e) (by
      cases q : H b with
      | none => rfl
      | some u =>
        have e' : b = a := hA b (by rw [q]; simp)
        subst e'
        rw [hK (by rw [q]; simp)] at e; cases e)
    have hM : Mod K mg (hidT s₁.heap H) := ⟨hKb, nsK hns, ⟨mb, nsK hb, hbb⟩, let ⟨mc, h1, h2⟩ := hlim; ⟨mc, nsK h1, h2⟩⟩
    have e0 : Env0 P w K mg (hidT s₁.heap H) callerA [] s₁ H := ⟨rfl, hM, fun b o e => of_hidT e, Nat.le_of_eq (hidT_size _ _), trivial, fun b hb => absurd (show b ∈ ([] : List Addr) from hb) (by simp), hok, .of_eq hg⟩
    refine codeAny_mono ((F _ hKb (nsK hns)).run callerA [] s₁ H ⟨[.ref a], []⟩ [.ref a] [.ref a] _ _ hr e0 (hbind s₁ (.ref a)) (.cons rfl .nil) (hsp H hO hS)) fun r s' h => ?_
    cases r with
    | error e => exact (hCX H e s' h).elim
    | ok fl =>
      cases fl with
      | next => exact False.elim h
      | brk => exact False.elim h
      | cont => exact False.elim h
      | ret u =>
        obtain ⟨v, H', os, bare, un, hok', r', q⟩ := h
        have q' : v = .bl true := q
        subst q'
        obtain rfl : u = Value.bool true := r'
        refine ⟨rfl, OldK.of_keep fun b o e => ?_, os, bare⟩
        cases q : H b with
        | none => exact un.keep b o e q (by intro z; exact absurd (show b ∈ ([] : List Addr) from z) (by simp)) (by simp)
        | some u =>
          rcases hO b with z | ⟨ob, xs, z⟩
          · rw [q] at z; cases z
          · have z2 := un.frzs b ob _ z
            obtain ⟨e1, _⟩ := hok b _ z
            obtain ⟨e2, _⟩ := hok' b _ z2
            rw [e] at e1; cases e1
            exact e2
  cases hk : K.lookup a with
  | some o =>
    -- the script is one of the module's own objects
    have e := KX a o hk
    rw [ha] at e
    cases e
    refine core (fun _ => none) (fun _ => .inl rfl) (.inr ⟨_, vs.toArray, _, hk, rfl, rfl, rfl, by rw [List.size_toArray, lenV]; exact hl, by simpa using rv⟩) (fun b u z => by have z' : (none : Option HO) = some u := z; cases z') (fun b z => absurd rfl z) fun z => absurd rfl z
  | none =>
    refine core (fun b => if b = a then some (.frz { cls := .type "list", data := .seq vs.toArray } (.lst (ns.map V.int))) else none) (fun b => ?_) (.inl (.inr ⟨{ cls := .type "list", data := .seq vs.toArray }, if_pos rfl⟩)) (fun b u z => ?_) (fun b z => ?_) fun _ => hk
    · by_cases hb : b = a
      · exact .inr ⟨_, _, if_pos hb⟩
      · exact .inl (if_neg hb)
    · by_cases hb : b = a
      · have z' := (if_pos hb).symm.trans z
        cases z'
        subst hb
        exact ⟨ha, by rw [List.length_map]; exact hl, vs, _, rv, ha⟩
      · have z' := (if_neg hb).symm.trans z
        cases z'
    · by_cases hb : b = a
      · exact hb
      · exact absurd (if_neg hb) z
end L2

namespace L2
open PySem PySem.Spec PyProof.Rows

theorem walk_of {l : PySem.W.OpenLaw} {n k : Nat} {q : Program} {loose : List Str} {XP : (Str → Option Value) → Heap → Prop} {YP : World → Heap → Prop} {d : DefRec} {K : Params → PySem.W.Frag} {CX : World → CXT} {sp : World → Sp} {x : Str}
    (hn : l.most = some n) (hn2 : n ≤ sizeLine) (hdf : d.params.defaults = []) (hr : Room k callerA)
    (hY : ∀ (w : World) (h : Heap), YP w h → (K w.params).In h)
    (F : ∀ (w : World) (mg : Str → Option Value) (fa : Addr) (h : Heap), (K w.params).In h → h.Ns mainGlobals mg → mg d.name = some (.ref fa) →
      ∃ fd : FuncData, (∀ (s : Shared) (u : Value), BindsTo s fd ⟨[u], []⟩ [(x, u)]) ∧
        ∀ base : Heap, (K w.params).In base → base.Ns mainGlobals mg → FnOk l.prog w (K w.params) mg base (CX w) k fa fd [x] (sp w))
    (hsp : ∀ (w : World) (H : Hp) (a : Addr) (ns : List Int), ns.length ≤ n → Only H → SqL (K w.params) H a (ns.map V.int) → sp w [.ref a] H (fun v _ => v = .bl true) fun _ _ _ => False)
    (hCX : ∀ (w : World) (H : Hp) (s : Shared) (e : Value) (s' : Shared), CX w [] H s (fun _ _ _ => False) e s' → False) :
    PySem.W.WalkO q loose XP YP l.row.toRowW d [] (fun f vs => PySem.call f vs) := by
  refine Att.attach_call hn hdf fun w s₀ s₁ mg mb fa o pm cd doc a vs ns G Y ho hd hcd hmg hobj hints hlen hg => ?_
  have KX := hY w _ Y
  obtain ⟨fd, hb, hF⟩ := F w mg fa _ KX G.T.g hmg
  exact law_call KX G.T.g G.T.b G.T.builtins G.T.nolimit hg hobj hints (Nat.le_trans hlen hn2) hr hF hb (fun H hO hS => hsp w H a ns hlen hO hS) fun H e s' => hCX w H s₁ e s'

end L2




namespace L2
open PySem PySem.Spec PyProof.Rows



def defArgs (s : Stmt) : Arguments := match s with
  | .FunctionDef _ a _ _ _ _ _ _ _ _ => a
  | _ => { posonlyargs := [], args := [], vararg := none, kwonlyargs := [], kw_defaults := [], kwarg := none, defaults := [] }
def defBody (s : Stmt) : List Stmt := match s with
  | .FunctionDef _ _ b _ _ _ _ _ _ _ => b
  | _ => []
def defScope (s : Stmt) : Scope := match s with
  | .FunctionDef _ _ _ _ _ _ sc _ _ _ => sc
  | _ => { kind := .function, names := [], isGenerator := false, isCoroutine := false }


abbrev E0 : XK := fun _ _ _ => False
section
variable {P : Program} {w : World} {K : PySem.W.Frag} {mg : Str → Option Value} {base : Heap}

end
theorem small1000 {n : Nat} (h : n ≤ 1000) : n < sizeLine := Nat.lt_of_le_of_lt h (by decide)


section
variable {X : Cx}
theorem pv (i : Nat) {x : Str} {pos : Pos} (hN : X.N[i]? = some x := by rfl) (hv : Vis X.env.scope x := by first | exact Or.inl rfl | exact Or.inr (Or.inl rfl) | exact Or.inr (Or.inr rfl)) (hd : (x == ("__debug__" : Str)) = false := by decide)
    (hcd : (x == ("__classdict__" : Str)) = false := by decide) : PE X (.Name x pos) (tVar i) := pe_var hN hv hd hcd
end


theorem iteF {A B : Prop} (h : B) : if false = true then A else B := by
  rw [if_neg Bool.false_ne_true]
  exact h
theorem iteT {A B : Prop} (h : A) : if true = true then A else B := by
  rw [if_pos rfl]
  exact h
theorem ite2 {c A B : Prop} [Decidable c] (h1 : c → A) (h2 : ¬ c → B) : if c then A else B := by
  by_cases h : c
  · rw [if_pos h]
    exact h1 h
  · rw [if_neg h]
    exact h2 h
theorem iteNS {c A B : Prop} [Decidable c] (hc : c) (h : B) : if (!decide c) = true then A else B := by
  rw [decide_eq_true hc]
  exact iteF h



def Same (H H' : Hp) : Prop := ∀ b o, H b = some o → H' b = some o
theorem Same.refl (H : Hp) : Same H H := fun _ _ h => h
theorem Same.trans {H H1 H2 : Hp} (a : Same H H1) (b : Same H1 H2) : Same H H2 := fun c o h => b c o (a c o h)
theorem Same.seq {K : PySem.W.Frag} {H H' : Hp} {a : Addr} {xs : List V} (e : Same H H') (h : SqL K H a xs) : SqL K H' a xs := by
  rcases h with (h | ⟨o, h⟩) | h
  · exact .inl (.inl (e _ _ h))
  · exact .inl (.inr ⟨o, e _ _ h⟩)
  · exact .inr h

end L2
namespace L2
open PySem PySem.Spec PyProof.Rows


section
variable {κ : Type} [DecidableEq κ]
end



section
variable {P : Program} {w : World} {H : Hp} {h : Heap} {a : Addr}
end


section
variable {X : Cx} {pins : List (Addr × Obj)} {σ : St} {H : Hp} {s : Shared} {a : Addr} {y v : V} {u r : Value} {o : Option V} {A : Around} {E : Value → Shared → Prop}

end

section
variable {X : Cx} {pins : List (Addr × Obj)} {σ : St} {H : Hp} {s : Shared} {a : Addr} {kvs : List (Key × V)} {k : Key} {u : Value} {A : Around} {E : Value → Shared → Prop}

end




section
variable {X : Cx} {o i e value : Expr} {pos pos' tpos : Pos} {td ty tv : TE}
end



section
variable {X : Cx} {pos : Pos}
end


section
variable {X : Cx} {pins : List (Addr × Obj)} {σ : St} {H : Hp} {s : Shared} {a : Addr} {y d : V} {u r : Value} {o : Option V} {A : Around} {E : Value → Shared → Prop}

end

section
variable {X : Cx} {o e f : Expr} {apos cpos : Pos} {td ty tx : TE}
end


section
variable {X : Cx} {pins : List (Addr × Obj)} {σ : St} {H : Hp} {s : Shared} {a : Addr} {kvs : List (Key × V)} {A : Around} {E : Value → Shared → Prop}
end


section
variable {X : Cx} {pins : List (Addr × Obj)} {σ : St} {H : Hp} {s : Shared} {a : Addr} {y : V} {u : Value} {A : Around} {E : Value → Shared → Prop}

end
end L2
namespace L2
open PySem PySem.Spec PyProof.Rows
section
variable {κ : Type} [DecidableEq κ]
end
end L2

set_option maxHeartbeats 4000000
namespace L2
open PySem PySem.Spec PyProof.Rows


def Itg (n : Nat) (g : Nat → V) : It := ⟨fun i _ => i < n, fun i H x H' => H' = H ∧ x = g i, fun i _ => n ≤ i⟩
theorem turn_walk {P : Program} {w : World} {K : PySem.W.Frag} {tg : Expr} {it : Addr} {n : Nat} {Pn : Nat → Value → Prop} {St : Nat → Heap → Prop} {g : Nat → V}
    (W : ∀ A : Around, A.handled = none → Walks P w A it [it] [it] n Pn St) (hv : ∀ i v, Pn i v → RelV (g i) v)
    (hk : ∀ i h h', St i h → (∀ o, h.get? it = some o → h'.get? it = some o) → St i h')
    (hself : ∀ (A : Around) (i : Nat) (s : Shared) (Q : Value → Shared → Prop) (E : Value → Shared → Prop), St i s.heap → Q (.ref it) s → wpAny (model P w) A (pyIter (.ref it)) Q E s)
    (ho : ∀ i h, St i h → ∃ o c vs, h.get? it = some o ∧ o.cls = .type c ∧ o.data = .fields vs ∧
      ["enumerate", "zip", "dict_itemiterator", "dict_reverseitemiterator", "odict_iterator", "itertools.zip_longest", "itertools.pairwise"].contains c = false) :
    Turn P w K tg (Itg n g) [it] it (fun i h => i ≤ n ∧ St i h) where
  mem := by simp
  obj := fun i h st b hb => by
    have e : b = it := by simpa using hb
    subst e
    obtain ⟨o, c, vs, e, _, d, _⟩ := ho i h st.2
    exact ⟨o, e, fun v z => by rw [d] at z; cases z⟩
  keep := fun i h h' st k => ⟨st.1, hk i h h' st.2 fun o e => k it (by simp) o e⟩
  item := by
    intro X hP hw hK hc i pins s σ H E I hf st hg
    subst hP hw hK
    obtain ⟨f0, f1, f2, f3, f4, f5⟩ := hf it (by simp)
    refine (W X.A (I.ok.hd hc)).item i s _ _ hg st.2 fun v h' tk hP st' kk => ?_
    have I1 : Inv X pins σ H { s with heap := h', toks := tk } := I.turned (fun b o hb e => kk b o (by simpa using hb) e) f0 f1 f3 f4 f5
    obtain ⟨o, c, vs, e, hcls, d, hn⟩ := ho _ _ st'
    exact ⟨v, rfl, go_of (s := { s with heap := h', toks := tk }) e hcls d hn ⟨g i, H, I1, hv i v hP, ⟨rfl, rfl⟩, ⟨hg, st'⟩, fun b hb => (hf b hb).1⟩⟩
  done := by
    intro X hP hw hK hc i pins s σ H E I hf st hg
    subst hP hw hK
    obtain ⟨f0, f1, f2, f3, f4, f5⟩ := hf it (by simp)
    have hg' : n ≤ i := hg
    have e : i = n := Nat.le_antisymm st.1 hg'
    subst e
    exact (W X.A (I.ok.hd hc)).done s _ _ st.2 fun h' tk kk => ⟨rfl, I.turned (fun b o hb e => kk b o (by simpa using hb) e) f0 f1 f3 f4 f5⟩
  self := fun A i s Q E st h => hself A i s Q E st.2 h
theorem for_gen {n : Nat} {g' : Nat → V} {g : TG} {tb : TS} {D : Ends} {σ : St} {H : Hp} (Pv : Nat → St → Hp → Prop) (h0 : Pv 0 σ H)
    (hs : ∀ i σ H, i < n → Pv i σ H → g (g' i) σ H fun σ2 H2 => tb { D with nx := Pv (i + 1), ct := Pv (i + 1), bk := D.nx } σ2 H2) (hd : ∀ σ H, Pv n σ H → D.nx σ H) :
    ∃ W : Nat → Nat → St → Hp → Prop, (∃ m, W 0 m σ H) ∧ ∀ i m σ H, W i m σ H →
      ((Itg n g').stop i H ∧ D.nx σ H) ∨ ((Itg n g').go i H ∧ ∃ N : St → Hp → Prop, (∀ σ' H', N σ' H' → ∃ m', m' < m ∧ W (i + 1) m' σ' H') ∧ ∀ x H', (Itg n g').yld i H x H' → g x σ H' fun σ2 H2 => tb { D with nx := N, ct := N, bk := D.nx } σ2 H2) := by
  refine ⟨fun i m σ H => m = n - i ∧ i ≤ n ∧ Pv i σ H, ⟨n, by simp, Nat.zero_le _, h0⟩, ?_⟩
  rintro i m σ H ⟨rfl, hi, p⟩
  by_cases hlt : i < n
  · refine .inr ⟨hlt, Pv (i + 1), fun σ' H' p' => ⟨n - (i + 1), by omega, rfl, hlt, p'⟩, fun x H' y => ?_⟩
    obtain ⟨e, y⟩ := y
    subst e y
    exact hs i σ _ hlt p
  · have e : i = n := by omega
    subst e
    exact .inl ⟨Nat.le_refl _, hd σ H p⟩

section
variable {X : Cx} {tg : Expr}

def sgn (z : Str) (i : Nat) : Str := ⟨#[z.cps.getD i 0]⟩
def iStr (tl : TE) : TI := fun σ H R => tl σ H fun x H1 => ∃ z, x = .str z ∧ R (Itg z.length fun i => .str (sgn z i)) H1
theorem sgn_of {z : Str} {i : Nat} {v : Value} (h : SignAt z i v) : RelV (.str (sgn z i)) v := by
  obtain ⟨c, u, hc, rfl⟩ := h
  refine ⟨u, ?_⟩
  have e : z.cps.getD i 0 = c := by simp [Array.getD_eq_getD_getElem?, hc]
  unfold sgn
  rw [e]
theorem pi_str {l : Expr} {tl : TE} (hl : PE X l tl) : PI X tg l (iStr tl) := by
  intro pins s σ H R I h
  refine thn (hl pins s σ H _ I h) fun v s1 ⟨x, H1, I1, r1, q1⟩ => ?_
  obtain ⟨z, e, q⟩ := q1
  subst e
  obtain ⟨t, rfl⟩ := r1
  have fp : ∀ b ∈ [s1.heap.objs.size], FpOk X pins H1 b := fun b hb => by
    have e : b = s1.heap.objs.size := by simpa using hb
    subst e
    exact I1.fpOk (Nat.le_refl _) (I1.hok.fresh (Nat.le_refl _))
  cases ha : z.cps.all (· < 128)
  · refine wpAny_pyIter_wide ha ?_
    refine ⟨s1.heap.objs.size, [s1.heap.objs.size], _, _, H1, rfl, I1.kept (t' := s1.toks) fun b o e => Heap.get?_push_of_some _ e,
      turn_walk (St := fun i h => h.IsStrIter s1.heap.objs.size "str_iterator" z t i) (fun A hA => Walks.strWide hA _ z t) (fun i v => sgn_of) (fun i h h' st k => let ⟨o, ho, r⟩ := st; ⟨o, k o ho, r⟩) (fun A i s Q E st hQ => wpAny_pyIter_striter_wide st hQ)
        (fun i h st => let ⟨o, ho, hc, hd⟩ := st; ⟨o, _, _, ho, hc, hd, by decide⟩), ⟨Nat.zero_le _, ⟨_, Heap.get?_push_size _ rfl, rfl, rfl⟩⟩, fp, q⟩
  · refine wpAny_pyIter_ascii ha ?_
    refine ⟨s1.heap.objs.size, [s1.heap.objs.size], _, _, H1, rfl, I1.kept (t' := s1.toks) fun b o e => Heap.get?_push_of_some _ e,
      turn_walk (St := fun i h => h.IsStrIter s1.heap.objs.size "str_ascii_iterator" z t i) (fun A hA => Walks.strAscii hA _ z t) (fun i v => sgn_of) (fun i h h' st k => let ⟨o, ho, r⟩ := st; ⟨o, k o ho, r⟩) (fun A i s Q E st hQ => wpAny_pyIter_striter_ascii st hQ)
        (fun i h st => let ⟨o, ho, hc, hd⟩ := st; ⟨o, _, _, ho, hc, hd, by decide⟩), ⟨Nat.zero_le _, ⟨_, Heap.get?_push_size _ rfl, rfl, rfl⟩⟩, fp, q⟩


end


section
variable {X : Cx}
theorem call_int_str : CallR X (.type "int") (fun xs H Q => ∃ z n, xs = [.str z] ∧ PySem.intText? z = some n ∧ z.length ≤ 640 ∧ Q (.int n) H) := by
  intro pins s σ H xs us Q I r h
  obtain ⟨z, n, rfl, hn, hl, q⟩ := h
  obtain ⟨u, rfl, t, rfl⟩ := vals1 r
  exact PySem.W.KIN.call_text hn hl ⟨.int n, H, I.tok _, ⟨_, rfl⟩, q⟩
def rSlS : V → Option Int → Option Int → Hp → VK → Prop := fun x lo hi H Q => ∃ z, x = .str z ∧ z.length ≤ sizeLine ∧ Q (.str (Txt.slice z lo hi)) H
theorem sl_str : SlR X rSlS := by
  intro pins s σ H x v vl vu lo hi sl Q I rx hs pl pu h
  obtain ⟨z, rfl, hz, q⟩ := h
  obtain ⟨t, rfl⟩ := rx
  refine ⟨"str", _, F.slot_str_getitem.lookup, typeIs_str _ _ _, ?_⟩
  obtain ⟨o, e1, e2, e3⟩ := hs
  have fin : ∀ (z' : Str) (t' : Tok) (k : Nat), z' = Txt.slice z lo hi → EP X pins σ Q (.str z' t') { s with toks := k } := fun z' t' k e => by
    subst e
    exact ⟨.str _, H, I.tok _, ⟨_, rfl⟩, q⟩
  cases pl with
  | none =>
    cases pu with
    | none => exact wpAny_getItem_str_slice (l := none) (u := none) (st := none) ⟨o, e1, e2, e3⟩ rfl (post_val_or_str ⟨Nat.le_trans (Txt.slice_le z _ _) hz, fun t' k => fin _ t' k rfl⟩)
    | int j uj => exact wpAny_getItem_str_slice (l := none) (u := some (j, uj)) (st := none) ⟨o, e1, e2, e3⟩ rfl (post_val_or_str ⟨Nat.le_trans (Txt.slice_le z _ _) hz, fun t' k => fin _ t' k rfl⟩)
  | int i ui =>
    cases pu with
    | none => exact wpAny_getItem_str_slice (l := some (i, ui)) (u := none) (st := none) ⟨o, e1, e2, e3⟩ rfl (post_val_or_str ⟨Nat.le_trans (Txt.slice_le z _ _) hz, fun t' k => fin _ t' k rfl⟩)
    | int j uj => exact wpAny_getItem_str_slice (l := some (i, ui)) (u := some (j, uj)) (st := none) ⟨o, e1, e2, e3⟩ rfl (post_val_or_str ⟨Nat.le_trans (Txt.slice_le z _ _) hz, fun t' k => fin _ t' k rfl⟩)


def rIsiT (K : PySem.W.Frag) (T : String) : List V → Hp → VK → Prop := fun xs H Q => ∃ x t b, xs = [x, .ty T] ∧ TyOf K H x t ∧ PySem.W.kitOne K t (.type T) = some b ∧ Q (.bl b) H
theorem call_isiT (T : String) : CallR X (.builtin "isinstance") (rIsiT X.K T) := by
  intro pins s σ H xs us Q I r h
  obtain ⟨x, t, b, rfl, ty, hk, q⟩ := h
  obtain ⟨u, c, rfl, rx, rc⟩ := vals2 r
  cases (show c = .type T from rc)
  exact isinst_ok I rx ty hk fun tk => ⟨.bl b, H, I.tok _, rfl, q⟩
end
end L2

namespace L2
open PySem PySem.Spec PyProof.Rows


section
variable {prog : Program} {w : World} {A : Around} {R : Result → Shared → Prop} {s : Shared}
theorem compLoop_go {elt target iter : Expr} {scope : Scope} {pos : Pos} {it acc : Value} {env : Env} (I : Nat → Shared → Prop)
    (turn : ∀ n s, I n s → wpAny (model prog w) A (pyNext it) (fun r s1 => match r with
      | none => R (.ok .next) s1
      | some v => wpAny (model prog w) A (letOwnedTupleGo target it v) (fun _ s2 => wpAny (model prog w) A (assign target env v) (fun _ s3 =>
          wpAny (model prog w) A (eval elt env) (fun x s4 =>
            wpAny (model prog w) A (call (.builtin "list.append") [acc, x]) (fun _ s5 => ∃ m, m < n ∧ I m s5) (notedBy (model prog w) A env fun e s' => R (.error e) s') s4) (notedBy (model prog w) A env fun e s' => R (.error e) s') s3)
          (notedBy (model prog w) A env fun e s' => R (.error e) s') s2) (notedBy (model prog w) A env fun e s' => R (.error e) s') s1) (notedBy (model prog w) A env fun e s' => R (.error e) s') s)
    (n : Nat) (h : I n s) :
    codeAny (model prog w) A (.compLoop (.ListComp elt [⟨target, iter, [], 0⟩] scope pos) 0 it acc env) R s := by
  refine codeAny_loop rfl I (fun n s hI => ?_) n h
  show wpAny _ A ((compTurn (.ListComp elt [⟨target, iter, [], 0⟩] scope pos) 0 it acc env).onRaise (fun x => do noteFrame x env; theTreesLotGoes x)) _ _ s
  refine wpAny_noted ?_
  rw [compTurn_list]
  refine wpAny_bind (wpAny_standAt (wpAny_bind (wpAny_mono (turn n s hI) (fun r s1 h1 => ?_) fun _ _ h' => h')))
  cases r with
  | none => exact wpAny_pure h1
  | some v =>
    refine wpAny_bind (wpAny_mono h1 (fun _ s2 h2 => wpAny_bind (wpAny_mono h2 (fun _ s3 h3 => ?_) fun _ _ h' => h')) fun _ _ h' => h')
    refine wpAny_bind (wpAny_tests_nil ?_)
    exact wpAny_bind (wpAny_bind (wpAny_mono h3 (fun x s4 h4 => wpAny_bind (wpAny_mono h4 (fun _ s5 h5 => wpAny_pure (wpAny_pure ⟨rfl, h5⟩)) fun _ _ h' => h')) fun _ _ h' => h'))
end

def cxComp (X : Cx) (N' : List Str) (scope : Scope) (C : Addr) (s0 : Shared) (H0 : Hp) (fp : List Addr) (pins : List (Addr × Obj)) : Cx where
  prog := X.prog
  w := X.w
  K := X.K
  mg := X.mg
  base := X.base
  A := X.A
  N := N'
  s₀ := s0
  H₀ := H0
  env := compEnv scope C X.env
  outer := X.stack
  stack := X.stack
  ex := fp
  fn := fun _ => false
  calm := X.calm
  pn := X.pn ++ pins
  xe := fun _ _ => False


def compK (N' : List Str) (g : TG) (te : TE) (Q : VK) : It → Hp → Prop := fun J H1 => ∀ D, H1 D = none → ∃ W : Nat → Nat → List V → Hp → Prop, (∃ m, W 0 m [] (upd H1 D (.lst []))) ∧
  ∀ i m ys H2, W i m ys H2 → H2 D = some (.lst ys) ∧ ((J.stop i H2 ∧ Q (.ref D) H2) ∨ (J.go i H2 ∧ ys.length < sizeLine ∧
    ∀ x H', J.yld i H2 x H' → g x (List.replicate N'.length none) H' fun σ2 H3 => te σ2 H3 fun y H4 => H4 D = some (.lst ys) ∧ ∃ m', m' < m ∧ W (i + 1) m' (ys ++ [y]) (upd H4 D (.lst (ys ++ [y])))))
def tComp (N' : List Str) (wi : TI) (g : TG) (te : TE) : TE := fun σ H Q => wi σ H (compK N' g te Q)

section
variable {X : Cx} {elt tg iter : Expr} {scope : Scope} {pos : Pos} {N' : List Str} {wi : TI} {g : TG} {te : TE}
theorem HOk.but {P : Program} {w : World} {H : Hp} {h h' : Heap} {C : Addr} (x : HOk P w H h) (n : H C = none) (k : ∀ b u, b ≠ C → h.get? b = some u → h'.get? b = some u) : HOk P w H h' := fun a o e =>
  (x a o e).stay (fun b u hb q => k b u (by
    rcases hb with z | z
    · rw [z]; intro z2; rw [z2, n] at e; cases e
    · intro z2; rw [z2, n] at z; cases z) q) (fun _ q => q) fun _ _ q => q
theorem pe_comp (hfree : ∀ y ∈ scope.names, y.2 ≠ .free) (hcell : ∀ y ∈ scope.names, y.2 ≠ .cell) (hkind : scope.kind = .function) (hnames : ∀ y ∈ scope.names, y.2 = .local → scope.names.lookup y.1 = some .local)
    (hcalm : X.calm = true) (hi : PI X tg iter wi) (hg : ∀ C s0 H0 fp pins, PG (cxComp X N' scope C s0 H0 fp pins) tg g) (he : ∀ C s0 H0 fp pins, PE (cxComp X N' scope C s0 H0 fp pins) elt te)
    (hs : ∀ x, foldedSetIterable iter X.env x = pure x := by intro _; rfl) : PE X (.ListComp elt [⟨tg, iter, [], 0⟩] scope pos) (tComp N' wi g te) := by
  intro pins s σ H Q I h
  refine wpAny_ListComp hfree hkind hnames (thn (hi pins s σ H _ I h) fun v s1 h1 => thn h1 fun itv s2 h2 => ?_) hs
  obtain ⟨it, fp, tn, J, H2, e, I2, T, st2, f2, hW⟩ := h2
  subst e
  refine wpAny_newObj_type (wpAny_newFunctionEnv hcell (by intro y hy; simp at hy) (fun h₁ hns₁ hsb₁ => ?_) hkind)
  dsimp only at hns₁ hsb₁ ⊢
  generalize hH2 : s2.heap.push { cls := .type "list", dict := none, data := .seq ([] : List Value).toArray } = P2 at hns₁ hsb₁ ⊢
  have hC : P2.objs.size = s2.heap.objs.size + 1 := by rw [← hH2, Heap.size_push]
  have below : ∀ b, b < s2.heap.objs.size → b ≠ P2.objs.size ∧ b ≠ s2.heap.objs.size := fun b hb => ⟨by rw [hC]; exact Nat.ne_of_lt (Nat.lt_succ_of_lt hb), Nat.ne_of_lt hb⟩
  have hDC : s2.heap.objs.size ≠ P2.objs.size := by rw [hC]; exact Nat.ne_of_lt (Nat.lt_succ_self _)
  have old : ∀ b o, s2.heap.get? b = some o → h₁.get? b = some o := fun b o e => hsb₁.extBut b o (below b (Heap.lt_size e)).1 (Heap.get?_push_of_some _ (hH2 ▸ Heap.get?_push_of_some _ e))
  have hD : h₁.get? s2.heap.objs.size = some { cls := .type "list", dict := none, data := .seq ([] : List Value).toArray } := hsb₁.extBut _ _ hDC (Heap.get?_push_of_some _ (hH2 ▸ Heap.get?_push_size _ rfl))
  have frD : H2 s2.heap.objs.size = none := I2.hok.fresh (Nat.le_refl _)
  have frC : H2 P2.objs.size = none := I2.hok.fresh (by rw [hC]; exact Nat.le_succ _)
  have hfp : ∀ b ∈ fp, b < s2.heap.objs.size := fun b hb => by
    obtain ⟨o, e, _⟩ := T.obj _ _ st2 b hb
    exact Heap.lt_size e
  have nst : ∀ b, b ≠ X.env.locals → b ∉ X.fs → b ∉ frs X.stack := fun b n1 n2 z => by
    rcases List.mem_cons.mp (I2.stkSub b z) with e | e
    · exact n1 e
    · exact n2 e
  obtain ⟨W, ⟨m0, w0⟩, turn⟩ := hW s2.heap.objs.size frD
  have nocell : ∀ (x : Str) (c : Addr), (compEnv scope P2.objs.size X.env).cells.lookup x = some c → False := fun x c e => by
    have e' : ([] : List (Str × Addr)).lookup x = some c := e
    cases e'
  have ok' : (cxComp X N' scope P2.objs.size s2 H2 fp pins).Ok := by
    refine ⟨I2.ok.mod, hkind, I2.ok.glob, I2.ok.blt, ?_, fun x y c e => (nocell x c e).elim, fun x hx => ?_, fun x c _ e => (nocell x c e).elim, I2.ok.hd, I2.ok.frames, .inl rfl, fun b hb => ⟨(below b (hfp b hb)).1, fun x c e => (nocell x c e).elim⟩, I2.bs, Nat.le_trans I2.ok.bsz I2.sz, fun b o e hb => ?_, fun b hb => nst b (f2 b hb).2.1 (f2 b hb).2.2.1, I2.stack, I2.stkFree⟩
    · show s2.heap.objs.size ≤ P2.objs.size
      rw [hC]; exact Nat.le_succ _
    · have hx' : scope.names.lookup x = some .cell ∨ scope.names.lookup x = some .free := hx
      rcases hx' with z | z
      · exact absurd rfl (hcell _ (PySem.mem_of_lookup z))
      · exact absurd rfl (hfree _ (PySem.mem_of_lookup z))
    · rcases (f2 b hb).2.2.2.1 with z | z
      · exact I2.ok.noex b o e z
      · exact absurd (Nat.lt_of_lt_of_le (Heap.lt_size (I2.ok.bs b o e).1) z) (Nat.lt_irrefl _)
  have I' : Inv (cxComp X N' scope P2.objs.size s2 H2 fp pins) [] (List.replicate N'.length none) (upd H2 s2.heap.objs.size (.lst [])) { s2 with heap := h₁, toks := s2.toks + ([] : List (Str × Value)).length } := by
    refine ⟨ok', rfl, I2.bare, Un.laid old (Nat.le_refl _) frD, ⟨_, hns₁, fun i x v e1 e2 e3 => ?_⟩, fun x c e => (nocell x c e).elim, ?_, fun x c e => (nocell x c e).elim, fun p hp => ?_, I2.hok.laid old (Nat.le_refl _) ⟨by simp, [], 0, .nil, hD⟩, by simp [cxComp]⟩
    · rw [List.getElem?_replicate] at e2
      split at e2 <;> cases e2
    · show upd H2 s2.heap.objs.size (.lst []) P2.objs.size = none
      rw [upd_ne (Ne.symm hDC)]; exact frC
    · have hp' : p ∈ X.pn ++ pins := by
        rcases List.mem_append.mp hp with z | z
        · exact z
        · cases z
      obtain ⟨a1, a2, a3, a4, a5⟩ := I2.pin p hp'
      refine ⟨old _ _ a1, ?_, (below _ (Heap.lt_size a1)).1, nst _ a3 a4, a5⟩
      rw [upd_ne (below _ (Heap.lt_size a1)).2]; exact a2
  have stat : ∀ {H' : Hp}, (∀ b ∈ fp, H' b = none) → ∀ b ∈ fp, FpOk (cxComp X N' scope P2.objs.size s2 H2 fp pins) [] H' b := fun {H'} hn b hb =>
    ⟨hn b hb, (below b (hfp b hb)).1, nst b (f2 b hb).2.1 (f2 b hb).2.2.1, .inl hb, fun x c e => (nocell x c e).elim, fun p hp => (f2 b hb).2.2.2.2.2 p (by
      rcases List.mem_append.mp hp with z | z
      · exact z
      · cases z)⟩
  have fin : ∀ (ys : List V) (σ' : St) (H' : Hp) (s' : Shared), Inv (cxComp X N' scope P2.objs.size s2 H2 fp pins) [] σ' H' s' → Q (.ref s2.heap.objs.size) H' →
      ∃ m, s'.heap.Ns P2.objs.size m ∧ ∀ h', Heap.SameBut P2.objs.size s'.heap h' → EP X pins σ Q (.ref s2.heap.objs.size) { s' with heap := h' } := by
    intro ys σ' H' s' J1 q
    obtain ⟨m, hm, _⟩ := id J1.loc
    refine ⟨m, hm, fun h' sb => ⟨.ref s2.heap.objs.size, H', ?_, rfl, q⟩⟩
    have ne : ∀ b o, s2.heap.get? b = some o → b ≠ P2.objs.size := fun b o e => (below b (Heap.lt_size e)).1
    refine I2.call' (s' := { s' with heap := h' }) (ch := fp) J1.os ⟨fun b o e n hb hx => ?_, fun b o e n hb hx => ?_, fun b o e n hx => J1.base.free b o e n hx, fun b o e hx => ?_, J1.base.tups, J1.base.frzs, J1.base.tbls⟩ (J1.hok.but J1.free fun b u hb q => (sb.2 b hb).trans q) J1.bare fun b hb => ⟨(f2 b hb).2.2.2.1, (f2 b hb).2.1, (f2 b hb).2.2.2.2.1, (f2 b hb).2.2.2.2.2⟩
    · exact (sb.2 b (ne b o e)).trans (J1.base.keep b o e n hb hx)
    · obtain ⟨sl, z⟩ := J1.base.slot b o e n hb hx
      exact ⟨sl, (sb.2 b (ne b o e)).trans z⟩
    · obtain ⟨o', z⟩ := J1.base.there b o e hx
      exact ⟨o', (sb.2 b (ne b o e)).trans z⟩
  have loop : codeAny (model X.prog X.w) X.A (.compLoop (.ListComp elt [⟨tg, iter, [], 0⟩] scope pos) 0 (.ref it) (.ref s2.heap.objs.size) (compEnv scope P2.objs.size X.env))
      (fun r s' => ∃ m, s'.heap.Ns P2.objs.size m ∧ ∀ h', Heap.SameBut P2.objs.size s'.heap h' → match r with
        | .ok _ => EP X pins σ Q (.ref s2.heap.objs.size) { s' with heap := h' }
        | .error x => wpAny (model X.prog X.w) X.A (passOn "comprehension.variables-let-go" x (compEnv scope P2.objs.size X.env)) (EP X pins σ Q) X.xe { s' with heap := h' })
      { s2 with heap := h₁, toks := s2.toks + ([] : List (Str × Value)).length } := by
    refine compLoop_go (fun n s' => ∃ i ys σ' H', Inv (cxComp X N' scope P2.objs.size s2 H2 fp pins) [] σ' H' s' ∧ tn i s'.heap ∧ (∀ b ∈ fp, H' b = none) ∧ W i n ys H') ?_ m0
      ⟨0, [], List.replicate N'.length none, _, I', T.keep _ _ _ st2 (fun b hb o e => old b o e), fun b hb => by rw [upd_ne (below b (hfp b hb)).2]; exact (f2 b hb).1, w0⟩
    rintro n s3 ⟨i, ys, σ3, H3, J3, st3, fr3, w3⟩
    obtain ⟨hl, q3⟩ := turn i n ys H3 w3
    rcases q3 with ⟨stop, q⟩ | ⟨go, hlt, step⟩
    · refine thn (T.done (cxComp X N' scope P2.objs.size s2 H2 fp pins) rfl rfl rfl hcalm i [] s3 σ3 H3 _ J3 (stat fr3) st3 stop) fun r s4 ⟨hr, J4⟩ => ?_
      subst hr
      exact fin ys σ3 H3 s4 J4 q
    · refine thn (T.item (cxComp X N' scope P2.objs.size s2 H2 fp pins) rfl rfl rfl hcalm i [] s3 σ3 H3 _ J3 (stat fr3) st3 go) fun r s4 ⟨u, hr, h4⟩ => ?_
      subst hr
      refine thn h4 fun _ s5 ⟨x, H5, J5, r5, y5, st5, fr5⟩ => ?_
      have J5' := J5.pinned (stat fr5) (T.obj _ _ st5)
      have J6 : Inv (cxComp X N' scope P2.objs.size s2 H2 fp pins) ([] ++ pinsAt fp s5.heap) (List.replicate N'.length none) H5 s5 := J5'.weak (by rw [J5'.len]; simp [cxComp]) fun j v e => by
        rw [List.getElem?_replicate] at e
        split at e <;> cases e
      refine wpAny_mono (hg _ _ _ _ _ _ s5 _ H5 x u _ J6 r5 (step x H5 y5)) (fun _ s6 ⟨σ6, H6, J7, q6⟩ => ?_) fun _ _ z => False.elim z
      refine wpAny_mono (he _ _ _ _ _ _ s6 σ6 H6 _ J7 q6) (fun yv s7 ⟨y, H7, J8, r7, q7⟩ => ?_) fun _ _ z => False.elim z
      obtain ⟨hl7, m', hm', w7⟩ := q7
      refine wpAny_mono (mt_append (X := cxComp X N' scope P2.objs.size s2 H2 fp pins) _ s7 σ6 H7 (.ref s2.heap.objs.size) [y] (.ref s2.heap.objs.size) [yv] (fun v H8 => H8 = upd H7 s2.heap.objs.size (.lst (ys ++ [y]))) J8 rfl (.cons r7 .nil) ⟨_, ys, y, rfl, rfl, hl7, hlt, rfl⟩) (fun _ s8 ⟨v8, H8, J9, r8, e8⟩ => ?_) fun _ _ z => False.elim z
      subst e8
      have pk : ∀ b ∈ fp, ∀ o, s5.heap.get? b = some o → s8.heap.get? b = some o ∧ upd H7 s2.heap.objs.size (.lst (ys ++ [y])) b = none := fun b hb o e =>
        let z := J9.pin (b, o) (List.mem_append_right _ (List.mem_append_right _ (mem_pinsAt hb e)))
        ⟨z.1, z.2.1⟩
      refine ⟨m', hm', i + 1, ys ++ [y], σ6, _, J9.unpinned, T.keep _ _ _ st5 fun b hb o e => (pk b hb o e).1, fun b hb => ?_, w7⟩
      obtain ⟨o, e, _⟩ := T.obj _ _ st5 b hb
      exact (pk b hb o e).2
  exact codeAny_compStart_list loop (T.self X.A 0 { s2 with heap := h₁, toks := s2.toks + ([] : List (Str × Value)).length } _ _ (T.keep _ _ _ st2 fun b hb o e => old b o e) loop)
end

section
variable {X : Cx}
theorem boolsAre_of : ∀ {bs : List Bool} {us : List Value}, Vals (bs.map V.bl) us → LSm.BoolsAre us bs
  | [], us, r => by rw [List.map_nil] at r; cases r; exact .nil
  | b :: bs, us, r => by
    rw [List.map_cons] at r
    cases r with
    | cons r1 r2 =>
      cases (show _ = Value.bool b from r1)
      exact .cons b (boolsAre_of r2)
theorem call_all (hc : X.calm = true) : CallR X (.builtin "all") (fun xs H Q => ∃ (a : Addr) (bs : List Bool), xs = [.ref a] ∧ SqL X.K H a (bs.map V.bl) ∧ Q (.bl (bs.all id)) H) := by
  intro pins s σ H xs us Q I r h
  obtain ⟨a, bs, rfl, hS, q⟩ := h
  obtain ⟨u, rfl, ru⟩ := vals1 r
  cases ru
  obtain ⟨its, rv, pl, _⟩ := I.list hS
  have hb := boolsAre_of rv
  have hlt : a < s.heap.objs.size := by obtain ⟨_, e, _⟩ := pl.isList; exact Heap.lt_size e
  refine call_all_walk (wpAny_pyIter_list pl.isList ?_)
  refine ⟨s.heap.objs.size, [s.heap.objs.size, a], [s.heap.objs.size], its.toArray.size, _, _, fun i => (bs[i]?).getD true, rfl, Walks.list (A := X.A.in1) (I.ok.hd hc) _ a (Nat.ne_of_lt hlt) its.toArray,
    ⟨⟨_, Heap.get?_push_size _ rfl, rfl, rfl⟩, pl.isList.push _⟩, fun i v s' Q' E' hP hQ => ?_, fun h' tk hk => ?_⟩
  · obtain ⟨b, e, rfl⟩ := hb.get i v (by simpa using hP)
    simp only [e, Option.getD_some] at hQ
    exact wpAny_truthy_bool hQ
  · have e : ((List.range its.toArray.size).all fun i => (bs[i]?).getD true) = bs.all id := by
      rw [List.size_toArray, hb.length]; exact LSm.range_all bs
    rw [e]
    exact ⟨.bl _, H, I.kept (LSm.kept_iter hk), rfl, q⟩


theorem op_mul_str : OpR X (binaryOp .Mult) (fun x y H Q => ∃ z n, x = .str z ∧ y = .int n ∧ MulOk z n ∧ Q (.str (Txt.mul z n)) H) := by
  intro pins s σ H x y v u Q I rx ry h
  obtain ⟨z, n, rfl, rfl, hz, q⟩ := h
  obtain ⟨t, rfl⟩ := rx
  obtain ⟨t', rfl⟩ := ry
  exact SB.mul hz (fun t' tk => ⟨.str _, H, I.tok _, ⟨_, rfl⟩, q⟩)
end
end L2

namespace L2
open PySem PySem.Spec PyProof.Rows



def Quiet (CX : CXT) : Prop := ∀ outer H s e s', CX outer H s E0 e s' → False
theorem passQ {CX : CXT} {X : Cx} (q : Quiet CX) : Passes CX X E0 := fun _ _ _ _ _ _ _ h => (q _ _ _ _ _ h).elim
structure Fok (P : Program) (w : World) (K : PySem.W.Frag) (mg : Str → Option Value) (base : Heap) (CX : CXT) (j : Nat) (x : Str) (ps : List Str) (dvs : List V) (sp : Sp) : Prop where
  ex : ∃ f fd ds, FnOk P w K mg base CX j f fd ps sp ∧ Binds K fd ps ds ∧ Vals dvs ds ∧ PySem.W.keepIn K (.ref f) = true ∧ mg x = some (.ref f)
section
variable {X : Cx} {CX : CXT} {j k : Nat} {ps : List Str} {sp : Sp} {dvs : List V} {E : XK} {x : Str} {p pos : Pos} {e : Expr} {es : List Expr} {t : TA}

theorem pe_callX (F : Fok X.prog X.w X.K X.mg X.base CX j x ps dvs sp) (hr : Room k X.A) (hx : Passes CX X E) (ha : PA X (e :: es) t) (hj : j ≤ k := by decide) (hg : Gl X x := by rfl)
    (hdb : (x == ("__debug__" : Str)) = false := by decide) (he : starEach (e :: es) X.env = (false, eval e X.env) :: starEach es X.env := by rfl) (hpl : (backTo pos (starEach es X.env)).any (·.1) = false := by rfl) :
    PE X (.Call (.Name x p) (e :: es) [] pos) (tCall sp dvs E t) := by
  obtain ⟨f, fd, ds, G, b, v, kp, m⟩ := F.ex
  exact pe_call G (hr.mono hj) hg m kp b v hx ha hdb he hpl
theorem pe_callF (F : Fok X.prog X.w X.K X.mg X.base CX j x ps dvs sp) (q : Quiet CX) (hr : Room k X.A) (ha : PA X (e :: es) t) (hj : j ≤ k := by decide) (hg : Gl X x := by rfl)
    (hdb : (x == ("__debug__" : Str)) = false := by decide) (he : starEach (e :: es) X.env = (false, eval e X.env) :: starEach es X.env := by rfl) (hpl : (backTo pos (starEach es X.env)).any (·.1) = false := by rfl) :
    PE X (.Call (.Name x p) (e :: es) [] pos) (tCall sp dvs E0 t) := pe_callX F hr (passQ q) ha hj hg hdb he hpl
end
section
variable {P : Program} {w : World} {K : PySem.W.Frag} {mg : Str → Option Value} {base : Heap}

structure FunD (K : PySem.W.Frag) (x qual : Str) (st : Stmt) (f : Addr) (fd : FuncData) (dV : Value) : Prop where
  ex : ∃ (oc : Value) (od : Option Addr) (kV doc pm : Value) (an : Option Addr) (cdv ct : Value) (osl : Array (Option Value)),
    fd = PySem.W.fnOf x qual (defArgs st) (defBody st) (defScope st) dV kV doc pm an cdv ct ∧ K.lookup f = some ⟨oc, od, .func fd, osl⟩ ∧ PySem.W.codeIn K cdv qual = true
  kp : PySem.W.keepIn K (.ref f) = true
theorem funD_mk {x qual : Str} {st : Stmt} {f : Addr} {oc : Value} {od an : Option Addr} {osl : Array (Option Value)} {dV kV doc pm cdv ct : Value} (l : K.lookup f = some ⟨oc, od, .func (PySem.W.fnOf x qual (defArgs st) (defBody st) (defScope st) dV kV doc pm an cdv ct), osl⟩)
    (c : PySem.W.codeIn K cdv qual = true) (k : PySem.W.keepIn K (.ref f) = true) : FunD K x qual st f (PySem.W.fnOf x qual (defArgs st) (defBody st) (defScope st) dV kV doc pm an cdv ct) dV := ⟨⟨oc, od, kV, doc, pm, an, cdv, ct, osl, rfl, l, c⟩, k⟩

theorem FunD.ok {x qual : Str} {st : Stmt} {f : Addr} {fd : FuncData} {dV : Value} {N ps : List Str} {k : Nat} {sp : Sp} {CX : CXT} (F : FunD K x qual st f fd dV) (S : FnScope N ps (defScope st)) (len : ∀ vs H Q E, sp vs H Q E → vs.length = ps.length)
    (hbody : ∀ (cdv : Value) (A : Around) (outer : List Env) (s : Shared) (H : Hp) (vs : List V) (Q : VK) (E : XK), Room k (A.deeper (envOfC qual (defScope st) s.heap.objs.size f cdv)) → sp vs H Q E →
      ∃ t, PSs (cxOf CX P w K mg base N qual (defScope st) f cdv A outer s H E).nox (defBody st) t ∧ t { nx := fun _ H' => Q .non H', rt := Q } (start N vs) H) : FnOk P w K mg base CX (k + 1) f fd ps sp := by
  obtain ⟨oc, od, kV, doc, pm, an, cdv, ct, osl, rfl, lk, hcd⟩ := F.ex
  refine fn_of lk hcd S len fun A outer s H vs Q E hr hsp => ?_
  obtain ⟨t, h, q⟩ := hbody cdv A outer s H vs Q E hr hsp
  exact ⟨t, h.nox, q⟩

theorem FunD.okX {x qual : Str} {st : Stmt} {f : Addr} {fd : FuncData} {dV : Value} {N ps : List Str} {k : Nat} {sp : Sp} {CX : CXT} (F : FunD K x qual st f fd dV) (S : FnScope N ps (defScope st)) (len : ∀ vs H Q E, sp vs H Q E → vs.length = ps.length)
    (hbody : ∀ (cdv : Value) (A : Around) (outer : List Env) (s : Shared) (H : Hp) (vs : List V) (Q : VK) (E : XK), Room k (A.deeper (envOfC qual (defScope st) s.heap.objs.size f cdv)) → sp vs H Q E →
      ∃ t, PSs (cxOf CX P w K mg base N qual (defScope st) f cdv A outer s H E) (defBody st) t ∧ t { nx := fun _ H' => Q .non H', rt := Q } (start N vs) H) : FnOk P w K mg base CX (k + 1) f fd ps sp := by
  obtain ⟨oc, od, kV, doc, pm, an, cdv, ct, osl, rfl, lk, hcd⟩ := F.ex
  exact fn_of lk hcd S len fun A outer s H vs Q E hr hsp => hbody cdv A outer s H vs Q E hr hsp

theorem FunD.binds {x qual : Str} {st : Stmt} {f : Addr} {fd : FuncData} {dV : Value} {ps : List Str} (F : FunD K x qual st f fd dV)
    (h : ∀ (kV doc pm : Value) (an : Option Addr) (cdv ct : Value) (us : List Value), us.length = ps.length → bindArgs (PySem.W.fnOf x qual (defArgs st) (defBody st) (defScope st) dV kV doc pm an cdv ct) ⟨us, []⟩ = pure (ps.zip us)) : Binds K fd ps [] := by
  obtain ⟨oc, od, kV, doc, pm, an, cdv, ct, osl, rfl, lk, hcd⟩ := F.ex
  exact .all (h kV doc pm an cdv ct)

theorem fok {CX : CXT} {j : Nat} {x qual : Str} {st : Stmt} {f : Addr} {fd : FuncData} {dV : Value} {ps : List Str} {sp : Sp} (F : FunD K x qual st f fd dV) (G : FnOk P w K mg base CX j f fd ps sp) (b : Binds K fd ps []) (m : mg x = some (.ref f)) :
    Fok P w K mg base CX j x ps [] sp := ⟨f, fd, [], G, b, .nil, F.kp, m⟩

end


section
variable {X : Cx}
def CDivW (i j : Int) : Prop := 0 < j ∧ j < 2 ^ 1000
theorem op_fdivW : OpR X (binaryOp .FloorDiv) (rI CDivW fun i j => .int (i / j)) := opI fun i j _ _ _ _ _ hc q => by
  have h1 : (0 : Int) < j := hc.1
  have h2 : j < 2 ^ 1000 := hc.2
  refine floordiv_int (by omega) (by rw [Int.fdiv_eq_ediv_of_nonneg i (by omega)]; exact q) (.inl (PyProof.noPylong_of_log2 ?_))
  have e : j.natAbs.log2 < 1000 := by
    refine (Nat.log2_lt (by omega)).mpr ?_
    have e2 : ((j.natAbs : Nat) : Int) = j := by omega
    have e3 : ((2 ^ 1000 : Nat) : Int) = (2 : Int) ^ 1000 := by rw [Int.natCast_pow]; rfl
    omega
  omega
theorem cdivW {i j : Int} (h0 : 0 < j) (h1 : j < 1000000000000000000000000) : CDivW i j := ⟨h0, Int.lt_trans h1 (by decide +kernel)⟩
end
theorem bt_int : bootBuiltins "int" = some (.type "int") := by decide +kernel
theorem bt_str : bootBuiltins "str" = some (.type "str") := by decide +kernel
theorem bt_bool : bootBuiltins "bool" = some (.type "bool") := by decide +kernel
theorem bt_list : bootBuiltins "list" = some (.type "list") := by decide +kernel
theorem bt_tuple : bootBuiltins "tuple" = some (.type "tuple") := by decide +kernel
theorem bb_isinstance : bootBuiltins "isinstance" = some (.builtin "isinstance") := by decide +kernel
theorem bb_max : bootBuiltins "max" = some (.builtin "max") := by decide +kernel
theorem bb_min : bootBuiltins "min" = some (.builtin "min") := by decide +kernel
theorem bb_all : bootBuiltins "all" = some (.builtin "all") := by decide +kernel
theorem bb_len : bootBuiltins "len" = some (.builtin "len") := by decide +kernel
section
variable {K : PySem.W.Frag}
theorem kit_ii : PySem.W.kitOne K (.type "int") (.type "int") = some true := by kernel_rfl
theorem kit_ib : PySem.W.kitOne K (.type "int") (.type "bool") = some false := by kernel_rfl
theorem kit_is : PySem.W.kitOne K (.type "int") (.type "str") = some false := by kernel_rfl
theorem kit_ss : PySem.W.kitOne K (.type "str") (.type "str") = some true := by kernel_rfl
theorem kit_si : PySem.W.kitOne K (.type "str") (.type "int") = some false := by kernel_rfl
theorem kit_bi : PySem.W.kitOne K (.type "bool") (.type "int") = some true := by kernel_rfl
theorem kit_bb : PySem.W.kitOne K (.type "bool") (.type "bool") = some true := by kernel_rfl
theorem kit_bs : PySem.W.kitOne K (.type "bool") (.type "str") = some false := by kernel_rfl
theorem kit_tt : PySem.W.kitOne K (.type "tuple") (.type "tuple") = some true := by kernel_rfl
theorem kit_ni : PySem.W.kitOne K (.type "NoneType") (.type "int") = some false := by kernel_rfl
theorem kit_ns : PySem.W.kitOne K (.type "NoneType") (.type "str") = some false := by kernel_rfl
theorem kit_ls : PySem.W.kitOne K (.type "list") (.type "str") = some false := by kernel_rfl
theorem kit_ti : PySem.W.kitOne K (.type "tuple") (.type "int") = some false := by kernel_rfl
theorem kit_ts : PySem.W.kitOne K (.type "tuple") (.type "str") = some false := by kernel_rfl
end
end L2

namespace L2
open PySem PySem.Spec PyProof.Rows


section
variable {prog : Program} {w : World} {A : Around} {E : Value → Shared → Prop} {s : Shared}
end
end L2

namespace L2
open PySem PySem.Spec PyProof.Rows

end L2

namespace L2
open PySem PySem.Spec PyProof.Rows
section
variable {prog : Program} {w : World} {A : Around} {E : Value → Shared → Prop} {s : Shared}
end

section
variable {X : Cx} {pins : List (Addr × Obj)} {σ : St} {H : Hp} {s : Shared} {h' : Heap}
end
section
variable {X : Cx}
end
end L2

namespace L2
open PySem PySem.Spec PyProof.Rows


end L2

namespace L2
open PySem PySem.Spec PyProof.Rows

end L2

namespace L2
open PySem PySem.Spec PyProof.Rows


theorem ObjOk.there {P : Program} {w : World} {H : Hp} {h : Heap} {a : Addr} {o : HO} (x : ObjOk P w H h a o) : ∃ u, h.get? a = some u := by
  cases o with
  | lst xs => obtain ⟨_, _, _, _, e⟩ := x; exact ⟨_, e⟩
  | tup xs => obtain ⟨_, _, _, o, e, _⟩ := x; exact ⟨_, e⟩
  | dK kvs => obtain ⟨_, _, _, _, o, _, _, e, _⟩ := x; exact ⟨_, e⟩
  | dT kvs => obtain ⟨_, _, _, _, o, _, _, e, _⟩ := x; exact ⟨_, e⟩
  | set S n => obtain ⟨o, _, _, _, e, _⟩ := x; exact ⟨_, e⟩
  | ins C dx fs => obtain ⟨_, _, _, e, _⟩ := x; exact ⟨_, e⟩
  | own y => exact x
  | xd fs => obtain ⟨_, ⟨_, _, _, e, _⟩, _⟩ := x; exact ⟨_, e⟩
  | rng lo hi => obtain ⟨_, _, _, e⟩ := x; exact ⟨_, e⟩
  | frz ob u => obtain ⟨e, _⟩ := x; exact ⟨_, e⟩
  | tbl ps => exact ⟨_, (show h.get? a = some _ from x)⟩
  | met f y => exact ⟨_, (show h.get? a = some _ from x)⟩
  | ext φ => obtain ⟨_, e, _⟩ := x; exact e
theorem HOk.not {P : Program} {w : World} {H : Hp} {h : Heap} {a : Addr} (x : HOk P w H h) (e : h.get? a = none) : H a = none := by
  cases q : H a with
  | none => rfl
  | some o =>
    obtain ⟨u, z⟩ := (x a o q).there
    rw [e] at z; cases z

structure Fly (h0 : Heap) (H : Hp) (h : Heap) (e : Addr) (cls : Value) : Prop where
  ex : ∃ oe vs a0 T oT ts, h.get? e = some oe ∧ (oe.cls = cls ∧ vs[0]? = some a0) ∧ oe.data = .fields vs ∧ vs[1]? = some (.ref T) ∧ (h0.get? T = none ∧ H T = none) ∧ T ≠ e ∧ h.get? T = some oT ∧ oT.data = .fields ts ∧ ts[3]? = some .none
  new : h0.get? e = none
  un : H e = none
def CXe (P : Program) (w : World) : CXT := fun outer H s E ev s' => ∃ e cls H', ev = .ref e ∧ s'.os = s.os ∧ AllBare s'.gens ∧ Un (frs outer) [] H H' s.heap s'.heap ∧ HOk P w H' s'.heap ∧ Fly s.heap H' s'.heap e cls ∧ E cls none H'
theorem quietE {P : Program} {w : World} : Quiet (CXe P w) := fun _ _ _ _ _ ⟨_, _, _, _, _, _, _, _, _, h⟩ => h

theorem rebase {h b b' : Heap} : ∀ {l : List Env}, h.FunFrames b l → (∀ a ∈ frs l, b'.get? a = none) → h.FunFrames b' l
  | [], _, _ => trivial
  | env :: r, ⟨hk, ⟨L, o, hf, hn, ho, hd⟩, hr⟩, k => by
    have e : frs (env :: r) = L :: frs r := by unfold frs; rw [List.filterMap_cons, hf]
    rw [e] at k
    exact ⟨hk, ⟨L, o, hf, k L List.mem_cons_self, ho, hd⟩, rebase hr fun a ha => k a (List.mem_cons_of_mem _ ha)⟩

abbrev less (h : Heap) (l : List Addr) : Heap := PySem.W.hideAll h l
theorem less_stays (h : Heap) (l : List Addr) : (less h l).StaysIn h := fun _ _ e => PySem.W.of_hideAll l e

section
variable {P : Program} {w : World} {H H' : Hp} {h h' h'' bs : Heap} {l : List Env} {hid : List Addr}

theorem un_upto (u : Un (frs l) [] H H' h h') (ok : HOk P w H' h') (fr : h'.FunFrames bs l) (fre : ∀ b ∈ frs l, H' b = none) (hh : ∀ b ∈ hid, h.get? b = none ∧ H' b = none)
    (st : (less h' (hid ++ frs l)).StaysIn h'') (up : h'.UpToSlots h'') : Un (frs l) [] H H' h h'' ∧ HOk P w H' h'' := by
  have kp : ∀ b o, h'.get? b = some o → b ∉ hid → b ∉ frs l → h''.get? b = some o := fun b o e n1 n2 => st b o (PySem.W.hideAll_get _ e fun z => (List.mem_append.mp z).elim n1 n2)
  have nh : ∀ b o, h.get? b = some o → b ∉ hid := fun b o e z => by rw [(hh b z).1] at e; cases e
  have fs : ∀ b o, h'.get? b = some o → b ∈ frs l → ∃ sl, h''.get? b = some { o with slots := sl } := fun b o e hb => by
    obtain ⟨_, o', e', nf⟩ := fr.mem hb
    rw [e] at e'; cases e'
    exact up b o e nf
  refine ⟨⟨fun b o e n hb hx => kp b o (u.keep b o e n hb hx) (nh b o e) hb, fun b o e n hb hx => ?_, u.free, fun b o e hx => ?_, u.tups, u.frzs, u.tbls⟩, fun a o e => ?_⟩
  · obtain ⟨sl, e1⟩ := u.slot b o e n hb hx
    obtain ⟨sl', e2⟩ := fs b _ e1 hb
    exact ⟨sl', e2⟩
  · obtain ⟨o', e1⟩ := u.there b o e hx
    by_cases hb : b ∈ frs l
    · obtain ⟨sl', e2⟩ := fs b _ e1 hb
      exact ⟨_, e2⟩
    · exact ⟨o', kp b o' e1 (nh b o e) hb⟩
  · refine (ok a o e).stay (fun b v hb q => ?_) (fun _ q => q) fun _ _ q => q
    have tr : ∃ v, H' b = some v := by
      rcases hb with z | z
      · exact ⟨o, z ▸ e⟩
      · exact ⟨_, z⟩
    obtain ⟨v', tr⟩ := tr
    refine kp b v q (fun z => ?_) fun z => ?_
    · rw [(hh b z).2] at tr; cases tr
    · rw [fre b z] at tr; cases tr

theorem entry_new (u : Un (frs l) [] H H' h h') (ok : HOk P w H' h') (fr : h'.FunFrames bs l) (hh : ∀ b ∈ hid, h.get? b = none ∧ H' b = none) (up : h'.UpToSlots h'') {T : Addr} {oT : Obj} {ts : Array Value}
    (e : h''.get? T = some oT) (d : oT.data = .fields ts) (n : (less h' (hid ++ frs l)).get? T = none) : h.get? T = none ∧ H' T = none := by
  have nf : T ∉ frs l := fun z => by
    obtain ⟨_, o', e', nf⟩ := fr.mem z
    obtain ⟨sl, q⟩ := up T o' e' nf
    rw [e] at q
    cases q
    exact nf ts d
  by_cases hb : T ∈ hid
  · exact hh T hb
  · have z : h'.get? T = none := by
      cases q : h'.get? T with
      | none => rfl
      | some o =>
        have z : (less h' (hid ++ frs l)).get? T = some o := PySem.W.hideAll_get _ q fun z => (List.mem_append.mp z).elim hb nf
        rw [n] at z; cases z
    refine ⟨?_, ok.not z⟩
    cases q : h.get? T with
    | none => rfl
    | some o =>
      obtain ⟨o', q'⟩ := u.there T o q (by simp)
      rw [z] at q'; cases q'
end
theorem back {fs : List Addr} {H H' : Hp} {h h' : Heap} (u : Un fs [] H H' h h') {a : Addr} (e : h'.get? a = none) : h.get? a = none := by
  cases q : h.get? a with
  | none => rfl
  | some o =>
    obtain ⟨o', q'⟩ := u.there a o q (by simp)
    rw [e] at q'; cases q'


section
variable {P : Program} {w : World} {K : PySem.W.Frag} {mg : Str → Option Value} {base : Heap} {N : List Str} {qual : Str} {scope : Scope} {f : Addr} {cd : Value} {A : Around} {outer : List Env} {s0 : Shared} {H0 : Hp} {E : XK}

theorem leave_made {pins : List (Addr × Obj)} {σ : St} {H : Hp} {s : Shared} {h' : Heap} {e : Addr} {cls : Value} {args : List Value} (I : Inv (cxOf (CXe P w) P w K mg base N qual scope f cd A outer s0 H0 E) pins σ H s)
    (hx : Heap.MadeExcOf s.heap h' e cls args) (q : E cls none H) : (cxOf (CXe P w) P w K mg base N qual scope f cd A outer s0 H0 E).xe (.ref e) { s with heap := h' } := by
  have fr : s.heap.FunFrames _ (cxOf (CXe P w) P w K mg base N qual scope f cd A outer s0 H0 E).stack := I.stack
  have kin := I.stkFree
  refine wpAny_leaves_madeW (base := less s.heap ([] ++ frs (cxOf (CXe P w) P w K mg base N qual scope f cd A outer s0 H0 E).stack)) (h := s.heap) (L := s0.heap.objs.size) I.ok.frames rfl (less_stays _ _)
    (rebase fr fun a ha => PySem.W.hideAll_none _ (List.mem_append_right _ ha)) hx fun h'' t x1 x2 x3 x4 => ?_
  have up : s.heap.UpToSlots h'' := (Heap.UpToSlots.of_keeps hx.keeps).trans x4
  obtain ⟨y1, y2, y3, oe, vs, T, oT, ts, z1, z2, z3, z4, z5, z6, z7, z8, z9⟩ := x1
  obtain ⟨u, ok⟩ := un_upto (H := H) (hid := []) Un.refl I.hok fr kin (fun b z => by cases z) y1 up
  have J := I.call' (s' := { s with heap := h'' }) (ch := []) rfl u ok I.bare (fun b z => by cases z)
  obtain ⟨n1, n2⟩ := entry_new (H := H) (hid := []) Un.refl I.hok fr (fun b z => by cases z) up z7 z8 z5
  exact ⟨e, cls, H, rfl, J.os, J.bare, J.base, ok, ⟨⟨oe, vs, _, T, oT, ts, z1, z2, z3, z4, ⟨back I.base n1, n2⟩, z6, z7, z8, z9⟩, back I.base hx.new, I.hok.not hx.new⟩, q⟩

theorem leave_on {pins : List (Addr × Obj)} {σ : St} {H : Hp} {s s' : Shared} {e : Value} (I : Inv (cxOf (CXe P w) P w K mg base N qual scope f cd A outer s0 H0 E) pins σ H s)
    (c : CXe P w (cxOf (CXe P w) P w K mg base N qual scope f cd A outer s0 H0 E).stack H s E e s') : (cxOf (CXe P w) P w K mg base N qual scope f cd A outer s0 H0 E).xe e s' := by
  obtain ⟨ea, cls, H', rfl, c1, c2, c3, c4, ⟨⟨oe, vs, a0, T, oT, ts, f1, f2, f3, f4, f5, f6, f7, f8, f9⟩, fn, fu⟩, q⟩ := c
  have J := I.call' (s' := s') (ch := []) c1 c3 c4 c2 (fun b z => by cases z)
  have fr : s'.heap.FunFrames _ (cxOf (CXe P w) P w K mg base N qual scope f cd A outer s0 H0 E).stack := J.stack
  have hh : ∀ b ∈ [ea, T], s.heap.get? b = none ∧ H' b = none := fun b hb => by
    rcases List.mem_cons.mp hb with rfl | hb
    · exact ⟨fn, fu⟩
    · rcases List.mem_cons.mp hb with rfl | hb
      · exact f5
      · cases hb
  refine wpAny_leaves_onW (base := less s'.heap ([ea, T] ++ frs (cxOf (CXe P w) P w K mg base N qual scope f cd A outer s0 H0 E).stack)) (L := s0.heap.objs.size) (cls := cls) (a0 := a0) I.ok.frames rfl
    ⟨less_stays _ _, PySem.W.hideAll_none _ (by simp), rebase fr fun a ha => PySem.W.hideAll_none _ (List.mem_append_right _ ha), oe, vs, T, oT, ts, f1, f2, f3, f4, PySem.W.hideAll_none _ (by simp), f6, f7, f8, f9⟩ fun h'' x1 x4 => ?_
  obtain ⟨y1, y2, y3, oe', vs', T', oT', ts', z1, z2, z3, z4, z5, z6, z7, z8, z9⟩ := x1
  obtain ⟨u, ok⟩ := un_upto c3 c4 fr J.stkFree hh y1 x4
  have J' := I.call' (s' := { s' with heap := h'' }) (ch := []) c1 u ok c2 (fun b z => by cases z)
  obtain ⟨n1, n2⟩ := entry_new c3 c4 fr hh x4 z7 z8 z5
  exact ⟨ea, cls, H', rfl, J'.os, J'.bare, J'.base, ok, ⟨⟨oe', vs', _, T', oT', ts', z1, z2, z3, z4, ⟨back I.base n1, n2⟩, z6, z7, z8, z9⟩, back I.base fn, fu⟩, q⟩
theorem passE : Passes (CXe P w) (cxOf (CXe P w) P w K mg base N qual scope f cd A outer s0 H0 E) E := fun _ _ _ _ _ _ I c => leave_on I c
end
end L2

namespace L2
open PySem PySem.Spec PyProof.Rows


abbrev bmV : List Value := [.type "ValueError", .type "Exception", .type "BaseException", .type "object"]
structure OwnX (K : PySem.W.Frag) (mg : Str → Option Value) (x : Str) (C : Addr) : Prop where
  m : mg x = some (.ref C)
  ok : PySem.W.excIn K C bmV "ValueError.__new__" = true
theorem own_obj {K : PySem.W.Frag} {h : Heap} {C : Addr} {bmB : List Value} {newId : String} (X : K.In h) (q : PySem.W.excIn K C bmB newId = true) :
    ∃ bm N nm qn bs hd sn sub ab col dd k0 k1 k2 k3 k5 mN, h.get? C = some (excClassObj nm qn C N bs bm hd sn sub ab col dd k0 k1 k2 k3 k5 newId) ∧ h.Ns N mN ∧ mN "__init__" = none ∧ OwnTail h bmB bm := by
  unfold PySem.W.excIn at q
  split at q
  · rename_i dct cdt slo hob
    split at q
    · rename_i C2 bmx j0 j1 j2 j3 nw j5 hmr hsl
      simp only [Bool.and_eq_true, beq_iff_eq, Bool.not_eq_true'] at q
      obtain ⟨⟨⟨⟨⟨q1, q2⟩, q3⟩, q4⟩, q5⟩, q6⟩ := q
      subst q1 q2
      obtain ⟨nm, bs, mro, ns, qn, hd, sn, sub, ab, col, del⟩ := cdt
      dsimp only at hmr q3 q5 q6
      subst hmr q3
      have es : slo = #[j0, j1, j2, j3, some (.builtin nw), j5] := by
        obtain ⟨l⟩ := slo
        simp only at hsl
        rw [hsl]
      subst es
      exact ⟨bmx, ns, nm, qn, bs, hd, sn, sub, ab, col, dct, j0, j1, j2, j3, j5, _, X _ _ hob, .of_isNs (PySem.W.isNs_of_in X q5), PySem.W.nsMap_none_of_in X q5 q6, PySem.W.tail_of_in X q4⟩
    · cases q
  · cases q

def Raises (X : Cx) (E : XK) : Prop := ∀ (pins : List (Addr × Obj)) (σ : St) (H : Hp) (s : Shared) (h' : Heap) (e : Addr) (cls : Value) (args : List Value), Inv X pins σ H s → Heap.MadeExcOf s.heap h' e cls args → E cls none H → X.xe (.ref e) { s with heap := h' }
theorem raisesE {P : Program} {w : World} {K : PySem.W.Frag} {mg : Str → Option Value} {base : Heap} {N : List Str} {qual : Str} {scope : Scope} {f : Addr} {cd : Value} {A : Around} {outer : List Env} {s0 : Shared} {H0 : Hp} {E : XK} :
    Raises (cxOf (CXe P w) P w K mg base N qual scope f cd A outer s0 H0 E) E := fun _ _ _ _ _ _ _ _ I hx q => leave_made I hx q
def tRaise (te : TE) (cls : Value) (E : XK) : TS := fun _ σ H => te σ H fun _ H1 => E cls none H1
section
variable {X : Cx}
theorem ps_raise {x : Str} {C : Addr} {np cpos pos : Pos} {e : Expr} {te : TE} {E : XK} (o : OwnX X.K X.mg x C) (hE : Raises X E) (ha : PE X e te) (hc : X.calm = true := by rfl) (hg : Gl X x := by rfl) (hd : (x == ("__debug__" : Str)) = false := by decide)
    (he : starEach [e] X.env = (false, eval e X.env) :: starEach [] X.env := by rfl) : PS X (.Raise (some (.Call (.Name x np) [e] [] cpos)) none pos) (tRaise te (.ref C) E) := by
  intro pins s σ H D I h
  obtain ⟨bm, N, nm, qn, bs, hdt, sn, sub, ab, col, dd, k0, k1, k2, k3, k5, mN, hC, hN, hni, T⟩ := own_obj I.mod.kin o.ok
  refine wpAny_Raise_call_subT (C := C) (nm := nm) (q := qn) (N := N) (bs := bs) (bm := bm) (hdct := hdt) (sn := sn) (sub := sub) (ab := ab) (col := col) (dd := dd) (k0 := k0) (k1 := k1) (k2 := k2) (k3 := k3) (k5 := k5) (mN := mN)
    F.excBase_ValueError (T.hasType F.excBase_ValueError.hasBase) (I.ok.hd hc) (by rw [he]; rfl) hni (ld_glob I hg o.m ⟨rfl, ?_⟩ hd)
  have ha' := pa_cons ha pa_nil he cpos pins s σ H (fun vs H1 => vs.length = 1 ∧ E (.ref C) none H1) I (by
    refine (?_ : tCons te tNil σ H _)
    exact (show te σ H _ from by
      have e1 : (fun x H1 => tNil σ H1 fun xs H2 => (x :: xs).length = 1 ∧ E (Value.ref C) none H2) = fun (_ : V) H1 => E (Value.ref C) none H1 := by
        funext x H1; simp [tNil]
      rw [e1]; exact h))
  rw [he] at ha' ⊢
  refine Calls.evalArgs_plain (wpAny_mono ha' (fun us s2 z => ?_) fun _ _ y => y)
  obtain ⟨vs, H1, I2, r, hl, q⟩ := z
  refine ⟨rfl, by rw [← r.length, hl]; decide, I2.bk _ _ hC, hN.keeps I2.bk, T.keeps I2.bk, fun h' e hm => hE pins σ H1 s2 h' e _ us I2 hm q⟩
end


def ExcIs (e : Addr) (cls : Value) (h : Heap) : Prop := ∃ o vs, h.get? e = some o ∧ o.cls = cls ∧ o.data = .fields vs
structure ExcC (K : PySem.W.Frag) (C : Addr) : Prop where
  ga : PySem.W.findIn K (.ref C) "__getattribute__" = some (some (.builtin "BaseException.__getattribute__"))
  gt : PySem.W.findIn K (.ref C) "__getattr__" = some none
  ca : PySem.W.findIn K (.ref C) "__class__" = some (some (.builtin "object.__class__"))
  m1 : PySem.W.subIn K (.ref C) (.type "object") = some true
  m2 : PySem.W.subIn K (.ref C) (.type "BaseException") = some true
  cl : (PySem.W.clsIn K C).isSome = true
section
variable {prog : Program} {w : World} {A : Around} {E : Value → Shared → Prop} {h : Heap} {g : Array GenState} {d : Drawn} {t : Nat} {os : OsState} {a C : Addr} {o : Obj} {vs : Array Value}
theorem xcls_get {R : Result → Shared → Prop} (hx : h.get? a = some o) (hc : o.cls = .ref C) (S : PySem.W.Looks (model prog w) h (isSubtype (.ref C) (.type "object")) true) (hq : R (.ok (.ret (.ref C))) ⟨h, g, d, t, os⟩) :
    codeAny (model prog w) A (.call (.builtin "getset_descriptor.__get__") ⟨[.builtin "object.__class__", .ref a, .ref C], []⟩) R ⟨h, g, d, t, os⟩ := by
  have hT5 : (⟨h, g, d, t, os⟩ : Shared).TypeIs (.builtin "object.__class__") "getset_descriptor" := F.typeOf_object_class
  have S' : PySem.W.Looks (model prog w) h (isSubtype (.ref C) (.type (".".intercalate ("object.__class__".cutAt '.').dropLast))) true := by rw [F.owner_object_class]; exact S
  refine codeAny_call_builtin F.slot_gs_get.plain F.entry_gs_get (F.slot_gs_get.check _ _ _ _ _ _ _ _ hT5 (F.args_gs_get _ _ _) ?_)
  repeat (any_goals (first | assumption | (with_reducible refine wpAny_loadPart_at hx ?_; rw [hc]) | with_reducible refine S'.at ?_ | wp_step))
  refine ⟨Code.quiet_builtin _ (by decide +kernel), codeAny_builtin F.entry_object_class ?_⟩
  repeat (any_goals (first | assumption | (with_reducible refine wpAny_loadPart_at hx ?_; rw [hc]) | wp_step))
theorem xcls_entry {tk : Tok} {Q : Fin → Shared → Prop} (hx : h.get? a = some o) (hc : o.cls = .ref C) (S : PySem.W.Looks (model prog w) h (isSubtype (.ref C) (.type "object")) true)
    (L : PySem.W.Looks (model prog w) h (typeLookup (.ref C) "__class__") (some (.builtin "object.__class__"))) (hq : Q (.done (.ret (.ref C))) ⟨h, g, d, t, os⟩) :
    wpAny (model prog w) A (Builtin.«object.__getattribute__» ⟨[.ref a, .str "__class__" tk], []⟩) Q E ⟨h, g, d, t, os⟩ := by
  have hT5 : (⟨h, g, d, t, os⟩ : Shared).TypeIs (.builtin "object.__class__") "getset_descriptor" := F.typeOf_object_class
  have f5 := F.typeOf_object_class
  have f6 := F.slot_gs_get.lookup
  have f7 := F.slot_gs_set.lookup
  repeat (any_goals (first | assumption | (with_reducible refine wpAny_loadPart_at hx ?_; rw [hc]) | with_reducible refine L.at ?_ | wp_step))
  refine xcls_get hx hc S ?_
  repeat (any_goals (first | assumption | wp_step))
theorem xcls_check {M : Model} {nv : Value} {Q : Unit → Shared → Prop} (hx : h.get? a = some o) (hc : o.cls = .ref C) (S : PySem.W.Looks M h (isSubtype (.ref C) (.type "BaseException")) true) (hq : Q () ⟨h, g, d, t, os⟩) :
    wpAny M A (checkBuiltinCall "BaseException.__getattribute__" ⟨[.ref a, nv], []⟩) Q E ⟨h, g, d, t, os⟩ := by
  have hk : builtinKind "BaseException.__getattribute__" = some .slot := by decide +kernel
  have hs : splitId "BaseException.__getattribute__" = some ("BaseException", "__getattribute__") := by decide +kernel
  have ha := F.args_bexc_ga (.ref a) nv
  simp only [checkBuiltinCall, hk, hs]
  refine wpAny_bind ?_
  unfold isInstance
  repeat (first | (with_reducible refine wpAny_loadPart_at hx ?_; rw [hc]) | with_reducible refine S.at ?_ | wp_step)
  exact hq
theorem xcls_by {tk : Tok} {Q : Value → Shared → Prop} (hx : h.get? a = some o) (hc : o.cls = .ref C) (S : PySem.W.Looks (model prog w) h (isSubtype (.ref C) (.type "object")) true) (S2 : PySem.W.Looks (model prog w) h (isSubtype (.ref C) (.type "BaseException")) true)
    (L : PySem.W.Looks (model prog w) h (typeLookup (.ref C) "__class__") (some (.builtin "object.__class__"))) (L1 : PySem.W.Looks (model prog w) h (typeLookup (.ref C) "__getattribute__") (some (.builtin "BaseException.__getattribute__")))
    (L2 : PySem.W.Looks (model prog w) h (typeLookup (.ref C) "__getattr__") none) (sl : Slot "ValueError" "__getattribute__" "BaseException.__getattribute__") (hq : Q (.ref C) ⟨h, g, d, t, os⟩) : wpAny (model prog w) A (getAttrBy (.ref a) (.str "__class__" tk) false) Q E ⟨h, g, d, t, os⟩ := by
  have f3 := sl.bind (.ref a)
  have hx2 : (Value.builtin "BaseException.__getattribute__" == Value.builtin "object.__getattribute__") = false := by decide +kernel
  have hx1 : (onTheHeap (Value.ref C) && Value.builtin "BaseException.__getattribute__" == Value.builtin "object.__getattribute__") = false := by rw [hx2]; rfl
  repeat (any_goals (first | assumption | (with_reducible refine wpAny_loadPart_at hx ?_; rw [hc]) | with_reducible refine L1.at ?_ | with_reducible refine L2.at ?_ | wp_step))
  refine codeAny_call_builtin sl.plain F.entry_bexc_ga (xcls_check hx hc S2 (xcls_entry hx hc S L ?_))
  repeat (any_goals (first | assumption | wp_step))
theorem xcls_attr {Q : Option Value → Shared → Prop} (hx : h.get? a = some o) (hc : o.cls = .ref C) (S : PySem.W.Looks (model prog w) h (isSubtype (.ref C) (.type "object")) true) (S2 : PySem.W.Looks (model prog w) h (isSubtype (.ref C) (.type "BaseException")) true)
    (L : PySem.W.Looks (model prog w) h (typeLookup (.ref C) "__class__") (some (.builtin "object.__class__"))) (L1 : PySem.W.Looks (model prog w) h (typeLookup (.ref C) "__getattribute__") (some (.builtin "BaseException.__getattribute__")))
    (L2 : PySem.W.Looks (model prog w) h (typeLookup (.ref C) "__getattr__") none) (sl : Slot "ValueError" "__getattribute__" "BaseException.__getattribute__") (hq : Q (some (.ref C)) ⟨h, g, d, t + 1, os⟩) : wpAny (model prog w) A (getAttr? (.ref a) "__class__") Q E ⟨h, g, d, t, os⟩ := by
  unfold getAttr? getAttrBy?
  repeat (any_goals (first | assumption | with_reducible apply xcls_by hx hc S S2 L L1 L2 sl | wp_step))
end
end L2

namespace L2
open PySem PySem.Spec PyProof.Rows
theorem kitx_exc {K : PySem.W.Frag} {e C : Addr} (c : ExcC K C) (sl : Slot "ValueError" "__getattribute__" "BaseException.__getattribute__") : PySem.W.KitX K (.ref e) (.ref C) (ExcIs e (.ref C)) where
  ty := fun M h _ p => by
    obtain ⟨o, vs, h1, h2, _⟩ := p
    exact h2 ▸ (PySem.W.Looks.ld h1).andThen .now
  it := fun M h X _ => by
    have z := c.cl
    unfold PySem.W.clsIn at z
    split at z
    · rename_i c' d' cd' sl' ho
      intro A' Q' E' s' k q
      unfold isType loadHead
      exact wpAny_bind (wpAny_loadPart (k _ _ (X _ _ ho)) (wpAny_pure q))
    · cases z
  ne := fun h tp dd its n sl X htp => by
    have z := c.cl
    refine Bool.eq_false_iff.mpr fun q => ?_
    have e : C = tp := Value.ref.inj (beq_iff_eq.mp q)
    subst e
    unfold PySem.W.clsIn at z
    split at z
    · rename_i c' d' cd' sl' ho
      have y := (X _ _ ho).symm.trans htp
      cases y
    · cases z
  ca := fun {prog w A E Q s} X p k => by
    obtain ⟨o, vs, h1, h2, _⟩ := p
    obtain ⟨hh, g, d, t, os⟩ := s
    exact xcls_attr h1 h2 (PySem.W.looks_subIn X c.m1) (PySem.W.looks_subIn X c.m2) (PySem.W.looks_findIn X c.ca) (PySem.W.looks_findIn X c.ga) (PySem.W.looks_findIn X c.gt) sl k
section
variable {X : Cx}

def rIsxT (K : PySem.W.Frag) (T : String) : List V → Hp → VK → Prop := fun xs H Q => ∃ e C b, xs = [.ref e, .ty T] ∧ H e = some (.ext (ExcIs e (.ref C))) ∧ ExcC K C ∧ PySem.W.kitOne K (.ref C) (.type T) = some b ∧ Q (.bl b) H
def rIsxC (K : PySem.W.Frag) : List V → Hp → VK → Prop := fun xs H Q => ∃ e C D b, xs = [.ref e, .ref D] ∧ H e = some (.ext (ExcIs e (.ref C))) ∧ ExcC K C ∧ PySem.W.kitOne K (.ref C) (.ref D) = some b ∧ Q (.bl b) H
theorem call_isxT {K : PySem.W.Frag} (T : String) (hK : X.K = K := by rfl) : CallR X (.builtin "isinstance") (rIsxT K T) := by
  subst hK
  intro pins s σ H xs us Q I r h
  obtain ⟨e, C, b, rfl, he, c, hk, q⟩ := h
  obtain ⟨u, c', rfl, rx, rc⟩ := vals2 r
  cases (show c' = .type T from rc)
  cases (show u = .ref e from rx)
  exact PySem.W.kia_one (kitx_exc c F.attr_ValueError.ga) I.kIn (I.hok e _ he).1 hk (fun z => nomatch z) fun tk => ⟨.bl b, H, I.tok _, rfl, q⟩
theorem call_isxC {K : PySem.W.Frag} (hK : X.K = K := by rfl) : CallR X (.builtin "isinstance") (rIsxC K) := by
  subst hK
  intro pins s σ H xs us Q I r h
  obtain ⟨e, C, D, b, rfl, he, c, hk, q⟩ := h
  obtain ⟨u, c', rfl, rx, rc⟩ := vals2 r
  cases (show c' = .ref D from rc)
  cases (show u = .ref e from rx)
  exact PySem.W.kia_one (kitx_exc c F.attr_ValueError.ga) I.kIn (I.hok e _ he).1 hk (fun z => nomatch z) fun tk => ⟨.bl b, H, I.tok _, rfl, q⟩
end


abbrev Xs (X : Cx) (e : Addr) : Cx := { X with A := X.A.mark (some (.ref e)), calm := false, xe := fun _ _ => False }
abbrev Xb (X : Cx) (W : Value → Shared → Prop) (pn : List (Addr × Obj)) : Cx := { X with xe := W, pn := pn }
section
variable {X : Cx} {pins : List (Addr × Obj)} {σ : St} {H : Hp} {s : Shared}
theorem Inv.toXs (I : Inv X pins σ H s) (e : Addr) : Inv (Xs X e) pins σ H s :=
  ⟨⟨I.ok.mod, I.ok.kind, I.ok.glob, I.ok.blt, I.ok.above, I.ok.inj, I.ok.has, I.ok.cab, (fun z => nomatch z), I.ok.frames, I.ok.stk, I.ok.exf, I.ok.bs, I.ok.bsz, I.ok.noex, I.ok.exfs, I.ok.funs, I.ok.frf⟩, I.os, I.bare, I.base, I.loc, I.cell, I.free, I.freeC, I.pin, I.hok, I.len⟩
theorem Inv.ofXs {e : Addr} (I : Inv (Xs X e) pins σ H s) (ok : X.Ok) : Inv X pins σ H s := ⟨ok, I.os, I.bare, I.base, I.loc, I.cell, I.free, I.freeC, I.pin, I.hok, I.len⟩
theorem Inv.toXb (I : Inv X pins σ H s) (W : Value → Shared → Prop) : Inv (Xb X W (X.pn ++ pins)) [] σ H s :=
  ⟨⟨I.ok.mod, I.ok.kind, I.ok.glob, I.ok.blt, I.ok.above, I.ok.inj, I.ok.has, I.ok.cab, I.ok.hd, I.ok.frames, I.ok.stk, I.ok.exf, I.ok.bs, I.ok.bsz, I.ok.noex, I.ok.exfs, I.ok.funs, I.ok.frf⟩, I.os, I.bare, I.base, I.loc, I.cell, I.free, I.freeC, fun p hp => I.pin p (by simpa using hp), I.hok, I.len⟩
theorem Inv.ofXb {W : Value → Shared → Prop} {pins' : List (Addr × Obj)} (ok : X.Ok) (I : Inv (Xb X W (X.pn ++ pins)) pins' σ H s) : Inv X pins σ H s :=
  ⟨ok, I.os, I.bare, I.base, I.loc, I.cell, I.free, I.freeC, fun p hp => I.pin p (List.mem_append_left _ hp), I.hok, I.len⟩
theorem SP.ofXb {W : Value → Shared → Prop} {pins' : List (Addr × Obj)} {D : Ends} {f : Flow} (ok : X.Ok) (h : SP (Xb X W (X.pn ++ pins)) pins' D f s) : SP X pins D f s := by
  cases f with
  | next => obtain ⟨σ', H', I, q⟩ := h; exact ⟨σ', H', I.ofXb ok, q⟩
  | brk => obtain ⟨σ', H', I, q⟩ := h; exact ⟨σ', H', I.ofXb ok, q⟩
  | cont => obtain ⟨σ', H', I, q⟩ := h; exact ⟨σ', H', I.ofXb ok, q⟩
  | ret u => obtain ⟨v, σ', H', I, r, q⟩ := h; exact ⟨v, σ', H', I.ofXb ok, r, q⟩

theorem Inv.track {a : Addr} {o : HO} (I : Inv X pins σ H s) (new : X.s₀.heap.get? a = none) (hx : H a = none) (h1 : a ≠ X.env.locals) (h2 : ∀ x c, X.env.cells.lookup x = some c → c ≠ a) (h3 : ∀ p ∈ X.pn ++ pins, p.1 ≠ a)
    (ok : ObjOk X.prog X.w (upd H a o) s.heap a o) : Inv X pins σ (upd H a o) s := by
  refine ⟨I.ok, I.os, I.bare, ⟨I.base.keep, I.base.slot, fun b u e n hb => ?_, I.base.there, fun b xs e => ?_, fun b u v e => ?_, fun b ps e => ?_⟩, I.loc, I.cell, ?_, fun x c e => ?_, fun p hp => ?_, fun b u e => ?_, I.len⟩
  · have ne : b ≠ a := fun z => by rw [z, new] at e; cases e
    rw [upd_ne ne]; exact I.base.free b u e n hb
  · have z := I.base.tups b xs e
    rw [upd_ne (ne_of_none z hx)]; exact z
  · have z := I.base.frzs b u v e
    rw [upd_ne (ne_of_none z hx)]; exact z
  · obtain ⟨more, z⟩ := I.base.tbls b ps e
    exact ⟨more, by rw [upd_ne (ne_of_none z hx)]; exact z⟩
  · rw [upd_ne (Ne.symm h1)]; exact I.free
  · rw [upd_ne (h2 x c e)]; exact I.freeC x c e
  · obtain ⟨a1, a2, a3⟩ := I.pin p hp
    exact ⟨a1, by rw [upd_ne (h3 p hp)]; exact a2, a3⟩
  · by_cases hb : b = a
    · subst hb; rw [upd_same] at e; cases e; exact ok
    · rw [upd_ne hb] at e
      exact (I.hok b u e).stay (fun _ _ _ q => q) (fun c q => by rw [upd_ne (ne_of_none q hx)]; exact q) fun c xs q => by rw [upd_ne (ne_of_none q hx)]; exact q

theorem Inv.nameless {h' : Heap} {m' : Str → Option Value} {t' : Nat} (I : Inv X pins σ H s) (hn : h'.Ns X.env.locals m') (hs : Heap.SameBut X.env.locals s.heap h') :
    Inv X pins (List.replicate X.N.length none) H { s with heap := h', toks := t' } := by
  have neL : ∀ b o, X.s₀.heap.get? b = some o → b ≠ X.env.locals := fun b o e => Nat.ne_of_lt (Nat.lt_of_lt_of_le (Heap.lt_size e) I.ok.above)
  refine ⟨I.ok, I.os, I.bare, ⟨fun b o e n hb hx => ?_, fun b o e n hb hx => ?_, I.base.free, fun b o e hx => ?_, I.base.tups, I.base.frzs, I.base.tbls⟩, ⟨m', hn, fun i x v e1 e2 e3 => ?_⟩, fun x c e => ?_, I.free, I.freeC, fun p hp => ?_, fun b u e => ?_, by simp⟩
  · exact (hs.2 b (neL b o e)).trans (I.base.keep b o e n hb hx)
  · obtain ⟨sl, e1⟩ := I.base.slot b o e n hb hx
    exact ⟨sl, (hs.2 b (neL b o e)).trans e1⟩
  · obtain ⟨o', e1⟩ := I.base.there b o e hx
    exact ⟨o', (hs.2 b (neL b o e)).trans e1⟩
  · rw [List.getElem?_replicate] at e2
    split at e2 <;> cases e2
  · obtain ⟨v, z⟩ := I.cell x c e
    exact ⟨v, z.sameBut hs (I.cne x c e)⟩
  · obtain ⟨a1, a2, a3, a4⟩ := I.pin p hp
    exact ⟨(hs.2 p.1 a3).trans a1, a2, a3, a4⟩
  · refine (I.hok b u e).stay (fun c v hc q => (hs.2 c ?_).trans q) (fun _ q => q) fun _ _ q => q
    rintro rfl
    rcases hc with rfl | hc
    · rw [I.free] at e; cases e
    · rw [I.free] at hc; cases hc
end
end L2

namespace L2
open PySem PySem.Spec PyProof.Rows
abbrev retOnly (D : Ends) : Ends := { nx := fun _ _ => False, rt := D.rt }
def tTry (K : PySem.W.Frag) (C : Value) (i : Nat) (tb : (Value → St → Hp → Prop) → TS) (ts : TS) : TS := fun D σ H =>
  tb (fun cls σ' H' => PySem.W.exmOne K cls C = some true ∧ ∀ e, H' e = none → ts (retOnly D) (σ'.set i (some (.ref e))) (upd H' e (.ext (ExcIs e cls)))) D σ H

def PassT (X : Cx) (W : Value → Shared → Prop) (pn : List (Addr × Obj)) (R : Value → St → Hp → Prop) : Prop :=
  ∀ (pins : List (Addr × Obj)) (σ : St) (H : Hp) (s : Shared) (e : Value) (s' : Shared), Inv (Xb X W pn) pins σ H s → CXe X.prog X.w X.stack H s (fun cls _ H' => R cls σ H') e s' → W e s'
section
variable {X : Cx}
theorem ps_try {body suite : List Stmt} {b₀ : Stmt} {cx n : Str} {np hp pos : Pos} {i : Nat} {C : Value} {tb : (Value → St → Hp → Prop) → TS} {ts : TS} (hnd : X.N.Nodup) (hi : X.N[i]? = some n) (hl : X.env.kindOf n = some .local)
    (hex : X.ex = []) (hst : X.stack = X.env :: X.outer) (hf : X.env.frame = some X.env.locals) (hm : X.mg cx = some C) (hg : Gl X cx) (hd : (cx == ("__debug__" : Str)) = false)
    (hb : ∀ W pn R, PassT X W pn R → PSs (Xb X W pn) body (tb R)) (hs : ∀ e, PSs (Xs X e) (b₀ :: suite) ts) :
    PS X (.Try body [.ExceptHandler (some (.Name cx np)) (some n) (b₀ :: suite) hp] [] [] pos) (tTry X.K C i tb ts) := by
  intro pins s σ H D I h
  refine wpAny_Try_except ?_
  have key := hb (fun e s₁ => wpAny (model X.prog X.w) X.A (noteFrame e X.env) (fun _ s₂ => wpAny (model X.prog X.w) X.A (setFlight e none) (fun _ s₃ =>
      wpAny (model X.prog X.w) X.A (handleBy e X.env [.ExceptHandler (some (.Name cx np)) (some n) (b₀ :: suite) hp]) (SP X pins D) X.xe s₃) X.xe s₂) X.xe s₁) (X.pn ++ pins) _ (?_) [] s σ H D (I.toXb _) h
  · refine wpAny_mono key (fun f s₁ q => ?_) fun _ _ z => z
    have q' := q.ofXb I.ok
    cases f with
    | next => exact wpAny_execs_nil q'
    | brk => exact q'
    | cont => exact q'
    | ret u => exact q'
  · intro pins' σ' H1 s1 e s' I' c
    have I1 : Inv X pins σ' H1 s1 := I'.ofXb I.ok
    obtain ⟨ea, cls, H', rfl, c1, c2, c3, c4, ⟨⟨oe, vs, a0, T, oT, ts', f1, f2, f3, f4, f5, f6, f7, f8, f9⟩, fn, fu⟩, hx, q⟩ := c
    have J := I1.call' (s' := s') (ch := []) c1 c3 c4 c2 (fun b z => by cases z)
    have fr : s'.heap.FunFrames _ X.stack := J.stack
    have fr' := fr
    rw [hst] at fr'
    have hh : ∀ b ∈ [ea, T], s1.heap.get? b = none ∧ H' b = none := fun b hb => by
      rcases List.mem_cons.mp hb with rfl | hb
      · exact ⟨fn, fu⟩
      · rcases List.mem_cons.mp hb with rfl | hb
        · exact f5
        · cases hb
    have hfr : X.A.frames = some (X.env :: X.outer) := by rw [← hst]; exact I.ok.frames
    have stp : ∀ h'' : Heap, (less s'.heap ([ea, T] ++ frs X.stack)).StaysIn h'' → s'.heap.UpToSlots h'' → Inv X pins σ' H' { s' with heap := h'' } := fun h'' y1 y2 => by
      obtain ⟨u, ok⟩ := un_upto c3 c4 fr J.stkFree hh y1 y2
      exact I1.call' (s' := { s' with heap := h'' }) (ch := []) c1 u ok c2 (fun b z => by cases z)
    refine wpAny_looks_onW (base := less s'.heap ([ea, T] ++ frs X.stack)) (L := X.env.locals) (cls := cls) (a0 := a0) hfr hf
      ⟨less_stays _ _, PySem.W.hideAll_none _ (by simp), rebase fr' fun a ha => PySem.W.hideAll_none _ (List.mem_append_right _ (by rw [hst]; exact ha)), oe, vs, T, oT, ts', f1, f2, f3, f4, PySem.W.hideAll_none _ (by simp), f6, f7, f8, f9⟩ fun h1 g1 up1 => ?_
    refine wpAny_landsW g1 fun h2 g2 up2 => ?_
    have up12 := up1.trans up2
    have J2 := stp h2 g2.1 up12
    have Js := J2.toXs ea
    refine wpAny_handleBy_cons (codeAny_handlers_test (ld_glob (X := Xs X ea) Js hg hm ?_ hd)) (by intro z; cases z)
    have LT : PySem.W.Looks (model X.prog X.w) h2 (typeOf (.ref ea)) cls := by
      obtain ⟨_, _, _, oe2, vs2, T2, oT2, ts2, z1, z2, _⟩ := g2
      exact z2.1 ▸ (PySem.W.Looks.ld z1).andThen .now
    refine (PySem.W.exm_one (K := X.K) J2.kIn LT hx).here ?_
    refine codeAny_handlers_suite_as (lands_againW g2 fun h3 g3 up3 => ?_)
    have J3 := stp h3 g3.1 (up12.trans up3)
    obtain ⟨_, _, _, oe3, vs3, T3, oT3, ts3, z1, z2, z3, _⟩ := g3
    have old : ∀ b o, s1.heap.get? b = some o → b ≠ ea := fun b o e z => by rw [z, fn] at e; cases e
    have b0 : Un X.fs [] X.H₀ H1 X.s₀.heap s1.heap := by
      have z := I1.base
      rw [hex] at z
      exact z
    have J4 : Inv X pins σ' (upd H' ea (.ext (ExcIs ea cls))) { s' with heap := h3 } := by
      refine J3.track (back b0 fn) fu ?_ (fun x c e => ?_) (fun p hp' => ?_) ⟨⟨oe3, vs3, z1, z2.1, z3⟩, ⟨oe3, z1⟩, fun h1 h2 ⟨o, v, a1, a2, a3⟩ k => ⟨o, v, k o a1, a2, a3⟩⟩
      · obtain ⟨m, ⟨o, _, _, ho, _⟩, _⟩ := I1.loc
        exact Ne.symm (old _ o ho)
      · obtain ⟨v, o, ho, _⟩ := I1.cell x c e
        exact old c o ho
      · exact old _ _ (I1.pin p hp').1
    refine store_ok (X := Xs X ea) (J4.toXs ea) hnd hi (.inl hl) (v := .ref ea) rfl (fun s5 J5 => ?_) (.inr hl)
    refine wpAny_mono (hs ea pins s5 _ _ _ J5 (q ea fu)) (fun f s6 z => ?_) fun _ _ z => False.elim z
    cases f with
    | next => obtain ⟨_, _, _, z⟩ := z; exact False.elim z
    | brk => obtain ⟨_, _, _, z⟩ := z; exact False.elim z
    | cont => obtain ⟨_, _, _, z⟩ := z; exact False.elim z
    | ret u =>
      obtain ⟨v, σ6, H6, J6, r6, q6⟩ := z
      have J6' := J6.ofXs I.ok
      obtain ⟨m, hn, _⟩ := J6'.loc
      refine wpAny_nameGoes hl hn (by rw [I.ok.kind]; rfl) fun h7 m7 hn7 sb => ?_
      exact ⟨v, _, H6, J6'.nameless hn7 sb, r6, q6⟩

def tCallS (sp : Sp) (dvs : List V) (R : Value → St → Hp → Prop) (t : TA) : TE := fun σ H Q => t σ H fun vs H1 => sp (vs ++ dvs) H1 Q (fun cls _ H' => R cls σ H')
theorem pe_callS {W : Value → Shared → Prop} {pn : List (Addr × Obj)} {R : Value → St → Hp → Prop} {j k : Nat} {x : Str} {ps : List Str} {dvs : List V} {sp : Sp} {p pos : Pos} {e : Expr} {es : List Expr} {t : TA}
    (F : Fok X.prog X.w X.K X.mg X.base (CXe X.prog X.w) j x ps dvs sp) (hr : Room k X.A) (pt : PassT X W pn R) (ha : PA (Xb X W pn) (e :: es) t) (hj : j ≤ k := by decide) (hg : Gl X x := by rfl)
    (hdb : (x == ("__debug__" : Str)) = false := by decide) (he : starEach (e :: es) X.env = (false, eval e X.env) :: starEach es X.env := by rfl) (hpl : (backTo pos (starEach es X.env)).any (·.1) = false := by rfl) :
    PE (Xb X W pn) (.Call (.Name x p) (e :: es) [] pos) (tCallS sp dvs R t) := by
  obtain ⟨f, fd, ds, G, b, v, kp, m⟩ := F.ex
  intro pins s σ H Q I h
  refine wpAny_Call_Name_kw (ld_glob I hg m ?_ hdb)
  refine PySem.W.callWith_K (h₀ := X.base) I.ok.mod.kin kp (thn (ha pos pins s σ H _ I h) fun us s1 ⟨vs, H1, I1, r, q⟩ => ⟨I1.kIn, ?_⟩) he hpl
  have r2 : Vals (vs ++ dvs) (us ++ ds) := r.append v
  have hl : (us ++ ds).length = ps.length := by rw [← r2.length]; exact G.len _ _ _ _ q
  refine wpAny_call (codeAny_mono (G.run X.A X.stack s1 H1 ⟨us, []⟩ (us ++ ds) (vs ++ dvs) Q _ (hr.mono hj) I1.env0 (b s1 us I1.kIn hl) r2 q) fun r s' hq => ?_)
  cases r with
  | error e => exact pt pins σ H1 s1 e s' I1 hq
  | ok fl =>
    cases fl with
    | ret u => exact I1.after hq
    | next => exact False.elim hq
    | brk => exact False.elim hq
    | cont => exact False.elim hq
end
end L2

namespace L2
open PySem PySem.Spec PyProof.Rows

section
variable {prog : Program} {w : World} {A : Around} {E : Value → Shared → Prop} {s : Shared} {x : Str} {t : Tok}
end
section
variable {X : Cx} {tg : Expr}
end
end L2

namespace L2
open PySem PySem.Spec PyProof.Rows

def clo (env : Env) (xs : List Str) : List (Str × Addr) := xs.map fun x => (x, (env.cells.lookup x).getD 0)
def CapsOk (env : Env) (scope : Scope) (xs caps : List Str) : Prop := ∀ x ∈ caps, env.kindOf x = some .cell ∧ (relabel scope env).names.lookup x = some .cell ∧ x ∈ xs
theorem capsOk_nil {env : Env} {scope : Scope} {xs : List Str} : CapsOk env scope xs [] := fun _ h => by cases h
theorem capsOk_cons {env : Env} {scope : Scope} {xs : List Str} {x : Str} {r : List Str} (h1 : env.kindOf x = some .cell) (h2 : (relabel scope env).names.lookup x = some .cell) (h3 : x ∈ xs) (h : CapsOk env scope xs r) : CapsOk env scope xs (x :: r) := fun y hy => by
  rcases List.mem_cons.mp hy with rfl | hy
  · exact ⟨h1, h2, h3⟩
  · exact h y hy
theorem clo_of {env : Env} {x : Str} {c : Addr} : ∀ {xs : List Str}, x ∈ xs → env.cells.lookup x = some c → (clo env xs).lookup x = some c
  | [], h, _ => by cases h
  | y :: r, h, e => by
    unfold clo
    rw [List.map_cons, List.lookup_cons]
    by_cases z : x = y
    · subst z; simp [e]
    · have zb : (x == y) = false := by simpa using z
      rw [zb]
      rcases List.mem_cons.mp h with q | q
      · exact absurd q z
      · exact clo_of q e
theorem clo_has {env : Env} {x : Str} : ∀ {xs : List Str}, x ∈ xs → ∃ c, (clo env xs).lookup x = some c
  | [], h => by cases h
  | y :: r, h => by
    unfold clo
    rw [List.map_cons, List.lookup_cons]
    by_cases z : x = y
    · subst z; exact ⟨_, by simp; rfl⟩
    · have zb : (x == y) = false := by simpa using z
      rw [zb]
      rcases List.mem_cons.mp h with q | q
      · exact absurd q z
      · exact clo_has q
theorem clo_sub {env : Env} {x : Str} {c : Addr} {xs : List Str} (hin : (xs.all fun x => (env.cells.lookup x).isSome) = true) (e : (clo env xs).lookup x = some c) : env.cells.lookup x = some c := by
  induction xs with
  | nil => cases e
  | cons y r ih =>
    unfold clo at e
    rw [List.map_cons, List.lookup_cons] at e
    rw [List.all_cons, Bool.and_eq_true] at hin
    by_cases z : x = y
    · subst z
      obtain ⟨a, ha⟩ := Option.isSome_iff_exists.mp hin.1
      rw [ha] at e ⊢
      simpa using e
    · have zb : (x == y) = false := by simpa using z
      rw [zb] at e
      exact ih hin.2 e
theorem caps_len {σ : St} {vs : List V} {is : List Nat} {N N' caps : List Str} {k : Nat} (hvs : is.map (fun i => σ[i]?) = vs.map fun v => some (some v)) (his : is.map (N[·]?) = caps.map some) (hN : N'.drop k = caps) (hk : k ≤ N'.length) :
    (List.replicate k (none : Option V) ++ vs.map some).length = N'.length := by
  have h1 := congrArg List.length hvs
  have h2 := congrArg List.length his
  have h3 := congrArg List.length hN
  simp only [List.length_map, List.length_drop, List.length_append, List.length_replicate] at *
  omega
theorem caps_at {σ : St} {vs : List V} {is : List Nat} {N N' caps : List Str} {k i : Nat} {x : Str} {v : V} (hvs : is.map (fun i => σ[i]?) = vs.map fun v => some (some v)) (his : is.map (N[·]?) = caps.map some) (hN : N'.drop k = caps)
    (e1 : N'[i]? = some x) (e2 : (List.replicate k (none : Option V) ++ vs.map some)[i]? = some (some v)) : ∃ j : Nat, N[j]? = some x ∧ x ∈ caps ∧ σ[j]? = some (some v) := by
  have hik : k ≤ i := by
    by_cases h : k ≤ i
    · exact h
    · rw [List.getElem?_append_left (by simpa using h), List.getElem?_replicate] at e2
      split at e2 <;> cases e2
  rw [List.getElem?_append_right (by simpa using hik), List.length_replicate] at e2
  have e1' : caps[i - k]? = some x := by rw [← hN, List.getElem?_drop, Nat.add_sub_cancel' hik]; exact e1
  have ev : vs[i - k]? = some v := by
    rw [List.getElem?_map] at e2
    cases z : vs[i - k]? with
    | none => rw [z] at e2; cases e2
    | some a => rw [z] at e2; cases e2; rfl
  have q1 := congrArg (·[i - k]?) hvs
  have q2 := congrArg (·[i - k]?) his
  simp only [List.getElem?_map, ev, e1', Option.map_some] at q1 q2
  cases z : is[i - k]? with
  | none => rw [z] at q1; cases q1
  | some j =>
    rw [z] at q1 q2
    exact ⟨j, Option.some.inj q2, List.mem_of_getElem? e1', Option.some.inj q1⟩
theorem caps_keep {σ : St} {vs : List V} {k : Nat} (h : σ.drop k = vs.map some) (i : Nat) (v : V) (e : (List.replicate k (none : Option V) ++ vs.map some)[i]? = some (some v)) : σ[i]? = some (some v) := by
  have hik : k ≤ i := by
    by_cases h : k ≤ i
    · exact h
    · rw [List.getElem?_append_left (by simpa using h), List.getElem?_replicate] at e
      split at e <;> cases e
  rw [List.getElem?_append_right (by simpa using hik), List.length_replicate, ← h, List.getElem?_drop, Nat.add_sub_cancel' hik] at e
  exact e
theorem all_of {names : List (Str × NameKind)} {xs : List Str} (h : (names.all fun y => !(y.2 == .cell || y.2 == .free) || xs.contains y.1) = true) : ∀ y ∈ names, (y.2 = .cell ∨ y.2 = .free) → y.1 ∈ xs := fun y hy hk => by
  have z := List.all_eq_true.mp h y hy
  rcases hk with e | e
  · rw [e] at z
    exact List.contains_iff_mem.mp (by simpa using z)
  · rw [e] at z
    exact List.contains_iff_mem.mp (by simpa using z)
def cxCompC (X : Cx) (N' : List Str) (scope : Scope) (xs : List Str) (C : Addr) (s0 : Shared) (H0 : Hp) (fp : List Addr) (pins : List (Addr × Obj)) : Cx where
  prog := X.prog
  w := X.w
  K := X.K
  mg := X.mg
  base := X.base
  A := X.A
  N := N'
  s₀ := s0
  H₀ := H0
  env := compEnvC scope (clo X.env xs) C X.env
  outer := X.stack
  stack := X.stack
  ex := fp
  fn := fun _ => false
  calm := X.calm
  pn := X.pn ++ pins
  xe := fun _ _ => False

def compKC (σ0 : St) (k : Nat) (cs : St) (g : TG) (te : TE) (Q : VK) : It → Hp → Prop := fun J H1 => ∀ D, H1 D = none → ∃ W : Nat → Nat → List V → Hp → Prop, (∃ m, W 0 m [] (upd H1 D (.lst []))) ∧
  ∀ i m ys H2, W i m ys H2 → H2 D = some (.lst ys) ∧ ((J.stop i H2 ∧ Q (.ref D) H2) ∨ (J.go i H2 ∧ ys.length < sizeLine ∧
    ∀ x H', J.yld i H2 x H' → g x σ0 H' fun σ2 H3 => σ2.drop k = cs ∧ te σ2 H3 fun y H4 => H4 D = some (.lst ys) ∧ ∃ m', m' < m ∧ W (i + 1) m' (ys ++ [y]) (upd H4 D (.lst (ys ++ [y])))))
def tCompC (is : List Nat) (k : Nat) (wi : TI) (g : TG) (te : TE) : TE := fun σ H Q => ∃ vs : List V, is.map (fun i => σ[i]?) = vs.map (fun v => some (some v)) ∧ wi σ H (compKC (List.replicate k none ++ vs.map some) k (vs.map some) g te Q)
section
variable {X : Cx} {elt tg iter cnd : Expr} {scope : Scope} {pos : Pos} {N' : List Str} {wi : TI} {g : TG} {te : TE} {tt : TT}
theorem pe_compC (xs caps : List Str) (is : List Nat) (k : Nat) (hclos : closureFor scope X.env = pure (clo X.env xs)) (hin : (xs.all fun x => (X.env.cells.lookup x).isSome) = true) (hcap : CapsOk X.env scope xs caps) (his : is.map (X.N[·]?) = caps.map some) (hN : N'.drop k = caps) (hk : k ≤ N'.length)
    (hallB : ((relabel scope X.env).names.all fun y => !(y.2 == .cell || y.2 == .free) || xs.contains y.1) = true) (hcell : ∀ y ∈ scope.names, y.2 ≠ .cell) (hkind : scope.kind = .function) (hnames : ∀ y ∈ scope.names, y.2 = .local → scope.names.lookup y.1 = some .local)
    (hcalm : X.calm = true) (hi : PI X tg iter wi) (hg : ∀ C s0 H0 fp pins, PG (cxCompC X N' scope xs C s0 H0 fp pins) tg g) (he : ∀ C s0 H0 fp pins, PE (cxCompC X N' scope xs C s0 H0 fp pins) elt te)
    (hs : ∀ x, foldedSetIterable iter X.env x = pure x := by intro _; rfl) : PE X (.ListComp elt [⟨tg, iter, [], 0⟩] scope pos) (tCompC is k wi g te) := by
  intro pins s σ H Q I h
  have hall := all_of hallB
  obtain ⟨vs, hvs, h⟩ := h
  rw [eval_ListComp]
  refine wpAny_comprehension_free (use := none) rfl hs hclos hkind hnames (thn (hi pins s σ H _ I h) fun v s1 h1 => thn h1 fun itv s2 h2 => ?_)
  obtain ⟨it, fp, tn, J, H2, e, I2, T, st2, f2, hW⟩ := h2
  subst e
  refine wpAny_newObj_type (wpAny_newFunctionEnv hcell (by intro y hy; simp at hy) (fun h₁ hns₁ hsb₁ => ?_) hkind)
  dsimp only at hns₁ hsb₁ ⊢
  generalize hH2 : s2.heap.push { cls := .type "list", dict := none, data := .seq ([] : List Value).toArray } = P2 at hns₁ hsb₁ ⊢
  have hC : P2.objs.size = s2.heap.objs.size + 1 := by rw [← hH2, Heap.size_push]
  have below : ∀ b, b < s2.heap.objs.size → b ≠ P2.objs.size ∧ b ≠ s2.heap.objs.size := fun b hb => ⟨by rw [hC]; exact Nat.ne_of_lt (Nat.lt_succ_of_lt hb), Nat.ne_of_lt hb⟩
  have hDC : s2.heap.objs.size ≠ P2.objs.size := by rw [hC]; exact Nat.ne_of_lt (Nat.lt_succ_self _)
  have old : ∀ b o, s2.heap.get? b = some o → h₁.get? b = some o := fun b o e => hsb₁.extBut b o (below b (Heap.lt_size e)).1 (Heap.get?_push_of_some _ (hH2 ▸ Heap.get?_push_of_some _ e))
  have hD : h₁.get? s2.heap.objs.size = some { cls := .type "list", dict := none, data := .seq ([] : List Value).toArray } := hsb₁.extBut _ _ hDC (Heap.get?_push_of_some _ (hH2 ▸ Heap.get?_push_size _ rfl))
  have frD : H2 s2.heap.objs.size = none := I2.hok.fresh (Nat.le_refl _)
  have frC : H2 P2.objs.size = none := I2.hok.fresh (by rw [hC]; exact Nat.le_succ _)
  have hfp : ∀ b ∈ fp, b < s2.heap.objs.size := fun b hb => by
    obtain ⟨o, e, _⟩ := T.obj _ _ st2 b hb
    exact Heap.lt_size e
  have nst : ∀ b, b ≠ X.env.locals → b ∉ X.fs → b ∉ frs X.stack := fun b n1 n2 z => by
    rcases List.mem_cons.mp (I2.stkSub b z) with e | e
    · exact n1 e
    · exact n2 e
  obtain ⟨W, ⟨m0, w0⟩, turn⟩ := hW s2.heap.objs.size frD
  have csub : ∀ (x : Str) (c : Addr), (clo X.env xs).lookup x = some c → X.env.cells.lookup x = some c := fun x c e => clo_sub hin e
  have cold : ∀ (x : Str) (c : Addr), (clo X.env xs).lookup x = some c → ∃ v, s2.heap.IsCell c v := fun x c e => I2.cell x c (csub x c e)
  have clt : ∀ (x : Str) (c : Addr), (clo X.env xs).lookup x = some c → c < s2.heap.objs.size := fun x c e => by
    obtain ⟨v, o, ho, _⟩ := cold x c e
    exact Heap.lt_size ho
  have ok' : (cxCompC X N' scope xs P2.objs.size s2 H2 fp pins).Ok := by
    refine ⟨I2.ok.mod, hkind, I2.ok.glob, I2.ok.blt, ?_, fun x y c e e' => I2.ok.inj x y c (csub x c e) (csub y c e'), fun x hx => ?_, (fun x c z _ => by cases z), I2.ok.hd, I2.ok.frames, .inl rfl, fun b hb => ⟨(below b (hfp b hb)).1, fun x c e => (f2 b hb).2.2.2.2.1 x c (csub x c e)⟩, I2.bs, Nat.le_trans I2.ok.bsz I2.sz, fun b o e hb => ?_, fun b hb => nst b (f2 b hb).2.1 (f2 b hb).2.2.1, I2.stack, I2.stkFree⟩
    · show s2.heap.objs.size ≤ P2.objs.size
      rw [hC]; exact Nat.le_succ _
    · have hx' : (relabel scope X.env).names.lookup x = some .cell ∨ (relabel scope X.env).names.lookup x = some .free := hx
      rcases hx' with z | z
      · exact clo_has (hall _ (PySem.mem_of_lookup z) (.inl rfl))
      · exact clo_has (hall _ (PySem.mem_of_lookup z) (.inr rfl))
    · rcases (f2 b hb).2.2.2.1 with z | z
      · exact I2.ok.noex b o e z
      · exact absurd (Nat.lt_of_lt_of_le (Heap.lt_size (I2.ok.bs b o e).1) z) (Nat.lt_irrefl _)
  have I' : Inv (cxCompC X N' scope xs P2.objs.size s2 H2 fp pins) [] (List.replicate k none ++ vs.map some) (upd H2 s2.heap.objs.size (.lst [])) { s2 with heap := h₁, toks := s2.toks + ([] : List (Str × Value)).length } := by
    refine ⟨ok', rfl, I2.bare, Un.laid old (Nat.le_refl _) frD, ⟨_, hns₁, fun i x v e1 e2 e3 => ?_⟩, fun x c e => ?_, ?_, fun x c e => ?_, fun p hp => ?_, I2.hok.laid old (Nat.le_refl _) ⟨by simp, [], 0, .nil, hD⟩, ?_⟩
    · obtain ⟨j, ej, hj1, hj2⟩ := caps_at hvs his hN e1 e2
      obtain ⟨hc1, hc2, hc3⟩ := hcap x hj1
      obtain ⟨m, hn, hl⟩ := I2.loc
      obtain ⟨u, r, l⟩ := hl j x v ej hj2 (.inr (.inl hc1))
      refine ⟨u, r, .inr ⟨.inl hc2, ?_⟩⟩
      rcases l with ⟨z, _⟩ | ⟨_, c, ec, ⟨o, ho, hd⟩⟩
      · rw [show X.env.kindOf x = some .cell from hc1] at z; cases z
      · exact ⟨c, clo_of hc3 ec, o, old _ _ ho, hd⟩
    · obtain ⟨v, o, ho, hd⟩ := cold x c e
      exact ⟨v, o, old _ _ ho, hd⟩
    · show upd H2 s2.heap.objs.size (.lst []) P2.objs.size = none
      rw [upd_ne (Ne.symm hDC)]; exact frC
    · show upd H2 s2.heap.objs.size (.lst []) c = none
      rw [upd_ne (below _ (clt x c e)).2]; exact I2.freeC x c (csub x c e)
    · have hp' : p ∈ X.pn ++ pins := by
        rcases List.mem_append.mp hp with z | z
        · exact z
        · cases z
      obtain ⟨a1, a2, a3, a4, a5⟩ := I2.pin p hp'
      refine ⟨old _ _ a1, ?_, (below _ (Heap.lt_size a1)).1, nst _ a3 a4, a5⟩
      rw [upd_ne (below _ (Heap.lt_size a1)).2]; exact a2
    · show (List.replicate k none ++ vs.map some).length = N'.length
      exact caps_len hvs his hN hk
  have stat : ∀ {H' : Hp}, (∀ b ∈ fp, H' b = none) → ∀ b ∈ fp, FpOk (cxCompC X N' scope xs P2.objs.size s2 H2 fp pins) [] H' b := fun {H'} hn b hb =>
    ⟨hn b hb, (below b (hfp b hb)).1, nst b (f2 b hb).2.1 (f2 b hb).2.2.1, .inl hb, fun x c e => (f2 b hb).2.2.2.2.1 x c (csub x c e), fun p hp => (f2 b hb).2.2.2.2.2 p (by
      rcases List.mem_append.mp hp with z | z
      · exact z
      · cases z)⟩
  have fin : ∀ (ys : List V) (σ' : St) (H' : Hp) (s' : Shared), Inv (cxCompC X N' scope xs P2.objs.size s2 H2 fp pins) [] σ' H' s' → Q (.ref s2.heap.objs.size) H' →
      ∃ m, s'.heap.Ns P2.objs.size m ∧ ∀ h', Heap.SameBut P2.objs.size s'.heap h' → EP X pins σ Q (.ref s2.heap.objs.size) { s' with heap := h' } := by
    intro ys σ' H' s' J1 q
    obtain ⟨m, hm, _⟩ := id J1.loc
    refine ⟨m, hm, fun h' sb => ⟨.ref s2.heap.objs.size, H', ?_, rfl, q⟩⟩
    have ne : ∀ b o, s2.heap.get? b = some o → b ≠ P2.objs.size := fun b o e => (below b (Heap.lt_size e)).1
    refine I2.call' (s' := { s' with heap := h' }) (ch := fp) J1.os ⟨fun b o e n hb hx => ?_, fun b o e n hb hx => ?_, fun b o e n hx => J1.base.free b o e n hx, fun b o e hx => ?_, J1.base.tups, J1.base.frzs, J1.base.tbls⟩ (J1.hok.but J1.free fun b u hb q => (sb.2 b hb).trans q) J1.bare fun b hb => ⟨(f2 b hb).2.2.2.1, (f2 b hb).2.1, (f2 b hb).2.2.2.2.1, (f2 b hb).2.2.2.2.2⟩
    · exact (sb.2 b (ne b o e)).trans (J1.base.keep b o e n hb hx)
    · obtain ⟨sl, z⟩ := J1.base.slot b o e n hb hx
      exact ⟨sl, (sb.2 b (ne b o e)).trans z⟩
    · obtain ⟨o', z⟩ := J1.base.there b o e hx
      exact ⟨o', (sb.2 b (ne b o e)).trans z⟩
  have loop : codeAny (model X.prog X.w) X.A (.compLoop (.ListComp elt [⟨tg, iter, [], 0⟩] scope pos) 0 (.ref it) (.ref s2.heap.objs.size) (compEnvC scope (clo X.env xs) P2.objs.size X.env))
      (compPost (model X.prog X.w) X.A X.xe none (EP X pins σ Q) (.ref s2.heap.objs.size) P2.objs.size)
      { s2 with heap := h₁, toks := s2.toks + ([] : List (Str × Value)).length } := by
    refine compLoop_go (fun n s' => ∃ i ys σ' H', σ'.drop k = vs.map some ∧ Inv (cxCompC X N' scope xs P2.objs.size s2 H2 fp pins) [] σ' H' s' ∧ tn i s'.heap ∧ (∀ b ∈ fp, H' b = none) ∧ W i n ys H') ?_ m0
      ⟨0, [], List.replicate k none ++ vs.map some, _, by simp, I', T.keep _ _ _ st2 (fun b hb o e => old b o e), fun b hb => by rw [upd_ne (below b (hfp b hb)).2]; exact (f2 b hb).1, w0⟩
    rintro n s3 ⟨i, ys, σ3, H3, hd3, J3, st3, fr3, w3⟩
    obtain ⟨hl, q3⟩ := turn i n ys H3 w3
    rcases q3 with ⟨stop, q⟩ | ⟨go, hlt, step⟩
    · refine thn (T.done (cxCompC X N' scope xs P2.objs.size s2 H2 fp pins) rfl rfl rfl hcalm i [] s3 σ3 H3 _ J3 (stat fr3) st3 stop) fun r s4 ⟨hr, J4⟩ => ?_
      subst hr
      exact fin ys σ3 H3 s4 J4 q
    · refine thn (T.item (cxCompC X N' scope xs P2.objs.size s2 H2 fp pins) rfl rfl rfl hcalm i [] s3 σ3 H3 _ J3 (stat fr3) st3 go) fun r s4 ⟨u, hr, h4⟩ => ?_
      subst hr
      refine thn h4 fun _ s5 ⟨x, H5, J5, r5, y5, st5, fr5⟩ => ?_
      have J5' := J5.pinned (stat fr5) (T.obj _ _ st5)
      have J6 : Inv (cxCompC X N' scope xs P2.objs.size s2 H2 fp pins) ([] ++ pinsAt fp s5.heap) (List.replicate k none ++ vs.map some) H5 s5 := J5'.weak (by rw [J5'.len]; exact caps_len hvs his hN hk) (caps_keep hd3)
      refine wpAny_mono (hg _ _ _ _ _ _ s5 _ H5 x u _ J6 r5 (step x H5 y5)) (fun _ s6 ⟨σ6, H6, J7, hd6, q6⟩ => ?_) fun _ _ z => False.elim z
      refine wpAny_mono (he _ _ _ _ _ _ s6 σ6 H6 _ J7 q6) (fun yv s7 ⟨y, H7, J8, r7, q7⟩ => ?_) fun _ _ z => False.elim z
      obtain ⟨hl7, m', hm', w7⟩ := q7
      refine wpAny_mono (mt_append (X := cxCompC X N' scope xs P2.objs.size s2 H2 fp pins) _ s7 σ6 H7 (.ref s2.heap.objs.size) [y] (.ref s2.heap.objs.size) [yv] (fun v H8 => H8 = upd H7 s2.heap.objs.size (.lst (ys ++ [y]))) J8 rfl (.cons r7 .nil) ⟨_, ys, y, rfl, rfl, hl7, hlt, rfl⟩) (fun _ s8 ⟨v8, H8, J9, r8, e8⟩ => ?_) fun _ _ z => False.elim z
      subst e8
      have pk : ∀ b ∈ fp, ∀ o, s5.heap.get? b = some o → s8.heap.get? b = some o ∧ upd H7 s2.heap.objs.size (.lst (ys ++ [y])) b = none := fun b hb o e =>
        let z := J9.pin (b, o) (List.mem_append_right _ (List.mem_append_right _ (mem_pinsAt hb e)))
        ⟨z.1, z.2.1⟩
      refine ⟨m', hm', i + 1, ys ++ [y], σ6, _, hd6, J9.unpinned, T.keep _ _ _ st5 fun b hb o e => (pk b hb o e).1, fun b hb => ?_, w7⟩
      obtain ⟨o, e, _⟩ := T.obj _ _ st5 b hb
      exact (pk b hb o e).2
  exact codeAny_compStart_list loop (T.self X.A 0 { s2 with heap := h₁, toks := s2.toks + ([] : List (Str × Value)).length } _ _ (T.keep _ _ _ st2 fun b hb o e => old b o e) loop)
end
end L2

namespace L2
open PySem PySem.Spec PyProof.Rows

section
variable {X : Cx}
end
mutual
inductive Dat (H : Hp) : V → PyData → Prop
  | non : Dat H .non .none
  | bl (b : Bool) : Dat H (.bl b) (.bool b)
  | int (i : Int) : Dat H (.int i) (.int i)
  | str (x : Str) : Dat H (.str x) (.str x)
  | lst {a : Addr} {xs : List V} {ds : List PyData} : H a = some (.lst xs) → Dats H xs ds → Dat H (.ref a) (.list ds)
  | tup {a : Addr} {xs : List V} {ds : List PyData} : H a = some (.tup xs) → Dats H xs ds → Dat H (.ref a) (.tuple ds)
inductive Dats (H : Hp) : List V → List PyData → Prop
  | nil : Dats H [] []
  | cons {x : V} {xs : List V} {d : PyData} {ds : List PyData} : Dat H x d → Dats H xs ds → Dats H (x :: xs) (d :: ds)
end
section
variable {P : Program} {w : World} {H : Hp} {h : Heap}
mutual
theorem Dat.reads (ok : HOk P w H h) : ∀ {x : V} {d : PyData} {u : Value}, Dat H x d → RelV x u → ∃ as, Reads h u d as
  | _, _, u, .non, r => by cases (show u = Value.none from r); exact ⟨_, .none⟩
  | _, _, u, .bl b, r => by cases (show u = Value.bool b from r); exact ⟨_, .bool b⟩
  | _, _, u, .int i, r => by obtain ⟨t, rfl⟩ := r; exact ⟨_, .int i t⟩
  | _, _, u, .str x, r => by obtain ⟨t, rfl⟩ := r; exact ⟨_, .str x t⟩
  | _, _, u, .lst (a := a) e q, r => by
    cases (show u = Value.ref a from r)
    obtain ⟨_, its, n, rv, g⟩ := ok a _ e
    obtain ⟨as, rs⟩ := Dats.reads ok q rv
    exact ⟨_, .list g rfl rfl rs⟩
  | _, _, u, .tup (a := a) e q, r => by
    cases (show u = Value.ref a from r)
    obtain ⟨_, its, rv, o, g, c, n, dd⟩ := ok a _ e
    obtain ⟨as, rs⟩ := Dats.reads ok q rv
    exact ⟨_, .tuple g c dd rs⟩
theorem Dats.reads (ok : HOk P w H h) : ∀ {xs : List V} {ds : List PyData} {us : List Value}, Dats H xs ds → Vals xs us → ∃ as, ReadsAll h us ds as
  | _, _, _, .nil, .nil => ⟨_, .nil⟩
  | _, _, _, .cons p q, .cons r s => by
    obtain ⟨as, x⟩ := Dat.reads ok p r
    obtain ⟨bs, y⟩ := Dats.reads ok q s
    exact ⟨_, .cons x y⟩
end
end
def rEqD (neg : Bool) : R2 := fun x y H Q => ∃ d1 d2, Dat H x d1 ∧ Dat H y d2 ∧ SeqAt.shaped d1 = true ∧ SeqAt.shaped d2 = true ∧ Q (.bl (if neg then !PyData.eqv d1 d2 else PyData.eqv d1 d2)) H
section
variable {X : Cx}
theorem op_eqD {k : Nat} (hr : Room k X.A) : OpR X (compareOp .Eq) (rEqD false) := by
  intro pins s σ H x y v u Q I rx ry h
  obtain ⟨d1, d2, p, q, s1, s2, h⟩ := h
  obtain ⟨as, r1⟩ := p.reads I.hok rx
  obtain ⟨bs, r2⟩ := q.reads I.hok ry
  exact eq_dataH r1 r2 s1 s2 hr.units ⟨.bl _, H, I, rfl, h⟩
theorem op_neD {k : Nat} (hr : Room k X.A) : OpR X (compareOp .NotEq) (rEqD true) := by
  intro pins s σ H x y v u Q I rx ry h
  obtain ⟨d1, d2, p, q, s1, s2, h⟩ := h
  obtain ⟨as, r1⟩ := p.reads I.hok rx
  obtain ⟨bs, r2⟩ := q.reads I.hok ry
  exact ne_dataH r1 r2 s1 s2 hr.units ⟨.bl _, H, I, rfl, h⟩
end
end L2

namespace L2
open PySem PySem.Spec PyProof.Rows
section
variable {X : Cx}
end
section
variable {X : Cx} {K : PySem.W.Frag}

end

section
variable {K : PySem.W.Frag} {σ0 cs : St} {k : Nat} {g : TG} {te : TE} {tt : TT} {H1 : Hp} {Q : VK}
theorem compC_by {J : It} (n : Nat) (gv : Nat → V → Prop) (Pv : Addr → Nat → List V → Hp → Prop) (hn : n ≤ sizeLine)
    (hgo : ∀ D i ys H, i < n → Pv D i ys H → J.go i H) (hst : ∀ D ys H, Pv D n ys H → J.stop n H) (hy : ∀ D i ys H x H', i < n → Pv D i ys H → J.yld i H x H' → H' = H ∧ gv i x)
    (hl : ∀ D i ys H, Pv D i ys H → H D = some (.lst ys) ∧ ys.length ≤ i) (h0 : ∀ D, H1 D = none → Pv D 0 [] (upd H1 D (.lst [])))
    (hs : ∀ D i x ys H, i < n → gv i x → H1 D = none → Pv D i ys H → g x σ0 H fun σ2 H3 => σ2.drop k = cs ∧ te σ2 H3 fun y H4 => H4 D = some (.lst ys) ∧ Pv D (i + 1) (ys ++ [y]) (upd H4 D (.lst (ys ++ [y]))))
    (hd : ∀ D ys H, H1 D = none → Pv D n ys H → Q (.ref D) H) (mono : ∀ x σ H (R R' : St → Hp → Prop), (∀ σ' H', R σ' H' → R' σ' H') → g x σ H R → g x σ H R')
    (mono2 : ∀ σ H (R R' : VK), (∀ v H', R v H' → R' v H') → te σ H R → te σ H R') : compKC σ0 k cs g te Q J H1 := by
  intro D hD
  refine ⟨fun i m ys H => m = n - i ∧ i ≤ n ∧ Pv D i ys H, ⟨n, rfl, Nat.zero_le _, h0 D hD⟩, ?_⟩
  rintro i m ys H ⟨rfl, hi, p⟩
  obtain ⟨e1, e2⟩ := hl D i ys H p
  refine ⟨e1, ?_⟩
  by_cases hlt : i < n
  · refine .inr ⟨hgo D i ys H hlt p, by omega, fun x H' y => ?_⟩
    obtain ⟨rfl, hx⟩ := hy D i ys H x H' hlt p y
    refine mono _ _ _ _ _ (fun σ2 H3 ⟨z1, z2⟩ => ⟨z1, mono2 _ _ _ _ (fun v H4 ⟨z3, z4⟩ => ⟨z3, n - (i + 1), by omega, rfl, hlt, z4⟩) z2⟩) (hs D i x ys H' hlt hx hD p)
  · have e : i = n := by omega
    subst e
    exact .inl ⟨hst D ys H p, hd D ys H hD p⟩
theorem compC_list {a : Addr} (xs : List V) (Pv : Addr → Nat → List V → Hp → Prop) (hn : xs.length ≤ sizeLine) (hq : ∀ D i ys H, Pv D i ys H → SqL K H a xs)
    (hl : ∀ D i ys H, Pv D i ys H → H D = some (.lst ys) ∧ ys.length ≤ i) (h0 : ∀ D, H1 D = none → Pv D 0 [] (upd H1 D (.lst [])))
    (hs : ∀ D i x ys H, xs[i]? = some x → H1 D = none → Pv D i ys H → g x σ0 H fun σ2 H3 => σ2.drop k = cs ∧ te σ2 H3 fun y H4 => H4 D = some (.lst ys) ∧ Pv D (i + 1) (ys ++ [y]) (upd H4 D (.lst (ys ++ [y]))))
    (hd : ∀ D ys H, H1 D = none → Pv D xs.length ys H → Q (.ref D) H) (mono : ∀ x σ H (R R' : St → Hp → Prop), (∀ σ' H', R σ' H' → R' σ' H') → g x σ H R → g x σ H R')
    (mono2 : ∀ σ H (R R' : VK), (∀ v H', R v H' → R' v H') → te σ H R → te σ H R') : compKC σ0 k cs g te Q (Itl K a) H1 :=
  compC_by xs.length (fun i x => xs[i]? = some x) Pv hn (fun D i ys H hi p => ⟨xs, xs[i], hq D i ys H p, by simp [hi]⟩) (fun D ys H p => ⟨xs, hq D _ ys H p, Nat.le_refl _⟩)
    (fun D i ys H x H' hi p y => ⟨y.1, y.2 xs (hq D i ys H p)⟩) hl h0 (fun D i x ys H hi hx hD p => hs D i x ys H hx hD p) hd mono mono2
end
inductive Tr where
  | col (i : Int)
  | four (a b c d : Tr)
deriving DecidableEq
def Tr.data : Tr → PyData
  | .col i => .int i
  | .four a b c d => .tuple [a.data, b.data, c.data, d.data]
def Tr.deep : Tr → Nat
  | .col _ => 0
  | .four a b c d => max a.deep (max b.deep (max c.deep d.deep)) + 1
def Tr.isCol : Tr → Bool
  | .col _ => true
  | .four .. => false
inductive TrAt (H : Hp) : V → Tr → Prop
  | col (i : Int) : TrAt H (.int i) (.col i)
  | four {p : Addr} {a b c d : V} {ta tb tc td : Tr} : H p = some (.tup [a, b, c, d]) → TrAt H a ta → TrAt H b tb → TrAt H c tc → TrAt H d td → TrAt H (.ref p) (.four ta tb tc td)

def Tups (H H' : Hp) : Prop := ∀ b xs, H b = some (.tup xs) → H' b = some (.tup xs)
theorem Same.tups {H H' : Hp} (s : Same H H') : Tups H H' := fun b xs e => s b _ e
theorem Tups.trans {H H' H'' : Hp} (s : Tups H H') (t : Tups H' H'') : Tups H H'' := fun b xs e => t b xs (s b xs e)
theorem Tups.lst {H : Hp} {l : Addr} {xs ys : List V} (e : H l = some (.lst xs)) : Tups H (upd H l (.lst ys)) := fun b zs q => by
  rw [upd_ne (ne_of q e (by intro z; cases z))]; exact q
theorem TrAt.up {H H' : Hp} (s : Tups H H') : ∀ {v : V} {t : Tr}, TrAt H v t → TrAt H' v t
  | _, _, .col i => .col i
  | _, _, .four e a b c d => .four (s _ _ e) (TrAt.up s a) (TrAt.up s b) (TrAt.up s c) (TrAt.up s d)
theorem TrAt.dat {H : Hp} : ∀ {v : V} {t : Tr}, TrAt H v t → Dat H v t.data
  | _, _, .col i => .int i
  | _, _, .four e a b c d => .tup e (.cons a.dat (.cons b.dat (.cons c.dat (.cons d.dat .nil))))
theorem Tr.eqv : ∀ t u : Tr, PyData.eqv t.data u.data = decide (t = u)
  | .col i, .col j => by
    show (i == j) = _
    by_cases h : i = j <;> simp [h]
  | .col i, .four .. => by
    show false = _
    simp
  | .four .., .col j => by
    show false = _
    simp
  | .four a b c d, .four a' b' c' d' => by
    show (PyData.eqv a.data a'.data && (PyData.eqv b.data b'.data && (PyData.eqv c.data c'.data && (PyData.eqv d.data d'.data && true)))) = _
    rw [Tr.eqv a a', Tr.eqv b b', Tr.eqv c c', Tr.eqv d d']
    by_cases h1 : a = a' <;> by_cases h2 : b = b' <;> by_cases h3 : c = c' <;> by_cases h4 : d = d' <;> simp [h1, h2, h3, h4]
theorem Tr.lay : ∀ t : Tr, t.data.canLay0 = true
  | .col i => rfl
  | .four a b c d => by
    show (a.data.canLay0 && (b.data.canLay0 && (c.data.canLay0 && (d.data.canLay0 && true)))) = true
    rw [Tr.lay a, Tr.lay b, Tr.lay c, Tr.lay d]; rfl
theorem Tr.depth : ∀ t : Tr, t.data.depth = t.deep
  | .col i => rfl
  | .four a b c d => by
    show max a.data.depth (max b.data.depth (max c.data.depth (max d.data.depth 0))) + 1 = _
    rw [Tr.depth a, Tr.depth b, Tr.depth c, Tr.depth d, Nat.max_zero]; rfl
theorem Tr.shaped {t : Tr} (h : t.deep ≤ 64) : SeqAt.shaped t.data = true := by
  unfold SeqAt.shaped
  rw [Tr.lay, Tr.depth, decide_eq_true h]; rfl
theorem TrAt.ty {K : PySem.W.Frag} {H : Hp} {v : V} {t : Tr} (h : TrAt H v t) : TyOf K H v (if t.isCol then .type "int" else .type "tuple") := by
  cases h with
  | col i => exact .int i
  | four e => exact .tup e
end L2

namespace L2
open PySem PySem.Spec PyProof.Rows

section
variable {X : Cx} {elt tg iter cnd : Expr} {scope : Scope} {pos : Pos} {N' : List Str} {wi : TI} {g : TG} {te : TE} {tt : TT}
end
end L2

namespace L2
open PySem PySem.Spec PyProof.Rows
section
variable {X : Cx}
theorem mt_find : MtR X "str.find" (fun x vs H Q => ∃ z y, x = .str z ∧ vs = [.str y] ∧ Q (.int (Txt.find z y)) H) := by
  intro pins s σ H x vs v us Q I rx rv h
  obtain ⟨z, y, rfl, rfl, q⟩ := h
  obtain ⟨t, rfl⟩ := rx
  obtain ⟨u, rfl, tu, rfl⟩ := rv.one
  exact SC.find ⟨.int _, H, I.tok _, ⟨_, rfl⟩, q⟩
end
end L2

namespace L2
open PySem PySem.Spec PyProof.Rows
section
variable {X : Cx} {pos : Pos}

end
end L2

namespace L2
open PySem PySem.Spec PyProof.Rows

def tCut (t : TS) : TS := fun D σ H => ∃ Pv : St → Hp → Prop, t { D with nx := Pv } σ H ∧ ∀ σ' H', Pv σ' H' → D.nx σ' H'
section
variable {X : Cx} {st : Stmt} {t : TS}
theorem ps_cut (h : PS X st t) : PS X st (tCut t) := by
  intro pins s σ H D I ⟨Pv, h1, h2⟩
  refine thn (h pins s σ H { D with nx := Pv } I h1) fun f s1 q => ?_
  cases f with
  | next =>
    obtain ⟨σ', H', I', q⟩ := q
    exact ⟨σ', H', I', h2 _ _ q⟩
  | ret v => exact q
  | brk => exact q
  | cont => exact q
end
end L2

namespace L2
open PySem PySem.Spec PyProof.Rows
section
variable {prog : Program} {w : World} {A : Around} {E : Value → Shared → Prop} {s : Shared}

end
section
variable {prog : Program} {w : World} {A : Around} {E : Value → Shared → Prop} {s : Shared}
end
section
variable {X : Cx} {tg : Expr}
end
end L2

namespace L2
open PySem PySem.Spec PyProof.Rows
section
variable {K : PySem.W.Frag} {σ0 cs : St} {k : Nat} {g : TG} {te : TE} {tt : TT} {H1 : Hp} {Q : VK}
end
section
variable {X : Cx} {K : PySem.W.Frag} {o e : Expr} {es : List Expr} {to : TE} {t : TA} {name : Str} {apos cpos : Pos} {T id : String} {r : V → List V → Hp → VK → Prop}
end
end L2

namespace L2
open PySem PySem.Spec PySem.Calls PyProof.Rows
section
variable {X : Cx}
end
section
variable {K : PySem.W.Frag} {σ0 cs : St} {k : Nat} {g : TG} {te : TE} {tt : TT} {H1 : Hp} {Q : VK}
end
end L2

namespace L2
open PySem PySem.Spec PySem.Calls PyProof.Rows
section
variable {X : Cx} {K : PySem.W.Frag}
end
end L2

namespace L2
open PySem PySem.Spec PySem.Calls PyProof.Rows

structure RoomH (k : Nat) (A : Around) : Prop where
  dp : A.depth + 3 * k + 5 < recursionLimit
  un : A.units + 16 * k + 200 < cLine
theorem RoomH.mono {j k : Nat} {A : Around} (r : RoomH k A) (h : j ≤ k) : RoomH j A := ⟨by have := r.dp; omega, by have := r.un; omega⟩

theorem Room.inX {k : Nat} {X : Cx} {e : Addr} (r : Room k X.A) : RoomH k (Xs X e).A := ⟨r.dp, r.un⟩
structure FnOkH (P : Program) (w : World) (K : PySem.W.Frag) (mg : Str → Option Value) (base : Heap) (CX : CXT) (k : Nat) (f : Addr) (fd : FuncData) (ps : List Str) (sp : Sp) : Prop where
  len : ∀ vs H Q E, sp vs H Q E → vs.length = ps.length
  run : ∀ (A : Around) (outer : List Env) (s : Shared) (H : Hp) (args : Args) (us : List Value) (vs : List V) (Q : VK) (E : XK), RoomH k A → Env0 P w K mg base A outer s H → BindsTo s fd args (ps.zip us) → Vals vs us → sp vs H Q E →
    codeAny (model P w) A (.call (.ref f) args) (CR CX outer P w H s Q E) s
abbrev cxH (CX : CXT) (P : Program) (w : World) (K : PySem.W.Frag) (mg : Str → Option Value) (base : Heap) (N : List Str) (qual : Str) (scope : Scope) (f : Addr) (cd : Value) (A : Around) (outer : List Env) (s : Shared) (H : Hp) (E : XK) : Cx :=
  { cxOf CX P w K mg base N qual scope f cd A outer s H E with calm := false }
theorem inv_startH {CX : CXT} {P : Program} {w : World} {K : PySem.W.Frag} {mg : Str → Option Value} {base : Heap} {N ps : List Str} {qual : Str} {scope : Scope} {f : Addr} {cd : Value} {A : Around} {outer : List Env} {s s1 : Shared} {H : Hp} {E : XK} {us : List Value} {vs : List V}
    (S : FnScope N ps scope) (e0 : Env0 P w K mg base A outer s H) (hl : vs.length = ps.length) (r : Vals vs us)
    (x : InCallC s s.heap.objs.size (bindL (envOfC qual scope s.heap.objs.size f cd).kindOf (ps.zip us) fun _ => none) (cellsFrom (s.heap.objs.size + 1) scope.names []) (bindC (envOfC qual scope s.heap.objs.size f cd).kindOf (ps.zip us) fun _ => none) s1) :
    Inv (cxH CX P w K mg base N qual scope f cd A outer s H E) [] (start N vs) H s1 := by
  have e0' : Env0 P w K mg base { A with handled := none } outer s H := ⟨e0.frames, e0.mod, e0.bs, e0.bsz, e0.funs, e0.frf, e0.hok, e0.bare⟩
  have I : Inv (cxOf CX P w K mg base N qual scope f cd { A with handled := none } outer s H E) [] (start N vs) H s1 := inv_start S rfl e0' hl r x
  exact ⟨⟨I.ok.mod, I.ok.kind, I.ok.glob, I.ok.blt, I.ok.above, I.ok.inj, I.ok.has, I.ok.cab, (fun z => nomatch z), Around.frames_deeper e0.frames, I.ok.stk, I.ok.exf, I.ok.bs, I.ok.bsz, I.ok.noex, I.ok.exfs, I.ok.funs, I.ok.frf⟩, I.os, I.bare, I.base, I.loc, I.cell, I.free, I.freeC, I.pin, I.hok, I.len⟩
theorem fnH_of {CX : CXT} {P : Program} {w : World} {K : PySem.W.Frag} {mg : Str → Option Value} {base : Heap} {k : Nat} {f : Addr} {name qual : Str} {params : Arguments} {body : List Stmt} {scope : Scope} {dV kV doc pm cdv ct oc : Value} {an od : Option Addr}
    {osl : Array (Option Value)} {N ps : List Str} {sp : Sp} (lk : K.lookup f = some ⟨oc, od, .func (PySem.W.fnOf name qual params body scope dV kV doc pm an cdv ct), osl⟩) (hcd : PySem.W.codeIn K cdv qual = true) (S : FnScope N ps scope)
    (len : ∀ vs H Q E, sp vs H Q E → vs.length = ps.length)
    (hbody : ∀ (A : Around) (outer : List Env) (s : Shared) (H : Hp) (vs : List V) (Q : VK) (E : XK), RoomH k (A.deeper (envOfC qual scope s.heap.objs.size f cdv)) → sp vs H Q E →
      ∃ t, PSs (cxH CX P w K mg base N qual scope f cdv A outer s H E) body t ∧ t { nx := fun _ H' => Q .non H', rt := Q } (start N vs) H) :
    FnOkH P w K mg base CX (k + 1) f (PySem.W.fnOf name qual params body scope dV kV doc pm an cdv ct) ps sp := by
  refine ⟨len, fun A outer s H args us vs Q E hr e0 hb r hsp => ?_⟩
  have hl := len _ _ _ _ hsp
  have KX : K.In s.heap := e0.mod.kin.keeps fun b o e => (e0.bs b o e).1
  have lim : s.heap.NoLimit := e0.mod.nolimit.keeps fun b o e => (e0.bs b o e).1
  have hkind : ∀ y ∈ ps.zip us, scope.names.lookup y.1 = some .local ∨ (scope.names.lookup y.1 = some .cell ∧ ((cellsFrom (s.heap.objs.size + 1) scope.names []).lookup y.1).isSome = true) := fun ⟨n, v⟩ hy => by
    rcases S.par n (List.of_mem_zip hy).1 with q | q
    · exact .inl q
    · exact .inr ⟨q, PySem.W.cellsFrom_some _ _ _ (.inl q)⟩
  have dpt : A.depth < recursionLimit := by have := hr.dp; omega
  have rd : RoomH k (A.deeper (envOfC qual scope s.heap.objs.size f cdv)) := ⟨by have := hr.dp; show A.depth + 1 + 3 * k + 5 < _; omega, by have := hr.un; show A.units + 3 + 16 * k + 200 < _; omega⟩
  refine codeAny_call_function dpt (KX _ _ lk) rfl S.co S.gen rfl (PySem.W.codeRec_of KX hcd) (hb _ _ _ _ ?_)
  refine wpAny_newFunctionEnv_cells S.kind hkind fun env he s1 x => ?_
  subst he
  refine ⟨lim.keeps x.toInCall.keep, codeAny_func ?_⟩
  obtain ⟨t, ht, hq⟩ := hbody A outer s H vs Q E rd hsp
  have I : Inv (cxH CX P w K mg base N qual scope f cdv A outer s H E) [] (start N vs) H s1 := inv_startH S e0 hl r x
  refine wpAny_mono (ht [] s1 (start N vs) H _ I hq) (fun fl s' hs => ?_) fun e s' hs => hs
  have fin : ∀ {σ' : St} {H' : Hp} {v : V} {u : Value}, Inv (cxH CX P w K mg base N qual scope f cdv A outer s H E) [] σ' H' s' → RelV v u → Q v H' → CE outer P w H s Q u s' :=
    fun {σ' H' v u} J rv q => ⟨v, H', J.os, J.bare, J.base, J.hok, rv, q⟩
  cases fl with
  | ret u =>
    obtain ⟨v, σ', H', J, rv, q⟩ := hs
    exact fin J rv q
  | next =>
    obtain ⟨σ', H', J, q⟩ := hs
    exact fin (v := V.non) (u := Value.none) J rfl q
  | brk =>
    obtain ⟨_, _, _, q⟩ := hs
    exact False.elim q
  | cont =>
    obtain ⟨_, _, _, q⟩ := hs
    exact False.elim q
section
variable {P : Program} {w : World} {K : PySem.W.Frag} {mg : Str → Option Value} {base : Heap}
theorem FunD.okH {x qual : Str} {st : Stmt} {f : Addr} {fd : FuncData} {dV : Value} {N ps : List Str} {k : Nat} {sp : Sp} {CX : CXT} (F : FunD K x qual st f fd dV) (S : FnScope N ps (defScope st)) (len : ∀ vs H Q E, sp vs H Q E → vs.length = ps.length)
    (hbody : ∀ (cdv : Value) (A : Around) (outer : List Env) (s : Shared) (H : Hp) (vs : List V) (Q : VK) (E : XK), RoomH k (A.deeper (envOfC qual (defScope st) s.heap.objs.size f cdv)) → sp vs H Q E →
      ∃ t, PSs (cxH CX P w K mg base N qual (defScope st) f cdv A outer s H E).nox (defBody st) t ∧ t { nx := fun _ H' => Q .non H', rt := Q } (start N vs) H) : FnOkH P w K mg base CX (k + 1) f fd ps sp := by
  obtain ⟨oc, od, kV, doc, pm, an, cdv, ct, osl, rfl, lk, hcd⟩ := F.ex
  refine fnH_of lk hcd S len fun A outer s H vs Q E hr hsp => ?_
  obtain ⟨t, h, q⟩ := hbody cdv A outer s H vs Q E hr hsp
  exact ⟨t, h.nox, q⟩
structure FokH (P : Program) (w : World) (K : PySem.W.Frag) (mg : Str → Option Value) (base : Heap) (CX : CXT) (j : Nat) (x : Str) (ps : List Str) (sp : Sp) : Prop where
  ex : ∃ f fd, FnOkH P w K mg base CX j f fd ps sp ∧ Binds K fd ps [] ∧ PySem.W.keepIn K (.ref f) = true ∧ mg x = some (.ref f)
theorem fokH {CX : CXT} {j : Nat} {x qual : Str} {st : Stmt} {f : Addr} {fd : FuncData} {dV : Value} {ps : List Str} {sp : Sp} (F : FunD K x qual st f fd dV) (G : FnOkH P w K mg base CX j f fd ps sp) (b : Binds K fd ps []) (m : mg x = some (.ref f)) :
    FokH P w K mg base CX j x ps sp := ⟨f, fd, G, b, F.kp, m⟩
end
section
variable {X : Cx} {CX : CXT} {j k : Nat} {ps : List Str} {sp : Sp} {x : Str} {p pos : Pos} {e : Expr} {es : List Expr} {t : TA}
theorem pe_callH (F : FokH X.prog X.w X.K X.mg X.base CX j x ps sp) (q : Quiet CX) (hr : RoomH k X.A) (ha : PA X (e :: es) t) (hj : j ≤ k := by decide) (hg : Gl X x := by rfl)
    (hdb : (x == ("__debug__" : Str)) = false := by decide) (he : starEach (e :: es) X.env = (false, eval e X.env) :: starEach es X.env := by rfl) (hpl : (backTo pos (starEach es X.env)).any (·.1) = false := by rfl) :
    PE X (.Call (.Name x p) (e :: es) [] pos) (tCall sp [] E0 t) := by
  obtain ⟨f, fd, G, b, kp, m⟩ := F.ex
  intro pins s σ H Q I h
  refine wpAny_Call_Name_kw (ld_glob I hg m ?_ hdb)
  refine PySem.W.callWith_K (h₀ := X.base) I.ok.mod.kin kp (thn (ha pos pins s σ H _ I h) fun us s1 ⟨vs, H1, I1, r, z⟩ => ⟨I1.kIn, ?_⟩) he hpl
  have r2 : Vals (vs ++ []) (us ++ []) := by simpa using r
  have hl : (us ++ ([] : List Value)).length = ps.length := by rw [← r2.length]; exact G.len _ _ _ _ z
  refine wpAny_call (codeAny_mono (G.run X.A X.stack s1 H1 ⟨us, []⟩ (us ++ []) (vs ++ []) Q E0 (hr.mono hj) I1.env0 (b s1 us I1.kIn hl) r2 z) fun r s' hq => ?_)
  cases r with
  | error e => exact (q _ _ _ _ _ hq).elim
  | ok fl =>
    cases fl with
    | ret u => exact I1.after hq
    | next => exact False.elim hq
    | brk => exact False.elim hq
    | cont => exact False.elim hq

theorem countP_eqU {x : V} : ∀ {xs : List V} {us : List Value}, Vals xs us → xs.all flatV = true → us.countP (eqU x) = xs.countP fun y => eqV y x
  | _, _, .nil, _ => rfl
  | y :: xs, u :: us, .cons r t, f => by
    rw [List.all_cons, Bool.and_eq_true] at f
    rw [List.countP_cons, List.countP_cons, eqU_of r f.1, countP_eqU t f.2]
theorem mt_count : MtR X "list.count" (fun x vs H Q => ∃ l y xs, x = .ref l ∧ vs = [y] ∧ H l = some (.lst xs) ∧ flatV y = true ∧ xs.all flatV = true ∧ Q (.int ((xs.countP fun z => eqV z y : Nat) : Int)) H) := by
  intro pins s σ H x vs v us Q I rx rv h
  obtain ⟨l, y, xs, rfl, rfl, hH, fy, fx, q⟩ := h
  cases rx
  obtain ⟨u, rfl, ru⟩ := rv.one
  obtain ⟨z, its, n, r, hl, e⟩ := I.lstM hH
  refine call_meets F.slot_list_count ⟨_, e, rfl⟩ F.entry_list_count (F.args_list_count_2 _ _) (SeqAt.list_countAt l its.toArray n none #[] u (eqU y)) ⟨e, fun v hv => mem_eqAt ru fy r fx v (by simpa using hv), ?_⟩
  exact ⟨.int _, H, I.tok _, ⟨_, rfl⟩, by rw [show its.toArray.toList = its from rfl, countP_eqU r fx]; exact q⟩
theorem Vals.getD {xs : List V} {us : List Value} (r : Vals xs us) {i : Nat} (h : i < us.length) : ∃ y, xs[i]? = some y ∧ RelV y us[i] := by
  have h' : i < xs.length := by rw [r.length]; exact h
  obtain ⟨u, hu, ru⟩ := r.get (List.getElem?_eq_getElem h')
  exact ⟨_, List.getElem?_eq_getElem h', by rw [List.getElem?_eq_getElem h] at hu; cases hu; exact ru⟩
theorem mt_indexL : MtR X "list.index" (fun x vs H Q => ∃ (l : Addr) (y : V) (xs : List V) (j : Nat) (w : V), x = .ref l ∧ vs = [y] ∧ H l = some (.lst xs) ∧ flatV y = true ∧ xs.all flatV = true ∧ xs[j]? = some w ∧ eqV w y = true ∧ (∀ (i : Nat) (v : V), i < j → xs[i]? = some v → eqV v y = false) ∧ Q (.int (j : Int)) H) := by
  intro pins s σ H x vs v us Q I rx rv h
  obtain ⟨l, y, xs, j, wv, rfl, rfl, hH, fy, fx, hj, hit, hno, q⟩ := h
  cases rx
  obtain ⟨u, rfl, ru⟩ := rv.one
  obtain ⟨z, its, n, r, hl, e⟩ := I.lstM hH
  have flat : ∀ (i : Nat) (v : V), xs[i]? = some v → flatV v = true := fun i v hv => List.all_eq_true.mp fx v (List.mem_of_getElem? hv)
  have hjl : j < xs.length := by
    rcases Nat.lt_or_ge j xs.length with h | h
    · exact h
    · rw [List.getElem?_eq_none h] at hj; cases hj
  have hj' : j < its.toArray.size := by rw [List.size_toArray]; omega
  have key : ∀ m (hm : m < its.toArray.size), ∃ v, xs[m]? = some v ∧ eqU y its.toArray[m] = eqV v y := fun m hm => by
    obtain ⟨v, hv, rv⟩ := Vals.getD r (i := m) (by simpa using hm)
    exact ⟨v, hv, by rw [show its.toArray[m] = its[m]'(by simpa using hm) by simp]; exact eqU_of rv (flat m v hv)⟩
  refine call_meets F.slot_list_index ⟨_, e, rfl⟩ F.entry_list_index (F.args_list_index_2 _ _) (SeqAt.list_indexAt l its.toArray n none #[] u (eqU y) j hj' ?_ ?_ ?_) ⟨e, fun v hv => mem_eqAt ru fy r fx v (by simpa using hv), ?_⟩
  · have : sizeLine < 2 ^ 62 := by decide
    have h63 : ((2 : Int) ^ 63) = 9223372036854775808 := by decide
    have h62 : (2 : Nat) ^ 62 = 4611686018427387904 := by decide
    rw [h63]; omega
  · obtain ⟨v, hv, e1⟩ := key j hj'
    rw [e1]; rw [hj] at hv; cases hv; exact hit
  · intro m hm hlt
    obtain ⟨v, hv, e1⟩ := key m hm
    rw [e1]; exact hno m v hlt hv
  · exact ⟨.int _, H, I.tok _, ⟨_, rfl⟩, q⟩

end
end L2


namespace Qs
open PySem L2
theorem len_eq (z : Str) : z.length = z.cps.toList.length := by
  show z.cps.size = z.cps.toList.length
  rw [Array.length_toList]

def IsC (z : Str) : Prop := ∀ c ∈ z.cps.toList, 48 ≤ c ∧ c ≤ 51
def dig (z : Str) : List Nat := z.cps.toList.map (· - 48)
theorem dig_len (z : Str) : (dig z).length = z.length := by simp [dig, len_eq]
theorem dig_at {z : Str} {i : Nat} (h : i < z.length) : (dig z)[i]? = some (z.cps.getD i 0 - 48) := by
  have h' : i < z.cps.size := h
  simp [dig, Array.getD_eq_getD_getElem?, h']
theorem dig_take {z : Str} {i : Nat} (h : i < z.length) : (dig z).take (i + 1) = (dig z).take i ++ [z.cps.getD i 0 - 48] := by
  rw [List.take_succ, dig_at h]; rfl
theorem sgn_in {z : Str} {i : Nat} (hz : IsC z) (h : i < z.length) : 48 ≤ z.cps.getD i 0 ∧ z.cps.getD i 0 ≤ 51 := by
  have h' : i < z.cps.size := h
  refine hz _ ?_
  have e : z.cps.getD i 0 = z.cps[i] := by simp [Array.getD_eq_getD_getElem?, h']
  rw [e]
  exact Array.getElem_mem_toList h'

def one (d : Nat) : Str := ⟨#[48 + d]⟩
theorem sgn_one {z : Str} {i : Nat} (hz : IsC z) (h : i < z.length) : ∃ d, d < 4 ∧ sgn z i = one d ∧ z.cps.getD i 0 - 48 = d := by
  obtain ⟨h1, h2⟩ := sgn_in hz h
  refine ⟨z.cps.getD i 0 - 48, by omega, ?_, rfl⟩
  unfold sgn one
  have e : 48 + (z.cps.getD i 0 - 48) = z.cps.getD i 0 := by omega
  rw [e]
theorem four {P : Nat → Prop} (h0 : P 0) (h1 : P 1) (h2 : P 2) (h3 : P 3) {d : Nat} (h : d < 4) : P d := by
  rcases d with _ | _ | _ | _ | d
  · exact h0
  · exact h1
  · exact h2
  · exact h3
  · omega
theorem int_one {d : Nat} (h : d < 4) : PySem.intText? (one d) = some (d : Int) :=
  four (P := fun d => PySem.intText? (one d) = some (d : Int)) (by decide +kernel) (by decide +kernel) (by decide +kernel) (by decide +kernel) h
theorem IsC.nil : IsC ⟨#[]⟩ := fun c h => by simp at h
theorem IsC.app {a b : Str} (ha : IsC a) (hb : IsC b) : IsC (a ++ b) := fun c h => by
  have e : (a ++ b).cps.toList = a.cps.toList ++ b.cps.toList := by
    show (a.cps ++ b.cps).toList = _
    simp
  rw [e] at h
  rcases List.mem_append.mp h with h | h
  · exact ha c h
  · exact hb c h
theorem IsC.one {d : Nat} (h : d < 4) : IsC (one d) := fun c hc => by
  have e : c = 48 + d := by simpa [Qs.one] using hc
  omega
end Qs

namespace L2
open PySem PySem.Spec PyProof.Rows
section
variable {X : Cx}
theorem pe_gint {x : Str} {i : Int} {pos : Pos} (h : ∃ t, X.mg x = some (.int i t)) (hg : Gl X x := by rfl) (hd : (x == ("__debug__" : Str)) = false := by decide) : PE X (.Name x pos) (tC (.int i)) := by
  obtain ⟨t, h⟩ := h
  exact pe_glob hg h ⟨t, rfl⟩ hd
theorem pe_gstr {x z : Str} {pos : Pos} (h : ∃ t, X.mg x = some (.str z t)) (hg : Gl X x := by rfl) (hd : (x == ("__debug__" : Str)) = false := by decide) : PE X (.Name x pos) (tC (.str z)) := by
  obtain ⟨t, h⟩ := h
  exact pe_glob hg h ⟨t, rfl⟩ hd
end
section
variable {X : Cx}
theorem pe_bty {x : Str} {n : String} {pos : Pos} (hm : X.mg x = none) (hv : bootBuiltins x = some (.type n)) (hg : Gl X x := by rfl) (hn : x ≠ "__name__" := by decide) (hd : (x == ("__debug__" : Str)) = false := by decide) : PE X (.Name x pos) (tC (.ty n)) :=
  pe_bltn hg hm hv rfl hn hd
theorem nd1 (x : Str) : [x].Nodup := by simp
end

theorem comp_of {n : Nat} {g' : Nat → V} {g : TG} {te : TE} {N' : List Str} {H1 : Hp} {Q : VK} (F : Nat → V) (hn : n ≤ sizeLine)
    (hs : ∀ i H' R, i < n → R (F i) H' → g (g' i) (List.replicate N'.length none) H' fun σ2 H3 => te σ2 H3 R) (hd : ∀ D, H1 D = none → Q (.ref D) (upd H1 D (.lst ((List.range n).map F)))) :
    compK N' g te Q (Itg n g') H1 := by
  intro D hD
  refine ⟨fun i m ys H2 => m = n - i ∧ i ≤ n ∧ ys = (List.range i).map F ∧ H2 = upd H1 D (.lst ys), ⟨n, rfl, Nat.zero_le _, rfl, rfl⟩, ?_⟩
  rintro i m ys H2 ⟨rfl, hi, rfl, rfl⟩
  refine ⟨upd_same, ?_⟩
  by_cases hlt : i < n
  · refine .inr ⟨hlt, by simp; omega, fun x H' y => ?_⟩
    obtain ⟨e, y⟩ := y
    subst e y
    refine hs i _ _ hlt ⟨upd_same, n - (i + 1), by omega, rfl, hlt, ?_, ?_⟩
    · rw [List.range_succ, List.map_append]; rfl
    · rw [upd_upd]
  · have e : i = n := by omega
    subst e
    exact .inl ⟨Nat.le_refl _, hd D hD⟩
theorem Same.new {H : Hp} {p : Addr} (h : H p = none) (o : HO) : Same H (upd H p o) := fun b u q => by rw [upd_ne (ne_of_none q h)]; exact q
theorem Same.set {H : Hp} {H' : Hp} {p : Addr} (h : Same H H') (hp : H p = none) (o : HO) : Same H (upd H' p o) := fun b u q => by rw [upd_ne (ne_of_none q hp)]; exact h b u q
theorem small {n : Nat} (h : n ≤ 1000) : n ≤ sizeLine := Nat.le_of_lt (small1000 h)
end L2

namespace L2
open PySem PySem.Spec PyProof.Rows
def notStar : PySem.Expr → Bool
  | .Starred _ _ => false
  | _ => true
theorem star_of {e : PySem.Expr} {es : List PySem.Expr} {env : Env} (h : notStar e = true) : starEach (e :: es) env = (false, eval e env) :: starEach es env := by
  cases e <;> first | rfl | (cases h)
theorem pa_c {X : Cx} {e : PySem.Expr} {es : List PySem.Expr} {te : TE} {t : TA} (ha : PE X e te) (hr : PA X es t) (h : notStar e = true := by rfl) : PA X (e :: es) (tCons te t) := pa_cons ha hr (star_of h)
end L2
namespace L2
open PySem PySem.Spec PyProof.Rows
end L2
namespace L2
open PySem PySem.Spec PyProof.Rows

structure PAx (X : Cx) (es : List PySem.Expr) (t : TA) : Prop where
  h : PA X es t
section
variable {X : Cx} {e : PySem.Expr} {es : List PySem.Expr} {te : TE} {t : TA} {pos : Pos}
theorem pax_nil : PAx X [] tNil := ⟨pa_nil⟩
theorem pax_c (ha : PE X e te) (hr : PAx X es t) (h : notStar e = true := by rfl) : PAx X (e :: es) (tCons te t) := ⟨pa_c ha hr.h h⟩
theorem pe_tupx {x1} (h : PAx X es t) : PE X (.Tuple es x1 pos) (tTup t) := pe_tup h.h
theorem pe_lstx (h : PAx X es t) : PE X (.List es pos) (tLst t) := pe_lst h.h
end
end L2

namespace L2
open PySem PySem.Spec PySem.Calls PyProof.Rows

def constV : PySem.Expr → Option V
  | .Constant (.int i) _ _ => some (.int i)
  | .Constant (.bool b) _ _ => some (.bl b)
  | .Constant .none _ _ => some .non
  | .Constant (.str x) _ _ => some (.str x)
  | _ => none
def constVs : List PySem.Expr → Option (List V)
  | [] => some []
  | e :: es => match constV e with
    | none => none
    | some v => match constVs es with
      | none => none
      | some vs => some (v :: vs)
section
variable {X : Cx}
theorem const_pe {e : PySem.Expr} {v : V} (h : constV e = some v) : PE X e (tC v) ∧ notStar e = true := by
  unfold constV at h
  split at h
  · cases h; exact ⟨pe_int, rfl⟩
  · cases h; exact ⟨pe_bl, rfl⟩
  · cases h; exact ⟨pe_non, rfl⟩
  · cases h; exact ⟨pe_str, rfl⟩
  · cases h
def tPre (vs : List V) (t : TA) : TA := fun σ H Q => t σ H fun xs H' => Q (vs ++ xs) H'
def tKs (vs : List V) : TA := fun _ H Q => Q vs H
theorem pa_pre : ∀ (es1 es2 : List PySem.Expr) (vs : List V) (t : TA), constVs es1 = some vs → PA X es2 t → PA X (es1 ++ es2) (tPre vs t)
  | [], es2, vs, t, h, k => by
    have e : vs = [] := (Option.some.inj h).symm
    subst e
    intro pos pins s σ H Q I q
    exact k pos pins s σ H _ I q
  | e :: es1, es2, vs, t, h, k => by
    unfold constVs at h
    split at h
    · cases h
    · rename_i v hv
      split at h
      · cases h
      · rename_i ws hw
        cases h
        obtain ⟨h1, h2⟩ := const_pe (X := X) hv
        intro pos pins s σ H Q I q
        exact pa_c h1 (pa_pre es1 es2 ws t hw k) h2 pos pins s σ H Q I q
theorem pax_k {es : List PySem.Expr} {vs : List V} {t : TA} (n : Nat) (hk : constVs (es.take n) = some vs) (hr : PAx X (es.drop n) t) : PAx X es (tPre vs t) := ⟨by
  have h := pa_pre (X := X) (es.take n) (es.drop n) vs t hk hr.h
  rw [List.take_append_drop] at h
  exact h⟩
theorem pax_all {es : List PySem.Expr} {vs : List V} (hk : constVs es = some vs) : PAx X es (tKs vs) := ⟨by
  have h := pa_pre (X := X) es [] vs tNil hk pa_nil
  rw [List.append_nil] at h
  intro pos pins s σ H Q I q
  refine h pos pins s σ H Q I ?_
  show Q (vs ++ []) H
  rw [List.append_nil]; exact q⟩
end
def notComp : PySem.Expr → Bool
  | .ListComp _ _ _ _ => false
  | .SetComp _ _ _ _ => false
  | .DictComp _ _ _ _ _ => false
  | _ => true
theorem swaps_of {e : PySem.Expr} {t : Option PySem.Expr} {l : Nat} {env : Env} (h : notComp e = true) : swapsWith e t l env = pure false := by
  cases e <;> first | rfl | (cases h)

structure PEx (X : Cx) (e : PySem.Expr) (t : TE) : Prop where
  h : PE X e t
structure PSx (X : Cx) (st : Stmt) (t : TS) : Prop where
  h : PS X st t
structure PSsx (X : Cx) (st : List Stmt) (t : TS) : Prop where
  h : PSs X st t
section
variable {X : Cx} {st : Stmt} {rest : List Stmt} {t u : TS}
theorem pssx_one (h : PSx X st t) : PSsx X [st] t := ⟨pss_one h.h⟩
theorem pssx_cons (h1 : PSx X st t) (h2 : PSsx X rest u) : PSsx X (st :: rest) (tSeq t u) := ⟨pss_cons h1.h h2.h⟩
theorem pex_lst {es : List PySem.Expr} {ta : TA} {pos : Pos} (h : PAx X es ta) : PEx X (.List es pos) (tLst ta) := ⟨pe_lst h.h⟩
theorem psx_set {i : Nat} {x : Str} {es : List PySem.Expr} {lp : Pos} {te : TE} {pos pos' : Pos} (hN : X.N.Nodup) (hi : X.N[i]? = some x) (hx : Loc X.env.scope x) (he : PEx X (.List es lp) te)
    (hf : X.fn x = true ∨ X.env.scope.names.lookup x = some .local := by first | exact .inl rfl | exact .inr rfl | assumption) : PSx X (.Assign [.Name x pos'] (.List es lp) pos) (tAsg te (gName i)) :=
  ⟨ps_set hN hi hx he.h (swaps_of rfl) hf⟩
end
section
variable {P : Program} {w : World} {K : PySem.W.Frag} {mg : Str → Option Value} {base : Heap}
theorem FunD.oks {x qual : Str} {st : Stmt} {f : Addr} {fd : FuncData} {dV : Value} {N ps : List Str} {k : Nat} {sp : Sp} {CX : CXT} (F : FunD K x qual st f fd dV) (S : FnScope N ps (defScope st)) (len : ∀ vs H Q E, sp vs H Q E → vs.length = ps.length)
    (hbody : ∀ (cdv : Value) (A : Around) (outer : List Env) (s : Shared) (H : Hp) (vs : List V) (Q : VK) (E : XK), Room k (A.deeper (envOfC qual (defScope st) s.heap.objs.size f cdv)) → sp vs H Q E →
      ∃ t, PSsx (cxOf CX P w K mg base N qual (defScope st) f cdv A outer s H E).nox (defBody st) t ∧ t { nx := fun _ H' => Q .non H', rt := Q } (start N vs) H) : FnOk P w K mg base CX (k + 1) f fd ps sp :=
  F.ok S len fun cdv A outer s H vs Q E hr h => by
    obtain ⟨t, h1, h2⟩ := hbody cdv A outer s H vs Q E hr h
    exact ⟨t, h1.h, h2⟩
theorem FunD.okHs {x qual : Str} {st : Stmt} {f : Addr} {fd : FuncData} {dV : Value} {N ps : List Str} {k : Nat} {sp : Sp} {CX : CXT} (F : FunD K x qual st f fd dV) (S : FnScope N ps (defScope st)) (len : ∀ vs H Q E, sp vs H Q E → vs.length = ps.length)
    (hbody : ∀ (cdv : Value) (A : Around) (outer : List Env) (s : Shared) (H : Hp) (vs : List V) (Q : VK) (E : XK), RoomH k (A.deeper (envOfC qual (defScope st) s.heap.objs.size f cdv)) → sp vs H Q E →
      ∃ t, PSsx (cxH CX P w K mg base N qual (defScope st) f cdv A outer s H E).nox (defBody st) t ∧ t { nx := fun _ H' => Q .non H', rt := Q } (start N vs) H) : FnOkH P w K mg base CX (k + 1) f fd ps sp :=
  F.okH S len fun cdv A outer s H vs Q E hr h => by
    obtain ⟨t, h1, h2⟩ := hbody cdv A outer s H vs Q E hr h
    exact ⟨t, h1.h, h2⟩
end
end L2

namespace L2
open PySem PySem.Spec PySem.Calls PyProof.Rows
section
variable {X : Cx}

end

namespace HT
section
variable {prog : Program} {w : World} {A : Around} {E : Value → Shared → Prop} {s : Shared}
end
end HT
section
variable {X : Cx}
end

section
variable {X : Cx}
theorem pax_cx {e : PySem.Expr} {es : List PySem.Expr} {te : TE} {t : TA} (ha : PEx X e te) (hr : PAx X es t) (h : notStar e = true := by rfl) : PAx X (e :: es) (tCons te t) := pax_c ha.h hr h
theorem pex_tup {es : List PySem.Expr} {ta : TA} {x1} {pos : Pos} (h : PAx X es ta) : PEx X (.Tuple es x1 pos) (tTup ta) := ⟨pe_tup h.h⟩
end
end L2

namespace L2
open PySem PySem.Spec PySem.Calls PyProof.Rows
section
variable {K : PySem.W.Frag} {σ0 cs : St} {k : Nat} {g : TG} {te : TE} {H1 : Hp} {Q : VK}

end
section
variable {X : Cx}

end
end L2

namespace L2
open PySem PySem.Spec PySem.Calls PyProof.Rows

section
variable {prog : Program} {w : World} {A : Around} {E : Value → Shared → Prop} {s : Shared}
end


section
variable {X : Cx} {pins : List (Addr × Obj)} {σ : St}
end
end L2

namespace L2
open PySem PySem.Spec PySem.Calls PyProof.Rows PySem.W


section
variable {N : Nat} {f : Nat → Int}

end
end L2

namespace L2
open PySem PySem.Spec PySem.Calls PyProof.Rows PySem.W

section
variable {prog : Program} {w : World} {A : Around} {E : Value → Shared → Prop} {s : Shared}

end
end L2

namespace L2
open PySem PySem.Spec PySem.Calls PyProof.Rows PySem.W

section
variable {X : Cx} {pins : List (Addr × Obj)} {σ : St} {H H' : Hp} {s : Shared} {h' : Heap}

end
end L2

namespace L2
open PySem PySem.Spec PySem.Calls PyProof.Rows

section
variable {X : Cx}
end
end L2

namespace L2
open PySem PySem.Spec PySem.Calls PyProof.Rows PySem.W

section
variable {X : Cx} {pins : List (Addr × Obj)} {σ : St} {H : Hp} {s : Shared} {Z : List (Addr × Obj)}
end

section
variable {P : Program} {w : World} {K : PySem.W.Frag} {mg : Str → Option Value} {base : Heap} {Z : List (Addr × Obj)}
end

section
variable {X : Cx} {CX : CXT} {k j : Nat} {f : Addr} {fd : FuncData} {ps : List Str} {sp : Sp} {x : Str} {p pos : Pos} {e : Expr} {es : List Expr} {t : TA} {Z : List (Addr × Obj)}
end

section
variable {X : Cx} {CX : CXT} {k j : Nat} {f : Addr} {fd : FuncData} {ps : List Str} {sp : Sp} {x : Str} {p pos : Pos} {e : Expr} {es : List Expr} {t : TA} {Z : List (Addr × Obj)}

end

section
variable {X : Cx}
end


section
variable {P : Program} {w : World} {K : PySem.W.Frag} {mg : Str → Option Value} {base : Heap} {Z : List (Addr × Obj)}
end
end L2

namespace L2
open PySem PySem.Spec PySem.Calls PyProof.Rows PySem.W
section
variable {X : Cx} {K : PySem.W.Frag}

end
end L2

namespace L2
open PySem PySem.Spec PySem.Calls PyProof.Rows PySem.W

section
variable {prog : Program} {w : World} {A : Around} {E : Value → Shared → Prop} {s : Shared}
end
section
variable {X : Cx}
end
end L2

namespace Tim
open PySem PyProof.Rows

section
variable {prog : Program} {w : World} {A : Around} {E : Value → Shared → Prop} {s : Shared} {a₀ : Array Keyed} {κ : SortKind} {key : Keyed → Int}

end
end Tim

namespace Tim
open PySem PyProof.Rows
section
variable {prog : Program} {w : World} {A : Around} {E : Value → Shared → Prop} {s : Shared} {a₀ : Array Keyed} {κ : SortKind} {key : Keyed → Int}
end
end Tim

namespace Tim
open PySem PyProof.Rows
section
variable {prog : Program} {w : World} {A : Around} {E : Value → Shared → Prop} {s : Shared} {a₀ : Array Keyed} {κ : SortKind} {key : Keyed → Int}
end
end Tim

namespace Tim
open PySem PyProof.Rows
section
variable {prog : Program} {w : World} {A : Around} {E : Value → Shared → Prop} {s : Shared} {a₀ : Array Keyed} {κ : SortKind} {key : Keyed → Int}

end
end Tim

namespace Tim
open PySem PyProof.Rows
section
variable {prog : Program} {w : World} {A : Around} {E : Value → Shared → Prop} {s : Shared} {a₀ : Array Keyed} {κ : SortKind} {key : Keyed → Int}

end
end Tim

namespace Tim
open PySem PyProof.Rows
section
variable {prog : Program} {w : World} {A : Around} {E : Value → Shared → Prop} {s : Shared} {a₀ : Array Keyed} {κ : SortKind} {key : Keyed → Int}
end
end Tim

namespace Tim
open PySem PyProof.Rows
section
variable {prog : Program} {w : World} {A : Around} {E : Value → Shared → Prop} {s : Shared} {a₀ : Array Keyed} {κ : SortKind} {key : Keyed → Int}
end
end Tim

namespace Tim
open PySem PyProof.Rows
section
variable {prog : Program} {w : World} {A : Around} {E : Value → Shared → Prop} {s : Shared} {a₀ : Array Keyed} {κ : SortKind} {key : Keyed → Int}
end
end Tim

namespace L2
open PySem PySem.Spec PySem.Calls PyProof.Rows PySem.W

section
variable {prog : Program} {w : World} {A : Around} {E : Value → Shared → Prop} {s : Shared} {α : Type} {lt : α → α → Bool} {kf : Value → α}
end

section
variable {prog : Program} {w : World} {s : Shared}
end
section
variable {X : Cx}
end
end L2

namespace L2
open PySem PySem.Spec PySem.Calls PyProof.Rows PySem.W


section
variable {prog : Program} {w : World} {A : Around} {s : Shared}
end
section
variable {X : Cx}
end
end L2

namespace L2
open PySem PySem.Spec PySem.Calls PyProof.Rows PySem.W

section
variable {X : Cx} {e lo st : Expr} {te : TE} {tl ts : TO} {p2 pos : Pos}
end
end L2

namespace L2
open PySem PySem.Spec PySem.Calls PyProof.Rows PySem.W

section
variable {prog : Program} {w : World} {A : Around} {E : Value → Shared → Prop} {s : Shared} {a : Addr} {o : Obj} {xs : Array Value} {k : Nat}
end
section
variable {prog : Program} {w : World} {A : Around} {E : Value → Shared → Prop} {s : Shared}
end

section
variable {X : Cx}
end

section
variable {X : Cx}
end
end L2

namespace L2
open PySem PySem.Spec PySem.Calls PyProof.Rows PySem.W

section
variable {P : Program} {w : World} {K : PySem.W.Frag} {mg : Str → Option Value} {base : Heap} {N : List Str} {qual : Str} {scope : Scope} {f : Addr} {cd : Value} {cl : List (Str × Addr)} {A : Around} {outer : List Env} {s0 : Shared} {H0 : Hp} {E : XK}
end

section
variable {X : Cx}
end

section
variable {X : Cx}
end
end L2

namespace L2
open PySem PySem.Spec PySem.Calls PyProof.Rows

section
variable {X : Cx} {st : Stmt} {rest : List Stmt} {t u : TS} {pos : Pos} {e a b : PySem.Expr} {te ta tb : TE}
theorem pssx_nil : PSsx X [] tNext := ⟨pss_nil⟩
theorem psx_ret (h : PEx X e te) : PSx X (.Return (some e) pos) (tRet te) := ⟨ps_ret h.h⟩
theorem psx_if {c : PySem.Expr} {l r : List Stmt} {tc : TT} (hc : PT X c tc) (ha : PSsx X l t) (hb : PSsx X r u) : PSx X (.If c l r pos) (tIfS tc t u) := ⟨ps_if hc ha.h hb.h⟩
theorem pex_ix {r : R2} (hr : IxR X r) (ha : PEx X a ta) (hb : PE X b tb) (hs : PlainIx b) : PEx X (.Subscript a b pos) (tOp r ta tb) := ⟨pe_ix hr ha.h hb hs⟩
end
section
variable {P : Program} {w : World} {K : PySem.W.Frag} {mg : Str → Option Value} {base : Heap}
end
end L2

namespace Qs
open PySem L2

def top (i : Nat) : Stmt := PySem.Challenge.pw_quartersheet_k45_cutting_refused.main.body.getD i (.Pass ⟨0, 0, 0, 0⟩)

structure Tx (K : PySem.W.Frag) (mg : Str → Option Value) : Prop where
  b_isinstance : mg "isinstance" = none
  b_int : mg "int" = none
  b_bool : mg "bool" = none
  c_MOST : ∃ t, mg "MOST" = some (.int 40 t)
  c_LAST_COLOUR : ∃ t, mg "LAST_COLOUR" = some (.int 35 t)
  b_all : mg "all" = none
  b_str : mg "str" = none
  b_len : mg "len" = none
  c_QUARTERS : ∃ t, mg "QUARTERS" = some (.str "0123" t)
  c_MOST_SMALL : ∃ t, mg "MOST_SMALL" = some (.int 6 t)
  b_range : mg "range" = none
  b_tuple : mg "tuple" = none
  b_list : mg "list" = none
  b_max : mg "max" = none
  b_min : mg "min" = none
  b_ValueError : mg "ValueError" = none
end Qs
namespace Qs
open PySem L2

theorem str_ext {a b : Str} (h : a.cps.toList = b.cps.toList) : a = b := by
  obtain ⟨a⟩ := a
  obtain ⟨b⟩ := b
  have h' : a.toList = b.toList := h
  have e : a = b := Array.toList_inj.mp h'
  rw [e]
theorem empty_eq : ("" : Str) = ⟨#[]⟩ := by decide +kernel
def pre (z : Str) (k : Nat) : Str := ⟨(z.cps.toList.take k).toArray⟩
theorem slice_pre (z : Str) (k : Nat) : Txt.slice z none (some (k : Int)) = pre z k := by
  by_cases h : k ≤ z.length
  · have e := PyProof.Rows.slice_closes_to (x := z) (j := (k : Int)) ⟨by omega, by rw [← len_eq]; omega⟩
    rw [beq_iff_eq] at e
    rw [e]
    unfold pre
    simp
  · have e : Builtin.Str.strSliceIndices none (some (k : Int)) 1 z.length = (List.range z.length).map fun j : Nat => (0 + 1 * (j : Int)).toNat := by
      unfold Builtin.Str.strSliceIndices
      dsimp only
      unfold sliceRange
      have h1 : ¬ (k : Int) < 0 := by omega
      have h2 : max (0 : Int) (min (k : Int) (z.length : Int)) = (z.length : Int) := by omega
      simp only [show (1 : Int) > 0 by decide, if_true, h1, if_false, h2]
      by_cases h0 : (0 : Int) < (z.length : Int)
      · rw [if_pos h0]
        have e3 : (((z.length : Int) - 0 + 1 - 1) / 1).toNat = z.length := by omega
        rw [e3]
      · rw [if_neg h0]
        have e3 : z.length = 0 := by omega
        rw [e3]; rfl
    unfold Txt.slice
    rw [e, List.length_map, List.length_range]
    rw [if_pos (by simp)]
    refine str_ext ?_
    unfold pre
    rw [List.take_of_length_le (by rw [← len_eq]; omega)]
theorem pre_len (z : Str) (k : Nat) : (pre z k).length = min k z.length := by
  rw [len_eq, len_eq]; simp [pre]
theorem pre_isC {z : Str} (h : IsC z) (k : Nat) : IsC (pre z k) := fun c hc => h c (by
  have hc' : c ∈ z.cps.toList.take k := by simpa [pre] using hc
  exact List.mem_of_mem_take hc')

theorem mul_ok {z : Str} {n : Nat} (h : z.length ≤ 100) (hn : n ≤ 100) : MulOk z (n : Int) := by
  refine ⟨?_, fun _ _ => ?_, fun _ _ => ?_⟩
  · rw [decide_eq_false (by omega), decide_eq_false (by omega)]; rfl
  · have h1 : (2 ^ 63 - 1 : Int) / (n : Int) ≥ 100 ∨ n = 0 := by
      by_cases h0 : n = 0
      · exact .inr h0
      · refine .inl ?_
        have hp : (0 : Int) < (n : Int) := by omega
        exact (Int.le_ediv_iff_mul_le hp).mpr (by omega)
    rcases h1 with h1 | h1
    · omega
    · subst h1
      simp at *
  · have e : z.length * ((n : Int)).toNat ≤ 100 * 100 := Nat.mul_le_mul h (by rw [Int.toNat_natCast]; exact hn)
    unfold Builtin.Str.tooLong
    have hs : sizeLine = 16777216 := sizeLine_eq
    exact decide_eq_false (by omega)
theorem foldl_len (xs : Array Nat) : ∀ (k : Nat) (acc : Array Nat), ((List.replicate k xs).foldl (· ++ ·) acc).size = acc.size + k * xs.size
  | 0, acc => by simp
  | k + 1, acc => by
    show ((List.replicate k xs).foldl (· ++ ·) (acc ++ xs)).size = _
    rw [foldl_len xs k, Array.size_append, Nat.add_mul]
    omega
theorem mul_len (z : Str) (n : Nat) : (Txt.mul z (n : Int)).length ≤ n * z.length := by
  unfold Txt.mul
  split
  · exact Nat.zero_le _
  · rename_i h
    split
    · have : 1 * z.length ≤ n * z.length := Nat.mul_le_mul_right _ (by omega)
      omega
    · show ((List.replicate ((n : Int)).toNat z.cps).foldl (· ++ ·) #[]).size ≤ _
      rw [foldl_len, Int.toNat_natCast]
      show 0 + n * z.cps.size ≤ n * z.length
      exact Nat.le_of_eq (Nat.zero_add _)
theorem app_len (a b : Str) : (a ++ b).length = a.length + b.length := by
  show (a.cps ++ b.cps).size = _
  rw [Array.size_append]; rfl
theorem at_q {d : Nat} (h : d < 4) : atI ("0123" : Str).cps.toList (d : Int) = some (48 + d) :=
  four (P := fun d => atI ("0123" : Str).cps.toList (d : Int) = some (48 + d)) (by decide +kernel) (by decide +kernel) (by decide +kernel) (by decide +kernel) h
theorem q_len : ("0123" : Str).length ≤ sizeLine := by decide +kernel
end Qs
namespace Qs
open PySem L2

def oneB (a b c d : Tr) : Bool := a.isCol && (decide (a = a) && (decide (b = a) && (decide (c = a) && (decide (d = a) && true))))
def gath (a b c d : Tr) : Tr := if oneB a b c d then a else .four a b c d
def q0 : Tr → Tr | .col i => .col i | .four a _ _ _ => a
def q1 : Tr → Tr | .col i => .col i | .four _ b _ _ => b
def q2 : Tr → Tr | .col i => .col i | .four _ _ c _ => c
def q3 : Tr → Tr | .col i => .col i | .four _ _ _ d => d
theorem oneB_iff {a b c d : Tr} : oneB a b c d = true ↔ a.isCol = true ∧ b = a ∧ c = a ∧ d = a := by
  unfold oneB
  simp only [Bool.and_eq_true, decide_eq_true_eq, and_true, true_and]
theorem gath_parts (a b c d : Tr) : q0 (gath a b c d) = a ∧ q1 (gath a b c d) = b ∧ q2 (gath a b c d) = c ∧ q3 (gath a b c d) = d := by
  unfold gath
  by_cases h : oneB a b c d = true
  · rw [if_pos h]
    obtain ⟨h1, rfl, rfl, rfl⟩ := oneB_iff.mp h
    cases d with
    | col i => exact ⟨rfl, rfl, rfl, rfl⟩
    | four => cases h1
  · rw [if_neg h]; exact ⟨rfl, rfl, rfl, rfl⟩
theorem gath_deep {a b c d : Tr} {n : Nat} (ha : a.deep ≤ n) (hb : b.deep ≤ n) (hc : c.deep ≤ n) (hd : d.deep ≤ n) : (gath a b c d).deep ≤ n + 1 := by
  unfold gath
  split
  · omega
  · show max a.deep (max b.deep (max c.deep d.deep)) + 1 ≤ n + 1
    omega

def ShAt (H : Hp) (v : V) (n : Int) (t : Tr) : Prop := ∃ p x, v = .ref p ∧ H p = some (.tup [.int n, x]) ∧ TrAt H x t
theorem ShAt.up {H H' : Hp} {v : V} {n : Int} {t : Tr} (h : ShAt H v n t) (s : Tups H H') : ShAt H' v n t := by
  obtain ⟨p, x, e, hp, ht⟩ := h
  exact ⟨p, x, e, s _ _ hp, ht.up s⟩
theorem kit_it {K : PySem.W.Frag} : PySem.W.kitOne K (.type "int") (.type "tuple") = some false := by kernel_rfl

def qk (t : Tr) : Nat → Tr
  | 0 => q0 t
  | 1 => q1 t
  | 2 => q2 t
  | _ => q3 t
def put4 (t : Tr) (d : Nat) (x : Tr) : Tr := gath (if d = 0 then x else q0 t) (if d = 1 then x else q1 t) (if d = 2 then x else q2 t) (if d = 3 then x else q3 t)
def plant (t : Tr) : List Nat → Tr → Tr
  | [], o => o
  | d :: ds, o => put4 t d (plant (qk t d) ds o)
def treeAt (t : Tr) (ds : List Nat) : Tr := ds.foldl qk t
theorem qk_deep {t : Tr} {n d : Nat} (h : t.deep ≤ n + 1) : (qk t d).deep ≤ n := by
  cases t with
  | col i => rcases d with _ | _ | _ | d <;> exact Nat.zero_le _
  | four a b c e =>
    have h' : max a.deep (max b.deep (max c.deep e.deep)) + 1 ≤ n + 1 := h
    rcases d with _ | _ | _ | d
    · show a.deep ≤ n; omega
    · show b.deep ≤ n; omega
    · show c.deep ≤ n; omega
    · show e.deep ≤ n; omega
theorem qk_deep' {t : Tr} {n d : Nat} (h : t.deep ≤ n) : (qk t d).deep ≤ n := by
  rcases n with _ | n
  · cases t with
    | col i => rcases d with _ | _ | _ | d <;> exact Nat.zero_le _
    | four a b c e => exact absurd h (by show ¬ _ + 1 ≤ 0; omega)
  · exact Nat.le_succ_of_le (qk_deep h)
theorem put4_deep {t x : Tr} {n d : Nat} (h : t.deep ≤ n + 1) (hx : x.deep ≤ n) : (put4 t d x).deep ≤ n + 1 := by
  unfold put4
  have h0 := qk_deep (d := 0) h
  have h1 := qk_deep (d := 1) h
  have h2 := qk_deep (d := 2) h
  have h3 := qk_deep (d := 3) h
  refine gath_deep ?_ ?_ ?_ ?_ <;> split <;> assumption
def Good : Nat → Tr → Prop
  | _, .col i => 0 ≤ i ∧ i ≤ 35
  | 0, .four .. => False
  | n + 1, .four a b c d => Good n a ∧ Good n b ∧ Good n c ∧ Good n d ∧ oneB a b c d = false
theorem Good.deep : ∀ {n : Nat} {t : Tr}, Good n t → t.deep ≤ n
  | _, .col i, _ => Nat.zero_le _
  | 0, .four .., h => h.elim
  | n + 1, .four a b c d, ⟨ha, hb, hc, hd, _⟩ => by
    have := ha.deep
    have := hb.deep
    have := hc.deep
    have := hd.deep
    show max a.deep (max b.deep (max c.deep d.deep)) + 1 ≤ n + 1
    omega
theorem Good.col {n : Nat} {i : Int} (h : 0 ≤ i ∧ i ≤ 35) : Good n (.col i) := by cases n <;> exact h
theorem Good.q {n : Nat} {t : Tr} (h : Good (n + 1) t) (k : Nat) : Good n (qk t k) := by
  cases t with
  | col i =>
    have z : Good n (.col i) := Good.col h
    rcases k with _ | _ | _ | k <;> exact z
  | four a b c d =>
    obtain ⟨ha, hb, hc, hd, _⟩ := h
    rcases k with _ | _ | _ | k
    · exact ha
    · exact hb
    · exact hc
    · exact hd
theorem Good.up {n : Nat} {t : Tr} (h : Good n t) : Good (n + 1) t := by
  induction t generalizing n with
  | col i => exact Good.col (by cases n <;> exact h)
  | four a b c d ia ib ic id =>
    cases n with
    | zero => exact h.elim
    | succ n =>
      obtain ⟨ha, hb, hc, hd, ho⟩ := h
      exact ⟨ia ha, ib hb, ic hc, id hd, ho⟩
theorem good_gath {n : Nat} {a b c d : Tr} (ha : Good n a) (hb : Good n b) (hc : Good n c) (hd : Good n d) : Good (n + 1) (gath a b c d) := by
  unfold gath
  split
  · exact ha.up
  · rename_i h
    exact ⟨ha, hb, hc, hd, by simpa using h⟩
theorem good_put4 {n d : Nat} {t x : Tr} (h : Good (n + 1) t) (hx : Good n x) : Good (n + 1) (put4 t d x) := by
  unfold put4
  have h0 := h.q 0
  have h1 := h.q 1
  have h2 := h.q 2
  have h3 := h.q 3
  refine good_gath ?_ ?_ ?_ ?_ <;> split <;> assumption
theorem good_plant : ∀ {n : Nat} {ds : List Nat} {t o : Tr}, ds.length ≤ n → Good n t → Good (n - ds.length) o → Good n (plant t ds o)
  | n, [], t, o, _, _, h => h
  | 0, d :: ds, t, o, hl, _, _ => by simp at hl
  | n + 1, d :: ds, t, o, hl, ht, ho => by
    have hl' : ds.length ≤ n := by simpa using hl
    refine good_put4 ht (good_plant hl' (ht.q d) ?_)
    have e : n + 1 - (d :: ds).length = n - ds.length := by simp
    rw [e] at ho
    exact ho
theorem good_treeAt : ∀ {ds : List Nat} {n : Nat} {t : Tr}, ds.length ≤ n → Good n t → Good (n - ds.length) (treeAt t ds)
  | [], n, t, _, h => h
  | d :: ds, 0, t, hl, _ => by simp at hl
  | d :: ds, n + 1, t, hl, ht => by
    have hl' : ds.length ≤ n := by simpa using hl
    have e : n + 1 - (d :: ds).length = n - ds.length := by simp
    rw [e]
    exact good_treeAt hl' (ht.q d)
theorem plant_deep : ∀ (ds : List Nat) (n : Nat) (t o : Tr), t.deep ≤ n → o.deep + ds.length ≤ n → (plant t ds o).deep ≤ n
  | [], n, t, o, _, h => by show o.deep ≤ n; simpa using h
  | d :: ds, 0, t, o, _, h => by simp at h
  | d :: ds, n + 1, t, o, ht, ho => by
    have ho' : o.deep + ds.length ≤ n := by simp at ho; omega
    exact put4_deep ht (plant_deep ds n (qk t d) o (qk_deep ht) ho')
section
variable {P : Program} {w : World} {K : PySem.W.Frag} {mg : Str → Option Value} {base : Heap} {CX : CXT} {f : Addr} {fd : FuncData}
theorem at4 {α : Type} {a b c d x : α} {i : Nat} (h : [a, b, c, d][i]? = some x) : (i = 0 ∧ x = a) ∨ (i = 1 ∧ x = b) ∨ (i = 2 ∧ x = c) ∨ (i = 3 ∧ x = d) := by
  rcases i with _ | _ | _ | _ | i
  · exact .inl ⟨rfl, (Option.some.inj h).symm⟩
  · exact .inr (.inl ⟨rfl, (Option.some.inj h).symm⟩)
  · exact .inr (.inr (.inl ⟨rfl, (Option.some.inj h).symm⟩))
  · exact .inr (.inr (.inr ⟨rfl, (Option.some.inj h).symm⟩))
  · simp at h
theorem str_eq_nil {z : Str} : (z = ("" : Str)) ↔ z.length = 0 := by
  constructor
  · rintro rfl; decide +kernel
  · intro h
    apply str_ext
    have e : z.cps.toList = [] := List.eq_nil_of_length_eq_zero (by rw [← len_eq]; exact h)
    rw [e]; decide +kernel

def rst (z : Str) : Str := ⟨(z.cps.toList.drop 1).toArray⟩
theorem slice_rst {z : Str} (h : 0 < z.length) : Txt.slice z (some 1) none = rst z := by
  have e := PyProof.Rows.slice_closes_from (x := z) (i := 1) ⟨by decide, by rw [← len_eq]; omega⟩
  rw [beq_iff_eq] at e
  rw [e]
  unfold rst
  congr 2
  show (z.cps.toList.drop 1).take ((z.cps.toList.length : Int) - 1).toNat = _
  rw [List.take_of_length_le]
  rw [List.length_drop, ← len_eq]; omega
theorem rst_len (z : Str) : (rst z).length = z.length - 1 := by rw [len_eq, len_eq]; simp [rst]
theorem rst_isC {z : Str} (h : IsC z) : IsC (rst z) := fun c hc => h c (by
  have hc' : c ∈ z.cps.toList.drop 1 := by simpa [rst] using hc
  exact List.mem_of_mem_drop hc')
theorem at_zero {z : Str} (h : 0 < z.length) : atI z.cps.toList 0 = some (z.cps.getD 0 0) := by
  have hs : 0 < z.cps.size := h
  refine atI_nat (j := 0) ?_
  simp [Array.getD_eq_getD_getElem?, hs]
theorem Same.none {H H' : Hp} {l : Addr} (s : Same H H') (h : H' l = none) : H l = none := by
  cases q : H l with
  | none => rfl
  | some o => rw [s _ _ q] at h; cases h
theorem fokF {x qual : Str} {st : Stmt} {dV : Value} {ps : List Str} (F : FunD K x qual st f fd dV) (b : Binds K fd ps []) (m : mg x = some (.ref f)) : Fok P w K mg base CX 0 x ps [] (fun _ _ _ _ => False) :=
  ⟨f, fd, [], ⟨fun _ _ _ _ h => h.elim, fun _ _ _ _ _ _ _ _ _ _ _ _ _ h => h.elim⟩, b, .nil, F.kp, m⟩
theorem dig_empty : dig ("" : Str) = [] := by decide +kernel
theorem dig_rst {z : Str} (h : 0 < z.length) : dig z = (z.cps.getD 0 0 - 48) :: dig (rst z) := by
  have hs : 0 < z.cps.size := h
  have hl : 0 < z.cps.toList.length := by simpa using hs
  have e : z.cps.toList = z.cps.getD 0 0 :: z.cps.toList.drop 1 := by
    have e1 := List.drop_eq_getElem_cons (l := z.cps.toList) (i := 0) hl
    rw [List.drop_zero] at e1
    have e2 : z.cps.getD 0 0 = z.cps.toList[0] := by simp [Array.getD_eq_getD_getElem?, hs]
    rw [e2]; exact e1
  unfold dig rst
  conv => lhs; rw [e]
  rfl
end
end Qs
namespace Qs
open PySem L2
def pk4 (a b c d : Tr) : Nat → Tr
  | 0 => a
  | 1 => b
  | 2 => c
  | _ => d

theorem qk_pk (a b c d : Tr) (k : Nat) : qk (.four a b c d) k = pk4 a b c d k := by rcases k with _ | _ | _ | k <;> rfl
def bit (x l : Nat) : Nat := x / 2 ^ l % 2
def colAt : Nat → Tr → Nat → Nat → Int
  | _, .col i, _, _ => i
  | 0, .four .., _, _ => 0
  | l + 1, .four a b c d, x, y => colAt l (pk4 a b c d (bit x l + 2 * bit y l)) x y
theorem colAt_col (l : Nat) (i : Int) (x y : Nat) : colAt l (.col i) x y = i := by cases l <;> rfl
theorem colAt_step (l : Nat) (t : Tr) (x y : Nat) : colAt (l + 1) t x y = colAt l (qk t (bit x l + 2 * bit y l)) x y := by
  cases t with
  | col i =>
    have z : ∀ k, qk (Tr.col i) k = .col i := fun k => by rcases k with _ | _ | _ | k <;> rfl
    rw [z, colAt_col, colAt_col]
  | four a b c d => rw [qk_pk]; rfl
theorem bit_mod {x l m : Nat} (h : l < m) : bit (x % 2 ^ m) l = bit x l := by
  unfold bit
  have e : 2 ^ m = 2 ^ l * 2 ^ (m - l) := by rw [← Nat.pow_add]; congr 1; omega
  rw [e, Nat.mod_mul_right_div_self]
  exact Nat.mod_mod_of_dvd _ ⟨2 ^ (m - l - 1), by rw [← Nat.pow_succ']; congr 1; omega⟩
theorem colAt_mod : ∀ (l : Nat) (t : Tr) (x y m : Nat), l ≤ m → colAt l t (x % 2 ^ m) (y % 2 ^ m) = colAt l t x y
  | 0, .col i, _, _, _, _ => rfl
  | 0, .four .., _, _, _, _ => rfl
  | l + 1, t, x, y, m, h => by
    rw [colAt_step, colAt_step, bit_mod (by omega), bit_mod (by omega)]
    exact colAt_mod l _ x y m (by omega)
theorem colAt_split (l : Nat) (t : Tr) (x y : Nat) : colAt (l + 1) t x y = colAt l (qk t (bit x l + 2 * bit y l)) (x % 2 ^ l) (y % 2 ^ l) := by
  rw [colAt_step, colAt_mod l _ x y l (Nat.le_refl _)]
def shown (X Y : Int) (l : Nat) (t : Tr) (e : Int) : Int := if 0 ≤ X ∧ X < ((2 ^ l : Nat) : Int) ∧ 0 ≤ Y ∧ Y < ((2 ^ l : Nat) : Int) then colAt l t X.toNat Y.toNat else e
theorem shown_in {x y l : Nat} {t : Tr} {e : Int} (hx : x < 2 ^ l) (hy : y < 2 ^ l) : shown (x : Int) (y : Int) l t e = colAt l t x y := by
  unfold shown
  rw [if_pos ⟨by omega, by omega, by omega, by omega⟩, Int.toNat_natCast, Int.toNat_natCast]
theorem shown_out {X Y : Int} {l : Nat} {t : Tr} {e : Int} (h : X < 0 ∨ ((2 ^ l : Nat) : Int) ≤ X ∨ Y < 0 ∨ ((2 ^ l : Nat) : Int) ≤ Y) : shown X Y l t e = e := by
  unfold shown
  rw [if_neg (by omega)]
theorem div_same {x s i P : Nat} (h : x / P = (x + s - 1) / P) (hi : i < s) : (x + i) / P = x / P := by
  have h1 : x / P ≤ (x + i) / P := Nat.div_le_div_right (by omega)
  have h2 : (x + i) / P ≤ (x + s - 1) / P := Nat.div_le_div_right (by omega)
  omega
theorem mod_same {x s i P : Nat} (hP : 0 < P) (h : x / P = (x + s - 1) / P) (hi : i < s) : x % P + i = (x + i) % P := by
  have h1 := div_same h hi
  have h2 := Nat.div_add_mod x P
  have h3 := Nat.div_add_mod (x + i) P
  rw [h1] at h3
  omega
theorem shown_quarter {x y s i j l : Nat} {t : Tr} {e : Int} (hx : x / 2 ^ l = (x + s - 1) / 2 ^ l) (hy : y / 2 ^ l = (y + s - 1) / 2 ^ l) (bx : x + s ≤ 2 ^ (l + 1)) (bY : y + s ≤ 2 ^ (l + 1)) (hi : i < s) (hj : j < s) :
    shown (((x % 2 ^ l : Nat) : Int) + (i : Int)) (((y % 2 ^ l : Nat) : Int) + (j : Int)) l (qk t (y / 2 ^ l * 2 + x / 2 ^ l)) e = shown ((x : Int) + (i : Int)) ((y : Int) + (j : Int)) (l + 1) t e := by
  have p : 0 < 2 ^ l := Nat.two_pow_pos l
  have e1 : ((x % 2 ^ l : Nat) : Int) + (i : Int) = (((x + i) % 2 ^ l : Nat) : Int) := by rw [← mod_same p hx hi]; omega
  have e2 : ((y % 2 ^ l : Nat) : Int) + (j : Int) = (((y + j) % 2 ^ l : Nat) : Int) := by rw [← mod_same p hy hj]; omega
  have e3 : (x : Int) + (i : Int) = ((x + i : Nat) : Int) := by omega
  have e4 : (y : Int) + (j : Int) = ((y + j : Nat) : Int) := by omega
  have pw : 2 ^ (l + 1) = 2 * 2 ^ l := by rw [Nat.pow_succ]; omega
  rw [e1, e2, e3, e4, shown_in (Nat.mod_lt _ p) (Nat.mod_lt _ p), shown_in (by omega) (by omega), colAt_split]
  have c1 : bit (x + i) l = x / 2 ^ l := by
    unfold bit
    rw [div_same hx hi]
    exact Nat.mod_eq_of_lt ((Nat.div_lt_iff_lt_mul p).mpr (by omega))
  have c2 : bit (y + j) l = y / 2 ^ l := by
    unfold bit
    rw [div_same hy hj]
    exact Nat.mod_eq_of_lt ((Nat.div_lt_iff_lt_mul p).mpr (by omega))
  rw [c1, c2, show x / 2 ^ l + 2 * (y / 2 ^ l) = y / 2 ^ l * 2 + x / 2 ^ l by omega]

theorem shown_parts {X Y : Int} {s i j l : Nat} {r tb t : Tr} (hi : i < 2 ^ (s + 1)) (hj : j < 2 ^ (s + 1))
    (h : ∀ k, k < 4 → ∀ u v, u < 2 ^ s → v < 2 ^ s → colAt s (qk r k) u v = shown (X + ((k % 2 * 2 ^ s : Nat) : Int) + (u : Int)) (Y + ((k / 2 * 2 ^ s : Nat) : Int) + (v : Int)) l t (colAt s (qk tb k) u v)) :
    colAt (s + 1) r i j = shown (X + (i : Int)) (Y + (j : Int)) l t (colAt (s + 1) tb i j) := by
  have p : 0 < 2 ^ s := Nat.two_pow_pos s
  have pw : 2 ^ (s + 1) = 2 ^ s * 2 := by rw [Nat.pow_succ]
  have bi : i / 2 ^ s < 2 := (Nat.div_lt_iff_lt_mul p).mpr (by omega)
  have bj : j / 2 ^ s < 2 := (Nat.div_lt_iff_lt_mul p).mpr (by omega)
  have b1 : bit i s = i / 2 ^ s := Nat.mod_eq_of_lt bi
  have b2 : bit j s = j / 2 ^ s := Nat.mod_eq_of_lt bj
  rw [colAt_split, colAt_split s tb, b1, b2, h (i / 2 ^ s + 2 * (j / 2 ^ s)) (by omega) (i % 2 ^ s) (j % 2 ^ s) (Nat.mod_lt _ p) (Nat.mod_lt _ p)]
  have f1 : (i / 2 ^ s + 2 * (j / 2 ^ s)) % 2 = i / 2 ^ s := by omega
  have f2 : (i / 2 ^ s + 2 * (j / 2 ^ s)) / 2 = j / 2 ^ s := by omega
  rw [f1, f2]
  have g1 := Nat.div_add_mod i (2 ^ s)
  have g2 := Nat.div_add_mod j (2 ^ s)
  rw [Nat.mul_comm] at g1 g2
  have k1 : X + ((i / 2 ^ s * 2 ^ s : Nat) : Int) + ((i % 2 ^ s : Nat) : Int) = X + (i : Int) := by omega
  have k2 : Y + ((j / 2 ^ s * 2 ^ s : Nat) : Int) + ((j % 2 ^ s : Nat) : Int) = Y + (j : Int) := by omega
  rw [k1, k2]
theorem TyOf.up {K : PySem.W.Frag} {H H' : Hp} {x : V} {t : Value} (sm : Same H H') (h : TyOf K H x t) : TyOf K H' x t := by
  cases h with
  | non => exact .non
  | bl x => exact .bl x
  | int i => exact .int i
  | str x => exact .str x
  | flt x => exact .flt x
  | lst e => exact .lst (sm _ _ e)
  | frz e => exact .frz (sm _ _ e)
  | tup e => exact .tup (sm _ _ e)
  | dK e => exact .dK (sm _ _ e)
  | dT e => exact .dT (sm _ _ e)
  | ins e cl ha hn htk hm => exact .ins (sm _ _ e) cl ha hn htk hm
end Qs


namespace Qs
open PySem L2
set_option genInjectivity false in
structure Yx (K : PySem.W.Frag) (mg : Str → Option Value) where
  c_NoLevel : Addr
  c_NoCode : Addr
  c_NoColour : Addr
  c_NoPlace : Addr
  c_NoSide : Addr
  c_NoLeaf : Addr
  c_Twice : Addr
  c_Gap : Addr
  c_NoText : Addr
  c_NoName : Addr
  c_NoNumber : Addr
  c_NoRow : Addr
  c_SheetError : Addr
  m_NoLevel : mg "NoLevel" = some (.ref c_NoLevel)
  m_NoCode : mg "NoCode" = some (.ref c_NoCode)
  m_NoColour : mg "NoColour" = some (.ref c_NoColour)
  m_NoPlace : mg "NoPlace" = some (.ref c_NoPlace)
  m_NoSide : mg "NoSide" = some (.ref c_NoSide)
  m_NoLeaf : mg "NoLeaf" = some (.ref c_NoLeaf)
  m_Twice : mg "Twice" = some (.ref c_Twice)
  m_Gap : mg "Gap" = some (.ref c_Gap)
  m_NoText : mg "NoText" = some (.ref c_NoText)
  m_NoName : mg "NoName" = some (.ref c_NoName)
  m_NoNumber : mg "NoNumber" = some (.ref c_NoNumber)
  m_NoRow : mg "NoRow" = some (.ref c_NoRow)
  m_SheetError : mg "SheetError" = some (.ref c_SheetError)
  x_NoLevel : OwnX K mg "NoLevel" c_NoLevel
  k_NoLevel : ExcC K c_NoLevel
  s_NoLevel : PySem.W.exmOne K (.ref c_NoLevel) (.ref c_SheetError) = some true
  v_NoLevel : PySem.W.kitOne K (.ref c_NoLevel) (.type "ValueError") = some true
  t_NoLevel_NoCode : PySem.W.kitOne K (.ref c_NoLevel) (.ref c_NoCode) = some false
  t_NoLevel_NoColour : PySem.W.kitOne K (.ref c_NoLevel) (.ref c_NoColour) = some false
  t_NoLevel_NoPlace : PySem.W.kitOne K (.ref c_NoLevel) (.ref c_NoPlace) = some false
  t_NoLevel_NoSide : PySem.W.kitOne K (.ref c_NoLevel) (.ref c_NoSide) = some false
  t_NoLevel_NoLeaf : PySem.W.kitOne K (.ref c_NoLevel) (.ref c_NoLeaf) = some false
  t_NoLevel_Twice : PySem.W.kitOne K (.ref c_NoLevel) (.ref c_Twice) = some false
  t_NoLevel_Gap : PySem.W.kitOne K (.ref c_NoLevel) (.ref c_Gap) = some false
  t_NoLevel_NoText : PySem.W.kitOne K (.ref c_NoLevel) (.ref c_NoText) = some false
  t_NoLevel_NoName : PySem.W.kitOne K (.ref c_NoLevel) (.ref c_NoName) = some false
  t_NoLevel_NoNumber : PySem.W.kitOne K (.ref c_NoLevel) (.ref c_NoNumber) = some false
  t_NoLevel_NoRow : PySem.W.kitOne K (.ref c_NoLevel) (.ref c_NoRow) = some false
  x_NoCode : OwnX K mg "NoCode" c_NoCode
  k_NoCode : ExcC K c_NoCode
  s_NoCode : PySem.W.exmOne K (.ref c_NoCode) (.ref c_SheetError) = some true
  v_NoCode : PySem.W.kitOne K (.ref c_NoCode) (.type "ValueError") = some true
  t_NoCode_NoLevel : PySem.W.kitOne K (.ref c_NoCode) (.ref c_NoLevel) = some false
  t_NoCode_NoColour : PySem.W.kitOne K (.ref c_NoCode) (.ref c_NoColour) = some false
  t_NoCode_NoPlace : PySem.W.kitOne K (.ref c_NoCode) (.ref c_NoPlace) = some false
  t_NoCode_NoSide : PySem.W.kitOne K (.ref c_NoCode) (.ref c_NoSide) = some false
  t_NoCode_NoLeaf : PySem.W.kitOne K (.ref c_NoCode) (.ref c_NoLeaf) = some false
  t_NoCode_Twice : PySem.W.kitOne K (.ref c_NoCode) (.ref c_Twice) = some false
  t_NoCode_Gap : PySem.W.kitOne K (.ref c_NoCode) (.ref c_Gap) = some false
  t_NoCode_NoText : PySem.W.kitOne K (.ref c_NoCode) (.ref c_NoText) = some false
  t_NoCode_NoName : PySem.W.kitOne K (.ref c_NoCode) (.ref c_NoName) = some false
  t_NoCode_NoNumber : PySem.W.kitOne K (.ref c_NoCode) (.ref c_NoNumber) = some false
  t_NoCode_NoRow : PySem.W.kitOne K (.ref c_NoCode) (.ref c_NoRow) = some false
  x_NoColour : OwnX K mg "NoColour" c_NoColour
  k_NoColour : ExcC K c_NoColour
  s_NoColour : PySem.W.exmOne K (.ref c_NoColour) (.ref c_SheetError) = some true
  v_NoColour : PySem.W.kitOne K (.ref c_NoColour) (.type "ValueError") = some true
  t_NoColour_NoLevel : PySem.W.kitOne K (.ref c_NoColour) (.ref c_NoLevel) = some false
  t_NoColour_NoCode : PySem.W.kitOne K (.ref c_NoColour) (.ref c_NoCode) = some false
  t_NoColour_NoPlace : PySem.W.kitOne K (.ref c_NoColour) (.ref c_NoPlace) = some false
  t_NoColour_NoSide : PySem.W.kitOne K (.ref c_NoColour) (.ref c_NoSide) = some false
  t_NoColour_NoLeaf : PySem.W.kitOne K (.ref c_NoColour) (.ref c_NoLeaf) = some false
  t_NoColour_Twice : PySem.W.kitOne K (.ref c_NoColour) (.ref c_Twice) = some false
  t_NoColour_Gap : PySem.W.kitOne K (.ref c_NoColour) (.ref c_Gap) = some false
  t_NoColour_NoText : PySem.W.kitOne K (.ref c_NoColour) (.ref c_NoText) = some false
  t_NoColour_NoName : PySem.W.kitOne K (.ref c_NoColour) (.ref c_NoName) = some false
  t_NoColour_NoNumber : PySem.W.kitOne K (.ref c_NoColour) (.ref c_NoNumber) = some false
  t_NoColour_NoRow : PySem.W.kitOne K (.ref c_NoColour) (.ref c_NoRow) = some false
theorem kit_same {K : PySem.W.Frag} {v : Value} : PySem.W.kitOne K v v = some true := by unfold PySem.W.kitOne; simp
section
variable {P : Program} {w : World} {K : PySem.W.Frag} {mg : Str → Option Value} {base : Heap} {CX : CXT} {f : Addr} {fd : FuncData}
abbrev s_is_whole : Stmt := top 19
theorem sc_is_whole : FnScope ["thing"] ["thing"] (defScope s_is_whole) := ⟨rfl, rfl, rfl, by decide +kernel, rfl, by decide +kernel, by decide +kernel⟩
def sp_is_whole (K : PySem.W.Frag) : Sp := fun vs H Q _ => ∃ x, vs = [x] ∧ ((∃ i, x = .int i ∧ Q (.bl true) H) ∨ (∃ b, x = .bl b ∧ Q (.bl false) H) ∨ ∃ t, TyOf K H x t ∧ PySem.W.kitOne K t (.type "int") = some false ∧ Q (.bl false) H)
theorem ok_is_whole (T : Tx K mg) (F : FunD K "is_whole" "is_whole" s_is_whole f fd .none) : FnOk P w K mg base CX 1 f fd ["thing"] (sp_is_whole K) := by
  refine F.ok sc_is_whole (fun vs H Q E h => ?_) (fun cdv A outer s H vs Q E hr h => ?_)
  · obtain ⟨x, rfl, _⟩ := h
    rfl
  obtain ⟨x, rfl, h⟩ := h
  refine ⟨_, (pss_one (ps_ret (pe_and (pe_callB (call_isiT "int") rfl T.b_isinstance bb_isinstance (pa_cons (pv 0) (pa_cons (pe_bty T.b_int bt_int) pa_nil))) (pe_one (pe_not (pe_callB (call_isiT "bool") rfl T.b_isinstance bb_isinstance (pa_cons (pv 0) (pa_cons (pe_bty T.b_bool bt_bool) pa_nil)))))))), ?_⟩
  rcases h with ⟨i, rfl, q⟩ | ⟨b, rfl, q⟩ | ⟨t, ty, hk, q⟩
  · refine ⟨_, rfl, _, _, _, rfl, .int i, kit_ii, _, rfl, iteT ?_⟩
    exact ⟨_, rfl, _, _, _, rfl, .int i, kit_ib, _, rfl, q⟩
  · refine ⟨_, rfl, _, _, _, rfl, .bl b, kit_bi, _, rfl, iteT ?_⟩
    exact ⟨_, rfl, _, _, _, rfl, .bl b, kit_bb, _, rfl, q⟩
  · exact ⟨_, rfl, _, _, _, rfl, ty, hk, _, rfl, iteF q⟩

def NoInt (K : PySem.W.Frag) (H : Hp) (x : V) : Prop := (∃ b, x = .bl b) ∨ ∃ t, TyOf K H x t ∧ PySem.W.kitOne K t (.type "int") = some false
abbrev s_is_level : Stmt := top 20
theorem sc_is_level : FnScope ["thing"] ["thing"] (defScope s_is_level) := ⟨rfl, rfl, rfl, by decide +kernel, rfl, by decide +kernel, by decide +kernel⟩
def gsp_upto (K : PySem.W.Frag) (m : Int) : Sp := fun vs H Q _ => ∃ x, vs = [x] ∧ ((∃ i, x = .int i ∧ Q (.bl (decide (0 ≤ i ∧ i ≤ m))) H) ∨ (NoInt K H x ∧ Q (.bl false) H))
theorem gok_is_level (T : Tx K mg) (q : Quiet CX) (F : FunD K "is_level" "is_level" s_is_level f fd .none) (C_is_whole : Fok P w K mg base CX 1 "is_whole" ["thing"] [] (sp_is_whole K)) : FnOk P w K mg base CX 2 f fd ["thing"] (gsp_upto K 40) := by
  refine F.ok sc_is_level (fun vs H Q E h => ?_) (fun cdv A outer s H vs Q E hr h => ?_)
  · obtain ⟨x, rfl, _⟩ := h
    rfl
  obtain ⟨x, rfl, h⟩ := h
  refine ⟨_, (pss_one (ps_ret (pe_and (pe_callF C_is_whole q hr (pa_cons (pv 0) pa_nil)) (pe_one (pe_chain op_le op_le pe_int (pv 0) (pe_gint T.c_MOST)))))), ?_⟩
  rcases h with ⟨i, rfl, h⟩ | ⟨no, h⟩
  · refine ⟨_, rfl, _, rfl, .inl ⟨i, rfl, _, rfl, iteT ?_⟩⟩
    refine ⟨_, rfl, _, _, rfl, rfl, _, rfl, ite2 (fun c => ?_) (fun c => ?_)⟩
    · have c' : (0 : Int) ≤ i := of_decide_eq_true c
      refine ⟨_, _, rfl, rfl, ?_⟩
      show Q (.bl (decide (i ≤ 40))) H
      have e : decide (i ≤ 40) = decide (0 ≤ i ∧ i ≤ 40) := decide_eq_decide.mpr ⟨fun z => ⟨c', z⟩, fun z => z.2⟩
      rw [e]; exact h
    · have e : decide (0 ≤ i ∧ i ≤ 40) = false := decide_eq_false fun z => c (decide_eq_true z.1)
      rw [e] at h; exact h
  · rcases no with ⟨b, rfl⟩ | ⟨t, ty, hk⟩
    · exact ⟨_, rfl, _, rfl, .inr (.inl ⟨b, rfl, _, rfl, iteF h⟩)⟩
    · exact ⟨_, rfl, _, rfl, .inr (.inr ⟨t, ty, hk, _, rfl, iteF h⟩)⟩
abbrev s_is_colour : Stmt := top 21
theorem sc_is_colour : FnScope ["thing"] ["thing"] (defScope s_is_colour) := ⟨rfl, rfl, rfl, by decide +kernel, rfl, by decide +kernel, by decide +kernel⟩
theorem gok_is_colour (T : Tx K mg) (q : Quiet CX) (F : FunD K "is_colour" "is_colour" s_is_colour f fd .none) (C_is_whole : Fok P w K mg base CX 1 "is_whole" ["thing"] [] (sp_is_whole K)) : FnOk P w K mg base CX 2 f fd ["thing"] (gsp_upto K 35) := by
  refine F.ok sc_is_colour (fun vs H Q E h => ?_) (fun cdv A outer s H vs Q E hr h => ?_)
  · obtain ⟨x, rfl, _⟩ := h
    rfl
  obtain ⟨x, rfl, h⟩ := h
  refine ⟨_, (pss_one (ps_ret (pe_and (pe_callF C_is_whole q hr (pa_cons (pv 0) pa_nil)) (pe_one (pe_chain op_le op_le pe_int (pv 0) (pe_gint T.c_LAST_COLOUR)))))), ?_⟩
  rcases h with ⟨i, rfl, h⟩ | ⟨no, h⟩
  · refine ⟨_, rfl, _, rfl, .inl ⟨i, rfl, _, rfl, iteT ?_⟩⟩
    refine ⟨_, rfl, _, _, rfl, rfl, _, rfl, ite2 (fun c => ?_) (fun c => ?_)⟩
    · have c' : (0 : Int) ≤ i := of_decide_eq_true c
      refine ⟨_, _, rfl, rfl, ?_⟩
      show Q (.bl (decide (i ≤ 35))) H
      have e : decide (i ≤ 35) = decide (0 ≤ i ∧ i ≤ 35) := decide_eq_decide.mpr ⟨fun z => ⟨c', z⟩, fun z => z.2⟩
      rw [e]; exact h
    · have e : decide (0 ≤ i ∧ i ≤ 35) = false := decide_eq_false fun z => c (decide_eq_true z.1)
      rw [e] at h; exact h
  · rcases no with ⟨b, rfl⟩ | ⟨t, ty, hk⟩
    · exact ⟨_, rfl, _, rfl, .inr (.inl ⟨b, rfl, _, rfl, iteF h⟩)⟩
    · exact ⟨_, rfl, _, rfl, .inr (.inr ⟨t, ty, hk, _, rfl, iteF h⟩)⟩
abbrev s_is_code : Stmt := top 22
theorem sc_is_code : FnScope ["thing"] ["thing"] (defScope s_is_code) := ⟨rfl, rfl, rfl, by decide +kernel, rfl, by decide +kernel, by decide +kernel⟩

def sB (c : Nat) : Bool := decide (c ∈ ("0123" : Str).cps.toList)
theorem q_mem (c : Nat) : c ∈ ("0123" : Str).cps.toList ↔ 48 ≤ c ∧ c ≤ 51 := by
  have e : ("0123" : Str).cps.toList = [48, 49, 50, 51] := by decide +kernel
  rw [e]
  simp only [List.mem_cons, List.not_mem_nil, or_false]
  omega
def cB (z : Str) : Bool := decide (z.length ≤ 40) && (List.range z.length).all fun i => sB (z.cps.getD i 0)
theorem cB_iff (z : Str) : cB z = true ↔ z.length ≤ 40 ∧ IsC z := by
  unfold cB
  rw [Bool.and_eq_true, decide_eq_true_eq, List.all_eq_true]
  refine and_congr_right fun _ => ⟨fun h c hc => ?_, fun h i hi => ?_⟩
  · obtain ⟨i, hi, e⟩ := List.mem_iff_getElem.mp hc
    have hi' : i < z.length := by rw [len_eq]; exact hi
    have := h i (List.mem_range.mpr hi')
    unfold sB at this
    rw [decide_eq_true_eq, q_mem] at this
    have e2 : z.cps.getD i 0 = c := by
      have hi2 : i < z.cps.size := hi'
      rw [← e]; simp [Array.getD_eq_getD_getElem?, hi2]
    rw [e2] at this; exact this
  · unfold sB
    rw [decide_eq_true_eq, q_mem]
    exact sgn_in h (List.mem_range.mp hi)
def gsp_is_code (K : PySem.W.Frag) : Sp := fun vs H Q _ => ∃ x, vs = [x] ∧ ((∃ z, x = .str z ∧ z.length ≤ 1000 ∧ ∀ H', Same H H' → Q (.bl (cB z)) H') ∨ ((∃ t, TyOf K H x t ∧ PySem.W.kitOne K t (.type "str") = some false) ∧ Q (.bl false) H))
theorem gok_is_code (T : Tx K mg) (F : FunD K "is_code" "is_code" s_is_code f fd .none) : FnOk P w K mg base CX 1 f fd ["thing"] (gsp_is_code K) := by
  refine F.ok sc_is_code (fun vs H Q E h => ?_) (fun cdv A outer s H vs Q E hr h => ?_)
  · obtain ⟨x, rfl, _⟩ := h
    rfl
  obtain ⟨x, rfl, h⟩ := h
  refine ⟨_, (pss_cons (ps_if (PW.pt (pw_or (pt_not (pt_val (pe_callB (call_isiT "str") rfl T.b_isinstance bb_isinstance (pa_cons (pv 0) (pa_cons (pe_bty T.b_str bt_str) pa_nil))))) (pw_or1 (pt_cmpR op_gt (pe_callB call_len rfl T.b_len bb_len (pa_cons (pv 0) pa_nil)) (pe_gint T.c_MOST) (nomark _))))) (pss_one (ps_ret pe_bl)) pss_nil) (pss_one (ps_ret (pe_callB (call_all rfl) rfl T.b_all bb_all (pa_cons (pe_comp (N' := ["sign"]) (by decide +kernel) (by decide +kernel) rfl (by decide +kernel) rfl (pi_str (pv 0)) (fun C s0 H0 fp pins => (pg_name (i := 0) (nd1 _) rfl (Or.inl rfl))) (fun C s0 H0 fp pins => (pe_cmpR op_in_str (pv 0) (pe_gstr T.c_QUARTERS) (by with_unfolding_all rfl)))) pa_nil))))), ?_⟩
  rcases h with ⟨z, rfl, hl, q⟩ | ⟨⟨t, ty, hk⟩, q⟩
  · have hs : z.length ≤ sizeLine := small hl
    refine ⟨_, rfl, _, _, _, rfl, .str z, kit_ss, _, rfl, iteF ?_⟩
    refine ⟨_, rfl, _, _, rfl, ⟨hs, rfl⟩, _, _, rfl, rfl, _, rfl, ite2 (fun c => ?_) (fun c => ?_)⟩
    · have c' : (40 : Int) < (z.length : Int) := of_decide_eq_true c
      have e : cB z = false := by unfold cB; rw [decide_eq_false (by omega)]; rfl
      have := q H (Same.refl H)
      rw [e] at this; exact this
    · have c' : ¬ (40 : Int) < (z.length : Int) := fun w => c (decide_eq_true w)
      refine ⟨_, rfl, _, rfl, comp_of (fun i => .bl (!(Builtin.Str.occurrences ("0123" : Str) (sgn z i) 0 ("0123" : Str).length 1).isEmpty)) hs (fun i H' R hi hR => ⟨_, rfl, _, _, rfl, rfl, hR⟩) fun D hD => ?_⟩
      have e : (List.range z.length).map (fun i => V.bl (!(Builtin.Str.occurrences ("0123" : Str) (sgn z i) 0 ("0123" : Str).length 1).isEmpty)) = ((List.range z.length).map fun i => sB (z.cps.getD i 0)).map V.bl := by
        rw [List.map_map]
        refine List.map_congr_left fun i _ => ?_
        show V.bl (!(Builtin.Str.occurrences ("0123" : Str) (⟨#[z.cps.getD i 0]⟩ : Str) 0 ("0123" : Str).length 1).isEmpty) = _
        rw [PySem.StrLaws.found_one]
        rfl
      refine ⟨D, (List.range z.length).map fun i => sB (z.cps.getD i 0), rfl, SqL.of (by rw [upd_same, e]), ?_⟩
      have e2 : (((List.range z.length).map fun i => sB (z.cps.getD i 0)).all id) = cB z := by
        unfold cB
        rw [decide_eq_true (by omega), List.all_map]
        rfl
      rw [e2]
      exact q _ (Same.new hD _)
  · exact ⟨_, rfl, _, _, _, rfl, ty, hk, _, rfl, iteT q⟩
abbrev s_is_of_one_colour : Stmt := top 29
theorem sc_is_of_one_colour : FnScope ["parts", "first"] ["parts"] (defScope s_is_of_one_colour) := ⟨rfl, rfl, rfl, by decide +kernel, rfl, by decide +kernel, by decide +kernel⟩
def sp_is_one : Sp := fun vs H Q _ => ∃ (l : Addr) (a b c d : V) (ta tb tc td : Tr), vs = [.ref l] ∧ H l = some (.lst [a, b, c, d]) ∧ TrAt H a ta ∧ TrAt H b tb ∧ TrAt H c tc ∧ TrAt H d td ∧
  (ta.deep ≤ 60 ∧ tb.deep ≤ 60 ∧ tc.deep ≤ 60 ∧ td.deep ≤ 60) ∧ ∀ H', Same H H' → Q (.bl (oneB ta tb tc td)) H'
theorem ok_is_of_one_colour (T : Tx K mg) (F : FunD K "is_of_one_colour" "is_of_one_colour" s_is_of_one_colour f fd .none) : FnOk P w K mg base CX 1 f fd ["parts"] sp_is_one := by
  refine F.ok sc_is_of_one_colour (fun vs H Q E h => ?_) (fun cdv A outer s H vs Q E hr h => ?_)
  · obtain ⟨_, _, _, _, _, _, _, _, _, rfl, _⟩ := h
    rfl
  obtain ⟨l, a, b, c, d, ta, tb, tc, td, rfl, hl, ha, hb, hc, hd, ⟨da, db, dc, dd⟩, q'⟩ := h
  refine ⟨_, (pss_cons (ps_set (i := 1) sc_is_of_one_colour.nd rfl (Or.inr rfl) (pe_ix ix_list (pv 0) pe_int (fun _ _ => rfl))) (pss_cons (ps_if (pt_val (pe_callB (call_isiT "tuple") rfl T.b_isinstance bb_isinstance (pa_cons (pv 1) (pa_cons (pe_bty T.b_tuple bt_tuple) pa_nil)))) (pss_one (ps_ret pe_bl)) pss_nil) (pss_one (ps_ret (pe_callB (call_all rfl) rfl T.b_all bb_all (pa_cons (pe_compC (N' := ["part", "first"]) ["first"] ["first"] [1] 1 (by with_unfolding_all rfl) rfl (capsOk_cons rfl rfl (by decide) capsOk_nil) rfl rfl (by decide) rfl (by decide +kernel) rfl (by decide +kernel) rfl (pi_list (pv 0)) (fun C s0 H0 fp pins => (pg_name (i := 0) (show (["part", "first"] : List Str).Nodup by decide +kernel) rfl (Or.inl rfl) (Or.inr rfl))) (fun C s0 H0 fp pins => (pe_cmpR (op_eqD hr) (pv 0) (pv 1) (nomark _)))) pa_nil)))))), ?_⟩
  refine ⟨_, rfl, l, _, _, a, rfl, rfl, SqL.of hl, rfl, ?_⟩
  cases ha with
  | four e =>
    refine ⟨_, rfl, _, _, _, rfl, .tup e, kit_tt, _, rfl, iteT ?_⟩
    exact q' H (Same.refl H)
  | col i =>
    refine ⟨_, rfl, _, _, _, rfl, .int i, kit_it, _, rfl, iteF ?_⟩
    have full : ∃ bs : List Bool, bs = [decide (Tr.col i = Tr.col i), decide (tb = .col i), decide (tc = .col i), decide (td = .col i)] := ⟨_, rfl⟩
    obtain ⟨bs, ebs⟩ := full
    have hi : TrAt H (.int i) (.col i) := .col i
    refine ⟨[.int i], rfl, _, rfl, l, rfl, ⟨_, SqL.of hl⟩, compC_list [.int i, b, c, d] (fun D j ys H' => Same H H' ∧ H' D = some (.lst ys) ∧ j ≤ 4 ∧ ys = (bs.take j).map V.bl) (by show 4 ≤ sizeLine; decide) (fun D j ys H' h => SqL.of (h.1 _ _ hl))
      (fun D j ys H' h => ⟨h.2.1, by rw [h.2.2.2]; simp; omega⟩) (fun D hD => ⟨Same.new hD _, upd_same, by decide, rfl⟩) ?_ ?_ (fun _ _ _ _ _ k h => k _ _ h) ?_⟩
    · rintro D j x ys H' hx hD ⟨s1, s2, s3, s4⟩
      have key : ∃ tx, TrAt H x tx ∧ tx.deep ≤ 60 ∧ bs[j]? = some (decide (tx = .col i)) := by
        rcases at4 hx with ⟨rfl, rfl⟩ | ⟨rfl, rfl⟩ | ⟨rfl, rfl⟩ | ⟨rfl, rfl⟩
        · exact ⟨_, hi, Nat.zero_le _, by rw [ebs]; rfl⟩
        · exact ⟨_, hb, db, by rw [ebs]; rfl⟩
        · exact ⟨_, hc, dc, by rw [ebs]; rfl⟩
        · exact ⟨_, hd, dd, by rw [ebs]; rfl⟩
      obtain ⟨tx, htx, dx, ex⟩ := key
      refine ⟨rfl, _, rfl, _, rfl, tx.data, (Tr.col i).data, (htx.up s1.tups).dat, .int i, Tr.shaped (by omega), Tr.shaped (Nat.zero_le _), s2, Same.set s1 hD _, upd_same, ?_, ?_⟩
      · have := (List.getElem?_eq_some_iff.mp hx).1
        exact this
      · rw [Tr.eqv, List.take_add_one, ex, s4, List.map_append]; rfl
    · rintro D ys H' hD ⟨s1, s2, s3, s4⟩
      refine ⟨D, bs, rfl, SqL.of (by rw [s2, s4]; congr 2; rw [ebs]; rfl), ?_⟩
      have e : bs.all id = oneB (.col i) tb tc td := by rw [ebs]; rfl
      rw [e]
      exact q' H' s1
    · intro σ H' R R' k h
      obtain ⟨x1, e1, x2, e2, d1, d2, p1, p2, p3, p4, h⟩ := h
      exact ⟨x1, e1, x2, e2, d1, d2, p1, p2, p3, p4, k _ _ h⟩
abbrev s_gathered : Stmt := top 30
theorem sc_gathered : FnScope ["parts"] ["parts"] (defScope s_gathered) := ⟨rfl, rfl, rfl, by decide +kernel, rfl, by decide +kernel, by decide +kernel⟩
def sp_gathered : Sp := fun vs H Q _ => ∃ (l : Addr) (a b c d : V) (ta tb tc td : Tr), vs = [.ref l] ∧ H l = some (.lst [a, b, c, d]) ∧ TrAt H a ta ∧ TrAt H b tb ∧ TrAt H c tc ∧ TrAt H d td ∧
  (ta.deep ≤ 60 ∧ tb.deep ≤ 60 ∧ tc.deep ≤ 60 ∧ td.deep ≤ 60) ∧ ∀ v H', Same H H' → TrAt H' v (gath ta tb tc td) → Q v H'
theorem ok_gathered (T : Tx K mg) (q : Quiet CX) (F : FunD K "gathered" "gathered" s_gathered f fd .none) (C_is_of_one_colour : Fok P w K mg base CX 1 "is_of_one_colour" ["parts"] [] sp_is_one) : FnOk P w K mg base CX 2 f fd ["parts"] sp_gathered := by
  refine F.ok sc_gathered (fun vs H Q E h => ?_) (fun cdv A outer s H vs Q E hr h => ?_)
  · obtain ⟨_, _, _, _, _, _, _, _, _, rfl, _⟩ := h
    rfl
  obtain ⟨l, a, b, c, d, ta, tb, tc, td, rfl, hl, ha, hb, hc, hd, dp, q'⟩ := h
  refine ⟨_, (pss_cons (ps_if (pt_val (pe_callF C_is_of_one_colour q hr (pa_cons (pv 0) pa_nil))) (pss_one (ps_ret (pe_ix ix_list (pv 0) pe_int (fun _ _ => rfl)))) pss_nil) (pss_one (ps_ret (pe_callTy call_tuple_of rfl T.b_tuple bt_tuple (pa_cons (pv 0) pa_nil))))), ?_⟩
  refine ⟨_, rfl, l, a, b, c, d, ta, tb, tc, td, rfl, hl, ha, hb, hc, hd, dp, fun H1 s1 => ⟨_, rfl, ite2 (fun e => ?_) (fun e => ?_)⟩⟩
  · refine ⟨_, rfl, l, _, _, a, rfl, rfl, SqL.of (s1 _ _ hl), rfl, q' a H1 s1 ?_⟩
    unfold gath
    rw [if_pos e]
    exact ha.up s1.tups
  · refine ⟨_, rfl, l, _, rfl, .inl ⟨SqL.of (s1 _ _ hl), fun p hp => q' _ _ (s1.trans (Same.new hp _)) ?_⟩⟩
    unfold gath
    rw [if_neg e]
    have s2 := (s1.trans (Same.new hp (.tup [a, b, c, d]))).tups
    exact .four upd_same (ha.up s2) (hb.up s2) (hc.up s2) (hd.up s2)
abbrev s_parted : Stmt := top 31
theorem sc_parted : FnScope ["tree"] ["tree"] (defScope s_parted) := ⟨rfl, rfl, rfl, by decide +kernel, rfl, by decide +kernel, by decide +kernel⟩
def sp_parted : Sp := fun vs H Q _ => ∃ (v : V) (t : Tr), vs = [v] ∧ TrAt H v t ∧ ∀ p a b c d H', Same H H' → H' p = some (.tup [a, b, c, d]) → TrAt H' a (q0 t) → TrAt H' b (q1 t) → TrAt H' c (q2 t) → TrAt H' d (q3 t) → Q (.ref p) H'
theorem ok_parted (T : Tx K mg) (F : FunD K "parted" "parted" s_parted f fd .none) : FnOk P w K mg base CX 1 f fd ["tree"] sp_parted := by
  refine F.ok sc_parted (fun vs H Q E h => ?_) (fun cdv A outer s H vs Q E hr h => ?_)
  · obtain ⟨_, _, rfl, _⟩ := h
    rfl
  obtain ⟨v, t, rfl, ht, q'⟩ := h
  refine ⟨_, (pss_cons (ps_if (pt_val (pe_callB (call_isiT "tuple") rfl T.b_isinstance bb_isinstance (pa_cons (pv 0) (pa_cons (pe_bty T.b_tuple bt_tuple) pa_nil)))) (pss_one (ps_ret (pv 0))) pss_nil) (pss_one (ps_ret (pe_tupx (pax_c (pv 0) (pax_c (pv 0) (pax_c (pv 0) (pax_c (pv 0) pax_nil)))))))), ?_⟩
  cases ht with
  | four e a b c d =>
    refine ⟨_, rfl, _, _, _, rfl, .tup e, kit_tt, _, rfl, iteT ⟨_, rfl, ?_⟩⟩
    exact q' _ _ _ _ _ H (Same.refl H) e a b c d
  | col i =>
    refine ⟨_, rfl, _, _, _, rfl, .int i, kit_it, _, rfl, iteF ?_⟩
    exact ⟨_, rfl, _, rfl, _, rfl, _, rfl, (by show 4 ≤ sizeLine; decide), fun p hp => q' p _ _ _ _ _ (Same.new hp _) upd_same (.col i) (.col i) (.col i) (.col i)⟩
abbrev s_tree_at : Stmt := top 32
theorem sc_tree_at : FnScope ["tree", "code", "sign"] ["tree", "code"] (defScope s_tree_at) := ⟨rfl, rfl, rfl, by decide +kernel, rfl, by decide +kernel, by decide +kernel⟩
def sp_tree_at : Sp := fun vs H Q _ => ∃ (v : V) (t : Tr) (z : Str), vs = [v, .str z] ∧ TrAt H v t ∧ IsC z ∧ z.length ≤ 40 ∧ ∀ v' H', Same H H' → TrAt H' v' (treeAt t (dig z)) → Q v' H'
theorem ok_tree_at (T : Tx K mg) (q : Quiet CX) (F : FunD K "tree_at" "tree_at" s_tree_at f fd .none) (C_parted : Fok P w K mg base CX 1 "parted" ["tree"] [] sp_parted) : FnOk P w K mg base CX 2 f fd ["tree", "code"] sp_tree_at := by
  refine F.ok sc_tree_at (fun vs H Q E h => ?_) (fun cdv A outer s H vs Q E hr h => ?_)
  · obtain ⟨_, _, _, rfl, _⟩ := h
    rfl
  obtain ⟨v, t, z, rfl, ht, hz, hl, q'⟩ := h
  refine ⟨_, (pss_cons (ps_for PassesOwn.never rfl (pi_str (pv 1)) (pg_name (i := 2) sc_tree_at.nd rfl (Or.inl rfl)) (pss_one (ps_set (i := 0) sc_tree_at.nd rfl (Or.inl rfl) (pe_ix ix_tup (pe_callF C_parted q hr (pa_cons (pv 0) pa_nil)) (pe_callTy call_int_str rfl T.b_int bt_int (pa_cons (pv 2) pa_nil)) (fun _ _ => rfl))))) (pss_one (ps_ret (pv 0)))), ?_⟩
  refine ⟨_, rfl, z, rfl, for_gen (fun i σ H2 => Same H H2 ∧ ∃ v' o, TrAt H2 v' (treeAt t ((dig z).take i)) ∧ σ = [some v', some (.str z), o]) ⟨Same.refl H, v, none, ht, rfl⟩ ?_ ?_⟩
  · rintro i σ H2 hi ⟨s2, v', o, hv, rfl⟩
    obtain ⟨d, hd, e1, e2⟩ := sgn_one hz hi
    refine ⟨_, rfl, v', _, rfl, hv, fun p a b c e H3 s3 hp ka kb kc ke => ?_⟩
    have et : treeAt t ((dig z).take (i + 1)) = qk (treeAt t ((dig z).take i)) d := by
      rw [dig_take hi, e2]; unfold treeAt; rw [List.foldl_append]; rfl
    have key : ∃ x, atI [a, b, c, e] (d : Int) = some x ∧ TrAt H3 x (qk (treeAt t ((dig z).take i)) d) := by
      rcases d with _ | _ | _ | _ | d
      · exact ⟨a, rfl, ka⟩
      · exact ⟨b, rfl, kb⟩
      · exact ⟨c, rfl, kc⟩
      · exact ⟨e, rfl, ke⟩
      · omega
    obtain ⟨x, ex, kx⟩ := key
    refine ⟨_, rfl, _, (d : Int), rfl, by rw [e1]; exact int_one hd, by rw [e1]; show 1 ≤ 640; decide, p, _, _, x, rfl, rfl, SqT.of hp, ex, s2.trans s3, x, _, ?_, rfl⟩
    rw [et]; exact kx
  · rintro σ H2 ⟨s2, v', o, hv, rfl⟩
    have et : (dig z).take z.length = dig z := List.take_of_length_le (by rw [dig_len]; exact Nat.le_refl _)
    rw [et] at hv
    exact ⟨_, rfl, q' v' H2 s2 hv⟩
abbrev s_planted : Stmt := top 33
theorem sc_planted : FnScope ["tree", "code", "other", "parts", "quarter"] ["tree", "code", "other"] (defScope s_planted) := ⟨rfl, rfl, rfl, by decide +kernel, rfl, by decide +kernel, by decide +kernel⟩
def sp_planted (m : Nat) : Sp := fun vs H Q _ => ∃ (v o : V) (t u : Tr) (z : Str), vs = [v, .str z, o] ∧ TrAt H v t ∧ TrAt H o u ∧ IsC z ∧ z.length ≤ m ∧ m ≤ 40 ∧ t.deep ≤ 60 ∧ u.deep + z.length ≤ 60 ∧ ∀ v' H', Same H H' → TrAt H' v' (plant t (dig z) u) → Q v' H'
theorem ok_planted (T : Tx K mg) (q : Quiet CX) (F : FunD K "planted" "planted" s_planted f fd .none) (C_parted : Fok P w K mg base CX 1 "parted" ["tree"] [] sp_parted) (C_gathered : Fok P w K mg base CX 2 "gathered" ["parts"] [] sp_gathered) (b : Binds K fd ["tree", "code", "other"] []) (m : mg "planted" = some (.ref f)) :
    ∀ n, FnOk P w K mg base CX (3 + n) f fd ["tree", "code", "other"] (sp_planted n)
  | 0 => by
    have C_planted := fokF (P := P) (w := w) (base := base) (CX := CX) F b m
    refine F.ok sc_planted (fun vs H Q E h => ?_) (fun cdv A outer s H vs Q E hr h => ?_)
    · obtain ⟨_, _, _, _, _, rfl, _⟩ := h
      rfl
    obtain ⟨v, o, t, u, z, rfl, ht, hu, hz, hl, hm, dt, du, q'⟩ := h
    refine ⟨_, (pss_cons (ps_if (pt_cmpR op_eq (pv 1) pe_str (nomark _)) (pss_one (ps_ret (pv 2))) pss_nil) (pss_cons (ps_set (i := 3) sc_planted.nd rfl (Or.inl rfl) (pe_callTy call_list_of rfl T.b_list bt_list (pa_cons (pe_callF C_parted q hr (pa_cons (pv 0) pa_nil) (hj := by first | decide | omega | (simp only [Nat.add_eq]; omega))) pa_nil))) (pss_cons (ps_set (i := 4) sc_planted.nd rfl (Or.inl rfl) (pe_callTy call_int_str rfl T.b_int bt_int (pa_cons (pe_ix ix_str (pv 1) pe_int (fun _ _ => rfl)) pa_nil))) (pss_cons (ps_asg (pe_callF C_planted q hr (pa_cons (pe_ix ix_list (pv 3) (pv 4) (fun _ _ => rfl)) (pa_cons (pe_slice sl_str (pv 1) (po_some pe_int) po_none) (pa_cons (pv 2) pa_nil))) (hj := by first | decide | omega | (simp only [Nat.add_eq]; omega))) (pg_sub (pv 3) (pv 4) set_list)) (pss_one (ps_ret (pe_callF C_gathered q hr (pa_cons (pv 3) pa_nil) (hj := by first | decide | omega | (simp only [Nat.add_eq]; omega))))))))), ?_⟩
    have e := str_eq_nil.mpr (Nat.le_zero.mp hl)
    subst e
    rw [dig_empty] at q'
    refine ⟨_, rfl, rfl, _, rfl, ite2 (fun c => ?_) (fun c => absurd (by simp) c)⟩
    exact ⟨_, rfl, q' o H (Same.refl H) hu⟩
  | n + 1 => by
    have C_planted : Fok P w K mg base CX (3 + n) "planted" ["tree", "code", "other"] [] (sp_planted n) := fok F (ok_planted T q F C_parted C_gathered b m n) b m
    refine F.ok sc_planted (fun vs H Q E h => ?_) (fun cdv A outer s H vs Q E hr h => ?_)
    · obtain ⟨_, _, _, _, _, rfl, _⟩ := h
      rfl
    obtain ⟨v, o, t, u, z, rfl, ht, hu, hz, hl, hm, dt, du, q'⟩ := h
    refine ⟨_, (pss_cons (ps_if (pt_cmpR op_eq (pv 1) pe_str (nomark _)) (pss_one (ps_ret (pv 2))) pss_nil) (pss_cons (ps_set (i := 3) sc_planted.nd rfl (Or.inl rfl) (pe_callTy call_list_of rfl T.b_list bt_list (pa_cons (pe_callF C_parted q hr (pa_cons (pv 0) pa_nil) (hj := by first | decide | omega | (simp only [Nat.add_eq]; omega))) pa_nil))) (pss_cons (ps_set (i := 4) sc_planted.nd rfl (Or.inl rfl) (pe_callTy call_int_str rfl T.b_int bt_int (pa_cons (pe_ix ix_str (pv 1) pe_int (fun _ _ => rfl)) pa_nil))) (pss_cons (ps_asg (pe_callF C_planted q hr (pa_cons (pe_ix ix_list (pv 3) (pv 4) (fun _ _ => rfl)) (pa_cons (pe_slice sl_str (pv 1) (po_some pe_int) po_none) (pa_cons (pv 2) pa_nil))) (hj := by first | decide | omega | (simp only [Nat.add_eq]; omega))) (pg_sub (pv 3) (pv 4) set_list)) (pss_one (ps_ret (pe_callF C_gathered q hr (pa_cons (pv 3) pa_nil) (hj := by first | decide | omega | (simp only [Nat.add_eq]; omega))))))))), ?_⟩
    refine ⟨_, rfl, rfl, _, rfl, ite2 (fun c => ?_) (fun c => ?_)⟩
    · have e : z = ("" : Str) := by simpa using c
      subst e
      rw [dig_empty] at q'
      exact ⟨_, rfl, q' o H (Same.refl H) hu⟩
    have pz : 0 < z.length := by
      rcases Nat.eq_zero_or_pos z.length with h0 | h0
      · exact absurd (by simp [str_eq_nil.mpr h0]) c
      · exact h0
    have hs : z.length ≤ sizeLine := small (by omega)
    refine ⟨_, rfl, v, t, rfl, ht, fun p a b c d H1 s1 hp ka kb kc kd => ⟨p, _, rfl, .inr (SqT.of hp), fun l hl1 => ?_⟩⟩
    have hl0 := Same.none s1 hl1
    have s2 := s1.trans (Same.new hl1 (.lst [a, b, c, d]))
    have u2 : upd H1 l (.lst [a, b, c, d]) l = some (.lst [a, b, c, d]) := upd_same
    have t2 := (Same.new hl1 (.lst [a, b, c, d])).tups
    generalize upd H1 l (.lst [a, b, c, d]) = H2 at *
    obtain ⟨e, he, e1, e2⟩ := sgn_one hz pz
    refine ⟨_, rfl, z, 0, z.cps.getD 0 0, rfl, rfl, hs, at_zero pz, _, (e : Int), rfl, ?_, ?_, ?_⟩
    · show intText? (sgn z 0) = _
      rw [e1]; exact int_one he
    · show (1 : Nat) ≤ 640; decide
    have key : ∃ x, atI [a, b, c, d] (e : Int) = some x ∧ TrAt H2 x (qk t e) := by
      rcases e with _ | _ | _ | _ | e
      · exact ⟨a, rfl, ka.up t2⟩
      · exact ⟨b, rfl, kb.up t2⟩
      · exact ⟨c, rfl, kc.up t2⟩
      · exact ⟨d, rfl, kd.up t2⟩
      · omega
    obtain ⟨x, ex, kx⟩ := key
    refine ⟨_, rfl, _, rfl, l, _, _, x, rfl, rfl, SqL.of u2, ex, _, rfl, _, rfl, z, rfl, hs, _, rfl, ?_⟩
    have rl := rst_len z
    refine ⟨x, o, qk t e, u, rst z, (by show [x, V.str _, o] = [x, V.str _, o]; rw [slice_rst pz]), kx, hu.up s2.tups, rst_isC hz, by omega, by omega, qk_deep' dt, by omega, fun v' H3 s3 hv' => ?_⟩
    have u3 := s3 _ _ u2
    have hix : ixN [a, b, c, d].length (e : Int) = some e := by
      unfold ixN
      rw [if_pos (by omega), if_pos (by simp; omega), Int.toNat_natCast]
    refine ⟨_, rfl, _, rfl, l, [a, b, c, d], (e : Int), e, rfl, rfl, u3, hix, ?_⟩
    have t3 := Tups.lst (ys := [a, b, c, d].set e v') u3
    have sf : Same H (upd H3 l (.lst ([a, b, c, d].set e v'))) := Same.set (s2.trans s3) hl0 _
    have t23 := t2.trans (s3.tups.trans t3)
    have dq := plant_deep (dig (rst z)) 60 (qk t e) u (qk_deep' dt) (by rw [dig_len]; omega)
    have ep : plant t (dig z) u = put4 t e (plant (qk t e) (dig (rst z)) u) := by rw [dig_rst pz, e2]; rfl
    rw [ep] at q'
    have d0 := qk_deep' (d := 0) dt
    have d1 := qk_deep' (d := 1) dt
    have d2 := qk_deep' (d := 2) dt
    have d3 := qk_deep' (d := 3) dt
    have kv := hv'.up t3
    rcases e with _ | _ | _ | _ | e
    · exact ⟨_, rfl, l, _, _, _, _, _, _, _, _, rfl, upd_same, kv, kb.up t23, kc.up t23, kd.up t23, ⟨dq, d1, d2, d3⟩, fun v2 H4 s4 h4 => q' v2 H4 (sf.trans s4) h4⟩
    · exact ⟨_, rfl, l, _, _, _, _, _, _, _, _, rfl, upd_same, ka.up t23, kv, kc.up t23, kd.up t23, ⟨d0, dq, d2, d3⟩, fun v2 H4 s4 h4 => q' v2 H4 (sf.trans s4) h4⟩
    · exact ⟨_, rfl, l, _, _, _, _, _, _, _, _, rfl, upd_same, ka.up t23, kb.up t23, kv, kd.up t23, ⟨d0, d1, dq, d3⟩, fun v2 H4 s4 h4 => q' v2 H4 (sf.trans s4) h4⟩
    · exact ⟨_, rfl, l, _, _, _, _, _, _, _, _, rfl, upd_same, ka.up t23, kb.up t23, kc.up t23, kv, ⟨d0, d1, d2, dq⟩, fun v2 H4 s4 h4 => q' v2 H4 (sf.trans s4) h4⟩
    · omega
abbrev s_width_of : Stmt := top 27
theorem sc_width_of : FnScope ["level", "wide", "step"] ["level"] (defScope s_width_of) := ⟨rfl, rfl, rfl, by decide +kernel, rfl, by decide +kernel, by decide +kernel⟩
def sp_width_of : Sp := fun vs H Q _ => ∃ n : Nat, vs = [.int n] ∧ n ≤ 64 ∧ Q (.int ((2 ^ n : Nat) : Int)) H
theorem ok_width_of (T : Tx K mg) (F : FunD K "width_of" "width_of" s_width_of f fd .none) : FnOk P w K mg base CX 1 f fd ["level"] sp_width_of := by
  refine F.ok sc_width_of (fun vs H Q E h => ?_) (fun cdv A outer s H vs Q E hr h => ?_)
  · obtain ⟨x, rfl, _⟩ := h
    rfl
  obtain ⟨n, rfl, hn, q'⟩ := h
  refine ⟨_, (pss_cons (ps_set (i := 1) sc_width_of.nd rfl (Or.inl rfl) pe_int) (pss_cons (ps_for PassesOwn.never rfl (pi_range1 rfl T.b_range (pa_cons (pv 0) pa_nil)) (pg_name (i := 2) sc_width_of.nd rfl (Or.inl rfl)) (pss_one (ps_set (i := 1) sc_width_of.nd rfl (Or.inl rfl) (pe_op op_mul (pv 1) pe_int)))) (pss_one (ps_ret (pv 1))))), ?_⟩
  refine ⟨_, rfl, _, rfl, by omega, by omega, for_range (fun i σ H2 => H2 = H ∧ ∃ x v, x = ((2 ^ i : Nat) : Int) ∧ σ = [some (.int n), some (.int x), v]) ⟨rfl, 1, none, rfl, rfl⟩ ?_ ?_⟩
  · rintro i σ H2 hi ⟨rfl, x, v, rfl, rfl⟩
    refine ⟨_, rfl, _, _, rfl, rfl, .inr ⟨by decide, by decide⟩, rfl, _, _, ?_, rfl⟩
    rw [Nat.pow_succ, Int.natCast_mul]; rfl
  · rintro σ H2 ⟨rfl, x, v, rfl, rfl⟩
    have e : ((n : Int)).toNat = n := Int.toNat_natCast n
    refine ⟨_, rfl, ?_⟩
    rw [e]
    exact q'
end
end Qs
namespace Qs
open PySem L2
section
variable {P : Program} {w : World} {K : PySem.W.Frag} {mg : Str → Option Value} {base : Heap} {CX : CXT} {f : Addr} {fd : FuncData}
abbrev s_quarter_with : Stmt := top 37
theorem sc_quarter_with : FnScope ["wide", "x", "y", "size", "half", "across", "down"] ["wide", "x", "y", "size"] (defScope s_quarter_with) := ⟨rfl, rfl, rfl, by decide +kernel, rfl, by decide +kernel, by decide +kernel⟩
def SameH (l x s : Nat) : Prop := x / 2 ^ l = (x + s - 1) / 2 ^ l
def sp_quarter_with : Sp := fun vs H Q _ => ∃ l x y s : Nat, vs = [.int ((2 ^ (l + 1) : Nat) : Int), .int x, .int y, .int s] ∧ l ≤ 40 ∧ 0 < s ∧ (SameH l x s → SameH l y s → Q (.int ((y / 2 ^ l * 2 + x / 2 ^ l : Nat) : Int)) H) ∧ (¬ (SameH l x s ∧ SameH l y s) → Q .non H)
theorem pow_small {l : Nat} (h : l ≤ 40) : ((2 ^ l : Nat) : Int) < 1000000000000000000000000 := by
  have h1 : 2 ^ l ≤ 2 ^ 40 := Nat.pow_le_pow_right (by decide) h
  have h2 : (2 ^ 40 : Nat) = 1099511627776 := by decide
  omega
theorem pow_half (l : Nat) : ((2 ^ (l + 1) : Nat) : Int) / 2 = ((2 ^ l : Nat) : Int) := by rw [Nat.pow_succ]; omega
theorem ok_quarter_with (T : Tx K mg) (F : FunD K "quarter_with" "quarter_with" s_quarter_with f fd .none) : FnOk P w K mg base CX 1 f fd ["wide", "x", "y", "size"] sp_quarter_with := by
  refine F.ok sc_quarter_with (fun vs H Q E h => ?_) (fun cdv A outer s H vs Q E hr h => ?_)
  · obtain ⟨_, _, _, _, rfl, _⟩ := h
    rfl
  obtain ⟨l, x, y, s, rfl, hl, hs, q1, q2⟩ := h
  refine ⟨_, (pss_cons (ps_set (i := 4) sc_quarter_with.nd rfl (Or.inl rfl) (pe_op op_fdivW (pv 0) pe_int)) (pss_cons (ps_set (i := 5) sc_quarter_with.nd rfl (Or.inl rfl) (pe_op op_fdivW (pv 1) (pv 4))) (pss_cons (ps_set (i := 6) sc_quarter_with.nd rfl (Or.inl rfl) (pe_op op_fdivW (pv 2) (pv 4))) (pss_cons (ps_if (PW.pt (pw_or (pt_cmpR op_ne (pv 5) (pe_op op_fdivW (pe_op op_sub (pe_op op_add (pv 1) (pv 3)) pe_int) (pv 4)) (nomark _)) (pw_or1 (pt_cmpR op_ne (pv 6) (pe_op op_fdivW (pe_op op_sub (pe_op op_add (pv 2) (pv 3)) pe_int) (pv 4)) (nomark _))))) (pss_one (ps_ret pe_non)) pss_nil) (pss_one (ps_ret (pe_op op_add (pe_op op_mul (pv 6) pe_int) (pv 5)))))))), ?_⟩
  have p : 0 < 2 ^ l := Nat.two_pow_pos l
  have pI : (0 : Int) < ((2 ^ l : Nat) : Int) := by omega
  have sm := pow_small hl
  refine ⟨_, rfl, _, _, rfl, rfl, cdivW (by decide) (by decide), ?_⟩
  dsimp only
  rw [pow_half]
  refine ⟨_, rfl, _, rfl, _, _, rfl, rfl, cdivW pI sm, ?_⟩
  refine ⟨_, rfl, _, rfl, _, _, rfl, rfl, cdivW pI sm, ?_⟩
  have ex : (x : Int) + (s : Int) - 1 = ((x + s - 1 : Nat) : Int) := by omega
  have ey : (y : Int) + (s : Int) - 1 = ((y + s - 1 : Nat) : Int) := by omega
  refine ⟨_, rfl, _, rfl, _, rfl, _, _, rfl, rfl, _, _, rfl, rfl, _, rfl, _, _, rfl, rfl, cdivW pI sm, rfl, _, rfl, ite2 (fun c => iteT ?_) (fun c => ?_)⟩
  · refine q2 fun z => ?_
    have c' : (!decide (V.int ((x : Int) / ((2 ^ l : Nat) : Int)) = V.int (((x : Int) + (s : Int) - 1) / ((2 ^ l : Nat) : Int)))) = true := c
    rw [ex] at c'
    have e1 : (x : Int) / ((2 ^ l : Nat) : Int) = ((x + s - 1 : Nat) : Int) / ((2 ^ l : Nat) : Int) := by
      show (((x / 2 ^ l : Nat)) : Int) = (((x + s - 1) / 2 ^ l : Nat) : Int)
      rw [z.1]
    rw [e1] at c'
    simp at c'
  have hx : SameH l x s := by
    have c' : ¬ (!decide (V.int ((x : Int) / ((2 ^ l : Nat) : Int)) = V.int (((x : Int) + (s : Int) - 1) / ((2 ^ l : Nat) : Int)))) = true := c
    rw [ex] at c'
    have c2 : V.int ((x : Int) / ((2 ^ l : Nat) : Int)) = V.int (((x + s - 1 : Nat) : Int) / ((2 ^ l : Nat) : Int)) := by simpa using c'
    have c3 : (((x / 2 ^ l : Nat)) : Int) = (((x + s - 1) / 2 ^ l : Nat) : Int) := by injection c2
    unfold SameH
    omega
  refine ⟨_, rfl, _, rfl, _, rfl, _, _, rfl, rfl, _, _, rfl, rfl, _, rfl, _, _, rfl, rfl, cdivW pI sm, rfl, _, rfl, ite2 (fun c => ?_) (fun c => ?_)⟩
  · refine q2 fun z => ?_
    have c' : (!decide (V.int ((y : Int) / ((2 ^ l : Nat) : Int)) = V.int (((y : Int) + (s : Int) - 1) / ((2 ^ l : Nat) : Int)))) = true := c
    rw [ey] at c'
    have e1 : (y : Int) / ((2 ^ l : Nat) : Int) = ((y + s - 1 : Nat) : Int) / ((2 ^ l : Nat) : Int) := by
      show (((y / 2 ^ l : Nat)) : Int) = (((y + s - 1) / 2 ^ l : Nat) : Int)
      rw [z.2]
    rw [e1] at c'
    simp at c'
  have hy : SameH l y s := by
    have c' : ¬ (!decide (V.int ((y : Int) / ((2 ^ l : Nat) : Int)) = V.int (((y : Int) + (s : Int) - 1) / ((2 ^ l : Nat) : Int)))) = true := c
    rw [ey] at c'
    have c2 : V.int ((y : Int) / ((2 ^ l : Nat) : Int)) = V.int (((y + s - 1 : Nat) : Int) / ((2 ^ l : Nat) : Int)) := by simpa using c'
    have c3 : (((y / 2 ^ l : Nat)) : Int) = (((y + s - 1) / 2 ^ l : Nat) : Int) := by injection c2
    unfold SameH
    omega
  refine ⟨_, rfl, _, _, rfl, rfl, .inr ⟨by decide, by decide⟩, _, rfl, _, _, rfl, rfl, ?_⟩
  have e3 : (y : Int) / ((2 ^ l : Nat) : Int) * 2 + (x : Int) / ((2 ^ l : Nat) : Int) = ((y / 2 ^ l * 2 + x / 2 ^ l : Nat) : Int) := by
    show ((y / 2 ^ l : Nat) : Int) * 2 + ((x / 2 ^ l : Nat) : Int) = _
    omega
  have q3 := q1 hx hy
  rw [← e3] at q3
  exact q3
abbrev s_covered : Stmt := top 38
theorem sc_covered : FnScope ["behind", "size", "tree", "wide", "x", "y", "quarter", "half", "below", "parts"] ["behind", "size", "tree", "wide", "x", "y"] (defScope s_covered) := ⟨rfl, rfl, rfl, by decide +kernel, rfl, by decide +kernel, by decide +kernel⟩
def sp_covered (m : Nat) : Sp := fun vs H Q _ => ∃ (vb vt : V) (tb tt : Tr) (s l : Nat) (x y : Int), vs = [vb, .int ((2 ^ s : Nat) : Int), vt, .int ((2 ^ l : Nat) : Int), .int x, .int y] ∧ TrAt H vb tb ∧ TrAt H vt tt ∧ Good s tb ∧ Good l tt ∧ s + l < m ∧ m ≤ 40 ∧
  ∀ v' r H', Same H H' → TrAt H' v' r → Good s r → (∀ i j, i < 2 ^ s → j < 2 ^ s → colAt s r i j = shown (x + (i : Int)) (y + (j : Int)) l tt (colAt s tb i j)) → Q v' H'
theorem ok_covered (T : Tx K mg) (q : Quiet CX) (F : FunD K "covered" "covered" s_covered f fd .none) (C_quarter_with : Fok P w K mg base CX 1 "quarter_with" ["wide", "x", "y", "size"] [] sp_quarter_with) (C_parted : Fok P w K mg base CX 1 "parted" ["tree"] [] sp_parted) (C_gathered : Fok P w K mg base CX 2 "gathered" ["parts"] [] sp_gathered)
    (b : Binds K fd ["behind", "size", "tree", "wide", "x", "y"] []) (m : mg "covered" = some (.ref f)) : ∀ n, FnOk P w K mg base CX (3 + n) f fd ["behind", "size", "tree", "wide", "x", "y"] (sp_covered n)
  | 0 => ⟨fun _ _ _ _ h => by obtain ⟨_, _, _, _, _, _, _, _, _, _, _, _, _, h, _⟩ := h; omega, fun _ _ _ _ _ _ _ _ _ _ _ _ _ h => by obtain ⟨_, _, _, _, _, _, _, _, _, _, _, _, _, h, _⟩ := h; omega⟩
  | n + 1 => by
    have C_covered : Fok P w K mg base CX (3 + n) "covered" ["behind", "size", "tree", "wide", "x", "y"] [] (sp_covered n) := fok F (ok_covered T q F C_quarter_with C_parted C_gathered b m n) b m
    refine F.ok sc_covered (fun vs H Q E h => ?_) (fun cdv A outer st H vs Q E hr h => ?_)
    · obtain ⟨_, _, _, _, _, _, _, _, rfl, _⟩ := h
      rfl
    obtain ⟨vb, vt, tb, tt, s, l, x, y, rfl, hb, ht, gb, gt, hsl, hm, q'⟩ := h
    refine ⟨_, (pss_cons (ps_if (PW.pt (pw_or (pt_cmpR op_ge (pe_callB (call_max2 rfl) rfl T.b_max bb_max (pa_cons (pv 4) (pa_cons (pv 5) pa_nil))) (pv 3) (nomark _)) (pw_or1 (pt_cmpR op_le (pe_op op_add (pe_callB (call_min2 rfl) rfl T.b_min bb_min (pa_cons (pv 4) (pa_cons (pv 5) pa_nil))) (pv 1)) pe_int (nomark _))))) (pss_one (ps_ret (pv 0))) pss_nil) (pss_cons (ps_if (PW.pt (pw_and (pt_cmpR op_ge (pe_callB (call_min2 rfl) rfl T.b_min bb_min (pa_cons (pv 4) (pa_cons (pv 5) pa_nil))) pe_int (nomark _)) (pw_and1 (pt_cmpR op_le (pe_op op_add (pe_callB (call_max2 rfl) rfl T.b_max bb_max (pa_cons (pv 4) (pa_cons (pv 5) pa_nil))) (pv 1)) (pv 3) (nomark _))))) (pss_cons (ps_if (pt_not (pt_val (pe_callB (call_isiT "tuple") rfl T.b_isinstance bb_isinstance (pa_cons (pv 2) (pa_cons (pe_bty T.b_tuple bt_tuple) pa_nil))))) (pss_one (ps_ret (pv 2))) pss_nil) (pss_cons (ps_set (i := 6) sc_covered.nd rfl (Or.inl rfl) (pe_callF C_quarter_with q hr (pa_cons (pv 3) (pa_cons (pv 4) (pa_cons (pv 5) (pa_cons (pv 1) pa_nil)))) (hj := by first | decide | omega | (simp only [Nat.add_eq]; omega)))) (pss_one (ps_if (pt_cmpR op_notN (pv 6) pe_non (nomark _)) (pss_cons (ps_set (i := 7) sc_covered.nd rfl (Or.inl rfl) (pe_op op_fdivW (pv 3) pe_int)) (pss_one (ps_ret (pe_callF C_covered q hr (pa_cons (pv 0) (pa_cons (pv 1) (pa_cons (pe_ix ix_tup (pv 2) (pv 6) (fun _ _ => rfl)) (pa_cons (pv 7) (pa_cons (pe_op op_mod (pv 4) (pv 7)) (pa_cons (pe_op op_mod (pv 5) (pv 7)) pa_nil)))))) (hj := by first | decide | omega | (simp only [Nat.add_eq]; omega)))))) pss_nil)))) pss_nil) (pss_cons (ps_set (i := 7) sc_covered.nd rfl (Or.inl rfl) (pe_op op_fdivW (pv 1) pe_int)) (pss_cons (ps_set (i := 8) sc_covered.nd rfl (Or.inl rfl) (pe_callF C_parted q hr (pa_cons (pv 0) pa_nil) (hj := by first | decide | omega | (simp only [Nat.add_eq]; omega)))) (pss_cons (ps_set (i := 9) sc_covered.nd rfl (Or.inl rfl) (pe_lstx pax_nil)) (pss_cons (ps_for PassesOwn.never rfl (pi_range1 rfl T.b_range (pa_cons pe_int pa_nil)) (pg_name (i := 6) sc_covered.nd rfl (Or.inl rfl)) (pss_one (ps_expr (pe_bm PySem.F.plainAttrs_list PySem.F.slot_list_append PySem.F.type_list_append mt_append (pv 9) (pa_cons (pe_callF C_covered q hr (pa_cons (pe_ix ix_tup (pv 8) (pv 6) (fun _ _ => rfl)) (pa_cons (pv 7) (pa_cons (pv 2) (pa_cons (pv 3) (pa_cons (pe_op op_add (pv 4) (pe_op op_mul (pe_op op_mod (pv 6) pe_int) (pv 7))) (pa_cons (pe_op op_add (pv 5) (pe_op op_mul (pe_op op_fdivW (pv 6) pe_int) (pv 7))) pa_nil)))))) (hj := by first | decide | omega | (simp only [Nat.add_eq]; omega))) pa_nil))))) (pss_one (ps_ret (pe_callF C_gathered q hr (pa_cons (pv 9) pa_nil) (hj := by first | decide | omega | (simp only [Nat.add_eq]; omega))))))))))), ?_⟩
    have ps : 0 < 2 ^ s := Nat.two_pow_pos s
    have pl : 0 < 2 ^ l := Nat.two_pow_pos l
    refine ⟨_, rfl, _, rfl, _, _, rfl, _, rfl, _, _, rfl, rfl, _, rfl, ite2 (fun c => iteT ?_) (fun c => ?_)⟩
    · have c' : (if y > x then y else x) ≥ ((2 ^ l : Nat) : Int) := of_decide_eq_true c
      refine ⟨_, rfl, q' vb tb H (Same.refl H) hb gb fun i j hi hj => (shown_out ?_).symm⟩
      split at c' <;> omega
    have c0 : ¬ (if y > x then y else x) ≥ ((2 ^ l : Nat) : Int) := fun z => c (decide_eq_true z)
    refine ⟨_, rfl, _, rfl, _, _, rfl, _, rfl, _, _, rfl, rfl, _, _, rfl, rfl, _, rfl, ite2 (fun c => ?_) (fun c => ?_)⟩
    · have c' : (if y < x then y else x) + ((2 ^ s : Nat) : Int) ≤ 0 := of_decide_eq_true c
      refine ⟨_, rfl, q' vb tb H (Same.refl H) hb gb fun i j hi hj => (shown_out ?_).symm⟩
      split at c' <;> omega
    have c1 : ¬ (if y < x then y else x) + ((2 ^ s : Nat) : Int) ≤ 0 := fun z => c (decide_eq_true z)
    clear c
    refine ⟨_, rfl, _, rfl, _, _, rfl, _, _, rfl, rfl, _, rfl, ite2 (fun c3 => ?IN) (fun c3 => iteF ?P1)⟩
    case' P1 =>
      have hs : 0 < s := by
        rcases Nat.eq_zero_or_pos s with h0 | h0
        · exfalso
          subst h0
          have c3' : ¬ (if y < x then y else x) ≥ (0 : Int) := fun z => c3 (decide_eq_true z)
          have e1 : (2 ^ 0 : Nat) = 1 := rfl
          rw [e1] at c1
          split at c1 <;> split at c3' <;> omega
        · exact h0
    case' IN =>
      have c3' : (if y < x then y else x) ≥ (0 : Int) := of_decide_eq_true c3
      refine ⟨_, rfl, _, rfl, _, _, rfl, _, rfl, _, _, rfl, rfl, _, rfl, _, _, rfl, rfl, _, rfl, ite2 (fun c4 => ?IN2) (fun c4 => ?P2)⟩
    case' P2 =>
      have hs : 0 < s := by
        rcases Nat.eq_zero_or_pos s with h0 | h0
        · exfalso
          subst h0
          have c4' : ¬ (if y > x then y else x) + ((2 ^ 0 : Nat) : Int) ≤ ((2 ^ l : Nat) : Int) := fun z => c4 (decide_eq_true z)
          have e1 : (2 ^ 0 : Nat) = 1 := rfl
          rw [e1] at c4'
          split at c4' <;> split at c0 <;> omega
        · exact h0
    case' IN2 =>
      have c4' : (if y > x then y else x) + ((2 ^ s : Nat) : Int) ≤ ((2 ^ l : Nat) : Int) := of_decide_eq_true c4
      have bnd : 0 ≤ x ∧ 0 ≤ y ∧ x + ((2 ^ s : Nat) : Int) ≤ ((2 ^ l : Nat) : Int) ∧ y + ((2 ^ s : Nat) : Int) ≤ ((2 ^ l : Nat) : Int) := by
        split at c3' <;> split at c4' <;> omega
      obtain ⟨x0, rfl⟩ : ∃ x0 : Nat, x = (x0 : Int) := ⟨x.toNat, by omega⟩
      obtain ⟨y0, rfl⟩ : ∃ y0 : Nat, y = (y0 : Int) := ⟨y.toNat, by omega⟩
      have bx : x0 + 2 ^ s ≤ 2 ^ l := by omega
      have bY : y0 + 2 ^ s ≤ 2 ^ l := by omega
      cases id ht with
      | col i =>
        have gi : 0 ≤ i ∧ i ≤ 35 := by cases l <;> exact gt
        refine ⟨_, rfl, _, _, _, rfl, .int i, kit_it, _, rfl, iteT ⟨_, rfl, q' _ (.col i) H (Same.refl H) (.col i) (Good.col gi) fun i' j' hi hj => ?_⟩⟩
        have e1 : (x0 : Int) + (i' : Int) = ((x0 + i' : Nat) : Int) := by omega
        have e2 : (y0 : Int) + (j' : Int) = ((y0 + j' : Nat) : Int) := by omega
        rw [e1, e2, shown_in (by omega) (by omega), colAt_col, colAt_col]
      | @four p xa xb xc xd ta tbb tc td e ja jb jc jd =>
        rcases l with _ | l
        · exact gt.elim
        refine ⟨_, rfl, _, _, _, rfl, .tup e, kit_tt, _, rfl, iteF ?_⟩
        refine ⟨_, rfl, _, rfl, _, rfl, _, rfl, l, x0, y0, 2 ^ s, rfl, by omega, ps, fun hx hy => ?QQ, fun hns => ?NN⟩
        case QQ =>
          have pl' : 0 < 2 ^ l := Nat.two_pow_pos l
          have pI : (0 : Int) < ((2 ^ l : Nat) : Int) := by omega
          have p2 : 2 ^ (l + 1) = 2 * 2 ^ l := by rw [Nat.pow_succ]; omega
          have a1 : x0 / 2 ^ l < 2 := (Nat.div_lt_iff_lt_mul pl').mpr (by omega)
          have a2 : y0 / 2 ^ l < 2 := (Nat.div_lt_iff_lt_mul pl').mpr (by omega)
          refine ⟨_, rfl, rfl, _, rfl, ite2 (fun _ => ?_) (fun c => absurd (by simp) c)⟩
          refine ⟨_, rfl, _, _, rfl, rfl, cdivW (by decide) (by decide), ?_⟩
          dsimp only
          rw [pow_half]
          have key : ∀ kq : Nat, kq < 4 → ∃ u, atI [xa, xb, xc, xd] (kq : Int) = some u ∧ TrAt H u (qk (.four ta tbb tc td) kq) := fun kq hkq => by
            rcases kq with _ | _ | _ | _ | kq
            · exact ⟨xa, rfl, ja⟩
            · exact ⟨xb, rfl, jb⟩
            · exact ⟨xc, rfl, jc⟩
            · exact ⟨xd, rfl, jd⟩
            · omega
          obtain ⟨u, eu, ku⟩ := key (y0 / 2 ^ l * 2 + x0 / 2 ^ l) (by omega)
          refine ⟨_, rfl, _, rfl, _, rfl, _, rfl, p, _, _, u, rfl, rfl, SqT.of e, eu, _, rfl, _, rfl, _, rfl, _, _, rfl, rfl, pI, _, rfl, _, rfl, _, _, rfl, rfl, pI, ?_⟩
          refine ⟨vb, u, tb, _, s, l, ((x0 % 2 ^ l : Nat) : Int), ((y0 % 2 ^ l : Nat) : Int), rfl, hb, ku, gb, gt.q _, by omega, by omega, fun v' r H' s' hv gr hh => q' v' r H' s' hv gr fun i j hi hj => ?_⟩
          rw [hh i j hi hj]
          exact shown_quarter hx hy bx bY hi hj
        case NN =>
          have hs : 0 < s := by
            rcases Nat.eq_zero_or_pos s with h0 | h0
            · exfalso
              subst h0
              exact hns ⟨rfl, rfl⟩
            · exact h0
          refine ⟨_, rfl, rfl, _, rfl, iteNS rfl ?_⟩
          obtain ⟨s, rfl⟩ : ∃ s', s = s' + 1 := ⟨s - 1, by omega⟩
          refine ⟨_, rfl, _, _, rfl, rfl, cdivW (by decide) (by decide), ?_⟩
          dsimp only
          rw [pow_half]
          refine ⟨_, rfl, vb, tb, rfl, hb, fun pb a b' c' d' H1 s1 hpb ka kb kc kd => ?_⟩
          refine ⟨(by show 0 ≤ sizeLine; decide), fun lp hlp => ?_⟩
          refine ⟨_, rfl, by decide, by decide, for_range (fun k σ H2 => Same H1 H2 ∧ ∃ (ys : List V) (o6 : Option V), H2 lp = some (.lst ys) ∧ ys.length = k ∧ (∀ i u, ys[i]? = some u → ∃ r, TrAt H2 u r ∧ Good s r ∧ ∀ uu vv, uu < 2 ^ s → vv < 2 ^ s → colAt s r uu vv = shown ((x0 : Int) + ((i % 2 * 2 ^ s : Nat) : Int) + (uu : Int)) ((y0 : Int) + ((i / 2 * 2 ^ s : Nat) : Int) + (vv : Int)) (l + 1) (.four ta tbb tc td) (colAt s (qk tb i) uu vv)) ∧
            σ = [some vb, some (.int ((2 ^ (s + 1) : Nat) : Int)), some (.ref p), some (.int ((2 ^ (l + 1) : Nat) : Int)), some (.int (x0 : Int)), some (.int (y0 : Int)), o6, some (.int ((2 ^ s : Nat) : Int)), some (.ref pb), some (.ref lp)]) ⟨Same.new hlp _, [], _, upd_same, rfl, fun i u hu => absurd hu (by simp), rfl⟩ ?_ ?_⟩
          · rintro k σ H2 hk ⟨s2, ys, o6, u2, ly, hys, rfl⟩
            have hk' : k < 4 := hk
            have e0 : (0 : Int) + (k : Int) = (k : Int) := Int.zero_add _
            rw [e0]
            have key : ∃ u, atI [a, b', c', d'] (k : Int) = some u ∧ TrAt H1 u (qk tb k) := by
              rcases k with _ | _ | _ | _ | k
              · exact ⟨a, rfl, ka⟩
              · exact ⟨b', rfl, kb⟩
              · exact ⟨c', rfl, kc⟩
              · exact ⟨d', rfl, kd⟩
              · omega
            obtain ⟨u, eu, ku⟩ := key
            refine ⟨_, rfl, .inl ⟨rfl, _, SqL.of u2⟩, _, rfl, _, rfl, pb, _, _, u, rfl, rfl, SqT.of (s2 _ _ hpb), eu, _, rfl, _, rfl, _, rfl, ?_⟩
            refine ⟨_, rfl, _, rfl, _, _, rfl, rfl, (by show (0 : Int) < 2; decide), _, rfl, _, _, rfl, rfl, .inl ⟨by omega, by omega⟩, _, _, rfl, rfl, ?_⟩
            refine ⟨_, rfl, _, rfl, _, _, rfl, rfl, cdivW (by decide) (by decide), _, rfl, _, _, rfl, rfl, .inl ⟨by omega, by omega⟩, _, _, rfl, rfl, ?_⟩
            have eX : (k : Int) % 2 * ((2 ^ s : Nat) : Int) = ((k % 2 * 2 ^ s : Nat) : Int) := by simp
            have eY : (k : Int) / 2 * ((2 ^ s : Nat) : Int) = ((k / 2 * 2 ^ s : Nat) : Int) := by simp
            refine ⟨u, (.ref p), qk tb k, (.four ta tbb tc td), s, (l + 1), (x0 : Int) + ((k % 2 * 2 ^ s : Nat) : Int), (y0 : Int) + ((k / 2 * 2 ^ s : Nat) : Int), ?_, ku.up s2.tups, ht.up (s1.trans s2).tups, gb.q k, gt, by omega, by omega, fun v' r H3 s3 hv gr hcol => ?_⟩
            · show [u, V.int _, (.ref p), V.int _, V.int ((x0 : Int) + (k : Int) % 2 * ((2 ^ s : Nat) : Int)), V.int ((y0 : Int) + (k : Int) / 2 * ((2 ^ s : Nat) : Int))] = _
              rw [eX, eY]
            have u3 := s3 _ _ u2
            have tl := Tups.lst (ys := ys ++ [v']) u3
            refine ⟨lp, ys, _, rfl, rfl, u3, small1000 (by omega), Same.set (s2.trans s3) hlp _, ys ++ [v'], _, upd_same, by rw [List.length_append, ly]; rfl, fun i g hg => ?_, rfl⟩
            rcases Nat.lt_or_ge i ys.length with hi | hi
            · rw [List.getElem?_append_left hi] at hg
              obtain ⟨r1, w1, w2, w3⟩ := hys i g hg
              exact ⟨r1, w1.up (s3.tups.trans tl), w2, w3⟩
            · rw [List.getElem?_append_right hi] at hg
              have h0 : i - ys.length = 0 := by
                rcases h : i - ys.length with _ | k
                · rfl
                · rw [h] at hg; simp at hg
              rw [h0] at hg
              have ei : i = k := by omega
              rw [← Option.some.inj hg, ei]
              exact ⟨r, hv.up tl, gr, hcol⟩
          · rintro σ H2 ⟨s2, ys, o6, u2, ly, hys, rfl⟩
            have ly' : ys.length = 4 := ly
            obtain ⟨z0, z1, z2, z3, rfl⟩ : ∃ z0 z1 z2 z3, ys = [z0, z1, z2, z3] := by
              match ys, ly' with
              | [z0, z1, z2, z3], _ => exact ⟨z0, z1, z2, z3, rfl⟩
            obtain ⟨r0, a0, g0, w0⟩ := hys 0 _ rfl
            obtain ⟨r1, a1, g1, w1⟩ := hys 1 _ rfl
            obtain ⟨r2, a2, g2, w2⟩ := hys 2 _ rfl
            obtain ⟨r3, a3, g3, w3⟩ := hys 3 _ rfl
            have d0 := g0.deep
            have d1 := g1.deep
            have d2 := g2.deep
            have d3 := g3.deep
            refine ⟨_, rfl, lp, _, _, _, _, r0, r1, r2, r3, rfl, u2, a0, a1, a2, a3, ⟨by omega, by omega, by omega, by omega⟩, fun v' H3 s3 hv => q' v' _ H3 ((s1.trans s2).trans s3) hv (good_gath g0 g1 g2 g3) fun i j hi hj => ?_⟩
            refine shown_parts hi hj fun k hk uu vv hu hw => ?_
            obtain ⟨b0, b1, b2, b3⟩ := gath_parts r0 r1 r2 r3
            rcases k with _ | _ | _ | _ | k
            · show colAt s (q0 (gath r0 r1 r2 r3)) uu vv = _
              rw [b0]; exact w0 uu vv hu hw
            · show colAt s (q1 (gath r0 r1 r2 r3)) uu vv = _
              rw [b1]; exact w1 uu vv hu hw
            · show colAt s (q2 (gath r0 r1 r2 r3)) uu vv = _
              rw [b2]; exact w2 uu vv hu hw
            · show colAt s (q3 (gath r0 r1 r2 r3)) uu vv = _
              rw [b3]; exact w3 uu vv hu hw
            · omega
    case P1 =>
      obtain ⟨s, rfl⟩ : ∃ s', s = s' + 1 := ⟨s - 1, by omega⟩
      refine ⟨_, rfl, _, _, rfl, rfl, cdivW (by decide) (by decide), ?_⟩
      dsimp only
      rw [pow_half]
      refine ⟨_, rfl, vb, tb, rfl, hb, fun pb a b' c' d' H1 s1 hpb ka kb kc kd => ?_⟩
      refine ⟨(by show 0 ≤ sizeLine; decide), fun lp hlp => ?_⟩
      refine ⟨_, rfl, by decide, by decide, for_range (fun k σ H2 => Same H1 H2 ∧ ∃ (ys : List V) (o6 : Option V), H2 lp = some (.lst ys) ∧ ys.length = k ∧ (∀ i u, ys[i]? = some u → ∃ r, TrAt H2 u r ∧ Good s r ∧ ∀ uu vv, uu < 2 ^ s → vv < 2 ^ s → colAt s r uu vv = shown (x + ((i % 2 * 2 ^ s : Nat) : Int) + (uu : Int)) (y + ((i / 2 * 2 ^ s : Nat) : Int) + (vv : Int)) l tt (colAt s (qk tb i) uu vv)) ∧
        σ = [some vb, some (.int ((2 ^ (s + 1) : Nat) : Int)), some vt, some (.int ((2 ^ l : Nat) : Int)), some (.int x), some (.int y), o6, some (.int ((2 ^ s : Nat) : Int)), some (.ref pb), some (.ref lp)]) ⟨Same.new hlp _, [], _, upd_same, rfl, fun i u hu => absurd hu (by simp), rfl⟩ ?_ ?_⟩
      · rintro k σ H2 hk ⟨s2, ys, o6, u2, ly, hys, rfl⟩
        have hk' : k < 4 := hk
        have e0 : (0 : Int) + (k : Int) = (k : Int) := Int.zero_add _
        rw [e0]
        have key : ∃ u, atI [a, b', c', d'] (k : Int) = some u ∧ TrAt H1 u (qk tb k) := by
          rcases k with _ | _ | _ | _ | k
          · exact ⟨a, rfl, ka⟩
          · exact ⟨b', rfl, kb⟩
          · exact ⟨c', rfl, kc⟩
          · exact ⟨d', rfl, kd⟩
          · omega
        obtain ⟨u, eu, ku⟩ := key
        refine ⟨_, rfl, .inl ⟨rfl, _, SqL.of u2⟩, _, rfl, _, rfl, pb, _, _, u, rfl, rfl, SqT.of (s2 _ _ hpb), eu, _, rfl, _, rfl, _, rfl, ?_⟩
        refine ⟨_, rfl, _, rfl, _, _, rfl, rfl, (by show (0 : Int) < 2; decide), _, rfl, _, _, rfl, rfl, .inl ⟨by omega, by omega⟩, _, _, rfl, rfl, ?_⟩
        refine ⟨_, rfl, _, rfl, _, _, rfl, rfl, cdivW (by decide) (by decide), _, rfl, _, _, rfl, rfl, .inl ⟨by omega, by omega⟩, _, _, rfl, rfl, ?_⟩
        have eX : (k : Int) % 2 * ((2 ^ s : Nat) : Int) = ((k % 2 * 2 ^ s : Nat) : Int) := by simp
        have eY : (k : Int) / 2 * ((2 ^ s : Nat) : Int) = ((k / 2 * 2 ^ s : Nat) : Int) := by simp
        refine ⟨u, vt, qk tb k, tt, s, l, x + ((k % 2 * 2 ^ s : Nat) : Int), y + ((k / 2 * 2 ^ s : Nat) : Int), ?_, ku.up s2.tups, ht.up (s1.trans s2).tups, gb.q k, gt, by omega, by omega, fun v' r H3 s3 hv gr hcol => ?_⟩
        · show [u, V.int _, vt, V.int _, V.int (x + (k : Int) % 2 * ((2 ^ s : Nat) : Int)), V.int (y + (k : Int) / 2 * ((2 ^ s : Nat) : Int))] = _
          rw [eX, eY]
        have u3 := s3 _ _ u2
        have tl := Tups.lst (ys := ys ++ [v']) u3
        refine ⟨lp, ys, _, rfl, rfl, u3, small1000 (by omega), Same.set (s2.trans s3) hlp _, ys ++ [v'], _, upd_same, by rw [List.length_append, ly]; rfl, fun i g hg => ?_, rfl⟩
        rcases Nat.lt_or_ge i ys.length with hi | hi
        · rw [List.getElem?_append_left hi] at hg
          obtain ⟨r1, w1, w2, w3⟩ := hys i g hg
          exact ⟨r1, w1.up (s3.tups.trans tl), w2, w3⟩
        · rw [List.getElem?_append_right hi] at hg
          have h0 : i - ys.length = 0 := by
            rcases h : i - ys.length with _ | k
            · rfl
            · rw [h] at hg; simp at hg
          rw [h0] at hg
          have ei : i = k := by omega
          rw [← Option.some.inj hg, ei]
          exact ⟨r, hv.up tl, gr, hcol⟩
      · rintro σ H2 ⟨s2, ys, o6, u2, ly, hys, rfl⟩
        have ly' : ys.length = 4 := ly
        obtain ⟨z0, z1, z2, z3, rfl⟩ : ∃ z0 z1 z2 z3, ys = [z0, z1, z2, z3] := by
          match ys, ly' with
          | [z0, z1, z2, z3], _ => exact ⟨z0, z1, z2, z3, rfl⟩
        obtain ⟨r0, a0, g0, w0⟩ := hys 0 _ rfl
        obtain ⟨r1, a1, g1, w1⟩ := hys 1 _ rfl
        obtain ⟨r2, a2, g2, w2⟩ := hys 2 _ rfl
        obtain ⟨r3, a3, g3, w3⟩ := hys 3 _ rfl
        have d0 := g0.deep
        have d1 := g1.deep
        have d2 := g2.deep
        have d3 := g3.deep
        refine ⟨_, rfl, lp, _, _, _, _, r0, r1, r2, r3, rfl, u2, a0, a1, a2, a3, ⟨by omega, by omega, by omega, by omega⟩, fun v' H3 s3 hv => q' v' _ H3 ((s1.trans s2).trans s3) hv (good_gath g0 g1 g2 g3) fun i j hi hj => ?_⟩
        refine shown_parts hi hj fun k hk uu vv hu hw => ?_
        obtain ⟨b0, b1, b2, b3⟩ := gath_parts r0 r1 r2 r3
        rcases k with _ | _ | _ | _ | k
        · show colAt s (q0 (gath r0 r1 r2 r3)) uu vv = _
          rw [b0]; exact w0 uu vv hu hw
        · show colAt s (q1 (gath r0 r1 r2 r3)) uu vv = _
          rw [b1]; exact w1 uu vv hu hw
        · show colAt s (q2 (gath r0 r1 r2 r3)) uu vv = _
          rw [b2]; exact w2 uu vv hu hw
        · show colAt s (q3 (gath r0 r1 r2 r3)) uu vv = _
          rw [b3]; exact w3 uu vv hu hw
        · omega
    case P2 =>
      obtain ⟨s, rfl⟩ : ∃ s', s = s' + 1 := ⟨s - 1, by omega⟩
      refine ⟨_, rfl, _, _, rfl, rfl, cdivW (by decide) (by decide), ?_⟩
      dsimp only
      rw [pow_half]
      refine ⟨_, rfl, vb, tb, rfl, hb, fun pb a b' c' d' H1 s1 hpb ka kb kc kd => ?_⟩
      refine ⟨(by show 0 ≤ sizeLine; decide), fun lp hlp => ?_⟩
      refine ⟨_, rfl, by decide, by decide, for_range (fun k σ H2 => Same H1 H2 ∧ ∃ (ys : List V) (o6 : Option V), H2 lp = some (.lst ys) ∧ ys.length = k ∧ (∀ i u, ys[i]? = some u → ∃ r, TrAt H2 u r ∧ Good s r ∧ ∀ uu vv, uu < 2 ^ s → vv < 2 ^ s → colAt s r uu vv = shown (x + ((i % 2 * 2 ^ s : Nat) : Int) + (uu : Int)) (y + ((i / 2 * 2 ^ s : Nat) : Int) + (vv : Int)) l tt (colAt s (qk tb i) uu vv)) ∧
        σ = [some vb, some (.int ((2 ^ (s + 1) : Nat) : Int)), some vt, some (.int ((2 ^ l : Nat) : Int)), some (.int x), some (.int y), o6, some (.int ((2 ^ s : Nat) : Int)), some (.ref pb), some (.ref lp)]) ⟨Same.new hlp _, [], _, upd_same, rfl, fun i u hu => absurd hu (by simp), rfl⟩ ?_ ?_⟩
      · rintro k σ H2 hk ⟨s2, ys, o6, u2, ly, hys, rfl⟩
        have hk' : k < 4 := hk
        have e0 : (0 : Int) + (k : Int) = (k : Int) := Int.zero_add _
        rw [e0]
        have key : ∃ u, atI [a, b', c', d'] (k : Int) = some u ∧ TrAt H1 u (qk tb k) := by
          rcases k with _ | _ | _ | _ | k
          · exact ⟨a, rfl, ka⟩
          · exact ⟨b', rfl, kb⟩
          · exact ⟨c', rfl, kc⟩
          · exact ⟨d', rfl, kd⟩
          · omega
        obtain ⟨u, eu, ku⟩ := key
        refine ⟨_, rfl, .inl ⟨rfl, _, SqL.of u2⟩, _, rfl, _, rfl, pb, _, _, u, rfl, rfl, SqT.of (s2 _ _ hpb), eu, _, rfl, _, rfl, _, rfl, ?_⟩
        refine ⟨_, rfl, _, rfl, _, _, rfl, rfl, (by show (0 : Int) < 2; decide), _, rfl, _, _, rfl, rfl, .inl ⟨by omega, by omega⟩, _, _, rfl, rfl, ?_⟩
        refine ⟨_, rfl, _, rfl, _, _, rfl, rfl, cdivW (by decide) (by decide), _, rfl, _, _, rfl, rfl, .inl ⟨by omega, by omega⟩, _, _, rfl, rfl, ?_⟩
        have eX : (k : Int) % 2 * ((2 ^ s : Nat) : Int) = ((k % 2 * 2 ^ s : Nat) : Int) := by simp
        have eY : (k : Int) / 2 * ((2 ^ s : Nat) : Int) = ((k / 2 * 2 ^ s : Nat) : Int) := by simp
        refine ⟨u, vt, qk tb k, tt, s, l, x + ((k % 2 * 2 ^ s : Nat) : Int), y + ((k / 2 * 2 ^ s : Nat) : Int), ?_, ku.up s2.tups, ht.up (s1.trans s2).tups, gb.q k, gt, by omega, by omega, fun v' r H3 s3 hv gr hcol => ?_⟩
        · show [u, V.int _, vt, V.int _, V.int (x + (k : Int) % 2 * ((2 ^ s : Nat) : Int)), V.int (y + (k : Int) / 2 * ((2 ^ s : Nat) : Int))] = _
          rw [eX, eY]
        have u3 := s3 _ _ u2
        have tl := Tups.lst (ys := ys ++ [v']) u3
        refine ⟨lp, ys, _, rfl, rfl, u3, small1000 (by omega), Same.set (s2.trans s3) hlp _, ys ++ [v'], _, upd_same, by rw [List.length_append, ly]; rfl, fun i g hg => ?_, rfl⟩
        rcases Nat.lt_or_ge i ys.length with hi | hi
        · rw [List.getElem?_append_left hi] at hg
          obtain ⟨r1, w1, w2, w3⟩ := hys i g hg
          exact ⟨r1, w1.up (s3.tups.trans tl), w2, w3⟩
        · rw [List.getElem?_append_right hi] at hg
          have h0 : i - ys.length = 0 := by
            rcases h : i - ys.length with _ | k
            · rfl
            · rw [h] at hg; simp at hg
          rw [h0] at hg
          have ei : i = k := by omega
          rw [← Option.some.inj hg, ei]
          exact ⟨r, hv.up tl, gr, hcol⟩
      · rintro σ H2 ⟨s2, ys, o6, u2, ly, hys, rfl⟩
        have ly' : ys.length = 4 := ly
        obtain ⟨z0, z1, z2, z3, rfl⟩ : ∃ z0 z1 z2 z3, ys = [z0, z1, z2, z3] := by
          match ys, ly' with
          | [z0, z1, z2, z3], _ => exact ⟨z0, z1, z2, z3, rfl⟩
        obtain ⟨r0, a0, g0, w0⟩ := hys 0 _ rfl
        obtain ⟨r1, a1, g1, w1⟩ := hys 1 _ rfl
        obtain ⟨r2, a2, g2, w2⟩ := hys 2 _ rfl
        obtain ⟨r3, a3, g3, w3⟩ := hys 3 _ rfl
        have d0 := g0.deep
        have d1 := g1.deep
        have d2 := g2.deep
        have d3 := g3.deep
        refine ⟨_, rfl, lp, _, _, _, _, r0, r1, r2, r3, rfl, u2, a0, a1, a2, a3, ⟨by omega, by omega, by omega, by omega⟩, fun v' H3 s3 hv => q' v' _ H3 ((s1.trans s2).trans s3) hv (good_gath g0 g1 g2 g3) fun i j hi hj => ?_⟩
        refine shown_parts hi hj fun k hk uu vv hu hw => ?_
        obtain ⟨b0, b1, b2, b3⟩ := gath_parts r0 r1 r2 r3
        rcases k with _ | _ | _ | _ | k
        · show colAt s (q0 (gath r0 r1 r2 r3)) uu vv = _
          rw [b0]; exact w0 uu vv hu hw
        · show colAt s (q1 (gath r0 r1 r2 r3)) uu vv = _
          rw [b1]; exact w1 uu vv hu hw
        · show colAt s (q2 (gath r0 r1 r2 r3)) uu vv = _
          rw [b2]; exact w2 uu vv hu hw
        · show colAt s (q3 (gath r0 r1 r2 r3)) uu vv = _
          rw [b3]; exact w3 uu vv hu hw
        · omega
end
end Qs


namespace Qs
open PySem L2

def GoodC (n : Nat) (x : V) (z : Str) : Prop := x = .str z ∧ IsC z ∧ z.length ≤ n
def BadC (K : PySem.W.Frag) (H : Hp) (n : Nat) (x : V) : Prop := (∃ z, x = .str z ∧ z.length ≤ 1000 ∧ ¬ (IsC z ∧ z.length ≤ n)) ∨ ∃ ty, TyOf K H x ty ∧ PySem.W.kitOne K ty (.type "str") = some false
theorem BadC.up {K : PySem.W.Frag} {H H' : Hp} {n : Nat} {x : V} (h : BadC K H n x) (s : Same H H') : BadC K H' n x := h.imp id fun ⟨ty, h1, h2⟩ => ⟨ty, TyOf.up s h1, h2⟩

def BadI (K : PySem.W.Frag) (H : Hp) (m : Int) (x : V) : Prop := (∃ i, x = .int i ∧ ¬ (0 ≤ i ∧ i ≤ m)) ∨ NoInt K H x
theorem NoInt.up {K : PySem.W.Frag} {H H' : Hp} {x : V} (h : NoInt K H x) (s : Same H H') : NoInt K H' x := h.imp id fun ⟨ty, h1, h2⟩ => ⟨ty, TyOf.up s h1, h2⟩
theorem BadI.up {K : PySem.W.Frag} {H H' : Hp} {m : Int} {x : V} (h : BadI K H m x) (s : Same H H') : BadI K H' m x := h.imp id fun b => b.up s
theorem Fok.imp {P : Program} {w : World} {K : PySem.W.Frag} {mg : Str → Option Value} {base : Heap} {CX : CXT} {j : Nat} {x : Str} {ps : List Str} {dvs : List V} {sp sp' : Sp} (F : Fok P w K mg base CX j x ps dvs sp) (h : ∀ vs H Q E, sp' vs H Q E → sp vs H Q E) : Fok P w K mg base CX j x ps dvs sp' := by
  obtain ⟨f, fd, ds, G, r⟩ := F.ex
  exact ⟨⟨f, fd, ds, G.imp h, r⟩⟩
section
variable {P : Program} {w : World} {K : PySem.W.Frag} {mg : Str → Option Value} {base : Heap} {CX : CXT} {f : Addr} {fd : FuncData}
abbrev s_need_code_within : Stmt := top 24
theorem sc_need_code_within : FnScope ["code", "level"] ["code", "level"] (defScope s_need_code_within) := ⟨rfl, rfl, rfl, by decide +kernel, rfl, by decide +kernel, by decide +kernel⟩
def sp_cwX (Y : Yx K mg) : Sp := fun vs H Q E => ∃ (x : V) (n : Nat), vs = [x, .int n] ∧ n ≤ 40 ∧ ((∃ z, GoodC n x z ∧ ∀ H', Same H H' → Q .non H') ∨ (BadC K H n x ∧ ∀ H', Same H H' → E (.ref Y.c_NoCode) none H'))
theorem ok_need_code_within (T : Tx K mg) (Y : Yx K mg) (q : Quiet (CXe P w)) (F : FunD K "need_code_within" "need_code_within" s_need_code_within f fd .none) (C_is_code : Fok P w K mg base (CXe P w) 1 "is_code" ["thing"] [] (gsp_is_code K)) : FnOk P w K mg base (CXe P w) 2 f fd ["code", "level"] (sp_cwX Y) := by
  refine F.okX sc_need_code_within (fun vs H Q E h => ?_) (fun cdv A outer s H vs Q E hr h => ?_)
  · obtain ⟨_, _, rfl, _⟩ := h
    rfl
  obtain ⟨x, n, rfl, hn, h⟩ := h
  refine ⟨_, (pss_one (ps_if (PW.pt (pw_or (pt_not (pt_val (pe_callF C_is_code q hr (pa_cons (pv 0) pa_nil)))) (pw_or1 (pt_cmpR op_gt (pe_callB call_len rfl T.b_len bb_len (pa_cons (pv 0) pa_nil)) (pv 1) (nomark _))))) (pss_one (ps_raise Y.x_NoCode raisesE pe_str)) pss_nil)), ?_⟩
  rcases h with ⟨z, ⟨rfl, hz, hl⟩, q'⟩ | ⟨⟨z, rfl, lz, hb⟩ | ⟨ty, h1, h2⟩, q'⟩
  · refine ⟨_, rfl, _, rfl, .inl ⟨z, rfl, by omega, fun H1 s1 => ?_⟩⟩
    rw [(cB_iff z).mpr ⟨by omega, hz⟩]
    refine ⟨_, rfl, iteF ?_⟩
    refine ⟨_, rfl, _, _, rfl, ⟨small (by omega), rfl⟩, _, rfl, _, _, rfl, rfl, _, rfl, ite2 (fun c => ?_) (fun _ => q' H1 s1)⟩
    have c' : (n : Int) < (z.length : Int) := of_decide_eq_true c
    omega
  · refine ⟨_, rfl, _, rfl, .inl ⟨z, rfl, lz, fun H1 s1 => ?_⟩⟩
    cases hcb : cB z with
    | false => exact ⟨_, rfl, iteT (q' H1 s1)⟩
    | true =>
      refine ⟨_, rfl, iteF ?_⟩
      obtain ⟨l4, hz⟩ := (cB_iff z).mp hcb
      refine ⟨_, rfl, _, _, rfl, ⟨small (by omega), rfl⟩, _, rfl, _, _, rfl, rfl, _, rfl, ite2 (fun _ => q' H1 s1) (fun c => ?_)⟩
      have c' : ¬ (n : Int) < (z.length : Int) := fun h => c (decide_eq_true h)
      exact absurd ⟨hz, by omega⟩ hb
  · exact ⟨_, rfl, _, rfl, .inr ⟨⟨ty, h1, h2⟩, _, rfl, iteT (q' H (Same.refl H))⟩⟩
abbrev s_need_small_level : Stmt := top 23
theorem sc_need_small_level : FnScope ["level"] ["level"] (defScope s_need_small_level) := ⟨rfl, rfl, rfl, by decide +kernel, rfl, by decide +kernel, by decide +kernel⟩
def sp_smX (Y : Yx K mg) : Sp := fun vs H Q E => ∃ x : V, vs = [x] ∧ ((∃ n : Nat, x = .int (n : Int) ∧ n ≤ 6 ∧ Q .non H) ∨ (BadI K H 6 x ∧ E (.ref Y.c_NoLevel) none H))
theorem ok_need_small_level (T : Tx K mg) (Y : Yx K mg) (q : Quiet (CXe P w)) (F : FunD K "need_small_level" "need_small_level" s_need_small_level f fd .none) (C_is_level : Fok P w K mg base (CXe P w) 2 "is_level" ["thing"] [] (gsp_upto K 40)) : FnOk P w K mg base (CXe P w) 3 f fd ["level"] (sp_smX Y) := by
  refine F.okX sc_need_small_level (fun vs H Q E h => ?_) (fun cdv A outer s H vs Q E hr h => ?_)
  · obtain ⟨_, rfl, _⟩ := h
    rfl
  obtain ⟨x, rfl, h⟩ := h
  refine ⟨_, (pss_one (ps_if (PW.pt (pw_or (pt_not (pt_val (pe_callF C_is_level q hr (pa_cons (pv 0) pa_nil)))) (pw_or1 (pt_cmpR op_gt (pv 0) (pe_gint T.c_MOST_SMALL) (nomark _))))) (pss_one (ps_raise Y.x_NoLevel raisesE pe_str)) pss_nil)), ?_⟩
  rcases h with ⟨n, rfl, hn, q'⟩ | ⟨⟨i, rfl, hi⟩ | no, q'⟩
  · refine ⟨_, rfl, _, rfl, .inl ⟨(n : Int), rfl, ?_⟩⟩
    rw [show decide (0 ≤ (n : Int) ∧ (n : Int) ≤ 40) = true from decide_eq_true ⟨by omega, by omega⟩]
    refine ⟨_, rfl, iteF ?_⟩
    refine ⟨_, rfl, _, _, rfl, rfl, _, rfl, ite2 (fun c => ?_) (fun _ => q')⟩
    have c' : (6 : Int) < (n : Int) := of_decide_eq_true c
    omega
  · refine ⟨_, rfl, _, rfl, .inl ⟨i, rfl, ?_⟩⟩
    by_cases h40 : 0 ≤ i ∧ i ≤ 40
    · rw [show decide (0 ≤ i ∧ i ≤ 40) = true from decide_eq_true h40]
      refine ⟨_, rfl, iteF ?_⟩
      refine ⟨_, rfl, _, _, rfl, rfl, _, rfl, ite2 (fun _ => q') (fun c => ?_)⟩
      have c' : ¬ (6 : Int) < i := fun h => c (decide_eq_true h)
      omega
    · rw [show decide (0 ≤ i ∧ i ≤ 40) = false from decide_eq_false h40]
      exact ⟨_, rfl, iteT q'⟩
  · exact ⟨_, rfl, _, rfl, .inr ⟨no, _, rfl, iteT q'⟩⟩
abbrev s_need_colour : Stmt := top 25
theorem sc_need_colour : FnScope ["colour"] ["colour"] (defScope s_need_colour) := ⟨rfl, rfl, rfl, by decide +kernel, rfl, by decide +kernel, by decide +kernel⟩
def sp_ncX (Y : Yx K mg) : Sp := fun vs H Q E => ∃ x : V, vs = [x] ∧ ((∃ i : Int, x = .int i ∧ (0 ≤ i ∧ i ≤ 35) ∧ Q .non H) ∨ (BadI K H 35 x ∧ E (.ref Y.c_NoColour) none H))
theorem ok_need_colour (T : Tx K mg) (Y : Yx K mg) (q : Quiet (CXe P w)) (F : FunD K "need_colour" "need_colour" s_need_colour f fd .none) (C_is_colour : Fok P w K mg base (CXe P w) 2 "is_colour" ["thing"] [] (gsp_upto K 35)) : FnOk P w K mg base (CXe P w) 3 f fd ["colour"] (sp_ncX Y) := by
  refine F.okX sc_need_colour (fun vs H Q E h => ?_) (fun cdv A outer s H vs Q E hr h => ?_)
  · obtain ⟨_, rfl, _⟩ := h
    rfl
  obtain ⟨x, rfl, h⟩ := h
  refine ⟨_, (pss_one (ps_if (pt_not (pt_val (pe_callF C_is_colour q hr (pa_cons (pv 0) pa_nil)))) (pss_one (ps_raise Y.x_NoColour raisesE pe_str)) pss_nil)), ?_⟩
  rcases h with ⟨i, rfl, hi, q'⟩ | ⟨⟨i, rfl, hi⟩ | no, q'⟩
  · refine ⟨_, rfl, _, rfl, .inl ⟨i, rfl, ?_⟩⟩
    rw [show decide (0 ≤ i ∧ i ≤ 35) = true from decide_eq_true hi]
    exact ⟨_, rfl, iteF q'⟩
  · refine ⟨_, rfl, _, rfl, .inl ⟨i, rfl, ?_⟩⟩
    rw [show decide (0 ≤ i ∧ i ≤ 35) = false from decide_eq_false hi]
    exact ⟨_, rfl, iteT q'⟩
  · exact ⟨_, rfl, _, rfl, .inr ⟨no, _, rfl, iteT q'⟩⟩
abbrev s_part_at : Stmt := top 35
theorem sc_part_at : FnScope ["sheet", "code"] ["sheet", "code"] (defScope s_part_at) := ⟨rfl, rfl, rfl, by decide +kernel, rfl, by decide +kernel, by decide +kernel⟩
def sp_partX (Y : Yx K mg) : Sp := fun vs H Q E => ∃ (v x : V) (n : Nat) (t : Tr), vs = [v, x] ∧ ShAt H v n t ∧ n ≤ 40 ∧ ((∃ z, GoodC n x z ∧ ∀ v' H', Same H H' → ShAt H' v' ((n - z.length : Nat) : Int) (treeAt t (dig z)) → Q v' H') ∨ (BadC K H n x ∧ ∀ H', Same H H' → E (.ref Y.c_NoCode) none H'))
theorem ok_part_at (T : Tx K mg) (Y : Yx K mg) (q : Quiet (CXe P w)) (F : FunD K "part_at" "part_at" s_part_at f fd .none) (C_need_code_within : Fok P w K mg base (CXe P w) 2 "need_code_within" ["code", "level"] [] (sp_cwX Y)) (C_tree_at : Fok P w K mg base (CXe P w) 2 "tree_at" ["tree", "code"] [] sp_tree_at) : FnOk P w K mg base (CXe P w) 3 f fd ["sheet", "code"] (sp_partX Y) := by
  refine F.okX sc_part_at (fun vs H Q E h => ?_) (fun cdv A outer s H vs Q E hr h => ?_)
  · obtain ⟨_, _, _, _, rfl, _⟩ := h
    rfl
  obtain ⟨v, x, n, t, rfl, ⟨p, y, rfl, hp, hy⟩, hn, h⟩ := h
  refine ⟨_, (pss_cons (ps_expr (pe_callX C_need_code_within hr passE (pa_cons (pv 1) (pa_cons (pe_ix ix_tup (pv 0) pe_int (fun _ _ => rfl)) pa_nil)))) (pss_one (ps_ret (pe_tupx (pax_c (pe_op op_sub (pe_ix ix_tup (pv 0) pe_int (fun _ _ => rfl)) (pe_callB call_len rfl T.b_len bb_len (pa_cons (pv 1) pa_nil))) (pax_c (pe_callF C_tree_at q hr (pa_cons (pe_ix ix_tup (pv 0) pe_int (fun _ _ => rfl)) (pa_cons (pv 1) pa_nil))) pax_nil)))))), ?_⟩
  rcases h with ⟨z, gc, q'⟩ | ⟨bc, q'⟩
  · obtain ⟨rfl, hz, hl⟩ := id gc
    refine ⟨_, rfl, _, rfl, p, _, _, _, rfl, rfl, SqT.of hp, rfl, _, n, rfl, hn, .inl ⟨z, gc, fun H1 s1 => ?_⟩⟩
    have hp1 := s1 _ _ hp
    refine ⟨_, rfl, p, _, _, _, rfl, rfl, SqT.of hp1, rfl, _, rfl, _, _, rfl, ⟨small (by omega), rfl⟩, _, _, rfl, rfl, ?_⟩
    refine ⟨_, rfl, p, _, _, _, rfl, rfl, SqT.of hp1, rfl, _, rfl, y, t, z, rfl, hy.up s1.tups, hz, by omega, fun v' H2 s2 hv => ⟨(by show 2 ≤ sizeLine; decide), fun pp hpp => ?_⟩⟩
    have e : (n : Int) - (z.length : Int) = ((n - z.length : Nat) : Int) := by omega
    refine q' _ _ (s1.trans (s2.trans (Same.new hpp _))) ⟨pp, v', rfl, ?_, hv.up (Same.new hpp _).tups⟩
    rw [upd_same, ← e]
  · exact ⟨_, rfl, _, rfl, p, _, _, _, rfl, rfl, SqT.of hp, rfl, x, n, rfl, hn, .inr ⟨bc, q'⟩⟩
abbrev s_put_in : Stmt := top 36
theorem sc_put_in : FnScope ["sheet", "code", "other"] ["sheet", "code", "other"] (defScope s_put_in) := ⟨rfl, rfl, rfl, by decide +kernel, rfl, by decide +kernel, by decide +kernel⟩
def sp_putX (Y : Yx K mg) : Sp := fun vs H Q E => ∃ (v o x : V) (n m : Nat) (t u : Tr), vs = [v, x, o] ∧ ShAt H v n t ∧ ShAt H o m u ∧ n ≤ 40 ∧ Good n t ∧ Good m u ∧
  ((∃ z, GoodC n x z ∧ m = n - z.length ∧ ∀ v' H', Same H H' → ShAt H' v' n (plant t (dig z) u) → Q v' H') ∨ (∃ z, GoodC n x z ∧ m ≠ n - z.length ∧ ∀ H', Same H H' → E (.ref Y.c_NoLevel) none H') ∨ (BadC K H n x ∧ ∀ H', Same H H' → E (.ref Y.c_NoCode) none H'))
theorem ok_put_in (T : Tx K mg) (Y : Yx K mg) (q : Quiet (CXe P w)) (F : FunD K "put_in" "put_in" s_put_in f fd .none) (C_need_code_within : Fok P w K mg base (CXe P w) 2 "need_code_within" ["code", "level"] [] (sp_cwX Y)) (C_planted : Fok P w K mg base (CXe P w) 43 "planted" ["tree", "code", "other"] [] (sp_planted 40)) : FnOk P w K mg base (CXe P w) 44 f fd ["sheet", "code", "other"] (sp_putX Y) := by
  refine F.okX sc_put_in (fun vs H Q E h => ?_) (fun cdv A outer s H vs Q E hr h => ?_)
  · obtain ⟨_, _, _, _, _, _, _, rfl, _⟩ := h
    rfl
  obtain ⟨v, o, x, n, m, t, u, rfl, ⟨p, y, rfl, hp, hy⟩, ⟨po, yo, rfl, hpo, hyo⟩, hn, gt, gu, h⟩ := h
  refine ⟨_, (pss_cons (ps_expr (pe_callX C_need_code_within hr passE (pa_cons (pv 1) (pa_cons (pe_ix ix_tup (pv 0) pe_int (fun _ _ => rfl)) pa_nil)))) (pss_cons (ps_if (pt_cmpR op_ne (pe_ix ix_tup (pv 2) pe_int (fun _ _ => rfl)) (pe_op op_sub (pe_ix ix_tup (pv 0) pe_int (fun _ _ => rfl)) (pe_callB call_len rfl T.b_len bb_len (pa_cons (pv 1) pa_nil))) (nomark _)) (pss_one (ps_raise Y.x_NoLevel raisesE pe_str)) pss_nil) (pss_one (ps_ret (pe_tupx (pax_c (pe_ix ix_tup (pv 0) pe_int (fun _ _ => rfl)) (pax_c (pe_callF C_planted q hr (pa_cons (pe_ix ix_tup (pv 0) pe_int (fun _ _ => rfl)) (pa_cons (pv 1) (pa_cons (pe_ix ix_tup (pv 2) pe_int (fun _ _ => rfl)) pa_nil)))) pax_nil))))))), ?_⟩
  have dt := gt.deep
  have du := gu.deep
  rcases h with ⟨z, gc, em, q'⟩ | ⟨z, gc, nm, q'⟩ | ⟨bc, q'⟩
  · obtain ⟨rfl, hz, hl⟩ := id gc
    refine ⟨_, rfl, _, rfl, p, _, _, _, rfl, rfl, SqT.of hp, rfl, _, n, rfl, hn, .inl ⟨z, gc, fun H1 s1 => ?_⟩⟩
    have hp1 := s1 _ _ hp
    refine ⟨_, rfl, po, _, _, _, rfl, rfl, SqT.of (s1 _ _ hpo), rfl, _, rfl, p, _, _, _, rfl, rfl, SqT.of hp1, rfl, _, rfl, _, _, rfl, ⟨small (by omega), rfl⟩, _, _, rfl, rfl, rfl, _, rfl, ite2 (fun c => ?_) (fun _ => ?_)⟩
    · have c' : (!decide (V.int (m : Int) = V.int ((n : Int) - (z.length : Int)))) = true := c
      rw [show (n : Int) - (z.length : Int) = (m : Int) by omega] at c'
      simp at c'
    refine ⟨_, rfl, p, _, _, _, rfl, rfl, SqT.of hp1, rfl, ?_⟩
    refine ⟨_, rfl, p, _, _, _, rfl, rfl, SqT.of hp1, rfl, _, rfl, _, rfl, po, _, _, _, rfl, rfl, SqT.of (s1 _ _ hpo), rfl, y, yo, t, u, z, rfl, hy.up s1.tups, hyo.up s1.tups, hz, by omega, by omega, by omega, by omega, fun v' H2 s2 hv => ⟨(by show 2 ≤ sizeLine; decide), fun pp hpp => ?_⟩⟩
    exact q' _ _ (s1.trans (s2.trans (Same.new hpp _))) ⟨pp, v', rfl, upd_same, hv.up (Same.new hpp _).tups⟩
  · obtain ⟨rfl, hz, hl⟩ := id gc
    refine ⟨_, rfl, _, rfl, p, _, _, _, rfl, rfl, SqT.of hp, rfl, _, n, rfl, hn, .inl ⟨z, gc, fun H1 s1 => ?_⟩⟩
    have hp1 := s1 _ _ hp
    refine ⟨_, rfl, po, _, _, _, rfl, rfl, SqT.of (s1 _ _ hpo), rfl, _, rfl, p, _, _, _, rfl, rfl, SqT.of hp1, rfl, _, rfl, _, _, rfl, ⟨small (by omega), rfl⟩, _, _, rfl, rfl, rfl, _, rfl, ite2 (fun _ => q' H1 s1) (fun c => ?_)⟩
    have c' : ¬ (!decide (V.int (m : Int) = V.int ((n : Int) - (z.length : Int)))) = true := c
    have c2 : V.int (m : Int) = V.int ((n : Int) - (z.length : Int)) := by simpa using c'
    injection c2 with c3
    omega
  · exact ⟨_, rfl, _, rfl, p, _, _, _, rfl, rfl, SqT.of hp, rfl, x, n, rfl, hn, .inr ⟨bc, q'⟩⟩
abbrev s_window : Stmt := top 39
theorem sc_window : FnScope ["sheet", "x", "y", "level", "colour"] ["sheet", "x", "y", "level", "colour"] (defScope s_window) := ⟨rfl, rfl, rfl, by decide +kernel, rfl, by decide +kernel, by decide +kernel⟩
def sp_winX (Y : Yx K mg) : Sp := fun vs H Q E => ∃ (v wd c : V) (n : Nat) (t : Tr) (x y : Int), vs = [v, .int x, .int y, wd, c] ∧ ShAt H v n t ∧ Good n t ∧
  (((6 < n ∨ (n ≤ 6 ∧ BadI K H 6 wd)) ∧ E (.ref Y.c_NoLevel) none H) ∨ (n ≤ 6 ∧ ∃ k : Nat, wd = .int (k : Int) ∧ k ≤ 6 ∧ ((BadI K H 35 c ∧ E (.ref Y.c_NoColour) none H) ∨ (∃ i : Int, c = .int i ∧ (0 ≤ i ∧ i ≤ 35) ∧ ∀ v' r H', Same H H' → ShAt H' v' k r → Good k r → Q v' H'))))
theorem ok_window (T : Tx K mg) (Y : Yx K mg) (q : Quiet (CXe P w)) (F : FunD K "window" "window" s_window f fd .none) (C_need_small_level : Fok P w K mg base (CXe P w) 3 "need_small_level" ["level"] [] (sp_smX Y)) (C_need_colour : Fok P w K mg base (CXe P w) 3 "need_colour" ["colour"] [] (sp_ncX Y)) (C_width_of : Fok P w K mg base (CXe P w) 1 "width_of" ["level"] [] sp_width_of)
    (C_covered : Fok P w K mg base (CXe P w) 16 "covered" ["behind", "size", "tree", "wide", "x", "y"] [] (sp_covered 13)) : FnOk P w K mg base (CXe P w) 17 f fd ["sheet", "x", "y", "level", "colour"] (sp_winX Y) := by
  refine F.okX sc_window (fun vs H Q E h => ?_) (fun cdv A outer s H vs Q E hr h => ?_)
  · obtain ⟨_, _, _, _, _, _, _, rfl, _⟩ := h
    rfl
  obtain ⟨v, wd, c, n, t, x, y, rfl, ⟨p, vt, rfl, hp, ht⟩, gt, h⟩ := h
  refine ⟨_, (pss_cons (ps_expr (pe_callX C_need_small_level hr passE (pa_cons (pe_ix ix_tup (pv 0) pe_int (fun _ _ => rfl)) pa_nil))) (pss_cons (ps_expr (pe_callX C_need_small_level hr passE (pa_cons (pv 3) pa_nil))) (pss_cons (ps_expr (pe_callX C_need_colour hr passE (pa_cons (pv 4) pa_nil))) (pss_one (ps_ret (pe_tupx (pax_c (pv 3) (pax_c (pe_callF C_covered q hr (pa_cons (pv 4) (pa_cons (pe_callF C_width_of q hr (pa_cons (pv 3) pa_nil)) (pa_cons (pe_ix ix_tup (pv 0) pe_int (fun _ _ => rfl)) (pa_cons (pe_callF C_width_of q hr (pa_cons (pe_ix ix_tup (pv 0) pe_int (fun _ _ => rfl)) pa_nil)) (pa_cons (pv 1) (pa_cons (pv 2) pa_nil))))))) pax_nil)))))))), ?_⟩
  rcases h with ⟨h6 | ⟨h6, bw⟩, q'⟩ | ⟨h6, k, rfl, hk, h⟩
  · exact ⟨_, rfl, p, _, _, _, rfl, rfl, SqT.of hp, rfl, _, rfl, .inr ⟨.inl ⟨_, rfl, by omega⟩, q'⟩⟩
  · refine ⟨_, rfl, p, _, _, _, rfl, rfl, SqT.of hp, rfl, _, rfl, .inl ⟨n, rfl, h6, ?_⟩⟩
    exact ⟨_, rfl, _, rfl, .inr ⟨bw, q'⟩⟩
  · refine ⟨_, rfl, p, _, _, _, rfl, rfl, SqT.of hp, rfl, _, rfl, .inl ⟨n, rfl, h6, ?_⟩⟩
    refine ⟨_, rfl, _, rfl, .inl ⟨k, rfl, hk, ?_⟩⟩
    rcases h with ⟨bc, q'⟩ | ⟨i, rfl, hi, q'⟩
    · exact ⟨_, rfl, _, rfl, .inr ⟨bc, q'⟩⟩
    refine ⟨_, rfl, _, rfl, .inl ⟨i, rfl, hi, ?_⟩⟩
    refine ⟨_, rfl, _, rfl, _, rfl, k, rfl, by omega, ?_⟩
    refine ⟨_, rfl, p, _, _, _, rfl, rfl, SqT.of hp, rfl, _, rfl, p, _, _, _, rfl, rfl, SqT.of hp, rfl, n, rfl, by omega, _, rfl, _, rfl, ?_⟩
    refine ⟨.int i, vt, .col i, t, k, n, x, y, rfl, .col i, ht, Good.col hi, gt, by omega, by decide, fun v' r H1 s1 hv gr hh => ⟨(by show 2 ≤ sizeLine; decide), fun pp hpp => ?_⟩⟩
    exact q' _ r _ (s1.trans (Same.new hpp _)) ⟨pp, v', rfl, upd_same, hv.up (Same.new hpp _).tups⟩ gr
abbrev s_laid : Stmt := top 40
theorem sc_laid : FnScope ["sheet", "x", "y", "other"] ["sheet", "x", "y", "other"] (defScope s_laid) := ⟨rfl, rfl, rfl, by decide +kernel, rfl, by decide +kernel, by decide +kernel⟩
def sp_laidX (Y : Yx K mg) : Sp := fun vs H Q E => ∃ (v o : V) (n m : Nat) (t u : Tr) (x y : Int), vs = [v, .int x, .int y, o] ∧ ShAt H v n t ∧ ShAt H o m u ∧ Good n t ∧ Good m u ∧
  (((6 < n ∨ 6 < m) ∧ E (.ref Y.c_NoLevel) none H) ∨ (n ≤ 6 ∧ m ≤ 6 ∧ ∀ v' r H', Same H H' → ShAt H' v' m r → Good m r → Q v' H'))
theorem ok_laid (T : Tx K mg) (Y : Yx K mg) (q : Quiet (CXe P w)) (F : FunD K "laid" "laid" s_laid f fd .none) (C_need_small_level : Fok P w K mg base (CXe P w) 3 "need_small_level" ["level"] [] (sp_smX Y)) (C_width_of : Fok P w K mg base (CXe P w) 1 "width_of" ["level"] [] sp_width_of)
    (C_covered : Fok P w K mg base (CXe P w) 16 "covered" ["behind", "size", "tree", "wide", "x", "y"] [] (sp_covered 13)) : FnOk P w K mg base (CXe P w) 17 f fd ["sheet", "x", "y", "other"] (sp_laidX Y) := by
  refine F.okX sc_laid (fun vs H Q E h => ?_) (fun cdv A outer s H vs Q E hr h => ?_)
  · obtain ⟨_, _, _, _, _, _, _, _, rfl, _⟩ := h
    rfl
  obtain ⟨v, o, n, m, t, u, x, y, rfl, ⟨p, vt, rfl, hp, ht⟩, ⟨po, vu, rfl, hpo, hu⟩, gt, gu, h⟩ := h
  refine ⟨_, (pss_cons (ps_expr (pe_callX C_need_small_level hr passE (pa_cons (pe_ix ix_tup (pv 0) pe_int (fun _ _ => rfl)) pa_nil))) (pss_cons (ps_expr (pe_callX C_need_small_level hr passE (pa_cons (pe_ix ix_tup (pv 3) pe_int (fun _ _ => rfl)) pa_nil))) (pss_one (ps_ret (pe_tupx (pax_c (pe_ix ix_tup (pv 3) pe_int (fun _ _ => rfl)) (pax_c (pe_callF C_covered q hr (pa_cons (pe_ix ix_tup (pv 3) pe_int (fun _ _ => rfl)) (pa_cons (pe_callF C_width_of q hr (pa_cons (pe_ix ix_tup (pv 3) pe_int (fun _ _ => rfl)) pa_nil)) (pa_cons (pe_ix ix_tup (pv 0) pe_int (fun _ _ => rfl)) (pa_cons (pe_callF C_width_of q hr (pa_cons (pe_ix ix_tup (pv 0) pe_int (fun _ _ => rfl)) pa_nil)) (pa_cons (pe_un un_neg (pv 1)) (pa_cons (pe_un un_neg (pv 2)) pa_nil))))))) pax_nil))))))), ?_⟩
  by_cases h6 : n ≤ 6
  rotate_left
  · rcases h with ⟨_, q'⟩ | ⟨h7, _⟩
    · exact ⟨_, rfl, p, _, _, _, rfl, rfl, SqT.of hp, rfl, _, rfl, .inr ⟨.inl ⟨_, rfl, by omega⟩, q'⟩⟩
    · exact absurd h7 h6
  refine ⟨_, rfl, p, _, _, _, rfl, rfl, SqT.of hp, rfl, _, rfl, .inl ⟨n, rfl, h6, ?_⟩⟩
  rcases h with ⟨hb, q'⟩ | ⟨_, hm, q'⟩
  · exact ⟨_, rfl, po, _, _, _, rfl, rfl, SqT.of hpo, rfl, _, rfl, .inr ⟨.inl ⟨_, rfl, by omega⟩, q'⟩⟩
  refine ⟨_, rfl, po, _, _, _, rfl, rfl, SqT.of hpo, rfl, _, rfl, .inl ⟨m, rfl, hm, ?_⟩⟩
  refine ⟨_, rfl, po, _, _, _, rfl, rfl, SqT.of hpo, rfl, _, rfl, po, _, _, _, rfl, rfl, SqT.of hpo, rfl, _, rfl, po, _, _, _, rfl, rfl, SqT.of hpo, rfl, m, rfl, by omega, ?_⟩
  refine ⟨_, rfl, p, _, _, _, rfl, rfl, SqT.of hp, rfl, _, rfl, p, _, _, _, rfl, rfl, SqT.of hp, rfl, n, rfl, by omega, _, rfl, _, rfl, _, rfl, _, rfl, ?_⟩
  refine ⟨vu, vt, u, t, m, n, -x, -y, rfl, hu, ht, gu, gt, by omega, by decide, fun v' r H1 s1 hv gr hh => ⟨(by show 2 ≤ sizeLine; decide), fun pp hpp => ?_⟩⟩
  exact q' _ r _ (s1.trans (Same.new hpp _)) ⟨pp, v', rfl, upd_same, hv.up (Same.new hpp _).tups⟩ gr
end
end Qs


namespace Qs
open PySem L2
def cell (ns : List Int) (k : Nat) : Int := (ns[k]?).getD 0

def cnt : Tr → Nat
  | .col _ => 1
  | .four a b c d => cnt a + cnt b + cnt c + cnt d
theorem cnt_gath (a b c d : Tr) : cnt (gath a b c d) ≤ cnt a + cnt b + cnt c + cnt d := by
  unfold gath
  split
  · omega
  · exact Nat.le_refl _
theorem cnt_q {t : Tr} : cnt (q0 t) + cnt (q1 t) + cnt (q2 t) + cnt (q3 t) ≤ cnt t + 3 := by
  cases t with
  | col i => show 1 + 1 + 1 + 1 ≤ 1 + 3; decide
  | four a b c d => show cnt a + cnt b + cnt c + cnt d ≤ cnt a + cnt b + cnt c + cnt d + 3; omega
theorem cnt_put4 {t x : Tr} {d : Nat} (hd : d < 4) : cnt (put4 t d x) + cnt (qk t d) ≤ cnt t + 3 + cnt x := by
  unfold put4
  have h := cnt_gath (if d = 0 then x else q0 t) (if d = 1 then x else q1 t) (if d = 2 then x else q2 t) (if d = 3 then x else q3 t)
  have h2 := cnt_q (t := t)
  generalize gath (if d = 0 then x else q0 t) (if d = 1 then x else q1 t) (if d = 2 then x else q2 t) (if d = 3 then x else q3 t) = g at *
  rcases d with _ | _ | _ | _ | d
  · have h' : cnt g ≤ cnt x + cnt (q1 t) + cnt (q2 t) + cnt (q3 t) := h
    show cnt g + cnt (q0 t) ≤ _
    omega
  · have h' : cnt g ≤ cnt (q0 t) + cnt x + cnt (q2 t) + cnt (q3 t) := h
    show cnt g + cnt (q1 t) ≤ _
    omega
  · have h' : cnt g ≤ cnt (q0 t) + cnt (q1 t) + cnt x + cnt (q3 t) := h
    show cnt g + cnt (q2 t) ≤ _
    omega
  · have h' : cnt g ≤ cnt (q0 t) + cnt (q1 t) + cnt (q2 t) + cnt x := h
    show cnt g + cnt (q3 t) ≤ _
    omega
  · omega
theorem cnt_plant : ∀ (ds : List Nat) (t o : Tr), (∀ d ∈ ds, d < 4) → cnt (plant t ds o) ≤ cnt t + 3 * ds.length + cnt o
  | [], t, o, _ => by show cnt o ≤ _; omega
  | d :: ds, t, o, h => by
    have h1 := cnt_put4 (t := t) (x := plant (qk t d) ds o) (h d List.mem_cons_self)
    have h2 := cnt_plant ds (qk t d) o fun x hx => h x (List.mem_cons_of_mem _ hx)
    show cnt (put4 t d (plant (qk t d) ds o)) ≤ _
    rw [List.length_cons]
    omega
theorem four_of (m : Int) : ∃ d : Nat, d < 4 ∧ m % 4 = (d : Int) := ⟨(m % 4).toNat, by omega, by omega⟩
theorem dig_lt {z : Str} (hz : IsC z) : ∀ d ∈ dig z, d < 4 := fun d h => by
  obtain ⟨c, hc, rfl⟩ := List.mem_map.mp h
  have := hz c hc
  omega
section
variable {P : Program} {w : World} {K : PySem.W.Frag} {mg : Str → Option Value} {base : Heap} {CX : CXT} {f : Addr} {fd : FuncData}
abbrev s_law_at : Stmt := top 42
theorem sc_law_at : FnScope ["_law_script", "_law_k"] ["_law_script", "_law_k"] (defScope s_law_at) := ⟨rfl, rfl, rfl, by decide +kernel, rfl, by decide +kernel, by decide +kernel⟩
def sp_law_at (K : PySem.W.Frag) : Sp := fun vs H Q _ => ∃ (a : Addr) (ns : List Int) (k : Nat), vs = [.ref a, .int k] ∧ SqL K H a (ns.map V.int) ∧ ns.length ≤ 63 ∧ Q (.int (cell ns k)) H
theorem ok_law_at (T : Tx K mg) (F : FunD K "_law_at" "_law_at" s_law_at f fd .none) : FnOk P w K mg base CX 1 f fd ["_law_script", "_law_k"] (sp_law_at K) := by
  refine F.ok sc_law_at (fun vs H Q E h => ?_) (fun cdv A outer s H vs Q E hr h => ?_)
  · obtain ⟨_, _, _, rfl, _⟩ := h
    rfl
  obtain ⟨a, ns, k, rfl, hS, hl, q'⟩ := h
  refine ⟨_, (pss_cons (ps_if (pt_cmpR op_lt (pv 1) (pe_callB call_len rfl T.b_len bb_len (pa_cons (pv 0) pa_nil)) (nomark _)) (pss_one (ps_ret (pe_ix ix_list (pv 0) (pv 1) (fun _ _ => rfl)))) pss_nil) (pss_one (ps_ret pe_int))), ?_⟩
  refine ⟨_, rfl, _, rfl, _, _, rfl, .inl ⟨_, hS, rfl⟩, _, _, rfl, rfl, _, rfl, ite2 (fun c => ?_) (fun c => ?_)⟩
  · have c' : (k : Int) < (((ns.map V.int).length : Nat) : Int) := of_decide_eq_true c
    rw [List.length_map] at c'
    have hk : k < ns.length := by omega
    have e : (ns.map V.int)[k]? = some (.int (cell ns k)) := by simp [cell, hk]
    exact ⟨_, rfl, _, rfl, a, _, _, _, rfl, rfl, hS, atI_nat e, q'⟩
  · have c' : ¬ (k : Int) < (((ns.map V.int).length : Nat) : Int) := fun z => c (decide_eq_true z)
    rw [List.length_map] at c'
    have e : cell ns k = 0 := by
      have : ns[k]? = none := List.getElem?_eq_none (by omega)
      simp [cell, this]
    rw [e] at q'
    exact q'
abbrev s_law_mix : Stmt := top 43
theorem sc_law_mix : FnScope ["_law_cell", "_law_k", "_law_value"] ["_law_cell", "_law_k"] (defScope s_law_mix) := ⟨rfl, rfl, rfl, by decide +kernel, rfl, by decide +kernel, by decide +kernel⟩
def sp_law_mix : Sp := fun vs H Q _ => ∃ (c : Int) (k : Nat), vs = [.int c, .int k] ∧ k ≤ 100000 ∧ ∀ m : Nat, m < 2305843009213693951 → Q (.int (m : Int)) H
theorem ok_law_mix (T : Tx K mg) (F : FunD K "_law_mix" "_law_mix" s_law_mix f fd .none) : FnOk P w K mg base CX 1 f fd ["_law_cell", "_law_k"] sp_law_mix := by
  refine F.ok sc_law_mix (fun vs H Q E h => ?_) (fun cdv A outer s H vs Q E hr h => ?_)
  · obtain ⟨_, _, rfl, _⟩ := h
    rfl
  obtain ⟨c, k, rfl, hk, q'⟩ := h
  refine ⟨_, (pss_cons (ps_set (i := 2) sc_law_mix.nd rfl (Or.inl rfl) (pe_op op_add (pe_op op_add (pe_op op_mod (pv 0) pe_int) (pe_op op_mul pe_int (pv 1))) pe_int)) (pss_cons (ps_set (i := 2) sc_law_mix.nd rfl (Or.inl rfl) (pe_op op_mod (pe_op op_mul (pv 2) (pe_op op_add pe_int (pe_op op_mul pe_int (pv 1)))) pe_int)) (pss_one (ps_ret (pe_op op_mod (pe_op op_mul (pe_op op_add (pe_op op_fdivW (pv 2) pe_int) (pe_op op_mul (pv 2) pe_int)) pe_int) pe_int))))), ?_⟩
  have pP : (0 : Int) < 2305843009213693951 := by decide
  refine ⟨_, rfl, _, _, rfl, rfl, pP, _, rfl, _, _, rfl, rfl, .inl ⟨by decide, by decide⟩, _, _, rfl, rfl, _, _, rfl, rfl, ?_⟩
  dsimp only
  obtain ⟨v, hv, ev⟩ : ∃ v : Int, (0 ≤ v ∧ v < 2305843009213693951 + 211 * 100000 + 13) ∧ c % 2305843009213693951 + 211 * (k : Int) + 13 = v := ⟨_, by omega, rfl⟩
  rw [ev]
  refine ⟨_, rfl, _, rfl, _, _, rfl, rfl, .inl ⟨by decide, by decide⟩, _, _, rfl, rfl, _, _, rfl, rfl, .inl ⟨by omega, by omega⟩, _, _, rfl, rfl, pP, ?_⟩
  dsimp only
  obtain ⟨x, hx, ex⟩ : ∃ x : Int, (0 ≤ x ∧ x < 2305843009213693951) ∧ v * (746413622384679307 + 2 * (k : Int)) % 2305843009213693951 = x := ⟨_, ⟨Int.emod_nonneg _ (by decide), Int.emod_lt_of_pos _ (by decide)⟩, rfl⟩
  rw [ex]
  refine ⟨_, rfl, _, _, rfl, rfl, cdivW (by decide) (by decide), _, rfl, _, _, rfl, rfl, .inr ⟨by decide, by decide⟩, _, _, rfl, rfl, _, _, rfl, rfl, .inr ⟨by decide, by decide⟩, _, _, rfl, rfl, pP, ?_⟩
  dsimp only
  obtain ⟨m, hm, em⟩ : ∃ m : Nat, m < 2305843009213693951 ∧ (x / 268435456 + x * 5) * 1302034522624059749 % 2305843009213693951 = (m : Int) := by
    have h1 := Int.emod_nonneg ((x / 268435456 + x * 5) * 1302034522624059749) (show (2305843009213693951 : Int) ≠ 0 by decide)
    have h2 := Int.emod_lt_of_pos ((x / 268435456 + x * 5) * 1302034522624059749) pP
    generalize (x / 268435456 + x * 5) * 1302034522624059749 % 2305843009213693951 = y at *
    exact ⟨y.toNat, by omega, by omega⟩
  rw [em]
  exact q' m hm
abbrev s_law_code_by : Stmt := top 44
theorem sc_law_code_by : FnScope ["_law_cell", "_law_k", "_law_most", "_law_signs", "_law_value", "_law_code", "_law_j"] ["_law_cell", "_law_k", "_law_most"] (defScope s_law_code_by) := ⟨rfl, rfl, rfl, by decide +kernel, rfl, by decide +kernel, by decide +kernel⟩
def sp_law_code_by : Sp := fun vs H Q _ => ∃ (c : Int) (k n : Nat), vs = [.int c, .int k, .int n] ∧ k ≤ 90000 ∧ n ≤ 40 ∧ ∀ z, IsC z → z.length ≤ n → Q (.str z) H
theorem ok_law_code_by (T : Tx K mg) (q : Quiet CX) (F : FunD K "_law_code_by" "_law_code_by" s_law_code_by f fd .none) (C__law_mix : Fok P w K mg base CX 1 "_law_mix" ["_law_cell", "_law_k"] [] sp_law_mix) : FnOk P w K mg base CX 2 f fd ["_law_cell", "_law_k", "_law_most"] sp_law_code_by := by
  refine F.ok sc_law_code_by (fun vs H Q E h => ?_) (fun cdv A outer s H vs Q E hr h => ?_)
  · obtain ⟨_, _, _, rfl, _⟩ := h
    rfl
  obtain ⟨c, k, n, rfl, hk, hn, q'⟩ := h
  refine ⟨_, (pss_cons (ps_set (i := 3) sc_law_code_by.nd rfl (Or.inl rfl) (pe_op op_mod (pe_callF C__law_mix q hr (pa_cons (pv 0) (pa_cons (pv 1) pa_nil))) (pe_op op_add (pv 2) pe_int))) (pss_cons (ps_if (pt_cmpR op_gt (pe_op op_mod (pe_callF C__law_mix q hr (pa_cons (pv 0) (pa_cons (pe_op op_add (pv 1) pe_int) pa_nil))) pe_int) pe_int (nomark _)) (pss_one (ps_set (i := 3) sc_law_code_by.nd rfl (Or.inl rfl) (pv 2))) pss_nil) (pss_cons (ps_set (i := 4) sc_law_code_by.nd rfl (Or.inl rfl) (pe_op op_add (pe_op op_mul (pe_callF C__law_mix q hr (pa_cons (pv 0) (pa_cons (pe_op op_add (pv 1) pe_int) pa_nil))) pe_int) (pe_callF C__law_mix q hr (pa_cons (pv 0) (pa_cons (pe_op op_add (pv 1) pe_int) pa_nil))))) (pss_cons (ps_set (i := 5) sc_law_code_by.nd rfl (Or.inl rfl) pe_str) (pss_cons (ps_for PassesOwn.never rfl (pi_range1 rfl T.b_range (pa_cons (pv 3) pa_nil)) (pg_name (i := 6) sc_law_code_by.nd rfl (Or.inl rfl)) (pss_cons (ps_set (i := 5) sc_law_code_by.nd rfl (Or.inl rfl) (pe_op op_add_str (pv 5) (pe_ix ix_str pe_str (pe_op op_mod (pv 4) pe_int) (fun _ _ => rfl)))) (pss_one (ps_if (PW.pt (pw_or (pt_cmpR op_lt (pv 6) pe_int (nomark _)) (pw_or1 (pt_cmpR op_eq (pe_op op_mod (pe_callF C__law_mix q hr (pa_cons (pv 0) (pa_cons (pe_op op_add (pv 1) pe_int) pa_nil))) pe_int) pe_int (nomark _))))) (pss_one (ps_set (i := 4) sc_law_code_by.nd rfl (Or.inl rfl) (pe_op op_fdivW (pv 4) pe_int))) pss_nil)))) (pss_one (ps_ret (pv 5)))))))), ?_⟩
  refine ⟨_, rfl, _, rfl, c, k, rfl, by omega, fun m hm => ⟨_, rfl, _, _, rfl, rfl, _, _, rfl, rfl, (by show (0 : Int) < (n : Int) + 1; omega), ?_⟩⟩
  obtain ⟨s1, hs1, es1⟩ : ∃ s1 : Nat, s1 ≤ n ∧ (m : Int) % ((n : Int) + 1) = (s1 : Int) := by
    have h1 := Int.emod_nonneg (m : Int) (show (n : Int) + 1 ≠ 0 by omega)
    have h2 := Int.emod_lt_of_pos (m : Int) (show (0 : Int) < (n : Int) + 1 by omega)
    exact ⟨((m : Int) % ((n : Int) + 1)).toNat, by omega, by omega⟩
  dsimp only
  rw [es1]
  refine ⟨_, rfl, _, rfl, _, _, rfl, rfl, c, k + 1, rfl, by omega, fun m2 hm2 => ⟨_, _, rfl, rfl, (by show (0 : Int) < 3; decide), _, _, rfl, rfl, _, rfl, ?_⟩⟩
  refine ite2 (fun _ => ?_) (fun _ => ?_)
  · obtain ⟨sg, hsg⟩ : ∃ sg : Nat, sg = n := ⟨n, rfl⟩
    subst hsg
    refine ⟨_, rfl, ?_⟩
    refine ⟨_, rfl, _, rfl, _, _, rfl, rfl, c, k + 2, rfl, by omega, fun m3 hm3 => ⟨_, _, rfl, rfl, .inr ⟨by decide, by decide⟩, _, rfl, _, rfl, _, _, rfl, rfl, c, k + 3, rfl, by omega, fun m4 hm4 => ⟨_, _, rfl, rfl, ?_⟩⟩⟩
    refine ⟨_, rfl, _, rfl, by omega, by omega, for_range (fun j σ H2 => H2 = H ∧ ∃ (z : Str) (val : Int) (o6 : Option V), IsC z ∧ z.length = j ∧ σ = [some (.int c), some (.int k), some (.int (sg : Int)), some (.int (sg : Int)), some (.int val), some (.str z), o6]) ⟨rfl, _, _, none, empty_eq ▸ IsC.nil, by decide +kernel, rfl⟩ ?_ ?_⟩
    · rintro j σ H2 hj ⟨rfl, z, val, o6, hz, lz, rfl⟩
      have hj' : j < sg := by omega
      obtain ⟨d, hd, ed⟩ := four_of val
      have nz : IsC (z ++ one d) := IsC.app hz (IsC.one hd)
      have nl : (z ++ one d).length = j + 1 := by rw [app_len, lz]; rfl
      refine ⟨_, rfl, _, rfl, _, _, rfl, rfl, (by show (0 : Int) < 4; decide), _, _, 48 + d, rfl, rfl, q_len, by rw [ed]; exact at_q hd, _, _, rfl, rfl, ?_, ?_⟩
      · rw [lz]; show j + 1 ≤ sizeLine; exact small (by omega)
      refine ⟨_, rfl, _, _, rfl, rfl, _, rfl, ite2 (fun _ => iteT ?_) (fun _ => ?_)⟩
      · exact ⟨_, rfl, _, _, rfl, rfl, cdivW (by decide) (by decide), rfl, z ++ one d, _, _, nz, nl, rfl⟩
      · refine ⟨_, rfl, _, rfl, _, _, rfl, rfl, c, k + 4, rfl, by omega, fun m5 _ => ⟨_, _, rfl, rfl, (by show (0 : Int) < 2; decide), rfl, _, rfl, ite2 (fun _ => ?_) (fun _ => ?_)⟩⟩
        · exact ⟨_, rfl, _, _, rfl, rfl, cdivW (by decide) (by decide), rfl, z ++ one d, _, _, nz, nl, rfl⟩
        · exact ⟨rfl, z ++ one d, _, _, nz, nl, rfl⟩
    · rintro σ H2 ⟨rfl, z, val, o6, hz, lz, rfl⟩
      exact ⟨_, rfl, q' z hz (by omega)⟩
  · obtain ⟨sg, hsg⟩ : ∃ sg : Nat, sg = s1 := ⟨s1, rfl⟩
    subst hsg
    refine ⟨_, rfl, _, rfl, _, _, rfl, rfl, c, k + 2, rfl, by omega, fun m3 hm3 => ⟨_, _, rfl, rfl, .inr ⟨by decide, by decide⟩, _, rfl, _, rfl, _, _, rfl, rfl, c, k + 3, rfl, by omega, fun m4 hm4 => ⟨_, _, rfl, rfl, ?_⟩⟩⟩
    refine ⟨_, rfl, _, rfl, by omega, by omega, for_range (fun j σ H2 => H2 = H ∧ ∃ (z : Str) (val : Int) (o6 : Option V), IsC z ∧ z.length = j ∧ σ = [some (.int c), some (.int k), some (.int n), some (.int (sg : Int)), some (.int val), some (.str z), o6]) ⟨rfl, _, _, none, empty_eq ▸ IsC.nil, by decide +kernel, rfl⟩ ?_ ?_⟩
    · rintro j σ H2 hj ⟨rfl, z, val, o6, hz, lz, rfl⟩
      have hj' : j < sg := by omega
      obtain ⟨d, hd, ed⟩ := four_of val
      have nz : IsC (z ++ one d) := IsC.app hz (IsC.one hd)
      have nl : (z ++ one d).length = j + 1 := by rw [app_len, lz]; rfl
      refine ⟨_, rfl, _, rfl, _, _, rfl, rfl, (by show (0 : Int) < 4; decide), _, _, 48 + d, rfl, rfl, q_len, by rw [ed]; exact at_q hd, _, _, rfl, rfl, ?_, ?_⟩
      · rw [lz]; show j + 1 ≤ sizeLine; exact small (by omega)
      refine ⟨_, rfl, _, _, rfl, rfl, _, rfl, ite2 (fun _ => iteT ?_) (fun _ => ?_)⟩
      · exact ⟨_, rfl, _, _, rfl, rfl, cdivW (by decide) (by decide), rfl, z ++ one d, _, _, nz, nl, rfl⟩
      · refine ⟨_, rfl, _, rfl, _, _, rfl, rfl, c, k + 4, rfl, by omega, fun m5 _ => ⟨_, _, rfl, rfl, (by show (0 : Int) < 2; decide), rfl, _, rfl, ite2 (fun _ => ?_) (fun _ => ?_)⟩⟩
        · exact ⟨_, rfl, _, _, rfl, rfl, cdivW (by decide) (by decide), rfl, z ++ one d, _, _, nz, nl, rfl⟩
        · exact ⟨rfl, z ++ one d, _, _, nz, nl, rfl⟩
    · rintro σ H2 ⟨rfl, z, val, o6, hz, lz, rfl⟩
      exact ⟨_, rfl, q' z hz (by omega)⟩
abbrev s_law_colour_by : Stmt := top 45
theorem sc_law_colour_by : FnScope ["_law_script", "_law_cell", "_law_k", "_law_value"] ["_law_script", "_law_cell", "_law_k"] (defScope s_law_colour_by) := ⟨rfl, rfl, rfl, by decide +kernel, rfl, by decide +kernel, by decide +kernel⟩
def sp_law_colour_by (K : PySem.W.Frag) : Sp := fun vs H Q _ => ∃ (a : Addr) (ns : List Int) (c : Int) (k : Nat), vs = [.ref a, .int c, .int k] ∧ SqL K H a (ns.map V.int) ∧ ns.length ≤ 63 ∧ k ≤ 90000 ∧ ∀ i : Int, 0 ≤ i → i ≤ 35 → Q (.int i) H
theorem ok_law_colour_by (T : Tx K mg) (q : Quiet CX) (F : FunD K "_law_colour_by" "_law_colour_by" s_law_colour_by f fd .none) (C__law_mix : Fok P w K mg base CX 1 "_law_mix" ["_law_cell", "_law_k"] [] sp_law_mix) (C__law_at : Fok P w K mg base CX 1 "_law_at" ["_law_script", "_law_k"] [] (sp_law_at K)) : FnOk P w K mg base CX 2 f fd ["_law_script", "_law_cell", "_law_k"] (sp_law_colour_by K) := by
  refine F.ok sc_law_colour_by (fun vs H Q E h => ?_) (fun cdv A outer s H vs Q E hr h => ?_)
  · obtain ⟨_, _, _, _, rfl, _⟩ := h
    rfl
  obtain ⟨a, ns, c, k, rfl, hS, h63, hk, q'⟩ := h
  refine ⟨_, (pss_cons (ps_set (i := 3) sc_law_colour_by.nd rfl (Or.inl rfl) (pe_callF C__law_mix q hr (pa_cons (pv 1) (pa_cons (pv 2) pa_nil)))) (pss_cons (ps_if (pt_cmpR op_eq (pe_op op_mod (pv 3) pe_int) pe_int (nomark _)) (pss_one (ps_ret (pe_op op_mod (pe_op op_fdivW (pv 3) pe_int) pe_int))) pss_nil) (pss_one (ps_ret (pe_op op_mod (pe_op op_add (pe_op op_fdivW (pe_callF C__law_at q hr (pa_cons (pv 0) (pa_cons pe_int pa_nil))) pe_int) (pe_op op_mul (pe_op op_mod (pe_op op_fdivW (pv 3) pe_int) pe_int) (pe_op op_add pe_int (pe_op op_mul (pe_op op_mod (pe_callF C__law_at q hr (pa_cons (pv 0) (pa_cons pe_int pa_nil))) pe_int) pe_int)))) pe_int))))), ?_⟩
  refine ⟨_, rfl, _, rfl, c, k, rfl, by omega, fun m hm => ?_⟩
  refine ⟨_, rfl, _, _, rfl, rfl, (by show (0 : Int) < 8; decide), rfl, _, rfl, ite2 (fun _ => ?_) (fun _ => ?_)⟩
  · refine ⟨_, rfl, _, _, rfl, rfl, cdivW (by decide) (by decide), _, _, rfl, rfl, (by show (0 : Int) < 36; decide), q' _ ?_ ?_⟩
    · show 0 ≤ (m : Int) / 8 % 36; omega
    · show (m : Int) / 8 % 36 ≤ 35; omega
  · refine ⟨_, rfl, a, ns, 1, rfl, hS, h63, _, _, rfl, rfl, cdivW (by decide) (by decide), ?_⟩
    refine ⟨_, rfl, _, _, rfl, rfl, cdivW (by decide) (by decide), _, _, rfl, rfl, (by show (0 : Int) < 3; decide), ?_⟩
    refine ⟨_, rfl, a, ns, 1, rfl, hS, h63, _, _, rfl, rfl, (by show (0 : Int) < 2; decide), _, _, rfl, rfl, .inr ⟨by decide, by decide⟩, _, _, rfl, rfl, _, _, rfl, rfl, .inl ⟨?_, ?_⟩, _, _, rfl, rfl, _, _, rfl, rfl, (by show (0 : Int) < 36; decide), q' _ ?_ ?_⟩
    · show -(2 ^ 64) < (m : Int) / 8 % 3; omega
    · show (m : Int) / 8 % 3 < 2 ^ 64; omega
    · exact Int.emod_nonneg _ (by decide)
    · have := Int.emod_lt_of_pos (cell ns 1 / 2 + (m : Int) / 8 % 3 * (1 + cell ns 1 % 2 * 11)) (show (0 : Int) < 36 by decide)
      show (cell ns 1 / 2 + (m : Int) / 8 % 3 * (1 + cell ns 1 % 2 * 11)) % 36 ≤ 35
      omega
abbrev s_law_four : Stmt := top 46
theorem sc_law_four : FnScope ["_law_tree"] ["_law_tree"] (defScope s_law_four) := ⟨rfl, rfl, rfl, by decide +kernel, rfl, by decide +kernel, by decide +kernel⟩
def sp_law_four : Sp := fun vs H Q _ => ∃ (v : V) (t : Tr), vs = [v] ∧ TrAt H v t ∧ ∀ l a b c d H', Same H H' → H l = none → H' l = some (.lst [a, b, c, d]) → TrAt H' a (q0 t) → TrAt H' b (q1 t) → TrAt H' c (q2 t) → TrAt H' d (q3 t) → Q (.ref l) H'
theorem ok_law_four (T : Tx K mg) (F : FunD K "_law_four" "_law_four" s_law_four f fd .none) : FnOk P w K mg base CX 1 f fd ["_law_tree"] sp_law_four := by
  refine F.ok sc_law_four (fun vs H Q E h => ?_) (fun cdv A outer s H vs Q E hr h => ?_)
  · obtain ⟨_, _, rfl, _⟩ := h
    rfl
  obtain ⟨v, t, rfl, ht, q'⟩ := h
  refine ⟨_, (pss_cons (ps_if (pt_val (pe_callB (call_isiT "tuple") rfl T.b_isinstance bb_isinstance (pa_cons (pv 0) (pa_cons (pe_bty T.b_tuple bt_tuple) pa_nil)))) (pss_one (ps_ret (pe_callTy call_list_of rfl T.b_list bt_list (pa_cons (pv 0) pa_nil)))) pss_nil) (pss_one (ps_ret (pe_lstx (pax_c (pv 0) (pax_c (pv 0) (pax_c (pv 0) (pax_c (pv 0) pax_nil)))))))), ?_⟩
  cases ht with
  | four e a b c d =>
    refine ⟨_, rfl, _, _, _, rfl, .tup e, kit_tt, _, rfl, iteT ⟨_, rfl, _, _, rfl, .inr (SqT.of e), fun l hl => ?_⟩⟩
    have t2 := fun zs => (Same.new hl (.lst zs)).tups
    exact q' l _ _ _ _ _ (Same.new hl _) hl upd_same (a.up (t2 _)) (b.up (t2 _)) (c.up (t2 _)) (d.up (t2 _))
  | col i =>
    refine ⟨_, rfl, _, _, _, rfl, .int i, kit_it, _, rfl, iteF ?_⟩
    exact ⟨_, rfl, _, rfl, _, rfl, _, rfl, (by show 4 ≤ sizeLine; decide), fun l hl => q' l _ _ _ _ _ (Same.new hl _) hl upd_same (.col i) (.col i) (.col i) (.col i)⟩
end
end Qs


namespace Qs
open PySem L2
theorem find_q {d : Nat} (h : d < 4) : Txt.find ("0123" : Str) (one d) = (d : Int) :=
  four (P := fun d => Txt.find ("0123" : Str) (one d) = (d : Int)) (by decide +kernel) (by decide +kernel) (by decide +kernel) (by decide +kernel) h
theorem shaped4 {a b c d : Tr} (ha : a.deep ≤ 60) (hb : b.deep ≤ 60) (hc : c.deep ≤ 60) (hd : d.deep ≤ 60) : SeqAt.shaped (.list [a.data, b.data, c.data, d.data]) = true := by
  have e1 : (PyData.list [a.data, b.data, c.data, d.data]).canLay0 = true := by
    show (a.data.canLay0 && (b.data.canLay0 && (c.data.canLay0 && (d.data.canLay0 && true)))) = true
    rw [Tr.lay a, Tr.lay b, Tr.lay c, Tr.lay d]; rfl
  have e2 : (PyData.list [a.data, b.data, c.data, d.data]).depth ≤ 64 := by
    show max a.data.depth (max b.data.depth (max c.data.depth (max d.data.depth 0))) + 1 ≤ 64
    rw [Tr.depth a, Tr.depth b, Tr.depth c, Tr.depth d]; omega
  unfold SeqAt.shaped
  rw [e1, decide_eq_true e2]; rfl
theorem eqv4 (a b c d a' b' c' d' : Tr) : PyData.eqv (.list [a.data, b.data, c.data, d.data]) (.list [a'.data, b'.data, c'.data, d'.data]) = decide (a = a' ∧ b = b' ∧ c = c' ∧ d = d') := by
  show (PyData.eqv a.data a'.data && (PyData.eqv b.data b'.data && (PyData.eqv c.data c'.data && (PyData.eqv d.data d'.data && true)))) = _
  rw [Tr.eqv a a', Tr.eqv b b', Tr.eqv c c', Tr.eqv d d']
  by_cases h1 : a = a' <;> by_cases h2 : b = b' <;> by_cases h3 : c = c' <;> by_cases h4 : d = d' <;> simp [h1, h2, h3, h4]
section
variable {P : Program} {w : World} {K : PySem.W.Frag} {mg : Str → Option Value} {base : Heap} {CX : CXT} {f : Addr} {fd : FuncData}
abbrev s_law_painted : Stmt := top 47
theorem sc_law_painted : FnScope ["_law_tree", "_law_code", "_law_colour", "_law_four_here", "_law_at_here"] ["_law_tree", "_law_code", "_law_colour"] (defScope s_law_painted) := ⟨rfl, rfl, rfl, by decide +kernel, rfl, by decide +kernel, by decide +kernel⟩
def sp_law_painted (m : Nat) : Sp := fun vs H Q _ => ∃ (v : V) (i : Int) (t : Tr) (z : Str), vs = [v, .str z, .int i] ∧ TrAt H v t ∧ IsC z ∧ z.length ≤ m ∧ m ≤ 40 ∧ t.deep ≤ 60 ∧ ∀ v' H', Same H H' → TrAt H' v' (plant t (dig z) (.col i)) → Q v' H'
theorem ok_law_painted (T : Tx K mg) (q : Quiet CX) (F : FunD K "_law_painted" "_law_painted" s_law_painted f fd .none) (C__law_four : Fok P w K mg base CX 1 "_law_four" ["_law_tree"] [] sp_law_four) (b : Binds K fd ["_law_tree", "_law_code", "_law_colour"] []) (m : mg "_law_painted" = some (.ref f)) :
    ∀ n, FnOk P w K mg base CX (2 + n) f fd ["_law_tree", "_law_code", "_law_colour"] (sp_law_painted n)
  | 0 => by
    have C__law_painted := fokF (P := P) (w := w) (base := base) (CX := CX) F b m
    refine F.ok sc_law_painted (fun vs H Q E h => ?_) (fun cdv A outer s H vs Q E hr h => ?_)
    · obtain ⟨_, _, _, _, rfl, _⟩ := h
      rfl
    obtain ⟨v, i, t, z, rfl, ht, hz, hl, hm, dt, q'⟩ := h
    refine ⟨_, (pss_cons (ps_if (pt_cmpR op_eq (pv 1) pe_str (nomark _)) (pss_one (ps_ret (pv 2))) pss_nil) (pss_cons (ps_set (i := 3) sc_law_painted.nd rfl (Or.inl rfl) (pe_callF C__law_four q hr (pa_cons (pv 0) pa_nil) (hj := by first | decide | omega | (simp only [Nat.add_eq]; omega)))) (pss_cons (ps_set (i := 4) sc_law_painted.nd rfl (Or.inl rfl) (pe_bm PySem.F.plainAttrs_str PySem.F.slot_str_find PySem.F.type_str_find mt_find pe_str (pa_cons (pe_ix ix_str (pv 1) pe_int (fun _ _ => rfl)) pa_nil))) (pss_cons (ps_asg (pe_callF C__law_painted q hr (pa_cons (pe_ix ix_list (pv 3) (pv 4) (fun _ _ => rfl)) (pa_cons (pe_slice sl_str (pv 1) (po_some pe_int) po_none) (pa_cons (pv 2) pa_nil))) (hj := by first | decide | omega | (simp only [Nat.add_eq]; omega))) (pg_sub (pv 3) (pv 4) set_list)) (pss_cons (ps_if (PW.pt (pw_and (pt_not (pt_val (pe_callB (call_isiT "tuple") rfl T.b_isinstance bb_isinstance (pa_cons (pe_ix ix_list (pv 3) pe_int (fun _ _ => rfl)) (pa_cons (pe_bty T.b_tuple bt_tuple) pa_nil))))) (pw_and1 (pt_cmpR (op_eqD hr) (pv 3) (pe_op op_rep (pe_lstx (pax_c (pe_ix ix_list (pv 3) pe_int (fun _ _ => rfl)) pax_nil)) pe_int) (nomark _))))) (pss_one (ps_ret (pe_ix ix_list (pv 3) pe_int (fun _ _ => rfl)))) pss_nil) (pss_one (ps_ret (pe_tupx (pax_c (pe_ix ix_list (pv 3) pe_int (fun _ _ => rfl)) (pax_c (pe_ix ix_list (pv 3) pe_int (fun _ _ => rfl)) (pax_c (pe_ix ix_list (pv 3) pe_int (fun _ _ => rfl)) (pax_c (pe_ix ix_list (pv 3) pe_int (fun _ _ => rfl)) pax_nil)))))))))))), ?_⟩
    have e := str_eq_nil.mpr (Nat.le_zero.mp hl)
    subst e
    rw [dig_empty] at q'
    refine ⟨_, rfl, rfl, _, rfl, ite2 (fun c => ?_) (fun c => absurd (by simp) c)⟩
    exact ⟨_, rfl, q' (.int i) H (Same.refl H) (.col i)⟩
  | n + 1 => by
    have C__law_painted : Fok P w K mg base CX (2 + n) "_law_painted" ["_law_tree", "_law_code", "_law_colour"] [] (sp_law_painted n) := fok F (ok_law_painted T q F C__law_four b m n) b m
    refine F.ok sc_law_painted (fun vs H Q E h => ?_) (fun cdv A outer s H vs Q E hr h => ?_)
    · obtain ⟨_, _, _, _, rfl, _⟩ := h
      rfl
    obtain ⟨v, i, t, z, rfl, ht, hz, hl, hm, dt, q'⟩ := h
    refine ⟨_, (pss_cons (ps_if (pt_cmpR op_eq (pv 1) pe_str (nomark _)) (pss_one (ps_ret (pv 2))) pss_nil) (pss_cons (ps_set (i := 3) sc_law_painted.nd rfl (Or.inl rfl) (pe_callF C__law_four q hr (pa_cons (pv 0) pa_nil) (hj := by first | decide | omega | (simp only [Nat.add_eq]; omega)))) (pss_cons (ps_set (i := 4) sc_law_painted.nd rfl (Or.inl rfl) (pe_bm PySem.F.plainAttrs_str PySem.F.slot_str_find PySem.F.type_str_find mt_find pe_str (pa_cons (pe_ix ix_str (pv 1) pe_int (fun _ _ => rfl)) pa_nil))) (pss_cons (ps_asg (pe_callF C__law_painted q hr (pa_cons (pe_ix ix_list (pv 3) (pv 4) (fun _ _ => rfl)) (pa_cons (pe_slice sl_str (pv 1) (po_some pe_int) po_none) (pa_cons (pv 2) pa_nil))) (hj := by first | decide | omega | (simp only [Nat.add_eq]; omega))) (pg_sub (pv 3) (pv 4) set_list)) (pss_cons (ps_if (PW.pt (pw_and (pt_not (pt_val (pe_callB (call_isiT "tuple") rfl T.b_isinstance bb_isinstance (pa_cons (pe_ix ix_list (pv 3) pe_int (fun _ _ => rfl)) (pa_cons (pe_bty T.b_tuple bt_tuple) pa_nil))))) (pw_and1 (pt_cmpR (op_eqD hr) (pv 3) (pe_op op_rep (pe_lstx (pax_c (pe_ix ix_list (pv 3) pe_int (fun _ _ => rfl)) pax_nil)) pe_int) (nomark _))))) (pss_one (ps_ret (pe_ix ix_list (pv 3) pe_int (fun _ _ => rfl)))) pss_nil) (pss_one (ps_ret (pe_tupx (pax_c (pe_ix ix_list (pv 3) pe_int (fun _ _ => rfl)) (pax_c (pe_ix ix_list (pv 3) pe_int (fun _ _ => rfl)) (pax_c (pe_ix ix_list (pv 3) pe_int (fun _ _ => rfl)) (pax_c (pe_ix ix_list (pv 3) pe_int (fun _ _ => rfl)) pax_nil)))))))))))), ?_⟩
    refine ⟨_, rfl, rfl, _, rfl, ite2 (fun c => ?_) (fun c => ?_)⟩
    · have e : z = ("" : Str) := by simpa using c
      subst e
      rw [dig_empty] at q'
      exact ⟨_, rfl, q' (.int i) H (Same.refl H) (.col i)⟩
    have pz : 0 < z.length := by
      rcases Nat.eq_zero_or_pos z.length with h0 | h0
      · exact absurd (by simp [str_eq_nil.mpr h0]) c
      · exact h0
    have hs : z.length ≤ sizeLine := small (by omega)
    refine ⟨_, rfl, v, t, rfl, ht, fun l a b c d H2 s2 hl0 u2 ka kb kc kd => ?_⟩
    obtain ⟨e, he, e1, e2⟩ := sgn_one hz pz
    refine ⟨rfl, _, rfl, z, 0, z.cps.getD 0 0, rfl, rfl, hs, at_zero pz, ("0123" : Str), sgn z 0, rfl, rfl, ?_⟩
    rw [e1, find_q he]
    have key : ∃ x, atI [a, b, c, d] (e : Int) = some x ∧ TrAt H2 x (qk t e) := by
      rcases e with _ | _ | _ | _ | e
      · exact ⟨a, rfl, ka⟩
      · exact ⟨b, rfl, kb⟩
      · exact ⟨c, rfl, kc⟩
      · exact ⟨d, rfl, kd⟩
      · omega
    obtain ⟨x, ex, kx⟩ := key
    refine ⟨_, rfl, _, rfl, l, _, _, x, rfl, rfl, SqL.of u2, ex, _, rfl, _, rfl, z, rfl, hs, _, rfl, ?_⟩
    have rl := rst_len z
    refine ⟨x, i, qk t e, rst z, (by show [x, V.str _, V.int i] = [x, V.str _, V.int i]; rw [slice_rst pz]), kx, rst_isC hz, by omega, by omega, qk_deep' dt, fun v' H3 s3 hv' => ?_⟩
    have u3 := s3 _ _ u2
    have hix : ixN [a, b, c, d].length (e : Int) = some e := by
      unfold ixN
      rw [if_pos (by omega), if_pos (by simp; omega), Int.toNat_natCast]
    refine ⟨_, rfl, _, rfl, l, [a, b, c, d], (e : Int), e, rfl, rfl, u3, hix, ?_⟩
    have t3 := Tups.lst (ys := [a, b, c, d].set e v') u3
    have sf : Same H (upd H3 l (.lst ([a, b, c, d].set e v'))) := Same.set (s2.trans s3) hl0 _
    have t23 := s3.tups.trans t3
    have dq := plant_deep (dig (rst z)) 60 (qk t e) (.col i) (qk_deep' dt) (by rw [dig_len]; show 0 + _ ≤ 60; omega)
    have ep : plant t (dig z) (.col i) = put4 t e (plant (qk t e) (dig (rst z)) (.col i)) := by rw [dig_rst pz, e2]; rfl
    rw [ep] at q'
    have d0 := qk_deep' (d := 0) dt
    have d1 := qk_deep' (d := 1) dt
    have d2 := qk_deep' (d := 2) dt
    have d3 := qk_deep' (d := 3) dt
    have kv := hv'.up t3
    have u4 : upd H3 l (.lst ([a, b, c, d].set e v')) l = some (.lst ([a, b, c, d].set e v')) := upd_same
    have four4 : ∃ (xa xb xc xd : V) (ta tb tc td : Tr), [a, b, c, d].set e v' = [xa, xb, xc, xd] ∧ TrAt (upd H3 l (.lst ([a, b, c, d].set e v'))) xa ta ∧ TrAt (upd H3 l (.lst ([a, b, c, d].set e v'))) xb tb ∧ TrAt (upd H3 l (.lst ([a, b, c, d].set e v'))) xc tc ∧ TrAt (upd H3 l (.lst ([a, b, c, d].set e v'))) xd td ∧
        (ta.deep ≤ 60 ∧ tb.deep ≤ 60 ∧ tc.deep ≤ 60 ∧ td.deep ≤ 60) ∧ put4 t e (plant (qk t e) (dig (rst z)) (.col i)) = gath ta tb tc td := by
      rcases e with _ | _ | _ | _ | e
      · exact ⟨_, _, _, _, _, _, _, _, rfl, kv, kb.up t23, kc.up t23, kd.up t23, ⟨dq, d1, d2, d3⟩, rfl⟩
      · exact ⟨_, _, _, _, _, _, _, _, rfl, ka.up t23, kv, kc.up t23, kd.up t23, ⟨d0, dq, d2, d3⟩, rfl⟩
      · exact ⟨_, _, _, _, _, _, _, _, rfl, ka.up t23, kb.up t23, kv, kd.up t23, ⟨d0, d1, dq, d3⟩, rfl⟩
      · exact ⟨_, _, _, _, _, _, _, _, rfl, ka.up t23, kb.up t23, kc.up t23, kv, ⟨d0, d1, d2, dq⟩, rfl⟩
      · omega
    obtain ⟨xa, xb, xc, xd, ta, tb, tc, td, el, ja, jb, jc, jd, ⟨da, db, dc, dd⟩, eg⟩ := four4
    rw [eg] at q'
    rw [el] at u4 sf ja jb jc jd ⊢
    generalize upd H3 l (.lst [xa, xb, xc, xd]) = H4 at *
    cases hta : ta.isCol with
    | false =>
      have hg : gath ta tb tc td = .four ta tb tc td := by
        unfold gath
        rw [if_neg (fun z => by have := (oneB_iff.mp z).1; rw [hta] at this; cases this)]
      have ty := ja.ty (K := K)
      rw [hta] at ty
      refine ⟨_, rfl, l, _, _, xa, rfl, rfl, SqL.of u4, rfl, _, _, _, rfl, ty, kit_tt, _, rfl, iteF (iteF ?_)⟩
      refine ⟨_, rfl, l, _, _, _, rfl, rfl, SqL.of u4, rfl, _, rfl, l, _, _, _, rfl, rfl, SqL.of u4, rfl, _, rfl, l, _, _, _, rfl, rfl, SqL.of u4, rfl, _, rfl, l, _, _, _, rfl, rfl, SqL.of u4, rfl, (by show 4 ≤ sizeLine; decide), fun pp hpp => q' _ _ (sf.trans (Same.new hpp _)) ?_⟩
      rw [hg]
      have sn := (Same.new hpp (.tup [xa, xb, xc, xd])).tups
      exact .four upd_same (ja.up sn) (jb.up sn) (jc.up sn) (jd.up sn)
    | true =>
      have ty := ja.ty (K := K)
      rw [hta] at ty
      refine ⟨_, rfl, l, _, _, xa, rfl, rfl, SqL.of u4, rfl, _, _, _, rfl, ty, kit_it, _, rfl, iteT ?_⟩
      refine ⟨_, rfl, _, rfl, l, _, _, xa, rfl, rfl, SqL.of u4, rfl, (by show 1 ≤ sizeLine; decide), fun m hm => ?_⟩
      refine ⟨m, 4, _, rfl, rfl, upd_same, by decide, by decide, (by show 4 ≤ sizeLine; decide), fun m2 hm2 => ?_⟩
      have er : (List.replicate (4 : Int).toNat [xa]).flatten = [xa, xa, xa, xa] := rfl
      rw [er]
      have sy := (Same.new hm (.lst [xa])).trans (Same.new hm2 (.lst [xa, xa, xa, xa]))
      have um : upd (upd H4 m (.lst [xa])) m2 (.lst [xa, xa, xa, xa]) m2 = some (.lst [xa, xa, xa, xa]) := upd_same
      generalize upd (upd H4 m (.lst [xa])) m2 (.lst [xa, xa, xa, xa]) = H5 at *
      have u5 := sy _ _ u4
      have la := ja.up sy.tups
      have lb := jb.up sy.tups
      have lc := jc.up sy.tups
      have ld := jd.up sy.tups
      refine ⟨_, _, .lst u5 (.cons la.dat (.cons lb.dat (.cons lc.dat (.cons ld.dat .nil)))), .lst um (.cons la.dat (.cons la.dat (.cons la.dat (.cons la.dat .nil)))), shaped4 da db dc dd, shaped4 da da da da, _, rfl, ite2 (fun z => ?_) (fun z => ?_)⟩
      · have z' : PyData.eqv (.list [ta.data, tb.data, tc.data, td.data]) (.list [ta.data, ta.data, ta.data, ta.data]) = true := z
        rw [eqv4] at z'
        obtain ⟨h1, h2, h3, h4⟩ := of_decide_eq_true z'
        have hg : gath ta tb tc td = ta := by
          unfold gath
          rw [if_pos (oneB_iff.mpr ⟨hta, h2, h3, h4⟩)]
        refine ⟨_, rfl, l, _, _, _, rfl, rfl, SqL.of u5, rfl, q' _ _ (sf.trans sy) ?_⟩
        rw [hg]; exact la
      · have z' : ¬ PyData.eqv (.list [ta.data, tb.data, tc.data, td.data]) (.list [ta.data, ta.data, ta.data, ta.data]) = true := z
        rw [eqv4] at z'
        have hg : gath ta tb tc td = .four ta tb tc td := by
          unfold gath
          rw [if_neg (fun y => by obtain ⟨_, h2, h3, h4⟩ := oneB_iff.mp y; exact z' (decide_eq_true ⟨rfl, h2, h3, h4⟩))]
        refine ⟨_, rfl, l, _, _, _, rfl, rfl, SqL.of u5, rfl, _, rfl, l, _, _, _, rfl, rfl, SqL.of u5, rfl, _, rfl, l, _, _, _, rfl, rfl, SqL.of u5, rfl, _, rfl, l, _, _, _, rfl, rfl, SqL.of u5, rfl, (by show 4 ≤ sizeLine; decide), fun pp hpp => q' _ _ (sf.trans (sy.trans (Same.new hpp _))) ?_⟩
        rw [hg]
        have sn := (Same.new hpp (.tup [xa, xb, xc, xd])).tups
        exact .four upd_same (la.up sn) (lb.up sn) (lc.up sn) (ld.up sn)
end
end Qs


namespace Qs
open PySem L2

def suf (z : Str) (k : Nat) : Str := ⟨(z.cps.toList.drop k).toArray⟩
theorem slice_suf {z : Str} {k : Nat} (h : k ≤ z.length) : Txt.slice z (some (k : Int)) none = suf z k := by
  have e := PyProof.Rows.slice_closes_from (x := z) (i := (k : Int)) ⟨by omega, by rw [← len_eq]; omega⟩
  rw [beq_iff_eq] at e
  rw [e]
  unfold suf
  congr 2
  rw [Int.toNat_natCast, List.take_of_length_le]
  rw [List.length_drop, ← len_eq]; omega
theorem suf_len (z : Str) (k : Nat) : (suf z k).length = z.length - k := by rw [len_eq, len_eq]; simp [suf]
theorem suf_isC {z : Str} (h : IsC z) (k : Nat) : IsC (suf z k) := fun c hc => h c (by
  have hc' : c ∈ z.cps.toList.drop k := by simpa [suf] using hc
  exact List.mem_of_mem_drop hc')
section
variable {P : Program} {w : World} {K : PySem.W.Frag} {mg : Str → Option Value} {base : Heap} {CX : CXT} {f : Addr} {fd : FuncData}
abbrev s_law_tree_by : Stmt := top 48
theorem sc_law_tree_by : FnScope ["_law_script", "_law_first", "_law_level_here", "_law_many", "_law_tree", "_law_last", "_law_k", "_law_cell", "_law_code", "_law_same"] ["_law_script", "_law_first", "_law_level_here", "_law_many"] (defScope s_law_tree_by) := ⟨rfl, rfl, rfl, by decide +kernel, rfl, by decide +kernel, by decide +kernel⟩
def sp_law_tree_by (K : PySem.W.Frag) : Sp := fun vs H Q _ => ∃ (a : Addr) (ns : List Int) (first level many : Nat), vs = [.ref a, .int first, .int level, .int many] ∧ SqL K H a (ns.map V.int) ∧ ns.length ≤ 63 ∧ first ≤ 1000 ∧ level ≤ 40 ∧ many ≤ 12 ∧
  ∀ v t H', Same H H' → TrAt H' v t → Good level t → cnt t ≤ 1460 → Q v H'
theorem ok_law_tree_by (T : Tx K mg) (q : Quiet CX) (F : FunD K "_law_tree_by" "_law_tree_by" s_law_tree_by f fd .none) (C__law_at : Fok P w K mg base CX 1 "_law_at" ["_law_script", "_law_k"] [] (sp_law_at K)) (C__law_mix : Fok P w K mg base CX 1 "_law_mix" ["_law_cell", "_law_k"] [] sp_law_mix)
    (C__law_code_by : Fok P w K mg base CX 2 "_law_code_by" ["_law_cell", "_law_k", "_law_most"] [] sp_law_code_by) (C__law_colour_by : Fok P w K mg base CX 2 "_law_colour_by" ["_law_script", "_law_cell", "_law_k"] [] (sp_law_colour_by K)) (C__law_painted : Fok P w K mg base CX 42 "_law_painted" ["_law_tree", "_law_code", "_law_colour"] [] (sp_law_painted 40)) : FnOk P w K mg base CX 43 f fd ["_law_script", "_law_first", "_law_level_here", "_law_many"] (sp_law_tree_by K) := by
  refine F.ok sc_law_tree_by (fun vs H Q E h => ?_) (fun cdv A outer s H vs Q E hr h => ?_)
  · obtain ⟨_, _, _, _, _, rfl, _⟩ := h
    rfl
  obtain ⟨a, ns, first, level, many, rfl, hS, h63, hf, hlv, hmany, q'⟩ := h
  refine ⟨_, (pss_cons (ps_set (i := 4) sc_law_tree_by.nd rfl (Or.inl rfl) (pe_callF C__law_colour_by q hr (pa_cons (pv 0) (pa_cons (pe_callF C__law_at q hr (pa_cons (pv 0) (pa_cons (pv 1) pa_nil))) (pa_cons pe_int pa_nil))))) (pss_cons (ps_set (i := 5) sc_law_tree_by.nd rfl (Or.inl rfl) (pe_callF C__law_code_by q hr (pa_cons (pe_callF C__law_at q hr (pa_cons (pv 0) (pa_cons pe_int pa_nil))) (pa_cons pe_int (pa_cons (pv 2) pa_nil))))) (pss_cons (ps_cut (ps_if (pt_cmpR op_gt (pv 2) pe_int (nomark _)) (pss_one (ps_set (i := 3) sc_law_tree_by.nd rfl (Or.inl rfl) (pe_callB (call_min2 rfl) rfl T.b_min bb_min (pa_cons (pv 3) (pa_cons (pe_op op_sub pe_int (pe_callTy call_int1 rfl T.b_int bt_int (pa_cons (pe_cmpR op_gt (pv 2) pe_int (nomark _)) pa_nil))) pa_nil))))) pss_nil)) (pss_cons (ps_for PassesOwn.never rfl (pi_range1 rfl T.b_range (pa_cons (pv 3) pa_nil)) (pg_name (i := 6) sc_law_tree_by.nd rfl (Or.inl rfl)) (pss_cons (ps_set (i := 7) sc_law_tree_by.nd rfl (Or.inl rfl) (pe_callF C__law_at q hr (pa_cons (pv 0) (pa_cons (pe_op op_add (pv 1) (pv 6)) pa_nil)))) (pss_cons (ps_set (i := 8) sc_law_tree_by.nd rfl (Or.inl rfl) (pe_callF C__law_code_by q hr (pa_cons (pv 7) (pa_cons (pe_op op_mul pe_int (pv 6)) (pa_cons (pv 2) pa_nil))))) (pss_cons (ps_cut (ps_if (pt_cmpR op_eq (pe_op op_mod (pe_callF C__law_mix q hr (pa_cons (pv 7) (pa_cons (pe_op op_add (pe_op op_mul pe_int (pv 6)) pe_int) pa_nil))) pe_int) pe_int (nomark _)) (pss_cons (ps_set (i := 9) sc_law_tree_by.nd rfl (Or.inl rfl) (pe_slice sl_str (pv 5) po_none (po_some (pe_op op_fdivW (pe_op op_mul (pe_callB call_len rfl T.b_len bb_len (pa_cons (pv 8) pa_nil)) pe_int) pe_int)))) (pss_one (ps_set (i := 8) sc_law_tree_by.nd rfl (Or.inl rfl) (pe_op op_add_str (pv 9) (pe_slice sl_str (pv 8) (po_some (pe_callB call_len rfl T.b_len bb_len (pa_cons (pv 9) pa_nil))) po_none))))) pss_nil)) (pss_cons (ps_set (i := 4) sc_law_tree_by.nd rfl (Or.inl rfl) (pe_callF C__law_painted q hr (pa_cons (pv 4) (pa_cons (pv 8) (pa_cons (pe_callF C__law_colour_by q hr (pa_cons (pv 0) (pa_cons (pv 7) (pa_cons (pe_op op_add (pe_op op_mul pe_int (pv 6)) pe_int) pa_nil)))) pa_nil))))) (pss_one (ps_set (i := 5) sc_law_tree_by.nd rfl (Or.inl rfl) (pv 8)))))))) (pss_one (ps_ret (pv 4))))))), ?_⟩
  refine ⟨_, rfl, _, rfl, _, rfl, a, ns, first, rfl, hS, h63, a, ns, cell ns first, 7, rfl, hS, h63, by omega, fun i0 h0 h1 => ?_⟩
  refine ⟨_, rfl, a, ns, 4, rfl, hS, h63, _, rfl, cell ns 4, 0, level, rfl, by omega, hlv, fun zl hzl llz => ?_⟩
  refine ⟨fun σ H2 => H2 = H ∧ ∃ mm : Nat, mm ≤ 12 ∧ σ = [some (.ref a), some (.int first), some (.int level), some (.int (mm : Int)), some (.int i0), some (.str zl), none, none, none, none], ?_, ?_⟩
  · refine ⟨_, rfl, _, _, rfl, rfl, _, rfl, ite2 (fun c => ?_) (fun c => ⟨rfl, many, hmany, rfl⟩)⟩
    obtain ⟨mm, hmm, em⟩ : ∃ mm : Nat, mm ≤ 12 ∧ (if (3 - if decide ((level : Int) > 12) = true then (1 : Int) else 0) < (many : Int) then (3 - if decide ((level : Int) > 12) = true then (1 : Int) else 0) else (many : Int)) = (mm : Int) := by
      by_cases h1 : (level : Int) > 12
      · rw [decide_eq_true h1]
        refine ⟨min 2 many, by omega, ?_⟩
        simp only [if_true]
        split <;> omega
      · rw [decide_eq_false h1]
        refine ⟨min 3 many, by omega, ?_⟩
        simp only [Bool.false_eq_true, if_false]
        split <;> omega
    exact ⟨_, rfl, _, rfl, _, _, rfl, rfl, .inr ⟨_, rfl, _, _, rfl, rfl, _, _, rfl, rfl, mm, hmm, by rw [← em]; rfl⟩⟩
  rintro σ H2 ⟨rfl, mm, hmm, rfl⟩
  refine ⟨_, rfl, _, rfl, by omega, by omega, for_range (fun j σ H3 => Same H2 H3 ∧ ∃ (v : V) (t : Tr) (z : Str) (o6 o7 o8 o9 : Option V), TrAt H3 v t ∧ Good level t ∧ cnt t ≤ 1 + 121 * j ∧ IsC z ∧ z.length ≤ level ∧
      σ = [some (.ref a), some (.int first), some (.int level), some (.int (mm : Int)), some v, some (.str z), o6, o7, o8, o9]) ⟨Same.refl H2, .int i0, .col i0, zl, none, none, none, none, .col i0, Good.col ⟨h0, h1⟩, by show 1 ≤ 1 + 121 * 0; omega, hzl, llz, rfl⟩ ?_ ?_⟩
  · rintro j σ H3 hj ⟨s2, v, t, z, o6, o7, o8, o9, ht, gt, ct, hz, lz, rfl⟩
    have hj' : j < mm := by omega
    have hS2 := s2.seq hS
    have e0 : (0 : Int) + (j : Int) = (j : Int) := Int.zero_add _
    rw [e0]
    refine ⟨_, rfl, _, rfl, _, rfl, _, _, rfl, rfl, a, ns, first + j, rfl, hS2, h63, ?_⟩
    refine ⟨_, rfl, _, rfl, _, _, rfl, rfl, .inl ⟨by decide, by decide⟩, _, rfl, cell ns (first + j), 10 * j, level, rfl, by omega, hlv, fun z2 hz2 lz2 => ?_⟩
    refine ⟨fun σ H4 => H4 = H3 ∧ ∃ (z3 : Str) (o9 : Option V), IsC z3 ∧ z3.length ≤ level ∧ σ = [some (.ref a), some (.int first), some (.int level), some (.int (mm : Int)), some v, some (.str z), some (.int (j : Int)), some (.int (cell ns (first + j))), some (.str z3), o9], ?_, ?_⟩
    · refine ⟨_, rfl, _, rfl, _, _, rfl, rfl, .inl ⟨by decide, by decide⟩, _, _, rfl, rfl, cell ns (first + j), 10 * j + 9, rfl, by omega, fun m hm => ⟨_, _, rfl, rfl, (by show (0 : Int) < 2; decide), rfl, _, rfl, ite2 (fun c2 => ?_) (fun c2 => ⟨rfl, z2, _, hz2, lz2, rfl⟩)⟩⟩
      refine ⟨_, rfl, _, rfl, _, _, rfl, ⟨small (by omega), rfl⟩, _, _, rfl, rfl, .inr ⟨by decide, by decide⟩, _, _, rfl, rfl, cdivW (by decide) (by decide), _, rfl, z, rfl, small (by omega), ?_⟩
      have ek : (z2.length : Int) * 3 / 4 = ((z2.length * 3 / 4 : Nat) : Int) := by omega
      have es : Txt.slice z none (some ((z2.length : Int) * 3 / 4)) = pre z (z2.length * 3 / 4) := by rw [ek, slice_pre]
      have lp := pre_len z (z2.length * 3 / 4)
      have lp2 : (pre z (z2.length * 3 / 4)).length ≤ z2.length := by omega
      have hp := pre_isC hz (z2.length * 3 / 4)
      dsimp only
      rw [es]
      generalize pre z (z2.length * 3 / 4) = zp at *
      have ls := suf_len z2 zp.length
      refine ⟨_, rfl, _, rfl, _, rfl, _, _, rfl, ⟨small (by omega), rfl⟩, _, rfl, z2, rfl, small (by omega), ?_⟩
      rw [slice_suf lp2]
      exact ⟨_, _, rfl, rfl, small (by omega), rfl, zp ++ suf z2 zp.length, _, IsC.app hp (suf_isC hz2 zp.length), by rw [app_len]; omega, rfl⟩
    rintro σ H4 ⟨rfl, z3, o9, hz3, lz3, rfl⟩
    refine ⟨_, rfl, _, rfl, _, rfl, _, rfl, _, rfl, _, _, rfl, rfl, .inl ⟨by decide, by decide⟩, _, _, rfl, rfl, a, ns, cell ns (first + j), 10 * j + 8, rfl, hS2, h63, by omega, fun i hi0 hi1 => ?_⟩
    refine ⟨v, i, t, z3, rfl, ht, hz3, by omega, by decide, by have := gt.deep; omega, fun v' H5 s3 hv' => ?_⟩
    have l3 : (dig z3).length ≤ level := by rw [dig_len]; exact lz3
    have c3 := cnt_plant (dig z3) t (.col i) (dig_lt hz3)
    have c1 : cnt (.col i) = 1 := rfl
    exact ⟨_, rfl, s2.trans s3, v', plant t (dig z3) (.col i), z3, _, _, _, _, hv', good_plant l3 gt (Good.col ⟨hi0, hi1⟩), by omega, hz3, lz3, rfl⟩
  · rintro σ H3 ⟨s2, v, t, z, o6, o7, o8, o9, ht, gt, ct, hz, lz, rfl⟩
    exact ⟨_, rfl, q' v t H3 s2 ht gt (by omega)⟩
end
end Qs


namespace Qs
open PySem L2
theorem ne_int {i j : Int} (h : i ≠ j) : ¬ (V.int i = V.int j) := fun e => h (by injection e)
theorem cp30 : CPow 10 30 := ⟨by decide, by decide, by decide⟩

def NumV (K : PySem.W.Frag) (H : Hp) (x : V) : Prop := (∃ i, x = .int i) ∨ NoInt K H x
theorem NumV.up {K : PySem.W.Frag} {H H' : Hp} {x : V} (h : NumV K H x) (s : Same H H') : NumV K H' x := h.imp id fun b => b.up s
theorem NumV.bad {K : PySem.W.Frag} {H : Hp} {x : V} (m : Int) (h : NumV K H x) : (∃ i, x = .int i ∧ (0 ≤ i ∧ i ≤ m)) ∨ BadI K H m x := by
  rcases h with ⟨i, rfl⟩ | h
  · by_cases hi : 0 ≤ i ∧ i ≤ m
    · exact .inl ⟨i, rfl, hi⟩
    · exact .inr (.inl ⟨i, rfl, hi⟩)
  · exact .inr (.inr h)

def ThingS (K : PySem.W.Frag) (H : Hp) (x : V) : Prop := (∃ z, x = .str z ∧ z.length ≤ 200) ∨ (∃ ty, TyOf K H x ty ∧ PySem.W.kitOne K ty (.type "str") = some false)
theorem ThingS.up {K : PySem.W.Frag} {H H' : Hp} {x : V} (h : ThingS K H x) (s : Same H H') : ThingS K H' x := h.imp id fun ⟨ty, h1, h2⟩ => ⟨ty, TyOf.up s h1, h2⟩
theorem ThingS.code {K : PySem.W.Frag} {H : Hp} {x : V} (n : Nat) (h : ThingS K H x) : (∃ z, GoodC n x z) ∨ BadC K H n x := by
  rcases h with ⟨z, rfl, lz⟩ | h
  · rcases Classical.em (IsC z ∧ z.length ≤ n) with hz | hz
    · exact .inl ⟨z, rfl, hz⟩
    · exact .inr (.inl ⟨z, rfl, by omega, hz⟩)
  · exact .inr (.inr h)

def ClP (K : PySem.W.Frag) (H : Hp) (which n m : Nat) (x wd c : V) (word : Str) (k : Nat) : Prop :=
  (which = 0 ∧ ((∃ z, GoodC n x z ∧ word = "" ∧ k = n - z.length) ∨ (BadC K H n x ∧ word = "code"))) ∨
  (which = 1 ∧ ((∃ z, GoodC n x z ∧ m = n - z.length ∧ word = "" ∧ k = n) ∨ (∃ z, GoodC n x z ∧ m ≠ n - z.length ∧ word = "level") ∨ (BadC K H n x ∧ word = "code"))) ∨
  (which = 2 ∧ (((6 < n ∨ (n ≤ 6 ∧ BadI K H 6 wd)) ∧ word = "level") ∨ (n ≤ 6 ∧ wd = .int (k : Int) ∧ k ≤ 6 ∧ ((BadI K H 35 c ∧ word = "colour") ∨ (∃ i : Int, c = .int i ∧ (0 ≤ i ∧ i ≤ 35) ∧ word = ""))))) ∨
  (which = 3 ∧ (((6 < n ∨ 6 < m) ∧ word = "level") ∨ (n ≤ 6 ∧ m ≤ 6 ∧ word = "" ∧ k = m)))
theorem ClP.up {K : PySem.W.Frag} {H H' : Hp} {which n m : Nat} {x wd c : V} {word : Str} {k : Nat} (h : ClP K H which n m x wd c word k) (s : Same H H') : ClP K H' which n m x wd c word k := by
  rcases h with ⟨e, h | ⟨b, h⟩⟩ | ⟨e, h | h | ⟨b, h⟩⟩ | ⟨e, ⟨h | ⟨h6, b⟩, h⟩ | ⟨h6, h7, h8, ⟨b, h⟩ | h⟩⟩ | h
  · exact .inl ⟨e, .inl h⟩
  · exact .inl ⟨e, .inr ⟨b.up s, h⟩⟩
  · exact .inr (.inl ⟨e, .inl h⟩)
  · exact .inr (.inl ⟨e, .inr (.inl h)⟩)
  · exact .inr (.inl ⟨e, .inr (.inr ⟨b.up s, h⟩)⟩)
  · rename_i hw
    exact .inr (.inr (.inl ⟨e, .inl ⟨.inl h, hw⟩⟩))
  · exact .inr (.inr (.inl ⟨e, .inl ⟨.inr ⟨h6, b.up s⟩, h⟩⟩))
  · exact .inr (.inr (.inl ⟨e, .inr ⟨h6, h7, h8, .inl ⟨b.up s, h⟩⟩⟩))
  · exact .inr (.inr (.inl ⟨e, .inr ⟨h6, h7, h8, .inr h⟩⟩))
  · exact .inr (.inr (.inr h))
theorem sB_of {z : Str} (h : IsC z) {i : Nat} (hi : i < z.length) : sB (z.cps.getD i 0) = true := by
  unfold sB
  rw [decide_eq_true_eq, q_mem]
  exact sgn_in h hi
theorem isC_of {z : Str} (h : ∀ j, j < z.length → sB (z.cps.getD j 0) = true) : IsC z := fun c hc => by
  obtain ⟨i, hi, e⟩ := List.mem_iff_getElem.mp hc
  have hi' : i < z.length := by rw [len_eq]; exact hi
  have := h i hi'
  unfold sB at this
  rw [decide_eq_true_eq, q_mem] at this
  have e2 : z.cps.getD i 0 = c := by
    have hi2 : i < z.cps.size := hi'
    rw [← e]; simp [Array.getD_eq_getD_getElem?, hi2]
  rw [e2] at this; exact this
theorem at16 {k : Nat} (h : k < 16) : ∃ c, atI ("4567890-+ abAB.~" : Str).cps.toList (k : Int) = some c := by
  have e : ("4567890-+ abAB.~" : Str).cps.toList.length = 16 := by decide +kernel
  exact ⟨_, atI_nat (List.getElem?_eq_getElem (by rw [e]; exact h))⟩
section
variable {P : Program} {w : World} {K : PySem.W.Frag} {mg : Str → Option Value} {base : Heap} {CX : CXT} {f : Addr} {fd : FuncData}
abbrev s_law_is_colour : Stmt := top 49
theorem sc_law_is_colour : FnScope ["_law_found"] ["_law_found"] (defScope s_law_is_colour) := ⟨rfl, rfl, rfl, by decide +kernel, rfl, by decide +kernel, by decide +kernel⟩
theorem ok_law_is_colour (T : Tx K mg) (F : FunD K "_law_is_colour" "_law_is_colour" s_law_is_colour f fd .none) : FnOk P w K mg base CX 1 f fd ["_law_found"] (gsp_upto K 35) := by
  refine F.ok sc_law_is_colour (fun vs H Q E h => ?_) (fun cdv A outer s H vs Q E hr h => ?_)
  · obtain ⟨_, rfl, _⟩ := h
    rfl
  obtain ⟨x, rfl, h⟩ := h
  refine ⟨_, (pss_one (ps_ret (pe_and (pe_callB (call_isiT "int") rfl T.b_isinstance bb_isinstance (pa_cons (pv 0) (pa_cons (pe_bty T.b_int bt_int) pa_nil))) (pe_and (pe_not (pe_callB (call_isiT "bool") rfl T.b_isinstance bb_isinstance (pa_cons (pv 0) (pa_cons (pe_bty T.b_bool bt_bool) pa_nil)))) (pe_one (pe_chain op_le op_le pe_int (pv 0) pe_int)))))), ?_⟩
  rcases h with ⟨i, rfl, h⟩ | ⟨⟨b, rfl⟩ | ⟨t, ty, hk⟩, h⟩
  · refine ⟨_, rfl, _, _, _, rfl, .int i, kit_ii, _, rfl, iteT ?_⟩
    refine ⟨_, rfl, _, _, _, rfl, .int i, kit_ib, _, rfl, _, rfl, iteT ?_⟩
    refine ⟨_, rfl, _, _, rfl, rfl, _, rfl, ite2 (fun c => ?_) (fun c => ?_)⟩
    · have c' : (0 : Int) ≤ i := of_decide_eq_true c
      refine ⟨_, _, rfl, rfl, ?_⟩
      show Q (.bl (decide (i ≤ 35))) H
      have e : decide (i ≤ 35) = decide (0 ≤ i ∧ i ≤ 35) := decide_eq_decide.mpr ⟨fun z => ⟨c', z⟩, fun z => z.2⟩
      rw [e]; exact h
    · have e : decide (0 ≤ i ∧ i ≤ 35) = false := decide_eq_false fun z => c (decide_eq_true z.1)
      rw [e] at h; exact h
  · exact ⟨_, rfl, _, _, _, rfl, .bl b, kit_bi, _, rfl, iteT ⟨_, rfl, _, _, _, rfl, .bl b, kit_bb, _, rfl, _, rfl, iteF h⟩⟩
  · exact ⟨_, rfl, _, _, _, rfl, ty, hk, _, rfl, iteF h⟩
def sp_law_is_colour : Sp := fun vs H Q _ => ∃ i : Int, vs = [.int i] ∧ 0 ≤ i ∧ i ≤ 35 ∧ Q (.bl true) H
theorem is_colour_weak (C : Fok P w K mg base CX 1 "_law_is_colour" ["_law_found"] [] (gsp_upto K 35)) : Fok P w K mg base CX 1 "_law_is_colour" ["_law_found"] [] sp_law_is_colour := Qs.Fok.imp C fun vs H Q E ⟨i, e, h0, h1, q'⟩ => ⟨.int i, e, .inl ⟨i, rfl, by rw [decide_eq_true ⟨h0, h1⟩]; exact q'⟩⟩
abbrev s_law_good : Stmt := top 50
theorem sc_law_good : FnScope ["_law_tree", "_law_level_here", "_law_quarter"] ["_law_tree", "_law_level_here"] (defScope s_law_good) := ⟨rfl, rfl, rfl, by decide +kernel, rfl, by decide +kernel, by decide +kernel⟩
def sp_law_good (m : Nat) : Sp := fun vs H Q _ => ∃ (v : V) (t : Tr) (k : Nat), vs = [v, .int k] ∧ TrAt H v t ∧ Good k t ∧ k ≤ m ∧ m ≤ 40 ∧ ∀ H', Same H H' → Q (.bl true) H'
theorem ok_law_good (T : Tx K mg) (q : Quiet CX) (F : FunD K "_law_good" "_law_good" s_law_good f fd .none) (C__law_is_colour : Fok P w K mg base CX 1 "_law_is_colour" ["_law_found"] [] sp_law_is_colour) (b : Binds K fd ["_law_tree", "_law_level_here"] []) (m : mg "_law_good" = some (.ref f)) :
    ∀ n, FnOk P w K mg base CX (2 + n) f fd ["_law_tree", "_law_level_here"] (sp_law_good n)
  | 0 => by
    have C__law_good := fokF (P := P) (w := w) (base := base) (CX := CX) F b m
    refine F.ok sc_law_good (fun vs H Q E h => ?_) (fun cdv A outer s H vs Q E hr h => ?_)
    · obtain ⟨_, _, _, rfl, _⟩ := h
      rfl
    obtain ⟨v, t, k, rfl, ht, gt, hk, hm, q'⟩ := h
    refine ⟨_, (pss_cons (ps_if (pt_not (pt_val (pe_callB (call_isiT "tuple") rfl T.b_isinstance bb_isinstance (pa_cons (pv 0) (pa_cons (pe_bty T.b_tuple bt_tuple) pa_nil))))) (pss_one (ps_ret (pe_callF C__law_is_colour q hr (pa_cons (pv 0) pa_nil) (hj := by first | decide | omega | (simp only [Nat.add_eq]; omega))))) pss_nil) (pss_cons (ps_if (PW.pt (pw_or (pt_cmpR op_eq (pv 1) pe_int (nomark _)) (pw_or1 (pt_cmpR op_ne (pe_callB call_len rfl T.b_len bb_len (pa_cons (pv 0) pa_nil)) pe_int (nomark _))))) (pss_one (ps_ret pe_bl)) pss_nil) (pss_cons (ps_for PassesOwn.never rfl (pi_tup (pv 0)) (pg_name (i := 2) sc_law_good.nd rfl (Or.inl rfl)) (pss_one (ps_if (pt_not (pt_val (pe_callF C__law_good q hr (pa_cons (pv 2) (pa_cons (pe_op op_sub (pv 1) pe_int) pa_nil)) (hj := by first | decide | omega | (simp only [Nat.add_eq]; omega))))) (pss_one (ps_ret pe_bl)) pss_nil))) (pss_one (ps_ret (pe_or (pe_callB (call_isiT "tuple") rfl T.b_isinstance bb_isinstance (pa_cons (pe_ix ix_tup (pv 0) pe_int (fun _ _ => rfl)) (pa_cons (pe_bty T.b_tuple bt_tuple) pa_nil))) (pe_one (pe_cmpR (op_neD hr) (pe_callTy call_list_of rfl T.b_list bt_list (pa_cons (pv 0) pa_nil)) (pe_op op_rep (pe_lstx (pax_c (pe_ix ix_tup (pv 0) pe_int (fun _ _ => rfl)) pax_nil)) pe_int) (nomark _))))))))), ?_⟩
    have k0 : k = 0 := Nat.le_zero.mp hk
    subst k0
    cases ht with
    | four e => exact gt.elim
    | col i =>
      have g2 : 0 ≤ i ∧ i ≤ 35 := gt
      exact ⟨_, rfl, _, _, _, rfl, .int i, kit_it, _, rfl, iteT ⟨_, rfl, i, rfl, g2.1, g2.2, q' H (Same.refl H)⟩⟩
  | n + 1 => by
    have C__law_good : Fok P w K mg base CX (2 + n) "_law_good" ["_law_tree", "_law_level_here"] [] (sp_law_good n) := fok F (ok_law_good T q F C__law_is_colour b m n) b m
    refine F.ok sc_law_good (fun vs H Q E h => ?_) (fun cdv A outer s H vs Q E hr h => ?_)
    · obtain ⟨_, _, _, rfl, _⟩ := h
      rfl
    obtain ⟨v, t, k, rfl, ht, gt, hk, hm, q'⟩ := h
    refine ⟨_, (pss_cons (ps_if (pt_not (pt_val (pe_callB (call_isiT "tuple") rfl T.b_isinstance bb_isinstance (pa_cons (pv 0) (pa_cons (pe_bty T.b_tuple bt_tuple) pa_nil))))) (pss_one (ps_ret (pe_callF C__law_is_colour q hr (pa_cons (pv 0) pa_nil) (hj := by first | decide | omega | (simp only [Nat.add_eq]; omega))))) pss_nil) (pss_cons (ps_if (PW.pt (pw_or (pt_cmpR op_eq (pv 1) pe_int (nomark _)) (pw_or1 (pt_cmpR op_ne (pe_callB call_len rfl T.b_len bb_len (pa_cons (pv 0) pa_nil)) pe_int (nomark _))))) (pss_one (ps_ret pe_bl)) pss_nil) (pss_cons (ps_for PassesOwn.never rfl (pi_tup (pv 0)) (pg_name (i := 2) sc_law_good.nd rfl (Or.inl rfl)) (pss_one (ps_if (pt_not (pt_val (pe_callF C__law_good q hr (pa_cons (pv 2) (pa_cons (pe_op op_sub (pv 1) pe_int) pa_nil)) (hj := by first | decide | omega | (simp only [Nat.add_eq]; omega))))) (pss_one (ps_ret pe_bl)) pss_nil))) (pss_one (ps_ret (pe_or (pe_callB (call_isiT "tuple") rfl T.b_isinstance bb_isinstance (pa_cons (pe_ix ix_tup (pv 0) pe_int (fun _ _ => rfl)) (pa_cons (pe_bty T.b_tuple bt_tuple) pa_nil))) (pe_one (pe_cmpR (op_neD hr) (pe_callTy call_list_of rfl T.b_list bt_list (pa_cons (pv 0) pa_nil)) (pe_op op_rep (pe_lstx (pax_c (pe_ix ix_tup (pv 0) pe_int (fun _ _ => rfl)) pax_nil)) pe_int) (nomark _))))))))), ?_⟩
    cases ht with
    | col i =>
      have g2 : 0 ≤ i ∧ i ≤ 35 := by cases k <;> exact gt
      exact ⟨_, rfl, _, _, _, rfl, .int i, kit_it, _, rfl, iteT ⟨_, rfl, i, rfl, g2.1, g2.2, q' H (Same.refl H)⟩⟩
    | @four p xa xb xc xd ta tb tc td e ja jb jc jd =>
      rcases k with _ | k
      · exact gt.elim
      obtain ⟨ga, gb, gc, gd, ho⟩ := gt
      have da := ga.deep
      have db := gb.deep
      have dc := gc.deep
      have dd := gd.deep
      refine ⟨_, rfl, _, _, _, rfl, .tup e, kit_tt, _, rfl, iteF ?_⟩
      refine ⟨_, rfl, rfl, _, rfl, ite2 (fun c => ?_) (fun _ => ?_)⟩
      · have c' : V.int ((k + 1 : Nat) : Int) = V.int 0 := of_decide_eq_true c
        have c2 : ((k + 1 : Nat) : Int) = 0 := by injection c'
        omega
      refine ⟨_, rfl, _, _, rfl, .inr ⟨_, SqT.of e, rfl⟩, rfl, _, rfl, iteNS rfl ?_⟩
      refine ⟨_, rfl, p, rfl, ⟨_, SqT.of e⟩, for_tup (xs := [xa, xb, xc, xd]) (fun i σ H2 => Same H H2 ∧ ∃ o2 : Option V, σ = [some (.ref p), some (.int ((k + 1 : Nat) : Int)), o2]) ⟨Same.refl H, none, rfl⟩ (fun i σ H2 _ h => SqT.of (h.1 _ _ e)) ?_ ?_⟩
      · rintro i x σ H2 hx ⟨s2, o2, rfl⟩
        have key : ∃ tx, TrAt H x tx ∧ Good k tx := by
          rcases at4 hx with ⟨rfl, rfl⟩ | ⟨rfl, rfl⟩ | ⟨rfl, rfl⟩ | ⟨rfl, rfl⟩
          · exact ⟨_, ja, ga⟩
          · exact ⟨_, jb, gb⟩
          · exact ⟨_, jc, gc⟩
          · exact ⟨_, jd, gd⟩
        obtain ⟨tx, kx, gx⟩ := key
        refine ⟨_, rfl, _, rfl, _, _, rfl, rfl, x, tx, k, ?_, kx.up s2.tups, gx, by omega, by omega, fun H3 s3 => ⟨_, rfl, iteF ⟨s2.trans s3, _, rfl⟩⟩⟩
        have ek : ((k + 1 : Nat) : Int) - 1 = (k : Int) := by omega
        show [x, V.int (((k + 1 : Nat) : Int) - 1)] = _
        rw [ek]
      · rintro σ H2 ⟨s2, o2, rfl⟩
        have e2 := s2 _ _ e
        have la := ja.up s2.tups
        have lb := jb.up s2.tups
        have lc := jc.up s2.tups
        have ld := jd.up s2.tups
        cases hta : ta.isCol with
        | false =>
          have ty := la.ty (K := K)
          rw [hta] at ty
          exact ⟨_, rfl, p, _, _, xa, rfl, rfl, SqT.of e2, rfl, _, _, _, rfl, ty, kit_tt, _, rfl, iteT (q' H2 s2)⟩
        | true =>
          have ty := la.ty (K := K)
          rw [hta] at ty
          refine ⟨_, rfl, p, _, _, xa, rfl, rfl, SqT.of e2, rfl, _, _, _, rfl, ty, kit_it, _, rfl, iteF ?_⟩
          refine ⟨_, rfl, p, _, rfl, .inr (SqT.of e2), fun l hl => ?_⟩
          have s3 := Same.new hl (.lst [xa, xb, xc, xd])
          have u3 : upd H2 l (.lst [xa, xb, xc, xd]) l = some (.lst [xa, xb, xc, xd]) := upd_same
          generalize upd H2 l (.lst [xa, xb, xc, xd]) = H3 at *
          refine ⟨_, rfl, p, _, _, xa, rfl, rfl, SqT.of (s3 _ _ e2), rfl, (by show 1 ≤ sizeLine; decide), fun m hm1 => ?_⟩
          refine ⟨m, 4, _, rfl, rfl, upd_same, by decide, by decide, (by show 4 ≤ sizeLine; decide), fun m2 hm2 => ?_⟩
          have er : (List.replicate (4 : Int).toNat [xa]).flatten = [xa, xa, xa, xa] := rfl
          rw [er]
          have sy := (Same.new hm1 (.lst [xa])).trans (Same.new hm2 (.lst [xa, xa, xa, xa]))
          have um : upd (upd H3 m (.lst [xa])) m2 (.lst [xa, xa, xa, xa]) m2 = some (.lst [xa, xa, xa, xa]) := upd_same
          generalize upd (upd H3 m (.lst [xa])) m2 (.lst [xa, xa, xa, xa]) = H5 at *
          have s5 := (s3.trans sy).tups
          have ka := la.up s5
          refine ⟨_, _, .lst (sy _ _ u3) (.cons ka.dat (.cons (lb.up s5).dat (.cons (lc.up s5).dat (.cons (ld.up s5).dat .nil)))), .lst um (.cons ka.dat (.cons ka.dat (.cons ka.dat (.cons ka.dat .nil)))), shaped4 (by omega) (by omega) (by omega) (by omega), shaped4 (by omega) (by omega) (by omega) (by omega), ?_⟩
          have ev : PyData.eqv (.list [ta.data, tb.data, tc.data, td.data]) (.list [ta.data, ta.data, ta.data, ta.data]) = false := by
            rw [eqv4]
            refine decide_eq_false fun z => ?_
            have := oneB_iff.mpr ⟨hta, z.2.1, z.2.2.1, z.2.2.2⟩
            rw [ho] at this
            cases this
          rw [ev]
          exact q' _ (s2.trans (s3.trans sy))
abbrev s_law_is_sheet : Stmt := top 51
theorem sc_law_is_sheet : FnScope ["_law_found", "_law_level_here"] ["_law_found", "_law_level_here"] (defScope s_law_is_sheet) := ⟨rfl, rfl, rfl, by decide +kernel, rfl, by decide +kernel, by decide +kernel⟩
def sp_law_is_sheet : Sp := fun vs H Q _ => ∃ (v : V) (n : Nat) (t : Tr), vs = [v, .int n] ∧ ShAt H v n t ∧ Good n t ∧ n ≤ 40 ∧ ∀ H', Same H H' → Q (.bl true) H'
theorem ok_law_is_sheet (T : Tx K mg) (q : Quiet CX) (F : FunD K "_law_is_sheet" "_law_is_sheet" s_law_is_sheet f fd .none) (C__law_good : Fok P w K mg base CX 42 "_law_good" ["_law_tree", "_law_level_here"] [] (sp_law_good 40)) : FnOk P w K mg base CX 43 f fd ["_law_found", "_law_level_here"] sp_law_is_sheet := by
  refine F.ok sc_law_is_sheet (fun vs H Q E h => ?_) (fun cdv A outer s H vs Q E hr h => ?_)
  · obtain ⟨_, _, _, rfl, _⟩ := h
    rfl
  obtain ⟨v, n, t, rfl, ⟨p, x, rfl, hp, hx⟩, gt, hn, q'⟩ := h
  refine ⟨_, (pss_cons (ps_if (PW.pt (pw_or (pt_not (pt_val (pe_callB (call_isiT "tuple") rfl T.b_isinstance bb_isinstance (pa_cons (pv 0) (pa_cons (pe_bty T.b_tuple bt_tuple) pa_nil))))) (pw_or1 (pt_cmpR op_ne (pe_callB call_len rfl T.b_len bb_len (pa_cons (pv 0) pa_nil)) pe_int (nomark _))))) (pss_one (ps_ret pe_bl)) pss_nil) (pss_cons (ps_if (PW.pt (pw_or (pt_not (pt_val (pe_callB (call_isiT "int") rfl T.b_isinstance bb_isinstance (pa_cons (pe_ix ix_tup (pv 0) pe_int (fun _ _ => rfl)) (pa_cons (pe_bty T.b_int bt_int) pa_nil))))) (pw_or (pt_val (pe_callB (call_isiT "bool") rfl T.b_isinstance bb_isinstance (pa_cons (pe_ix ix_tup (pv 0) pe_int (fun _ _ => rfl)) (pa_cons (pe_bty T.b_bool bt_bool) pa_nil)))) (pw_or1 (pt_cmpR op_ne (pe_ix ix_tup (pv 0) pe_int (fun _ _ => rfl)) (pv 1) (nomark _)))))) (pss_one (ps_ret pe_bl)) pss_nil) (pss_one (ps_ret (pe_callF C__law_good q hr (pa_cons (pe_ix ix_tup (pv 0) pe_int (fun _ _ => rfl)) (pa_cons (pv 1) pa_nil))))))), ?_⟩
  refine ⟨_, rfl, _, _, _, rfl, .tup hp, kit_tt, _, rfl, iteF ?_⟩
  refine ⟨_, rfl, _, _, rfl, .inr ⟨_, SqT.of hp, rfl⟩, rfl, _, rfl, iteNS rfl ?_⟩
  refine ⟨_, rfl, p, _, _, _, rfl, rfl, SqT.of hp, rfl, _, _, _, rfl, .int n, kit_ii, _, rfl, iteF ?_⟩
  refine ⟨_, rfl, p, _, _, _, rfl, rfl, SqT.of hp, rfl, _, _, _, rfl, .int n, kit_ib, _, rfl, iteF ?_⟩
  refine ⟨_, rfl, p, _, _, _, rfl, rfl, SqT.of hp, rfl, _, rfl, rfl, _, rfl, iteNS rfl ?_⟩
  exact ⟨_, rfl, p, _, _, _, rfl, rfl, SqT.of hp, rfl, _, rfl, x, t, n, rfl, hx, gt, hn, by decide, q'⟩
abbrev s_law_odd_colour : Stmt := top 53
theorem sc_law_odd_colour : FnScope ["_law_cell"] ["_law_cell"] (defScope s_law_odd_colour) := ⟨rfl, rfl, rfl, by decide +kernel, rfl, by decide +kernel, by decide +kernel⟩
def sp_law_num (K : PySem.W.Frag) : Sp := fun vs H Q _ => ∃ c : Int, vs = [.int c] ∧ ∀ x H', Same H H' → NumV K H' x → Q x H'
theorem ok_law_odd_colour (T : Tx K mg) (F : FunD K "_law_odd_colour" "_law_odd_colour" s_law_odd_colour f fd .none) : FnOk P w K mg base CX 1 f fd ["_law_cell"] (sp_law_num K) := by
  refine F.oks sc_law_odd_colour (fun vs H Q E h => ?_) (fun cdv A outer s H vs Q E hr h => ?_)
  · obtain ⟨_, rfl, _⟩ := h
    rfl
  obtain ⟨c, rfl, q'⟩ := h
  refine ⟨_, (pssx_cons (psx_if (pt_cmpR op_eq (pe_op op_mod (pv 0) pe_int) pe_int (nomark _)) (pssx_one (psx_ret (pex_ix ix_list (pex_lst (pax_cx (PEx.mk (pe_un un_neg pe_int)) (pax_cx (PEx.mk pe_int) (pax_cx (PEx.mk pe_bl) (pax_cx (PEx.mk pe_bl) (pax_cx (PEx.mk pe_non) (pax_cx (PEx.mk pe_str) (pax_cx (PEx.mk pe_str) (pax_cx (pex_tup (pax_cx (PEx.mk pe_int) pax_nil)) pax_nil))))))))) (pe_op op_mod (pe_op op_fdivW (pv 0) pe_int) pe_int) (fun _ _ => rfl)))) pssx_nil) (pssx_cons (psx_if (pt_cmpR op_eq (pe_op op_mod (pv 0) pe_int) pe_int (nomark _)) (pssx_one (PSx.mk (ps_ret (pe_op op_add pe_int (pe_op op_mod (pe_op op_fdivW (pv 0) pe_int) (pe_op op_pow pe_int pe_int)))))) pssx_nil) (pssx_one (PSx.mk (ps_ret (pe_op op_sub (pe_un un_neg pe_int) (pe_op op_mod (pe_op op_fdivW (pv 0) pe_int) (pe_op op_pow pe_int pe_int)))))))), ?_⟩
  refine ⟨_, rfl, _, _, rfl, rfl, (by show (0 : Int) < 3; decide), rfl, _, rfl, ite2 (fun _ => ?_) (fun _ => ?_)⟩
  · refine ⟨_, rfl, (by show 1 ≤ sizeLine; decide), fun p1 g1 => ?_⟩
    generalize e1 : upd H p1 _ = A1
    have t1 : Same H A1 := e1 ▸ Same.new g1 _
    have u1 : ∃ xs, A1 p1 = some (.tup xs) := ⟨_, by rw [← e1]; exact upd_same⟩
    refine ⟨(by show 8 ≤ sizeLine; decide), fun l gl => ?_⟩
    generalize el : upd A1 l _ = B
    have tl : Same A1 B := el ▸ Same.new gl _
    have ul : B l = some (.lst [.int (-1), .int 36, .bl true, .bl false, .non, .str "1", .str "", .ref p1]) := by rw [← el]; exact upd_same
    obtain ⟨x1, u1⟩ := u1
    have pick : ∃ x, atI [V.int (-1), .int 36, .bl true, .bl false, .non, .str "1", .str "", .ref p1] (c / 3 % 8) = some x ∧ NumV K B x := by
      obtain ⟨k, hk, ek⟩ : ∃ k : Nat, k < 8 ∧ c / 3 % 8 = (k : Int) := ⟨(c / 3 % 8).toNat, by omega, by omega⟩
      rw [ek]
      rcases k with _ | _ | _ | _ | _ | _ | _ | _ | k
      · exact ⟨_, rfl, .inl ⟨_, rfl⟩⟩
      · exact ⟨_, rfl, .inl ⟨_, rfl⟩⟩
      · exact ⟨_, rfl, .inr (.inl ⟨_, rfl⟩)⟩
      · exact ⟨_, rfl, .inr (.inl ⟨_, rfl⟩)⟩
      · exact ⟨_, rfl, .inr (.inr ⟨_, .non, kit_ni⟩)⟩
      · exact ⟨_, rfl, .inr (.inr ⟨_, .str _, kit_si⟩)⟩
      · exact ⟨_, rfl, .inr (.inr ⟨_, .str _, kit_si⟩)⟩
      · exact ⟨_, rfl, .inr (.inr ⟨_, .tup (tl _ _ u1), kit_ti⟩)⟩
      · omega
    obtain ⟨x, hat, hx⟩ := pick
    exact ⟨_, rfl, _, _, rfl, rfl, cdivW (by decide) (by decide), _, _, rfl, rfl, (by show (0 : Int) < 8; decide), l, _, _, _, rfl, rfl, SqL.of ul, hat, q' _ B (t1.trans tl) hx⟩
  have p30 : (0 : Int) < 10 ^ (30 : Int).toNat := by decide +kernel
  refine ⟨_, rfl, _, _, rfl, rfl, (by show (0 : Int) < 3; decide), rfl, _, rfl, ite2 (fun _ => ?_) (fun _ => ?_)⟩
  · exact ⟨_, rfl, _, _, rfl, rfl, cdivW (by decide) (by decide), _, _, rfl, rfl, cp30, _, _, rfl, rfl, p30, _, _, rfl, rfl, q' _ H (Same.refl H) (.inl ⟨_, rfl⟩)⟩
  · exact ⟨_, rfl, _, rfl, _, _, rfl, rfl, cdivW (by decide) (by decide), _, _, rfl, rfl, cp30, _, _, rfl, rfl, p30, _, _, rfl, rfl, q' _ H (Same.refl H) (.inl ⟨_, rfl⟩)⟩
abbrev s_law_level : Stmt := top 54
theorem sc_law_level : FnScope ["_law_cell"] ["_law_cell"] (defScope s_law_level) := ⟨rfl, rfl, rfl, by decide +kernel, rfl, by decide +kernel, by decide +kernel⟩
def sp_law_level : Sp := fun vs H Q _ => ∃ c : Int, vs = [.int c] ∧ ∀ n : Nat, n ≤ 40 → Q (.int (n : Int)) H
theorem ok_law_level (T : Tx K mg) (F : FunD K "_law_level" "_law_level" s_law_level f fd .none) : FnOk P w K mg base CX 1 f fd ["_law_cell"] sp_law_level := by
  refine F.ok sc_law_level (fun vs H Q E h => ?_) (fun cdv A outer s H vs Q E hr h => ?_)
  · obtain ⟨_, rfl, _⟩ := h
    rfl
  obtain ⟨c, rfl, q'⟩ := h
  refine ⟨_, (pss_cons (ps_if (pt_cmpR op_eq (pe_op op_mod (pv 0) pe_int) pe_int (nomark _)) (pss_one (ps_ret (pe_op op_add pe_int (pe_op op_mod (pe_op op_fdivW (pv 0) pe_int) pe_int)))) pss_nil) (pss_one (ps_ret (pe_op op_mod (pe_op op_fdivW (pv 0) pe_int) pe_int)))), ?_⟩
  refine ⟨_, rfl, _, _, rfl, rfl, (by show (0 : Int) < 6; decide), rfl, _, rfl, ite2 (fun _ => ?_) (fun _ => ?_)⟩
  · refine ⟨_, rfl, _, _, rfl, rfl, cdivW (by decide) (by decide), _, _, rfl, rfl, (by show (0 : Int) < 32; decide), _, _, rfl, rfl, ?_⟩
    obtain ⟨n, hn, en⟩ : ∃ n : Nat, n ≤ 40 ∧ 9 + c / 6 % 32 = (n : Int) := ⟨(9 + c / 6 % 32).toNat, by omega, by omega⟩
    dsimp only
    rw [en]; exact q' n hn
  · refine ⟨_, rfl, _, _, rfl, rfl, cdivW (by decide) (by decide), _, _, rfl, rfl, (by show (0 : Int) < 9; decide), ?_⟩
    obtain ⟨n, hn, en⟩ : ∃ n : Nat, n ≤ 40 ∧ c / 6 % 9 = (n : Int) := ⟨(c / 6 % 9).toNat, by omega, by omega⟩
    dsimp only
    rw [en]; exact q' n hn
abbrev s_law_wide : Stmt := top 57
theorem sc_law_wide : FnScope ["_law_cell"] ["_law_cell"] (defScope s_law_wide) := ⟨rfl, rfl, rfl, by decide +kernel, rfl, by decide +kernel, by decide +kernel⟩
theorem ok_law_wide (T : Tx K mg) (F : FunD K "_law_wide" "_law_wide" s_law_wide f fd .none) : FnOk P w K mg base CX 1 f fd ["_law_cell"] (sp_law_num K) := by
  refine F.oks sc_law_wide (fun vs H Q E h => ?_) (fun cdv A outer s H vs Q E hr h => ?_)
  · obtain ⟨_, rfl, _⟩ := h
    rfl
  obtain ⟨c, rfl, q'⟩ := h
  refine ⟨_, (pssx_cons (psx_if (pt_cmpR op_eq (pe_op op_mod (pv 0) pe_int) pe_int (nomark _)) (pssx_one (PSx.mk (ps_ret (pe_op op_sub (pe_op op_mod (pe_op op_fdivW (pv 0) pe_int) (pe_op op_mul pe_int (pe_op op_pow pe_int pe_int))) (pe_op op_pow pe_int pe_int))))) pssx_nil) (pssx_cons (psx_if (pt_cmpR op_eq (pe_op op_mod (pv 0) pe_int) pe_int (nomark _)) (pssx_one (psx_ret (pex_ix ix_list (pex_lst (pax_k 5 rfl (pax_cx (pex_tup (pax_cx (PEx.mk pe_int) pax_nil)) (pax_cx (PEx.mk pe_int) (pax_cx (PEx.mk (pe_un un_neg pe_int)) pax_nil))))) (pe_op op_mod (pe_op op_fdivW (pv 0) pe_int) pe_int) (fun _ _ => rfl)))) pssx_nil) (pssx_one (PSx.mk (ps_ret (pe_op op_mod (pe_op op_fdivW (pv 0) pe_int) pe_int)))))), ?_⟩
  refine ⟨_, rfl, _, _, rfl, rfl, (by show (0 : Int) < 3; decide), rfl, _, rfl, ite2 (fun _ => ?_) (fun _ => ?_)⟩
  · exact ⟨_, rfl, _, _, rfl, rfl, cdivW (by decide) (by decide), _, _, rfl, rfl, cp30, _, _, rfl, rfl, .inl ⟨by decide, by decide⟩, _, _, rfl, rfl, (by show (0 : Int) < 2 * 10 ^ (30 : Int).toNat; decide +kernel), _, _, rfl, rfl, cp30, _, _, rfl, rfl, q' _ H (Same.refl H) (.inl ⟨_, rfl⟩)⟩
  refine ⟨_, rfl, _, _, rfl, rfl, (by show (0 : Int) < 3; decide), rfl, _, rfl, ite2 (fun _ => ?_) (fun _ => ?_)⟩
  · refine ⟨(by show 1 ≤ sizeLine; decide), fun p1 g1 => ?_⟩
    generalize e1 : upd H p1 _ = A1
    have t1 : Same H A1 := e1 ▸ Same.new g1 _
    have u1 : ∃ xs, A1 p1 = some (.tup xs) := ⟨_, by rw [← e1]; exact upd_same⟩
    refine ⟨_, rfl, (by show 8 ≤ sizeLine; decide), fun l gl => ?_⟩
    generalize el : upd A1 l _ = B
    have tl : Same A1 B := el ▸ Same.new gl _
    have ul : B l = some (.lst [.bl true, .bl false, .non, .str "3", .str "", .ref p1, .int 7, .int (-1)]) := by rw [← el]; exact upd_same
    obtain ⟨x1, u1⟩ := u1
    have pick : ∃ x, atI [V.bl true, .bl false, .non, .str "3", .str "", .ref p1, .int 7, .int (-1)] (c / 3 % 8) = some x ∧ NumV K B x := by
      obtain ⟨k, hk, ek⟩ : ∃ k : Nat, k < 8 ∧ c / 3 % 8 = (k : Int) := ⟨(c / 3 % 8).toNat, by omega, by omega⟩
      rw [ek]
      rcases k with _ | _ | _ | _ | _ | _ | _ | _ | k
      · exact ⟨_, rfl, .inr (.inl ⟨_, rfl⟩)⟩
      · exact ⟨_, rfl, .inr (.inl ⟨_, rfl⟩)⟩
      · exact ⟨_, rfl, .inr (.inr ⟨_, .non, kit_ni⟩)⟩
      · exact ⟨_, rfl, .inr (.inr ⟨_, .str _, kit_si⟩)⟩
      · exact ⟨_, rfl, .inr (.inr ⟨_, .str _, kit_si⟩)⟩
      · exact ⟨_, rfl, .inr (.inr ⟨_, .tup (tl _ _ u1), kit_ti⟩)⟩
      · exact ⟨_, rfl, .inl ⟨_, rfl⟩⟩
      · exact ⟨_, rfl, .inl ⟨_, rfl⟩⟩
      · omega
    obtain ⟨x, hat, hx⟩ := pick
    exact ⟨_, rfl, _, _, rfl, rfl, cdivW (by decide) (by decide), _, _, rfl, rfl, (by show (0 : Int) < 8; decide), l, _, _, _, rfl, rfl, SqL.of ul, hat, q' _ B (t1.trans tl) hx⟩
  · exact ⟨_, rfl, _, _, rfl, rfl, cdivW (by decide) (by decide), _, _, rfl, rfl, (by show (0 : Int) < 10; decide), q' _ H (Same.refl H) (.inl ⟨_, rfl⟩)⟩
abbrev s_law_thing : Stmt := top 55
theorem sc_law_thing : FnScope ["_law_cell", "_law_level_here", "_law_code", "_law_at_here"] ["_law_cell", "_law_level_here"] (defScope s_law_thing) := ⟨rfl, rfl, rfl, by decide +kernel, rfl, by decide +kernel, by decide +kernel⟩
def sp_law_thing (K : PySem.W.Frag) : Sp := fun vs H Q _ => ∃ (c : Int) (n : Nat), vs = [.int c, .int (n : Int)] ∧ n ≤ 40 ∧ ∀ x H', Same H H' → ThingS K H' x → Q x H'
theorem ok_law_thing (T : Tx K mg) (q : Quiet CX) (F : FunD K "_law_thing" "_law_thing" s_law_thing f fd .none) (C__law_code_by : Fok P w K mg base CX 2 "_law_code_by" ["_law_cell", "_law_k", "_law_most"] [] sp_law_code_by) : FnOk P w K mg base CX 3 f fd ["_law_cell", "_law_level_here"] (sp_law_thing K) := by
  refine F.oks sc_law_thing (fun vs H Q E h => ?_) (fun cdv A outer s H vs Q E hr h => ?_)
  · obtain ⟨_, _, rfl, _⟩ := h
    rfl
  obtain ⟨c, n, rfl, hn, q'⟩ := h
  refine ⟨_, (pssx_cons (PSx.mk (ps_set (i := 2) sc_law_thing.nd rfl (Or.inl rfl) (pe_callF C__law_code_by q hr (pa_cons (pe_op op_fdivW (pv 0) pe_int) (pa_cons pe_int (pa_cons (pv 1) pa_nil)))))) (pssx_cons (PSx.mk (ps_set (i := 3) sc_law_thing.nd rfl (Or.inl rfl) (pe_op op_mod (pe_op op_fdivW (pv 0) pe_int) (pe_op op_add (pe_callB call_len rfl T.b_len bb_len (pa_cons (pv 2) pa_nil)) pe_int)) (hs := swaps_of rfl))) (pssx_cons (psx_if (pt_cmpR op_eq (pe_op op_mod (pv 0) pe_int) pe_int (nomark _)) (pssx_one (PSx.mk (ps_ret (pe_op op_add_str (pe_op op_add_str (pe_slice sl_str (pv 2) po_none (po_some (pv 3))) (pe_ix ix_str pe_str (pe_op op_mod (pe_op op_fdivW (pv 0) pe_int) pe_int) (fun _ _ => rfl))) (pe_slice sl_str (pv 2) (po_some (pv 3)) po_none))))) pssx_nil) (pssx_cons (psx_if (pt_cmpR op_eq (pe_op op_mod (pv 0) pe_int) pe_int (nomark _)) (pssx_one (PSx.mk (ps_ret (pe_op op_add_str (pv 2) (pe_op op_mul_str (pe_ix ix_str pe_str (pe_op op_mod (pe_op op_fdivW (pv 0) pe_int) pe_int) (fun _ _ => rfl)) (pe_op op_sub (pe_op op_add (pe_op op_add (pv 1) pe_int) (pe_op op_mod (pe_op op_fdivW (pv 0) pe_int) pe_int)) (pe_callB call_len rfl T.b_len bb_len (pa_cons (pv 2) pa_nil)))))))) pssx_nil) (pssx_cons (psx_if (pt_cmpR op_eq (pe_op op_mod (pv 0) pe_int) pe_int (nomark _)) (pssx_one (psx_ret (pex_ix ix_list (pex_lst (pax_k 4 rfl (pax_cx (pex_tup (pax_cx (PEx.mk pe_str) pax_nil)) (pax_cx (pex_lst (pax_cx (PEx.mk pe_str) pax_nil)) (pax_cx (PEx.mk (pe_un un_neg pe_int)) pax_nil))))) (pe_op op_mod (pe_op op_fdivW (pv 0) pe_int) pe_int) (fun _ _ => rfl)))) pssx_nil) (pssx_one (PSx.mk (ps_ret (pv 2))))))))), ?_⟩
  refine ⟨_, rfl, _, _, rfl, rfl, cdivW (by decide) (by decide), _, rfl, c / 5, 3, n, rfl, by decide, hn, fun z hz lz => ?_⟩
  have zs : z.length ≤ sizeLine := small (by omega)
  have pI : (0 : Int) < (z.length : Int) + 1 := by omega
  refine ⟨_, rfl, _, _, rfl, rfl, cdivW (by decide) (by decide), _, rfl, _, _, rfl, ⟨zs, rfl⟩, _, _, rfl, rfl, _, _, rfl, rfl, pI, ?_⟩
  obtain ⟨kp, hkp, ekp⟩ : ∃ kp : Nat, kp ≤ z.length ∧ c / 35 % ((z.length : Int) + 1) = (kp : Int) := by
    have h1 := Int.emod_nonneg (c / 35) (show (z.length : Int) + 1 ≠ 0 by omega)
    have h2 := Int.emod_lt_of_pos (c / 35) pI
    exact ⟨(c / 35 % ((z.length : Int) + 1)).toNat, by omega, by omega⟩
  rw [show (fun i j : Int => V.int (i % j)) (c / 35) ((z.length : Int) + 1) = V.int (kp : Int) from congrArg V.int ekp]
  have lp := pre_len z kp
  have ls := suf_len z kp
  have fin : ∀ y : Str, y.length ≤ 200 → Q (.str y) H := fun y hy => q' _ H (Same.refl H) (.inl ⟨y, rfl, hy⟩)
  refine ⟨_, rfl, _, _, rfl, rfl, (by show (0 : Int) < 5; decide), rfl, _, rfl, ite2 (fun _ => ?_) (fun _ => ?_)⟩
  · obtain ⟨m, hm, em⟩ : ∃ m : Nat, m < 16 ∧ c / 5 % 16 = (m : Int) := ⟨(c / 5 % 16).toNat, by omega, by omega⟩
    obtain ⟨x, hx⟩ := at16 hm
    refine ⟨_, rfl, _, rfl, _, rfl, z, rfl, zs, _, rfl, _, _, rfl, rfl, cdivW (by decide) (by decide), _, _, rfl, rfl, (by show (0 : Int) < 16; decide), _, _, x, rfl, rfl, (by decide +kernel), by rw [em]; exact hx, ?_⟩
    rw [slice_pre]
    have l1 : (⟨#[x]⟩ : Str).length = 1 := rfl
    refine ⟨_, _, rfl, rfl, small (by rw [l1]; omega), _, rfl, _, rfl, _, rfl, z, rfl, zs, ?_⟩
    rw [slice_suf hkp]
    exact ⟨_, _, rfl, rfl, small (by rw [app_len, l1]; omega), fin _ (by rw [app_len, app_len, l1]; omega)⟩
  refine ⟨_, rfl, _, _, rfl, rfl, (by show (0 : Int) < 5; decide), rfl, _, rfl, ite2 (fun _ => ?_) (fun _ => ?_)⟩
  · obtain ⟨d, hd, ed⟩ := four_of (c / 5)
    obtain ⟨m, hm, em⟩ : ∃ m : Nat, m ≤ 43 ∧ (n : Int) + 1 + c / 20 % 3 - (z.length : Int) = (m : Int) := ⟨((n : Int) + 1 + c / 20 % 3 - (z.length : Int)).toNat, by omega, by omega⟩
    refine ⟨_, rfl, _, rfl, _, _, rfl, rfl, cdivW (by decide) (by decide), _, _, rfl, rfl, (by show (0 : Int) < 4; decide), _, _, 48 + d, rfl, rfl, q_len, by rw [ed]; exact at_q hd, _, rfl, _, _, rfl, rfl, _, rfl, _, _, rfl, rfl, cdivW (by decide) (by decide), _, _, rfl, rfl, (by show (0 : Int) < 3; decide), _, _, rfl, rfl, _, rfl, _, _, rfl, ⟨zs, rfl⟩, _, _, rfl, rfl, one d, (m : Int), rfl, congrArg V.int em, mul_ok (by show 1 ≤ 100; decide) (by omega), ?_⟩
    have lm := mul_len (one d) m
    have l1 : (one d).length = 1 := rfl
    rw [l1, Nat.mul_one] at lm
    exact ⟨_, _, rfl, rfl, small (by omega), fin _ (by rw [app_len]; omega)⟩
  refine ⟨_, rfl, _, _, rfl, rfl, (by show (0 : Int) < 5; decide), rfl, _, rfl, ite2 (fun _ => ?_) (fun _ => ?_)⟩
  · refine ⟨(by show 1 ≤ sizeLine; decide), fun p1 g1 => ?_⟩
    generalize e1 : upd H p1 _ = A1
    have t1 : Same H A1 := e1 ▸ Same.new g1 _
    have u1 : ∃ xs, A1 p1 = some (.tup xs) := ⟨_, by rw [← e1]; exact upd_same⟩
    refine ⟨(by show 1 ≤ sizeLine; decide), fun p2 g2 => ?_⟩
    generalize e2 : upd A1 p2 _ = A2
    have t2 : Same A1 A2 := e2 ▸ Same.new g2 _
    have u2 : ∃ xs, A2 p2 = some (.lst xs) := ⟨_, by rw [← e2]; exact upd_same⟩
    refine ⟨_, rfl, (by show 7 ≤ sizeLine; decide), fun p4 g4 => ?_⟩
    generalize e4 : upd A2 p4 _ = A4
    have t4 : Same A2 A4 := e4 ▸ Same.new g4 _
    have u4 : A4 p4 = some (.lst [.non, .int 0, .int 12, .bl true, .ref p1, .ref p2, .int (-1)]) := by rw [← e4]; exact upd_same
    obtain ⟨x1, u1⟩ := u1
    obtain ⟨x2, u2⟩ := u2
    have pick : ∃ x, atI [V.non, .int 0, .int 12, .bl true, .ref p1, .ref p2, .int (-1)] (c / 5 % 7) = some x ∧ ThingS K A4 x := by
      obtain ⟨k, hk, ek⟩ : ∃ k : Nat, k < 7 ∧ c / 5 % 7 = (k : Int) := ⟨(c / 5 % 7).toNat, by omega, by omega⟩
      rw [ek]
      rcases k with _ | _ | _ | _ | _ | _ | _ | k
      · exact ⟨_, rfl, .inr ⟨_, .non, kit_ns⟩⟩
      · exact ⟨_, rfl, .inr ⟨_, .int _, kit_is⟩⟩
      · exact ⟨_, rfl, .inr ⟨_, .int _, kit_is⟩⟩
      · exact ⟨_, rfl, .inr ⟨_, .bl _, kit_bs⟩⟩
      · exact ⟨_, rfl, .inr ⟨_, .tup ((t2.trans t4) _ _ u1), kit_ts⟩⟩
      · exact ⟨_, rfl, .inr ⟨_, .lst (t4 _ _ u2), kit_ls⟩⟩
      · exact ⟨_, rfl, .inr ⟨_, .int _, kit_is⟩⟩
      · omega
    obtain ⟨x, hat, hx⟩ := pick
    exact ⟨_, rfl, _, _, rfl, rfl, cdivW (by decide) (by decide), _, _, rfl, rfl, (by show (0 : Int) < 7; decide), p4, _, _, _, rfl, rfl, SqL.of u4, hat, q' _ A4 (t1.trans (t2.trans t4)) hx⟩
  exact ⟨_, rfl, fin z (by omega)⟩
abbrev s_law_is_code : Stmt := top 56
theorem sc_law_is_code : FnScope ["_law_thing_here", "_law_level_here", "_law_sign"] ["_law_thing_here", "_law_level_here"] (defScope s_law_is_code) := ⟨rfl, rfl, rfl, by decide +kernel, rfl, by decide +kernel, by decide +kernel⟩
def sp_law_is_code (K : PySem.W.Frag) : Sp := fun vs H Q _ => ∃ (x : V) (n : Nat), vs = [x, .int (n : Int)] ∧ n ≤ 40 ∧ (((∃ z, GoodC n x z) ∧ Q (.bl true) H) ∨ (BadC K H n x ∧ Q (.bl false) H))
theorem ok_law_is_code (T : Tx K mg) (F : FunD K "_law_is_code" "_law_is_code" s_law_is_code f fd .none) : FnOk P w K mg base CX 1 f fd ["_law_thing_here", "_law_level_here"] (sp_law_is_code K) := by
  refine F.ok sc_law_is_code (fun vs H Q E h => ?_) (fun cdv A outer s H vs Q E hr h => ?_)
  · obtain ⟨_, _, rfl, _⟩ := h
    rfl
  obtain ⟨x, n, rfl, hn, h⟩ := h
  refine ⟨_, (pss_cons (ps_if (PW.pt (pw_or (pt_not (pt_val (pe_callB (call_isiT "str") rfl T.b_isinstance bb_isinstance (pa_cons (pv 0) (pa_cons (pe_bty T.b_str bt_str) pa_nil))))) (pw_or1 (pt_cmpR op_gt (pe_callB call_len rfl T.b_len bb_len (pa_cons (pv 0) pa_nil)) (pv 1) (nomark _))))) (pss_one (ps_ret pe_bl)) pss_nil) (pss_cons (ps_for PassesOwn.never rfl (pi_str (pv 0)) (pg_name (i := 2) sc_law_is_code.nd rfl (Or.inl rfl)) (pss_one (ps_if (pt_cmpR op_notin_str (pv 2) pe_str (by with_unfolding_all rfl)) (pss_one (ps_ret pe_bl)) pss_nil))) (pss_one (ps_ret pe_bl)))), ?_⟩
  have hh : (∃ z, x = .str z ∧ z.length ≤ 1000 ∧ ∀ b : Bool, (b = true ↔ (IsC z ∧ z.length ≤ n)) → Q (.bl b) H) ∨ ((∃ ty, TyOf K H x ty ∧ PySem.W.kitOne K ty (.type "str") = some false) ∧ Q (.bl false) H) := by
    rcases h with ⟨⟨z, rfl, hz, hl⟩, q'⟩ | ⟨⟨z, rfl, lz, hb⟩ | ht, q'⟩
    · exact .inl ⟨z, rfl, by omega, fun b hb => by rw [show b = true from hb.mpr ⟨hz, hl⟩]; exact q'⟩
    · refine .inl ⟨z, rfl, lz, fun b h => ?_⟩
      cases b with
      | false => exact q'
      | true => exact absurd (h.mp rfl) hb
    · exact .inr ⟨ht, q'⟩
  rcases hh with ⟨z, rfl, lz, fin⟩ | ⟨⟨ty, h1, h2⟩, q'⟩
  rotate_left
  · exact ⟨_, rfl, _, _, _, rfl, h1, h2, _, rfl, iteT q'⟩
  have zs : z.length ≤ sizeLine := small lz
  refine ⟨_, rfl, _, _, _, rfl, .str z, kit_ss, _, rfl, iteF ?_⟩
  refine ⟨_, rfl, _, _, rfl, ⟨zs, rfl⟩, _, rfl, _, _, rfl, rfl, _, rfl, ite2 (fun c => ?_) (fun c => ?_)⟩
  · have c' : (n : Int) < (z.length : Int) := of_decide_eq_true c
    exact fin false ⟨fun h => absurd h Bool.false_ne_true, fun h => by omega⟩
  have c' : ¬ (n : Int) < (z.length : Int) := fun h => c (decide_eq_true h)
  refine ⟨_, rfl, z, rfl, for_gen (fun (i : Nat) σ H2 => H2 = H ∧ i ≤ z.length ∧ (∀ j, j < i → sB (z.cps.getD j 0) = true) ∧ ∃ o : Option V, σ = [some (.str z), some (.int (n : Int)), o]) ⟨rfl, Nat.zero_le _, fun j hj => absurd hj (Nat.not_lt_zero _), none, rfl⟩ ?_ ?_⟩
  · rintro i σ H2 hi ⟨rfl, _, hj, o, rfl⟩
    have hi' : i < z.length := hi
    have e : (!(Builtin.Str.occurrences ("0123" : Str) (sgn z i) 0 ("0123" : Str).length 1).isEmpty) = sB (z.cps.getD i 0) := by
      show (!(Builtin.Str.occurrences ("0123" : Str) (⟨#[z.cps.getD i 0]⟩ : Str) 0 ("0123" : Str).length 1).isEmpty) = _
      rw [PySem.StrLaws.found_one]
      rfl
    refine ⟨_, rfl, _, _, rfl, rfl, _, rfl, ite2 (fun c => ?_) (fun c => ?_)⟩
    · rw [e] at c
      refine fin false ⟨fun h => absurd h Bool.false_ne_true, fun h => ?_⟩
      have h1 := sB_of h.1 hi'
      rw [h1] at c
      simp at c
    · rw [e] at c
      refine ⟨rfl, hi', fun j hj' => ?_, _, rfl⟩
      rcases Nat.lt_or_ge j i with h1 | h1
      · exact hj j h1
      · rw [show j = i by omega]
        cases hb : sB (z.cps.getD i 0) with
        | true => rfl
        | false => rw [hb] at c; simp at c
  · rintro σ H2 ⟨rfl, _, hj, o, rfl⟩
    exact fin true ⟨fun _ => ⟨isC_of hj, by omega⟩, fun _ => rfl⟩
end
end Qs


namespace Qs
open PySem L2
theorem bt_ValueError : bootBuiltins "ValueError" = some (.type "ValueError") := by decide +kernel
section
variable {P : Program} {w : World} {K : PySem.W.Frag} {mg : Str → Option Value} {base : Heap} {CX : CXT} {f : Addr} {fd : FuncData}
abbrev s_law_word : Stmt := top 52
theorem sc_law_word : FnScope ["_law_e", "_law_kinds", "_law_words"] ["_law_e"] (defScope s_law_word) := ⟨rfl, rfl, rfl, by decide +kernel, rfl, by decide +kernel, by decide +kernel⟩
def sp_law_word (Y : Yx K mg) : Sp := fun vs H Q _ => ∃ e, vs = [.ref e] ∧ ((H e = some (.ext (ExcIs e (.ref Y.c_NoLevel))) ∧ ∀ H', Same H H' → Q (.str "level") H') ∨ (H e = some (.ext (ExcIs e (.ref Y.c_NoCode))) ∧ ∀ H', Same H H' → Q (.str "code") H') ∨ (H e = some (.ext (ExcIs e (.ref Y.c_NoColour))) ∧ ∀ H', Same H H' → Q (.str "colour") H'))
theorem ok_law_word (T : Tx K mg) (Y : Yx K mg) (F : FunD K "_law_word" "_law_word" s_law_word f fd .none) : FnOkH P w K mg base CX 1 f fd ["_law_e"] (sp_law_word Y) := by
  refine F.okHs sc_law_word (fun vs H Q E h => ?_) (fun cdv A outer s H vs Q E hr h => ?_)
  · obtain ⟨_, rfl, _⟩ := h
    rfl
  obtain ⟨e, rfl, h⟩ := h
  refine ⟨_, (pssx_cons (psx_set (i := 1) sc_law_word.nd rfl (Or.inl rfl) (pex_lst (pax_c (pe_callB (call_isxC (K := K)) rfl T.b_isinstance bb_isinstance (pa_cons (pv 0) (pa_cons (pe_glob (v := .ref _) rfl Y.m_NoLevel rfl) pa_nil))) (pax_c (pe_callB (call_isxC (K := K)) rfl T.b_isinstance bb_isinstance (pa_cons (pv 0) (pa_cons (pe_glob (v := .ref _) rfl Y.m_NoCode rfl) pa_nil))) (pax_c (pe_callB (call_isxC (K := K)) rfl T.b_isinstance bb_isinstance (pa_cons (pv 0) (pa_cons (pe_glob (v := .ref _) rfl Y.m_NoColour rfl) pa_nil))) (pax_c (pe_callB (call_isxC (K := K)) rfl T.b_isinstance bb_isinstance (pa_cons (pv 0) (pa_cons (pe_glob (v := .ref _) rfl Y.m_NoPlace rfl) pa_nil))) pax_nil)))))) (pssx_cons (PSx.mk (ps_set (i := 1) sc_law_word.nd rfl (Or.inl rfl) (pe_op op_cat (pv 1) (pe_lstx (pax_c (pe_callB (call_isxC (K := K)) rfl T.b_isinstance bb_isinstance (pa_cons (pv 0) (pa_cons (pe_glob (v := .ref _) rfl Y.m_NoSide rfl) pa_nil))) (pax_c (pe_callB (call_isxC (K := K)) rfl T.b_isinstance bb_isinstance (pa_cons (pv 0) (pa_cons (pe_glob (v := .ref _) rfl Y.m_NoLeaf rfl) pa_nil))) (pax_c (pe_callB (call_isxC (K := K)) rfl T.b_isinstance bb_isinstance (pa_cons (pv 0) (pa_cons (pe_glob (v := .ref _) rfl Y.m_Twice rfl) pa_nil))) (pax_c (pe_callB (call_isxC (K := K)) rfl T.b_isinstance bb_isinstance (pa_cons (pv 0) (pa_cons (pe_glob (v := .ref _) rfl Y.m_Gap rfl) pa_nil))) pax_nil)))))) (hs := swaps_of rfl))) (pssx_cons (PSx.mk (ps_set (i := 1) sc_law_word.nd rfl (Or.inl rfl) (pe_op op_cat (pv 1) (pe_lstx (pax_c (pe_callB (call_isxC (K := K)) rfl T.b_isinstance bb_isinstance (pa_cons (pv 0) (pa_cons (pe_glob (v := .ref _) rfl Y.m_NoText rfl) pa_nil))) (pax_c (pe_callB (call_isxC (K := K)) rfl T.b_isinstance bb_isinstance (pa_cons (pv 0) (pa_cons (pe_glob (v := .ref _) rfl Y.m_NoName rfl) pa_nil))) (pax_c (pe_callB (call_isxC (K := K)) rfl T.b_isinstance bb_isinstance (pa_cons (pv 0) (pa_cons (pe_glob (v := .ref _) rfl Y.m_NoNumber rfl) pa_nil))) (pax_c (pe_callB (call_isxC (K := K)) rfl T.b_isinstance bb_isinstance (pa_cons (pv 0) (pa_cons (pe_glob (v := .ref _) rfl Y.m_NoRow rfl) pa_nil))) pax_nil)))))) (hs := swaps_of rfl))) (pssx_cons (PSx.mk (ps_if (PW.pt (pw_or (pt_not (pt_val (pe_callB (call_isxT (K := K) "ValueError") rfl T.b_isinstance bb_isinstance (pa_cons (pv 0) (pa_cons (pe_bty T.b_ValueError bt_ValueError) pa_nil))))) (pw_or1 (pt_cmpR op_ne (pe_bm PySem.F.plainAttrs_list PySem.F.slot_list_count PySem.F.type_list_count mt_count (pv 1) (pa_cons pe_bl pa_nil)) pe_int (nomark _))))) (pss_one (ps_ret pe_str)) pss_nil)) (pssx_cons (psx_set (i := 2) sc_law_word.nd rfl (Or.inl rfl) (pex_lst (pax_all rfl))) (pssx_one (PSx.mk (ps_ret (pe_ix ix_list (pv 2) (pe_bm PySem.F.plainAttrs_list PySem.F.slot_list_index PySem.F.type_list_index mt_indexL (pv 1) (pa_cons pe_bl pa_nil)) (fun _ _ => rfl)))))))))), ?_⟩
  rcases h with ⟨he, q'⟩ | ⟨he, q'⟩ | ⟨he, q'⟩
  · refine ⟨_, rfl, e, Y.c_NoLevel, Y.c_NoLevel, true, rfl, he, Y.k_NoLevel, kit_same, _, rfl, e, Y.c_NoLevel, Y.c_NoCode, false, rfl, he, Y.k_NoLevel, Y.t_NoLevel_NoCode, _, rfl, e, Y.c_NoLevel, Y.c_NoColour, false, rfl, he, Y.k_NoLevel, Y.t_NoLevel_NoColour, _, rfl, e, Y.c_NoLevel, Y.c_NoPlace, false, rfl, he, Y.k_NoLevel, Y.t_NoLevel_NoPlace, (by show 4 ≤ sizeLine; decide), fun p1 g1 => ?_⟩
    generalize e1 : upd H p1 _ = H1
    have s1 : Same H H1 := e1 ▸ Same.new g1 _
    have u1 : H1 p1 = some (.lst [V.bl true, .bl false, .bl false, .bl false]) := by rw [← e1]; exact upd_same
    refine ⟨_, rfl, _, rfl, e, Y.c_NoLevel, Y.c_NoSide, false, rfl, s1 _ _ he, Y.k_NoLevel, Y.t_NoLevel_NoSide, _, rfl, e, Y.c_NoLevel, Y.c_NoLeaf, false, rfl, s1 _ _ he, Y.k_NoLevel, Y.t_NoLevel_NoLeaf, _, rfl, e, Y.c_NoLevel, Y.c_Twice, false, rfl, s1 _ _ he, Y.k_NoLevel, Y.t_NoLevel_Twice, _, rfl, e, Y.c_NoLevel, Y.c_Gap, false, rfl, s1 _ _ he, Y.k_NoLevel, Y.t_NoLevel_Gap, (by show 4 ≤ sizeLine; decide), fun p2 g2 => ?_⟩
    generalize e2 : upd H1 p2 _ = H2
    have s2 : Same H1 H2 := e2 ▸ Same.new g2 _
    have u2 : H2 p2 = some (.lst [V.bl false, .bl false, .bl false, .bl false]) := by rw [← e2]; exact upd_same
    refine ⟨p1, p2, _, _, rfl, rfl, s2 _ _ u1, u2, (by show 8 ≤ sizeLine; decide), fun p3 g3 => ?_⟩
    generalize e3 : upd H2 p3 _ = H3
    have s3 : Same H2 H3 := e3 ▸ Same.new g3 _
    have u3 : H3 p3 = some (.lst [V.bl true, .bl false, .bl false, .bl false, .bl false, .bl false, .bl false, .bl false]) := by rw [← e3]; exact upd_same
    have w3 := s1.trans (s2.trans s3)
    refine ⟨_, rfl, _, rfl, e, Y.c_NoLevel, Y.c_NoText, false, rfl, w3 _ _ he, Y.k_NoLevel, Y.t_NoLevel_NoText, _, rfl, e, Y.c_NoLevel, Y.c_NoName, false, rfl, w3 _ _ he, Y.k_NoLevel, Y.t_NoLevel_NoName, _, rfl, e, Y.c_NoLevel, Y.c_NoNumber, false, rfl, w3 _ _ he, Y.k_NoLevel, Y.t_NoLevel_NoNumber, _, rfl, e, Y.c_NoLevel, Y.c_NoRow, false, rfl, w3 _ _ he, Y.k_NoLevel, Y.t_NoLevel_NoRow, (by show 4 ≤ sizeLine; decide), fun p4 g4 => ?_⟩
    generalize e4 : upd H3 p4 _ = H4
    have s4 : Same H3 H4 := e4 ▸ Same.new g4 _
    have u4 : H4 p4 = some (.lst [V.bl false, .bl false, .bl false, .bl false]) := by rw [← e4]; exact upd_same
    refine ⟨p3, p4, _, _, rfl, rfl, s4 _ _ u3, u4, (by show 12 ≤ sizeLine; decide), fun p5 g5 => ?_⟩
    generalize e5 : upd H4 p5 _ = H5
    have s5 : Same H4 H5 := e5 ▸ Same.new g5 _
    have u5 : H5 p5 = some (.lst [V.bl true, .bl false, .bl false, .bl false, .bl false, .bl false, .bl false, .bl false, .bl false, .bl false, .bl false, .bl false]) := by rw [← e5]; exact upd_same
    have w5 := w3.trans (s4.trans s5)
    refine ⟨_, rfl, e, Y.c_NoLevel, true, rfl, w5 _ _ he, Y.k_NoLevel, Y.v_NoLevel, _, rfl, iteF ?_⟩
    refine ⟨_, rfl, .inl ⟨rfl, _, SqL.of u5⟩, p5, .bl true, _, rfl, rfl, u5, rfl, rfl, rfl, _, rfl, iteNS (by decide +kernel) ?_⟩
    refine ⟨(by show 12 ≤ sizeLine; decide), fun p6 g6 => ?_⟩
    generalize e6 : upd H5 p6 _ = H6
    have s6 : Same H5 H6 := e6 ▸ Same.new g6 _
    have u6 : H6 p6 = some (.lst [V.str "level", .str "code", .str "colour", .str "place", .str "side", .str "leaf", .str "twice", .str "gap", .str "text", .str "name", .str "number", .str "row"]) := by rw [← e6]; exact upd_same
    refine ⟨_, rfl, _, rfl, .inl ⟨rfl, _, SqL.of (s6 _ _ u5)⟩, p5, .bl true, _, 0, .bl true, rfl, rfl, s6 _ _ u5, rfl, rfl, rfl, rfl, ?_, p6, _, _, .str "level", rfl, rfl, SqL.of u6, rfl, q' H6 (w5.trans s6)⟩
    intro i v hi hv
    rcases i with  i
    all_goals first
      | (have ev := Option.some.inj hv; subst ev; rfl)
      | omega
  · refine ⟨_, rfl, e, Y.c_NoCode, Y.c_NoLevel, false, rfl, he, Y.k_NoCode, Y.t_NoCode_NoLevel, _, rfl, e, Y.c_NoCode, Y.c_NoCode, true, rfl, he, Y.k_NoCode, kit_same, _, rfl, e, Y.c_NoCode, Y.c_NoColour, false, rfl, he, Y.k_NoCode, Y.t_NoCode_NoColour, _, rfl, e, Y.c_NoCode, Y.c_NoPlace, false, rfl, he, Y.k_NoCode, Y.t_NoCode_NoPlace, (by show 4 ≤ sizeLine; decide), fun p1 g1 => ?_⟩
    generalize e1 : upd H p1 _ = H1
    have s1 : Same H H1 := e1 ▸ Same.new g1 _
    have u1 : H1 p1 = some (.lst [V.bl false, .bl true, .bl false, .bl false]) := by rw [← e1]; exact upd_same
    refine ⟨_, rfl, _, rfl, e, Y.c_NoCode, Y.c_NoSide, false, rfl, s1 _ _ he, Y.k_NoCode, Y.t_NoCode_NoSide, _, rfl, e, Y.c_NoCode, Y.c_NoLeaf, false, rfl, s1 _ _ he, Y.k_NoCode, Y.t_NoCode_NoLeaf, _, rfl, e, Y.c_NoCode, Y.c_Twice, false, rfl, s1 _ _ he, Y.k_NoCode, Y.t_NoCode_Twice, _, rfl, e, Y.c_NoCode, Y.c_Gap, false, rfl, s1 _ _ he, Y.k_NoCode, Y.t_NoCode_Gap, (by show 4 ≤ sizeLine; decide), fun p2 g2 => ?_⟩
    generalize e2 : upd H1 p2 _ = H2
    have s2 : Same H1 H2 := e2 ▸ Same.new g2 _
    have u2 : H2 p2 = some (.lst [V.bl false, .bl false, .bl false, .bl false]) := by rw [← e2]; exact upd_same
    refine ⟨p1, p2, _, _, rfl, rfl, s2 _ _ u1, u2, (by show 8 ≤ sizeLine; decide), fun p3 g3 => ?_⟩
    generalize e3 : upd H2 p3 _ = H3
    have s3 : Same H2 H3 := e3 ▸ Same.new g3 _
    have u3 : H3 p3 = some (.lst [V.bl false, .bl true, .bl false, .bl false, .bl false, .bl false, .bl false, .bl false]) := by rw [← e3]; exact upd_same
    have w3 := s1.trans (s2.trans s3)
    refine ⟨_, rfl, _, rfl, e, Y.c_NoCode, Y.c_NoText, false, rfl, w3 _ _ he, Y.k_NoCode, Y.t_NoCode_NoText, _, rfl, e, Y.c_NoCode, Y.c_NoName, false, rfl, w3 _ _ he, Y.k_NoCode, Y.t_NoCode_NoName, _, rfl, e, Y.c_NoCode, Y.c_NoNumber, false, rfl, w3 _ _ he, Y.k_NoCode, Y.t_NoCode_NoNumber, _, rfl, e, Y.c_NoCode, Y.c_NoRow, false, rfl, w3 _ _ he, Y.k_NoCode, Y.t_NoCode_NoRow, (by show 4 ≤ sizeLine; decide), fun p4 g4 => ?_⟩
    generalize e4 : upd H3 p4 _ = H4
    have s4 : Same H3 H4 := e4 ▸ Same.new g4 _
    have u4 : H4 p4 = some (.lst [V.bl false, .bl false, .bl false, .bl false]) := by rw [← e4]; exact upd_same
    refine ⟨p3, p4, _, _, rfl, rfl, s4 _ _ u3, u4, (by show 12 ≤ sizeLine; decide), fun p5 g5 => ?_⟩
    generalize e5 : upd H4 p5 _ = H5
    have s5 : Same H4 H5 := e5 ▸ Same.new g5 _
    have u5 : H5 p5 = some (.lst [V.bl false, .bl true, .bl false, .bl false, .bl false, .bl false, .bl false, .bl false, .bl false, .bl false, .bl false, .bl false]) := by rw [← e5]; exact upd_same
    have w5 := w3.trans (s4.trans s5)
    refine ⟨_, rfl, e, Y.c_NoCode, true, rfl, w5 _ _ he, Y.k_NoCode, Y.v_NoCode, _, rfl, iteF ?_⟩
    refine ⟨_, rfl, .inl ⟨rfl, _, SqL.of u5⟩, p5, .bl true, _, rfl, rfl, u5, rfl, rfl, rfl, _, rfl, iteNS (by decide +kernel) ?_⟩
    refine ⟨(by show 12 ≤ sizeLine; decide), fun p6 g6 => ?_⟩
    generalize e6 : upd H5 p6 _ = H6
    have s6 : Same H5 H6 := e6 ▸ Same.new g6 _
    have u6 : H6 p6 = some (.lst [V.str "level", .str "code", .str "colour", .str "place", .str "side", .str "leaf", .str "twice", .str "gap", .str "text", .str "name", .str "number", .str "row"]) := by rw [← e6]; exact upd_same
    refine ⟨_, rfl, _, rfl, .inl ⟨rfl, _, SqL.of (s6 _ _ u5)⟩, p5, .bl true, _, 1, .bl true, rfl, rfl, s6 _ _ u5, rfl, rfl, rfl, rfl, ?_, p6, _, _, .str "code", rfl, rfl, SqL.of u6, rfl, q' H6 (w5.trans s6)⟩
    intro i v hi hv
    rcases i with _ | i
    all_goals first
      | (have ev := Option.some.inj hv; subst ev; rfl)
      | omega
  · refine ⟨_, rfl, e, Y.c_NoColour, Y.c_NoLevel, false, rfl, he, Y.k_NoColour, Y.t_NoColour_NoLevel, _, rfl, e, Y.c_NoColour, Y.c_NoCode, false, rfl, he, Y.k_NoColour, Y.t_NoColour_NoCode, _, rfl, e, Y.c_NoColour, Y.c_NoColour, true, rfl, he, Y.k_NoColour, kit_same, _, rfl, e, Y.c_NoColour, Y.c_NoPlace, false, rfl, he, Y.k_NoColour, Y.t_NoColour_NoPlace, (by show 4 ≤ sizeLine; decide), fun p1 g1 => ?_⟩
    generalize e1 : upd H p1 _ = H1
    have s1 : Same H H1 := e1 ▸ Same.new g1 _
    have u1 : H1 p1 = some (.lst [V.bl false, .bl false, .bl true, .bl false]) := by rw [← e1]; exact upd_same
    refine ⟨_, rfl, _, rfl, e, Y.c_NoColour, Y.c_NoSide, false, rfl, s1 _ _ he, Y.k_NoColour, Y.t_NoColour_NoSide, _, rfl, e, Y.c_NoColour, Y.c_NoLeaf, false, rfl, s1 _ _ he, Y.k_NoColour, Y.t_NoColour_NoLeaf, _, rfl, e, Y.c_NoColour, Y.c_Twice, false, rfl, s1 _ _ he, Y.k_NoColour, Y.t_NoColour_Twice, _, rfl, e, Y.c_NoColour, Y.c_Gap, false, rfl, s1 _ _ he, Y.k_NoColour, Y.t_NoColour_Gap, (by show 4 ≤ sizeLine; decide), fun p2 g2 => ?_⟩
    generalize e2 : upd H1 p2 _ = H2
    have s2 : Same H1 H2 := e2 ▸ Same.new g2 _
    have u2 : H2 p2 = some (.lst [V.bl false, .bl false, .bl false, .bl false]) := by rw [← e2]; exact upd_same
    refine ⟨p1, p2, _, _, rfl, rfl, s2 _ _ u1, u2, (by show 8 ≤ sizeLine; decide), fun p3 g3 => ?_⟩
    generalize e3 : upd H2 p3 _ = H3
    have s3 : Same H2 H3 := e3 ▸ Same.new g3 _
    have u3 : H3 p3 = some (.lst [V.bl false, .bl false, .bl true, .bl false, .bl false, .bl false, .bl false, .bl false]) := by rw [← e3]; exact upd_same
    have w3 := s1.trans (s2.trans s3)
    refine ⟨_, rfl, _, rfl, e, Y.c_NoColour, Y.c_NoText, false, rfl, w3 _ _ he, Y.k_NoColour, Y.t_NoColour_NoText, _, rfl, e, Y.c_NoColour, Y.c_NoName, false, rfl, w3 _ _ he, Y.k_NoColour, Y.t_NoColour_NoName, _, rfl, e, Y.c_NoColour, Y.c_NoNumber, false, rfl, w3 _ _ he, Y.k_NoColour, Y.t_NoColour_NoNumber, _, rfl, e, Y.c_NoColour, Y.c_NoRow, false, rfl, w3 _ _ he, Y.k_NoColour, Y.t_NoColour_NoRow, (by show 4 ≤ sizeLine; decide), fun p4 g4 => ?_⟩
    generalize e4 : upd H3 p4 _ = H4
    have s4 : Same H3 H4 := e4 ▸ Same.new g4 _
    have u4 : H4 p4 = some (.lst [V.bl false, .bl false, .bl false, .bl false]) := by rw [← e4]; exact upd_same
    refine ⟨p3, p4, _, _, rfl, rfl, s4 _ _ u3, u4, (by show 12 ≤ sizeLine; decide), fun p5 g5 => ?_⟩
    generalize e5 : upd H4 p5 _ = H5
    have s5 : Same H4 H5 := e5 ▸ Same.new g5 _
    have u5 : H5 p5 = some (.lst [V.bl false, .bl false, .bl true, .bl false, .bl false, .bl false, .bl false, .bl false, .bl false, .bl false, .bl false, .bl false]) := by rw [← e5]; exact upd_same
    have w5 := w3.trans (s4.trans s5)
    refine ⟨_, rfl, e, Y.c_NoColour, true, rfl, w5 _ _ he, Y.k_NoColour, Y.v_NoColour, _, rfl, iteF ?_⟩
    refine ⟨_, rfl, .inl ⟨rfl, _, SqL.of u5⟩, p5, .bl true, _, rfl, rfl, u5, rfl, rfl, rfl, _, rfl, iteNS (by decide +kernel) ?_⟩
    refine ⟨(by show 12 ≤ sizeLine; decide), fun p6 g6 => ?_⟩
    generalize e6 : upd H5 p6 _ = H6
    have s6 : Same H5 H6 := e6 ▸ Same.new g6 _
    have u6 : H6 p6 = some (.lst [V.str "level", .str "code", .str "colour", .str "place", .str "side", .str "leaf", .str "twice", .str "gap", .str "text", .str "name", .str "number", .str "row"]) := by rw [← e6]; exact upd_same
    refine ⟨_, rfl, _, rfl, .inl ⟨rfl, _, SqL.of (s6 _ _ u5)⟩, p5, .bl true, _, 2, .bl true, rfl, rfl, s6 _ _ u5, rfl, rfl, rfl, rfl, ?_, p6, _, _, .str "colour", rfl, rfl, SqL.of u6, rfl, q' H6 (w5.trans s6)⟩
    intro i v hi hv
    rcases i with _ | _ | i
    all_goals first
      | (have ev := Option.some.inj hv; subst ev; rfl)
      | omega
end
end Qs


namespace Qs
open PySem L2
section
variable {P : Program} {w : World} {K : PySem.W.Frag} {mg : Str → Option Value} {base : Heap} {CX : CXT} {f : Addr} {fd : FuncData}
abbrev s_law_asked : Stmt := top 58
theorem sc_law_asked : FnScope ["_law_which", "_law_sheet", "_law_other", "_law_thing_here", "_law_wide_here", "_law_colour"] ["_law_which", "_law_sheet", "_law_other", "_law_thing_here", "_law_wide_here", "_law_colour"] (defScope s_law_asked) := ⟨rfl, rfl, rfl, by decide +kernel, rfl, by decide +kernel, by decide +kernel⟩

structure AskP (K : PySem.W.Frag) (H : Hp) (v o x wd c : V) (which n m : Nat) (t u : Tr) (word : Str) (k : Nat) : Prop where
  hv : ShAt H v n t
  ho : ShAt H o m u
  hn : n ≤ 40
  hm : m ≤ 40
  gt : Good n t
  gu : Good m u
  cl : ClP K H which n m x wd c word k
def sp_law_asked (Y : Yx K mg) : Sp := fun vs H Q E => ∃ (v o x wd c : V) (which n m : Nat) (t u : Tr) (word : Str) (k : Nat), vs = [.int (which : Int), v, o, x, wd, c] ∧ AskP K H v o x wd c which n m t u word k ∧
  (word = "" → ∀ v' r H', Same H H' → ShAt H' v' k r → Good k r → Q v' H') ∧ (word = "code" → ∀ H', Same H H' → E (.ref Y.c_NoCode) none H') ∧ (word = "level" → ∀ H', Same H H' → E (.ref Y.c_NoLevel) none H') ∧ (word = "colour" → ∀ H', Same H H' → E (.ref Y.c_NoColour) none H')
theorem ok_law_asked (T : Tx K mg) (Y : Yx K mg) (q : Quiet (CXe P w)) (F : FunD K "_law_asked" "_law_asked" s_law_asked f fd .none) (C_part_at : Fok P w K mg base (CXe P w) 3 "part_at" ["sheet", "code"] [] (sp_partX Y)) (C_put_in : Fok P w K mg base (CXe P w) 44 "put_in" ["sheet", "code", "other"] [] (sp_putX Y))
    (C_window : Fok P w K mg base (CXe P w) 17 "window" ["sheet", "x", "y", "level", "colour"] [] (sp_winX Y)) (C_laid : Fok P w K mg base (CXe P w) 17 "laid" ["sheet", "x", "y", "other"] [] (sp_laidX Y)) : FnOk P w K mg base (CXe P w) 45 f fd ["_law_which", "_law_sheet", "_law_other", "_law_thing_here", "_law_wide_here", "_law_colour"] (sp_law_asked Y) := by
  refine F.okX sc_law_asked (fun vs H Q E h => ?_) (fun cdv A outer s H vs Q E hr h => ?_)
  · obtain ⟨_, _, _, _, _, _, _, _, _, _, _, _, rfl, _⟩ := h
    rfl
  obtain ⟨v, o, x, wd, c, which, n, m, t, u, word, k, rfl, a, q0, qc, ql, qo⟩ := h
  refine ⟨_, (pss_cons (ps_if (pt_cmpR op_eq (pv 0) pe_int (nomark _)) (pss_one (ps_ret (pe_callX C_part_at hr passE (pa_cons (pv 1) (pa_cons (pv 3) pa_nil))))) pss_nil) (pss_cons (ps_if (pt_cmpR op_eq (pv 0) pe_int (nomark _)) (pss_one (ps_ret (pe_callX C_put_in hr passE (pa_cons (pv 1) (pa_cons (pv 3) (pa_cons (pv 2) pa_nil)))))) pss_nil) (pss_cons (ps_if (pt_cmpR op_eq (pv 0) pe_int (nomark _)) (pss_one (ps_ret (pe_callX C_window hr passE (pa_cons (pv 1) (pa_cons pe_int (pa_cons (pe_un un_neg pe_int) (pa_cons (pv 4) (pa_cons (pv 5) pa_nil)))))))) pss_nil) (pss_one (ps_ret (pe_callX C_laid hr passE (pa_cons (pv 1) (pa_cons pe_int (pa_cons (pe_un un_neg pe_int) (pa_cons (pv 2) pa_nil)))))))))), ?_⟩
  have r0 := Same.refl H
  rcases a.cl with ⟨rfl, h⟩ | ⟨rfl, h⟩ | ⟨rfl, h⟩ | ⟨rfl, h⟩
  · refine ⟨_, rfl, rfl, _, rfl, ite2 (fun _ => ?_) (fun d => absurd (decide_eq_true rfl) d)⟩
    refine ⟨_, rfl, _, rfl, v, x, n, t, rfl, a.hv, a.hn, ?_⟩
    rcases h with ⟨z, gc, ew, rfl⟩ | ⟨bc, ew⟩
    · refine .inl ⟨z, gc, fun v' H' s' hv => q0 ew v' _ H' s' hv ?_⟩
      have hl := gc.2.2
      have := good_treeAt (ds := dig z) (by rw [dig_len]; exact hl) a.gt
      rw [dig_len] at this
      exact this
    · exact .inr ⟨bc, qc ew⟩
  · refine ⟨_, rfl, rfl, _, rfl, ite2 (fun d => absurd (of_decide_eq_true d) (ne_int (by decide))) (fun _ => ?_)⟩
    refine ⟨_, rfl, rfl, _, rfl, ite2 (fun _ => ?_) (fun d => absurd (decide_eq_true rfl) d)⟩
    refine ⟨_, rfl, _, rfl, _, rfl, v, o, x, n, m, t, u, rfl, a.hv, a.ho, a.hn, a.gt, a.gu, ?_⟩
    rcases h with ⟨z, gc, em, ew, rfl⟩ | ⟨z, gc, nm, ew⟩ | ⟨bc, ew⟩
    · refine .inl ⟨z, gc, em, fun v' H' s' hv => q0 ew v' _ H' s' hv ?_⟩
      exact good_plant (by rw [dig_len]; exact gc.2.2) a.gt (by rw [dig_len, ← em]; exact a.gu)
    · exact .inr (.inl ⟨z, gc, nm, ql ew⟩)
    · exact .inr (.inr ⟨bc, qc ew⟩)
  · refine ⟨_, rfl, rfl, _, rfl, ite2 (fun d => absurd (of_decide_eq_true d) (ne_int (by decide))) (fun _ => ?_)⟩
    refine ⟨_, rfl, rfl, _, rfl, ite2 (fun d => absurd (of_decide_eq_true d) (ne_int (by decide))) (fun _ => ?_)⟩
    refine ⟨_, rfl, rfl, _, rfl, ite2 (fun _ => ?_) (fun d => absurd (decide_eq_true rfl) d)⟩
    refine ⟨_, rfl, _, rfl, _, rfl, _, rfl, v, wd, c, n, t, _, _, rfl, a.hv, a.gt, ?_⟩
    rcases h with ⟨hb, ew⟩ | ⟨h6, hw, hk, h⟩
    · exact .inl ⟨hb, ql ew H r0⟩
    · refine .inr ⟨h6, k, hw, hk, ?_⟩
      rcases h with ⟨bc, ew⟩ | ⟨i, hc, hi, ew⟩
      · exact .inl ⟨bc, qo ew H r0⟩
      · exact .inr ⟨i, hc, hi, fun v' r H' s' hv gr => q0 ew v' r H' s' hv gr⟩
  · refine ⟨_, rfl, rfl, _, rfl, ite2 (fun d => absurd (of_decide_eq_true d) (ne_int (by decide))) (fun _ => ?_)⟩
    refine ⟨_, rfl, rfl, _, rfl, ite2 (fun d => absurd (of_decide_eq_true d) (ne_int (by decide))) (fun _ => ?_)⟩
    refine ⟨_, rfl, rfl, _, rfl, ite2 (fun d => absurd (of_decide_eq_true d) (ne_int (by decide))) (fun _ => ?_)⟩
    refine ⟨_, rfl, _, rfl, _, rfl, v, o, n, m, t, u, _, _, rfl, a.hv, a.ho, a.gt, a.gu, ?_⟩
    rcases h with ⟨hb, ew⟩ | ⟨h6, h7, ew, rfl⟩
    · exact .inl ⟨hb, ql ew H r0⟩
    · exact .inr ⟨h6, h7, fun v' r H' s' hv gr => q0 ew v' r H' s' hv gr⟩
abbrev s_law_said : Stmt := top 59
theorem sc_law_said : FnScope ["_law_which", "_law_sheet", "_law_other", "_law_thing_here", "_law_wide_here", "_law_colour", "_law_found", "_law_e"] ["_law_which", "_law_sheet", "_law_other", "_law_thing_here", "_law_wide_here", "_law_colour"] (defScope s_law_said) := ⟨rfl, rfl, rfl, by decide +kernel, rfl, by decide +kernel, by decide +kernel⟩
def sp_law_said (K : PySem.W.Frag) : Sp := fun vs H Q _ => ∃ (v o x wd c : V) (which n m : Nat) (t u : Tr) (word : Str) (k : Nat), vs = [.int (which : Int), v, o, x, wd, c] ∧ AskP K H v o x wd c which n m t u word k ∧
  (word = "" → ∀ p v' r H', Same H H' → H' p = some (.tup [.str "", v']) → ShAt H' v' k r → Good k r → Q (.ref p) H') ∧ ((word = "code" ∨ word = "level" ∨ word = "colour") → ∀ p H', Same H H' → H' p = some (.tup [.str word, .non]) → Q (.ref p) H')
theorem ok_law_said (T : Tx K mg) (Y : Yx K mg) (q : Quiet (CXe P w)) (F : FunD K "_law_said" "_law_said" s_law_said f fd .none) (C__law_asked : Fok P w K mg base (CXe P w) 45 "_law_asked" ["_law_which", "_law_sheet", "_law_other", "_law_thing_here", "_law_wide_here", "_law_colour"] [] (sp_law_asked Y)) (C__law_word : FokH P w K mg base (CXe P w) 1 "_law_word" ["_law_e"] (sp_law_word Y)) :
    FnOk P w K mg base (CXe P w) 46 f fd ["_law_which", "_law_sheet", "_law_other", "_law_thing_here", "_law_wide_here", "_law_colour"] (sp_law_said K) := by
  refine F.ok sc_law_said (fun vs H Q E h => ?_) (fun cdv A outer s H vs Q E hr h => ?_)
  · obtain ⟨_, _, _, _, _, _, _, _, _, _, _, _, rfl, _⟩ := h
    rfl
  obtain ⟨v, o, x, wd, c, which, n, m, t, u, word, k, rfl, a, q0, q1⟩ := h
  refine ⟨_, (pss_cons (ps_try sc_law_said.nd (i := 7) rfl rfl rfl rfl rfl Y.m_SheetError rfl (by decide) (fun W pn R pt => (pss_one (ps_set (i := 6) sc_law_said.nd rfl (Or.inl rfl) (pe_callS C__law_asked hr pt (pa_cons (pv 0) (pa_cons (pv 1) (pa_cons (pv 2) (pa_cons (pv 3) (pa_cons (pv 4) (pa_cons (pv 5) pa_nil)))))))))) (fun e => (pss_one (ps_ret (pe_tupx (pax_c (pe_callH C__law_word q hr.inX (pa_cons (pv 7) pa_nil)) (pax_c pe_non pax_nil))))))) (pss_one (ps_ret (pe_tupx (pax_c pe_str (pax_c (pv 6) pax_nil)))))), ?_⟩
  refine ⟨_, rfl, _, rfl, _, rfl, _, rfl, _, rfl, _, rfl, v, o, x, wd, c, which, n, m, t, u, word, k, rfl, a, fun ew v' r H1 s1 hv gr => ?_, fun ew H1 s1 => ?_, fun ew H1 s1 => ?_, fun ew H1 s1 => ?_⟩
  · refine ⟨_, rfl, (by show 2 ≤ sizeLine; decide), fun p hp => ?_⟩
    exact q0 ew p v' r _ (s1.trans (Same.new hp _)) upd_same (hv.up (Same.new hp _).tups) gr
  · refine ⟨Y.s_NoCode, fun e he => ⟨_, rfl, e, rfl, .inr (.inl ⟨upd_same, fun H2 s2 => ⟨(by show 2 ≤ sizeLine; decide), fun p hp => ?_⟩⟩)⟩⟩
    subst ew
    exact q1 (.inl rfl) p _ (s1.trans ((Same.new he _).trans (s2.trans (Same.new hp _)))) upd_same
  · refine ⟨Y.s_NoLevel, fun e he => ⟨_, rfl, e, rfl, .inl ⟨upd_same, fun H2 s2 => ⟨(by show 2 ≤ sizeLine; decide), fun p hp => ?_⟩⟩⟩⟩
    subst ew
    exact q1 (.inr (.inl rfl)) p _ (s1.trans ((Same.new he _).trans (s2.trans (Same.new hp _)))) upd_same
  · refine ⟨Y.s_NoColour, fun e he => ⟨_, rfl, e, rfl, .inr (.inr ⟨upd_same, fun H2 s2 => ⟨(by show 2 ≤ sizeLine; decide), fun p hp => ?_⟩⟩)⟩⟩
    subst ew
    exact q1 (.inr (.inr rfl)) p _ (s1.trans ((Same.new he _).trans (s2.trans (Same.new hp _)))) upd_same
end
end Qs


namespace Qs
open PySem L2
theorem ClP.k40 {K : PySem.W.Frag} {H : Hp} {which n m : Nat} {x wd c : V} {word : Str} {k : Nat} (h : ClP K H which n m x wd c word k) (hn : n ≤ 40) (hm : m ≤ 40) (hw : word = "") : k ≤ 40 := by
  subst hw
  rcases h with ⟨_, ⟨z, _, _, h⟩ | ⟨_, h⟩⟩ | ⟨_, ⟨z, _, _, _, h⟩ | ⟨z, _, _, h⟩ | ⟨_, h⟩⟩ | ⟨_, ⟨_, h⟩ | ⟨_, _, h, _⟩⟩ | ⟨_, ⟨_, h⟩ | ⟨_, _, _, h⟩⟩
  · omega
  · exact absurd h (by decide +kernel)
  · omega
  · exact absurd h (by decide +kernel)
  · exact absurd h (by decide +kernel)
  · exact absurd h (by decide +kernel)
  · omega
  · exact absurd h (by decide +kernel)
  · omega
section
variable {P : Program} {w : World} {K : PySem.W.Frag} {mg : Str → Option Value} {base : Heap} {CX : CXT} {f : Addr} {fd : FuncData}
abbrev s_law_due : Stmt := top 60
theorem sc_law_due : FnScope ["_law_which", "_law_level_here", "_law_second", "_law_thing_here", "_law_wide_here", "_law_colour"] ["_law_which", "_law_level_here", "_law_second", "_law_thing_here", "_law_wide_here", "_law_colour"] (defScope s_law_due) := ⟨rfl, rfl, rfl, by decide +kernel, rfl, by decide +kernel, by decide +kernel⟩
def sp_law_due (K : PySem.W.Frag) : Sp := fun vs H Q _ => ∃ (x wd c : V) (which n m : Nat), vs = [.int (which : Int), .int (n : Int), .int (m : Int), x, wd, c] ∧ which < 4 ∧ n ≤ 40 ∧ m ≤ 40 ∧ ThingS K H x ∧ NumV K H wd ∧ NumV K H c ∧
  ∀ p word k H', Same H H' → ClP K H' which n m x wd c word k → H' p = some (.tup [.str word, .int (k : Int)]) → Q (.ref p) H'
theorem ok_law_due (T : Tx K mg) (q : Quiet CX) (F : FunD K "_law_due" "_law_due" s_law_due f fd .none) (C__law_is_code : Fok P w K mg base CX 1 "_law_is_code" ["_law_thing_here", "_law_level_here"] [] (sp_law_is_code K)) (C__law_is_colour : Fok P w K mg base CX 1 "_law_is_colour" ["_law_found"] [] (gsp_upto K 35)) : FnOk P w K mg base CX 2 f fd ["_law_which", "_law_level_here", "_law_second", "_law_thing_here", "_law_wide_here", "_law_colour"] (sp_law_due K) := by
  refine F.ok sc_law_due (fun vs H Q E h => ?_) (fun cdv A outer s H vs Q E hr h => ?_)
  · obtain ⟨_, _, _, _, _, _, rfl, _⟩ := h
    rfl
  obtain ⟨x, wd, c, which, n, m, rfl, hw, hn, hm, hx, hwd, hc, q'⟩ := h
  refine ⟨_, (pss_cons (ps_if (pt_cmpR op_lt (pv 0) pe_int (nomark _)) (pss_cons (ps_if (pt_not (pt_val (pe_callF C__law_is_code q hr (pa_cons (pv 3) (pa_cons (pv 1) pa_nil))))) (pss_one (ps_ret (pe_tupx (pax_c pe_str (pax_c pe_int pax_nil))))) pss_nil) (pss_cons (ps_if (PW.pt (pw_and (pt_cmpR op_eq (pv 0) pe_int (nomark _)) (pw_and1 (pt_cmpR op_ne (pv 2) (pe_op op_sub (pv 1) (pe_callB call_len rfl T.b_len bb_len (pa_cons (pv 3) pa_nil))) (nomark _))))) (pss_one (ps_ret (pe_tupx (pax_c pe_str (pax_c pe_int pax_nil))))) pss_nil) (pss_one (ps_ret (pe_tupx (pax_c pe_str (pax_c (pe_op op_sub (pv 1) (pe_op op_mul (pe_callB call_len rfl T.b_len bb_len (pa_cons (pv 3) pa_nil)) (pe_callTy call_int1 rfl T.b_int bt_int (pa_cons (pe_cmpR op_eq (pv 0) pe_int (nomark _)) pa_nil)))) pax_nil))))))) pss_nil) (pss_cons (ps_if (pt_cmpR op_eq (pv 0) pe_int (nomark _)) (pss_one (ps_ret (pe_tupx (pax_c (pe_op op_mul_str pe_str (pe_callTy call_int1 rfl T.b_int bt_int (pa_cons (pe_cmpR op_gt (pe_callB (call_max2 rfl) rfl T.b_max bb_max (pa_cons (pv 1) (pa_cons (pv 2) pa_nil))) pe_int (nomark _)) pa_nil))) (pax_c (pv 2) pax_nil))))) pss_nil) (pss_cons (ps_if (PW.pt (pw_or (pt_cmpR op_gt (pv 1) pe_int (nomark _)) (pw_or (pt_not (pt_val (pe_callB (call_isiT "int") rfl T.b_isinstance bb_isinstance (pa_cons (pv 4) (pa_cons (pe_bty T.b_int bt_int) pa_nil))))) (pw_or (pt_val (pe_callB (call_isiT "bool") rfl T.b_isinstance bb_isinstance (pa_cons (pv 4) (pa_cons (pe_bty T.b_bool bt_bool) pa_nil)))) (pw_or1 (pt_not (pt_chain op_le op_le pe_int (pv 4) pe_int))))))) (pss_one (ps_ret (pe_tupx (pax_c pe_str (pax_c pe_int pax_nil))))) pss_nil) (pss_one (ps_ret (pe_tupx (pax_c (pe_op op_mul_str pe_str (pe_callTy call_int1 rfl T.b_int bt_int (pa_cons (pe_not (pe_callF C__law_is_colour q hr (pa_cons (pv 5) pa_nil))) pa_nil))) (pax_c (pv 4) pax_nil)))))))), ?_⟩
  have out : ∀ (word : Str) (k : Nat), ClP K H which n m x wd c word k → 2 ≤ sizeLine ∧ ∀ p, H p = none → Q (.ref p) (upd H p (.tup [.str word, .int (k : Int)])) := fun word k cl => ⟨by show 2 ≤ sizeLine; decide, fun p hp => q' p word k _ (Same.new hp _) (cl.up (Same.new hp _)) upd_same⟩
  have m0 : ∀ z : Str, Txt.mul z ((0 : Nat) : Int) = "" := fun z => by unfold Txt.mul; simp; rfl
  rcases which with _ | _ | _ | _ | which
  · refine ⟨_, rfl, _, _, rfl, rfl, _, rfl, ite2 (fun _ => ?_) (fun d => absurd (decide_eq_true (by decide)) d)⟩
    rcases hx.code n with ⟨z, gc⟩ | bc
    rotate_left
    · exact ⟨_, rfl, _, rfl, x, n, rfl, hn, .inr ⟨bc, _, rfl, iteT (out "code" 0 (.inl ⟨rfl, .inr ⟨bc, rfl⟩⟩))⟩⟩
    refine ⟨_, rfl, _, rfl, x, n, rfl, hn, .inl ⟨⟨z, gc⟩, _, rfl, iteF ?_⟩⟩
    obtain ⟨rfl, hz, hl⟩ := id gc
    refine ⟨_, rfl, rfl, _, rfl, ite2 (fun d => absurd (of_decide_eq_true d) (ne_int (by decide))) (fun _ => iteF ?_)⟩
    refine ⟨_, rfl, _, rfl, _, _, rfl, ⟨small (by omega), rfl⟩, _, rfl, rfl, .inr ⟨_, rfl, ?_⟩⟩
    refine ⟨_, _, rfl, rfl, .inl ⟨by omega, by omega⟩, _, _, rfl, rfl, ?_⟩
    have o := out "" (n - z.length) (.inl ⟨rfl, .inl ⟨z, gc, rfl, rfl⟩⟩)
    rw [show ((n - z.length : Nat) : Int) = (n : Int) - (z.length : Int) * (if decide (V.int ((0 : Nat) : Int) = V.int 0) = true then 1 else 0) by rw [if_pos (show decide (V.int ((0 : Nat) : Int) = V.int 0) = true from decide_eq_true rfl)]; omega] at o
    exact o
  · refine ⟨_, rfl, _, _, rfl, rfl, _, rfl, ite2 (fun _ => ?_) (fun d => absurd (decide_eq_true (by decide)) d)⟩
    rcases hx.code n with ⟨z, gc⟩ | bc
    rotate_left
    · exact ⟨_, rfl, _, rfl, x, n, rfl, hn, .inr ⟨bc, _, rfl, iteT (out "code" 0 (.inr (.inl ⟨rfl, .inr (.inr ⟨bc, rfl⟩)⟩)))⟩⟩
    refine ⟨_, rfl, _, rfl, x, n, rfl, hn, .inl ⟨⟨z, gc⟩, _, rfl, iteF ?_⟩⟩
    obtain ⟨rfl, hz, hl⟩ := id gc
    refine ⟨_, rfl, rfl, _, rfl, ite2 (fun _ => ?_) (fun d => absurd (decide_eq_true rfl) d)⟩
    refine ⟨_, rfl, _, rfl, _, rfl, _, _, rfl, ⟨small (by omega), rfl⟩, _, _, rfl, rfl, rfl, _, rfl, ite2 (fun d => ?_) (fun d => ?_)⟩
    · have d' : (!decide (V.int (m : Int) = V.int ((n : Int) - (z.length : Int)))) = true := d
      refine out "level" 0 (.inr (.inl ⟨rfl, .inr (.inl ⟨z, gc, fun em => ?_, rfl⟩)⟩))
      rw [show (n : Int) - (z.length : Int) = (m : Int) by omega] at d'
      simp at d'
    have d' : ¬ (!decide (V.int (m : Int) = V.int ((n : Int) - (z.length : Int)))) = true := d
    have d2 : V.int (m : Int) = V.int ((n : Int) - (z.length : Int)) := by simpa using d'
    injection d2 with d3
    refine ⟨_, rfl, _, rfl, _, _, rfl, ⟨small (by omega), rfl⟩, _, rfl, rfl, .inr ⟨_, rfl, ?_⟩⟩
    refine ⟨_, _, rfl, rfl, .inl ⟨by omega, by omega⟩, _, _, rfl, rfl, ?_⟩
    have o := out "" n (.inr (.inl ⟨rfl, .inl ⟨z, gc, by omega, rfl, rfl⟩⟩))
    rw [show ((n : Nat) : Int) = (n : Int) - (z.length : Int) * (if decide (V.int ((1 : Nat) : Int) = V.int 0) = true then 1 else 0) by rw [if_neg (show ¬ decide (V.int ((1 : Nat) : Int) = V.int 0) = true from fun d => ne_int (by decide) (of_decide_eq_true d))]; omega] at o
    exact o
  · refine ⟨_, rfl, _, _, rfl, rfl, _, rfl, ite2 (fun d => absurd (of_decide_eq_true d) (by decide)) (fun _ => ?_)⟩
    refine ⟨_, rfl, rfl, _, rfl, ite2 (fun d => absurd (of_decide_eq_true d) (ne_int (by decide))) (fun _ => ?_)⟩
    have lev : (6 < n ∨ (n ≤ 6 ∧ BadI K H 6 wd)) → 2 ≤ sizeLine ∧ ∀ p, H p = none → Q (.ref p) (upd H p (.tup [.str "level", .int ((0 : Nat) : Int)])) := fun h => out "level" 0 (.inr (.inr (.inl ⟨rfl, .inl ⟨h, rfl⟩⟩)))
    refine ⟨_, rfl, _, _, rfl, rfl, _, rfl, ite2 (fun d => iteT (lev (.inl ?_))) (fun d => ?_)⟩
    · have d' : (6 : Int) < (n : Int) := of_decide_eq_true d
      omega
    have h6 : n ≤ 6 := by
      have d' : ¬ (6 : Int) < (n : Int) := fun h => d (decide_eq_true h)
      omega
    rcases hwd.bad 6 with ⟨i, rfl, hi⟩ | bw
    rotate_left
    · have lv := lev (.inr ⟨h6, bw⟩)
      rcases bw with ⟨i, rfl, hi⟩ | ⟨b, rfl⟩ | ⟨ty, t1, t2⟩
      · refine ⟨_, rfl, _, _, _, rfl, .int i, kit_ii, _, rfl, iteF ?_⟩
        refine ⟨_, rfl, _, _, _, rfl, .int i, kit_ib, _, rfl, iteF ?_⟩
        refine ⟨_, rfl, _, _, rfl, rfl, _, rfl, ite2 (fun c1 => ⟨_, _, rfl, rfl, _, rfl, ite2 (fun _ => lv) (fun c2 => ?_)⟩) (fun c1 => ⟨_, rfl, iteT lv⟩)⟩
        have c1' : (0 : Int) ≤ i := of_decide_eq_true c1
        have c2' : ¬ (!decide (i ≤ 6)) = true := c2
        have c3 : i ≤ 6 := by simpa using c2'
        exact absurd ⟨c1', c3⟩ hi
      · refine ⟨_, rfl, _, _, _, rfl, .bl b, kit_bi, _, rfl, iteF ?_⟩
        exact ⟨_, rfl, _, _, _, rfl, .bl b, kit_bb, _, rfl, iteT (iteT lv)⟩
      · exact ⟨_, rfl, _, _, _, rfl, t1, t2, _, rfl, iteT (iteT lv)⟩
    obtain ⟨k, rfl⟩ : ∃ k : Nat, i = (k : Int) := ⟨i.toNat, by omega⟩
    refine ⟨_, rfl, _, _, _, rfl, .int _, kit_ii, _, rfl, iteF ?_⟩
    refine ⟨_, rfl, _, _, _, rfl, .int _, kit_ib, _, rfl, iteF ?_⟩
    refine ⟨_, rfl, _, _, rfl, rfl, _, rfl, ite2 (fun c1 => ⟨_, _, rfl, rfl, _, rfl, ite2 (fun c2 => ?_) (fun _ => ?_)⟩) (fun c1 => absurd (decide_eq_true hi.1) c1)⟩
    · have c2' : (!decide ((k : Int) ≤ 6)) = true := c2
      rw [decide_eq_true hi.2] at c2'
      cases c2'
    rcases hc.bad 35 with ⟨j, rfl, hj⟩ | bc
    · refine ⟨_, rfl, _, rfl, .inl ⟨j, rfl, ?_⟩⟩
      rw [show decide (0 ≤ j ∧ j ≤ 35) = true from decide_eq_true hj]
      refine ⟨_, rfl, .inr ⟨_, rfl, "colour", ((0 : Nat) : Int), rfl, rfl, mul_ok (by decide +kernel) (by decide), _, rfl, ?_⟩⟩
      rw [m0]
      exact out "" k (.inr (.inr (.inl ⟨rfl, .inr ⟨h6, rfl, by omega, .inr ⟨j, rfl, hj, rfl⟩⟩⟩)))
    have o := out "colour" k (.inr (.inr (.inl ⟨rfl, .inr ⟨h6, rfl, by omega, .inl ⟨bc, rfl⟩⟩⟩)))
    have m1 : Txt.mul ("colour" : Str) ((1 : Nat) : Int) = "colour" := by decide +kernel
    rcases bc with ⟨j, rfl, hj⟩ | no
    · refine ⟨_, rfl, _, rfl, .inl ⟨j, rfl, ?_⟩⟩
      rw [show decide (0 ≤ j ∧ j ≤ 35) = false from decide_eq_false hj]
      refine ⟨_, rfl, .inr ⟨_, rfl, "colour", ((1 : Nat) : Int), rfl, rfl, mul_ok (by decide +kernel) (by decide), _, rfl, ?_⟩⟩
      rw [m1]
      exact o
    · refine ⟨_, rfl, _, rfl, .inr ⟨no, _, rfl, .inr ⟨_, rfl, "colour", ((1 : Nat) : Int), rfl, rfl, mul_ok (by decide +kernel) (by decide), _, rfl, ?_⟩⟩⟩
      rw [m1]
      exact o
  · refine ⟨_, rfl, _, _, rfl, rfl, _, rfl, ite2 (fun d => absurd (of_decide_eq_true d) (by decide)) (fun _ => ?_)⟩
    refine ⟨_, rfl, rfl, _, rfl, ite2 (fun _ => ?_) (fun d => absurd (decide_eq_true rfl) d)⟩
    have m1 : Txt.mul ("level" : Str) ((1 : Nat) : Int) = "level" := by decide +kernel
    by_cases hb : 6 < n ∨ 6 < m
    · refine ⟨_, rfl, _, rfl, _, _, rfl, _, _, rfl, rfl, .inr ⟨_, rfl, "level", ((1 : Nat) : Int), rfl, ?_, mul_ok (by decide +kernel) (by decide), _, rfl, ?_⟩⟩
      · rw [if_pos (show decide ((if (m : Int) > (n : Int) then (m : Int) else (n : Int)) > 6) = true from decide_eq_true (by split <;> omega))]
        rfl
      · rw [m1]
        exact out "level" m (.inr (.inr (.inr ⟨rfl, .inl ⟨hb, rfl⟩⟩)))
    · refine ⟨_, rfl, _, rfl, _, _, rfl, _, _, rfl, rfl, .inr ⟨_, rfl, "level", ((0 : Nat) : Int), rfl, ?_, mul_ok (by decide +kernel) (by decide), _, rfl, ?_⟩⟩
      · rw [if_neg (show ¬ decide ((if (m : Int) > (n : Int) then (m : Int) else (n : Int)) > 6) = true from fun d => absurd (of_decide_eq_true d) (by split <;> omega))]
        rfl
      · rw [m0]
        exact out "" m (.inr (.inr (.inr ⟨rfl, .inr ⟨by omega, by omega, rfl, rfl⟩⟩)))
  · omega
abbrev s_law : Stmt := top 61
theorem sc_law : FnScope ["_law_script", "_law_level_here", "_law_thing_here", "_law_second", "_law_wide_here", "_law_colour", "_law_sheet", "_law_other", "_law_which", "_law_due_here", "_law_high", "_law_turn", "_law_word_here", "_law_found"] ["_law_script"] (defScope s_law) := ⟨rfl, rfl, rfl, by decide +kernel, rfl, by decide +kernel, by decide +kernel⟩
def sp_law (K : PySem.W.Frag) : Sp := fun vs H Q _ => ∃ (a : Addr) (ns : List Int), vs = [.ref a] ∧ SqL K H a (ns.map V.int) ∧ ns.length ≤ 63 ∧ ∀ H', Q (.bl true) H'
theorem ok_law (T : Tx K mg) (q : Quiet (CXe P w)) (F : FunD K "law" "law" s_law f fd .none) (C__law_at : Fok P w K mg base (CXe P w) 1 "_law_at" ["_law_script", "_law_k"] [] (sp_law_at K)) (C__law_level : Fok P w K mg base (CXe P w) 1 "_law_level" ["_law_cell"] [] sp_law_level)
    (C__law_thing : Fok P w K mg base (CXe P w) 3 "_law_thing" ["_law_cell", "_law_level_here"] [] (sp_law_thing K)) (C__law_is_code : Fok P w K mg base (CXe P w) 1 "_law_is_code" ["_law_thing_here", "_law_level_here"] [] (sp_law_is_code K)) (C__law_wide : Fok P w K mg base (CXe P w) 1 "_law_wide" ["_law_cell"] [] (sp_law_num K)) (C__law_odd_colour : Fok P w K mg base (CXe P w) 1 "_law_odd_colour" ["_law_cell"] [] (sp_law_num K))
    (C__law_tree_by : Fok P w K mg base (CXe P w) 43 "_law_tree_by" ["_law_script", "_law_first", "_law_level_here", "_law_many"] [] (sp_law_tree_by K)) (C__law_due : Fok P w K mg base (CXe P w) 2 "_law_due" ["_law_which", "_law_level_here", "_law_second", "_law_thing_here", "_law_wide_here", "_law_colour"] [] (sp_law_due K)) (C__law_said : Fok P w K mg base (CXe P w) 46 "_law_said" ["_law_which", "_law_sheet", "_law_other", "_law_thing_here", "_law_wide_here", "_law_colour"] [] (sp_law_said K)) (C__law_is_sheet : Fok P w K mg base (CXe P w) 43 "_law_is_sheet" ["_law_found", "_law_level_here"] [] sp_law_is_sheet) :
    FnOk P w K mg base (CXe P w) 47 f fd ["_law_script"] (sp_law K) := by
  refine F.ok sc_law (fun vs H Q E h => ?_) (fun cdv A outer s H vs Q E hr h => ?_)
  · obtain ⟨_, _, rfl, _⟩ := h
    rfl
  obtain ⟨a, ns, rfl, hS, h63, q'⟩ := h
  refine ⟨_, (pss_cons (ps_set (i := 1) sc_law.nd rfl (Or.inl rfl) (pe_callF C__law_level q hr (pa_cons (pe_callF C__law_at q hr (pa_cons (pv 0) (pa_cons pe_int pa_nil))) pa_nil))) (pss_cons (ps_set (i := 2) sc_law.nd rfl (Or.inl rfl) (pe_callF C__law_thing q hr (pa_cons (pe_callF C__law_at q hr (pa_cons (pv 0) (pa_cons pe_int pa_nil))) (pa_cons (pv 1) pa_nil)))) (pss_cons (ps_set (i := 3) sc_law.nd rfl (Or.inl rfl) (pe_callF C__law_level q hr (pa_cons (pe_callF C__law_at q hr (pa_cons (pv 0) (pa_cons pe_int pa_nil))) pa_nil))) (pss_cons (ps_cut (ps_if (PW.pt (pw_and (pt_cmpR op_eq (pe_op op_mod (pe_callF C__law_at q hr (pa_cons (pv 0) (pa_cons pe_int pa_nil))) pe_int) pe_int (nomark _)) (pw_and1 (pt_val (pe_callF C__law_is_code q hr (pa_cons (pv 2) (pa_cons (pv 1) pa_nil))))))) (pss_one (ps_set (i := 3) sc_law.nd rfl (Or.inl rfl) (pe_op op_sub (pv 1) (pe_callB call_len rfl T.b_len bb_len (pa_cons (pv 2) pa_nil))))) pss_nil)) (pss_cons (ps_set (i := 4) sc_law.nd rfl (Or.inl rfl) (pe_callF C__law_wide q hr (pa_cons (pe_callF C__law_at q hr (pa_cons (pv 0) (pa_cons pe_int pa_nil))) pa_nil))) (pss_cons (ps_set (i := 5) sc_law.nd rfl (Or.inl rfl) (pe_op op_mod (pe_op op_fdivW (pe_callF C__law_at q hr (pa_cons (pv 0) (pa_cons pe_int pa_nil))) pe_int) pe_int)) (pss_cons (ps_cut (ps_if (pt_cmpR op_eq (pe_op op_mod (pe_callF C__law_at q hr (pa_cons (pv 0) (pa_cons pe_int pa_nil))) pe_int) pe_int (nomark _)) (pss_one (ps_set (i := 5) sc_law.nd rfl (Or.inl rfl) (pe_callF C__law_odd_colour q hr (pa_cons (pe_callF C__law_at q hr (pa_cons (pv 0) (pa_cons pe_int pa_nil))) pa_nil)))) pss_nil)) (pss_cons (ps_set (i := 6) sc_law.nd rfl (Or.inl rfl) (pe_tupx (pax_c (pv 1) (pax_c (pe_callF C__law_tree_by q hr (pa_cons (pv 0) (pa_cons pe_int (pa_cons (pv 1) (pa_cons (pe_op op_mod (pe_op op_fdivW (pe_callF C__law_at q hr (pa_cons (pv 0) (pa_cons pe_int pa_nil))) pe_int) pe_int) pa_nil))))) pax_nil)))) (pss_cons (ps_set (i := 7) sc_law.nd rfl (Or.inl rfl) (pe_tupx (pax_c (pv 3) (pax_c (pe_callF C__law_tree_by q hr (pa_cons (pv 0) (pa_cons pe_int (pa_cons (pv 3) (pa_cons (pe_op op_mod (pe_op op_fdivW (pe_callF C__law_at q hr (pa_cons (pv 0) (pa_cons pe_int pa_nil))) pe_int) pe_int) pa_nil))))) pax_nil)))) (pss_cons (ps_for PassesOwn.never rfl (pi_range1 rfl T.b_range (pa_cons pe_int pa_nil)) (pg_name (i := 8) sc_law.nd rfl (Or.inl rfl)) (pss_cons (ps_asg (pe_callF C__law_due q hr (pa_cons (pv 8) (pa_cons (pv 1) (pa_cons (pv 3) (pa_cons (pv 2) (pa_cons (pv 4) (pa_cons (pv 5) pa_nil))))))) (pg_tup rfl (pgs_cons (pg_name (i := 9) sc_law.nd rfl (Or.inl rfl)) (pgs_cons (pg_name (i := 10) sc_law.nd rfl (Or.inl rfl)) pgs_nil)))) (pss_one (ps_for PassesOwn.never rfl (pi_range1 rfl T.b_range (pa_cons pe_int pa_nil)) (pg_name (i := 11) sc_law.nd rfl (Or.inl rfl)) (pss_cons (ps_asg (pe_callF C__law_said q hr (pa_cons (pv 8) (pa_cons (pv 6) (pa_cons (pv 7) (pa_cons (pv 2) (pa_cons (pv 4) (pa_cons (pv 5) pa_nil))))))) (pg_tup rfl (pgs_cons (pg_name (i := 12) sc_law.nd rfl (Or.inl rfl)) (pgs_cons (pg_name (i := 13) sc_law.nd rfl (Or.inl rfl)) pgs_nil)))) (pss_one (ps_if (PW.pt (pw_or (pt_cmpR op_ne (pv 12) (pv 9) (nomark _)) (pw_or1 (PW.pt (pw_and (pt_cmpR op_eq (pv 12) pe_str (nomark _)) (pw_and1 (pt_not (pt_val (pe_callF C__law_is_sheet q hr (pa_cons (pv 13) (pa_cons (pv 10) pa_nil))))))))))) (pss_one (ps_ret pe_bl)) pss_nil))))))) (pss_one (ps_ret pe_bl)))))))))))), ?_⟩
  refine ⟨_, rfl, a, ns, 0, rfl, hS, h63, cell ns 0, rfl, fun n hn => ?_⟩
  refine ⟨_, rfl, a, ns, 2, rfl, hS, h63, _, rfl, cell ns 2, n, rfl, hn, fun x H1 s1 hx => ?_⟩
  have hS1 := s1.seq hS
  refine ⟨_, rfl, a, ns, 3, rfl, hS1, h63, cell ns 3, rfl, fun m0 hm0 => ?_⟩
  refine ⟨fun σ H2 => H2 = H1 ∧ ∃ m : Nat, m ≤ 40 ∧ σ = [some (.ref a), some (.int (n : Int)), some x, some (.int (m : Int)), none, none, none, none, none, none, none, none, none, none], ?_, ?_⟩
  · refine ⟨_, rfl, a, ns, 4, rfl, hS1, h63, _, _, rfl, rfl, (by show (0 : Int) < 2; decide), rfl, _, rfl, ite2 (fun _ => ?_) (fun _ => iteF ⟨rfl, m0, hm0, rfl⟩)⟩
    rcases hx.code n with ⟨z, gc⟩ | bc
    · obtain ⟨rfl, hz, hl⟩ := id gc
      refine ⟨_, rfl, _, rfl, _, n, rfl, hn, .inl ⟨⟨z, gc⟩, _, rfl, iteT ?_⟩⟩
      refine ⟨_, rfl, _, rfl, _, _, rfl, ⟨small (by omega), rfl⟩, _, _, rfl, rfl, rfl, n - z.length, by omega, ?_⟩
      rw [show ((n - z.length : Nat) : Int) = (n : Int) - (z.length : Int) by omega]
      rfl
    · exact ⟨_, rfl, _, rfl, _, n, rfl, hn, .inr ⟨bc, _, rfl, iteF ⟨rfl, m0, hm0, rfl⟩⟩⟩
  rintro σ H2 ⟨rfl, m, hm, rfl⟩
  refine ⟨_, rfl, a, ns, 5, rfl, hS1, h63, cell ns 5, rfl, fun wd H3 s3 hwd => ?_⟩
  have hS3 := s3.seq hS1
  refine ⟨_, rfl, a, ns, 6, rfl, hS3, h63, _, _, rfl, rfl, cdivW (by decide) (by decide), _, _, rfl, rfl, (by show (0 : Int) < 36; decide), ?_⟩
  refine ⟨fun σ H4 => Same H3 H4 ∧ ∃ c : V, NumV K H4 c ∧ σ = [some (.ref a), some (.int (n : Int)), some x, some (.int (m : Int)), some wd, some c, none, none, none, none, none, none, none, none], ?_, ?_⟩
  · refine ⟨_, rfl, a, ns, 6, rfl, hS3, h63, _, _, rfl, rfl, (by show (0 : Int) < 2; decide), rfl, _, rfl, ite2 (fun _ => ?_) (fun _ => ⟨Same.refl _, _, .inl ⟨_, rfl⟩, rfl⟩)⟩
    exact ⟨_, rfl, a, ns, 7, rfl, hS3, h63, cell ns 7, rfl, fun c H4 s4 hc => ⟨s4, c, hc, rfl⟩⟩
  rintro σ H4 ⟨s4, c, hc, rfl⟩
  have hS4 := s4.seq hS3
  obtain ⟨k1, hk1, ek1⟩ : ∃ k : Nat, k ≤ 12 ∧ cell ns 4 / 2 % 4 = (k : Int) := ⟨(cell ns 4 / 2 % 4).toNat, by omega, by omega⟩
  obtain ⟨k2, hk2, ek2⟩ : ∃ k : Nat, k ≤ 12 ∧ cell ns 4 / 8 % 4 = (k : Int) := ⟨(cell ns 4 / 8 % 4).toNat, by omega, by omega⟩
  refine ⟨_, rfl, _, rfl, _, rfl, _, rfl, a, ns, 4, rfl, hS4, h63, _, _, rfl, rfl, cdivW (by decide) (by decide), _, _, rfl, rfl, (by show (0 : Int) < 4; decide), a, ns, 8, n, k1, (by show [V.ref a, V.int _, V.int _, V.int (cell ns 4 / 2 % 4)] = [V.ref a, V.int _, V.int _, V.int _]; rw [ek1]; rfl), hS4, h63, by decide, hn, hk1, fun vt t H5 s5 ht gt ct => ⟨(by show 2 ≤ sizeLine; decide), fun ps hps => ?_⟩⟩
  generalize e6 : upd H5 ps _ = H6
  have s6 : Same H5 H6 := e6 ▸ Same.new hps _
  have w6 : H6 ps = some (.tup [.int (n : Int), vt]) := by rw [← e6]; exact upd_same
  have sh6 : ShAt H6 (.ref ps) (n : Int) t := ⟨ps, vt, rfl, w6, ht.up s6.tups⟩
  have s46 := s5.trans s6
  have hS6 := s46.seq hS4
  refine ⟨_, rfl, _, rfl, _, rfl, _, rfl, a, ns, 4, rfl, hS6, h63, _, _, rfl, rfl, cdivW (by decide) (by decide), _, _, rfl, rfl, (by show (0 : Int) < 4; decide), a, ns, 11, m, k2, (by show [V.ref a, V.int _, V.int _, V.int (cell ns 4 / 8 % 4)] = [V.ref a, V.int _, V.int _, V.int _]; rw [ek2]; rfl), hS6, h63, by decide, hm, hk2, fun vu u H7 s7 hu gu cu => ⟨(by show 2 ≤ sizeLine; decide), fun po hpo => ?_⟩⟩
  generalize e8 : upd H7 po _ = H8
  have s8 : Same H7 H8 := e8 ▸ Same.new hpo _
  have w8 : H8 po = some (.tup [.int (m : Int), vu]) := by rw [← e8]; exact upd_same
  have sho8 : ShAt H8 (.ref po) (m : Int) u := ⟨po, vu, rfl, w8, hu.up s8.tups⟩
  have s68 := s7.trans s8
  have s48 := s46.trans s68
  have sh8 := sh6.up s68.tups
  have hx8 := hx.up (s3.trans (s4.trans s48))
  have hwd8 := hwd.up (s4.trans s48)
  have hc8 := hc.up s48
  refine ⟨_, rfl, by decide, by decide, for_range (fun (j : Nat) σ H9 => Same H8 H9 ∧ ∃ o8 o9 o10 o11 o12 o13 : Option V, σ = [some (.ref a), some (.int (n : Int)), some x, some (.int (m : Int)), some wd, some c, some (.ref ps), some (.ref po), o8, o9, o10, o11, o12, o13]) ⟨Same.refl _, _, _, _, _, _, _, rfl⟩ ?_ ?_⟩
  rotate_left
  · rintro σ H9 ⟨s9, o8, o9, o10, o11, o12, o13, rfl⟩
    exact q' _
  rintro j σ H9 hj ⟨s9, o8, o9, o10, o11, o12, o13, rfl⟩
  have hj4 : j < 4 := hj
  rw [show (0 : Int) + (j : Int) = (j : Int) by omega]
  refine ⟨_, rfl, _, rfl, _, rfl, _, rfl, _, rfl, _, rfl, x, wd, c, j, n, m, rfl, hj4, hn, hm, hx8.up s9, hwd8.up s9, hc8.up s9, fun p word k H10 s10 cl hp => ?_⟩
  refine ⟨p, _, rfl, SqT.of hp, rfl, _, _, rfl, _, _, rfl, rfl, ?_⟩
  have s810 := s9.trans s10
  refine ⟨_, rfl, by decide, by decide, for_range (fun (i : Nat) σ H11 => Same H10 H11 ∧ ∃ o11 o12 o13 : Option V, σ = [some (.ref a), some (.int (n : Int)), some x, some (.int (m : Int)), some wd, some c, some (.ref ps), some (.ref po), some (.int (j : Int)), some (.str word), some (.int (k : Int)), o11, o12, o13]) ⟨Same.refl _, _, _, _, rfl⟩ ?_ ?_⟩
  rotate_left
  · rintro σ H11 ⟨s11, o11, o12, o13, rfl⟩
    exact ⟨s810.trans s11, _, _, _, _, _, _, rfl⟩
  rintro i σ H11 hi ⟨s11, o11, o12, o13, rfl⟩
  have s811 := s810.trans s11
  refine ⟨_, rfl, _, rfl, _, rfl, _, rfl, _, rfl, _, rfl, .ref ps, .ref po, x, wd, c, j, n, m, t, u, word, k, rfl, ⟨sh8.up s811.tups, sho8.up s811.tups, hn, hm, gt, gu, cl.up s11⟩, fun ew p2 v' r H12 s12 hp2 hv gr => ?_, fun ew p2 H12 s12 hp2 => ?_⟩
  · subst ew
    refine ⟨p2, _, rfl, SqT.of hp2, rfl, _, _, rfl, _, _, rfl, rfl, ?_⟩
    refine ⟨_, rfl, _, rfl, rfl, _, rfl, iteNS rfl ?_⟩
    refine ⟨_, rfl, rfl, _, rfl, ite2 (fun _ => ?_) (fun d => absurd (decide_eq_true rfl) d)⟩
    have hk := cl.k40 hn hm rfl
    exact ⟨_, rfl, _, rfl, v', k, r, rfl, hv, gr, hk, fun H13 s13 => ⟨_, rfl, iteF ⟨s11.trans (s12.trans s13), _, _, _, rfl⟩⟩⟩
  · refine ⟨p2, _, rfl, SqT.of hp2, rfl, _, _, rfl, _, _, rfl, rfl, ?_⟩
    refine ⟨_, rfl, _, rfl, rfl, _, rfl, iteNS rfl ?_⟩
    refine ⟨_, rfl, rfl, _, rfl, ite2 (fun d => absurd (of_decide_eq_true d) ?_) (fun _ => iteF ⟨s11.trans s12, _, _, _, rfl⟩)⟩
    rcases ew with rfl | rfl | rfl <;> decide +kernel
end
end Qs


namespace Qs
open PySem L2
theorem all_mk {l : PySem.W.OpenLaw} {w : World} {K : PySem.W.Frag} {h : Heap} {mg : Str → Option Value} {fa f0 f1 f2 f3 f4 f5 f6 f7 f8 f9 f10 f11 f12 f13 f14 f15 f16 f17 f18 f19 f20 f21 f22 f23 f24 f25 f26 f27 f28 f29 f30 f31 f32 f33 f34 f35 f36 f37 f38 : Addr} (X : K.In h) (G : h.Ns mainGlobals mg) (hfa : mg "law" = some (.ref fa))
    {od0 an0 od1 an1 od2 an2 od3 an3 od4 an4 od5 an5 od6 an6 od7 an7 od8 an8 od9 an9 od10 an10 od11 an11 od12 an12 od13 an13 od14 an14 od15 an15 od16 an16 od17 an17 od18 an18 od19 an19 od20 an20 od21 an21 od22 an22 od23 an23 od24 an24 od25 an25 od26 an26 od27 an27 od28 an28 od29 an29 od30 an30 od31 an31 od32 an32 od33 an33 od34 an34 od35 an35 od36 an36 od37 an37 od38 an38 : Option Addr} {sl0 sl1 sl2 sl3 sl4 sl5 sl6 sl7 sl8 sl9 sl10 sl11 sl12 sl13 sl14 sl15 sl16 sl17 sl18 sl19 sl20 sl21 sl22 sl23 sl24 sl25 sl26 sl27 sl28 sl29 sl30 sl31 sl32 sl33 sl34 sl35 sl36 sl37 sl38 : Array (Option Value)} {oc0 kV0 dc0 pm0 cd0 ct0 oc1 kV1 dc1 pm1 cd1 ct1 oc2 kV2 dc2 pm2 cd2 ct2 oc3 kV3 dc3 pm3 cd3 ct3 oc4 kV4 dc4 pm4 cd4 ct4 oc5 kV5 dc5 pm5 cd5 ct5 oc6 kV6 dc6 pm6 cd6 ct6 oc7 kV7 dc7 pm7 cd7 ct7 oc8 kV8 dc8 pm8 cd8 ct8 oc9 kV9 dc9 pm9 cd9 ct9 oc10 kV10 dc10 pm10 cd10 ct10 oc11 kV11 dc11 pm11 cd11 ct11 oc12 kV12 dc12 pm12 cd12 ct12 oc13 kV13 dc13 pm13 cd13 ct13 oc14 kV14 dc14 pm14 cd14 ct14 oc15 kV15 dc15 pm15 cd15 ct15 oc16 kV16 dc16 pm16 cd16 ct16 oc17 kV17 dc17 pm17 cd17 ct17 oc18 kV18 dc18 pm18 cd18 ct18 oc19 kV19 dc19 pm19 cd19 ct19 oc20 kV20 dc20 pm20 cd20 ct20 oc21 kV21 dc21 pm21 cd21 ct21 oc22 kV22 dc22 pm22 cd22 ct22 oc23 kV23 dc23 pm23 cd23 ct23 oc24 kV24 dc24 pm24 cd24 ct24 oc25 kV25 dc25 pm25 cd25 ct25 oc26 kV26 dc26 pm26 cd26 ct26 oc27 kV27 dc27 pm27 cd27 ct27 oc28 kV28 dc28 pm28 cd28 ct28 oc29 kV29 dc29 pm29 cd29 ct29 oc30 kV30 dc30 pm30 cd30 ct30 oc31 kV31 dc31 pm31 cd31 ct31 oc32 kV32 dc32 pm32 cd32 ct32 oc33 kV33 dc33 pm33 cd33 ct33 oc34 kV34 dc34 pm34 cd34 ct34 oc35 kV35 dc35 pm35 cd35 ct35 oc36 kV36 dc36 pm36 cd36 ct36 oc37 kV37 dc37 pm37 cd37 ct37 oc38 kV38 dc38 pm38 cd38 ct38 : Value}
    (a0 : PySem.W.nsIn K mainGlobals "is_whole" = some (some (.ref f0))) (l0 : K.lookup f0 = some ⟨oc0, od0, .func (PySem.W.fnOf "is_whole" "is_whole" (defArgs s_is_whole) (defBody s_is_whole) (defScope s_is_whole) .none kV0 dc0 pm0 an0 cd0 ct0), sl0⟩) (c0 : PySem.W.codeIn K cd0 "is_whole" = true) (k0 : PySem.W.keepIn K (.ref f0) = true)
    (a1 : PySem.W.nsIn K mainGlobals "is_level" = some (some (.ref f1))) (l1 : K.lookup f1 = some ⟨oc1, od1, .func (PySem.W.fnOf "is_level" "is_level" (defArgs s_is_level) (defBody s_is_level) (defScope s_is_level) .none kV1 dc1 pm1 an1 cd1 ct1), sl1⟩) (c1 : PySem.W.codeIn K cd1 "is_level" = true) (k1 : PySem.W.keepIn K (.ref f1) = true)
    (a2 : PySem.W.nsIn K mainGlobals "is_colour" = some (some (.ref f2))) (l2 : K.lookup f2 = some ⟨oc2, od2, .func (PySem.W.fnOf "is_colour" "is_colour" (defArgs s_is_colour) (defBody s_is_colour) (defScope s_is_colour) .none kV2 dc2 pm2 an2 cd2 ct2), sl2⟩) (c2 : PySem.W.codeIn K cd2 "is_colour" = true) (k2 : PySem.W.keepIn K (.ref f2) = true)
    (a3 : PySem.W.nsIn K mainGlobals "is_code" = some (some (.ref f3))) (l3 : K.lookup f3 = some ⟨oc3, od3, .func (PySem.W.fnOf "is_code" "is_code" (defArgs s_is_code) (defBody s_is_code) (defScope s_is_code) .none kV3 dc3 pm3 an3 cd3 ct3), sl3⟩) (c3 : PySem.W.codeIn K cd3 "is_code" = true) (k3 : PySem.W.keepIn K (.ref f3) = true)
    (a4 : PySem.W.nsIn K mainGlobals "width_of" = some (some (.ref f4))) (l4 : K.lookup f4 = some ⟨oc4, od4, .func (PySem.W.fnOf "width_of" "width_of" (defArgs s_width_of) (defBody s_width_of) (defScope s_width_of) .none kV4 dc4 pm4 an4 cd4 ct4), sl4⟩) (c4 : PySem.W.codeIn K cd4 "width_of" = true) (k4 : PySem.W.keepIn K (.ref f4) = true)
    (a5 : PySem.W.nsIn K mainGlobals "is_of_one_colour" = some (some (.ref f5))) (l5 : K.lookup f5 = some ⟨oc5, od5, .func (PySem.W.fnOf "is_of_one_colour" "is_of_one_colour" (defArgs s_is_of_one_colour) (defBody s_is_of_one_colour) (defScope s_is_of_one_colour) .none kV5 dc5 pm5 an5 cd5 ct5), sl5⟩) (c5 : PySem.W.codeIn K cd5 "is_of_one_colour" = true) (k5 : PySem.W.keepIn K (.ref f5) = true)
    (a6 : PySem.W.nsIn K mainGlobals "gathered" = some (some (.ref f6))) (l6 : K.lookup f6 = some ⟨oc6, od6, .func (PySem.W.fnOf "gathered" "gathered" (defArgs s_gathered) (defBody s_gathered) (defScope s_gathered) .none kV6 dc6 pm6 an6 cd6 ct6), sl6⟩) (c6 : PySem.W.codeIn K cd6 "gathered" = true) (k6 : PySem.W.keepIn K (.ref f6) = true)
    (a7 : PySem.W.nsIn K mainGlobals "parted" = some (some (.ref f7))) (l7 : K.lookup f7 = some ⟨oc7, od7, .func (PySem.W.fnOf "parted" "parted" (defArgs s_parted) (defBody s_parted) (defScope s_parted) .none kV7 dc7 pm7 an7 cd7 ct7), sl7⟩) (c7 : PySem.W.codeIn K cd7 "parted" = true) (k7 : PySem.W.keepIn K (.ref f7) = true)
    (a8 : PySem.W.nsIn K mainGlobals "tree_at" = some (some (.ref f8))) (l8 : K.lookup f8 = some ⟨oc8, od8, .func (PySem.W.fnOf "tree_at" "tree_at" (defArgs s_tree_at) (defBody s_tree_at) (defScope s_tree_at) .none kV8 dc8 pm8 an8 cd8 ct8), sl8⟩) (c8 : PySem.W.codeIn K cd8 "tree_at" = true) (k8 : PySem.W.keepIn K (.ref f8) = true)
    (a9 : PySem.W.nsIn K mainGlobals "planted" = some (some (.ref f9))) (l9 : K.lookup f9 = some ⟨oc9, od9, .func (PySem.W.fnOf "planted" "planted" (defArgs s_planted) (defBody s_planted) (defScope s_planted) .none kV9 dc9 pm9 an9 cd9 ct9), sl9⟩) (c9 : PySem.W.codeIn K cd9 "planted" = true) (k9 : PySem.W.keepIn K (.ref f9) = true)
    (a10 : PySem.W.nsIn K mainGlobals "quarter_with" = some (some (.ref f10))) (l10 : K.lookup f10 = some ⟨oc10, od10, .func (PySem.W.fnOf "quarter_with" "quarter_with" (defArgs s_quarter_with) (defBody s_quarter_with) (defScope s_quarter_with) .none kV10 dc10 pm10 an10 cd10 ct10), sl10⟩) (c10 : PySem.W.codeIn K cd10 "quarter_with" = true) (k10 : PySem.W.keepIn K (.ref f10) = true)
    (a11 : PySem.W.nsIn K mainGlobals "covered" = some (some (.ref f11))) (l11 : K.lookup f11 = some ⟨oc11, od11, .func (PySem.W.fnOf "covered" "covered" (defArgs s_covered) (defBody s_covered) (defScope s_covered) .none kV11 dc11 pm11 an11 cd11 ct11), sl11⟩) (c11 : PySem.W.codeIn K cd11 "covered" = true) (k11 : PySem.W.keepIn K (.ref f11) = true)
    (a12 : PySem.W.nsIn K mainGlobals "need_code_within" = some (some (.ref f12))) (l12 : K.lookup f12 = some ⟨oc12, od12, .func (PySem.W.fnOf "need_code_within" "need_code_within" (defArgs s_need_code_within) (defBody s_need_code_within) (defScope s_need_code_within) .none kV12 dc12 pm12 an12 cd12 ct12), sl12⟩) (c12 : PySem.W.codeIn K cd12 "need_code_within" = true) (k12 : PySem.W.keepIn K (.ref f12) = true)
    (a13 : PySem.W.nsIn K mainGlobals "need_small_level" = some (some (.ref f13))) (l13 : K.lookup f13 = some ⟨oc13, od13, .func (PySem.W.fnOf "need_small_level" "need_small_level" (defArgs s_need_small_level) (defBody s_need_small_level) (defScope s_need_small_level) .none kV13 dc13 pm13 an13 cd13 ct13), sl13⟩) (c13 : PySem.W.codeIn K cd13 "need_small_level" = true) (k13 : PySem.W.keepIn K (.ref f13) = true)
    (a14 : PySem.W.nsIn K mainGlobals "need_colour" = some (some (.ref f14))) (l14 : K.lookup f14 = some ⟨oc14, od14, .func (PySem.W.fnOf "need_colour" "need_colour" (defArgs s_need_colour) (defBody s_need_colour) (defScope s_need_colour) .none kV14 dc14 pm14 an14 cd14 ct14), sl14⟩) (c14 : PySem.W.codeIn K cd14 "need_colour" = true) (k14 : PySem.W.keepIn K (.ref f14) = true)
    (a15 : PySem.W.nsIn K mainGlobals "part_at" = some (some (.ref f15))) (l15 : K.lookup f15 = some ⟨oc15, od15, .func (PySem.W.fnOf "part_at" "part_at" (defArgs s_part_at) (defBody s_part_at) (defScope s_part_at) .none kV15 dc15 pm15 an15 cd15 ct15), sl15⟩) (c15 : PySem.W.codeIn K cd15 "part_at" = true) (k15 : PySem.W.keepIn K (.ref f15) = true)
    (a16 : PySem.W.nsIn K mainGlobals "put_in" = some (some (.ref f16))) (l16 : K.lookup f16 = some ⟨oc16, od16, .func (PySem.W.fnOf "put_in" "put_in" (defArgs s_put_in) (defBody s_put_in) (defScope s_put_in) .none kV16 dc16 pm16 an16 cd16 ct16), sl16⟩) (c16 : PySem.W.codeIn K cd16 "put_in" = true) (k16 : PySem.W.keepIn K (.ref f16) = true)
    (a17 : PySem.W.nsIn K mainGlobals "window" = some (some (.ref f17))) (l17 : K.lookup f17 = some ⟨oc17, od17, .func (PySem.W.fnOf "window" "window" (defArgs s_window) (defBody s_window) (defScope s_window) .none kV17 dc17 pm17 an17 cd17 ct17), sl17⟩) (c17 : PySem.W.codeIn K cd17 "window" = true) (k17 : PySem.W.keepIn K (.ref f17) = true)
    (a18 : PySem.W.nsIn K mainGlobals "laid" = some (some (.ref f18))) (l18 : K.lookup f18 = some ⟨oc18, od18, .func (PySem.W.fnOf "laid" "laid" (defArgs s_laid) (defBody s_laid) (defScope s_laid) .none kV18 dc18 pm18 an18 cd18 ct18), sl18⟩) (c18 : PySem.W.codeIn K cd18 "laid" = true) (k18 : PySem.W.keepIn K (.ref f18) = true)
    (a19 : PySem.W.nsIn K mainGlobals "_law_at" = some (some (.ref f19))) (l19 : K.lookup f19 = some ⟨oc19, od19, .func (PySem.W.fnOf "_law_at" "_law_at" (defArgs s_law_at) (defBody s_law_at) (defScope s_law_at) .none kV19 dc19 pm19 an19 cd19 ct19), sl19⟩) (c19 : PySem.W.codeIn K cd19 "_law_at" = true) (k19 : PySem.W.keepIn K (.ref f19) = true)
    (a20 : PySem.W.nsIn K mainGlobals "_law_mix" = some (some (.ref f20))) (l20 : K.lookup f20 = some ⟨oc20, od20, .func (PySem.W.fnOf "_law_mix" "_law_mix" (defArgs s_law_mix) (defBody s_law_mix) (defScope s_law_mix) .none kV20 dc20 pm20 an20 cd20 ct20), sl20⟩) (c20 : PySem.W.codeIn K cd20 "_law_mix" = true) (k20 : PySem.W.keepIn K (.ref f20) = true)
    (a21 : PySem.W.nsIn K mainGlobals "_law_code_by" = some (some (.ref f21))) (l21 : K.lookup f21 = some ⟨oc21, od21, .func (PySem.W.fnOf "_law_code_by" "_law_code_by" (defArgs s_law_code_by) (defBody s_law_code_by) (defScope s_law_code_by) .none kV21 dc21 pm21 an21 cd21 ct21), sl21⟩) (c21 : PySem.W.codeIn K cd21 "_law_code_by" = true) (k21 : PySem.W.keepIn K (.ref f21) = true)
    (a22 : PySem.W.nsIn K mainGlobals "_law_colour_by" = some (some (.ref f22))) (l22 : K.lookup f22 = some ⟨oc22, od22, .func (PySem.W.fnOf "_law_colour_by" "_law_colour_by" (defArgs s_law_colour_by) (defBody s_law_colour_by) (defScope s_law_colour_by) .none kV22 dc22 pm22 an22 cd22 ct22), sl22⟩) (c22 : PySem.W.codeIn K cd22 "_law_colour_by" = true) (k22 : PySem.W.keepIn K (.ref f22) = true)
    (a23 : PySem.W.nsIn K mainGlobals "_law_four" = some (some (.ref f23))) (l23 : K.lookup f23 = some ⟨oc23, od23, .func (PySem.W.fnOf "_law_four" "_law_four" (defArgs s_law_four) (defBody s_law_four) (defScope s_law_four) .none kV23 dc23 pm23 an23 cd23 ct23), sl23⟩) (c23 : PySem.W.codeIn K cd23 "_law_four" = true) (k23 : PySem.W.keepIn K (.ref f23) = true)
    (a24 : PySem.W.nsIn K mainGlobals "_law_painted" = some (some (.ref f24))) (l24 : K.lookup f24 = some ⟨oc24, od24, .func (PySem.W.fnOf "_law_painted" "_law_painted" (defArgs s_law_painted) (defBody s_law_painted) (defScope s_law_painted) .none kV24 dc24 pm24 an24 cd24 ct24), sl24⟩) (c24 : PySem.W.codeIn K cd24 "_law_painted" = true) (k24 : PySem.W.keepIn K (.ref f24) = true)
    (a25 : PySem.W.nsIn K mainGlobals "_law_tree_by" = some (some (.ref f25))) (l25 : K.lookup f25 = some ⟨oc25, od25, .func (PySem.W.fnOf "_law_tree_by" "_law_tree_by" (defArgs s_law_tree_by) (defBody s_law_tree_by) (defScope s_law_tree_by) .none kV25 dc25 pm25 an25 cd25 ct25), sl25⟩) (c25 : PySem.W.codeIn K cd25 "_law_tree_by" = true) (k25 : PySem.W.keepIn K (.ref f25) = true)
    (a26 : PySem.W.nsIn K mainGlobals "_law_is_colour" = some (some (.ref f26))) (l26 : K.lookup f26 = some ⟨oc26, od26, .func (PySem.W.fnOf "_law_is_colour" "_law_is_colour" (defArgs s_law_is_colour) (defBody s_law_is_colour) (defScope s_law_is_colour) .none kV26 dc26 pm26 an26 cd26 ct26), sl26⟩) (c26 : PySem.W.codeIn K cd26 "_law_is_colour" = true) (k26 : PySem.W.keepIn K (.ref f26) = true)
    (a27 : PySem.W.nsIn K mainGlobals "_law_good" = some (some (.ref f27))) (l27 : K.lookup f27 = some ⟨oc27, od27, .func (PySem.W.fnOf "_law_good" "_law_good" (defArgs s_law_good) (defBody s_law_good) (defScope s_law_good) .none kV27 dc27 pm27 an27 cd27 ct27), sl27⟩) (c27 : PySem.W.codeIn K cd27 "_law_good" = true) (k27 : PySem.W.keepIn K (.ref f27) = true)
    (a28 : PySem.W.nsIn K mainGlobals "_law_is_sheet" = some (some (.ref f28))) (l28 : K.lookup f28 = some ⟨oc28, od28, .func (PySem.W.fnOf "_law_is_sheet" "_law_is_sheet" (defArgs s_law_is_sheet) (defBody s_law_is_sheet) (defScope s_law_is_sheet) .none kV28 dc28 pm28 an28 cd28 ct28), sl28⟩) (c28 : PySem.W.codeIn K cd28 "_law_is_sheet" = true) (k28 : PySem.W.keepIn K (.ref f28) = true)
    (a29 : PySem.W.nsIn K mainGlobals "_law_odd_colour" = some (some (.ref f29))) (l29 : K.lookup f29 = some ⟨oc29, od29, .func (PySem.W.fnOf "_law_odd_colour" "_law_odd_colour" (defArgs s_law_odd_colour) (defBody s_law_odd_colour) (defScope s_law_odd_colour) .none kV29 dc29 pm29 an29 cd29 ct29), sl29⟩) (c29 : PySem.W.codeIn K cd29 "_law_odd_colour" = true) (k29 : PySem.W.keepIn K (.ref f29) = true)
    (a30 : PySem.W.nsIn K mainGlobals "_law_level" = some (some (.ref f30))) (l30 : K.lookup f30 = some ⟨oc30, od30, .func (PySem.W.fnOf "_law_level" "_law_level" (defArgs s_law_level) (defBody s_law_level) (defScope s_law_level) .none kV30 dc30 pm30 an30 cd30 ct30), sl30⟩) (c30 : PySem.W.codeIn K cd30 "_law_level" = true) (k30 : PySem.W.keepIn K (.ref f30) = true)
    (a31 : PySem.W.nsIn K mainGlobals "_law_wide" = some (some (.ref f31))) (l31 : K.lookup f31 = some ⟨oc31, od31, .func (PySem.W.fnOf "_law_wide" "_law_wide" (defArgs s_law_wide) (defBody s_law_wide) (defScope s_law_wide) .none kV31 dc31 pm31 an31 cd31 ct31), sl31⟩) (c31 : PySem.W.codeIn K cd31 "_law_wide" = true) (k31 : PySem.W.keepIn K (.ref f31) = true)
    (a32 : PySem.W.nsIn K mainGlobals "_law_thing" = some (some (.ref f32))) (l32 : K.lookup f32 = some ⟨oc32, od32, .func (PySem.W.fnOf "_law_thing" "_law_thing" (defArgs s_law_thing) (defBody s_law_thing) (defScope s_law_thing) .none kV32 dc32 pm32 an32 cd32 ct32), sl32⟩) (c32 : PySem.W.codeIn K cd32 "_law_thing" = true) (k32 : PySem.W.keepIn K (.ref f32) = true)
    (a33 : PySem.W.nsIn K mainGlobals "_law_is_code" = some (some (.ref f33))) (l33 : K.lookup f33 = some ⟨oc33, od33, .func (PySem.W.fnOf "_law_is_code" "_law_is_code" (defArgs s_law_is_code) (defBody s_law_is_code) (defScope s_law_is_code) .none kV33 dc33 pm33 an33 cd33 ct33), sl33⟩) (c33 : PySem.W.codeIn K cd33 "_law_is_code" = true) (k33 : PySem.W.keepIn K (.ref f33) = true)
    (a34 : PySem.W.nsIn K mainGlobals "_law_word" = some (some (.ref f34))) (l34 : K.lookup f34 = some ⟨oc34, od34, .func (PySem.W.fnOf "_law_word" "_law_word" (defArgs s_law_word) (defBody s_law_word) (defScope s_law_word) .none kV34 dc34 pm34 an34 cd34 ct34), sl34⟩) (c34 : PySem.W.codeIn K cd34 "_law_word" = true) (k34 : PySem.W.keepIn K (.ref f34) = true)
    (a35 : PySem.W.nsIn K mainGlobals "_law_asked" = some (some (.ref f35))) (l35 : K.lookup f35 = some ⟨oc35, od35, .func (PySem.W.fnOf "_law_asked" "_law_asked" (defArgs s_law_asked) (defBody s_law_asked) (defScope s_law_asked) .none kV35 dc35 pm35 an35 cd35 ct35), sl35⟩) (c35 : PySem.W.codeIn K cd35 "_law_asked" = true) (k35 : PySem.W.keepIn K (.ref f35) = true)
    (a36 : PySem.W.nsIn K mainGlobals "_law_said" = some (some (.ref f36))) (l36 : K.lookup f36 = some ⟨oc36, od36, .func (PySem.W.fnOf "_law_said" "_law_said" (defArgs s_law_said) (defBody s_law_said) (defScope s_law_said) .none kV36 dc36 pm36 an36 cd36 ct36), sl36⟩) (c36 : PySem.W.codeIn K cd36 "_law_said" = true) (k36 : PySem.W.keepIn K (.ref f36) = true)
    (a37 : PySem.W.nsIn K mainGlobals "_law_due" = some (some (.ref f37))) (l37 : K.lookup f37 = some ⟨oc37, od37, .func (PySem.W.fnOf "_law_due" "_law_due" (defArgs s_law_due) (defBody s_law_due) (defScope s_law_due) .none kV37 dc37 pm37 an37 cd37 ct37), sl37⟩) (c37 : PySem.W.codeIn K cd37 "_law_due" = true) (k37 : PySem.W.keepIn K (.ref f37) = true)
    (a38 : PySem.W.nsIn K mainGlobals "law" = some (some (.ref f38))) (l38 : K.lookup f38 = some ⟨oc38, od38, .func (PySem.W.fnOf "law" "law" (defArgs s_law) (defBody s_law) (defScope s_law) .none kV38 dc38 pm38 an38 cd38 ct38), sl38⟩) (c38 : PySem.W.codeIn K cd38 "law" = true) (k38 : PySem.W.keepIn K (.ref f38) = true)
    (z0 : PySem.W.nsIn K mainGlobals "isinstance" = some none)
    (z1 : PySem.W.nsIn K mainGlobals "int" = some none)
    (z2 : PySem.W.nsIn K mainGlobals "bool" = some none)
    {zt3 : Tok} (z3 : PySem.W.nsIn K mainGlobals "MOST" = some (some (.int 40 zt3)))
    {zt4 : Tok} (z4 : PySem.W.nsIn K mainGlobals "LAST_COLOUR" = some (some (.int 35 zt4)))
    (z5 : PySem.W.nsIn K mainGlobals "all" = some none)
    (z6 : PySem.W.nsIn K mainGlobals "str" = some none)
    (z7 : PySem.W.nsIn K mainGlobals "len" = some none)
    {zt8 : Tok} (z8 : PySem.W.nsIn K mainGlobals "QUARTERS" = some (some (.str "0123" zt8)))
    {zt9 : Tok} (z9 : PySem.W.nsIn K mainGlobals "MOST_SMALL" = some (some (.int 6 zt9)))
    (z10 : PySem.W.nsIn K mainGlobals "range" = some none)
    (z11 : PySem.W.nsIn K mainGlobals "tuple" = some none)
    (z12 : PySem.W.nsIn K mainGlobals "list" = some none)
    (z13 : PySem.W.nsIn K mainGlobals "max" = some none)
    (z14 : PySem.W.nsIn K mainGlobals "min" = some none)
    (z15 : PySem.W.nsIn K mainGlobals "ValueError" = some none)
    {cNoLevel cNoCode cNoColour cNoPlace cNoSide cNoLeaf cTwice cGap cNoText cNoName cNoNumber cNoRow cSheetError : Addr}
    (y0 : PySem.W.nsIn K mainGlobals "NoLevel" = some (some (.ref cNoLevel)))
    (y1 : PySem.W.nsIn K mainGlobals "NoCode" = some (some (.ref cNoCode)))
    (y2 : PySem.W.nsIn K mainGlobals "NoColour" = some (some (.ref cNoColour)))
    (y3 : PySem.W.nsIn K mainGlobals "NoPlace" = some (some (.ref cNoPlace)))
    (y4 : PySem.W.nsIn K mainGlobals "NoSide" = some (some (.ref cNoSide)))
    (y5 : PySem.W.nsIn K mainGlobals "NoLeaf" = some (some (.ref cNoLeaf)))
    (y6 : PySem.W.nsIn K mainGlobals "Twice" = some (some (.ref cTwice)))
    (y7 : PySem.W.nsIn K mainGlobals "Gap" = some (some (.ref cGap)))
    (y8 : PySem.W.nsIn K mainGlobals "NoText" = some (some (.ref cNoText)))
    (y9 : PySem.W.nsIn K mainGlobals "NoName" = some (some (.ref cNoName)))
    (y10 : PySem.W.nsIn K mainGlobals "NoNumber" = some (some (.ref cNoNumber)))
    (y11 : PySem.W.nsIn K mainGlobals "NoRow" = some (some (.ref cNoRow)))
    (y12 : PySem.W.nsIn K mainGlobals "SheetError" = some (some (.ref cSheetError)))
    (y13 : PySem.W.excIn K cNoLevel bmV "ValueError.__new__" = true)
    (y14 : PySem.W.findIn K (.ref cNoLevel) "__getattribute__" = some (some (.builtin "BaseException.__getattribute__")))
    (y15 : PySem.W.findIn K (.ref cNoLevel) "__getattr__" = some none)
    (y16 : PySem.W.findIn K (.ref cNoLevel) "__class__" = some (some (.builtin "object.__class__")))
    (y17 : PySem.W.subIn K (.ref cNoLevel) (.type "object") = some true)
    (y18 : PySem.W.subIn K (.ref cNoLevel) (.type "BaseException") = some true)
    {cdNoLevel : ClassData}
    (y19 : PySem.W.clsIn K cNoLevel = some cdNoLevel)
    (y20 : PySem.W.exmOne K (.ref cNoLevel) (.ref cSheetError) = some true)
    (y21 : PySem.W.kitOne K (.ref cNoLevel) (.type "ValueError") = some true)
    (y22 : PySem.W.kitOne K (.ref cNoLevel) (.ref cNoCode) = some false)
    (y23 : PySem.W.kitOne K (.ref cNoLevel) (.ref cNoColour) = some false)
    (y24 : PySem.W.kitOne K (.ref cNoLevel) (.ref cNoPlace) = some false)
    (y25 : PySem.W.kitOne K (.ref cNoLevel) (.ref cNoSide) = some false)
    (y26 : PySem.W.kitOne K (.ref cNoLevel) (.ref cNoLeaf) = some false)
    (y27 : PySem.W.kitOne K (.ref cNoLevel) (.ref cTwice) = some false)
    (y28 : PySem.W.kitOne K (.ref cNoLevel) (.ref cGap) = some false)
    (y29 : PySem.W.kitOne K (.ref cNoLevel) (.ref cNoText) = some false)
    (y30 : PySem.W.kitOne K (.ref cNoLevel) (.ref cNoName) = some false)
    (y31 : PySem.W.kitOne K (.ref cNoLevel) (.ref cNoNumber) = some false)
    (y32 : PySem.W.kitOne K (.ref cNoLevel) (.ref cNoRow) = some false)
    (y33 : PySem.W.excIn K cNoCode bmV "ValueError.__new__" = true)
    (y34 : PySem.W.findIn K (.ref cNoCode) "__getattribute__" = some (some (.builtin "BaseException.__getattribute__")))
    (y35 : PySem.W.findIn K (.ref cNoCode) "__getattr__" = some none)
    (y36 : PySem.W.findIn K (.ref cNoCode) "__class__" = some (some (.builtin "object.__class__")))
    (y37 : PySem.W.subIn K (.ref cNoCode) (.type "object") = some true)
    (y38 : PySem.W.subIn K (.ref cNoCode) (.type "BaseException") = some true)
    {cdNoCode : ClassData}
    (y39 : PySem.W.clsIn K cNoCode = some cdNoCode)
    (y40 : PySem.W.exmOne K (.ref cNoCode) (.ref cSheetError) = some true)
    (y41 : PySem.W.kitOne K (.ref cNoCode) (.type "ValueError") = some true)
    (y42 : PySem.W.kitOne K (.ref cNoCode) (.ref cNoLevel) = some false)
    (y43 : PySem.W.kitOne K (.ref cNoCode) (.ref cNoColour) = some false)
    (y44 : PySem.W.kitOne K (.ref cNoCode) (.ref cNoPlace) = some false)
    (y45 : PySem.W.kitOne K (.ref cNoCode) (.ref cNoSide) = some false)
    (y46 : PySem.W.kitOne K (.ref cNoCode) (.ref cNoLeaf) = some false)
    (y47 : PySem.W.kitOne K (.ref cNoCode) (.ref cTwice) = some false)
    (y48 : PySem.W.kitOne K (.ref cNoCode) (.ref cGap) = some false)
    (y49 : PySem.W.kitOne K (.ref cNoCode) (.ref cNoText) = some false)
    (y50 : PySem.W.kitOne K (.ref cNoCode) (.ref cNoName) = some false)
    (y51 : PySem.W.kitOne K (.ref cNoCode) (.ref cNoNumber) = some false)
    (y52 : PySem.W.kitOne K (.ref cNoCode) (.ref cNoRow) = some false)
    (y53 : PySem.W.excIn K cNoColour bmV "ValueError.__new__" = true)
    (y54 : PySem.W.findIn K (.ref cNoColour) "__getattribute__" = some (some (.builtin "BaseException.__getattribute__")))
    (y55 : PySem.W.findIn K (.ref cNoColour) "__getattr__" = some none)
    (y56 : PySem.W.findIn K (.ref cNoColour) "__class__" = some (some (.builtin "object.__class__")))
    (y57 : PySem.W.subIn K (.ref cNoColour) (.type "object") = some true)
    (y58 : PySem.W.subIn K (.ref cNoColour) (.type "BaseException") = some true)
    {cdNoColour : ClassData}
    (y59 : PySem.W.clsIn K cNoColour = some cdNoColour)
    (y60 : PySem.W.exmOne K (.ref cNoColour) (.ref cSheetError) = some true)
    (y61 : PySem.W.kitOne K (.ref cNoColour) (.type "ValueError") = some true)
    (y62 : PySem.W.kitOne K (.ref cNoColour) (.ref cNoLevel) = some false)
    (y63 : PySem.W.kitOne K (.ref cNoColour) (.ref cNoCode) = some false)
    (y64 : PySem.W.kitOne K (.ref cNoColour) (.ref cNoPlace) = some false)
    (y65 : PySem.W.kitOne K (.ref cNoColour) (.ref cNoSide) = some false)
    (y66 : PySem.W.kitOne K (.ref cNoColour) (.ref cNoLeaf) = some false)
    (y67 : PySem.W.kitOne K (.ref cNoColour) (.ref cTwice) = some false)
    (y68 : PySem.W.kitOne K (.ref cNoColour) (.ref cGap) = some false)
    (y69 : PySem.W.kitOne K (.ref cNoColour) (.ref cNoText) = some false)
    (y70 : PySem.W.kitOne K (.ref cNoColour) (.ref cNoName) = some false)
    (y71 : PySem.W.kitOne K (.ref cNoColour) (.ref cNoNumber) = some false)
    (y72 : PySem.W.kitOne K (.ref cNoColour) (.ref cNoRow) = some false)
    : ∃ fd : FuncData, (∀ (s : Shared) (v : Value), BindsTo s fd ⟨[v], []⟩ [("_law_script", v)]) ∧ ∀ base : Heap, K.In base → base.Ns mainGlobals mg → FnOk l.prog w K mg base (CXe l.prog w) 47 fa fd ["_law_script"] (sp_law K) := by
  have e := hfa.symm.trans (PySem.W.mg_of X G a38)
  cases e
  have T : Tx K mg := ⟨PySem.W.mg_none_of X G z0, PySem.W.mg_none_of X G z1, PySem.W.mg_none_of X G z2, ⟨_, PySem.W.mg_of X G z3⟩, ⟨_, PySem.W.mg_of X G z4⟩, PySem.W.mg_none_of X G z5, PySem.W.mg_none_of X G z6, PySem.W.mg_none_of X G z7, ⟨_, PySem.W.mg_of X G z8⟩, ⟨_, PySem.W.mg_of X G z9⟩, PySem.W.mg_none_of X G z10, PySem.W.mg_none_of X G z11, PySem.W.mg_none_of X G z12, PySem.W.mg_none_of X G z13, PySem.W.mg_none_of X G z14, PySem.W.mg_none_of X G z15⟩
  have Y : Yx K mg := ⟨cNoLevel, cNoCode, cNoColour, cNoPlace, cNoSide, cNoLeaf, cTwice, cGap, cNoText, cNoName, cNoNumber, cNoRow, cSheetError, PySem.W.mg_of X G y0, PySem.W.mg_of X G y1, PySem.W.mg_of X G y2, PySem.W.mg_of X G y3, PySem.W.mg_of X G y4, PySem.W.mg_of X G y5, PySem.W.mg_of X G y6, PySem.W.mg_of X G y7, PySem.W.mg_of X G y8, PySem.W.mg_of X G y9, PySem.W.mg_of X G y10, PySem.W.mg_of X G y11, PySem.W.mg_of X G y12, ⟨PySem.W.mg_of X G y0, y13⟩, ⟨y14, y15, y16, y17, y18, by rw [y19]; rfl⟩, y20, y21, y22, y23, y24, y25, y26, y27, y28, y29, y30, y31, y32, ⟨PySem.W.mg_of X G y1, y33⟩, ⟨y34, y35, y36, y37, y38, by rw [y39]; rfl⟩, y40, y41, y42, y43, y44, y45, y46, y47, y48, y49, y50, y51, y52, ⟨PySem.W.mg_of X G y2, y53⟩, ⟨y54, y55, y56, y57, y58, by rw [y59]; rfl⟩, y60, y61, y62, y63, y64, y65, y66, y67, y68, y69, y70, y71, y72⟩
  have F0 := funD_mk (st := s_is_whole) l0 c0 k0
  have F1 := funD_mk (st := s_is_level) l1 c1 k1
  have F2 := funD_mk (st := s_is_colour) l2 c2 k2
  have F3 := funD_mk (st := s_is_code) l3 c3 k3
  have F4 := funD_mk (st := s_width_of) l4 c4 k4
  have F5 := funD_mk (st := s_is_of_one_colour) l5 c5 k5
  have F6 := funD_mk (st := s_gathered) l6 c6 k6
  have F7 := funD_mk (st := s_parted) l7 c7 k7
  have F8 := funD_mk (st := s_tree_at) l8 c8 k8
  have F9 := funD_mk (st := s_planted) l9 c9 k9
  have F10 := funD_mk (st := s_quarter_with) l10 c10 k10
  have F11 := funD_mk (st := s_covered) l11 c11 k11
  have F12 := funD_mk (st := s_need_code_within) l12 c12 k12
  have F13 := funD_mk (st := s_need_small_level) l13 c13 k13
  have F14 := funD_mk (st := s_need_colour) l14 c14 k14
  have F15 := funD_mk (st := s_part_at) l15 c15 k15
  have F16 := funD_mk (st := s_put_in) l16 c16 k16
  have F17 := funD_mk (st := s_window) l17 c17 k17
  have F18 := funD_mk (st := s_laid) l18 c18 k18
  have F19 := funD_mk (st := s_law_at) l19 c19 k19
  have F20 := funD_mk (st := s_law_mix) l20 c20 k20
  have F21 := funD_mk (st := s_law_code_by) l21 c21 k21
  have F22 := funD_mk (st := s_law_colour_by) l22 c22 k22
  have F23 := funD_mk (st := s_law_four) l23 c23 k23
  have F24 := funD_mk (st := s_law_painted) l24 c24 k24
  have F25 := funD_mk (st := s_law_tree_by) l25 c25 k25
  have F26 := funD_mk (st := s_law_is_colour) l26 c26 k26
  have F27 := funD_mk (st := s_law_good) l27 c27 k27
  have F28 := funD_mk (st := s_law_is_sheet) l28 c28 k28
  have F29 := funD_mk (st := s_law_odd_colour) l29 c29 k29
  have F30 := funD_mk (st := s_law_level) l30 c30 k30
  have F31 := funD_mk (st := s_law_wide) l31 c31 k31
  have F32 := funD_mk (st := s_law_thing) l32 c32 k32
  have F33 := funD_mk (st := s_law_is_code) l33 c33 k33
  have F34 := funD_mk (st := s_law_word) l34 c34 k34
  have F35 := funD_mk (st := s_law_asked) l35 c35 k35
  have F36 := funD_mk (st := s_law_said) l36 c36 k36
  have F37 := funD_mk (st := s_law_due) l37 c37 k37
  have F38 := funD_mk (st := s_law) l38 c38 k38
  have b0 := F0.binds (ps := ["thing"]) fun _ _ _ _ _ _ us hl => match us, hl with | [_], _ => rfl
  have b1 := F1.binds (ps := ["thing"]) fun _ _ _ _ _ _ us hl => match us, hl with | [_], _ => rfl
  have b2 := F2.binds (ps := ["thing"]) fun _ _ _ _ _ _ us hl => match us, hl with | [_], _ => rfl
  have b3 := F3.binds (ps := ["thing"]) fun _ _ _ _ _ _ us hl => match us, hl with | [_], _ => rfl
  have b4 := F4.binds (ps := ["level"]) fun _ _ _ _ _ _ us hl => match us, hl with | [_], _ => rfl
  have b5 := F5.binds (ps := ["parts"]) fun _ _ _ _ _ _ us hl => match us, hl with | [_], _ => rfl
  have b6 := F6.binds (ps := ["parts"]) fun _ _ _ _ _ _ us hl => match us, hl with | [_], _ => rfl
  have b7 := F7.binds (ps := ["tree"]) fun _ _ _ _ _ _ us hl => match us, hl with | [_], _ => rfl
  have b8 := F8.binds (ps := ["tree", "code"]) fun _ _ _ _ _ _ us hl => match us, hl with | [_, _], _ => rfl
  have b9 := F9.binds (ps := ["tree", "code", "other"]) fun _ _ _ _ _ _ us hl => match us, hl with | [_, _, _], _ => rfl
  have b10 := F10.binds (ps := ["wide", "x", "y", "size"]) fun _ _ _ _ _ _ us hl => match us, hl with | [_, _, _, _], _ => rfl
  have b11 := F11.binds (ps := ["behind", "size", "tree", "wide", "x", "y"]) fun _ _ _ _ _ _ us hl => match us, hl with | [_, _, _, _, _, _], _ => rfl
  have b12 := F12.binds (ps := ["code", "level"]) fun _ _ _ _ _ _ us hl => match us, hl with | [_, _], _ => rfl
  have b13 := F13.binds (ps := ["level"]) fun _ _ _ _ _ _ us hl => match us, hl with | [_], _ => rfl
  have b14 := F14.binds (ps := ["colour"]) fun _ _ _ _ _ _ us hl => match us, hl with | [_], _ => rfl
  have b15 := F15.binds (ps := ["sheet", "code"]) fun _ _ _ _ _ _ us hl => match us, hl with | [_, _], _ => rfl
  have b16 := F16.binds (ps := ["sheet", "code", "other"]) fun _ _ _ _ _ _ us hl => match us, hl with | [_, _, _], _ => rfl
  have b17 := F17.binds (ps := ["sheet", "x", "y", "level", "colour"]) fun _ _ _ _ _ _ us hl => match us, hl with | [_, _, _, _, _], _ => rfl
  have b18 := F18.binds (ps := ["sheet", "x", "y", "other"]) fun _ _ _ _ _ _ us hl => match us, hl with | [_, _, _, _], _ => rfl
  have b19 := F19.binds (ps := ["_law_script", "_law_k"]) fun _ _ _ _ _ _ us hl => match us, hl with | [_, _], _ => rfl
  have b20 := F20.binds (ps := ["_law_cell", "_law_k"]) fun _ _ _ _ _ _ us hl => match us, hl with | [_, _], _ => rfl
  have b21 := F21.binds (ps := ["_law_cell", "_law_k", "_law_most"]) fun _ _ _ _ _ _ us hl => match us, hl with | [_, _, _], _ => rfl
  have b22 := F22.binds (ps := ["_law_script", "_law_cell", "_law_k"]) fun _ _ _ _ _ _ us hl => match us, hl with | [_, _, _], _ => rfl
  have b23 := F23.binds (ps := ["_law_tree"]) fun _ _ _ _ _ _ us hl => match us, hl with | [_], _ => rfl
  have b24 := F24.binds (ps := ["_law_tree", "_law_code", "_law_colour"]) fun _ _ _ _ _ _ us hl => match us, hl with | [_, _, _], _ => rfl
  have b25 := F25.binds (ps := ["_law_script", "_law_first", "_law_level_here", "_law_many"]) fun _ _ _ _ _ _ us hl => match us, hl with | [_, _, _, _], _ => rfl
  have b26 := F26.binds (ps := ["_law_found"]) fun _ _ _ _ _ _ us hl => match us, hl with | [_], _ => rfl
  have b27 := F27.binds (ps := ["_law_tree", "_law_level_here"]) fun _ _ _ _ _ _ us hl => match us, hl with | [_, _], _ => rfl
  have b28 := F28.binds (ps := ["_law_found", "_law_level_here"]) fun _ _ _ _ _ _ us hl => match us, hl with | [_, _], _ => rfl
  have b29 := F29.binds (ps := ["_law_cell"]) fun _ _ _ _ _ _ us hl => match us, hl with | [_], _ => rfl
  have b30 := F30.binds (ps := ["_law_cell"]) fun _ _ _ _ _ _ us hl => match us, hl with | [_], _ => rfl
  have b31 := F31.binds (ps := ["_law_cell"]) fun _ _ _ _ _ _ us hl => match us, hl with | [_], _ => rfl
  have b32 := F32.binds (ps := ["_law_cell", "_law_level_here"]) fun _ _ _ _ _ _ us hl => match us, hl with | [_, _], _ => rfl
  have b33 := F33.binds (ps := ["_law_thing_here", "_law_level_here"]) fun _ _ _ _ _ _ us hl => match us, hl with | [_, _], _ => rfl
  have b34 := F34.binds (ps := ["_law_e"]) fun _ _ _ _ _ _ us hl => match us, hl with | [_], _ => rfl
  have b35 := F35.binds (ps := ["_law_which", "_law_sheet", "_law_other", "_law_thing_here", "_law_wide_here", "_law_colour"]) fun _ _ _ _ _ _ us hl => match us, hl with | [_, _, _, _, _, _], _ => rfl
  have b36 := F36.binds (ps := ["_law_which", "_law_sheet", "_law_other", "_law_thing_here", "_law_wide_here", "_law_colour"]) fun _ _ _ _ _ _ us hl => match us, hl with | [_, _, _, _, _, _], _ => rfl
  have b37 := F37.binds (ps := ["_law_which", "_law_level_here", "_law_second", "_law_thing_here", "_law_wide_here", "_law_colour"]) fun _ _ _ _ _ _ us hl => match us, hl with | [_, _, _, _, _, _], _ => rfl
  refine ⟨PySem.W.fnOf "law" "law" (defArgs s_law) (defBody s_law) (defScope s_law) .none kV38 dc38 pm38 an38 cd38 ct38, fun s v => .of_eq rfl, fun base _ _ => ?_⟩
  have C_is_whole : Fok l.prog w K mg base (CXe l.prog w) 1 "is_whole" ["thing"] [] (sp_is_whole K) := fok F0 (ok_is_whole T F0) b0 (PySem.W.mg_of X G a0)
  have C_is_level : Fok l.prog w K mg base (CXe l.prog w) 2 "is_level" ["thing"] [] (gsp_upto K 40) := fok F1 (gok_is_level T quietE F1 C_is_whole) b1 (PySem.W.mg_of X G a1)
  have C_is_colour : Fok l.prog w K mg base (CXe l.prog w) 2 "is_colour" ["thing"] [] (gsp_upto K 35) := fok F2 (gok_is_colour T quietE F2 C_is_whole) b2 (PySem.W.mg_of X G a2)
  have C_is_code : Fok l.prog w K mg base (CXe l.prog w) 1 "is_code" ["thing"] [] (gsp_is_code K) := fok F3 (gok_is_code T F3) b3 (PySem.W.mg_of X G a3)
  have C_width_of : Fok l.prog w K mg base (CXe l.prog w) 1 "width_of" ["level"] [] (sp_width_of) := fok F4 (ok_width_of T F4) b4 (PySem.W.mg_of X G a4)
  have C_is_of_one_colour : Fok l.prog w K mg base (CXe l.prog w) 1 "is_of_one_colour" ["parts"] [] (sp_is_one) := fok F5 (ok_is_of_one_colour T F5) b5 (PySem.W.mg_of X G a5)
  have C_gathered : Fok l.prog w K mg base (CXe l.prog w) 2 "gathered" ["parts"] [] (sp_gathered) := fok F6 (ok_gathered T quietE F6 C_is_of_one_colour) b6 (PySem.W.mg_of X G a6)
  have C_parted : Fok l.prog w K mg base (CXe l.prog w) 1 "parted" ["tree"] [] (sp_parted) := fok F7 (ok_parted T F7) b7 (PySem.W.mg_of X G a7)
  have C_tree_at : Fok l.prog w K mg base (CXe l.prog w) 2 "tree_at" ["tree", "code"] [] (sp_tree_at) := fok F8 (ok_tree_at T quietE F8 C_parted) b8 (PySem.W.mg_of X G a8)
  have C_planted : Fok l.prog w K mg base (CXe l.prog w) 43 "planted" ["tree", "code", "other"] [] (sp_planted 40) := fok F9 (ok_planted T quietE F9 C_parted C_gathered b9 (PySem.W.mg_of X G a9) 40) b9 (PySem.W.mg_of X G a9)
  have C_quarter_with : Fok l.prog w K mg base (CXe l.prog w) 1 "quarter_with" ["wide", "x", "y", "size"] [] (sp_quarter_with) := fok F10 (ok_quarter_with T F10) b10 (PySem.W.mg_of X G a10)
  have C_covered : Fok l.prog w K mg base (CXe l.prog w) 16 "covered" ["behind", "size", "tree", "wide", "x", "y"] [] (sp_covered 13) := fok F11 (ok_covered T quietE F11 C_quarter_with C_parted C_gathered b11 (PySem.W.mg_of X G a11) 13) b11 (PySem.W.mg_of X G a11)
  have C_need_code_within : Fok l.prog w K mg base (CXe l.prog w) 2 "need_code_within" ["code", "level"] [] (sp_cwX Y) := fok F12 (ok_need_code_within T Y quietE F12 C_is_code) b12 (PySem.W.mg_of X G a12)
  have C_need_small_level : Fok l.prog w K mg base (CXe l.prog w) 3 "need_small_level" ["level"] [] (sp_smX Y) := fok F13 (ok_need_small_level T Y quietE F13 C_is_level) b13 (PySem.W.mg_of X G a13)
  have C_need_colour : Fok l.prog w K mg base (CXe l.prog w) 3 "need_colour" ["colour"] [] (sp_ncX Y) := fok F14 (ok_need_colour T Y quietE F14 C_is_colour) b14 (PySem.W.mg_of X G a14)
  have C_part_at : Fok l.prog w K mg base (CXe l.prog w) 3 "part_at" ["sheet", "code"] [] (sp_partX Y) := fok F15 (ok_part_at T Y quietE F15 C_need_code_within C_tree_at) b15 (PySem.W.mg_of X G a15)
  have C_put_in : Fok l.prog w K mg base (CXe l.prog w) 44 "put_in" ["sheet", "code", "other"] [] (sp_putX Y) := fok F16 (ok_put_in T Y quietE F16 C_need_code_within C_planted) b16 (PySem.W.mg_of X G a16)
  have C_window : Fok l.prog w K mg base (CXe l.prog w) 17 "window" ["sheet", "x", "y", "level", "colour"] [] (sp_winX Y) := fok F17 (ok_window T Y quietE F17 C_need_small_level C_need_colour C_width_of C_covered) b17 (PySem.W.mg_of X G a17)
  have C_laid : Fok l.prog w K mg base (CXe l.prog w) 17 "laid" ["sheet", "x", "y", "other"] [] (sp_laidX Y) := fok F18 (ok_laid T Y quietE F18 C_need_small_level C_width_of C_covered) b18 (PySem.W.mg_of X G a18)
  have C__law_at : Fok l.prog w K mg base (CXe l.prog w) 1 "_law_at" ["_law_script", "_law_k"] [] (sp_law_at K) := fok F19 (ok_law_at T F19) b19 (PySem.W.mg_of X G a19)
  have C__law_mix : Fok l.prog w K mg base (CXe l.prog w) 1 "_law_mix" ["_law_cell", "_law_k"] [] (sp_law_mix) := fok F20 (ok_law_mix T F20) b20 (PySem.W.mg_of X G a20)
  have C__law_code_by : Fok l.prog w K mg base (CXe l.prog w) 2 "_law_code_by" ["_law_cell", "_law_k", "_law_most"] [] (sp_law_code_by) := fok F21 (ok_law_code_by T quietE F21 C__law_mix) b21 (PySem.W.mg_of X G a21)
  have C__law_colour_by : Fok l.prog w K mg base (CXe l.prog w) 2 "_law_colour_by" ["_law_script", "_law_cell", "_law_k"] [] (sp_law_colour_by K) := fok F22 (ok_law_colour_by T quietE F22 C__law_mix C__law_at) b22 (PySem.W.mg_of X G a22)
  have C__law_four : Fok l.prog w K mg base (CXe l.prog w) 1 "_law_four" ["_law_tree"] [] (sp_law_four) := fok F23 (ok_law_four T F23) b23 (PySem.W.mg_of X G a23)
  have C__law_painted : Fok l.prog w K mg base (CXe l.prog w) 42 "_law_painted" ["_law_tree", "_law_code", "_law_colour"] [] (sp_law_painted 40) := fok F24 (ok_law_painted T quietE F24 C__law_four b24 (PySem.W.mg_of X G a24) 40) b24 (PySem.W.mg_of X G a24)
  have C__law_tree_by : Fok l.prog w K mg base (CXe l.prog w) 43 "_law_tree_by" ["_law_script", "_law_first", "_law_level_here", "_law_many"] [] (sp_law_tree_by K) := fok F25 (ok_law_tree_by T quietE F25 C__law_at C__law_mix C__law_code_by C__law_colour_by C__law_painted) b25 (PySem.W.mg_of X G a25)
  have C__law_is_colour : Fok l.prog w K mg base (CXe l.prog w) 1 "_law_is_colour" ["_law_found"] [] (gsp_upto K 35) := fok F26 (ok_law_is_colour T F26) b26 (PySem.W.mg_of X G a26)
  have C__law_good : Fok l.prog w K mg base (CXe l.prog w) 42 "_law_good" ["_law_tree", "_law_level_here"] [] (sp_law_good 40) := fok F27 (ok_law_good T quietE F27 (is_colour_weak C__law_is_colour) b27 (PySem.W.mg_of X G a27) 40) b27 (PySem.W.mg_of X G a27)
  have C__law_is_sheet : Fok l.prog w K mg base (CXe l.prog w) 43 "_law_is_sheet" ["_law_found", "_law_level_here"] [] (sp_law_is_sheet) := fok F28 (ok_law_is_sheet T quietE F28 C__law_good) b28 (PySem.W.mg_of X G a28)
  have C__law_odd_colour : Fok l.prog w K mg base (CXe l.prog w) 1 "_law_odd_colour" ["_law_cell"] [] (sp_law_num K) := fok F29 (ok_law_odd_colour T F29) b29 (PySem.W.mg_of X G a29)
  have C__law_level : Fok l.prog w K mg base (CXe l.prog w) 1 "_law_level" ["_law_cell"] [] (sp_law_level) := fok F30 (ok_law_level T F30) b30 (PySem.W.mg_of X G a30)
  have C__law_wide : Fok l.prog w K mg base (CXe l.prog w) 1 "_law_wide" ["_law_cell"] [] (sp_law_num K) := fok F31 (ok_law_wide T F31) b31 (PySem.W.mg_of X G a31)
  have C__law_thing : Fok l.prog w K mg base (CXe l.prog w) 3 "_law_thing" ["_law_cell", "_law_level_here"] [] (sp_law_thing K) := fok F32 (ok_law_thing T quietE F32 C__law_code_by) b32 (PySem.W.mg_of X G a32)
  have C__law_is_code : Fok l.prog w K mg base (CXe l.prog w) 1 "_law_is_code" ["_law_thing_here", "_law_level_here"] [] (sp_law_is_code K) := fok F33 (ok_law_is_code T F33) b33 (PySem.W.mg_of X G a33)
  have C__law_word : FokH l.prog w K mg base (CXe l.prog w) 1 "_law_word" ["_law_e"] (sp_law_word Y) := fokH F34 (ok_law_word T Y F34) b34 (PySem.W.mg_of X G a34)
  have C__law_asked : Fok l.prog w K mg base (CXe l.prog w) 45 "_law_asked" ["_law_which", "_law_sheet", "_law_other", "_law_thing_here", "_law_wide_here", "_law_colour"] [] (sp_law_asked Y) := fok F35 (ok_law_asked T Y quietE F35 C_part_at C_put_in C_window C_laid) b35 (PySem.W.mg_of X G a35)
  have C__law_said : Fok l.prog w K mg base (CXe l.prog w) 46 "_law_said" ["_law_which", "_law_sheet", "_law_other", "_law_thing_here", "_law_wide_here", "_law_colour"] [] (sp_law_said K) := fok F36 (ok_law_said T Y quietE F36 C__law_asked C__law_word) b36 (PySem.W.mg_of X G a36)
  have C__law_due : Fok l.prog w K mg base (CXe l.prog w) 2 "_law_due" ["_law_which", "_law_level_here", "_law_second", "_law_thing_here", "_law_wide_here", "_law_colour"] [] (sp_law_due K) := fok F37 (ok_law_due T quietE F37 C__law_is_code C__law_is_colour) b37 (PySem.W.mg_of X G a37)
  exact ok_law T quietE F38 C__law_at C__law_level C__law_thing C__law_is_code C__law_wide C__law_odd_colour C__law_tree_by C__law_due C__law_said C__law_is_sheet
theorem walk {l : PySem.W.OpenLaw} {q : Program} {loose : List Str} {XP : (Str → Option Value) → Heap → Prop} {YP : World → Heap → Prop} {d : DefRec} {K : Params → PySem.W.Frag} (hn : l.most = some 63) (hdf : d.params.defaults = [])
    (hY : ∀ (w : World) (h : Heap), YP w h → (K w.params).In h)
    (F : ∀ (w : World) (mg : Str → Option Value) (fa : Addr) (h : Heap), (K w.params).In h → h.Ns mainGlobals mg → mg d.name = some (.ref fa) →
      ∃ fd : FuncData, (∀ (s : Shared) (u : Value), BindsTo s fd ⟨[u], []⟩ [("_law_script", u)]) ∧ ∀ base : Heap, (K w.params).In base → base.Ns mainGlobals mg → FnOk l.prog w (K w.params) mg base (CXe l.prog w) 47 fa fd ["_law_script"] (sp_law (K w.params))) :
    PySem.W.WalkO q loose XP YP l.row.toRowW d [] (fun f vs => PySem.call f vs) :=
  L2.walk_of (n := 63) (k := 47) (x := "_law_script") (CX := fun w => (CXe l.prog w)) (sp := fun w => sp_law (K w.params)) hn (by decide) hdf ⟨rfl, by decide, by decide⟩ hY F (fun _ _ a ns hl _ hS => ⟨a, ns, rfl, hS, hl, fun _ => rfl⟩) fun _ _ _ _ _ z => quietE _ _ _ _ _ z
end Qs
-- The head lays a twin equation for each constant of the run; those of the largest ones are most of its size and are not needed. A name that stands already is not laid anew.
def PySem.W.Fast.tw3633817146352113105 : Nat := 0
def PySem.W.Fast.tw1151161147016894649 : Nat := 0
def PySem.W.Fast.tw18064655488017208662 : Nat := 0
def PySem.W.Fast.tw332800376342985257 : Nat := 0
def PySem.W.Fast.tw1158770880149368750 : Nat := 0
def PySem.W.Fast.tw3866468682557024996 : Nat := 0
def PySem.W.Fast.tw11797286860778298982 : Nat := 0
def PySem.W.Fast.tw2525404478745731023 : Nat := 0
def PySem.W.Fast.tw10567233183372794344 : Nat := 0
def PySem.W.Fast.tw13834091419966577230 : Nat := 0
def PySem.W.Fast.tw17243178475900090269 : Nat := 0
def PySem.W.Fast.tw9048074270112392607 : Nat := 0
def PySem.W.Fast.tw11561877546291144151 : Nat := 0
def PySem.W.Fast.tw11084608389960223383 : Nat := 0
def PySem.W.Fast.tw17711918090398669804 : Nat := 0
def PySem.W.Fast.tw5691682277982949961 : Nat := 0
def PySem.W.Fast.tw10192793651702910124 : Nat := 0
def PySem.W.Fast.tw10630229086457606649 : Nat := 0
def PySem.W.Fast.tw17739118300083297464 : Nat := 0
def PySem.W.Fast.tw284102124547165506 : Nat := 0
def PySem.W.Fast.tw7903659697386381314 : Nat := 0
def PySem.W.Fast.tw5255339355561752739 : Nat := 0
def PySem.W.Fast.tw7010793112668485580 : Nat := 0
def PySem.W.Fast.tw13539627997576810136 : Nat := 0
def PySem.W.Fast.tw14106431611091528631 : Nat := 0
def PySem.W.Fast.tw12549684805839167104 : Nat := 0
def PySem.W.Fast.tw9253600350049053438 : Nat := 0
def PySem.W.Fast.tw10797108619861394339 : Nat := 0
def PySem.W.Fast.tw2258719273888019484 : Nat := 0
def PySem.W.Fast.tw7311435548487179063 : Nat := 0
def PySem.W.Fast.tw13139362967940220291 : Nat := 0
def PySem.W.Fast.tw13455578716032539810 : Nat := 0
def PySem.W.Fast.tw4960410666723369763 : Nat := 0
def PySem.W.Fast.tw18401664881536711037 : Nat := 0
def PySem.W.Fast.tw18315446412031801479 : Nat := 0
def PySem.W.Fast.tw7875372440061116913 : Nat := 0
def PySem.W.Fast.tw12290067796742747341 : Nat := 0
def PySem.W.Fast.tw7835323413374156379 : Nat := 0
def PySem.W.Fast.tw13385071191350507383 : Nat := 0
def PySem.W.Fast.tw11113497907786046032 : Nat := 0
def PySem.W.Fast.tw11354540408213362350 : Nat := 0
def PySem.W.Fast.tw16575786609571082817 : Nat := 0
def PySem.W.Fast.tw17725963091348898138 : Nat := 0
def PySem.W.Fast.tw7774456191096561036 : Nat := 0
def PySem.W.Fast.tw4148830772249195040 : Nat := 0
def PySem.W.Fast.tw3224056270350022649 : Nat := 0
def PySem.W.Fast.tw13640791835770917729 : Nat := 0
def PySem.W.Fast.tw16745302890631134177 : Nat := 0
def PySem.W.Fast.tw12749377769693914527 : Nat := 0
def PySem.W.Fast.tw2577949169519215664 : Nat := 0
def PySem.W.Fast.tw10731785151576717028 : Nat := 0
def PySem.W.Fast.tw1640888790832041793 : Nat := 0
def PySem.W.Fast.tw3190432939255688147 : Nat := 0
def PySem.W.Fast.tw8403181257896315513 : Nat := 0
def PySem.W.Fast.tw18037323860192938685 : Nat := 0
def PySem.W.Fast.tw14354030441615043447 : Nat := 0
def PySem.W.Fast.tw7456498677633276749 : Nat := 0
def PySem.W.Fast.tw10815959707147036214 : Nat := 0
def PySem.W.Fast.tw11690441135336509644 : Nat := 0
def PySem.W.Fast.tw4646863636082609553 : Nat := 0
def PySem.W.Fast.tw14454313514989551736 : Nat := 0
def PySem.W.Fast.tw7213578746871082921 : Nat := 0
def PySem.W.Fast.tw5007115530631029883 : Nat := 0
def PySem.W.Fast.tw9972632498991187127 : Nat := 0
def PySem.W.Fast.tw10076358250210420556 : Nat := 0
def PySem.W.Fast.tw1703911764435434201 : Nat := 0
def PySem.W.Fast.tw4993222491974709876 : Nat := 0
def PySem.W.Fast.tw17397636168268790538 : Nat := 0
def PySem.W.Fast.tw3788627411770247420 : Nat := 0
def PySem.W.Fast.tw9877300560823726525 : Nat := 0
def PySem.W.Fast.tw3309639695240176478 : Nat := 0
def PySem.W.Fast.tw1867042323614927688 : Nat := 0
def PySem.W.Fast.tw17839941190528554738 : Nat := 0
def PySem.W.Fast.tw11608509485955010236 : Nat := 0
def PySem.W.Fast.tw12687193319476921579 : Nat := 0
def PySem.W.Fast.tw225402285439897214 : Nat := 0
def PySem.W.Fast.tw2380622714514018862 : Nat := 0
def PySem.W.Fast.tw5368147796501406366 : Nat := 0
def PySem.W.Fast.tw7052075466920117176 : Nat := 0
def PySem.W.Fast.tw2781325319179337329 : Nat := 0
def PySem.W.Fast.tw5819513267759243581 : Nat := 0
def PySem.W.Fast.tw10423611983403462055 : Nat := 0
open PySem PySem.W PyProof.Rows
set_option maxRecDepth 100000 in
set_option maxHeartbeats 0 in
theorem PySem.Challenge.cw_quartersheet_k45_cutting_refused_holds : PySem.Challenge.rw_quartersheet_k45_cutting_refused.Holds := by
  w_on; o_law; k_head; (case hw => w_witness2)
  k_fill
  refine Qs.walk (l := PySem.Challenge.rw_quartersheet_k45_cutting_refused) rfl rfl (fun w h Y => PySem.W.kIn_of Y) ?F
  case F =>
    intro w mg fa h KX G hmg
    refine' Qs.all_mk KX G hmg ?a0 ?l0 ?c0 ?k0 ?a1 ?l1 ?c1 ?k1 ?a2 ?l2 ?c2 ?k2 ?a3 ?l3 ?c3 ?k3 ?a4 ?l4 ?c4 ?k4 ?a5 ?l5 ?c5 ?k5 ?a6 ?l6 ?c6 ?k6 ?a7 ?l7 ?c7 ?k7 ?a8 ?l8 ?c8 ?k8 ?a9 ?l9 ?c9 ?k9 ?a10 ?l10 ?c10 ?k10 ?a11 ?l11 ?c11 ?k11 ?a12 ?l12 ?c12 ?k12 ?a13 ?l13 ?c13 ?k13 ?a14 ?l14 ?c14 ?k14 ?a15 ?l15 ?c15 ?k15 ?a16 ?l16 ?c16 ?k16 ?a17 ?l17 ?c17 ?k17 ?a18 ?l18 ?c18 ?k18 ?a19 ?l19 ?c19 ?k19 ?a20 ?l20 ?c20 ?k20 ?a21 ?l21 ?c21 ?k21 ?a22 ?l22 ?c22 ?k22 ?a23 ?l23 ?c23 ?k23 ?a24 ?l24 ?c24 ?k24 ?a25 ?l25 ?c25 ?k25 ?a26 ?l26 ?c26 ?k26 ?a27 ?l27 ?c27 ?k27 ?a28 ?l28 ?c28 ?k28 ?a29 ?l29 ?c29 ?k29 ?a30 ?l30 ?c30 ?k30 ?a31 ?l31 ?c31 ?k31 ?a32 ?l32 ?c32 ?k32 ?a33 ?l33 ?c33 ?k33 ?a34 ?l34 ?c34 ?k34 ?a35 ?l35 ?c35 ?k35 ?a36 ?l36 ?c36 ?k36 ?a37 ?l37 ?c37 ?k37 ?a38 ?l38 ?c38 ?k38 ?z0 ?z1 ?z2 ?z3 ?z4 ?z5 ?z6 ?z7 ?z8 ?z9 ?z10 ?z11 ?z12 ?z13 ?z14 ?z15 ?y0 ?y1 ?y2 ?y3 ?y4 ?y5 ?y6 ?y7 ?y8 ?y9 ?y10 ?y11 ?y12 ?y13 ?y14 ?y15 ?y16 ?y17 ?y18 ?y19 ?y20 ?y21 ?y22 ?y23 ?y24 ?y25 ?y26 ?y27 ?y28 ?y29 ?y30 ?y31 ?y32 ?y33 ?y34 ?y35 ?y36 ?y37 ?y38 ?y39 ?y40 ?y41 ?y42 ?y43 ?y44 ?y45 ?y46 ?y47 ?y48 ?y49 ?y50 ?y51 ?y52 ?y53 ?y54 ?y55 ?y56 ?y57 ?y58 ?y59 ?y60 ?y61 ?y62 ?y63 ?y64 ?y65 ?y66 ?y67 ?y68 ?y69 ?y70 ?y71 ?y72
    (case a0 => k_is)
    (case l0 => k_is)
    (case c0 => k_is)
    (case k0 => k_is)
    (case a1 => k_is)
    (case l1 => k_is)
    (case c1 => k_is)
    (case k1 => k_is)
    (case a2 => k_is)
    (case l2 => k_is)
    (case c2 => k_is)
    (case k2 => k_is)
    (case a3 => k_is)
    (case l3 => k_is)
    (case c3 => k_is)
    (case k3 => k_is)
    (case a4 => k_is)
    (case l4 => k_is)
    (case c4 => k_is)
    (case k4 => k_is)
    (case a5 => k_is)
    (case l5 => k_is)
    (case c5 => k_is)
    (case k5 => k_is)
    (case a6 => k_is)
    (case l6 => k_is)
    (case c6 => k_is)
    (case k6 => k_is)
    (case a7 => k_is)
    (case l7 => k_is)
    (case c7 => k_is)
    (case k7 => k_is)
    (case a8 => k_is)
    (case l8 => k_is)
    (case c8 => k_is)
    (case k8 => k_is)
    (case a9 => k_is)
    (case l9 => k_is)
    (case c9 => k_is)
    (case k9 => k_is)
    (case a10 => k_is)
    (case l10 => k_is)
    (case c10 => k_is)
    (case k10 => k_is)
    (case a11 => k_is)
    (case l11 => k_is)
    (case c11 => k_is)
    (case k11 => k_is)
    (case a12 => k_is)
    (case l12 => k_is)
    (case c12 => k_is)
    (case k12 => k_is)
    (case a13 => k_is)
    (case l13 => k_is)
    (case c13 => k_is)
    (case k13 => k_is)
    (case a14 => k_is)
    (case l14 => k_is)
    (case c14 => k_is)
    (case k14 => k_is)
    (case a15 => k_is)
    (case l15 => k_is)
    (case c15 => k_is)
    (case k15 => k_is)
    (case a16 => k_is)
    (case l16 => k_is)
    (case c16 => k_is)
    (case k16 => k_is)
    (case a17 => k_is)
    (case l17 => k_is)
    (case c17 => k_is)
    (case k17 => k_is)
    (case a18 => k_is)
    (case l18 => k_is)
    (case c18 => k_is)
    (case k18 => k_is)
    (case a19 => k_is)
    (case l19 => k_is)
    (case c19 => k_is)
    (case k19 => k_is)
    (case a20 => k_is)
    (case l20 => k_is)
    (case c20 => k_is)
    (case k20 => k_is)
    (case a21 => k_is)
    (case l21 => k_is)
    (case c21 => k_is)
    (case k21 => k_is)
    (case a22 => k_is)
    (case l22 => k_is)
    (case c22 => k_is)
    (case k22 => k_is)
    (case a23 => k_is)
    (case l23 => k_is)
    (case c23 => k_is)
    (case k23 => k_is)
    (case a24 => k_is)
    (case l24 => k_is)
    (case c24 => k_is)
    (case k24 => k_is)
    (case a25 => k_is)
    (case l25 => k_is)
    (case c25 => k_is)
    (case k25 => k_is)
    (case a26 => k_is)
    (case l26 => k_is)
    (case c26 => k_is)
    (case k26 => k_is)
    (case a27 => k_is)
    (case l27 => k_is)
    (case c27 => k_is)
    (case k27 => k_is)
    (case a28 => k_is)
    (case l28 => k_is)
    (case c28 => k_is)
    (case k28 => k_is)
    (case a29 => k_is)
    (case l29 => k_is)
    (case c29 => k_is)
    (case k29 => k_is)
    (case a30 => k_is)
    (case l30 => k_is)
    (case c30 => k_is)
    (case k30 => k_is)
    (case a31 => k_is)
    (case l31 => k_is)
    (case c31 => k_is)
    (case k31 => k_is)
    (case a32 => k_is)
    (case l32 => k_is)
    (case c32 => k_is)
    (case k32 => k_is)
    (case a33 => k_is)
    (case l33 => k_is)
    (case c33 => k_is)
    (case k33 => k_is)
    (case a34 => k_is)
    (case l34 => k_is)
    (case c34 => k_is)
    (case k34 => k_is)
    (case a35 => k_is)
    (case l35 => k_is)
    (case c35 => k_is)
    (case k35 => k_is)
    (case a36 => k_is)
    (case l36 => k_is)
    (case c36 => k_is)
    (case k36 => k_is)
    (case a37 => k_is)
    (case l37 => k_is)
    (case c37 => k_is)
    (case k37 => k_is)
    (case a38 => k_is)
    (case l38 => k_is)
    (case c38 => k_is)
    (case k38 => k_is)
    (case z0 => k_is)
    (case z1 => k_is)
    (case z2 => k_is)
    (case z3 => k_is)
    (case z4 => k_is)
    (case z5 => k_is)
    (case z6 => k_is)
    (case z7 => k_is)
    (case z8 => k_is)
    (case z9 => k_is)
    (case z10 => k_is)
    (case z11 => k_is)
    (case z12 => k_is)
    (case z13 => k_is)
    (case z14 => k_is)
    (case z15 => k_is)
    (case y0 => k_is)
    (case y1 => k_is)
    (case y2 => k_is)
    (case y3 => k_is)
    (case y4 => k_is)
    (case y5 => k_is)
    (case y6 => k_is)
    (case y7 => k_is)
    (case y8 => k_is)
    (case y9 => k_is)
    (case y10 => k_is)
    (case y11 => k_is)
    (case y12 => k_is)
    (case y13 => k_exc)
    (case y14 => k_is)
    (case y15 => k_is)
    (case y16 => k_is)
    (case y17 => k_is)
    (case y18 => k_is)
    (case y19 => k_is)
    (case y20 => kts_exm)
    (case y21 => kit_is)
    (case y22 => kit_is)
    (case y23 => kit_is)
    (case y24 => kit_is)
    (case y25 => kit_is)
    (case y26 => kit_is)
    (case y27 => kit_is)
    (case y28 => kit_is)
    (case y29 => kit_is)
    (case y30 => kit_is)
    (case y31 => kit_is)
    (case y32 => kit_is)
    (case y33 => k_exc)
    (case y34 => k_is)
    (case y35 => k_is)
    (case y36 => k_is)
    (case y37 => k_is)
    (case y38 => k_is)
    (case y39 => k_is)
    (case y40 => kts_exm)
    (case y41 => kit_is)
    (case y42 => kit_is)
    (case y43 => kit_is)
    (case y44 => kit_is)
    (case y45 => kit_is)
    (case y46 => kit_is)
    (case y47 => kit_is)
    (case y48 => kit_is)
    (case y49 => kit_is)
    (case y50 => kit_is)
    (case y51 => kit_is)
    (case y52 => kit_is)
    (case y53 => k_exc)
    (case y54 => k_is)
    (case y55 => k_is)
    (case y56 => k_is)
    (case y57 => k_is)
    (case y58 => k_is)
    (case y59 => k_is)
    (case y60 => kts_exm)
    (case y61 => kit_is)
    (case y62 => kit_is)
    (case y63 => kit_is)
    (case y64 => kit_is)
    (case y65 => kit_is)
    (case y66 => kit_is)
    (case y67 => kit_is)
    (case y68 => kit_is)
    (case y69 => kit_is)
    (case y70 => kit_is)
    (case y71 => kit_is)
    (case y72 => kit_is)


