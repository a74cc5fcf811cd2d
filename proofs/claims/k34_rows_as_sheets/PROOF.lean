import PyProof.Rows.All
import Wide.All
import OpenK.AllK
import Wide.FinOn
import Lean
import PyProof.EqAt
import PyProof.EqKinds
import PyProof.TupleCall
import PySem.Challenge.RW_quartersheet_k34_rows_as_sheets
set_option Elab.async false
set_option linter.all false
set_option maxRecDepth 100000

namespace L2
open PySem PySem.Spec PyProof.Rows


abbrev Key:=Sum Int Str
def keyIs:Key→Value→Bool
  | .inl k,v=>Value.isInt k v
  | .inr x,v=>Value.isStrOf x v
def keyH (w:World):Key→Int
  | .inl k=>hashInt k
  | .inr x=>hashStr w x
theorem keyIs_shape:∀ {k:Key} {v:Value},keyIs k v=true→(∃ i t,k=Sum.inl i∧v=Value.int i t)∨(∃ x t,k=Sum.inr x∧v=Value.str x t)
  | .inl i,v,h=>by
    obtain ⟨t,e⟩:=Value.isInt_shape (k:=i) (v:=v) h
    exact .inl ⟨i,t,rfl,e⟩
  | .inr x,v,h=>by
    obtain ⟨t,e⟩:=Value.isStrOf_shape (x:=x) (v:=v) h
    exact .inr ⟨x,t,rfl,e⟩
theorem keyIs_int (i:Int) (t:Tok):keyIs (.inl i) (.int i t)=true:=by simp [keyIs,Value.isInt]
theorem keyIs_str (x:Str) (t:Tok):keyIs (.inr x) (.str x t)=true:=by simp [keyIs,Value.isStrOf]
theorem key_ll (a b:Int):decide ((Sum.inl a:Key)=Sum.inl b)=(a == b):=by
  by_cases e:a=b
  · subst e; simp
  · have h:¬ (Sum.inl a:Key)=Sum.inl b:=fun q=>e (Sum.inl.inj q)
    rw [decide_eq_false h]
    exact (beq_eq_false_iff_ne.mpr e).symm
theorem key_rr (a b:Str):decide ((Sum.inr a:Key)=Sum.inr b)=decide (a=b):=by
  by_cases e:a=b
  · subst e; simp
  · have h:¬ (Sum.inr a:Key)=Sum.inr b:=fun q=>e (Sum.inr.inj q)
    rw [decide_eq_false h,decide_eq_false e]
theorem key_lr (a:Int) (b:Str):decide ((Sum.inl a:Key)=Sum.inr b)=false:=decide_eq_false (fun q=>nomatch q)
theorem key_rl (a:Str) (b:Int):decide ((Sum.inr a:Key)=Sum.inl b)=false:=decide_eq_false (fun q=>nomatch q)

def mixKind (prog:Program) (w:World):PySem.KeyKind prog w Key where
  is:=keyIs
  hash:=keyH w
  inj:=fun v a b ha hb=>by
    rcases keyIs_shape ha with ⟨i,t,rfl,rfl⟩ | ⟨x,t,rfl,rfl⟩
    · rcases keyIs_shape hb with ⟨j,u,rfl,e⟩ | ⟨y,u,rfl,e⟩
      · injection e with e1 _; rw [e1]
      · exact nomatch e
    · rcases keyIs_shape hb with ⟨j,u,rfl,e⟩ | ⟨y,u,rfl,e⟩
      · exact nomatch e
      · injection e with e1 _; rw [e1]
  byValue:=fun k v h=>by
    rcases keyIs_shape h with ⟨i,t,rfl,rfl⟩ | ⟨x,t,rfl,rfl⟩ <;> rfl
  pyHash:=fun hv h=>by
    rcases keyIs_shape hv with ⟨i,t,rfl,rfl⟩ | ⟨x,t,rfl,rfl⟩
    · exact wpAny_pyHash_int h
    · exact wpAny_pyHash_str h
  eqBool:=fun hu hv h=>by
    rcases keyIs_shape hu with ⟨i,t,rfl,rfl⟩ | ⟨x,t,rfl,rfl⟩
    · rcases keyIs_shape hv with ⟨j,u,rfl,rfl⟩ | ⟨y,u,rfl,rfl⟩
      · rw [key_ll] at h; exact wpAny_eqBool_int h
      · rw [key_lr] at h; exact SeqAt.EqAt.int_str i t y u _ _ _ _ h
    · rcases keyIs_shape hv with ⟨j,u,rfl,rfl⟩ | ⟨y,u,rfl,rfl⟩
      · rw [key_rl] at h; exact SeqAt.EqAt.str_int x t j u _ _ _ _ h
      · rw [key_rr] at h; exact wpAny_eqBool_str h
  «strs» := fun k x t v h=>by
    rcases keyIs_shape h with ⟨i,u,rfl,e⟩ | ⟨y,u,rfl,e⟩
    · exact nomatch e
    · injection e with e1 _
      subst e1
      cases v <;> rfl

theorem mixKind_int (prog:Program) (w:World) (i:Int) (t:Tok):(mixKind prog w).is (.inl i) (.int i t)=true:=keyIs_int i t
theorem mixKind_str (prog:Program) (w:World) (x:Str) (t:Tok):(mixKind prog w).is (.inr x) (.str x t)=true:=keyIs_str x t
end L2

namespace L2
open PySem PySem.Spec PyProof.Rows


inductive V where
  | non | bl (b:Bool) | int (i:Int) | str (x:Str) | byt (b:Array UInt8) | flt (b:UInt64) | ref (a:Addr) | ty (n:String)
  deriving DecidableEq

def RelV:V→Value→Prop
  | .non,u=>u=Value.none
  | .bl b,u=>u=Value.bool b
  | .int i,u=>∃ t,u=Value.int i t
  | .str x,u=>∃ t,u=Value.str x t
  | .byt b,u=>∃ t,u=Value.bytes b t
  | .flt b,u=>∃ t,u=Value.float b t
  | .ref a,u=>u=Value.ref a
  | .ty n,u=>u=Value.type n

abbrev Vals:List V→List Value→Prop:=Paired RelV
theorem Vals.length {xs:List V} {us:List Value} (r:Vals xs us):xs.length=us.length:=Paired.length r
theorem Vals.get:∀ {xs:List V} {us:List Value} {i:Nat} {x:V},Vals xs us→xs[i]? = some x→∃ u,us[i]? = some u∧RelV x u
  | _,_,_,_,.nil,e=>by simp at e
  | _,_,0,_,.cons r _,e=>by simp at e; subst e; exact ⟨_,rfl,r⟩
  | _,_,i + 1,x,.cons _ t,e=>by
    obtain ⟨u,h1,h2⟩:=Vals.get (i:=i) (x:=x) t (by simpa using e)
    exact ⟨u,by simpa using h1,h2⟩
theorem Vals.set {x:V} {u:Value} (r:RelV x u):∀ {xs:List V} {us:List Value} (i:Nat),Vals xs us→Vals (xs.set i x) (us.set i u)
  | _,_,_,.nil=>.nil
  | _,_,0,.cons _ t=>.cons r t
  | _,_,i + 1,.cons q t=>.cons q (Vals.set r i t)
theorem Vals.append:∀ {xs ys:List V} {us ws:List Value},Vals xs us→Vals ys ws→Vals (xs++ys) (us++ws)
  | _,_,_,_,.nil,s=>s
  | _,_,_,_,.cons r t,s=>.cons r (Vals.append t s)
theorem Vals.take:∀ {xs:List V} {us:List Value} (n:Nat),Vals xs us→Vals (xs.take n) (us.take n)
  | _,_,0,_=>.nil
  | _,_,_ + 1,.nil=>.nil
  | _,_,n + 1,.cons r t=>.cons r (Vals.take n t)
theorem Vals.drop:∀ {xs:List V} {us:List Value} (n:Nat),Vals xs us→Vals (xs.drop n) (us.drop n)
  | _,_,0,r=>r
  | _,_,_ + 1,.nil=>.nil
  | _,_,n + 1,.cons _ t=>Vals.drop n t
def RelO:Option V→Option Value→Prop
  | some v,some u=>RelV v u
  | none,none=>True
  | _,_=>False
def KV {κ:Type}:List (κ × V)→List (κ × Value)→Prop:=Paired fun (p:κ × V) (q:κ × Value)=>p.1=q.1∧RelV p.2 q.2


def kV:Key→V
  | .inl i=>.int i
  | .inr x=>.str x


inductive HO where
  
  | lst (xs:List V)
  
  | tup (xs:List V)
  
  | dK (kvs:List (Key × V)) | dT (kvs:List (List Key × V))
  
  | set (S:Int→Bool) (n:Nat)
  
  | ins (C dx:Addr) (fs:List (Str × V))
  
  | own (x:Addr)
  
  | xd (fs:List (Str × V))
  
  | met (f x:Addr)
  
  | rng (lo hi:Int)
  
  | frz (o:Obj) (u:HO)
  
  | tbl (ps:Array Value)
  
  | ext (φ:Heap→Prop)

abbrev Hp:=Addr→Option HO
def upd (H:Hp) (a:Addr) (o:HO):Hp:=fun b=>if b=a then some o else H b
theorem upd_same {H:Hp} {a:Addr} {o:HO}:upd H a o a=some o:=by unfold upd; rw [if_pos rfl]
theorem upd_ne {H:Hp} {a b:Addr} {o:HO} (h:b≠a):upd H a o b=H b:=by unfold upd; rw [if_neg h]
theorem upd_upd {H:Hp} {a:Addr} {o u:HO}:upd (upd H a o) a u=upd H a u:=by
  funext b; unfold upd; split <;> rfl

theorem ne_of {H:Hp} {a b:Addr} {o u:HO} (h:H a=some o) (h':H b=some u) (d:o≠u):a≠b:=by
  intro e; subst e; rw [h] at h'; exact d (Option.some.inj h')
theorem ne_of_none {H:Hp} {a b:Addr} {o:HO} (h:H a=some o) (h':H b=none):a≠b:=by
  intro e; subst e; rw [h] at h'; cases h'

section
variable (P:Program) (w:World)
def ObjOk (H:Hp) (h:Heap) (a:Addr):HO→Prop
  | .lst xs=>xs.length≤sizeLine∧∃ (its:List Value) (n:Nat),Vals xs its∧h.get? a=some { cls:=.type "list",data:=.seq its.toArray n }
  | .tup xs=>xs.length≤sizeLine∧∃ its:List Value,Vals xs its∧IsTup h a its.toArray
  | .dK kvs=>kvs.length≤sizeLine∧(a == sysModules)=false∧∃ vs,KV kvs vs∧h.DictOf (mixKind P w) a vs
  | .dT kvs=>kvs.length≤sizeLine∧(a == sysModules)=false∧∃ xs:List (List Key × Addr × Value),
      Paired (fun (p:List Key × V) (q:List Key × Addr × Value)=>p.1=q.1∧H q.2.1=some (.tup (p.1.map kV))∧RelV p.2 q.2.2) kvs xs ∧
      ∃ o es ep,h.get? a=some o∧o.ExactDict∧o.data=.dict es ep∧es.toList=xs.map (entryOfKey (tupleKind (mixKind P w)))∧(xs.map (·.1)).Nodup
  | .set S n=>h.SetOf (intKind P w) a S n
  | .ins C dx fs=>H dx=some (.own a)∧fs.length≤1000∧dx≠a∧h.get? a=some (PySem.W.instObj C dx) ∧
      ∃ mA,h.Ns1 dx mA∧(∀ f,RelO (fs.lookup f) (mA f))∧PySem.Within mA (fs.map (·.1))
  | .own _=>∃ o,h.get? a=some o
  | .xd fs=>∃ mA,h.Ns1 a mA∧∀ f,RelO (fs.lookup f) (mA f)
  | .rng lo hi=>∃ t u v,h.get? a=some { cls:=.type "range",data:=.fields #[.int lo t,.int hi u,.int 1 v] }
  | .frz o u=>h.get? a=some o∧ObjOk H h a u
  | .tbl ps=>h.get? a=some { cls:=.none,data:=.fields ps }
  | .met f x=>h.get? a=some (PySem.W.methodObj (.ref f) (.ref x))
  | .ext φ=>φ h∧(∃ o,h.get? a=some o)∧∀ h1 h2:Heap,φ h1→(∀ o,h1.get? a=some o→h2.get? a=some o)→φ h2

def HOk (H:Hp) (h:Heap):Prop:=∀ a o,H a=some o→ObjOk P w H h a o
end

section
variable {P:Program} {w:World} {H H':Hp} {h h':Heap} {a:Addr} {o:HO}
theorem ObjOk.lt (x:ObjOk P w H h a o):a < h.objs.size:=by
  cases o with
  | lst xs=>obtain ⟨_,_,_,_,e⟩:=x; exact Heap.lt_size e
  | tup xs=>obtain ⟨_,_,_,p⟩:=x; exact p.lt
  | dK kvs=>obtain ⟨_,_,_,_,o,_,_,e,_⟩:=x; exact Heap.lt_size e
  | dT kvs=>obtain ⟨_,_,_,_,o,_,_,e,_⟩:=x; exact Heap.lt_size e
  | set S n=>obtain ⟨o,_,_,_,e,_⟩:=x; exact Heap.lt_size e
  | ins C dx fs=>obtain ⟨_,_,_,e,_⟩:=x; exact Heap.lt_size e
  | own y=>obtain ⟨_,e⟩:=x; exact Heap.lt_size e
  | xd fs=>obtain ⟨_,⟨_,_,_,e,_⟩,_⟩:=x; exact Heap.lt_size e
  | rng lo hi=>obtain ⟨_,_,_,e⟩:=x; exact Heap.lt_size e
  | frz ob u=>obtain ⟨e,_⟩:=x; exact Heap.lt_size e
  | tbl ps=>exact Heap.lt_size (show h.get? a=some _ from x)
  | met f y=>exact Heap.lt_size (show h.get? a=some _ from x)
  | ext φ=>obtain ⟨_,⟨_,e⟩,_⟩:=x; exact Heap.lt_size e
theorem Paired.mapP {α β:Type} {F G:α→β→Prop}:∀ {l₁:List α} {l₂:List β},Paired F l₁ l₂→(∀ a b,F a b→G a b)→Paired G l₁ l₂
  | _,_,.nil,_=>.nil
  | _,_,.cons r t,f=>.cons (f _ _ r) (Paired.mapP t f)
theorem ObjOk.stay (x:ObjOk P w H h a o) (k:∀ b u,(b=a∨H b=some (.own a))→h.get? b=some u→h'.get? b=some u)
    (ho:∀ b,H b=some (.own a)→H' b=some (.own a)) (ht:∀ b xs,H b=some (.tup xs)→H' b=some (.tup xs)):ObjOk P w H' h' a o:=by
  induction o with
  | lst xs=>obtain ⟨z,its,n,r,e⟩:=x; exact ⟨z,its,n,r,k _ _ (.inl rfl) e⟩
  | tup xs=>obtain ⟨z,its,r,ob,e,c⟩:=x; exact ⟨z,its,r,ob,k _ _ (.inl rfl) e,c⟩
  | dK kvs=>obtain ⟨z,y,vs,r,ob,es,ep,e,c⟩:=x; exact ⟨z,y,vs,r,ob,es,ep,k _ _ (.inl rfl) e,c⟩
  | dT kvs =>
    obtain ⟨z,y,xs,r,ob,es,ep,e,c⟩:=x
    exact ⟨z,y,xs,Paired.mapP r fun p q z=>⟨z.1,ht _ _ z.2.1,z.2.2⟩,ob,es,ep,k _ _ (.inl rfl) e,c⟩
  | set S n=>obtain ⟨ob,es,ep,t,e,c⟩:=x; exact ⟨ob,es,ep,t,k _ _ (.inl rfl) e,c⟩
  | ins C dx fs =>
    obtain ⟨d,z,ne,e,mA,⟨od,es,ep,e2,c⟩,r⟩:=x
    exact ⟨ho _ d,z,ne,k _ _ (.inl rfl) e,mA,⟨od,es,ep,k _ _ (.inr d) e2,c⟩,r⟩
  | own y=>obtain ⟨ob,e⟩:=x; exact ⟨ob,k _ _ (.inl rfl) e⟩
  | xd fs=>obtain ⟨mA,⟨od,es,ep,e,c⟩,r⟩:=x; exact ⟨mA,⟨od,es,ep,k _ _ (.inl rfl) e,c⟩,r⟩
  | rng lo hi=>obtain ⟨t,u,v,e⟩:=x; exact ⟨t,u,v,k _ _ (.inl rfl) e⟩
  | frz ob u ih=>obtain ⟨e,q⟩:=x; exact ⟨k _ _ (.inl rfl) e,ih q⟩
  | tbl ps =>
    have e:h.get? a=some { cls:=.none,data:=.fields ps }:=x
    show h'.get? a=some { cls:=.none,data:=.fields ps }
    exact k a _ (.inl rfl) e
  | met f y =>
    have e:h.get? a=some (PySem.W.methodObj (.ref f) (.ref y)):=x
    show h'.get? a=some (PySem.W.methodObj (.ref f) (.ref y))
    exact k a _ (.inl rfl) e
  | ext φ=>obtain ⟨p,⟨o,e⟩,st⟩:=x; exact ⟨st _ _ p fun o q=>k _ _ (.inl rfl) q,⟨o,k _ _ (.inl rfl) e⟩,st⟩
theorem HOk.lt (x:HOk P w H h) (e:H a=some o):a < h.objs.size:=(x a o e).lt
theorem HOk.fresh (x:HOk P w H h) (e:h.objs.size≤a):H a=none:=by
  cases q:H a with
  | none=>rfl
  | some u=>exact absurd (Nat.lt_of_lt_of_le (x.lt q) e) (Nat.lt_irrefl _)

theorem HOk.kept (x:HOk P w H h) (k:∀ b u,h.get? b=some u→h'.get? b=some u):HOk P w H h':=fun a o e =>
  (x a o e).stay (fun b u _ q=>k b u q) (fun _ q=>q) fun _ _ q=>q

theorem HOk.laid (x:HOk P w H h) (k:∀ b u,h.get? b=some u→h'.get? b=some u) (hp:h.objs.size≤a) (new:ObjOk P w (upd H a o) h' a o):HOk P w (upd H a o) h':=fun b u e=>by
  have hn:=x.fresh hp
  by_cases hb:b=a
  · subst hb; rw [upd_same] at e; cases e; exact new
  · rw [upd_ne hb] at e
    exact (x b u e).stay (fun c v _ q=>k c v q) (fun c q=>by rw [upd_ne (ne_of_none q hn)]; exact q) fun c xs q=>by rw [upd_ne (ne_of_none q hn)]; exact q
end


def Rd (H:Hp) (a:Addr) (u:HO):Prop:=H a=some u∨∃ o,H a=some (.frz o u)
theorem Rd.ok {P:Program} {w:World} {H:Hp} {h:Heap} {a:Addr} {u:HO} (r:Rd H a u) (x:HOk P w H h):ObjOk P w H h a u:=by
  rcases r with r | ⟨o,r⟩
  · exact x a u r
  · obtain ⟨_,q⟩:=x a _ r
    exact q

def Mut:Option HO→Prop
  | some (.lst _)=>True
  | some (.dK _)=>True
  | some (.dT _)=>True
  | some (.set _ _)=>True
  | some (.ins _ _ _)=>True
  | some (.ext _)=>True
  | _=>False
section
variable {P:Program} {w:World} {H:Hp} {h h':Heap} {x e:Addr} {o':HO}

theorem HOk.write (ok:HOk P w H h) (mu:Mut (H x)) (he:e=x∨H e=some (.own x)) (k:∀ b u,b≠e→h.get? b=some u→h'.get? b=some u) (heo:∃ u,h'.get? e=some u)
    (new:ObjOk P w (upd H x o') h' x o'):HOk P w (upd H x o') h':=fun b u q=>by
  have nown:∀ c y,H c=some (.own y)→c≠x:=fun c y r z=>by subst z; rw [r] at mu; exact mu
  have ntup:∀ c xs,H c=some (.tup xs)→c≠x:=fun c xs r z=>by subst z; rw [r] at mu; exact mu
  by_cases hb:b=x
  · subst hb; rw [upd_same] at q; cases q; exact new
  · rw [upd_ne hb] at q
    by_cases hbe:b=e
    · have q':H b=some (.own x):=by
        rcases he with z | z
        · exact absurd (hbe.trans z) hb
        · rw [hbe]; exact z
      rw [q] at q'; cases q'
      obtain ⟨v,hv⟩:=heo
      exact ⟨v,by rw [hbe]; exact hv⟩
    · refine (ok b u q).stay (fun c v hc r=>k c v ?_ r) (fun c r=>by rw [upd_ne (nown c b r)]; exact r) fun c xs r=>by rw [upd_ne (ntup c xs r)]; exact r
      rcases hc with rfl | hc
      · exact hbe
      · rintro rfl
        rcases he with z | z
        · exact nown c b hc z
        · rw [hc] at z; cases z; exact hb rfl
end


structure Un (fs ex:List Addr) (H H':Hp) (h h':Heap):Prop where
  keep:∀ b o,h.get? b=some o→H b=none→b∉fs→b∉ex→h'.get? b=some o
  slot:∀ b o,h.get? b=some o→H b=none→b∈fs→b∉ex→∃ sl,h'.get? b=some { o with slots:=sl }
  free:∀ b o,h.get? b=some o→H b=none→b∉ex→H' b=none
  there:∀ b o,h.get? b=some o→b∉ex→∃ o',h'.get? b=some o'
  tups:∀ b xs,H b=some (.tup xs)→H' b=some (.tup xs)
  frzs:∀ b o u,H b=some (.frz o u)→H' b=some (.frz o u)
  tbls:∀ b ps,H b=some (.tbl ps)→∃ more,H' b=some (.tbl (ps++more))
section
variable {fs fs' ex ex':List Addr} {H H1 H2:Hp} {h h1 h2 h':Heap} {a x e:Addr} {o:HO}
theorem Un.any (u:Un fs ex H H1 h h1) {b:Addr} {ob:Obj} (q:h.get? b=some ob) (n:H b=none) (hx:b∉ex):∃ sl,h1.get? b=some { ob with slots:=sl }:=by
  by_cases hb:b∈fs
  · exact u.slot b ob q n hb hx
  · exact ⟨ob.slots,u.keep b ob q n hb hx⟩
theorem Un.kept (k:∀ b u,h.get? b=some u→h'.get? b=some u):Un fs ex H H h h' :=
  ⟨fun b ob q _ _ _=>k b ob q,fun b ob q _ _ _=>⟨ob.slots,k b ob q⟩,fun _ _ _ n _=>n,fun b ob q _=>⟨ob,k b ob q⟩,fun _ _ q=>q,fun _ _ _ q=>q,fun _ ps q=>⟨#[],by rw [q]; simp⟩⟩
theorem Un.refl:Un fs ex H H h h:=Un.kept fun _ _ q=>q
theorem Un.laid (k:∀ b u,h.get? b=some u→h'.get? b=some u) (hp:h.objs.size≤a) (hn:H a=none):Un fs ex H (upd H a o) h h' where
  keep:=fun b u q _ _ _=>k b u q
  slot:=fun b u q _ _ _=>⟨u.slots,k b u q⟩
  free:=fun b u q n _=>by rw [upd_ne (Nat.ne_of_lt (Nat.lt_of_lt_of_le (Heap.lt_size q) hp))]; exact n
  there:=fun b u q _=>⟨u,k b u q⟩
  tups:=fun b xs q=>by rw [upd_ne (ne_of_none q hn)]; exact q
  frzs:=fun b u xs q=>by rw [upd_ne (ne_of_none q hn)]; exact q
  tbls:=fun b ps q=>⟨#[],by rw [upd_ne (ne_of_none q hn),q]; simp⟩
theorem Un.write (mu:Mut (H x)) (he:e=x∨H e=some (.own x)) (k:∀ b u,b≠e→h.get? b=some u→h'.get? b=some u) (heo:∃ u,h'.get? e=some u):Un fs ex H (upd H x o) h h':=by
  have hx:∀ b,H b=none→b≠x:=fun b n z=>by subst z; rw [n] at mu; exact mu
  have hb:∀ b,H b=none→b≠e:=fun b n z=>by
    subst z
    rcases he with r | r
    · exact hx b n r
    · rw [n] at r; cases r
  have hm:∀ b u,H b=some u→¬ Mut (some u)→b≠x:=fun b u q nm z=>by subst z; rw [q] at mu; exact nm mu
  refine ⟨fun b u q n _ _=>k b u (hb b n) q,fun b u q n _ _=>⟨u.slots,k b u (hb b n) q⟩,fun b u q n _=>by rw [upd_ne (hx b n)]; exact n,fun b u q _ => ?_,
    fun b xs q=>by rw [upd_ne (hm b _ q fun z=>z)]; exact q,fun b u xs q=>by rw [upd_ne (hm b _ q fun z=>z)]; exact q,fun b ps q=>⟨#[],by rw [upd_ne (hm b _ q fun z=>z),q]; simp⟩⟩
  by_cases hbe:b=e
  · subst hbe; exact heo
  · exact ⟨u,k b u hbe q⟩
end


def trk (h:Heap) (H:Hp):List Addr:=(List.range h.objs.size).filter fun a=>(H a).isSome
def hidT (h:Heap) (H:Hp):Heap:=PySem.W.hideAll h (trk h H)
theorem hidT_size (h:Heap) (H:Hp):(hidT h H).objs.size=h.objs.size:=PySem.W.hideAll_size _ _
theorem hidT_get {h:Heap} {H:Hp} {b:Addr} {o:Obj} (e:h.get? b=some o) (n:H b=none):(hidT h H).get? b=some o :=
  PySem.W.hideAll_get _ e fun hm=>by
    have q:(H b).isSome=true:=(List.mem_filter.mp hm).2
    rw [n] at q; simp at q
theorem of_hidT {h:Heap} {H:Hp} {b:Addr} {o:Obj} (e:(hidT h H).get? b=some o):h.get? b=some o∧H b=none:=by
  have e':h.get? b=some o:=PySem.W.of_hideAll (trk h H) e
  refine ⟨e',?_⟩
  cases q:H b with
  | none=>rfl
  | some x =>
    have hm:b∈trk h H:=List.mem_filter.mpr ⟨List.mem_range.mpr (Heap.lt_size e'),by simp [q]⟩
    have z:(hidT h H).get? b=none:=PySem.W.hideAll_none (trk h H) hm
    rw [z] at e; cases e


end L2

namespace L2
open PySem PySem.Spec PyProof.Rows


structure Mod (K:PySem.W.Frag) (mg:Str→Option Value) (base:Heap):Prop where
  kin:K.In base
  glob:base.Ns mainGlobals mg
  blt:∃ mb,base.Ns builtinsNs mb∧∀ x:Str,x ≠ "__name__" → mb x=bootBuiltins x
  nolimit:base.NoLimit


structure Cx where
  prog:Program
  w:World
  K:PySem.W.Frag
  mg:Str→Option Value
  base:Heap
  A:Around
  N:List Str
  s₀:Shared
  H₀:Hp
  env:Env
  outer:List Env
  stack:List Env
  ex:List Addr
  fn:Str→Bool
  calm:Bool
  pn:List (Addr × Obj)
  xe:Value→Shared→Prop

def frs (l:List Env):List Addr:=l.filterMap (·.frame)
abbrev Cx.fs (X:Cx):List Addr:=frs X.outer

def Vis (sc:Scope) (x:Str):Prop:=sc.names.lookup x=some .local∨sc.names.lookup x=some .cell∨sc.names.lookup x=some .free
def Loc (sc:Scope) (x:Str):Prop:=sc.names.lookup x=some .local∨sc.names.lookup x=some .cell
def Look (env:Env) (h:Heap) (m:Str→Option Value) (x:Str) (u:Value):Prop :=
  (env.kindOf x=some .local∧m x=some u)∨((env.kindOf x=some .cell∨env.kindOf x=some .free)∧∃ c,env.cells.lookup x=some c∧h.IsCell c (some u))

structure Cx.Ok (X:Cx):Prop where
  mod:Mod X.K X.mg X.base
  kind:X.env.scope.kind=.function
  glob:X.env.globals=mainGlobals
  blt:X.env.builtins=builtinsNs
  above:X.s₀.heap.objs.size≤X.env.locals
  inj:∀ x y c,X.env.cells.lookup x=some c→X.env.cells.lookup y=some c→x=y
  has:∀ x,(X.env.kindOf x=some .cell∨X.env.kindOf x=some .free)→∃ c,X.env.cells.lookup x=some c
  cab:∀ x c,X.fn x=true→X.env.cells.lookup x=some c→X.s₀.heap.objs.size≤c
  hd:X.calm=true→X.A.handled=none
  frames:X.A.frames=some X.stack
  stk:X.stack=X.outer∨(X.stack=X.env::X.outer∧X.env.frame=some X.env.locals)
  exf:∀ b∈X.ex,b≠X.env.locals∧∀ x c,X.env.cells.lookup x=some c→c≠b
  bs:∀ b o,X.base.get? b=some o→X.s₀.heap.get? b=some o∧X.H₀ b=none
  bsz:X.base.objs.size≤X.s₀.heap.objs.size
  noex:∀ b o,X.base.get? b=some o→b∉X.ex
  exfs:∀ b∈X.ex,b∉X.fs
  funs:X.s₀.heap.FunFrames X.base X.outer
  frf:∀ b∈X.fs,X.H₀ b=none

structure Inv (X:Cx) (pins:List (Addr × Obj)) (σ:List (Option V)) (H:Hp) (s:Shared):Prop where
  ok:X.Ok
  os:s.os=X.s₀.os
  bare:AllBare s.gens
  base:Un X.fs X.ex X.H₀ H X.s₀.heap s.heap
  loc:∃ m,s.heap.Ns X.env.locals m∧∀ (i:Nat) (x:Str) (v:V),X.N[i]? = some x→σ[i]? = some (some v)→Vis X.env.scope x→∃ u,RelV v u∧Look X.env s.heap m x u
  cell:∀ x c,X.env.cells.lookup x=some c→∃ v,s.heap.IsCell c v
  free:H X.env.locals=none
  freeC:∀ x c,X.env.cells.lookup x=some c→H c=none
  pin:∀ p∈X.pn++pins,s.heap.get? p.1=some p.2∧H p.1=none∧p.1≠X.env.locals∧p.1∉X.fs∧∀ v,p.2.data≠.cell v
  hok:HOk X.prog X.w H s.heap
  len:σ.length=X.N.length

section
variable {X:Cx} {pins:List (Addr × Obj)} {σ:List (Option V)} {H H':Hp} {s:Shared} {h':Heap}

theorem Cx.Ok.nofr (ok:X.Ok) {b:Addr} {o:Obj} (e:X.base.get? b=some o):b∉X.fs:=fun hb=>by
  have:=(ok.funs.mem hb).1
  rw [e] at this; cases this
theorem Inv.bs (I:Inv X pins σ H s):∀ b o,X.base.get? b=some o→s.heap.get? b=some o∧H b=none:=fun b o e =>
  ⟨I.base.keep b o (I.ok.bs b o e).1 (I.ok.bs b o e).2 (I.ok.nofr e) (I.ok.noex b o e),I.base.free b o (I.ok.bs b o e).1 (I.ok.bs b o e).2 (I.ok.noex b o e)⟩
theorem Inv.bk (I:Inv X pins σ H s):∀ b o,X.base.get? b=some o→s.heap.get? b=some o:=fun b o e=>(I.bs b o e).1
theorem Inv.mod (I:Inv X pins σ H s):Mod X.K X.mg X.base:=I.ok.mod
theorem Inv.kIn (I:Inv X pins σ H s):X.K.In s.heap:=I.ok.mod.kin.keeps I.bk
theorem Inv.lt (I:Inv X pins σ H s):X.env.locals < s.heap.objs.size:=let ⟨_,hn,_⟩:=I.loc; hn.lt
theorem Inv.sz (I:Inv X pins σ H s):X.s₀.heap.objs.size≤s.heap.objs.size:=Nat.le_trans I.ok.above (Nat.le_of_lt I.lt)
theorem Inv.nofs (I:Inv X pins σ H s) {a:Addr} (h:s.heap.objs.size≤a):a∉X.fs:=fun hb=>by
  obtain ⟨_,o,ho,_⟩:=I.ok.funs.mem hb
  exact absurd (Nat.lt_of_lt_of_le (Heap.lt_size ho) (Nat.le_trans I.sz h)) (Nat.lt_irrefl _)
theorem Inv.cne (I:Inv X pins σ H s):∀ x c,X.env.cells.lookup x=some c→c≠X.env.locals:=fun x c e z=>by
  obtain ⟨v,o,ho,hd⟩:=I.cell x c e
  obtain ⟨m,⟨o',es,ep,ho',hd',_⟩,_⟩:=I.loc
  rw [z,ho'] at ho; cases ho; rw [hd'] at hd; cases hd
theorem Inv.funs (I:Inv X pins σ H s):s.heap.FunFrames X.base X.outer:=by
  have all:∀ (l:List Env),(∀ b∈frs l,b∈X.fs)→X.s₀.heap.FunFrames X.base l→s.heap.FunFrames X.base l:=by
    intro l
    induction l with
    | nil=>intro _ _; trivial
    | cons env r ih =>
      intro hs hl
      obtain ⟨hk,⟨L,o,hf,hn,ho,hd⟩,hr⟩:=hl
      have hL:L∈X.fs:=hs L (by unfold frs; rw [List.filterMap_cons,hf]; exact List.mem_cons_self)
      obtain ⟨sl,e⟩:=I.base.slot L o ho (I.ok.frf L hL) hL fun z=>I.ok.exfs L z hL
      exact ⟨hk,⟨L,_,hf,hn,e,hd⟩,ih (fun b hb=>hs b (by unfold frs; rw [List.filterMap_cons,hf]; exact List.mem_cons_of_mem _ hb)) hr⟩
  exact all X.outer (fun _ hb=>hb) I.ok.funs


theorem Inv.stack (I:Inv X pins σ H s):s.heap.FunFrames X.base X.stack:=by
  rcases I.ok.stk with e | ⟨e,hf⟩
  · rw [e]; exact I.funs
  · rw [e]
    obtain ⟨m,hn,_⟩:=I.loc
    refine .cons (by rw [I.ok.kind]; decide) hf hn ?_ I.funs
    exact Heap.get?_none_of_le (Nat.le_trans I.ok.bsz I.ok.above)
theorem Inv.stkSub (I:Inv X pins σ H s):∀ b∈frs X.stack,b∈X.env.locals::X.fs:=fun b hb=>by
  rcases I.ok.stk with e | ⟨e,hf⟩
  · rw [e] at hb; exact List.mem_cons_of_mem _ hb
  · rw [e] at hb
    unfold frs at hb
    rw [List.filterMap_cons,hf] at hb
    exact hb
theorem Inv.stkFree (I:Inv X pins σ H s):∀ b∈frs X.stack,H b=none:=fun b hb=>by
  rcases List.mem_cons.mp (I.stkSub b hb) with e | hb
  · rw [e]; exact I.free
  · obtain ⟨_,o,ho,_⟩:=I.ok.funs.mem hb
    exact I.base.free b o ho (I.ok.frf b hb) fun z=>I.ok.exfs b z hb


theorem Inv.step {g':Array GenState} {t':Nat} {d':Drawn} {ch:List Addr} (I:Inv X pins σ H s)
    (hch:∀ b∈ch,(b∈X.ex∨X.s₀.heap.objs.size≤b)∧b≠X.env.locals∧(∀ x c,X.env.cells.lookup x=some c→c≠b)∧∀ p∈X.pn++pins,p.1≠b)
    (keep:∀ b o,b≠X.env.locals→b∉X.fs→b∉ch→s.heap.get? b=some o→H b=none→h'.get? b=some o)
    (slot:∀ b o,b≠X.env.locals→b∈X.fs→b∉ch→s.heap.get? b=some o→H b=none→∃ sl,h'.get? b=some { o with slots:=sl }) (free:∀ b o,b∉ch→s.heap.get? b=some o→H b=none→H' b=none)
    (there:∀ b o,b∉ch→s.heap.get? b=some o→∃ o',h'.get? b=some o')
    (tups:∀ b xs,H b=some (.tup xs)→H' b=some (.tup xs)) (frzs:∀ b o u,H b=some (.frz o u)→H' b=some (.frz o u)) (tbls:∀ b ps,H b=some (.tbl ps)→∃ more,H' b=some (.tbl (ps++more)))
    (ns:∀ m,s.heap.Ns X.env.locals m→h'.Ns X.env.locals m) (hok:HOk X.prog X.w H' h') (hg:AllBare g') :
    Inv X pins σ H' { s with heap:=h',gens:=g',drawn:=d',toks:=t' }:=by
  have neL:∀ b o,X.s₀.heap.get? b=some o→b≠X.env.locals:=fun b o e=>Nat.ne_of_lt (Nat.lt_of_lt_of_le (Heap.lt_size e) I.ok.above)
  have neC:∀ b o,X.s₀.heap.get? b=some o→b∉X.ex→b∉ch:=fun b o e hx hb=>by
    rcases (hch b hb).1 with z | z
    · exact hx z
    · exact absurd (Nat.lt_of_lt_of_le (Heap.lt_size e) z) (Nat.lt_irrefl _)
  have cellK:∀ x c,X.env.cells.lookup x=some c→∀ v,s.heap.IsCell c v→h'.IsCell c v:=fun x c e v ⟨o,ho,hd⟩=>by
    have nch:c∉ch:=fun z=>(hch c z).2.2.1 x c e rfl
    by_cases hc:c∈X.fs
    · obtain ⟨sl,q⟩:=slot c o (I.cne x c e) hc nch ho (I.freeC x c e)
      exact ⟨_,q,hd⟩
    · exact ⟨o,keep c o (I.cne x c e) hc nch ho (I.freeC x c e),hd⟩
  refine ⟨I.ok,I.os,hg,⟨fun b o e n hb hx => ?_,fun b o e n hb hx => ?_,fun b o e n hx => ?_,fun b o e hx => ?_,fun b xs e=>tups b xs (I.base.tups b xs e),fun b o xs e=>frzs b o xs (I.base.frzs b o xs e),fun b ps e => ?_⟩,?_,fun x c e => ?_,?_,fun x c e => ?_,fun p hp => ?_,hok,I.len⟩
  · exact keep b o (neL b o e) hb (neC b o e hx) (I.base.keep b o e n hb hx) (I.base.free b o e n hx)
  · obtain ⟨sl,e1⟩:=I.base.slot b o e n hb hx
    obtain ⟨sl',e2⟩:=slot b _ (neL b o e) hb (neC b o e hx) e1 (I.base.free b o e n hx)
    exact ⟨sl',e2⟩
  · obtain ⟨o',e1⟩:=I.base.there b o e hx
    exact free b o' (neC b o e hx) e1 (I.base.free b o e n hx)
  · obtain ⟨o',e1⟩:=I.base.there b o e hx
    exact there b o' (neC b o e hx) e1
  · obtain ⟨m1,e1⟩:=I.base.tbls b ps e
    obtain ⟨m2,e2⟩:=tbls b _ e1
    exact ⟨m1++m2,by rw [e2,Array.append_assoc]⟩
  · obtain ⟨m,hn,hl⟩:=I.loc
    refine ⟨m,ns m hn,fun i x v e1 e2 e3 => ?_⟩
    obtain ⟨u,r,l⟩:=hl i x v e1 e2 e3
    refine ⟨u,r,?_⟩
    rcases l with l | ⟨k,c,e,z⟩
    · exact .inl l
    · exact .inr ⟨k,c,e,cellK x c e _ z⟩
  · obtain ⟨v,z⟩:=I.cell x c e
    exact ⟨v,cellK x c e v z⟩
  · obtain ⟨m,⟨o,_,_,ho,_⟩,_⟩:=I.loc
    exact free _ o (fun z=>(hch _ z).2.1 rfl) ho I.free
  · obtain ⟨v,o,ho,hd⟩:=I.cell x c e
    exact free c o (fun z=>(hch c z).2.2.1 x c e rfl) ho (I.freeC x c e)
  · obtain ⟨e,n,ne,nf,d⟩:=I.pin p hp
    have nch:p.1∉ch:=fun z=>(hch p.1 z).2.2.2 p hp rfl
    exact ⟨keep p.1 p.2 ne nf nch e n,free p.1 p.2 nch e n,ne,nf,d⟩

theorem Inv.un {t':Nat} (I:Inv X pins σ H s) (u:Un X.fs [] H H' s.heap h') (hok:HOk X.prog X.w H' h'):Inv X pins σ H' { s with heap:=h',toks:=t' }:=by
  obtain ⟨m,⟨o,es,ep,ho,r⟩,_⟩:=id I.loc
  obtain ⟨sl,hL⟩:=u.any ho I.free (by simp)
  exact I.step (g':=s.gens) (d':=s.drawn) (ch:=[]) (fun _ z=>nomatch z) (fun b o _ hb _ e n=>u.keep b o e n hb (by simp)) (fun b o _ hb _ e n=>u.slot b o e n hb (by simp)) (fun b o _ e n=>u.free b o e n (by simp)) (fun b o _ e=>u.there b o e (by simp)) u.tups u.frzs u.tbls (fun m' hm=>by
    obtain ⟨o',es',ep',ho',r'⟩:=hm
    rw [ho] at ho'; cases ho'
    exact ⟨_,es',ep',hL,r'⟩) hok I.bare

theorem Inv.call {g':Array GenState} {t':Nat} {d':Drawn} {ch:List Addr} (I:Inv X pins σ H s) (u:Un (frs X.stack) ch H H' s.heap h') (hok:HOk X.prog X.w H' h') (hg:AllBare g')
    (hch:∀ b∈ch,(b∈X.ex∨X.s₀.heap.objs.size≤b)∧b≠X.env.locals∧(∀ x c,X.env.cells.lookup x=some c→c≠b)∧∀ p∈X.pn++pins,p.1≠b) :
    Inv X pins σ H' { s with heap:=h',gens:=g',drawn:=d',toks:=t' }:=by
  obtain ⟨m,⟨o,es,ep,ho,r⟩,_⟩:=id I.loc
  obtain ⟨sl,hL⟩:=u.any ho I.free fun z=>(hch _ z).2.1 rfl
  exact I.step (ch:=ch) hch (fun b o hL hb hc e n=>u.keep b o e n (fun z=>(List.mem_cons.mp (I.stkSub b z)).elim hL hb) hc) (fun b o _ _ hc e n=>u.any e n hc) (fun b o hc e n=>u.free b o e n hc) (fun b o hc e=>u.there b o e hc) u.tups u.frzs u.tbls (fun m' hm=>by
    obtain ⟨o',es',ep',ho',r'⟩:=hm
    rw [ho] at ho'; cases ho'
    exact ⟨_,es',ep',hL,r'⟩) hok hg

theorem Inv.turned {t':Nat} {it:Addr} (I:Inv X pins σ H s) (k:∀ b o,b≠it→s.heap.get? b=some o→h'.get? b=some o) (hn:H it=none) (hL:it≠X.env.locals)
    (h1:it∈X.ex∨X.s₀.heap.objs.size≤it) (h2:∀ x c,X.env.cells.lookup x=some c→c≠it) (h3:∀ p∈X.pn++pins,p.1≠it):Inv X pins σ H { s with heap:=h',toks:=t' }:=by
  have nit:∀ b u,H b=some u→b≠it:=fun b u e z=>by rw [z,hn] at e; cases e
  refine I.step (g':=s.gens) (d':=s.drawn) (ch:=[it]) (fun b hb => ?_) (fun b o _ _ hc e _=>k b o (fun z=>hc (by simp [z])) e) (fun b o _ _ hc e _=>⟨o.slots,k b o (fun z=>hc (by simp [z])) e⟩) (fun _ _ _ _ n=>n)
    (fun b o hc e=>⟨o,k b o (fun z=>hc (by simp [z])) e⟩) (fun _ _ e=>e) (fun _ _ _ e=>e) (fun b ps e=>⟨#[],by rw [e]; simp⟩) (fun m hm => ?_) (fun b u e => ?_) I.bare
  · have e:b=it:=by simpa using hb
    subst e
    exact ⟨h1,hL,h2,h3⟩
  · obtain ⟨o,es,ep,ho,r⟩:=hm
    exact ⟨o,es,ep,k _ o (Ne.symm hL) ho,r⟩
  · refine (I.hok b u e).stay (fun c v hc q=>k c v ?_ q) (fun _ q=>q) fun _ _ q=>q
    rcases hc with z | z
    · rw [z]; exact nit b u e
    · exact nit c _ z
theorem Inv.tok (I:Inv X pins σ H s) (t:Nat):Inv X pins σ H { s with toks:=t }:=I.un (h':=s.heap) (t':=t) Un.refl I.hok

theorem Inv.kept {t':Nat} (I:Inv X pins σ H s) (k:∀ b u,s.heap.get? b=some u→h'.get? b=some u):Inv X pins σ H { s with heap:=h',toks:=t' }:=I.un (Un.kept k) (I.hok.kept k)

theorem Inv.laid {a:Addr} {o:HO} {t':Nat} (I:Inv X pins σ H s) (k:∀ b u,s.heap.get? b=some u→h'.get? b=some u) (hp:s.heap.objs.size≤a) (new:ObjOk X.prog X.w (upd H a o) h' a o) :
    Inv X pins σ (upd H a o) { s with heap:=h',toks:=t' }:=I.un (Un.laid k hp (I.hok.fresh hp)) (I.hok.laid k hp new)

theorem Inv.write {x e:Addr} {o:HO} {t':Nat} (I:Inv X pins σ H s) (mu:Mut (H x)) (he:e=x∨H e=some (.own x)) (k:∀ b u,b≠e→s.heap.get? b=some u→h'.get? b=some u) (heo:∃ u,h'.get? e=some u)
    (new:ObjOk X.prog X.w (upd H x o) h' x o):Inv X pins σ (upd H x o) { s with heap:=h',toks:=t' }:=I.un (Un.write mu he k heo) (I.hok.write mu he k heo new)

theorem Inv.weak {σ':List (Option V)} (I:Inv X pins σ H s) (hl:σ'.length=σ.length) (w:∀ (i:Nat) v,σ'[i]? = some (some v)→σ[i]? = some (some v)):Inv X pins σ' H s :=
  ⟨I.ok,I.os,I.bare,I.base,let ⟨m,hn,hl'⟩:=I.loc; ⟨m,hn,fun i x v e1 e2 e3=>hl' i x v e1 (w i v e2) e3⟩,I.cell,I.free,I.freeC,I.pin,I.hok,hl.trans I.len⟩
theorem Inv.pins_of {pins':List (Addr × Obj)} (I:Inv X pins σ H s) (h:∀ p∈pins',s.heap.get? p.1=some p.2∧H p.1=none∧p.1≠X.env.locals∧p.1∉X.fs∧∀ v,p.2.data≠.cell v):Inv X pins' σ H s :=
  ⟨I.ok,I.os,I.bare,I.base,I.loc,I.cell,I.free,I.freeC,fun p hp=>(List.mem_append.mp hp).elim (fun z=>I.pin p (List.mem_append_left _ z)) (h p),I.hok,I.len⟩

theorem nodup_ix {N:List Str} (hN:N.Nodup) {i j:Nat} {x:Str} (a:N[i]? = some x) (b:N[j]? = some x):i=j:=by
  obtain ⟨h1,e1⟩:=List.getElem?_eq_some_iff.mp a
  obtain ⟨h2,e2⟩:=List.getElem?_eq_some_iff.mp b
  exact (List.getElem_inj hN).mp (e1.trans e2.symm)


theorem store_ok2 {M:Model} {A:Around} {E:Value→Shared→Prop} {i:Nat} {x:Str} {v:V} {u:Value} {Q:Unit→Shared→Prop} (I:Inv X pins σ H s) (hN:X.N.Nodup) (hi:X.N[i]? = some x) (hx:Loc X.env.scope x) (r:RelV v u)
    (h:∀ s',Inv X pins (σ.set i (some v)) H s'→(∃ a,Heap.SameBut a s.heap s'.heap∧(a=X.env.locals∨X.env.cells.lookup x=some a))→Q () s') (hf:X.fn x=true∨X.env.scope.names.lookup x=some .local:=by first | exact .inl rfl | exact .inr rfl | assumption):wpAny M A (storeName X.env x u) Q E s:=by
  obtain ⟨m,hn,hl⟩:=id I.loc
  have hcls:(X.env.scope.kind == .class || (X.env.scope.kind == .module && X.env.locals != X.env.globals))=false:=by rw [I.ok.kind]; rfl
  have hiσ:i < σ.length:=by rw [I.len]; exact (List.getElem?_eq_some_iff.mp hi).1
  have cne:=I.cne
  have tracked:∀ {a:Addr} {h':Heap},(∃ o,s.heap.get? a=some o∧H a=none)→Heap.SameBut a s.heap h'→HOk X.prog X.w H h':=fun {a h'} ha hs b ob e=>by
    obtain ⟨_,_,hfree⟩:=ha
    refine (I.hok b ob e).stay (fun c w' hc q=>(hs.2 c ?_).trans q) (fun _ q=>q) fun _ _ q=>q
    rintro rfl
    rcases hc with rfl | hc
    · rw [hfree] at e; cases e
    · rw [hfree] at hc; cases hc
  rcases hx with hk | hk
  · refine wpAny_storeName_local hk hn (fun h' hn' hs => ?_) hcls
    obtain ⟨oL,_,_,hoL,_⟩:=id hn
    refine h _ ⟨I.ok,I.os,I.bare,⟨fun b o e n hb hx => ?_,fun b o e n hb hx => ?_,I.base.free,fun b o e hx => ?_,I.base.tups,I.base.frzs,I.base.tbls⟩,⟨_,hn',fun j y v' e1 e2 e3 => ?_⟩,fun y c e => ?_,I.free,I.freeC,fun p hp => ?_,tracked ⟨oL,hoL,I.free⟩ hs,by simpa using I.len⟩ ⟨_,hs,.inl rfl⟩
    · exact (hs.2 b (Nat.ne_of_lt (Nat.lt_of_lt_of_le (Heap.lt_size e) I.ok.above))).trans (I.base.keep b o e n hb hx)
    · obtain ⟨sl,e1⟩:=I.base.slot b o e n hb hx
      exact ⟨sl,(hs.2 b (Nat.ne_of_lt (Nat.lt_of_lt_of_le (Heap.lt_size e) I.ok.above))).trans e1⟩
    · obtain ⟨o',e1⟩:=I.base.there b o e hx
      exact ⟨o',(hs.2 b (Nat.ne_of_lt (Nat.lt_of_lt_of_le (Heap.lt_size e) I.ok.above))).trans e1⟩
    · by_cases hj:j=i
      · subst hj
        rw [hi] at e1; cases e1
        rw [List.getElem?_set_self hiσ] at e2
        cases e2
        exact ⟨u,r,.inl ⟨hk,by simp⟩⟩
      · rw [List.getElem?_set_ne (Ne.symm hj)] at e2
        obtain ⟨u',r',q⟩:=hl j y v' e1 e2 e3
        refine ⟨u',r',?_⟩
        rcases q with ⟨k,e⟩ | ⟨k,c,e,z⟩
        · refine .inl ⟨k,?_⟩
          have:y≠x:=fun e=>hj (nodup_ix hN e1 (e▸hi))
          simp [this,e]
        · exact .inr ⟨k,c,e,z.sameBut hs (cne y c e)⟩
    · obtain ⟨w',z⟩:=I.cell y c e
      exact ⟨w',z.sameBut hs (cne y c e)⟩
    · obtain ⟨e,n,ne,nf,d⟩:=I.pin p hp
      exact ⟨(hs.2 p.1 ne).trans e,n,ne,nf,d⟩
  · have hfn:X.fn x=true:=by
      rcases hf with z | z
      · exact z
      · rw [z] at hk; cases hk
    obtain ⟨c,hc⟩:=I.ok.has x (.inl hk)
    obtain ⟨w',z⟩:=I.cell x c hc
    refine wpAny_storeName_cell I.ok.kind hk hc z (fun h' hc' hs => ?_)
    obtain ⟨oc,hoc,hocd⟩:=id z
    refine h { s with heap:=h' } ⟨I.ok,I.os,I.bare,⟨fun b o e n hb hx => ?_,fun b o e n hb hx => ?_,I.base.free,fun b o e hx => ?_,I.base.tups,I.base.frzs,I.base.tbls⟩,⟨m,hn.sameBut hs (Ne.symm (cne x c hc)),fun j y v' e1 e2 e3 => ?_⟩,fun y c' e => ?_,I.free,I.freeC,fun p hp => ?_,tracked ⟨oc,hoc,I.freeC x c hc⟩ hs,by simpa using I.len⟩ ⟨c,hs,.inr hc⟩
    · exact (hs.2 b (Nat.ne_of_lt (Nat.lt_of_lt_of_le (Heap.lt_size e) (I.ok.cab x c hfn hc)))).trans (I.base.keep b o e n hb hx)
    · obtain ⟨sl,e1⟩:=I.base.slot b o e n hb hx
      exact ⟨sl,(hs.2 b (Nat.ne_of_lt (Nat.lt_of_lt_of_le (Heap.lt_size e) (I.ok.cab x c hfn hc)))).trans e1⟩
    · obtain ⟨o',e1⟩:=I.base.there b o e hx
      exact ⟨o',(hs.2 b (Nat.ne_of_lt (Nat.lt_of_lt_of_le (Heap.lt_size e) (I.ok.cab x c hfn hc)))).trans e1⟩
    · by_cases hj:j=i
      · subst hj
        rw [hi] at e1; cases e1
        rw [List.getElem?_set_self hiσ] at e2
        cases e2
        exact ⟨u,r,.inr ⟨.inl hk,c,hc,hc'⟩⟩
      · rw [List.getElem?_set_ne (Ne.symm hj)] at e2
        obtain ⟨u',r',q⟩:=hl j y v' e1 e2 e3
        refine ⟨u',r',?_⟩
        rcases q with q | ⟨k,c',e,z'⟩
        · exact .inl q
        · refine .inr ⟨k,c',e,z'.sameBut hs ?_⟩
          rintro rfl
          exact hj (nodup_ix hN e1 (I.ok.inj _ _ _ e hc▸hi))
    · by_cases hcc:c'=c
      · subst hcc; exact ⟨_,hc'⟩
      · obtain ⟨w2,z2⟩:=I.cell y c' e
        exact ⟨w2,z2.sameBut hs hcc⟩
    · obtain ⟨e,n,ne,nf,d⟩:=I.pin p hp
      refine ⟨(hs.2 p.1 ?_).trans e,n,ne,nf,d⟩
      intro q
      rw [q,hoc] at e
      have q':oc=p.2:=Option.some.inj e
      exact d w' (by rw [← q']; exact hocd)
theorem store_ok {M:Model} {A:Around} {E:Value→Shared→Prop} {i:Nat} {x:Str} {v:V} {u:Value} {Q:Unit→Shared→Prop} (I:Inv X pins σ H s) (hN:X.N.Nodup) (hi:X.N[i]? = some x) (hx:Loc X.env.scope x) (r:RelV v u)
    (h:∀ s',Inv X pins (σ.set i (some v)) H s'→Q () s') (hf:X.fn x=true∨X.env.scope.names.lookup x=some .local:=by first | exact .inl rfl | exact .inr rfl | assumption):wpAny M A (storeName X.env x u) Q E s :=
  store_ok2 I hN hi hx r (fun s' I' _=>h s' I') hf

theorem Inv.call' {s':Shared} {ch:List Addr} (I:Inv X pins σ H s) (ho:s'.os=s.os) (u:Un (frs X.stack) ch H H' s.heap s'.heap) (hok:HOk X.prog X.w H' s'.heap) (hg:AllBare s'.gens)
    (hch:∀ b∈ch,(b∈X.ex∨X.s₀.heap.objs.size≤b)∧b≠X.env.locals∧(∀ x c,X.env.cells.lookup x=some c→c≠b)∧∀ p∈X.pn++pins,p.1≠b):Inv X pins σ H' s':=by
  obtain ⟨h',g',d',t',o'⟩:=s'
  have e:o'=s.os:=ho
  subst e
  exact I.call (g':=g') (t':=t') (d':=d') u hok hg hch
end



abbrev XK:=Value→Option Addr→Hp→Prop
abbrev St:=List (Option V)
abbrev VK:=V→Hp→Prop

abbrev TE:=St→Hp→VK→Prop
abbrev TT:=St→Hp→(Bool→Hp→Prop)→Prop
abbrev TA:=St→Hp→(List V→Hp→Prop)→Prop

structure Ends where
  nx:St→Hp→Prop
  rt:VK
  bk:St→Hp→Prop:=fun _ _=>False
  ct:St→Hp→Prop:=fun _ _=>False
abbrev TS:=Ends→St→Hp→Prop

def EP (X:Cx) (pins:List (Addr × Obj)) (σ:St) (Q:VK) (u:Value) (s':Shared):Prop:=∃ v H',Inv X pins σ H' s'∧RelV v u∧Q v H'
def TP (X:Cx) (pins:List (Addr × Obj)) (σ:St) (Q:Bool→Hp→Prop) (b:Bool) (s':Shared):Prop:=∃ H',Inv X pins σ H' s'∧Q b H'
def AP (X:Cx) (pins:List (Addr × Obj)) (σ:St) (Q:List V→Hp→Prop) (us:List Value) (s':Shared):Prop:=∃ vs H',Inv X pins σ H' s'∧Vals vs us∧Q vs H'
def SP (X:Cx) (pins:List (Addr × Obj)) (D:Ends) (f:Flow) (s':Shared):Prop :=
  match f with
  | .next=>∃ σ' H',Inv X pins σ' H' s'∧D.nx σ' H'
  | .brk=>∃ σ' H',Inv X pins σ' H' s'∧D.bk σ' H'
  | .cont=>∃ σ' H',Inv X pins σ' H' s'∧D.ct σ' H'
  | .ret u=>∃ v σ' H',Inv X pins σ' H' s'∧RelV v u∧D.rt v H'

def PE (X:Cx) (e:Expr) (t:TE):Prop :=
  ∀ (pins:List (Addr × Obj)) (s:Shared) (σ:St) (H:Hp) (Q:VK),Inv X pins σ H s→t σ H Q→wpAny (model X.prog X.w) X.A (eval e X.env) (EP X pins σ Q) X.xe s
def PT (X:Cx) (e:Expr) (t:TT):Prop :=
  ∀ (pins:List (Addr × Obj)) (s:Shared) (σ:St) (H:Hp) (Q:Bool→Hp→Prop),Inv X pins σ H s→t σ H Q→wpAny (model X.prog X.w) X.A (isTrue e X.env (eval e X.env)) (TP X pins σ Q) X.xe s

def PW (X:Cx) (e:Expr) (t:TT):Prop :=
  ∀ (whole:Sem Value) (pins:List (Addr × Obj)) (s:Shared) (σ:St) (H:Hp) (Q:Bool→Hp→Prop),Inv X pins σ H s→t σ H Q→wpAny (model X.prog X.w) X.A (isTrue e X.env whole) (TP X pins σ Q) X.xe s
theorem PW.pt {X:Cx} {e:Expr} {t:TT} (h:PW X e t):PT X e t:=h _

def PA (X:Cx) (es:List Expr) (t:TA):Prop :=
  ∀ (pos:Pos) (pins:List (Addr × Obj)) (s:Shared) (σ:St) (H:Hp) (Q:List V→Hp→Prop),Inv X pins σ H s→t σ H Q→wpAny (model X.prog X.w) X.A (spliced (backTo pos (starEach es X.env))) (AP X pins σ Q) X.xe s
def PS (X:Cx) (st:Stmt) (t:TS):Prop :=
  ∀ (pins:List (Addr × Obj)) (s:Shared) (σ:St) (H:Hp) (D:Ends),Inv X pins σ H s→t D σ H→wpAny (model X.prog X.w) X.A (exec st X.env) (SP X pins D) X.xe s
def PSs (X:Cx) (st:List Stmt) (t:TS):Prop :=
  ∀ (pins:List (Addr × Obj)) (s:Shared) (σ:St) (H:Hp) (D:Ends),Inv X pins σ H s→t D σ H→wpAny (model X.prog X.w) X.A (execs st X.env) (SP X pins D) X.xe s

theorem thn {α:Type} {t:Sem α} {Q Q':α→Shared→Prop} {M:Model} {A:Around} {E:Value→Shared→Prop} {s:Shared} (h:wpAny M A t Q E s) (hQ:∀ a s,Q a s→Q' a s):wpAny M A t Q' E s:=wpAny_mono h hQ fun _ _ x=>x
end L2

namespace L2
open PySem PySem.Spec PyProof.Rows
section
variable {X:Cx}


def tVar (i:Nat):TE:=fun σ H Q=>∃ v,σ[i]? = some (some v)∧Q v H
def tC (v:V):TE:=fun _ H Q=>Q v H
theorem pe_var {i:Nat} {x:Str} {pos:Pos} (hN:X.N[i]? = some x) (hv:Vis X.env.scope x) (hd:(x == ("__debug__" : Str))=false:=by decide) (hcd:(x == ("__classdict__" : Str))=false:=by decide):PE X (.Name x pos) (tVar i):=by
  intro pins s σ H Q I h
  obtain ⟨v,e,h⟩:=h
  obtain ⟨m,hn,hl⟩:=I.loc
  obtain ⟨u,r,l⟩:=hl i x v hN e hv
  have fin:EP X pins σ Q u s:=⟨v,H,I,r,h⟩
  rcases l with ⟨hk,hm⟩ | ⟨hk,c,hc,hcell⟩
  · exact wpAny_Name (wpAny_loadName_local I.ok.kind hk hn hm fin) hd
  · rcases hk with hk | hk
    · exact wpAny_Name (wpAny_loadName_cell I.ok.kind hk hc hcell fin) hd
    · exact wpAny_Name (wpAny_loadName_free I.ok.kind hk hc hcell fin hcd) hd
theorem pe_int {i j pos}:PE X (.Constant (.int i) j pos) (tC (.int i)):=fun _ _ _ H _ I h=>wpAny_Constant_int ⟨.int i,H,I.tok _,⟨_,rfl⟩,h⟩
theorem pe_bl {b j pos}:PE X (.Constant (.bool b) j pos) (tC (.bl b)):=fun _ _ _ H _ I h=>Constant_bool ⟨.bl b,H,I,rfl,h⟩
theorem pe_non {j pos}:PE X (.Constant .none j pos) (tC .non):=fun _ _ _ H _ I h=>Constant_none ⟨.non,H,I,rfl,h⟩
theorem pe_str {x j pos}:PE X (.Constant (.str x) j pos) (tC (.str x)):=fun _ _ _ H _ I h=>Calls.Constant_str ⟨.str x,H,I.tok _,⟨_,rfl⟩,h⟩


def Gl (X:Cx) (x:Str):Prop:=X.env.kindOf x=some .globalImplicit
theorem ld_glob {E:Value→Shared→Prop} {pins:List (Addr × Obj)} {s:Shared} {σ:St} {H:Hp} {x:Str} {u:Value} {pos:Pos} {Q:Value→Shared→Prop} (I:Inv X pins σ H s) (hg:Gl X x) (hm:X.mg x=some u) (h:Q u s)
    (hd:(x == ("__debug__" : Str))=false:=by decide):wpAny (model X.prog X.w) X.A (eval (.Name x pos) X.env) Q E s :=
  Calls.Name_function_global I.ok.kind hg (Calls.loadGlobal_global (by rw [I.ok.glob]; exact I.mod.glob.keeps I.bk) hm h) hd
theorem ld_blt {E:Value→Shared→Prop} {pins:List (Addr × Obj)} {s:Shared} {σ:St} {H:Hp} {x:Str} {u:Value} {pos:Pos} {Q:Value→Shared→Prop} (I:Inv X pins σ H s) (hg:Gl X x) (hm:X.mg x=none) (hv:bootBuiltins x=some u) (h:Q u s)
    (hn:x ≠ "__name__" := by decide) (hd:(x == ("__debug__" : Str))=false:=by decide):wpAny (model X.prog X.w) X.A (eval (.Name x pos) X.env) Q E s:=by
  obtain ⟨mb,h1,h2⟩:=I.mod.blt
  exact Calls.Name_function_global I.ok.kind hg (Calls.loadGlobal_builtin (by rw [I.ok.glob]; exact I.mod.glob.keeps I.bk) hm (by rw [I.ok.blt]; exact h1.keeps I.bk) ((h2 x hn).trans hv) h) hd

theorem pe_glob {x:Str} {v:V} {u:Value} {pos:Pos} (hg:Gl X x) (hm:X.mg x=some u) (r:RelV v u) (hd:(x == ("__debug__" : Str))=false:=by decide):PE X (.Name x pos) (tC v) :=
  fun _ _ _ H _ I h=>ld_glob I hg hm ⟨v,H,I,r,h⟩ hd
theorem pe_bltn {x:Str} {v:V} {u:Value} {pos:Pos} (hg:Gl X x) (hm:X.mg x=none) (hv:bootBuiltins x=some u) (r:RelV v u) (hn:x ≠ "__name__" := by decide) (hd:(x == ("__debug__" : Str))=false:=by decide):PE X (.Name x pos) (tC v) :=
  fun _ _ _ H _ I h=>ld_blt I hg hm hv ⟨v,H,I,r,h⟩ hn hd



variable {a b:Expr} {ta tb:TE} {pos:Pos}
def tB (t:TE):TT:=fun σ H Q=>t σ H fun x H1=>∃ c,x=.bl c∧Q c H1
theorem pt_val {e:Expr} {t:TE} (h:PE X e t) (he:∀ whole,isTrue e X.env whole=(do let v ← whole; standAt e.pos; holding [v] (truthy v)):=by intro _; rfl):PT X e (tB t):=by
  intro pins s σ H Q I hw
  refine isTrue_plain (thn (h pins s σ H _ I hw) fun v s1 ⟨x,H1,I1,r1,q1⟩ => ?_) (he _)
  obtain ⟨d,rfl,q⟩:=q1
  cases r1
  exact wpAny_truthy_bool ⟨H1,I1,q⟩


variable {tA tB':TT} {rest:List Expr}
def tAnd (t u:TT):TT:=fun σ H Q=>t σ H fun c H1=>if c=true then u σ H1 Q else Q false H1
def tOr (t u:TT):TT:=fun σ H Q=>t σ H fun c H1=>if c=true then Q true H1 else u σ H1 Q
def tNot (t:TT):TT:=fun σ H Q=>t σ H fun c H1=>Q (!c) H1
theorem pw_and1 (ha:PT X a tA):PW X (.BoolOp .And [a] pos) tA:=by
  intro wh pins s σ H Q I h
  refine isTrue_and (thn (ha pins s σ H Q I h) fun c s1 e => ?_)
  cases c with
  | true=>exact isTrue_and_nil e
  | false=>exact e
theorem pw_or1 (ha:PT X a tA):PW X (.BoolOp .Or [a] pos) tA:=by
  intro wh pins s σ H Q I h
  refine isTrue_or (thn (ha pins s σ H Q I h) fun c s1 e => ?_)
  cases c with
  | false=>exact isTrue_or_nil e
  | true=>exact e
theorem pw_and (ha:PT X a tA) (hb:PW X (.BoolOp .And (b::rest) pos) tB'):PW X (.BoolOp .And (a::b::rest) pos) (tAnd tA tB'):=by
  intro wh pins s σ H Q I h
  refine isTrue_and (thn (ha pins s σ H _ I h) fun c s1 ⟨H1,I1,q1⟩ => ?_)
  cases c with
  | true=>exact hb wh pins s1 σ H1 Q I1 q1
  | false=>exact ⟨H1,I1,q1⟩
theorem pw_or (ha:PT X a tA) (hb:PW X (.BoolOp .Or (b::rest) pos) tB'):PW X (.BoolOp .Or (a::b::rest) pos) (tOr tA tB'):=by
  intro wh pins s σ H Q I h
  refine isTrue_or (thn (ha pins s σ H _ I h) fun c s1 ⟨H1,I1,q1⟩ => ?_)
  cases c with
  | true=>exact ⟨H1,I1,q1⟩
  | false=>exact hb wh pins s1 σ H1 Q I1 q1
theorem pt_not (ha:PT X a tA):PT X (.UnaryOp .Not a pos) (tNot tA):=by
  intro pins s σ H Q I h
  exact isTrue_not (ha pins s σ H (fun c H1=>Q (!c) H1) I h)

end
end L2

namespace L2
open PySem PySem.Spec PyProof.Rows


def SqL (K:PySem.W.Frag) (H:Hp) (a:Addr) (xs:List V):Prop :=
  Rd H a (.lst xs) ∨
    ∃ (o:Obj) (its:Array Value) (n:Nat),K.lookup a=some o∧o.cls=.type "list" ∧ o.dict=none∧o.data=.seq its n∧its.size≤sizeLine∧Vals xs its.toList
def SqT (K:PySem.W.Frag) (H:Hp) (a:Addr) (xs:List V):Prop :=
  Rd H a (.tup xs) ∨
    ∃ (o:Obj) (its:Array Value) (n:Nat),K.lookup a=some o∧o.cls=.type "tuple" ∧ o.data=.seq its n∧its.size≤sizeLine∧Vals xs its.toList
def absV:Value→Option V
  | .none=>some .non
  | .bool b=>some (.bl b)
  | .int i _=>some (.int i)
  | .str x _=>some (.str x)
  | .bytes b _=>some (.byt b)
  | .float b _=>some (.flt b)
  | .ref a=>some (.ref a)
  | .type n=>some (.ty n)
  | _=>none
theorem RelV.abs {x:V} {u:Value} (r:RelV x u):absV u=some x:=by
  cases x with
  | non=>cases r; rfl
  | bl _=>cases r; rfl
  | int _=>obtain ⟨t,rfl⟩:=r; rfl
  | str _=>obtain ⟨t,rfl⟩:=r; rfl
  | byt _=>obtain ⟨t,rfl⟩:=r; rfl
  | flt _=>obtain ⟨t,rfl⟩:=r; rfl
  | ref _=>cases r; rfl
  | ty _=>cases r; rfl
theorem RelV.inj {x y:V} {u:Value} (r:RelV x u) (q:RelV y u):x=y:=Option.some.inj (r.abs.symm.trans q.abs)
theorem Vals.inj:∀ {xs ys:List V} {us:List Value},Vals xs us→Vals ys us→xs=ys
  | _,_,_,.nil,.nil=>rfl
  | _,_,_,.cons r t,.cons r' t'=>by rw [r.inj r',Vals.inj t t']
section
variable {X:Cx} {pins:List (Addr × Obj)} {σ:St} {H:Hp} {s:Shared} {a:Addr} {xs ys:List V}
theorem SqL.of {K:PySem.W.Frag} (h:H a=some (.lst xs)):SqL K H a xs:=.inl (.inl h)
theorem SqT.of {K:PySem.W.Frag} (h:H a=some (.tup xs)):SqT K H a xs:=.inl (.inl h)
theorem Inv.list (I:Inv X pins σ H s) (h:SqL X.K H a xs):∃ its:List Value,Vals xs its∧PlainL s.heap a its.toArray∧xs.length≤sizeLine:=by
  rcases h with h | ⟨o,its,n,hk,hc,hd,hs,hz,r⟩
  · obtain ⟨z,its,n,r,e⟩:=h.ok I.hok
    exact ⟨its,r,⟨_,n,e,rfl,rfl,rfl⟩,z⟩
  · refine ⟨its.toList,r,⟨o,n,I.kIn a o hk,hc,hd,by simpa using hs⟩,?_⟩
    have e:=r.length
    simp only [Array.length_toList] at e
    omega
theorem Inv.tuple (I:Inv X pins σ H s) (h:SqT X.K H a xs):∃ its:List Value,Vals xs its∧IsTup s.heap a its.toArray∧xs.length≤sizeLine:=by
  rcases h with h | ⟨o,its,n,hk,hc,hs,hz,r⟩
  · obtain ⟨z,its,r,p⟩:=h.ok I.hok
    exact ⟨its,r,p,z⟩
  · refine ⟨its.toList,r,⟨o,I.kIn a o hk,hc,n,by simpa using hs⟩,?_⟩
    have e:=r.length
    simp only [Array.length_toList] at e
    omega
theorem Inv.list_inj (I:Inv X pins σ H s) (h:SqL X.K H a xs) (h':SqL X.K H a ys):xs=ys:=by
  obtain ⟨its,r,⟨o,n,e,_,_,d⟩,_⟩:=I.list h
  obtain ⟨its',r',⟨o',n',e',_,_,d'⟩,_⟩:=I.list h'
  rw [e] at e'; cases e'
  rw [d] at d'
  injection d' with d1 _
  have:its=its':=by simpa using congrArg Array.toList d1
  subst this
  exact r.inj r'
theorem Inv.tuple_inj (I:Inv X pins σ H s) (h:SqT X.K H a xs) (h':SqT X.K H a ys):xs=ys:=by
  obtain ⟨its,r,⟨o,e,_,n,d⟩,_⟩:=I.tuple h
  obtain ⟨its',r',⟨o',e',_,n',d'⟩,_⟩:=I.tuple h'
  rw [e] at e'; cases e'
  rw [d] at d'
  injection d' with d1 _
  have:its=its':=by simpa using congrArg Array.toList d1
  subst this
  exact r.inj r'
end


abbrev Cx.wish (X:Cx) (E:Value→Shared→Prop):Cx:={ X with xe:=E }

abbrev Cx.nox (X:Cx):Cx:=X.wish fun _ _=>False
theorem Cx.Ok.wish {X:Cx} (ok:X.Ok) (E:Value→Shared→Prop):(X.wish E).Ok :=
  ⟨ok.mod,ok.kind,ok.glob,ok.blt,ok.above,ok.inj,ok.has,ok.cab,ok.hd,ok.frames,ok.stk,ok.exf,ok.bs,ok.bsz,ok.noex,ok.exfs,ok.funs,ok.frf⟩
theorem Cx.Ok.unwish {X:Cx} {E:Value→Shared→Prop} (ok:(X.wish E).Ok):X.Ok :=
  ⟨ok.mod,ok.kind,ok.glob,ok.blt,ok.above,ok.inj,ok.has,ok.cab,ok.hd,ok.frames,ok.stk,ok.exf,ok.bs,ok.bsz,ok.noex,ok.exfs,ok.funs,ok.frf⟩
section
variable {X:Cx} {pins:List (Addr × Obj)} {σ:St} {H:Hp} {s:Shared} {E:Value→Shared→Prop}
theorem Inv.wish (I:Inv X pins σ H s) (E:Value→Shared→Prop):Inv (X.wish E) pins σ H s:=⟨I.ok.wish E,I.os,I.bare,I.base,I.loc,I.cell,I.free,I.freeC,I.pin,I.hok,I.len⟩
theorem Inv.unwish (I:Inv (X.wish E) pins σ H s):Inv X pins σ H s:=⟨I.ok.unwish,I.os,I.bare,I.base,I.loc,I.cell,I.free,I.freeC,I.pin,I.hok,I.len⟩
theorem SP.unwish {D:Ends} {f:Flow} {s':Shared} (h:SP (X.wish E) pins D f s'):SP X pins D f s':=by
  cases f with
  | next=>obtain ⟨σ',H',I,q⟩:=h; exact ⟨σ',H',I.unwish,q⟩
  | brk=>obtain ⟨σ',H',I,q⟩:=h; exact ⟨σ',H',I.unwish,q⟩
  | cont=>obtain ⟨σ',H',I,q⟩:=h; exact ⟨σ',H',I.unwish,q⟩
  | ret u=>obtain ⟨v,σ',H',I,r,q⟩:=h; exact ⟨v,σ',H',I.unwish,r,q⟩
theorem PSs.nox {st:List Stmt} {t:TS} (h:PSs X.nox st t):PSs X st t:=fun pins s σ H D I hw =>
  wpAny_mono (h pins s σ H D (I.wish _) hw) (fun _ _ q=>q.unwish) fun _ _ z=>False.elim z
end


section
variable {X:Cx} {st:Stmt} {rest:List Stmt} {t u:TS} {e:Expr} {te:TE} {pos:Pos}
def tNext:TS:=fun D σ H=>D.nx σ H
def tSeq (t u:TS):TS:=fun D σ H=>t { D with nx:=u D } σ H
theorem pss_nil:PSs X [] tNext:=fun _ _ σ H _ I h=>wpAny_execs_nil ⟨σ,H,I,h⟩
theorem pss_cons (h1:PS X st t) (h2:PSs X rest u):PSs X (st::rest) (tSeq t u):=by
  intro pins s σ H D I h
  refine wpAny_execs_cons (thn (h1 pins s σ H { D with nx:=u D } I h) fun f s1 q => ?_)
  cases f with
  | next =>
    obtain ⟨σ',H',I',q⟩:=q
    exact h2 pins s1 σ' H' D I' q
  | ret v=>exact q
  | brk=>exact q
  | cont=>exact q
theorem pss_one (h1:PS X st t):PSs X [st] t:=by
  intro pins s σ H D I h
  refine wpAny_execs_cons (thn (h1 pins s σ H D I h) fun f s1 q => ?_)
  cases f with
  | next=>exact wpAny_execs_nil q
  | ret v=>exact q
  | brk=>exact q
  | cont=>exact q
theorem Inv.quiet {pins:List (Addr × Obj)} {σ:St} {H:Hp} {s:Shared} (I:Inv X pins σ H s):interactive X.env=false:=by simp [interactive,I.ok.kind]

def tDrop (te:TE):TS:=fun D σ H=>te σ H fun _ H1=>D.nx σ H1
theorem ps_expr (he:PE X e te) (hs:swapsWith e none pos.line X.env=pure false:=by rfl):PS X (.Expr e pos) (tDrop te):=by
  intro pins s σ H D I h
  exact wpAny_Expr_any (thn (he pins s σ H _ I h) fun v s1 ⟨x,H1,I1,r1,q1⟩=>⟨σ,H1,I1,q1⟩) I.quiet hs
def tRet (te:TE):TS:=fun D σ H=>te σ H D.rt
theorem ps_ret (he:PE X e te):PS X (.Return (some e) pos) (tRet te):=by
  intro pins s σ H D I h
  exact wpAny_Return_some (thn (he pins s σ H _ I h) fun v s1 ⟨x,H1,I1,r1,q1⟩=>⟨x,σ,H1,I1,r1,q1⟩)
def tIfS (c:TT) (t u:TS):TS:=fun D σ H=>c σ H fun b H1=>if b=true then t D σ H1 else u D σ H1
theorem ps_if {c:Expr} {a b:List Stmt} {tc:TT} (hc:PT X c tc) (ha:PSs X a t) (hb:PSs X b u):PS X (.If c a b pos) (tIfS tc t u):=by
  intro pins s σ H D I h
  refine wpAny_If (thn (hc pins s σ H _ I h) fun d s1 ⟨H1,I1,q1⟩ => ?_)
  cases d with
  | true=>exact ha pins s1 σ H1 D I1 q1
  | false=>exact hb pins s1 σ H1 D I1 q1

def tNever:TS:=fun _ _ _=>False
theorem ps_never:PS X st tNever:=fun _ _ _ _ _ _ h=>h.elim
end


abbrev TG:=V→St→Hp→(St→Hp→Prop)→Prop
abbrev TGs:=List V→St→Hp→(St→Hp→Prop)→Prop
def PG (X:Cx) (target:Expr) (t:TG):Prop :=
  ∀ (pins:List (Addr × Obj)) (s:Shared) (σ:St) (H:Hp) (v:V) (u:Value) (Q:St→Hp→Prop),Inv X pins σ H s→RelV v u→t v σ H Q →
    wpAny (model X.prog X.w) X.A (assign target X.env u) (fun _ s'=>∃ σ' H',Inv X pins σ' H' s'∧Q σ' H') X.xe s

def PGs (X:Cx) (ts:List Expr) (t:TGs):Prop :=
  ∀ (pins:List (Addr × Obj)) (s:Shared) (σ:St) (H:Hp) (vs:List V) (us:List Value) (Q:St→Hp→Prop),Inv X pins σ H s→Vals vs us→t vs σ H Q →
    wpAny (model X.prog X.w) X.A (assignInOrder ((assignEach ts X.env).map (·.2)) us) (fun _ s'=>∃ σ' H',Inv X pins σ' H' s'∧Q σ' H') X.xe s

abbrev TSet:=V→V→V→Hp→(Hp→Prop)→Prop
def PSet (X:Cx) (t:TSet):Prop :=
  ∀ (pins:List (Addr × Obj)) (s:Shared) (σ:St) (H:Hp) (o i v:V) (ov iv u:Value) (Q:Hp→Prop),Inv X pins σ H s→RelV o ov→RelV i iv→RelV v u→t o i v H Q →
    wpAny (model X.prog X.w) X.A (setItem ov iv u) (fun _ s'=>∃ H',Inv X pins σ H' s'∧Q H') X.xe s

section
variable {X:Cx} {pos:Pos}
def gName (i:Nat):TG:=fun v σ H Q=>Q (σ.set i (some v)) H
theorem pg_name {i:Nat} {x:Str} (hN:X.N.Nodup) (hi:X.N[i]? = some x) (hx:Loc X.env.scope x) (hf:X.fn x=true∨X.env.scope.names.lookup x=some .local:=by first | exact .inl rfl | exact .inr rfl | assumption):PG X (.Name x pos) (gName i):=by
  intro pins s σ H v u Q I r h
  exact wpAny_assign_Name (store_ok I hN hi hx r (fun s' I'=>⟨_,H,I',h⟩) hf)
def gNil:TGs:=fun vs σ H Q=>vs=[]∧Q σ H
def gCons (t:TG) (u:TGs):TGs:=fun vs σ H Q=>∃ v r,vs=v::r∧t v σ H fun σ' H'=>u r σ' H' Q
theorem pgs_nil:PGs X [] gNil:=by
  intro pins s σ H vs us Q I r h
  obtain ⟨e,h⟩:=h
  subst e
  cases r
  exact assignInOrder_nil ⟨σ,H,I,h⟩
theorem pgs_cons {e:Expr} {es:List Expr} {t:TG} {u:TGs} (h1:PG X e t) (h2:PGs X es u)
    (hs:(assignEach (e::es) X.env).map (·.2)=assign e X.env::(assignEach es X.env).map (·.2):=by rfl):PGs X (e::es) (gCons t u):=by
  intro pins s σ H vs us Q I r h
  obtain ⟨v,vr,e1,h⟩:=h
  subst e1
  cases r with
  | cons r rr =>
    rw [hs]
    refine assignInOrder_cons (thn (h1 pins s σ H _ _ _ I r h) fun _ s1 ⟨σ1,H1,I1,q1⟩ => ?_)
    exact h2 pins s1 σ1 H1 _ _ Q I1 rr q1

def gTup (K:PySem.W.Frag) (n:Nat) (t:TGs):TG:=fun v σ H Q=>∃ a xs,v=.ref a∧SqT K H a xs∧xs.length=n∧t xs σ H Q
theorem pg_tup {es:List Expr} {k:Nat} {t:TGs} {n:Nat} (hc:X.calm=true) (h:PGs X es t)
    (hn:(assignEach es X.env).length=n:=by rfl) (hst:(assignEach es X.env).findIdx? (·.1)=none:=by rfl):PG X (.Tuple es k pos) (gTup X.K n t):=by
  intro pins s σ H v u Q I r hw
  obtain ⟨a,xs,e1,hq,hl,hw⟩:=hw
  subst e1
  cases r
  obtain ⟨its,rv,ht,hz⟩:=I.tuple hq
  refine assign_Tuple_tuple (I.ok.hd hc) ht (by simp [hn,← hl,rv.length]) hst fun h' hx => ?_
  have I1:Inv X pins σ H { s with heap:=h' }:=I.kept (t':=s.toks) fun b o e=>hx b o (Nat.ne_of_lt (Heap.lt_size e)) e
  exact h pins _ σ H xs _ Q I1 (by simpa using rv) hw

def gSub (to ti:TE) (t:TSet):TG:=fun v σ H Q=>to σ H fun o H1=>ti σ H1 fun i H2=>t o i v H2 fun H3=>Q σ H3
theorem pg_sub {o i:Expr} {to ti:TE} {t:TSet} (ho:PE X o to) (hi:PE X i ti) (hs:PSet X t)
    (ha:∀ v,assign (.Subscript o i pos) X.env v=(do
      let ov ← holding [v] (eval o X.env)
      let iv ← holding [v,ov] (eval i X.env)
      standAt pos
      holding [v,ov,iv] (setItem ov iv v)
      release [v,ov,iv] []):=by intro _; rfl):PG X (.Subscript o i pos) (gSub to ti t):=by
  intro pins s σ H v u Q I r h
  rw [ha]
  refine wpAny_bind (wpAny_holding (thn (ho pins s σ H _ I h) fun ov s1 ⟨x,H1,I1,r1,q1⟩ => ?_))
  refine wpAny_bind (wpAny_holding (thn (hi pins s1 σ H1 _ I1 q1) fun iv s2 ⟨y,H2,I2,r2,q2⟩ => ?_))
  refine wpAny_bind (wpAny_standAt (wpAny_bind (wpAny_holding (thn (hs pins s2 σ H2 x y v ov iv u _ I2 r1 r2 r q2) fun _ s3 ⟨H3,I3,q3⟩ => ?_))))
  exact wpAny_release ⟨σ,H3,I3,q3⟩

def tAsg (te:TE) (g:TG):TS:=fun D σ H=>te σ H fun x H1=>g x σ H1 D.nx
theorem ps_asg {tg e:Expr} {te:TE} {g:TG} (he:PE X e te) (hg:PG X tg g) (hs:swapsWithSole [tg] e pos.line X.env=pure false:=by rfl) (hw:swappedStores [tg] e X.env=pure none:=by rfl)
    (h1:(assignEach [tg] X.env).map (·.2)=[assign tg X.env]:=by rfl):PS X (.Assign [tg] e pos) (tAsg te g):=by
  intro pins s σ H D I h
  refine wpAny_Assign_stores (thn (he pins s σ H _ I h) fun v s1 ⟨x,H1,I1,r1,q1⟩ => ?_) hs hw
  rw [h1]
  exact thn (hg pins s1 σ H1 x v _ I1 r1 q1) fun _ s2 q=>q

theorem ps_set {i:Nat} {x:Str} {e:Expr} {te:TE} {pos':Pos} (hN:X.N.Nodup) (hi:X.N[i]? = some x) (hx:Loc X.env.scope x) (he:PE X e te) (hs:swapsWith e (some (.Name x pos')) pos.line X.env=pure false:=by rfl) (hf:X.fn x=true∨X.env.scope.names.lookup x=some .local:=by first | exact .inl rfl | exact .inr rfl | assumption) :
    PS X (.Assign [.Name x pos'] e pos) (tAsg te (gName i)):=by
  intro pins s σ H D I h
  refine wpAny_Assign_Name (thn (he pins s σ H _ I h) fun v s1 ⟨y,H1,I1,r1,q1⟩ => ?_) hs
  exact store_ok I1 hN hi hx r1 (fun s2 I2=>⟨_,H1,I2,q1⟩) hf

end


section
variable {X:Cx} {pos:Pos}

def tWhile (c:TT) (tb:TS):TS:=fun D σ H=>∃ W:Nat→St→Hp→Prop,(∃ m,W m σ H)∧∀ m σ H,W m σ H →
  c σ H fun b H1=>if b=true then ∃ N:St→Hp→Prop,(∀ σ' H',N σ' H'→∃ m',m' < m∧W m' σ' H')∧tb { D with nx:=N,ct:=N,bk:=D.nx } σ H1 else D.nx σ H1
theorem ps_while {c:Expr} {body:List Stmt} {tc:TT} {tb:TS} (hp:PassesOwn (model X.prog X.w) X.A X.env X.xe) (hc:PT X c tc) (hb:PSs X body tb):PS X (.While c body [] pos) (tWhile tc tb):=by
  intro pins s σ H D I h
  obtain ⟨W,⟨m0,w0⟩,turn⟩:=h
  refine wpAny_While (codeAny_whileLoop (fun n s'=>∃ σ' H',Inv X pins σ' H' s'∧W n σ' H') ?_ m0 ⟨σ,H,I,w0⟩)
  rintro n s1 ⟨σ1,H1,I1,w1⟩
  refine wpAny_passesOwn hp (thn (hc pins s1 σ1 H1 _ I1 (turn n σ1 H1 w1)) fun b s2 ⟨H2,I2,q2⟩ => ?_)
  cases b with
  | true =>
    obtain ⟨N,hN,q2⟩:=q2
    rw [if_pos rfl]
    refine wpAny_passesOwn hp (thn (hb pins s2 σ1 H2 _ I2 q2) fun f s3 q3 => ?_)
    cases f with
    | next =>
      obtain ⟨σ3,H3,I3,n3⟩:=q3
      obtain ⟨m',hm,w3⟩:=hN σ3 H3 n3
      exact ⟨m',hm,σ3,H3,I3,w3⟩
    | cont =>
      obtain ⟨σ3,H3,I3,n3⟩:=q3
      obtain ⟨m',hm,w3⟩:=hN σ3 H3 n3
      exact ⟨m',hm,σ3,H3,I3,w3⟩
    | brk=>exact q3
    | ret v=>exact q3
  | false =>
    rw [if_neg Bool.false_ne_true]
    exact wpAny_execs_nil ⟨σ1,H2,I2,q2⟩
end



structure It where
  go:Nat→Hp→Prop
  yld:Nat→Hp→V→Hp→Prop
  stop:Nat→Hp→Prop

def FpOk (X:Cx) (pins:List (Addr × Obj)) (H:Hp) (b:Addr):Prop :=
  H b=none∧b≠X.env.locals∧b∉X.fs∧(b∈X.ex∨X.s₀.heap.objs.size≤b)∧(∀ x c,X.env.cells.lookup x=some c→c≠b)∧∀ p∈X.pn++pins,p.1≠b
theorem Inv.fpOk {X:Cx} {pins:List (Addr × Obj)} {σ:St} {H H':Hp} {s:Shared} {b:Addr} (I:Inv X pins σ H s) (hb:s.heap.objs.size≤b) (hn:H' b=none):FpOk X pins H' b:=by
  refine ⟨hn,Nat.ne_of_gt (Nat.lt_of_lt_of_le I.lt hb),I.nofs hb,.inr (Nat.le_trans I.sz hb),fun x c e z => ?_,fun p hp z => ?_⟩
  · obtain ⟨v,q⟩:=I.cell x c e
    exact absurd (Nat.lt_of_lt_of_le q.lt (by rw [z]; exact hb)) (Nat.lt_irrefl _)
  · exact absurd (Nat.lt_of_lt_of_le (Heap.lt_size (I.pin p hp).1) (by rw [z]; exact hb)) (Nat.lt_irrefl _)
structure Turn (P:Program) (w:World) (K:PySem.W.Frag) (tg:Expr) (J:It) (fp:List Addr) (it:Addr) (tn:Nat→Heap→Prop):Prop where
  mem:it∈fp
  obj:∀ i h,tn i h→∀ b∈fp,∃ o,h.get? b=some o∧∀ v,o.data≠.cell v
  keep:∀ i h h',tn i h→(∀ b∈fp,∀ o,h.get? b=some o→h'.get? b=some o)→tn i h'
  item:∀ (X:Cx),X.prog=P→X.w=w→X.K=K→X.calm=true→∀ (i:Nat) (pins:List (Addr × Obj)) (s:Shared) (σ:St) (H:Hp) (E:Value→Shared→Prop),Inv X pins σ H s→(∀ b∈fp,FpOk X pins H b)→tn i s.heap→J.go i H →
    wpAny (model P w) X.A (pyNext (.ref it)) (fun r s1=>∃ u,r=some u ∧
      wpAny (model P w) X.A (letOwnedTupleGo tg (.ref it) u) (fun _ s2=>∃ x H',Inv X pins σ H' s2∧RelV x u∧J.yld i H x H'∧tn (i + 1) s2.heap∧∀ b∈fp,H' b=none) E s1) E s
  done:∀ (X:Cx),X.prog=P→X.w=w→X.K=K→X.calm=true→∀ (i:Nat) (pins:List (Addr × Obj)) (s:Shared) (σ:St) (H:Hp) (E:Value→Shared→Prop),Inv X pins σ H s→(∀ b∈fp,FpOk X pins H b)→tn i s.heap→J.stop i H →
    wpAny (model P w) X.A (pyNext (.ref it)) (fun r s1=>r=none∧Inv X pins σ H s1) E s
  self:∀ (A:Around) (i:Nat) (s:Shared) (Q:Value→Shared→Prop) (E:Value→Shared→Prop),tn i s.heap→Q (.ref it) s→wpAny (model P w) A (pyIter (.ref it)) Q E s
abbrev TI:=St→Hp→(It→Hp→Prop)→Prop

def PIE (X:Cx) (pins:List (Addr × Obj)) (σ:St) (tg:Expr) (R:It→Hp→Prop) (itv:Value) (s2:Shared):Prop :=
  ∃ (it:Addr) (fp:List Addr) (tn:Nat→Heap→Prop) (J:It) (H':Hp),itv=.ref it∧Inv X pins σ H' s2∧Turn X.prog X.w X.K tg J fp it tn∧tn 0 s2.heap∧(∀ b∈fp,FpOk X pins H' b)∧R J H'
def PI (X:Cx) (tg iter:Expr) (wi:TI):Prop :=
  ∀ (pins:List (Addr × Obj)) (s:Shared) (σ:St) (H:Hp) (R:It→Hp→Prop),Inv X pins σ H s→wi σ H R →
    wpAny (model X.prog X.w) X.A (eval iter X.env) (fun v s1=>wpAny (model X.prog X.w) X.A (pyIter v) (PIE X pins σ tg R) X.xe s1) X.xe s


theorem go_of {M:Model} {A:Around} {E:Value→Shared→Prop} {s:Shared} {tg:Expr} {it:Addr} {u:Value} {o:Obj} {n:String} {vs:Array Value} {Q:Unit→Shared→Prop} (ho:s.heap.get? it=some o) (hc:o.cls=.type n) (hd:o.data=.fields vs)
    (hn:["enumerate","zip","dict_itemiterator","dict_reverseitemiterator","odict_iterator","itertools.zip_longest","itertools.pairwise"].contains n=false) (hQ:Q () s):wpAny M A (letOwnedTupleGo tg (.ref it) u) Q E s:=by
  unfold letOwnedTupleGo
  cases tg <;> first
    | exact wpAny_pure hQ
    | (cases u <;> first
        | exact wpAny_pure hQ
        | (refine wpAny_bind (wpAny_load ho ?_)
           rw [hc,hd]
           show wpAny M A (if (["enumerate","zip","dict_itemiterator","dict_reverseitemiterator","odict_iterator","itertools.zip_longest","itertools.pairwise"].contains n && vs[0]? == some (rawInt _))=true then _ else _) Q E s
           rw [if_neg (by intro h; rw [hn,Bool.false_and] at h; cases h)]
           exact wpAny_pure hQ))


def Itl (K:PySem.W.Frag) (a:Addr):It :=
  ⟨fun i H=>∃ xs x,SqL K H a xs∧xs[i]? = some x,fun i H x H'=>H'=H∧∀ xs,SqL K H a xs→xs[i]? = some x,fun i H=>∃ xs,SqL K H a xs∧xs.length≤i⟩
def Itt (K:PySem.W.Frag) (a:Addr):It :=
  ⟨fun i H=>∃ xs x,SqT K H a xs∧xs[i]? = some x,fun i H x H'=>H'=H∧∀ xs,SqT K H a xs→xs[i]? = some x,fun i H=>∃ xs,SqT K H a xs∧xs.length≤i⟩

def Itr (lo:Int) (n:Nat):It:=⟨fun i _=>i < n,fun i H x H'=>H'=H∧x=.int (lo + i),fun i _=>n≤i⟩
theorem turn_list {P:Program} {w:World} {K:PySem.W.Frag} {tg:Expr} (a it:Addr):Turn P w K tg (Itl K a) [it] it (fun i h=>h.IsListIter it a i) where
  mem:=by simp
  obj:=fun i h st b hb=>by
    have e:b=it:=by simpa using hb
    subst e
    obtain ⟨o,e,c,d⟩:=st
    exact ⟨o,e,fun v z=>by rw [d] at z; cases z⟩
  keep:=fun i h h' st k=>st.at fun o e=>k it (by simp) o e
  item:=by
    intro X hP hw hK hc i pins s σ H E I hf st hg
    subst hP hw hK
    obtain ⟨xs,x,hq,hx⟩:=hg
    obtain ⟨its,rv,p,hz⟩:=I.list hq
    obtain ⟨u,hu,ru⟩:=rv.get hx
    obtain ⟨f0,f1,f2,f3,f4,f5⟩:=hf it (by simp)
    refine wpAny_pyNext_list_item st p.isList (x:=u) (by simpa using hu) fun h' st' sb => ?_
    have I1:Inv X pins σ H { s with heap:=h' }:=I.turned (t':=s.toks) (fun b o hb e=>(sb.2 b hb).trans e) f0 f1 f3 f4 f5
    obtain ⟨o,e,c,d⟩:=id st'
    exact ⟨u,rfl,go_of (s:={ s with heap:=h' }) e c d (by decide) ⟨x,H,I1,ru,⟨rfl,fun ys hy=>by rw [I.list_inj hy hq]; exact hx⟩,st',fun b hb=>(hf b hb).1⟩⟩
  done:=by
    intro X hP hw hK hc i pins s σ H E I hf st hg
    subst hP hw hK
    obtain ⟨xs,hq,hx⟩:=hg
    obtain ⟨its,rv,p,hz⟩:=I.list hq
    obtain ⟨f0,f1,f2,f3,f4,f5⟩:=hf it (by simp)
    have hl:=rv.length
    exact wpAny_pyNext_list_end (I.ok.hd hc) st p.isList (by simp; omega) fun h' eb=>⟨rfl,I.turned (t':=s.toks) (fun b o hb e=>eb b o hb e) f0 f1 f3 f4 f5⟩
  self:=fun _ _ _ _ _ st h=>wpAny_pyIter_listiter st h
theorem turn_tuple {P:Program} {w:World} {K:PySem.W.Frag} {tg:Expr} (a it:Addr):Turn P w K tg (Itt K a) [it] it (fun i h=>h.IsTupleIter it a i) where
  mem:=by simp
  obj:=fun i h st b hb=>by
    have e:b=it:=by simpa using hb
    subst e
    obtain ⟨o,e,c,d⟩:=st
    exact ⟨o,e,fun v z=>by rw [d] at z; cases z⟩
  keep:=fun i h h' st k=>st.at fun o e=>k it (by simp) o e
  item:=by
    intro X hP hw hK hc i pins s σ H E I hf st hg
    subst hP hw hK
    obtain ⟨xs,x,hq,hx⟩:=hg
    obtain ⟨its,rv,p,hz⟩:=I.tuple hq
    obtain ⟨u,hu,ru⟩:=rv.get hx
    obtain ⟨f0,f1,f2,f3,f4,f5⟩:=hf it (by simp)
    refine wpAny_pyNext_tuple_item st (show s.heap.IsTuple a its.toArray from p) (x:=u) (by simpa using hu) fun h' st' sb => ?_
    have I1:Inv X pins σ H { s with heap:=h' }:=I.turned (t':=s.toks) (fun b o hb e=>(sb.2 b hb).trans e) f0 f1 f3 f4 f5
    obtain ⟨o,e,c,d⟩:=id st'
    exact ⟨u,rfl,go_of (s:={ s with heap:=h' }) e c d (by decide) ⟨x,H,I1,ru,⟨rfl,fun ys hy=>by rw [I.tuple_inj hy hq]; exact hx⟩,st',fun b hb=>(hf b hb).1⟩⟩
  done:=by
    intro X hP hw hK hc i pins s σ H E I hf st hg
    subst hP hw hK
    obtain ⟨xs,hq,hx⟩:=hg
    obtain ⟨its,rv,p,hz⟩:=I.tuple hq
    obtain ⟨f0,f1,f2,f3,f4,f5⟩:=hf it (by simp)
    have hl:=rv.length
    exact wpAny_pyNext_tuple_end (I.ok.hd hc) st (show s.heap.IsTuple a its.toArray from p) (by simp; omega) fun h' eb=>⟨rfl,I.turned (t':=s.toks) (fun b o hb e=>eb b o hb e) f0 f1 f3 f4 f5⟩
  self:=fun _ _ _ _ _ st h=>wpAny_pyIter_tupleiter st h
theorem turn_range {P:Program} {w:World} {K:PySem.W.Frag} {tg:Expr} (it:Addr) (lo:Int) (n:Nat):Turn P w K tg (Itr lo n) [it] it (fun i h=>IsRangeIter h it (lo + (i:Nat) * 1) ((n:Int) - (i:Nat)) 1) where
  mem:=by simp
  obj:=fun i h st b hb=>by
    have e:b=it:=by simpa using hb
    subst e
    exact ⟨_,st,fun v z=>by
      have z':Data.fields _=Data.cell v:=z
      cases z'⟩
  keep:=fun i h h' st k=>k it (by simp) _ st
  item:=by
    intro X hP hw hK hc i pins s σ H E I hf st hg
    subst hP hw hK
    obtain ⟨f0,f1,f2,f3,f4,f5⟩:=hf it (by simp)
    have W:=Walks.range (prog:=X.prog) (w:=X.w) (I.ok.hd hc) it lo 1 n
    refine W.item i s _ _ hg st fun v h' tk hv st' kk => ?_
    obtain ⟨t,rfl⟩:=hv
    have I1:Inv X pins σ H { s with heap:=h',toks:=tk }:=I.turned (fun b o hb e=>kk b o (by simpa using hb) e) f0 f1 f3 f4 f5
    refine ⟨_,rfl,go_of (s:={ s with heap:=h',toks:=tk }) (n := "range_iterator") st' rfl rfl (by decide) ⟨.int (lo + i),H,I1,⟨t,?_⟩,⟨rfl,rfl⟩,st',fun b hb=>(hf b hb).1⟩⟩
    rw [Int.mul_one]
  done:=by
    intro X hP hw hK hc i pins s σ H E I hf st hg
    subst hP hw hK
    obtain ⟨f0,f1,f2,f3,f4,f5⟩:=hf it (by simp)
    exact wpAny_pyNext_range_end (I.ok.hd hc) st (by have:n≤i:=hg; omega) fun h' eb=>⟨rfl,I.turned (t':=s.toks) (fun b o hb e=>eb b o hb e) f0 f1 f3 f4 f5⟩
  self:=fun _ _ _ _ _ st h=>wpAny_pyIter_rangeiter st h
end L2

namespace L2
open PySem PySem.Spec PyProof.Rows
section
variable {X:Cx} {tg:Expr}
def iList (K:PySem.W.Frag) (tl:TE):TI:=fun σ H R=>tl σ H fun x H1=>∃ a,x=.ref a∧(∃ xs,SqL K H1 a xs)∧R (Itl K a) H1
def iTup (K:PySem.W.Frag) (tl:TE):TI:=fun σ H R=>tl σ H fun x H1=>∃ a,x=.ref a∧(∃ xs,SqT K H1 a xs)∧R (Itt K a) H1
theorem pi_list {l:Expr} {tl:TE} (hl:PE X l tl):PI X tg l (iList X.K tl):=by
  intro pins s σ H R I h
  refine thn (hl pins s σ H _ I h) fun v s1 ⟨x,H1,I1,r1,q1⟩ => ?_
  obtain ⟨a,e,⟨xs,hq⟩,q⟩:=q1
  subst e
  cases r1
  obtain ⟨its,rv,p,hz⟩:=I1.list hq
  refine wpAny_pyIter_list p.isList ?_
  refine ⟨s1.heap.objs.size,[s1.heap.objs.size],_,_,H1,rfl,I1.kept (t':=s1.toks) fun b o e=>Heap.get?_push_of_some _ e,turn_list a _,⟨_,Heap.get?_push_size _ rfl,rfl,rfl⟩,fun b hb => ?_,q⟩
  have e:b=s1.heap.objs.size:=by simpa using hb
  subst e
  exact I1.fpOk (Nat.le_refl _) (I1.hok.fresh (Nat.le_refl _))
theorem pi_tup {l:Expr} {tl:TE} (hl:PE X l tl):PI X tg l (iTup X.K tl):=by
  intro pins s σ H R I h
  refine thn (hl pins s σ H _ I h) fun v s1 ⟨x,H1,I1,r1,q1⟩ => ?_
  obtain ⟨a,e,⟨xs,hq⟩,q⟩:=q1
  subst e
  cases r1
  obtain ⟨its,rv,p,hz⟩:=I1.tuple hq
  refine wpAny_pyIter_tuple (show s1.heap.IsTuple a its.toArray from p) ?_
  refine ⟨s1.heap.objs.size,[s1.heap.objs.size],_,_,H1,rfl,I1.kept (t':=s1.toks) fun b o e=>Heap.get?_push_of_some _ e,turn_tuple a _,⟨_,Heap.get?_push_size _ rfl,rfl,rfl⟩,fun b hb => ?_,q⟩
  have e:b=s1.heap.objs.size:=by simpa using hb
  subst e
  exact I1.fpOk (Nat.le_refl _) (I1.hok.fresh (Nat.le_refl _))

theorem range_it {pins:List (Addr × Obj)} {σ:St} {H:Hp} {s:Shared} {R:It→Hp→Prop} {E:Value→Shared→Prop} {lo hi:Int} {t u v:Tok} {tk:Nat} (I:Inv X pins σ H s) (h1:-(2 ^ 62)≤lo) (h2:lo < 2 ^ 62) (h3:-(2 ^ 62)≤hi) (h4:hi < 2 ^ 62)
    (q:R (Itr lo (hi - lo).toNat) H):wpAny (model X.prog X.w) X.A (pyIter (.ref s.heap.objs.size)) (PIE X pins σ tg R) E { s with heap:=s.heap.push { cls:=.type "range",data:=.fields #[.int lo t,.int hi u,.int 1 v] },toks:=tk }:=by
  refine wpAny_pyIter_range (IsRange.new ..) (small_one h1 h2 h3 h4) ?_
  have I1:Inv X pins σ H { s with heap:=s.heap.push { cls:=.type "range",data:=.fields #[.int lo t,.int hi u,.int 1 v] },toks:=tk }:=I.kept fun b o e=>Heap.get?_push_of_some _ e
  refine ⟨(s.heap.push { cls:=.type "range",data:=.fields #[.int lo t,.int hi u,.int 1 v] }).objs.size,[(s.heap.push { cls:=.type "range",data:=.fields #[.int lo t,.int hi u,.int 1 v] }).objs.size],_,_,H,rfl,
    I1.kept (t':=tk) fun b o e=>Heap.get?_push_of_some _ e,turn_range _ lo (hi - lo).toNat,?_,fun b hb => ?_,q⟩
  · have e1:lo + ((0:Nat):Int) * 1=lo:=by simp
    have e2:(((hi - lo).toNat:Nat):Int) - ((0:Nat):Int)=Builtin.Range.rangeSize lo hi 1:=by rw [rangeSize_one]; split <;> omega
    show IsRangeIter _ _ (lo + ((0:Nat):Int) * 1) ((((hi - lo).toNat:Nat):Int) - ((0:Nat):Int)) 1
    rw [e1,e2]
    exact Heap.get?_push_size _ rfl
  · have e:b=(s.heap.push { cls:=.type "range",data:=.fields #[.int lo t,.int hi u,.int 1 v] }).objs.size:=by simpa using hb
    subst e
    exact I1.fpOk (Nat.le_refl _) (I1.hok.fresh (Nat.le_refl _))
def iRng1 (ta:TA):TI:=fun σ H R=>ta σ H fun vs H1=>∃ j:Int,vs=[.int j]∧-(2 ^ 62)≤j∧j < 2 ^ 62∧R (Itr 0 j.toNat) H1
theorem pi_range1 {a:Expr} {ta:TA} {p pos:Pos} (hg:Gl X "range") (hm:X.mg "range" = none) (ha:PA X [a] ta) (hs:starEach [a] X.env=[(false,eval a X.env)]:=by rfl):PI X tg (.Call (.Name "range" p) [a] [] pos) (iRng1 ta):=by
  intro pins s σ H R I h
  refine Call_ (ld_blt I hg hm boot_range (PyProof.Rows.callWith_type1 (thn (ha pos pins s σ H _ I h) fun us s1 ⟨vs,H1,I1,r1,q1⟩ => ?_) hs rfl))
  obtain ⟨j,e,q1,q2,q⟩:=q1
  subst e
  cases r1 with
  | cons r rr =>
    cases rr
    obtain ⟨t,rfl⟩:=r
    exact call_range_1 (range_it I1 (by omega) (by omega) q1 q2 (by simpa using q))
def tFor (wi:TI) (g:TG) (tb:TS):TS:=fun D σ H=>wi σ H fun J H1=>∃ W:Nat→Nat→St→Hp→Prop,(∃ m,W 0 m σ H1)∧∀ i m σ H,W i m σ H →
  (J.stop i H∧D.nx σ H)∨(J.go i H∧∃ N:St→Hp→Prop,(∀ σ' H',N σ' H'→∃ m',m' < m∧W (i + 1) m' σ' H')∧∀ x H',J.yld i H x H'→g x σ H' fun σ2 H2=>tb { D with nx:=N,ct:=N,bk:=D.nx } σ2 H2)

def pinsAt (fp:List Addr) (h:Heap):List (Addr × Obj):=fp.filterMap fun b=>(h.get? b).map fun o=>(b,o)
theorem mem_pinsAt {fp:List Addr} {h:Heap} {b:Addr} {o:Obj} (hb:b∈fp) (e:h.get? b=some o):(b,o)∈pinsAt fp h:=List.mem_filterMap.mpr ⟨b,hb,by rw [e]; rfl⟩
theorem of_pinsAt {fp:List Addr} {h:Heap} {p:Addr × Obj} (hp:p∈pinsAt fp h):p.1∈fp∧h.get? p.1=some p.2:=by
  obtain ⟨b,hb,e⟩:=List.mem_filterMap.mp hp
  cases q:h.get? b with
  | none=>rw [q] at e; cases e
  | some o =>
    rw [q] at e
    have e':(b,o)=p:=Option.some.inj e
    subst e'
    exact ⟨hb,q⟩
theorem Inv.pinned {pins:List (Addr × Obj)} {σ:St} {H:Hp} {s:Shared} {fp:List Addr} (I:Inv X pins σ H s) (hf:∀ b∈fp,FpOk X pins H b) (ho:∀ b∈fp,∃ o,s.heap.get? b=some o∧∀ v,o.data≠.cell v):Inv X (pins++pinsAt fp s.heap) σ H s :=
  I.pins_of fun p hp=>(List.mem_append.mp hp).elim (fun z=>I.pin p (List.mem_append_right _ z)) fun z=>by
    obtain ⟨hb,e⟩:=of_pinsAt z
    obtain ⟨f0,f1,f2,_⟩:=hf p.1 hb
    obtain ⟨o,e',d⟩:=ho p.1 hb
    rw [e] at e'; cases e'
    exact ⟨e,f0,f1,f2,d⟩
theorem Inv.unpinned {pins pl:List (Addr × Obj)} {σ:St} {H:Hp} {s:Shared} (I:Inv X (pins++pl) σ H s):Inv X pins σ H s:=I.pins_of fun p hp=>I.pin p (List.mem_append_right _ (List.mem_append_left _ hp))
theorem ps_for {iter:Expr} {body:List Stmt} {wi:TI} {g:TG} {tb:TS} {pos:Pos} (hp:PassesOwn (model X.prog X.w) X.A X.env X.xe) (hc:X.calm=true) (hi:PI X tg iter wi) (hg:PG X tg g) (hb:PSs X body tb)
    (hs:∀ x,foldedSetIterable iter X.env x=pure x:=by intro _; rfl):PS X (.For tg iter body [] pos) (tFor wi g tb):=by
  intro pins s σ H D I h
  refine wpAny_For (thn (hi pins s σ H _ I h) fun v s1 h1=>thn h1 fun itv s2 h2 => ?_) hs
  obtain ⟨it,fp,tn,J,H2,e,I2,T,st2,f2,W,⟨m0,w0⟩,turn⟩:=h2
  subst e
  -- what stays true of the iterator's objects through the loop
  have stat:∀ {H':Hp},(∀ b∈fp,H' b=none)→∀ b∈fp,FpOk X pins H' b:=fun hn b hb=>⟨hn b hb,(f2 b hb).2⟩
  refine codeAny_forLoop_any (fun n s'=>∃ i σ' H',Inv X pins σ' H' s'∧tn i s'.heap∧(∀ b∈fp,H' b=none)∧W i n σ' H') ?_ m0 ⟨0,σ,H2,I2,st2,fun b hb=>(f2 b hb).1,w0⟩
  rintro n s3 ⟨i,σ3,H3,I3,st3,fr3,w3⟩
  rcases turn i n σ3 H3 w3 with ⟨stop,qn⟩ | ⟨go,N,hN,step⟩
  · refine wpAny_passesOwn hp (thn (T.done X rfl rfl rfl hc i pins s3 σ3 H3 X.xe I3 (stat fr3) st3 stop) fun r s4 ⟨hr,I4⟩ => ?_)
    subst hr
    exact wpAny_execs_nil ⟨σ3,H3,I4,qn⟩
  · refine wpAny_passesOwn hp (thn (T.item X rfl rfl rfl hc i pins s3 σ3 H3 X.xe I3 (stat fr3) st3 go) fun r s4 ⟨u,hr,h4⟩ => ?_)
    subst hr
    refine wpAny_passesOwn hp (thn h4 fun _ s5 ⟨x,H5,I5,r5,y5,st5,fr5⟩ => ?_)
    have I5':=I5.pinned (stat fr5) (T.obj _ _ st5)
    refine wpAny_passesOwn hp (thn (hg _ s5 σ3 H5 x u _ I5' r5 (step x H5 y5)) fun _ s6 ⟨σ6,H6,I6,q6⟩ => ?_)
    refine wpAny_passesOwn hp (thn (hb _ s6 σ6 H6 _ I6 q6) fun f s7 q7 => ?_)
    have again:∀ {σ7:St} {H7:Hp},Inv X (pins++pinsAt fp s5.heap) σ7 H7 s7→N σ7 H7→∃ m,m < n∧∃ i σ' H',Inv X pins σ' H' s7∧tn i s7.heap∧(∀ b∈fp,H' b=none)∧W i m σ' H':=fun {σ7 H7} I7 n7=>by
      obtain ⟨m',hm,w7⟩:=hN σ7 H7 n7
      refine ⟨m',hm,i + 1,σ7,H7,I7.unpinned,T.keep _ _ _ st5 fun b hb o e=>(I7.pin (b,o) (List.mem_append_right _ (List.mem_append_right _ (mem_pinsAt hb e)))).1,fun b hb => ?_,w7⟩
      obtain ⟨o,e,d⟩:=T.obj _ _ st5 b hb
      exact (I7.pin (b,o) (List.mem_append_right _ (List.mem_append_right _ (mem_pinsAt hb e)))).2.1
    cases f with
    | next=>obtain ⟨σ7,H7,I7,n7⟩:=q7; exact again I7 n7
    | cont=>obtain ⟨σ7,H7,I7,n7⟩:=q7; exact again I7 n7
    | brk=>obtain ⟨σ7,H7,I7,q7⟩:=q7; exact ⟨σ7,H7,I7.unpinned,q7⟩
    | ret v=>obtain ⟨x7,σ7,H7,I7,r7,q7⟩:=q7; exact ⟨x7,σ7,H7,I7.unpinned,r7,q7⟩
end



theorem for_list {K:PySem.W.Frag} {a:Addr} {xs:List V} {g:TG} {tb:TS} {D:Ends} {σ:St} {H:Hp} (Pv:Nat→St→Hp→Prop) (h0:Pv 0 σ H) (hl:∀ i σ H,i≤xs.length→Pv i σ H→SqL K H a xs)
    (hs:∀ i x σ H,xs[i]? = some x→Pv i σ H→g x σ H fun σ2 H2=>tb { D with nx:=Pv (i + 1),ct:=Pv (i + 1),bk:=D.nx } σ2 H2) (hd:∀ σ H,Pv xs.length σ H→D.nx σ H) :
    ∃ W:Nat→Nat→St→Hp→Prop,(∃ m,W 0 m σ H)∧∀ i m σ H,W i m σ H →
      ((Itl K a).stop i H∧D.nx σ H)∨((Itl K a).go i H∧∃ N:St→Hp→Prop,(∀ σ' H',N σ' H'→∃ m',m' < m∧W (i + 1) m' σ' H')∧∀ x H',(Itl K a).yld i H x H'→g x σ H' fun σ2 H2=>tb { D with nx:=N,ct:=N,bk:=D.nx } σ2 H2):=by
  refine ⟨fun i m σ H=>m=xs.length - i∧i≤xs.length∧Pv i σ H,⟨xs.length,by simp,Nat.zero_le _,h0⟩,?_⟩
  rintro i m σ H ⟨rfl,hi,p⟩
  have q:=hl i σ H hi p
  by_cases hlt:i < xs.length
  · refine .inr ⟨⟨xs,xs[i],q,by simp [hlt]⟩,Pv (i + 1),fun σ' H' p'=>⟨xs.length - (i + 1),by omega,rfl,hlt,p'⟩,fun x H' y => ?_⟩
    obtain ⟨e,y⟩:=y
    subst e
    exact hs i x σ _ (y xs q) p
  · have e:i=xs.length:=by omega
    subst e
    exact .inl ⟨⟨xs,q,Nat.le_refl _⟩,hd σ H p⟩
theorem for_range {lo:Int} {n:Nat} {g:TG} {tb:TS} {D:Ends} {σ:St} {H:Hp} (Pv:Nat→St→Hp→Prop) (h0:Pv 0 σ H)
    (hs:∀ i σ H,i < n→Pv i σ H→g (.int (lo + i)) σ H fun σ2 H2=>tb { D with nx:=Pv (i + 1),ct:=Pv (i + 1),bk:=D.nx } σ2 H2) (hd:∀ σ H,Pv n σ H→D.nx σ H) :
    ∃ W:Nat→Nat→St→Hp→Prop,(∃ m,W 0 m σ H)∧∀ i m σ H,W i m σ H →
      ((Itr lo n).stop i H∧D.nx σ H)∨((Itr lo n).go i H∧∃ N:St→Hp→Prop,(∀ σ' H',N σ' H'→∃ m',m' < m∧W (i + 1) m' σ' H')∧∀ x H',(Itr lo n).yld i H x H'→g x σ H' fun σ2 H2=>tb { D with nx:=N,ct:=N,bk:=D.nx } σ2 H2):=by
  refine ⟨fun i m σ H=>m=n - i∧i≤n∧Pv i σ H,⟨n,by simp,Nat.zero_le _,h0⟩,?_⟩
  rintro i m σ H ⟨rfl,hi,p⟩
  by_cases hlt:i < n
  · refine .inr ⟨hlt,Pv (i + 1),fun σ' H' p'=>⟨n - (i + 1),by omega,rfl,hlt,p'⟩,fun x H' y => ?_⟩
    obtain ⟨e,y⟩:=y
    subst e y
    exact hs i σ _ hlt p
  · have e:i=n:=by omega
    subst e
    exact .inl ⟨Nat.le_refl _,hd σ H p⟩

theorem while_by {c:TT} {tb:TS} {D:Ends} {σ:St} {H:Hp} (Pv:St→Hp→Prop) (μ:St→Hp→Nat) (h0:Pv σ H)
    (hs:∀ σ H,Pv σ H→c σ H fun b H1=>if b=true then tb { D with nx:=fun σ' H'=>Pv σ' H'∧μ σ' H' < μ σ H,ct:=fun σ' H'=>Pv σ' H'∧μ σ' H' < μ σ H,bk:=D.nx } σ H1 else D.nx σ H1)
    (mono:∀ σ H Q Q',(∀ b H1,Q b H1→Q' b H1)→c σ H Q→c σ H Q'):tWhile c tb D σ H:=by
  refine ⟨fun m σ H=>m=μ σ H∧Pv σ H,⟨_,rfl,h0⟩,?_⟩
  rintro m σ H ⟨rfl,p⟩
  refine mono σ H _ _ (fun b H1 q => ?_) (hs σ H p)
  cases b with
  | true=>exact ⟨_,fun σ' H' ⟨p',l⟩=>⟨_,l,rfl,p'⟩,q⟩
  | false=>exact q
end L2

namespace L2
open PySem PySem.Spec PyProof.Rows

abbrev R2:=V→V→Hp→VK→Prop

def OpR (X:Cx) (f:Value→Value→Sem Value) (r:R2):Prop :=
  ∀ (pins:List (Addr × Obj)) (s:Shared) (σ:St) (H:Hp) (x y:V) (v u:Value) (Q:VK),Inv X pins σ H s→RelV x v→RelV y u→r x y H Q →
    wpAny (model X.prog X.w) X.A (f v u) (EP X pins σ Q) X.xe s

def UnR (X:Cx) (f:Value→Sem Value) (r:V→Hp→VK→Prop):Prop :=
  ∀ (pins:List (Addr × Obj)) (s:Shared) (σ:St) (H:Hp) (x:V) (v:Value) (Q:VK),Inv X pins σ H s→RelV x v→r x H Q →
    wpAny (model X.prog X.w) X.A (f v) (EP X pins σ Q) X.xe s

def CallR (X:Cx) (f:Value) (r:List V→Hp→VK→Prop):Prop :=
  ∀ (pins:List (Addr × Obj)) (s:Shared) (σ:St) (H:Hp) (xs:List V) (us:List Value) (Q:VK),Inv X pins σ H s→Vals xs us→r xs H Q →
    wpAny (model X.prog X.w) X.A (call f us) (EP X pins σ Q) X.xe s

def tOp (r:R2) (ta tb:TE):TE:=fun σ H Q=>ta σ H fun x H1=>tb σ H1 fun y H2=>r x y H2 Q
def tUn (r:V→Hp→VK→Prop) (ta:TE):TE:=fun σ H Q=>ta σ H fun x H1=>r x H1 Q

def rI (C:Int→Int→Prop) (g:Int→Int→V):R2:=fun x y H Q=>∃ i j,x=.int i∧y=.int j∧C i j∧Q (g i j) H
def rI0 (g:Int→Int→V):R2:=fun x y H Q=>∃ i j,x=.int i∧y=.int j∧Q (g i j) H
def rU (g:Int→V):V→Hp→VK→Prop:=fun x H Q=>∃ i,x=.int i∧Q (g i) H

section
variable {X:Cx} {a b c:Expr} {ta tb tc:TE} {pos:Pos}

theorem binT (ha:PE X a ta) (hb:PE X b tb) {pins:List (Addr × Obj)} {s:Shared} {σ:St} {H:Hp} {R:V→V→Hp→Prop} (I:Inv X pins σ H s)
    (h:ta σ H fun x H1=>tb σ H1 fun y H2=>R x y H2) {Q:Value→Shared→Prop} {f:Value→Value→Sem Value}
    (hf:∀ v u s2 x y H2,Inv X pins σ H2 s2→RelV x v→RelV y u→R x y H2→wpAny (model X.prog X.w) X.A (f v u) Q X.xe s2) :
    wpAny (model X.prog X.w) X.A (eval a X.env) (fun v s₁=>wpAny (model X.prog X.w) X.A (eval b X.env) (fun u s₂=>wpAny (model X.prog X.w) X.A (f v u) Q X.xe s₂) X.xe s₁) X.xe s:=by
  refine thn (ha pins s σ H _ I h) fun v s1 ⟨x,H1,I1,r1,q1⟩ => ?_
  refine thn (hb pins s1 σ H1 _ I1 q1) fun u s2 ⟨y,H2,I2,r2,q2⟩ => ?_
  exact hf v u s2 x y H2 I2 r1 r2 q2

theorem pe_op {op:Operator} {r:R2} (ho:OpR X (binaryOp op) r) (ha:PE X a ta) (hb:PE X b tb):PE X (.BinOp a op b pos) (tOp r ta tb):=by
  intro pins s σ H Q I h
  exact wpAny_BinOp (binT ha hb I h fun v u s2 x y H2 I2 rx ry q=>ho pins s2 σ H2 x y v u Q I2 rx ry q)
theorem pe_un {op:UnaryOp} {r:V→Hp→VK→Prop} (ho:UnR X (unaryOp op) r) (ha:PE X a ta):PE X (.UnaryOp op a pos) (tUn r ta):=by
  intro pins s σ H Q I h
  exact UnaryOp_ (thn (ha pins s σ H _ I h) fun v s1 ⟨x,H1,I1,r1,q1⟩=>ho pins s1 σ H1 x v Q I1 r1 q1)

theorem opI {f:Value→Value→Sem Value} {C:Int→Int→Prop} {g:Int→Int→Int}
    (rule:∀ (i j:Int) (t u:Tok) (s:Shared) (Q:Value→Shared→Prop) (E:Value→Shared→Prop),C i j→Q (.int (g i j) s.toks) { s with toks:=s.toks + 1 }→wpAny (model X.prog X.w) X.A (f (.int i t) (.int j u)) Q E s) :
    OpR X f (rI C fun i j=>.int (g i j)):=by
  intro pins s σ H x y v u Q I rx ry h
  obtain ⟨i,j,rfl,rfl,hc,q⟩:=h
  obtain ⟨t,rfl⟩:=rx
  obtain ⟨t',rfl⟩:=ry
  exact rule i j t t' s _ _ hc ⟨.int (g i j),H,I.tok _,⟨_,rfl⟩,q⟩
theorem opI0 {f:Value→Value→Sem Value} {g:Int→Int→Int}
    (rule:∀ (i j:Int) (t u:Tok) (s:Shared) (Q:Value→Shared→Prop) (E:Value→Shared→Prop),Q (.int (g i j) s.toks) { s with toks:=s.toks + 1 }→wpAny (model X.prog X.w) X.A (f (.int i t) (.int j u)) Q E s) :
    OpR X f (rI0 fun i j=>.int (g i j)):=by
  intro pins s σ H x y v u Q I rx ry h
  obtain ⟨i,j,rfl,rfl,q⟩:=h
  obtain ⟨t,rfl⟩:=rx
  obtain ⟨t',rfl⟩:=ry
  exact rule i j t t' s _ _ ⟨.int (g i j),H,I.tok _,⟨_,rfl⟩,q⟩
theorem opB0 {f:Value→Value→Sem Value} {g:Int→Int→Bool}
    (rule:∀ (i j:Int) (t u:Tok) (s:Shared) (Q:Value→Shared→Prop) (E:Value→Shared→Prop),Q (.bool (g i j)) s→wpAny (model X.prog X.w) X.A (f (.int i t) (.int j u)) Q E s) :
    OpR X f (rI0 fun i j=>.bl (g i j)):=by
  intro pins s σ H x y v u Q I rx ry h
  obtain ⟨i,j,rfl,rfl,q⟩:=h
  obtain ⟨t,rfl⟩:=rx
  obtain ⟨t',rfl⟩:=ry
  exact rule i j t t' s _ _ ⟨.bl (g i j),H,I,rfl,q⟩

def CPow (i j:Int):Prop:=0≤j∧j≤1000000∧i.natAbs < 2 ^ 64
def CMul (i j:Int):Prop:=(-(2 ^ 64) < i∧i < 2 ^ 64)∨(-(2 ^ 64) < j∧j < 2 ^ 64)
theorem CMul.ok {i j:Int} (h:CMul i j):IntMulOk i j:=by
  rcases h with ⟨h1,h2⟩ | ⟨h1,h2⟩
  · exact .of_left (intBits_le_64 h1 h2)
  · exact .of_right (intBits_le_64 h1 h2)
theorem two_pow_nn (k:Nat):(0:Int)≤2 ^ k:=by
  rw [two_pow_cast]
  exact Int.natCast_nonneg _

theorem op_add:OpR X (binaryOp .Add) (rI0 fun i j=>.int (i + j)):=opI0 fun _ _ _ _ _ _ _ q=>add_int q
theorem op_sub:OpR X (binaryOp .Sub) (rI0 fun i j=>.int (i - j)):=opI0 fun _ _ _ _ _ _ _ q=>sub_int q
theorem op_mul:OpR X (binaryOp .Mult) (rI CMul fun i j=>.int (i * j)):=opI fun _ _ _ _ _ _ _ hc q=>mul_int q hc.ok

theorem op_mod:OpR X (binaryOp .Mod) (rI (fun _ j=>0 < j) fun i j=>.int (i % j)):=opI fun i j _ _ _ _ _ hc q=>by
  have h1:(0:Int) < j:=hc
  exact mod_int' (by omega) (by rw [Int.fmod_eq_emod_of_nonneg i (by omega)]; exact q)
theorem op_shl:OpR X (binaryOp .LShift) (rI CPow fun i j=>.int (i * 2 ^ j.toNat)):=opI fun _ _ _ _ _ _ _ hc q=>lshift_int_small hc.1 hc.2.1 hc.2.2 q
theorem op_shr:OpR X (binaryOp .RShift) (rI (fun _ j=>0≤j) fun i j=>.int (i / 2 ^ j.toNat)):=opI fun i j _ _ _ _ _ hc q =>
  rshift_int hc (by rw [Int.fdiv_eq_ediv_of_nonneg i (two_pow_nn _)]; exact q)
theorem op_and:OpR X (binaryOp .BitAnd) (rI0 fun i j=>.int (Builtin.bitAnd i j)):=opI0 fun _ _ _ _ _ _ _ q=>and_int q
theorem unI {f:Value→Sem Value} {g:Int→Int}
    (rule:∀ (i:Int) (t:Tok) (s:Shared) (Q:Value→Shared→Prop) (E:Value→Shared→Prop),Q (.int (g i) s.toks) { s with toks:=s.toks + 1 }→wpAny (model X.prog X.w) X.A (f (.int i t)) Q E s) :
    UnR X f (rU fun i=>.int (g i)):=by
  intro pins s σ H x v Q I rx h
  obtain ⟨i,rfl,q⟩:=h
  obtain ⟨t,rfl⟩:=rx
  exact rule i t s _ _ ⟨.int (g i),H,I.tok _,⟨_,rfl⟩,q⟩
theorem un_neg:UnR X (unaryOp .USub) (rU fun i=>.int (-i)):=unI fun _ _ _ _ _ q=>neg_int q
end



def scal:V→V→Bool
  | .non,.non=>true | .non,.int _=>true | .int _,.non=>true | .non,.bl _=>true | .bl _,.non=>true | .non,.str _=>true | .str _,.non=>true
  | .int _,.int _=>true | .bl _,.bl _=>true | .str _,.str _=>true | .byt _,.byt _=>true
  | .int _,.str _=>true | .str _,.int _=>true | .bl _,.str _=>true | .str _,.bl _=>true
  | _,_=>false
def rEq:R2:=fun x y H Q=>scal x y=true∧Q (.bl (decide (x=y))) H
def rNe:R2:=fun x y H Q=>scal x y=true∧Q (.bl (!decide (x=y))) H

theorem dec_int {i j:Int}:decide (V.int i=V.int j)=(i == j):=by
  rw [Bool.eq_iff_iff]
  simp
theorem dec_bl {i j:Bool}:decide (V.bl i=V.bl j)=(i == j):=by
  rw [Bool.eq_iff_iff]
  simp
theorem dec_str {i j:Str}:decide (V.str i=V.str j)=(i == j):=by
  rw [Bool.eq_iff_iff]
  simp
theorem dec_byt {i j:Array UInt8}:decide (V.byt i=V.byt j)=(i.toList == j.toList):=by
  rw [Bool.eq_iff_iff]
  cases i
  cases j
  simp

section
variable {X:Cx} {a b c:Expr} {ta tb tc:TE} {pos:Pos}
theorem fin_bl {pins:List (Addr × Obj)} {σ:St} {H:Hp} {s:Shared} {Q:VK} {k k':Bool} (I:Inv X pins σ H s) (q:Q (.bl k) H) (e:k=k'):EP X pins σ Q (.bool k') s:=by
  subst e
  exact ⟨.bl k,H,I,rfl,q⟩
theorem op_eq:OpR X (compareOp .Eq) rEq:=by
  intro pins s σ H x y v u Q I rx ry h
  obtain ⟨hs,q⟩:=h
  cases x with
  | non =>
    cases rx
    cases y with
    | non=>cases ry; exact PySem.EqNone.eq_none_none (fin_bl I q (by simp))
    | bl j=>cases ry; exact PySem.EqNone.eq_none_bool (fin_bl I q (by simp))
    | int j=>obtain ⟨t',rfl⟩:=ry; exact PySem.EqNone.eq_none_int (fin_bl I q (by simp))
    | str j=>obtain ⟨t',rfl⟩:=ry; exact PySem.EqNone.eq_none_str (fin_bl I q (by simp))
    | _=>exact absurd (show false=true from hs) Bool.false_ne_true
  | bl i =>
    cases rx
    cases y with
    | non=>cases ry; exact PySem.EqNone.eq_bool_none (fin_bl I q (by simp))
    | bl j=>cases ry; exact eq_bool (fin_bl I q dec_bl)
    | str j=>obtain ⟨t',rfl⟩:=ry; exact PySem.EqMixed.eq_bool_str (fin_bl I q (by simp))
    | _=>exact absurd (show false=true from hs) Bool.false_ne_true
  | int i =>
    obtain ⟨t,rfl⟩:=rx
    cases y with
    | non=>cases ry; exact PySem.EqNone.eq_int_none (fin_bl I q (by simp))
    | int j=>obtain ⟨t',rfl⟩:=ry; exact eq_int (fin_bl I q dec_int)
    | str j=>obtain ⟨t',rfl⟩:=ry; exact PySem.EqMixed.eq_int_str (fin_bl I q (by simp))
    | _=>exact absurd (show false=true from hs) Bool.false_ne_true
  | str i =>
    obtain ⟨t,rfl⟩:=rx
    cases y with
    | non=>cases ry; exact PySem.EqNone.eq_str_none (fin_bl I q (by simp))
    | bl j=>cases ry; exact PySem.EqMixed.eq_str_bool (fin_bl I q (by simp))
    | int j=>obtain ⟨t',rfl⟩:=ry; exact PySem.EqMixed.eq_str_int (fin_bl I q (by simp))
    | str j=>obtain ⟨t',rfl⟩:=ry; exact eq_str (fin_bl I q dec_str)
    | _=>exact absurd (show false=true from hs) Bool.false_ne_true
  | byt i =>
    obtain ⟨t,rfl⟩:=rx
    cases y with
    | byt j=>obtain ⟨t',rfl⟩:=ry; exact PySem.W.eq_bytes (fin_bl I q dec_byt)
    | _=>exact absurd (show false=true from hs) Bool.false_ne_true
  | _=>cases y <;> exact absurd (show false=true from hs) Bool.false_ne_true
theorem op_ne:OpR X (compareOp .NotEq) rNe:=by
  intro pins s σ H x y v u Q I rx ry h
  obtain ⟨hs,q⟩:=h
  cases x with
  | non =>
    cases rx
    cases y with
    | non=>cases ry; exact PySem.EqNone.ne_none_none (fin_bl I q (by simp))
    | bl j=>cases ry; exact PySem.EqNone.ne_none_bool (fin_bl I q (by simp))
    | int j=>obtain ⟨t',rfl⟩:=ry; exact PySem.EqNone.ne_none_int (fin_bl I q (by simp))
    | str j=>obtain ⟨t',rfl⟩:=ry; exact PySem.EqNone.ne_none_str (fin_bl I q (by simp))
    | _=>exact absurd (show false=true from hs) Bool.false_ne_true
  | bl i =>
    cases rx
    cases y with
    | non=>cases ry; exact PySem.EqNone.ne_bool_none (fin_bl I q (by simp))
    | bl j=>cases ry; exact ne_bool (fin_bl I q (congrArg not dec_bl))
    | str j=>obtain ⟨t',rfl⟩:=ry; exact PySem.EqMixed.ne_bool_str (fin_bl I q (by simp))
    | _=>exact absurd (show false=true from hs) Bool.false_ne_true
  | int i =>
    obtain ⟨t,rfl⟩:=rx
    cases y with
    | non=>cases ry; exact PySem.EqNone.ne_int_none (fin_bl I q (by simp))
    | int j=>obtain ⟨t',rfl⟩:=ry; exact ne_int (fin_bl I q (congrArg not dec_int))
    | str j=>obtain ⟨t',rfl⟩:=ry; exact PySem.EqMixed.ne_int_str (fin_bl I q (by simp))
    | _=>exact absurd (show false=true from hs) Bool.false_ne_true
  | str i =>
    obtain ⟨t,rfl⟩:=rx
    cases y with
    | non=>cases ry; exact PySem.EqNone.ne_str_none (fin_bl I q (by simp))
    | bl j=>cases ry; exact PySem.EqMixed.ne_str_bool (fin_bl I q (by simp))
    | int j=>obtain ⟨t',rfl⟩:=ry; exact PySem.EqMixed.ne_str_int (fin_bl I q (by simp))
    | str j=>obtain ⟨t',rfl⟩:=ry; exact ne_str (fin_bl I q (congrArg not dec_str))
    | _=>exact absurd (show false=true from hs) Bool.false_ne_true
  | byt i =>
    obtain ⟨t,rfl⟩:=rx
    cases y with
    | byt j=>obtain ⟨t',rfl⟩:=ry; exact PySem.W.ne_bytes (fin_bl I q (congrArg not dec_byt))
    | _=>exact absurd (show false=true from hs) Bool.false_ne_true
  | _=>cases y <;> exact absurd (show false=true from hs) Bool.false_ne_true

theorem op_lt:OpR X (compareOp .Lt) (rI0 fun i j=>.bl (decide (i < j))):=opB0 fun _ _ _ _ _ _ _ q=>lt_int q
theorem op_gt:OpR X (compareOp .Gt) (rI0 fun i j=>.bl (decide (j < i))):=opB0 fun _ _ _ _ _ _ _ q=>gt_int q
theorem nomark (b:Expr) {op:CmpOp} (h:op≠.In:=by decide) (h2:op≠.NotIn:=by decide):behindInMarks op b=false:=by
  have e1:(op == CmpOp.In)=false:=by cases op <;> first | rfl | exact absurd rfl h
  have e2:(op == CmpOp.NotIn)=false:=by cases op <;> first | rfl | exact absurd rfl h2
  cases b <;> simp [behindInMarks,e1,e2]

theorem pe_cmpR {op:CmpOp} {r:R2} (ho:OpR X (compareOp op) r) (ha:PE X a ta) (hb:PE X b tb) (hm:behindInMarks op b=false):PE X (.Compare a [op] [b] pos) (tOp r ta tb):=by
  intro pins s σ H Q I h
  exact wpAny_Compare1 (binT ha hb I h fun v u s2 x y H2 I2 rx ry q=>ho pins s2 σ H2 x y v u Q I2 rx ry q) hm

def tTest (t:TE):TT:=fun σ H Q=>t σ H fun x H'=>∃ k,x=.bl k∧Q k H'
theorem pt_cmpR {op:CmpOp} {r:R2} (ho:OpR X (compareOp op) r) (ha:PE X a ta) (hb:PE X b tb) (hm:behindInMarks op b=false):PT X (.Compare a [op] [b] pos) (tTest (tOp r ta tb)):=by
  intro pins s σ H Q I h
  refine wpAny_isTrue_Compare1 (thn (ha pins s σ H _ I h) fun v s1 ⟨x,H1,I1,r1,q1⟩=>thn (hb pins s1 σ H1 _ I1 q1) fun u s2 ⟨y,H2,I2,r2,q2⟩ =>
    thn (ho pins s2 σ H2 x y v u _ I2 r1 r2 q2) fun c s3 ⟨z,H3,I3,r3,k,e,q3⟩ => ?_) hm
  subst e
  cases r3
  exact wpAny_truthy_bool ⟨H3,I3,q3⟩

theorem line63:(sizeLine:Nat) < 2 ^ 63:=by rw [sizeLine_eq]; decide
theorem op_add_str:OpR X (binaryOp .Add) (fun x y H Q=>∃ i j,x=.str i∧y=.str j∧i.length + j.length≤sizeLine∧Q (.str (i++j)) H):=by
  intro pins s σ H x y v u Q I rx ry h
  obtain ⟨i,j,rfl,rfl,hz,q⟩:=h
  obtain ⟨t,rfl⟩:=rx
  obtain ⟨t',rfl⟩:=ry
  exact add_str (fun t' tk=>⟨.str (i++j),H,I.tok _,⟨_,rfl⟩,q⟩) hz
theorem vals1 {x:V} {us:List Value} (r:Vals [x] us):∃ u,us=[u]∧RelV x u:=by
  cases r with
  | cons r1 r2=>cases r2; exact ⟨_,rfl,r1⟩
theorem vals2 {x y:V} {us:List Value} (r:Vals [x,y] us):∃ u w',us=[u,w']∧RelV x u∧RelV y w':=by
  cases r with
  | cons r1 r2 =>
    cases r2 with
    | cons r3 r4=>cases r4; exact ⟨_,_,rfl,r1,r3⟩
theorem call_min2 (hc:X.calm=true):CallR X (.builtin "min") (fun xs H Q=>∃ i j,xs=[.int i,.int j]∧Q (.int (if j < i then j else i)) H):=by
  intro pins s σ H xs us Q I r h
  obtain ⟨i,j,rfl,q⟩:=h
  obtain ⟨u,w',rfl,⟨t,rfl⟩,⟨t',rfl⟩⟩:=vals2 r
  refine min_two_ints (I.ok.hd hc) fun h' tk k=>⟨_,H,I.kept k,?_,q⟩
  by_cases hj:j < i
  · rw [if_pos hj,if_pos hj]; exact ⟨_,rfl⟩
  · rw [if_neg hj,if_neg hj]; exact ⟨_,rfl⟩
theorem call_int1:CallR X (.type "int") (fun xs H Q=>(∃ i,xs=[.int i]∧Q (.int i) H)∨∃ k,xs=[.bl k]∧Q (.int (if k then 1 else 0)) H):=by
  intro pins s σ H xs us Q I r h
  rcases h with ⟨i,rfl,q⟩ | ⟨k,rfl,q⟩
  · obtain ⟨u,rfl,t,rfl⟩:=vals1 r
    exact call_int_int ⟨.int i,H,I,⟨_,rfl⟩,q⟩
  · obtain ⟨u,rfl,r1⟩:=vals1 r
    cases r1
    exact call_int_bool ⟨.int (if k then 1 else 0),H,I.tok _,⟨_,rfl⟩,q⟩
theorem call_str_int:CallR X (.type "str") (fun xs H Q=>∃ i,xs=[.int i]∧i.natAbs.log2 < 1920∧Q (.str (toString i)) H):=by
  intro pins s σ H xs us Q I r h
  obtain ⟨i,rfl,hz,q⟩:=h
  obtain ⟨u,rfl,t,rfl⟩:=vals1 r
  exact PySem.P.str_of_int hz ⟨.str _,H,I.tok _,⟨_,rfl⟩,q⟩
def LenV (K:PySem.W.Frag) (x:V) (H:Hp) (n:Nat):Prop :=
  match x with
  | .str y=>y.length≤sizeLine∧n=y.length
  | .byt y=>y.size≤sizeLine∧n=y.size
  | .ref p=>(∃ xs,SqL K H p xs∧n=xs.length)∨∃ xs,SqT K H p xs∧n=xs.length
  | _=>False
theorem call_len:CallR X (.builtin "len") (fun xs H Q=>∃ x n,xs=[x]∧LenV X.K x H n∧Q (.int n) H):=by
  intro pins s σ H xs us Q I r h
  obtain ⟨x,n,rfl,e,q⟩:=h
  obtain ⟨u,rfl,rx⟩:=vals1 r
  have hl:=line63
  have hs:sizeLine=16777216:=sizeLine_eq
  cases x with
  | str y =>
    obtain ⟨t,rfl⟩:=rx
    obtain ⟨hy,e'⟩:y.length≤sizeLine∧n=y.length:=e
    subst e'
    exact len_str (by omega) ⟨.int _,H,I.tok _,⟨_,rfl⟩,q⟩
  | byt y =>
    obtain ⟨t,rfl⟩:=rx
    obtain ⟨hy,e'⟩:y.size≤sizeLine∧n=y.size:=e
    subst e'
    exact PySem.W.len_bytes (by omega) ⟨.int _,H,I.tok _,⟨_,rfl⟩,q⟩
  | ref p =>
    cases rx
    have e':(∃ xs,SqL X.K H p xs∧n=xs.length)∨∃ xs,SqT X.K H p xs∧n=xs.length:=e
    rcases e' with ⟨xs,hx,e'⟩ | ⟨xs,hx,e'⟩
    · subst e'
      obtain ⟨its,r',pl,hz⟩:=I.list hx
      have hlen:=r'.length
      exact Calls.call_len_list pl.isList (by simp only [List.size_toArray]; omega) ⟨.int xs.length,H,I.tok _,⟨_,by simp only [List.size_toArray]; rw [hlen]⟩,q⟩
    · subst e'
      obtain ⟨its,r',pl,hz⟩:=I.tuple hx
      have hlen:=r'.length
      exact len_tuple pl (by simp only [List.size_toArray]; omega) ⟨.int xs.length,H,I.tok _,⟨_,by simp only [List.size_toArray]; rw [hlen]⟩,q⟩
  | _=>exact (show False from e).elim

end
end L2

namespace L2
open PySem PySem.Spec PyProof.Rows


structure ObjM (h:Heap) (x dx C:Addr) (mA:Str→Option Value):Prop where
  obj:h.get? x=some (PySem.W.instObj C dx)
  ns:h.Ns1 dx mA
  ne:dx≠x

theorem lookIn_ns {h:Heap} {dx:Addr} {mA:Str→Option Value} (n:h.Ns1 dx mA):∃ od,h.get? dx=some od∧∀ name,PySem.W.lookIn name od=some (mA name):=by
  obtain ⟨o,es,ep,ho,hd,hk,_,hm⟩:=n
  refine ⟨o,ho,fun name => ?_⟩
  have e:=hm name
  unfold nsFind findBy at e
  rw [← Array.find?_toList] at e
  unfold PySem.W.lookIn
  rw [hd]
  dsimp only
  split
  · rename_i y q
    rw [q] at e
    exact congrArg some e
  · rename_i q
    rw [q] at e
    have a:es.toList.any (·.refKey)=false:=by
      rw [List.any_eq_false]
      intro y hy
      obtain ⟨z,t,hkey⟩:=hk y (Array.mem_toList_iff.mp hy)
      simp [DictEntry.refKey,hkey]
    have a':¬ es.toList.any (·.refKey)=true:=by rw [a]; exact Bool.false_ne_true
    rw [if_neg a']
    exact congrArg some e

theorem ObjM.look {h:Heap} {x dx C:Addr} {mA:Str→Option Value} (I:ObjM h x dx C mA):∃ od,PySem.W.InstAt h x (PySem.W.instObj C dx) C (some od)∧∀ name,PySem.W.lookIn name od=some (mA name) :=
  let ⟨od,ho,hl⟩:=lookIn_ns I.ns
  ⟨od,⟨I.obj,rfl,rfl,ho⟩,hl⟩

section
variable {prog:Program} {w:World} {A:Around} {E:Value→Shared→Prop} {s:Shared} {K:PySem.W.Frag} {x dx C f:Addr} {mA:Str→Option Value} {name:Str} {v:Value}

end


section
variable {P:Program} {w:World} {H H':Hp} {h h':Heap} {a C dx:Addr} {fs fs':List (Str × V)}
theorem ins_get (hok:HOk P w H h) (e:H a=some (.ins C dx fs)):∃ mA,ObjM h a dx C mA∧(∀ f,RelO (fs.lookup f) (mA f))∧PySem.Within mA (fs.map (·.1))∧fs.length≤1000∧H dx=some (.own a):=by
  obtain ⟨d,z,ne,ob,mA,n,r,q⟩:=(show ObjOk P w H h a (.ins C dx fs) from hok a _ e)
  exact ⟨mA,⟨ob,n,ne⟩,r,q,z,d⟩
end


structure Cls (K:PySem.W.Frag) (C:Addr):Prop where
  pg:PySem.W.plainGet K C Str.empty=true
  hd:PySem.W.hasDictIn K C=true
  po:PySem.W.plainOver K C=true
  sa:PySem.W.findIn K (.ref C) "__setattr__" = some (some (.builtin "object.__setattr__"))
theorem Cls.get {K:PySem.W.Frag} {C:Addr} (c:Cls K C) (f:Str):PySem.W.plainGet K C f=true:=c.pg

section
variable {X:Cx} {pins:List (Addr × Obj)} {σ:St} {H:Hp} {s:Shared} {a C dx:Addr} {fs:List (Str × V)} {f:Str} {v:V} {A:Around} {E:Value→Shared→Prop}

end



section
variable {X:Cx} {o e value:Expr} {f:Str} {pos pos' tpos:Pos} {ta tv:TE}
end


section
variable {X:Cx} {pins:List (Addr × Obj)} {σ:St} {H:Hp} {s:Shared} {A:Around} {E:Value→Shared→Prop} {Q:Value→Shared→Prop} {c:Value} {b:Bool}

inductive TyOf (K:PySem.W.Frag) (H:Hp):V→Value→Prop where
  | non:TyOf K H .non (.type "NoneType")
  | bl (x:Bool):TyOf K H (.bl x) (.type "bool")
  | int (i:Int):TyOf K H (.int i) (.type "int")
  | str (x:Str):TyOf K H (.str x) (.type "str")
  | flt (x:UInt64):TyOf K H (.flt x) (.type "float")
  | lst {a:Addr} {xs:List V} (e:H a=some (.lst xs)):TyOf K H (.ref a) (.type "list")
  | frz {a:Addr} {o:Obj} {xs:List V} (e:H a=some (.frz o (.lst xs))):TyOf K H (.ref a) (.type "list")
  | tup {a:Addr} {xs:List V} (e:H a=some (.tup xs)):TyOf K H (.ref a) (.type "tuple")
  | dK {a:Addr} {kvs:List (Key × V)} (e:H a=some (.dK kvs)):TyOf K H (.ref a) (.type "dict")
  | dT {a:Addr} {kvs:List (List Key × V)} (e:H a=some (.dT kvs)):TyOf K H (.ref a) (.type "dict")
  | ins {a C dx:Addr} {fs:List (Str × V)} (e:H a=some (.ins C dx fs)) (cl:Cls K C) (ha:PySem.W.findIn K (.ref C) "__class__" = some (some (.builtin "object.__class__")))
      (hn:PySem.W.specialIn K (.builtin "object.__class__") "__get__" = some (some (.builtin "getset_descriptor.__get__"))) (htk:PySem.W.takesIn K (.builtin "object.__class__")=some true)
      (hm:PySem.W.mroIn K C (.type "object")=some true):TyOf K H (.ref a) (.ref C)

theorem isinst_ok {x:V} {u t:Value} (I:Inv X pins σ H s) (rx:RelV x u) (ty:TyOf X.K H x t) (e:PySem.W.kitOne X.K t c=some b) (h:∀ tk,Q (.bool b) { s with toks:=tk }) :
    wpAny (model X.prog X.w) A (call (.builtin "isinstance") [u,c]) Q E s:=by
  cases ty with
  | non=>cases (show u=Value.none from rx); exact PySem.W.kia_one PySem.W.kitx_none I.kIn True.intro e (fun z=>nomatch z) h
  | bl y=>cases (show u=Value.bool y from rx); exact PySem.W.kia_one PySem.W.kitx_bool I.kIn True.intro e (fun z=>nomatch z) h
  | int i=>obtain ⟨t,q⟩:=(show ∃ t,u=Value.int i t from rx); cases q; exact PySem.W.kia_one PySem.W.kitx_int I.kIn True.intro e (fun z=>nomatch z) h
  | str y=>obtain ⟨t,q⟩:=(show ∃ t,u=Value.str y t from rx); cases q; exact PySem.W.kia_one PySem.W.kitx_str I.kIn True.intro e (fun z=>nomatch z) h
  | flt y=>obtain ⟨t,q⟩:=(show ∃ t,u=Value.float y t from rx); cases q; exact PySem.W.kia_one PySem.W.kitx_float I.kIn True.intro e (fun z=>nomatch z) h
  | @lst a xs ea =>
    cases (show u=Value.ref a from rx)
    obtain ⟨_,_,n,_,h1⟩:=(show ObjOk X.prog X.w H s.heap a (.lst xs) from I.hok a _ ea)
    exact PySem.W.kia_one PySem.W.kitx_list I.kIn ⟨_,h1,rfl⟩ e (fun z=>nomatch z) h
  | @frz a ob xs ea =>
    cases (show u=Value.ref a from rx)
    obtain ⟨_,_,_,n,_,h1⟩:=(show ObjOk X.prog X.w H s.heap a (.frz ob (.lst xs)) from I.hok a _ ea)
    exact PySem.W.kia_one PySem.W.kitx_list I.kIn ⟨_,h1,rfl⟩ e (fun z=>nomatch z) h
  | @tup a xs ea =>
    cases (show u=Value.ref a from rx)
    obtain ⟨_,_,_,p⟩:=(show ObjOk X.prog X.w H s.heap a (.tup xs) from I.hok a _ ea)
    obtain ⟨o,h1,h2,_⟩:=p
    exact PySem.W.kia_one PySem.W.kitx_tuple I.kIn ⟨o,h1,h2⟩ e (fun z=>nomatch z) h
  | @dK a kvs ea =>
    cases (show u=Value.ref a from rx)
    obtain ⟨_,_,vs,_,p⟩:=(show ObjOk X.prog X.w H s.heap a (.dK kvs) from I.hok a _ ea)
    obtain ⟨o,es,ep,h1,h2,_⟩:=p
    exact PySem.W.kia_one PySem.W.kitx_dict I.kIn ⟨o,h1,h2.1⟩ e (fun z=>nomatch z) h
  | @dT a kvs ea =>
    cases (show u=Value.ref a from rx)
    obtain ⟨_,_,xs,_,o,es,ep,h1,h2,_⟩:=(show ObjOk X.prog X.w H s.heap a (.dT kvs) from I.hok a _ ea)
    exact PySem.W.kia_one PySem.W.kitx_dict I.kIn ⟨o,h1,h2.1⟩ e (fun z=>nomatch z) h
  | @ins a C dx fs ea cl ha hn htk hm =>
    cases (show u=Value.ref a from rx)
    obtain ⟨mA,O,_⟩:=ins_get I.hok ea
    obtain ⟨od,J,_⟩:=O.look
    exact PySem.W.kia_one (PySem.W.kitx_own (cl.get _) cl.hd ha hn htk hm) I.kIn J e (fun z=>nomatch z) h
end
end L2

namespace L2
open PySem PySem.Spec PyProof.Rows


structure Room (k:Nat) (A:Around):Prop where
  hd:A.handled=none
  dp:A.depth + 3 * k + 5 < recursionLimit
  un:A.units + 16 * k + 200 < cLine
theorem Room.mono {j k:Nat} {A:Around} (r:Room k A) (h:j≤k):Room j A:=⟨r.hd,by have:=r.dp; omega,by have:=r.un; omega⟩
theorem Room.deeper {k:Nat} {A:Around} (r:Room (k + 1) A) (env:Env):Room k (A.deeper env) :=
  ⟨r.hd,by have:=r.dp; show A.depth + 1 + 3 * k + 5 < _; omega,by have:=r.un; show A.units + 3 + 16 * k + 200 < _; omega⟩
theorem Room.depth {k:Nat} {A:Around} (r:Room k A):A.depth < recursionLimit:=by have:=r.dp; omega
theorem Room.units {k:Nat} {A:Around} (r:Room k A):A.units + 64 < cLine:=by have:=r.un; omega
theorem Room.units0 {k:Nat} {A:Around} (r:Room k A):A.units < cLine:=by have:=r.un; omega


def tNil:TA:=fun _ H Q=>Q [] H
def tCons (ta:TE) (tr:TA):TA:=fun σ H Q=>ta σ H fun x H1=>tr σ H1 fun xs H2=>Q (x::xs) H2
section
variable {X:Cx} {e:Expr} {es:List Expr} {te:TE} {t:TA} {pos:Pos}
theorem pa_nil:PA X [] tNil:=fun _ _ _ _ H Q I h=>Calls.spliced_nil ⟨[],H,I,.nil,h⟩
theorem pa_cons (ha:PE X e te) (hr:PA X es t) (hs:starEach (e::es) X.env=(false,eval e X.env)::starEach es X.env:=by rfl):PA X (e::es) (tCons te t):=by
  intro pos pins s σ H Q I h
  rw [hs]
  show wpAny _ _ (spliced ((false,eval e X.env)::backTo pos (starEach es X.env))) _ _ s
  refine Calls.spliced_cons (thn (ha pins s σ H _ I h) fun u s1 ⟨x,H1,I1,r1,q1⟩ => ?_)
  exact thn (hr pos pins s1 σ H1 _ I1 q1) fun us s2 ⟨xs,H2,I2,r2,q2⟩=>⟨x::xs,H2,I2,.cons r1 r2,q2⟩


def tTup (t:TA):TE:=fun σ H Q=>t σ H fun xs H1=>xs.length≤sizeLine∧∀ p,H1 p=none→Q (.ref p) (upd H1 p (.tup xs))
def tLst (t:TA):TE:=fun σ H Q=>t σ H fun xs H1=>xs.length≤sizeLine∧∀ p,H1 p=none→Q (.ref p) (upd H1 p (.lst xs))
theorem pe_tup {x1} (h:PA X es t):PE X (.Tuple es x1 pos) (tTup t):=by
  intro pins s σ H Q I hq
  refine wpAny_Tuple_spliced (thn (h pos pins s σ H _ I hq) fun us s1 ⟨xs,H1,I1,r,z,q⟩=>⟨by rw [← r.length]; exact z,?_⟩)
  have hf:H1 s1.heap.objs.size=none:=I1.hok.fresh (Nat.le_refl _)
  refine ⟨.ref s1.heap.objs.size,upd H1 s1.heap.objs.size (.tup xs),I1.laid (t':=s1.toks) (fun b u e=>Heap.get?_push_of_some _ e) (Nat.le_refl _) ?_,rfl,q _ hf⟩
  exact ⟨z,us,r,⟨_,Heap.get?_push_size _ rfl,rfl,_,rfl⟩⟩
theorem pe_lst (h:PA X es t):PE X (.List es pos) (tLst t):=by
  intro pins s σ H Q I hq
  refine wpAny_List_spliced (thn (h pos pins s σ H _ I hq) fun us s1 ⟨xs,H1,I1,r,z,q⟩=>⟨by rw [← r.length]; exact z,?_⟩)
  have hf:H1 s1.heap.objs.size=none:=I1.hok.fresh (Nat.le_refl _)
  refine ⟨.ref s1.heap.objs.size,upd H1 s1.heap.objs.size (.lst xs),I1.laid (t':=s1.toks) (fun b u e=>Heap.get?_push_of_some _ e) (Nat.le_refl _) ?_,rfl,q _ hf⟩
  exact ⟨z,us,0,r,Heap.get?_push_size _ rfl⟩
end



abbrev Sp:=List V→Hp→VK→XK→Prop

abbrev CXT:=List Env→Hp→Shared→XK→Value→Shared→Prop


structure Env0 (P:Program) (w:World) (K:PySem.W.Frag) (mg:Str→Option Value) (base:Heap) (A:Around) (outer:List Env) (s:Shared) (H:Hp):Prop where
  frames:A.frames=some outer
  mod:Mod K mg base
  bs:∀ b o,base.get? b=some o→s.heap.get? b=some o∧H b=none
  bsz:base.objs.size≤s.heap.objs.size
  funs:s.heap.FunFrames base outer
  frf:∀ b∈frs outer,H b=none
  hok:HOk P w H s.heap
  bare:AllBare s.gens

def CE (outer:List Env) (P:Program) (w:World) (H:Hp) (s:Shared) (Q:VK) (u:Value) (s':Shared):Prop :=
  ∃ v H',s'.os=s.os∧AllBare s'.gens∧Un (frs outer) [] H H' s.heap s'.heap∧HOk P w H' s'.heap∧RelV v u∧Q v H'
def CR (CX:CXT) (outer:List Env) (P:Program) (w:World) (H:Hp) (s:Shared) (Q:VK) (E:XK) (r:Result) (s':Shared):Prop :=
  match r with
  | .ok (.ret u)=>CE outer P w H s Q u s'
  | .ok _=>False
  | .error e=>CX outer H s E e s'
structure FnOk (P:Program) (w:World) (K:PySem.W.Frag) (mg:Str→Option Value) (base:Heap) (CX:CXT) (k:Nat) (f:Addr) (fd:FuncData) (ps:List Str) (sp:Sp):Prop where
  len:∀ vs H Q E,sp vs H Q E→vs.length=ps.length
  run:∀ (A:Around) (outer:List Env) (s:Shared) (H:Hp) (args:Args) (us:List Value) (vs:List V) (Q:VK) (E:XK),Room k A→Env0 P w K mg base A outer s H→BindsTo s fd args (ps.zip us)→Vals vs us→sp vs H Q E →
    codeAny (model P w) A (.call (.ref f) args) (CR CX outer P w H s Q E) s
section
variable {X:Cx} {pins:List (Addr × Obj)} {σ:St} {H:Hp} {s s':Shared}

theorem Inv.env0 (I:Inv X pins σ H s):Env0 X.prog X.w X.K X.mg X.base X.A X.stack s H :=
  ⟨I.ok.frames,I.ok.mod,I.bs,Nat.le_trans I.ok.bsz I.sz,I.stack,I.stkFree,I.hok,I.bare⟩

theorem Inv.after {Q:VK} {u:Value} (I:Inv X pins σ H s) (h:CE X.stack X.prog X.w H s Q u s'):EP X pins σ Q u s':=by
  obtain ⟨v,H',os,bare,un,hok,r,q⟩:=h
  obtain ⟨hh,g,d,t,os'⟩:=s'
  obtain rfl:os'=s.os:=os
  exact ⟨v,H',I.call (h':=hh) (g':=g) (d':=d) (t':=t) (ch:=[]) un hok bare (fun b z=>absurd z (by simp)),r,q⟩
end



def tCall (sp:Sp) (dvs:List V) (E:XK) (t:TA):TE:=fun σ H Q=>t σ H fun vs H1=>sp (vs++dvs) H1 Q E

def Binds (K:PySem.W.Frag) (fd:FuncData) (ps:List Str) (ds:List Value):Prop :=
  ∀ (s:Shared) (us:List Value),K.In s.heap→(us++ds).length=ps.length→BindsTo s fd ⟨us,[]⟩ (ps.zip (us++ds))

theorem Binds.all {K:PySem.W.Frag} {fd:FuncData} {ps:List Str} (h:∀ us:List Value,us.length=ps.length→bindArgs fd ⟨us,[]⟩=pure (ps.zip us)):Binds K fd ps []:=fun s us _ hl=>by
  rw [List.append_nil] at hl ⊢
  exact .of_eq (h us hl)


def Passes (CX:CXT) (X:Cx) (E:XK):Prop:=∀ (pins:List (Addr × Obj)) (σ:St) (H:Hp) (s:Shared) (e:Value) (s':Shared),Inv X pins σ H s→CX X.stack H s E e s'→X.xe e s'

section
variable {X:Cx} {CX:CXT} {k:Nat} {f C:Addr} {fd:FuncData} {ps:List Str} {sp:Sp} {dvs:List V} {ds:List Value} {E:XK} {x m:Str} {p pos apos:Pos} {e o:Expr} {es:List Expr} {ta:TE} {t:TA}


theorem run_fn {pins:List (Addr × Obj)} {σ:St} {H:Hp} {s:Shared} {Q:VK} {us:List Value} {vs:List V} (F:FnOk X.prog X.w X.K X.mg X.base CX k f fd ps sp) (hr:Room k X.A) (hb:Binds X.K fd ps ds) (hd:Vals dvs ds) (hx:Passes CX X E)
    (I:Inv X pins σ H s) (r:Vals vs us) (h:sp (vs++dvs) H Q E):wpAny (model X.prog X.w) X.A (call (.ref f) us) (EP X pins σ Q) X.xe s:=by
  have r2:Vals (vs++dvs) (us++ds):=r.append hd
  have hl:(us++ds).length=ps.length:=by rw [← r2.length]; exact F.len _ _ _ _ h
  refine wpAny_call (codeAny_mono (F.run X.A X.stack s H ⟨us,[]⟩ (us++ds) (vs++dvs) Q E hr I.env0 (hb s us I.kIn hl) r2 h) fun r s' hq => ?_)
  cases r with
  | error e=>exact hx pins σ H s e s' I hq
  | ok fl =>
    cases fl with
    | ret u=>exact I.after hq
    | next=>exact False.elim hq
    | brk=>exact False.elim hq
    | cont=>exact False.elim hq

theorem pe_call (F:FnOk X.prog X.w X.K X.mg X.base CX k f fd ps sp) (hr:Room k X.A) (hg:Gl X x) (hm:X.mg x=some (.ref f)) (hk:PySem.W.keepIn X.K (.ref f)=true) (hb:Binds X.K fd ps ds) (hd:Vals dvs ds) (hx:Passes CX X E)
    (ha:PA X (e::es) t) (hdb:(x == ("__debug__" : Str))=false:=by decide) (he:starEach (e::es) X.env=(false,eval e X.env)::starEach es X.env:=by rfl) (hpl:(backTo pos (starEach es X.env)).any (·.1)=false:=by rfl) :
    PE X (.Call (.Name x p) (e::es) [] pos) (tCall sp dvs E t):=by
  intro pins s σ H Q I h
  refine wpAny_Call_Name_kw (ld_glob I hg hm ?_ hdb)
  refine PySem.W.callWith_K (h₀:=X.base) I.ok.mod.kin hk (thn (ha pos pins s σ H _ I h) fun us s1 ⟨vs,H1,I1,r,q⟩=>⟨I1.kIn,?_⟩) he hpl
  exact run_fn F hr hb hd hx I1 r q
end



section
variable {X:Cx} {CX:CXT} {k:Nat} {f C:Addr} {fd:FuncData} {ps ks:List Str} {sp:Sp} {E:XK} {x m:Str} {p pos apos kpos:Pos} {e o:Expr} {es:List Expr} {kws:List Keyword} {te ta:TE} {t tk:TA} {nm:Option Str}
variable {g:List Value→List Value→List Value} {gV:List V→List V→List V}
end



structure FnScope (N P:List Str) (sc:Scope):Prop where
  kind:sc.kind=.function
  co:sc.isCoroutine=false
  gen:sc.isGenerator=false
  nd:N.Nodup
  pre:N.take P.length=P
  par:∀ x∈P,sc.names.lookup x=some .local∨sc.names.lookup x=some .cell
  nofree:∀ y∈sc.names,y.2≠.free

theorem bindL_out {kindOf:Str→Option NameKind} {x:Str}:∀ {binds:List (Str × Value)} {m:Str→Option Value},(∀ v,(x,v)∉binds)→bindL kindOf binds m x=m x
  | [],_,_=>rfl
  | (n,v)::r,m,h=>by
    unfold bindL
    rw [bindL_out fun w hw=>h w (List.mem_cons_of_mem _ hw)]
    split
    · have:x≠n:=by rintro rfl; exact h v List.mem_cons_self
      simp [this]
    · rfl
theorem bindC_out {kindOf:Str→Option NameKind} {x:Str}:∀ {binds:List (Str × Value)} {m:Str→Option Value},(∀ v,(x,v)∉binds)→bindC kindOf binds m x=m x
  | [],_,_=>rfl
  | (n,v)::r,m,h=>by
    unfold bindC
    rw [bindC_out fun w hw=>h w (List.mem_cons_of_mem _ hw)]
    split
    · rfl
    · have:x≠n:=by rintro rfl; exact h v List.mem_cons_self
      simp [this]
theorem bindL_get {kindOf:Str→Option NameKind} {x:Str} {v:Value}:∀ {P:List Str} {vs:List Value} {i:Nat} {m:Str→Option Value},P.Nodup→P[i]? = some x→vs[i]? = some v→kindOf x=some .local →
    bindL kindOf (P.zip vs) m x=some v
  | [],_,_,_,_,h,_,_=>by simp at h
  | _::_,[],_,_,_,_,h,_=>by simp at h
  | p::P,w::vs,0,m,nd,h1,h2,hk=>by
    simp at h1 h2; subst h1; subst h2
    show bindL kindOf ((p,w)::P.zip vs) m p=_
    unfold bindL
    rw [bindL_out fun v hv=>(List.nodup_cons.mp nd).1 (List.of_mem_zip hv).1,if_pos hk]
    simp
  | p::P,w::vs,i + 1,m,nd,h1,h2,hk=>by
    show bindL kindOf ((p,w)::P.zip vs) m x=_
    unfold bindL
    exact bindL_get (i:=i) (List.nodup_cons.mp nd).2 (by simpa using h1) (by simpa using h2) hk
theorem bindC_get {kindOf:Str→Option NameKind} {x:Str} {v:Value}:∀ {P:List Str} {vs:List Value} {i:Nat} {m:Str→Option Value},P.Nodup→P[i]? = some x→vs[i]? = some v→kindOf x≠some .local →
    bindC kindOf (P.zip vs) m x=some v
  | [],_,_,_,_,h,_,_=>by simp at h
  | _::_,[],_,_,_,_,h,_=>by simp at h
  | p::P,w::vs,0,m,nd,h1,h2,hk=>by
    simp at h1 h2; subst h1; subst h2
    show bindC kindOf ((p,w)::P.zip vs) m p=_
    unfold bindC
    rw [bindC_out fun v hv=>(List.nodup_cons.mp nd).1 (List.of_mem_zip hv).1,if_neg hk]
    simp
  | p::P,w::vs,i + 1,m,nd,h1,h2,hk=>by
    show bindC kindOf ((p,w)::P.zip vs) m x=_
    unfold bindC
    exact bindC_get (i:=i) (List.nodup_cons.mp nd).2 (by simpa using h1) (by simpa using h2) hk


def start (N:List Str) (vs:List V):St:=vs.map some++List.replicate (N.length - vs.length) none


def cxOf (CX:CXT) (P:Program) (w:World) (K:PySem.W.Frag) (mg:Str→Option Value) (base:Heap) (N:List Str) (qual:Str) (scope:Scope) (f:Addr) (cd:Value) (A:Around) (outer:List Env) (s:Shared) (H:Hp) (E:XK):Cx where
  prog:=P
  w:=w
  K:=K
  mg:=mg
  base:=base
  A:=A.deeper (envOfC qual scope s.heap.objs.size f cd)
  N:=N
  s₀:=s
  H₀:=H
  env:=envOfC qual scope s.heap.objs.size f cd
  outer:=outer
  stack:=envOfC qual scope s.heap.objs.size f cd::outer
  ex:=[]
  calm:=true
  fn:=fun _=>true
  pn:=[]
  xe:=fun e s'=>wpAny (model P w) (A.deeper (envOfC qual scope s.heap.objs.size f cd)) (leaving (envOfC qual scope s.heap.objs.size f cd) e) (fun _ s''=>CX outer H s E e s'') (fun e' s''=>CX outer H s E e' s'') s'

theorem cell_has {sc:Scope} {n:Nat} {x:Str} (h:sc.names.lookup x=some .cell):∃ c,(cellsFrom n sc.names []).lookup x=some c:=by
  have q:=PySem.W.cellsFrom_some sc.names n [] (.inl h)
  exact Option.isSome_iff_exists.mp q

theorem inv_start {CX:CXT} {P:Program} {w:World} {K:PySem.W.Frag} {mg:Str→Option Value} {base:Heap} {N ps:List Str} {qual:Str} {scope:Scope} {f:Addr} {cd:Value} {A:Around} {outer:List Env} {s s1:Shared} {H:Hp} {E:XK} {us:List Value} {vs:List V}
    (S:FnScope N ps scope) (hd:A.handled=none) (e0:Env0 P w K mg base A outer s H) (hl:vs.length=ps.length) (r:Vals vs us)
    (x:InCallC s s.heap.objs.size (bindL (envOfC qual scope s.heap.objs.size f cd).kindOf (ps.zip us) fun _=>none) (cellsFrom (s.heap.objs.size + 1) scope.names []) (bindC (envOfC qual scope s.heap.objs.size f cd).kindOf (ps.zip us) fun _=>none) s1) :
    Inv (cxOf CX P w K mg base N qual scope f cd A outer s H E) [] (start N vs) H s1:=by
  have hpl:ps.length≤N.length:=by have:=congrArg List.length S.pre; rw [List.length_take] at this; omega
  obtain ⟨h1,tk,rfl,hk⟩:=x.done
  have noA:∀ b:Addr,b∉(cxOf CX P w K mg base N qual scope f cd A outer s H E).ex:=fun b z=>absurd (show b∈([]:List Addr) from z) (by simp)
  refine ⟨⟨e0.mod,S.kind,rfl,rfl,Nat.le_refl _,fun y z c h1 h2 => ?_,fun y hy => ?_,fun y c _ h => ?_,fun _=>hd,Around.frames_deeper e0.frames,.inr ⟨rfl,rfl⟩,fun b z=>absurd z (noA b),e0.bs,e0.bsz,fun b _ _=>noA b,fun b z=>absurd z (noA b),e0.funs,e0.frf⟩,
    rfl,e0.bare,Un.kept hk,⟨_,x.toInCall.ns,fun i y v h1 h2 h3 => ?_⟩,fun y c h=>⟨_,x.cell y c h⟩,e0.hok.fresh (Nat.le_refl _),fun y c h => ?_,fun p hp=>absurd (show p∈([]:List (Addr × Obj)) from hp) (by simp),e0.hok.kept hk,?_⟩
  · exact name_of_addr x.apart (PySem.mem_of_lookup h1) (PySem.mem_of_lookup h2)
  · have hy:scope.names.lookup y=some .cell∨scope.names.lookup y=some .free:=hy
    rcases hy with hy | hy
    · exact cell_has hy
    · exact absurd rfl (S.nofree _ (PySem.mem_of_lookup hy))
  · exact Nat.le_of_lt (x.above y c (PySem.mem_of_lookup h))
  · have hi:i < vs.length:=by
      unfold start at h2
      by_cases hi:i < vs.length
      · exact hi
      · rw [List.getElem?_append_right (by simpa using hi)] at h2
        rw [List.getElem?_replicate] at h2
        split at h2 <;> cases h2
    have ha:vs[i]? = some v:=by
      unfold start at h2
      rw [List.getElem?_append_left (by simpa using hi),List.getElem?_map] at h2
      cases e:vs[i]? with
      | none=>rw [e] at h2; cases h2
      | some a=>rw [e] at h2; cases h2; rfl
    obtain ⟨u,hu,rv⟩:=r.get ha
    have hp:ps[i]? = some y:=by
      rw [← S.pre,List.getElem?_take_of_lt (by omega)]; exact h1
    have ndP:ps.Nodup:=by rw [← S.pre]; exact S.nd.sublist (List.take_sublist _ _)
    refine ⟨u,rv,?_⟩
    rcases S.par y (List.mem_of_getElem? hp) with k | k
    · exact .inl ⟨k,bindL_get ndP hp hu k⟩
    · obtain ⟨c,e⟩:=cell_has (n:=s.heap.objs.size + 1) k
      refine .inr ⟨.inl k,c,e,?_⟩
      have q:=x.cell y c e
      rw [bindC_get ndP hp hu (by show scope.names.lookup y≠_; rw [k]; decide)] at q
      exact q
  · exact e0.hok.fresh (Nat.le_of_lt (x.above y c (PySem.mem_of_lookup h)))
  · unfold start
    show _=N.length
    rw [List.length_append,List.length_map,List.length_replicate]
    omega


theorem fn_of {CX:CXT} {P:Program} {w:World} {K:PySem.W.Frag} {mg:Str→Option Value} {base:Heap} {k:Nat} {f:Addr} {name qual:Str} {params:Arguments} {body:List Stmt} {scope:Scope} {dV kV doc pm cdv ct oc:Value} {an od:Option Addr}
    {osl:Array (Option Value)} {N ps:List Str} {sp:Sp} (lk:K.lookup f=some ⟨oc,od,.func (PySem.W.fnOf name qual params body scope dV kV doc pm an cdv ct),osl⟩) (hcd:PySem.W.codeIn K cdv qual=true) (S:FnScope N ps scope)
    (len:∀ vs H Q E,sp vs H Q E→vs.length=ps.length)
    (hbody:∀ (A:Around) (outer:List Env) (s:Shared) (H:Hp) (vs:List V) (Q:VK) (E:XK),Room k (A.deeper (envOfC qual scope s.heap.objs.size f cdv))→sp vs H Q E →
      ∃ t,PSs (cxOf CX P w K mg base N qual scope f cdv A outer s H E) body t∧t { nx:=fun _ H'=>Q .non H',rt:=Q } (start N vs) H) :
    FnOk P w K mg base CX (k + 1) f (PySem.W.fnOf name qual params body scope dV kV doc pm an cdv ct) ps sp:=by
  refine ⟨len,fun A outer s H args us vs Q E hr e0 hb r hsp => ?_⟩
  have hl:=len _ _ _ _ hsp
  have KX:K.In s.heap:=e0.mod.kin.keeps fun b o e=>(e0.bs b o e).1
  have lim:s.heap.NoLimit:=e0.mod.nolimit.keeps fun b o e=>(e0.bs b o e).1
  have hkind:∀ y∈ps.zip us,scope.names.lookup y.1=some .local∨(scope.names.lookup y.1=some .cell∧((cellsFrom (s.heap.objs.size + 1) scope.names []).lookup y.1).isSome=true):=fun ⟨n,v⟩ hy=>by
    rcases S.par n (List.of_mem_zip hy).1 with q | q
    · exact .inl q
    · exact .inr ⟨q,PySem.W.cellsFrom_some _ _ _ (.inl q)⟩
  refine codeAny_call_function hr.depth (KX _ _ lk) rfl S.co S.gen rfl (PySem.W.codeRec_of KX hcd) (hb _ _ _ _ ?_)
  refine wpAny_newFunctionEnv_cells S.kind hkind fun env he s1 x => ?_
  subst he
  refine ⟨lim.keeps x.toInCall.keep,codeAny_func ?_⟩
  obtain ⟨t,ht,hq⟩:=hbody A outer s H vs Q E (hr.deeper _) hsp
  have I:Inv (cxOf CX P w K mg base N qual scope f cdv A outer s H E) [] (start N vs) H s1:=inv_start S hr.hd e0 hl r x
  refine wpAny_mono (ht [] s1 (start N vs) H _ I hq) (fun fl s' hs => ?_) fun e s' hs=>hs
  have fin:∀ {σ':St} {H':Hp} {v:V} {u:Value},Inv (cxOf CX P w K mg base N qual scope f cdv A outer s H E) [] σ' H' s'→RelV v u→Q v H'→CE outer P w H s Q u s' :=
    fun {σ' H' v u} J rv q=>⟨v,H',J.os,J.bare,J.base,J.hok,rv,q⟩
  cases fl with
  | ret u =>
    obtain ⟨v,σ',H',J,rv,q⟩:=hs
    exact fin J rv q
  | next =>
    obtain ⟨σ',H',J,q⟩:=hs
    exact fin (v:=V.non) (u:=Value.none) J rfl q
  | brk =>
    obtain ⟨_,_,_,q⟩:=hs
    exact False.elim q
  | cont =>
    obtain ⟨_,_,_,q⟩:=hs
    exact False.elim q
end L2

namespace L2
open PySem PySem.Spec PyProof.Rows
section
variable {X:Cx} {x:Str} {p pos:Pos} {e:Expr} {es:List Expr} {t:TA} {id T:String} {r:List V→Hp→VK→Prop}

def tCB (r:List V→Hp→VK→Prop) (t:TA):TE:=fun σ H Q=>t σ H fun vs H1=>r vs H1 Q

theorem pe_callB (hc:CallR X (.builtin id) r) (hg:Gl X x) (hm:X.mg x=none) (hv:bootBuiltins x=some (.builtin id)) (ha:PA X (e::es) t) (hn:x ≠ "__name__" := by decide) (hdb:(x == ("__debug__" : Str))=false:=by decide)
    (he:starEach (e::es) X.env=(false,eval e X.env)::starEach es X.env:=by rfl) (hpl:(backTo pos (starEach es X.env)).any (·.1)=false:=by rfl):PE X (.Call (.Name x p) (e::es) [] pos) (tCB r t):=by
  intro pins s σ H Q I h
  refine wpAny_Call_Name_kw (ld_blt I hg hm hv ?_ hn hdb)
  exact PyProof.Rows.callWith_builtin1 (thn (ha pos pins s σ H _ I h) fun us s1 ⟨vs,H1,I1,r1,q1⟩=>hc pins s1 σ H1 vs us Q I1 r1 q1) he hpl

theorem pe_callTy (hc:CallR X (.type T) r) (hg:Gl X x) (hm:X.mg x=none) (hv:bootBuiltins x=some (.type T)) (ha:PA X (e::es) t) (hn:x ≠ "__name__" := by decide) (hdb:(x == ("__debug__" : Str))=false:=by decide)
    (he:starEach (e::es) X.env=(false,eval e X.env)::starEach es X.env:=by rfl) (hpl:(backTo pos (starEach es X.env)).any (·.1)=false:=by rfl):PE X (.Call (.Name x p) (e::es) [] pos) (tCB r t):=by
  intro pins s σ H Q I h
  refine wpAny_Call_Name_kw (ld_blt I hg hm hv ?_ hn hdb)
  exact PyProof.Rows.callWith_type1 (thn (ha pos pins s σ H _ I h) fun us s1 ⟨vs,H1,I1,r1,q1⟩=>hc pins s1 σ H1 vs us Q I1 r1 q1) he hpl

end
end L2

namespace HT
open PySem PyProof.Rows


section
open PySem.SeqAt
open PySem.AutoSeq1 (wpAny_loadPart')
open PySem.MeetsSeq PySem.MeetsSeq2 PySem.MeetsSeq3

end

section
variable {prog:Program} {w:World} {A:Around} {E:Value→Shared→Prop} {s:Shared}

def sIx (n d:Nat):Option Int→Nat
  | none=>d
  | some v=>if v < 0 then (v + (n:Int)).toNat else min v.toNat n
end
end HT

namespace L2
open PySem PySem.Spec PyProof.Rows


abbrev TO:=St→Hp→(Option Int→Hp→Prop)→Prop

def PO (X:Cx) (e:Option Expr) (t:TO):Prop :=
  ∀ (pins:List (Addr × Obj)) (s:Shared) (σ:St) (H:Hp) (Q:Option Int→Hp→Prop),Inv X pins σ H s→t σ H Q →
    wpAny (model X.prog X.w) X.A (evalPart e X.env) (fun u s'=>∃ o H',Inv X pins σ H' s'∧IsPart u o∧Q o H') X.xe s
def tNoPart:TO:=fun _ H Q=>Q none H
def tPart (t:TE):TO:=fun σ H Q=>t σ H fun x H1=>∃ i,x=.int i∧Q (some i) H1

section
variable {X:Cx} {e:Expr} {te:TE} {lo hi:Option Expr} {tl th:TO} {pos p2:Pos}

theorem po_none:PO X none tNoPart:=by
  intro pins s σ H Q I h
  rw [evalPart_none]
  exact wpAny_pure ⟨none,H,I,.none,h⟩
theorem po_some (h:PE X e te):PO X (some e) (tPart te):=by
  intro pins s σ H Q I hw
  rw [evalPart_some]
  refine thn (h pins s σ H _ I hw) fun u s1 ⟨x,H1,I1,r1,q1⟩ => ?_
  obtain ⟨i,rfl,q⟩:=q1
  obtain ⟨t,rfl⟩:=r1
  exact ⟨some i,H1,I1,.int i t,q⟩


def SlR (X:Cx) (r:V→Option Int→Option Int→Hp→VK→Prop):Prop :=
  ∀ (pins:List (Addr × Obj)) (s:Shared) (σ:St) (H:Hp) (x:V) (v vl vu:Value) (lo hi:Option Int) (sl:Addr) (Q:VK),Inv X pins σ H s→RelV x v→s.heap.IsSliceOf sl vl vu .none→IsPart vl lo→IsPart vu hi→r x lo hi H Q →
    ∃ T id,typeLookup (.type T) "__getitem__" = pure (some (.builtin id))∧s.TypeIs v T∧wpAny (model X.prog X.w) X.A (getItem v (.ref sl)) (EP X pins σ Q) X.xe s
def tSl (r:V→Option Int→Option Int→Hp→VK→Prop) (te:TE) (tl th:TO):TE:=fun σ H Q=>te σ H fun x H1=>tl σ H1 fun l H2=>th σ H2 fun u H3=>r x l u H3 Q

theorem pe_slice {r:V→Option Int→Option Int→Hp→VK→Prop} (hr:SlR X r) (he:PE X e te) (hl:PO X lo tl) (hu:PO X hi th):PE X (.Subscript e (.Slice lo hi none p2) pos) (tSl r te tl th):=by
  intro pins s σ H Q I h
  refine Subscript_ (thn (he pins s σ H _ I h) fun v s1 ⟨x,H1,I1,r1,q1⟩ => ?_)
  refine wpAny_Slice (thn (hl pins s1 σ H1 _ I1 q1) fun vl s2 ⟨l,H2,I2,pl,q2⟩=>thn (hu pins s2 σ H2 _ I2 q2) fun vu s3 ⟨u,H3,I3,pu,q3⟩ => ?_)
  rw [evalPart_none]
  refine wpAny_pure ?_
  have I4:Inv X pins σ H3 { s3 with heap:=s3.heap.push { cls:=.type "slice",data:=.fields #[vl,vu,.none] } }:=I3.kept (t':=s3.toks) fun b ob q=>Heap.get?_push_of_some _ q
  obtain ⟨T,id,hT,ht,hg⟩:=hr pins { s3 with heap:=s3.heap.push { cls:=.type "slice",data:=.fields #[vl,vu,.none] } } σ H3 x v vl vu l u s3.heap.objs.size Q I4 r1 (Heap.IsSliceOf.new ..) pl pu q3
  show wpAny (model X.prog X.w) X.A (subscriptTail e (.Slice lo hi none p2) v (.ref s3.heap.objs.size)) (EP X pins σ Q) X.xe { s3 with heap:=s3.heap.push { cls:=.type "slice",data:=.fields #[vl,vu,.none] } }
  exact tail_any (ops:=[.ref s3.heap.objs.size,v]) ht hT hg (by with_unfolding_all rfl)


def cutV (xs:List V) (lo hi:Option Int):List V:=(xs.drop (HT.sIx xs.length 0 lo)).take (HT.sIx xs.length xs.length hi - HT.sIx xs.length 0 lo)
theorem cutV_length (xs:List V) (lo hi:Option Int):(cutV xs lo hi).length≤xs.length:=by
  unfold cutV
  rw [List.length_take,List.length_drop]
  omega

end
end L2

namespace L2
open PySem PySem.Spec PyProof.Rows



def ixN (n:Nat) (i:Int):Option Nat:=if 0≤i then (if i < n then some i.toNat else none) else if -(n:Int)≤i then some (i + n).toNat else none
def atI {α:Type} (xs:List α) (i:Int):Option α:=(ixN xs.length i).bind fun j=>xs[j]?
theorem ixN_seq {n:Nat} {i:Int} {j:Nat} (h:ixN n i=some j):seqIndex? i n=some j∧j < n∧-(n:Int)≤i∧i < n:=by
  unfold ixN at h
  by_cases h0:0≤i
  · rw [if_pos h0] at h
    by_cases h1:i < n
    · rw [if_pos h1] at h
      have e:i.toNat=j:=Option.some.inj h
      exact ⟨by rw [seqIndex_of h0 h1,e],by omega,by omega,h1⟩
    · rw [if_neg h1] at h; cases h
  · rw [if_neg h0] at h
    by_cases h1:-(n:Int)≤i
    · rw [if_pos h1] at h
      have e:(i + n).toNat=j:=Option.some.inj h
      exact ⟨by rw [seqIndex_neg (by omega) h1,e],by omega,h1,by omega⟩
    · rw [if_neg h1] at h; cases h
theorem atI_get {α:Type} {xs:List α} {i:Int} {v:α} (h:atI xs i=some v):∃ j,seqIndex? i xs.length=some j∧xs[j]? = some v∧j < xs.length∧-(xs.length:Int)≤i∧i < xs.length:=by
  unfold atI at h
  cases e:ixN xs.length i with
  | none=>rw [e] at h; cases h
  | some j =>
    rw [e] at h
    obtain ⟨h1,h2,h3,h4⟩:=ixN_seq e
    exact ⟨j,h1,h,h2,h3,h4⟩
theorem atI_nat {α:Type} {xs:List α} {j:Nat} {v:α} (h:xs[j]? = some v):atI xs (j:Int)=some v:=by
  have hj:j < xs.length:=(List.getElem?_eq_some_iff.mp h).1
  have e:ixN xs.length (j:Int)=some j:=by
    unfold ixN
    rw [if_pos (by omega),if_pos (by omega)]; simp
  unfold atI; rw [e]; exact h
def PlainIx (b:Expr):Prop:=∀ o i,subscripted b false o i=operate [o,i] (getItem o i)

def IxR (X:Cx) (r:R2):Prop :=
  ∀ (value slice:Expr) (pins:List (Addr × Obj)) (s:Shared) (σ:St) (H:Hp) (x y:V) (v u:Value) (Q:VK),Inv X pins σ H s→RelV x v→RelV y u→r x y H Q →
    subscripted slice false v u=operate [v,u] (getItem v u)→wpAny (model X.prog X.w) X.A (subscriptTail value slice v u) (EP X pins σ Q) X.xe s

def MtR (X:Cx) (id:String) (r:V→List V→Hp→VK→Prop):Prop :=
  ∀ (pins:List (Addr × Obj)) (s:Shared) (σ:St) (H:Hp) (x:V) (xs:List V) (v:Value) (us:List Value) (Q:VK),Inv X pins σ H s→RelV x v→Vals xs us→r x xs H Q →
    wpAny (model X.prog X.w) X.A (call (.builtin id) (v::us)) (EP X pins σ Q) X.xe s
section
variable {X:Cx} {a b:Expr} {ta tb:TE} {pos:Pos}
theorem pe_ix {r:R2} (hr:IxR X r) (ha:PE X a ta) (hb:PE X b tb) (hs:PlainIx b):PE X (.Subscript a b pos) (tOp r ta tb):=by
  intro pins s σ H Q I h
  exact Subscript_ (binT ha hb I h fun v u s2 x y H2 I2 rx ry q=>hr a b pins s2 σ H2 x y v u Q I2 rx ry q (hs _ _))

def rIxL (K:PySem.W.Frag):R2:=fun x y H Q=>∃ p xs i v,x=.ref p∧y=.int i∧SqL K H p xs∧atI xs i=some v∧Q v H
def rIxT (K:PySem.W.Frag):R2:=fun x y H Q=>∃ p xs i v,x=.ref p∧y=.int i∧SqT K H p xs∧atI xs i=some v∧Q v H
def rIxS:R2:=fun x y H Q=>∃ z i c,x=.str z∧y=.int i∧z.length≤sizeLine∧atI z.cps.toList i=some c∧Q (.str ⟨#[c]⟩) H
theorem ix_list:IxR X (rIxL X.K):=by
  intro value slice pins s σ H x y v u Q I rx ry h hs
  obtain ⟨p,xs,i,z,rfl,rfl,hq,he,q⟩:=h
  cases rx
  obtain ⟨t,rfl⟩:=ry
  obtain ⟨its,r,pl,hz⟩:=I.list hq
  obtain ⟨j,h1,h2,h3,h4,h5⟩:=atI_get he
  obtain ⟨w,ew,rw'⟩:=r.get h2
  have hl:=r.length
  have hn:=line63
  have fin:EP X pins σ Q w s:=⟨z,H,I,rw',q⟩
  by_cases h0:0≤i
  · have hj:i.toNat=j:=by
      rw [seqIndex_of h0 h5] at h1
      exact Option.some.inj h1
    exact item_listR pl.isList h0 (by omega) (by rw [hj]; simpa using ew) fin hs
  · have hj:(i + (its.toArray.size:Int)).toNat=j:=by
      rw [seqIndex_neg (by omega) h4] at h1
      rw [List.size_toArray,← hl]
      exact Option.some.inj h1
    exact subscriptTail_builtinR (x:=w) pl.isList.typeIs slot_list_getitem.lookup
      (wpAny_getItem_list_neg (Q:=fun r s'=>r=w∧EP X pins σ Q r s') pl.isList (by omega) (by rw [List.size_toArray] <;> omega) (by omega) (by rw [hj]; simpa using ew) ⟨rfl,fin⟩) hs
theorem ix_tup:IxR X (rIxT X.K):=by
  intro value slice pins s σ H x y v u Q I rx ry h hs
  obtain ⟨p,xs,i,z,rfl,rfl,hq,he,q⟩:=h
  cases rx
  obtain ⟨t,rfl⟩:=ry
  obtain ⟨its,r,pl,hz⟩:=I.tuple hq
  obtain ⟨j,h1,h2,h3,h4,h5⟩:=atI_get he
  obtain ⟨w,ew,rw'⟩:=r.get h2
  have hl:=r.length
  have hn:=line63
  have fin:EP X pins σ Q w s:=⟨z,H,I,rw',q⟩
  exact subscriptTail_builtinR (x:=w) pl.typeIs slot_tuple_getitem.lookup
    (getItem_tuple (j:=j) (Q:=fun r s'=>r=w∧EP X pins σ Q r s') pl (by omega) (by omega) (by rw [List.size_toArray,← hl]; exact h1) (by simpa using ew) ⟨rfl,fin⟩) hs
theorem ix_str:IxR X rIxS:=by
  intro value slice pins s σ H x y v u Q I rx ry h hs
  obtain ⟨z,i,c,rfl,rfl,hz,he,q⟩:=h
  obtain ⟨t,rfl⟩:=rx
  obtain ⟨t',rfl⟩:=ry
  obtain ⟨j,h1,h2,h3,h4,h5⟩:=atI_get he
  have hl:z.cps.toList.length=z.length:=by simp [Str.length]
  rw [hl] at h1 h4 h5
  have hn:=line63
  exact tail_any (typeIs_str s z t) slot_str_getitem.lookup (getItem_str (c:=c) (by
    have e1:decide (i < -(2 ^ 63:Int))=false:=decide_eq_false (by omega)
    have e2:decide (i ≥ 2 ^ 63)=false:=decide_eq_false (by omega)
    rw [e1,e2,Bool.or_false]) (by rw [h1]; simpa using h2) ⟨.str ⟨#[c]⟩,H,I.tok _,⟨_,rfl⟩,q⟩) hs

theorem mapSeq_set (its:List Value) (n j:Nat) (u:Value):Obj.mapSeq (·.setIfInBounds j u) { cls:=.type "list",data:=.seq its.toArray n }={ cls:=.type "list",data:=.seq (its.set j u).toArray n }:=by
  simp [Obj.mapSeq]
theorem Inv.lst {pins:List (Addr × Obj)} {σ:St} {H:Hp} {s:Shared} {p:Addr} {xs:List V} (I:Inv X pins σ H s) (h:H p=some (.lst xs)) :
    ∃ (its:List Value) (n:Nat),Vals xs its∧s.heap.get? p=some { cls:=.type "list",data:=.seq its.toArray n }∧xs.length≤sizeLine:=by
  obtain ⟨z,its,n,r,e⟩:=I.hok p _ h
  exact ⟨its,n,r,e,z⟩

theorem Inv.lstUpd {pins:List (Addr × Obj)} {σ:St} {H:Hp} {s:Shared} {p:Addr} {xs ys:List V} {its its':List Value} {n n':Nat} {f:Obj→Obj} (I:Inv X pins σ H s) (h:H p=some (.lst xs))
    (ho:s.heap.get? p=some { cls:=.type "list",data:=.seq its.toArray n }) (hf:f { cls:=.type "list",data:=.seq its.toArray n }={ cls:=.type "list",data:=.seq its'.toArray n' }) (r:Vals ys its') (hz:ys.length≤sizeLine) (t:Nat) :
    Inv X pins σ (upd H p (.lst ys)) { s with heap:=s.heap.update p f,toks:=t }:=by
  have e:(s.heap.update p f).get? p=some { cls:=.type "list",data:=.seq its'.toArray n' }:=by
    rw [Heap.get?_update_self f ho (by rw [hf] <;> rfl),hf]
  refine I.write (x:=p) (e:=p) (by rw [h]; trivial) (.inl rfl) (fun b u hb q=>(Heap.get?_update_other _ _ (Ne.symm hb)).trans q) ⟨_,e⟩ ?_
  exact ⟨hz,its',n',r,e⟩
def rSetL:V→V→V→Hp→(Hp→Prop)→Prop:=fun o i v H Q=>∃ p xs k j,o=.ref p∧i=.int k∧H p=some (.lst xs)∧ixN xs.length k=some j∧Q (upd H p (.lst (xs.set j v)))
theorem set_list:PSet X rSetL:=by
  intro pins s σ H o i v ov iv u Q I ro ri rv h
  obtain ⟨p,xs,k,j,rfl,rfl,hp,hj,q⟩:=h
  cases ro
  obtain ⟨t,rfl⟩:=ri
  obtain ⟨its,n,r,ho,hz⟩:=I.lst hp
  obtain ⟨h1,h2,h3,h4⟩:=ixN_seq hj
  have hl:=r.length
  have hn:=line63
  have I':Inv X pins σ (upd H p (.lst (xs.set j v))) { s with heap:=s.heap.update p (Obj.mapSeq (·.setIfInBounds j u)) } :=
    I.lstUpd hp ho (mapSeq_set its n j u) (r.set rv j) (by rw [List.length_set]; exact hz) s.toks
  by_cases h0:0≤k
  · have hk:k.toNat=j:=by
      rw [seqIndex_of h0 h4] at h1
      exact Option.some.inj h1
    exact PySem.W.ki_setAt ho h0 (by omega) (by rw [List.size_toArray,← hl]; exact h4) (by rw [hk]; exact ⟨_,I',q⟩)
  · have hk:(k + (its.toArray.size:Int)).toNat=j:=by
      rw [seqIndex_neg (by omega) h3] at h1
      rw [List.size_toArray,← hl]
      exact Option.some.inj h1
    exact PySem.W.ki_setBack ho (by omega) (by rw [List.size_toArray,← hl]; exact h3) (by omega) (by rw [hk]; exact ⟨_,I',q⟩)


theorem slice_bounds (lo hi:Option Int) (n:Nat):(sliceBounds lo hi none n).1=((HT.sIx n 0 lo:Nat):Int)∧(sliceBounds lo hi none n).2.1=((HT.sIx n n hi:Nat):Int)∧(sliceBounds lo hi none n).2.2=1:=by
  refine ⟨?_,?_,rfl⟩
  · cases lo with
    | none=>simp [sliceBounds,HT.sIx]
    | some i =>
      simp only [sliceBounds,HT.sIx,Option.getD_none,show (1:Int) > 0 by decide,if_true]
      by_cases h:i < 0
      · simp only [h,if_true] <;> omega
      · simp only [h,if_false] <;> omega
  · cases hi with
    | none=>simp [sliceBounds,HT.sIx]
    | some i =>
      simp only [sliceBounds,HT.sIx,Option.getD_none,show (1:Int) > 0 by decide,if_true]
      by_cases h:i < 0
      · simp only [h,if_true] <;> omega
      · simp only [h,if_false] <;> omega
theorem slicePick_cut (its:List Value) (lo hi:Option Int):slicePick its.toArray lo hi none=((its.drop (HT.sIx its.length 0 lo)).take (HT.sIx its.length its.length hi - HT.sIx its.length 0 lo)).toArray:=by
  obtain ⟨h1,h2,h3⟩:=slice_bounds lo hi its.toArray.size
  unfold slicePick
  rw [h1,h2,h3]
  simp only [sliceRange_one,pick_run,List.size_toArray] <;> rfl

def rSlL (K:PySem.W.Frag):V→Option Int→Option Int→Hp→VK→Prop:=fun x lo hi H Q=>∃ a xs,x=.ref a∧SqL K H a xs∧∀ p,H p=none→Q (.ref p) (upd H p (.lst (cutV xs lo hi)))
theorem sl_list:SlR X (rSlL X.K):=by
  intro pins s σ H x v vl vu lo hi sl Q I rx hs pl pu h
  obtain ⟨a,xs,rfl,hx,q⟩:=h
  cases rx
  obtain ⟨its,r,ht,hz⟩:=I.list hx
  have hlen:=r.length
  refine ⟨"list",_,slot_list_getitem.lookup,ht.isList.typeIs,?_⟩
  refine wpAny_getItem_list_slice ht.isList hs pl pu .none (by simp) ?_ (by rw [List.size_toArray] <;> omega)
  rw [slicePick_cut,← hlen]
  refine ⟨.ref s.heap.objs.size,_,I.laid (t':=s.toks) (o:=.lst (cutV xs lo hi)) (fun b ob q=>Heap.get?_push_of_some _ q) (Nat.le_refl _) ?_,rfl,q _ (I.hok.fresh (Nat.le_refl _))⟩
  exact ⟨Nat.le_trans (cutV_length xs lo hi) hz,_,0,(r.drop (HT.sIx xs.length 0 lo)).take (HT.sIx xs.length xs.length hi - HT.sIx xs.length 0 lo),Heap.get?_push_size _ rfl⟩


def flatV:V→Bool
  | .non=>true
  | .bl _=>true
  | .int _=>true
  | .str _=>true
  | _=>false

def eqV:V→V→Bool
  | .non,.non=>true
  | .bl a,.bl b=>a == b
  | .bl a,.int b=>(if a then 1 else 0) == b
  | .int a,.bl b=>a == (if b then 1 else 0)
  | .int a,.int b=>a == b
  | .str a,.str b=>a == b
  | _,_=>false
theorem eqAt_V {A:Around} {s:Shared} {y x:V} {u v:Value} (ry:RelV y u) (rx:RelV x v) (fy:flatV y=true) (fx:flatV x=true):SeqAt.EqAt A s u v (eqV y x):=by
  cases y with
  | non =>
    cases ry
    cases x with
    | non=>cases rx; exact SeqAt.EqAt.same _
    | bl b=>cases rx; exact SeqAt.EqAt.none_bool b
    | int b=>obtain ⟨t,rfl⟩:=rx; exact SeqAt.EqAt.none_int b t
    | str b=>obtain ⟨t,rfl⟩:=rx; exact SeqAt.EqAt.none_str b t
    | _=>exact absurd (show false=true from fx) Bool.false_ne_true
  | bl a =>
    cases ry
    cases x with
    | non=>cases rx; exact SeqAt.EqAt.bool_none a
    | bl b=>cases rx; exact SeqAt.EqAt.bool_bool a b
    | int b=>obtain ⟨t,rfl⟩:=rx; exact SeqAt.EqAt.bool_int a b t
    | str b=>obtain ⟨t,rfl⟩:=rx; exact SeqAt.EqAt.bool_str a b t
    | _=>exact absurd (show false=true from fx) Bool.false_ne_true
  | int a =>
    obtain ⟨t',rfl⟩:=ry
    cases x with
    | non=>cases rx; exact SeqAt.EqAt.int_none a t'
    | bl b=>cases rx; exact SeqAt.EqAt.int_bool a t' b
    | int b=>obtain ⟨t,rfl⟩:=rx; exact SeqAt.EqAt.int_int a t' b t
    | str b=>obtain ⟨t,rfl⟩:=rx; exact SeqAt.EqAt.int_str a t' b t
    | _=>exact absurd (show false=true from fx) Bool.false_ne_true
  | str a =>
    obtain ⟨t',rfl⟩:=ry
    cases x with
    | non=>cases rx; exact SeqAt.EqAt.str_none a t'
    | bl b=>cases rx; exact SeqAt.EqAt.str_bool a t' b
    | int b=>obtain ⟨t,rfl⟩:=rx; exact SeqAt.EqAt.str_int a t' b t
    | str b=>obtain ⟨t,rfl⟩:=rx; exact SeqAt.EqAt.str_str a t' b t
    | _=>exact absurd (show false=true from fx) Bool.false_ne_true
  | _=>exact absurd (show false=true from fy) Bool.false_ne_true

def eqU (x:V) (u:Value):Bool:=match u with
  | .none=>eqV .non x
  | .bool b=>eqV (.bl b) x
  | .int i _=>eqV (.int i) x
  | .str z _=>eqV (.str z) x
  | _=>false
theorem eqU_of {x y:V} {u:Value} (r:RelV y u) (f:flatV y=true):eqU x u=eqV y x:=by
  cases y with
  | non=>cases r; rfl
  | bl b=>cases r; rfl
  | int i=>obtain ⟨t,rfl⟩:=r; rfl
  | str z=>obtain ⟨t,rfl⟩:=r; rfl
  | _=>exact absurd (show false=true from f) Bool.false_ne_true
theorem any_eqU {x:V}:∀ {xs:List V} {us:List Value},Vals xs us→xs.all flatV=true→us.any (eqU x)=xs.any fun y=>eqV y x
  | _,_,.nil,_=>rfl
  | y::xs,u::us,.cons r t,f=>by
    rw [List.all_cons,Bool.and_eq_true] at f
    rw [List.any_cons,List.any_cons,eqU_of r f.1,any_eqU t f.2]
theorem mem_eqAt {A:Around} {s:Shared} {x:V} {v:Value} (rx:RelV x v) (fx:flatV x=true):∀ {xs:List V} {us:List Value},Vals xs us→xs.all flatV=true→∀ u∈us,SeqAt.EqAt A s u v (eqU x u)
  | _,_,.nil,_=>fun u hu=>by cases hu
  | y::xs,u::us,.cons r t,f=>fun u' hu=>by
    rw [List.all_cons,Bool.and_eq_true] at f
    rcases List.mem_cons.mp hu with rfl | hu
    · rw [eqU_of r f.1]; exact eqAt_V r rx f.1 fx
    · exact mem_eqAt rx fx t f.2 u' hu
def inV (x:V) (xs:List V):Bool:=xs.any fun y=>eqV y x

def rIn (K:PySem.W.Frag) (neg:Bool):R2:=fun x y H Q=>∃ p xs,y=.ref p∧(SqL K H p xs∨SqT K H p xs)∧flatV x=true∧xs.all flatV=true∧Q (.bl (if neg then !inV x xs else inV x xs)) H
theorem op_notIn_seq:OpR X (compareOp .NotIn) (rIn X.K true):=by
  intro pins s σ H x y v u Q I rx ry h
  obtain ⟨p,xs,rfl,hq,fx,fs,q⟩:=h
  cases ry
  rcases hq with hq | hq
  · obtain ⟨its,r,pl,hz⟩:=I.list hq
    refine SeqAt.notIn_listAt (eqU x) pl.isList (fun w hw=>mem_eqAt rx fx r fs w (by simpa using hw)) ⟨.bl _,H,I,rfl,?_⟩
    rw [show its.toArray.any (eqU x)=its.any (eqU x) by simp,any_eqU r fs]
    exact q
  · obtain ⟨its,r,pl,hz⟩:=I.tuple hq
    refine SeqAt.notIn_tupleAt (eqU x) pl (fun w hw=>mem_eqAt rx fx r fs w (by simpa using hw)) ⟨.bl _,H,I,rfl,?_⟩
    rw [show its.toArray.any (eqU x)=its.any (eqU x) by simp,any_eqU r fs]
    exact q
theorem call_list_of:CallR X (.type "list") (fun xs H Q=>∃ p ys,xs=[.ref p]∧(SqL X.K H p ys∨SqT X.K H p ys)∧∀ l,H l=none→Q (.ref l) (upd H l (.lst ys))):=by
  intro pins s σ H xs us Q I r h
  obtain ⟨p,ys,rfl,hq,q⟩:=h
  obtain ⟨u,rfl,rx⟩:=vals1 r
  cases rx
  have fin:∀ (its:List Value),Vals ys its→ys.length≤sizeLine→∀ (h':Heap) (c':Nat),(∀ b o',s.heap.get? b=some o'→h'.get? b=some o') →
      h'.get? s.heap.objs.size=some { cls:=.type "list",dict:=none,data:=.seq its.toArray c',slots := #[] }→EP X pins σ Q (.ref s.heap.objs.size) { s with heap:=h' }:=fun its r' hz h' c' kp e =>
    ⟨.ref s.heap.objs.size,_,I.laid (t':=s.toks) kp (Nat.le_refl _) (show ObjOk X.prog X.w _ h' _ (.lst ys) from ⟨hz,its,c',r',e⟩),rfl,q _ (I.hok.fresh (Nat.le_refl _))⟩
  rcases hq with hq | hq
  · obtain ⟨its,r',pl,hz⟩:=I.list hq
    have hlen:=r'.length
    obtain ⟨o,ho,hc,n,hd⟩:=pl.isList
    exact call_list_seq p (.inl rfl) ho hc hd (fun h' c' kp e=>fin its r' hz h' c' kp e) (by simp only [List.size_toArray] <;> omega)
  · obtain ⟨its,r',pl,hz⟩:=I.tuple hq
    have hlen:=r'.length
    obtain ⟨o,ho,hc,n,hd⟩:=pl
    exact call_list_seq p (.inr rfl) ho hc hd (fun h' c' kp e=>fin its r' hz h' c' kp e) (by simp only [List.size_toArray] <;> omega)
theorem call_tuple_of:CallR X (.type "tuple") (fun xs H Q=>∃ p ys,xs=[.ref p]∧((SqL X.K H p ys∧∀ l,H l=none→Q (.ref l) (upd H l (.tup ys)))∨(SqT X.K H p ys∧Q (.ref p) H))):=by
  intro pins s σ H xs us Q I r h
  obtain ⟨p,ys,rfl,h⟩:=h
  obtain ⟨u,rfl,rx⟩:=vals1 r
  cases rx
  rcases h with ⟨hq,q⟩ | ⟨hq,q⟩
  · obtain ⟨its,r',pl,hz⟩:=I.list hq
    have hlen:=r'.length
    refine call_tuple_list pl.isList (fun h' kp => ?_) (by simp only [List.size_toArray] <;> omega)
    have I1:Inv X pins σ H { s with heap:=h' }:=I.kept (t':=s.toks) kp
    have I2:Inv X pins σ (upd H h'.objs.size (.tup ys)) { s with heap:=h'.push { cls:=.type "tuple",data:=.seq its.toArray } } :=
      I1.laid (t':=s.toks) (fun b o e=>Heap.get?_push_of_some _ e) (Nat.le_refl _) (show ObjOk X.prog X.w _ _ _ (.tup ys) from ⟨hz,its,r',IsTup.new _ _⟩)
    exact ⟨.ref h'.objs.size,_,I2,rfl,q _ (I1.hok.fresh (Nat.le_refl _))⟩
  · obtain ⟨its,r',pl,hz⟩:=I.tuple hq
    exact call_tuple_same pl ⟨.ref p,H,I,rfl,q⟩



def tyV (K:PySem.W.Frag) (T:String) (x:V) (H:Hp):Prop:=match x with
  | .str _=>T = "str"
  | .int _=>T = "int"
  | .ref p=>(T = "list" ∧ ∃ xs,SqL K H p xs)∨(T = "tuple" ∧ ∃ o,K.lookup p=some o∧o.cls=.type "tuple" ∧ o.dict=none) ∨
      (T = "dict" ∧ ((∃ kvs,H p=some (.dK kvs))∨∃ kvs,H p=some (.dT kvs)))∨(T = "set" ∧ ∃ S n,H p=some (.set S n))
  | _=>False
theorem tyV_is {pins:List (Addr × Obj)} {σ:St} {H:Hp} {s:Shared} {T:String} {x:V} {v:Value} (I:Inv X pins σ H s) (r:RelV x v) (ty:tyV X.K T x H) :
    s.TypeIs v T∧∀ a,v=.ref a→∃ ob,s.heap.get? a=some ob∧ob.dict=none:=by
  cases x with
  | str z =>
    obtain ⟨t,rfl⟩:=r
    cases (show T = "str" from ty)
    exact ⟨typeIs_str s z t,fun _ e=>nomatch e⟩
  | int i =>
    obtain ⟨t,rfl⟩:=r
    cases (show T = "int" from ty)
    exact ⟨typeIs_int s i t,fun _ e=>nomatch e⟩
  | ref p =>
    cases r
    rcases ty with ⟨rfl,xs,hq⟩ | ⟨rfl,o,hk,hc,hd⟩ | ⟨rfl,hk⟩ | ⟨rfl,S,n,hk⟩
    · obtain ⟨its,_,pl,_⟩:=I.list hq
      refine ⟨pl.isList.typeIs,fun a e => ?_⟩
      cases e
      obtain ⟨o,n,e,c,hd,_⟩:=pl
      exact ⟨o,e,hd⟩
    · refine ⟨⟨o,I.kIn p o hk,hc⟩,fun a e => ?_⟩
      cases e
      exact ⟨o,I.kIn _ o hk,hd⟩
    · have z:∃ o,s.heap.get? p=some o∧o.ExactDict:=by
        rcases hk with ⟨kvs,hk⟩ | ⟨kvs,hk⟩
        · obtain ⟨_,_,_,_,o,_,_,e,ex,_⟩:=I.hok p _ hk
          exact ⟨o,e,ex⟩
        · obtain ⟨_,_,_,_,o,_,_,e,ex,_⟩:=I.hok p _ hk
          exact ⟨o,e,ex⟩
      obtain ⟨o,e,ex⟩:=z
      refine ⟨⟨o,e,ex.1⟩,fun a e2 => ?_⟩
      cases e2
      exact ⟨o,e,ex.2.1⟩
    · obtain ⟨o,_,_,_,e,ex,_⟩:=I.hok p _ hk
      refine ⟨⟨o,e,ex.1⟩,fun a e2 => ?_⟩
      cases e2
      exact ⟨o,e,ex.2.1⟩
  | _=>exact False.elim ty
def tBM0 (K:PySem.W.Frag) (T:String) (r:V→List V→Hp→VK→Prop) (to:TE):TE:=fun σ H Q=>to σ H fun x H1=>tyV K T x H1∧r x [] H1 Q
def tBM (K:PySem.W.Frag) (T:String) (r:V→List V→Hp→VK→Prop) (to:TE) (t:TA):TE:=fun σ H Q=>to σ H fun x H1=>tyV K T x H1∧t σ H1 fun xs H2=>r x xs H2 Q
variable {o e:Expr} {es:List Expr} {to:TE} {t:TA} {name:Str} {apos cpos:Pos} {T id:String} {r:V→List V→Hp→VK→Prop}
theorem pe_bm0 (pa:PlainAttrs T) (slot:Slot T name id) (hty:typeOf (.builtin id)=pure (.type "method_descriptor")) (hm:MtR X id r) (ho:PE X o to)
    (hbase:attributeBase o name X.env (eval o X.env)=eval o X.env:=by rfl) (hline:(apos.endLine == cpos.line)=true:=by rfl):PE X (.Call (.Attribute o name apos) [] [] cpos) (tBM0 X.K T r to):=by
  intro pins s σ H Q I h
  refine wpAny_Call_method0_late hbase hline (thn (ho pins s σ H _ I h) fun v s1 ⟨x,H1,I1,r1,ty,q1⟩ => ?_)
  obtain ⟨h1,h2⟩:=tyV_is I1 r1 ty
  exact ⟨T,id,pa,slot,hty,h1,h2,Calls.callWith_builtin rfl (PySem.evalArgs_none (hm pins s1 σ H1 x [] v [] Q I1 r1 .nil q1))⟩
theorem pe_bm (pa:PlainAttrs T) (slot:Slot T name id) (hty:typeOf (.builtin id)=pure (.type "method_descriptor")) (hm:MtR X id r) (ho:PE X o to) (ha:PA X (e::es) t)
    (hbase:attributeBase o name X.env (eval o X.env)=eval o X.env:=by rfl)
    (hfew:((backTo cpos (starEach (e::es) X.env)).all (fun x => !x.1) && (backToKw cpos (keywordEach [] X.env)).all (fun x=>x.1.isSome)
      && decide ((e::es).length + ([]:List Keyword).length + (if ([]:List Keyword).isEmpty then 0 else 1) < 30))=true:=by rfl)
    (hline:(apos.endLine == cpos.line)=true:=by rfl) (hs:starEach (e::es) X.env=(false,eval e X.env)::starEach es X.env:=by rfl) (hplain:(backTo cpos (starEach es X.env)).any (·.1)=false:=by rfl) :
    PE X (.Call (.Attribute o name apos) (e::es) [] cpos) (tBM X.K T r to t):=by
  intro pins s σ H Q I h
  refine wpAny_Call_method_late hbase hfew hline rfl (thn (ho pins s σ H _ I h) fun v s1 ⟨x,H1,I1,r1,ty,q1⟩ => ?_)
  obtain ⟨h1,h2⟩:=tyV_is I1 r1 ty
  refine ⟨T,id,pa,slot,hty,h1,h2,?_⟩
  have hA:=ha cpos pins s1 σ H1 _ I1 q1
  rw [hs] at hA ⊢
  refine Calls.callWith_builtin (by show (false || (backTo cpos (starEach es X.env)).any (·.1))=false; rw [hplain] <;> rfl) (Calls.evalArgs_plain ?_)
  exact thn hA fun us s2 ⟨vs,H2,I2,r2,q2⟩=>hm pins s2 σ H2 x vs v us Q I2 r1 r2 q2

end
end L2

namespace L2
open PySem PySem.Spec PyProof.Rows

def MtM (X:Cx) (id:String) (r:V→List V→Hp→VK→Prop):Prop :=
  ∀ (pins:List (Addr × Obj)) (s:Shared) (σ:St) (H:Hp) (x:V) (xs:List V) (v:Value) (us:List Value) (Q:VK),Inv X pins σ H s→RelV x v→Vals xs us→r x xs H Q →
    wpAny (model X.prog X.w) X.A (call (.builtin id) (v::us)) (EP X pins σ Q) X.xe s


theorem Vals.one:∀ {x:V} {us:List Value},Vals [x] us→∃ u,us=[u]∧RelV x u
  | _,_,.cons r .nil=>⟨_,rfl,r⟩
theorem Vals.zero:∀ {us:List Value},Vals [] us→us=[]
  | _,.nil=>rfl
theorem Vals.dropLast {xs:List V} {us:List Value} (h:Vals xs us):Vals xs.dropLast us.dropLast:=by
  induction h with
  | nil=>exact .nil
  | cons r t ih =>
    cases t with
    | nil=>exact .nil
    | cons q t'=>exact .cons r ih
theorem Vals.reverse {xs:List V} {us:List Value} (h:Vals xs us):Vals xs.reverse us.reverse:=by
  induction h with
  | nil=>exact .nil
  | cons r t ih=>rw [List.reverse_cons,List.reverse_cons]; exact Vals.append ih (.cons r .nil)
theorem Vals.rep {xs:List V} {us:List Value} (h:Vals xs us):∀ k:Nat,Vals (List.replicate k xs).flatten (List.replicate k us).flatten
  | 0=>.nil
  | k + 1=>by
    rw [List.replicate_succ,List.replicate_succ,List.flatten_cons,List.flatten_cons]
    exact Vals.append h (Vals.rep h k)
theorem erase_last {α:Type} (l:List α):l.eraseIdx (l.length - 1)=l.dropLast:=by
  induction l with
  | nil=>rfl
  | cons a r ih =>
    cases r with
    | nil=>rfl
    | cons b r =>
      have e:(a::b::r).length - 1=((b::r).length - 1) + 1:=by
        have h1:(a::b::r).length=r.length + 2:=rfl
        have h2:(b::r).length=r.length + 1:=rfl
        omega
      rw [e,List.eraseIdx_cons_succ,ih]
      all_goals rfl
theorem foldl_rep (its:List Value):∀ (k:Nat) (acc:List Value),
    List.foldl (fun x1 x2=>x1++x2) acc.toArray (List.replicate k its.toArray)=(acc++(List.replicate k its).flatten).toArray
  | 0,acc=>by simp
  | k + 1,acc=>by
    have e:acc.toArray++its.toArray=(acc++its).toArray:=by simp
    have e2:(acc++its)++(List.replicate k its).flatten=acc++(List.replicate (k + 1) its).flatten:=by
      rw [List.replicate_succ,List.flatten_cons,List.append_assoc]
    rw [← e2,← foldl_rep its k (acc++its),← e,List.replicate_succ,List.foldl_cons]

section
variable {X:Cx} {pins:List (Addr × Obj)} {σ:St} {H:Hp} {s:Shared} {l b:Addr} {xs ys zs:List V}


theorem Inv.lset {its its':List Value} {n:Nat} {f:Array Value→Array Value} {t':Nat} (I:Inv X pins σ H s) (hH:H l=some (.lst xs))
    (e:s.heap.get? l=some { cls:=.type "list",data:=.seq its.toArray n }) (hf:f its.toArray=its'.toArray) (hv:Vals ys its') (hz:ys.length≤sizeLine) :
    Inv X pins σ (upd H l (.lst ys)) { s with heap:=s.heap.update l (Obj.mapSeq f),toks:=t' }:=by
  have q:=PySem.IsL.update e f
  rw [hf] at q
  refine I.write (x:=l) (e:=l) (by rw [hH]; exact trivial) (.inl rfl) (fun b' u hb hu=>(Heap.get?_update_other s.heap (Obj.mapSeq f) (Ne.symm hb)).trans hu) ⟨_,q⟩ ?_
  exact ⟨hz,its',_,hv,q⟩
theorem Inv.lnew {its:List Value} {t':Nat} (I:Inv X pins σ H s) (hv:Vals ys its) (hz:ys.length≤sizeLine) :
    Inv X pins σ (upd H s.heap.objs.size (.lst ys)) { s with heap:=s.heap.push { cls:=.type "list",data:=.seq its.toArray },toks:=t' } :=
  I.laid (fun _ _ q=>Heap.get?_push_of_some _ q) (Nat.le_refl _) ⟨hz,its,0,hv,Heap.get?_push_size _ rfl⟩
theorem Inv.fresh (I:Inv X pins σ H s):H s.heap.objs.size=none:=I.hok.fresh (Nat.le_refl _)
theorem Inv.lstM (I:Inv X pins σ H s) (hH:H l=some (.lst xs)):xs.length≤sizeLine∧∃ (its:List Value) (n:Nat),Vals xs its∧xs.length=its.length∧s.heap.get? l=some { cls:=.type "list",data:=.seq its.toArray n }:=by
  obtain ⟨z,its,n,r,e⟩:=I.hok l _ hH
  exact ⟨z,its,n,r,r.length,e⟩

theorem notLongL {n:Nat} (h:n≤sizeLine):Builtin.List.listTooLong n=false:=by
  unfold Builtin.List.listTooLong
  exact decide_eq_false (by omega)
end

section
variable {X:Cx}


def rAppend:V→List V→Hp→VK→Prop:=fun x vs H Q=>∃ l xs y,x=.ref l∧vs=[y]∧H l=some (.lst xs)∧xs.length < sizeLine∧Q .non (upd H l (.lst (xs++[y])))
theorem mt_append:MtM X "list.append" rAppend:=by
  intro pins s σ H x vs v us Q I rx rv h
  obtain ⟨l,xs,y,rfl,rfl,hH,hz,q⟩:=h
  cases rx
  obtain ⟨u,rfl,ru⟩:=rv.one
  obtain ⟨z,its,n,r,hl,e⟩:=I.lstM hH
  refine call_meets F.slot_list_append ⟨_,e,rfl⟩ F.entry_list_append (F.args_list_append_2 _ _) (PySem.list_append l its.toArray n u (by rw [List.size_toArray]; omega)) ⟨e,?_⟩
  refine ⟨.non,_,I.lset (its':=its++[u]) hH e (by simp) (r.append (.cons ru .nil)) ?_,rfl,q⟩
  rw [List.length_append,List.length_singleton]
  omega

def rExtend:V→List V→Hp→VK→Prop:=fun x vs H Q=>∃ l b xs zs,x=.ref l∧vs=[.ref b]∧H l=some (.lst xs)∧H b=some (.lst zs)∧xs.length + zs.length≤sizeLine∧Q .non (upd H l (.lst (xs++zs)))
theorem mt_extend:MtM X "list.extend" rExtend:=by
  intro pins s σ H x vs v us Q I rx rv h
  obtain ⟨l,b,xs,zs,rfl,rfl,hH,hB,hz,q⟩:=h
  cases rx
  obtain ⟨u,rfl,ru⟩:=rv.one
  cases ru
  obtain ⟨z,its,n,r,hl,e⟩:=I.lstM hH
  obtain ⟨z2,its2,n2,r2,hl2,e2⟩:=I.lstM hB
  have hsz:its.toArray.size + its2.toArray.size≤sizeLine:=by rw [List.size_toArray,List.size_toArray]; omega
  have hlong:¬ (!its.toArray.isEmpty && Builtin.List.listTooLong (its.toArray.size + its2.toArray.size))=true:=by
    rw [notLongL hsz,Bool.and_false]
    exact Bool.false_ne_true
  refine call_meets F.slot_list_extend ⟨_,e,rfl⟩ F.entry_list_extend (F.args_list_extend_2 _ _)
    (AutoSeq1.list_extend_list_list_0 l its.toArray n b its2.toArray n2 hlong (by rw [List.size_toArray]; omega) (by omega)) ⟨e,e2,?_⟩
  refine ⟨.non,_,I.lset (its':=its++its2) hH e (by simp) (r.append r2) ?_,rfl,q⟩
  rw [List.length_append]
  omega

def rPop:V→List V→Hp→VK→Prop:=fun x vs H Q=>∃ l xs y,x=.ref l∧vs=[]∧H l=some (.lst xs)∧xs[xs.length - 1]? = some y∧Q y (upd H l (.lst xs.dropLast))
theorem mt_pop:MtM X "list.pop" rPop:=by
  intro pins s σ H x vs v us Q I rx rv h
  obtain ⟨l,xs,y,rfl,rfl,hH,hy,q⟩:=h
  cases rx
  have hus:=rv.zero
  subst hus
  obtain ⟨z,its,n,r,hl,e⟩:=I.lstM hH
  obtain ⟨u,hu,ru⟩:=r.get hy
  have hy':its.toArray[its.toArray.size - 1]? = some u:=by
    show its.toArray[its.length - 1]? = some u
    rw [← Array.getElem?_toList,← hl]
    exact hu
  refine call_meets F.slot_list_pop ⟨_,e,rfl⟩ F.entry_list_pop (F.args_list_pop_1 _) (MeetsSeq.list_pop_last l its.toArray n u hy' (by rw [List.size_toArray]; omega)) ⟨e,?_⟩
  refine ⟨y,_,I.lset (its':=its.dropLast) hH e ?_ r.dropLast ?_,ru,q⟩
  · show its.toArray.eraseIdxIfInBounds (its.toArray.size - 1)=its.dropLast.toArray
    rw [List.size_toArray,List.eraseIdxIfInBounds_toArray,erase_last]
  · rw [List.length_dropLast]
    omega

def rReverse:V→List V→Hp→VK→Prop:=fun x vs H Q=>∃ l xs,x=.ref l∧vs=[]∧H l=some (.lst xs)∧Q .non (upd H l (.lst xs.reverse))
theorem mt_reverse:MtM X "list.reverse" rReverse:=by
  intro pins s σ H x vs v us Q I rx rv h
  obtain ⟨l,xs,rfl,rfl,hH,q⟩:=h
  cases rx
  have hus:=rv.zero
  subst hus
  obtain ⟨z,its,n,r,hl,e⟩:=I.lstM hH
  refine call_meets F.slot_list_reverse ⟨_,e,rfl⟩ F.entry_list_reverse (F.args_list_reverse_1 _) (AutoSeq1.list_reverse_list_0 l its.toArray n (by rw [List.size_toArray]; omega)) ⟨e,?_⟩
  refine ⟨.non,_,I.lset (its':=its.reverse) hH e (by simp) r.reverse ?_,rfl,q⟩
  rw [List.length_reverse]
  omega

def rCat:R2:=fun x y H Q=>∃ l b xs zs,x=.ref l∧y=.ref b∧H l=some (.lst xs)∧H b=some (.lst zs)∧xs.length + zs.length≤sizeLine∧∀ p,H p=none→Q (.ref p) (upd H p (.lst (xs++zs)))
theorem op_cat:OpR X (binaryOp .Add) rCat:=by
  intro pins s σ H x y v u Q I rx ry h
  obtain ⟨l,b,xs,zs,rfl,rfl,hH,hB,hz,q⟩:=h
  cases rx
  cases ry
  obtain ⟨z,its,n,r,hl,e⟩:=I.lstM hH
  obtain ⟨z2,its2,n2,r2,hl2,e2⟩:=I.lstM hB
  refine PySem.P.add_list e e2 ?_ (by rw [List.size_toArray,List.size_toArray]; omega)
  have ea:its.toArray++its2.toArray=(its++its2).toArray:=by simp
  rw [ea]
  exact ⟨.ref _,_,I.lnew (t':=s.toks) (r.append r2) (by rw [List.length_append]; omega),rfl,q _ I.fresh⟩

def rRep:R2:=fun x y H Q=>∃ l k xs,x=.ref l∧y=.int k∧H l=some (.lst xs)∧-(2 ^ 63)≤k∧k < 2 ^ 63∧xs.length * k.toNat≤sizeLine ∧
  ∀ p,H p=none→Q (.ref p) (upd H p (.lst (List.replicate k.toNat xs).flatten))
theorem len_rep {α:Type} (xs:List α) (k:Nat):(List.replicate k xs).flatten.length=k * xs.length:=by
  induction k with
  | zero=>simp
  | succ k ih=>rw [List.replicate_succ,List.flatten_cons,List.length_append,ih,Nat.succ_mul,Nat.add_comm]
theorem op_rep:OpR X (binaryOp .Mult) rRep:=by
  intro pins s σ H x y v u Q I rx ry h
  obtain ⟨l,k,xs,rfl,rfl,hH,h1,h2,hz,q⟩:=h
  cases rx
  obtain ⟨t,rfl⟩:=ry
  obtain ⟨z,its,n,r,hl,e⟩:=I.lstM hH
  have hlen:its.toArray.size * k.toNat≤sizeLine:=by rw [List.size_toArray,← hl]; exact hz
  have hcap:¬ its.toArray.size * k.toNat > (2 ^ 63 - 1) / 8:=by
    have:(sizeLine:Nat)≤(2 ^ 63 - 1) / 8:=by decide
    omega
  have hfit:¬ (!Builtin.List.listFitsIndex k)=true:=by
    rw [fitsIndex_both h1 h2]
    exact Bool.false_ne_true
  have hlong:¬ Builtin.List.listTooLong (its.toArray.size * k.toNat)=true:=by
    rw [notLongL hlen]
    exact Bool.false_ne_true
  have hnew:List.foldl (fun x1 x2=>x1++x2) #[] (List.replicate (if its.toArray.isEmpty=true then 0 else k.toNat) its.toArray)=(List.replicate k.toNat its).flatten.toArray:=by
    have f0:∀ m:Nat,List.foldl (fun x1 x2=>x1++x2) #[] (List.replicate m its.toArray)=(List.replicate m its).flatten.toArray:=fun m=>by
      have:=foldl_rep its m []
      rw [List.nil_append] at this
      exact this
    rw [f0]
    cases its with
    | nil=>simp
    | cons a r'=>rw [if_neg (by simp)]
  refine wpAny_binaryOp_repeat_ref (T := "list") (U := "int") (by decide) ⟨_,e,rfl⟩ (fun s'=>typeIs_int s' k t) noFill_list_mul F.fills_int_mul F.slot_int_rmul repeat_list F.slot_int_index.lookup
    (call_meets F.slot_int_rmul (typeIs_int s k t) F.entry_int_rmul (F.args_int_rmul_2 _ _) (int___rmul___int_list k t l its.toArray n)
      ⟨e,rfl,⟨_,e,rfl⟩,call_meets F.slot_list_mul ⟨_,e,rfl⟩ F.entry_list_mul (F.args_list_mul_2 _ _) (AutoListH.list___mul___list_int_3 l its.toArray n k t hfit hcap hlong) ⟨e,?_⟩⟩)
  rw [hnew]
  exact ⟨.ref _,_,I.lnew (t':=s.toks) (r.rep k.toNat) (by rw [len_rep,Nat.mul_comm]; exact hz),rfl,q _ I.fresh⟩


end


section
variable {prog:Program} {w:World} {A:Around} {E:Value→Shared→Prop} {s:Shared}
set_option maxRecDepth 100000 in

end

section
variable {X:Cx}

end
end L2

namespace Att
open PySem PySem.W PySem.Calls PyProof.Rows


theorem ints_of_wellAll {P:Params} {h:Heap}:∀ (ns:List Int) (vs:List Value),WellAll P h vs (ns.map WData.int)→IntsAre vs ns:=by
  intro ns
  induction ns with
  | nil =>
    intro vs w
    rw [List.map_nil] at w
    cases w
    exact .nil
  | cons n ns ih =>
    intro vs w
    rw [List.map_cons] at w
    cases w with
    | cons a b =>
      cases a
      exact .cons _ _ (ih _ b)

theorem script_of {l:OpenLaw} {n:Nat} (hn:l.most=some n) {P:Params} {h:Heap} {args:List WData} {vals:List Value}
    (hpre:l.row.toRowW.claim.pre args=true) (hwl:WellAll P h vals args) :
    ∃ a vs ns,vals=[Value.ref a]∧args=[WData.list (ns.map WData.int)]∧h.get? a=some { cls:=.type "list",data:=.seq vs.toArray }∧IntsAre vs ns∧ns.length≤n:=by
  have hsh:WShape.hasAll [] args [.list .int]=true:=(pre_splitW hpre).1
  have hc:l.pre.holds [] { args:=args }=true:=(pre_splitW hpre).2
  obtain ⟨d,r,rfl,h1,h2⟩:=hasAllW_cons hsh
  obtain rfl:=hasAllW_nil h2
  obtain ⟨xs,rfl,h3⟩:=hasW_list h1
  obtain ⟨ns,rfl⟩:=items_int h3
  have hlen:ns.length≤n:=by
    unfold OpenLaw.pre at hc
    have h4:(WTm.not (.lt (.lit (.int (n:Int))) (.len (.arg 0)))).holds [] { args:=[.list (ns.map .int)] }=true:=by
      have h4:=(holds_andW hc).1
      rw [hn] at h4
      exact h4
    have h5:=condW_of h4 (w_not (w_lt w_lit (w_len_list (w_arg rfl))))
    rw [List.length_map] at h5
    refine Nat.le_of_not_lt fun q => ?_
    have q':(n:Int) < ((ns.length:Nat):Int):=by omega
    first
      | (rw [decide_eq_true q'] at h5; exact absurd h5 (by decide))
      | (simp at h5; omega)
  cases hwl with
  | cons w1 w2 =>
    cases w2
    cases w1 with
    | list ho hall=>exact ⟨_,_,ns,rfl,rfl,ho,ints_of_wellAll ns _ hall,hlen⟩

theorem post_true (l:OpenLaw) (args:List WData):l.row.toRowW.claim.post args (.bool true) args=true :=
  postW_of (r:=l.row.toRowW) (X:=(true == true))
    (show WShape.has [] (.bool true) .bool=true by first | rfl | decide | simp [WShape.has,WShape.arms,WShape.armsAll])
    (show (WTm.eq .res (.lit (.bool true))).value [] { args:=args,res:=some (.bool true),after:=args }=some (.bool (true == true)) from w_eq_bool (w_res rfl) w_lit) rfl


theorem attach_call {l:OpenLaw} {n:Nat} {q:Program} {loose:List Str} {XP:(Str→Option Value)→Heap→Prop} {YP:World→Heap→Prop} {d:DefRec}
    (hn:l.most=some n) (hdf:d.params.defaults=[])
    (call:∀ (w:World) (s₀ s₁:Shared) (mg mb:Str→Option Value) (fa:Addr) (o:Obj) (pm cd doc:Value) (a:Addr) (vs:List Value) (ns:List Int),
      Ground q loose [] XP w s₀ mg mb s₁.heap→YP w s₁.heap →
      s₁.heap.get? fa=some o→o.data=.func (docDef d.name d.params d.body d.scope pm cd doc)→s₁.heap.CodeRec cd d.name→mg d.name=some (.ref fa) →
      s₁.heap.get? a=some { cls:=.type "list",data:=.seq vs.toArray }→IntsAre vs ns→ns.length≤n→s₁.gens = #[] →
      codeAny (model l.prog w) callerA (.call (.ref fa) ⟨[.ref a],[]⟩) (fun r s'=>r=.ok (.ret (.bool true))∧OldK s₁.heap s'.heap∧s'.os=s₁.os∧AllBare s'.gens) s₁) :
    WalkO q loose XP YP l.row.toRowW d [] (fun f vs=>PySem.call f vs):=by
  intro w s₀ s₁ mg mb G Y fa o pm cd doc dV kV ho hd hcd hD hmg hg args vals as hpre hlay hrd hwl hlo
  obtain rfl:dV=.none:=Dflts.none hD hdf
  obtain rfl:kV=.none:=Dflts.noKw hD
  obtain ⟨a,vs,ns,rfl,rfl,hobj,hints,hlen⟩:=script_of hn hpre hwl
  refine enter_call (codeAny_mono (call w s₀ s₁ mg mb fa o pm cd doc a vs ns G Y ho (fd_plain hd) hcd hmg hobj hints hlen hg) fun r s' hq => ?_)
  obtain ⟨rfl,h2,h3,h4⟩:=hq
  exact ⟨.inl ⟨.bool true,.bool true,[],rfl,fun _=>rfl,.bool true,post_true l _,fun _=>⟨List.Pairwise.nil,fun _ hm=>(nomatch hm)⟩⟩,h2,h3,h4⟩


section
variable {prog:Program} {w:World} {A:Around} {E:Value→Shared→Prop} {s:Shared} {K:Frag}


end
end Att

namespace L2
open PySem PySem.Spec PyProof.Rows

theorem vals_ints:∀ {vs:List Value} {ns:List Int},IntsAre vs ns→Vals (ns.map V.int) vs
  | _,_,.nil=>.nil
  | _,_,.cons n t h=>.cons ⟨t,rfl⟩ (vals_ints h)


end L2

namespace L2
open PySem PySem.Spec PyProof.Rows

end L2




namespace L2
open PySem PySem.Spec PyProof.Rows



def defArgs (s:Stmt):Arguments:=match s with
  | .FunctionDef _ a _ _ _ _ _ _ _ _=>a
  | _=>{ posonlyargs:=[],args:=[],vararg:=none,kwonlyargs:=[],kw_defaults:=[],kwarg:=none,defaults:=[] }
def defBody (s:Stmt):List Stmt:=match s with
  | .FunctionDef _ _ b _ _ _ _ _ _ _=>b
  | _=>[]
def defScope (s:Stmt):Scope:=match s with
  | .FunctionDef _ _ _ _ _ _ sc _ _ _=>sc
  | _=>{ kind:=.function,names:=[],isGenerator:=false,isCoroutine:=false }


abbrev CX0:CXT:=fun _ _ _ _ _ _=>False
abbrev E0:XK:=fun _ _ _=>False
section
variable {P:Program} {w:World} {K:PySem.W.Frag} {mg:Str→Option Value} {base:Heap}

end
theorem small1000 {n:Nat} (h:n≤1000):n < sizeLine:=Nat.lt_of_le_of_lt h (by decide)


section
variable {X:Cx}
theorem pv (i:Nat) {x:Str} {pos:Pos} (hN:X.N[i]? = some x:=by rfl) (hv:Vis X.env.scope x:=by first | exact Or.inl rfl | exact Or.inr (Or.inl rfl) | exact Or.inr (Or.inr rfl)) (hd:(x == ("__debug__" : Str))=false:=by decide)
    (hcd:(x == ("__classdict__" : Str))=false:=by decide):PE X (.Name x pos) (tVar i):=pe_var hN hv hd hcd
end


theorem iteF {A B:Prop} (h:B):if false=true then A else B:=by
  rw [if_neg Bool.false_ne_true]
  exact h
theorem iteT {A B:Prop} (h:A):if true=true then A else B:=by
  rw [if_pos rfl]
  exact h
theorem ite2 {c A B:Prop} [Decidable c] (h1:c→A) (h2:¬ c→B):if c then A else B:=by
  by_cases h:c
  · rw [if_pos h]
    exact h1 h
  · rw [if_neg h]
    exact h2 h
theorem iteNS {c A B:Prop} [Decidable c] (hc:c) (h:B):if (!decide c)=true then A else B:=by
  rw [decide_eq_true hc]
  exact iteF h



def Same (H H':Hp):Prop:=∀ b o,H b=some o→H' b=some o
theorem Same.refl (H:Hp):Same H H:=fun _ _ h=>h
theorem Same.trans {H H1 H2:Hp} (a:Same H H1) (b:Same H1 H2):Same H H2:=fun c o h=>b c o (a c o h)
theorem Same.free {H H':Hp} (e:Same H H') {l:Addr} (h:H' l=Option.none):H l=Option.none:=by
  cases q:H l with
  | none=>rfl
  | some o =>
    rw [e l o q] at h
    cases h
theorem Same.seq {K:PySem.W.Frag} {H H':Hp} {a:Addr} {xs:List V} (e:Same H H') (h:SqL K H a xs):SqL K H' a xs:=by
  rcases h with (h | ⟨o,h⟩) | h
  · exact .inl (.inl (e _ _ h))
  · exact .inl (.inr ⟨o,e _ _ h⟩)
  · exact .inr h

end L2
namespace L2
open PySem PySem.Spec PyProof.Rows


section
variable {κ:Type} [DecidableEq κ]
def valV (kvs:List (κ × V)) (k:κ):Option V:=(kvs.find? fun kv=>decide (kv.1=k)).map (·.2)

def putK (kvs:List (κ × V)) (k:κ) (v:V):List (κ × V) :=
  if (kvs.any fun kv=>decide (kv.1=k))=true then kvs.map (fun kv=>if kv.1=k then (kv.1,v) else kv) else kvs++[(k,v)]
theorem valV_pos {p:κ × V} {r:List (κ × V)} {k:κ} (e:p.1=k):valV (p::r) k=some p.2:=by simp [valV,List.find?_cons,e]
theorem valV_neg {p:κ × V} {r:List (κ × V)} {k:κ} (e:¬ p.1=k):valV (p::r) k=valV r k:=by simp [valV,List.find?_cons,e]
theorem valV_any (k:κ):∀ kvs:List (κ × V),(kvs.any fun kv=>decide (kv.1=k))=(valV kvs k).isSome
  | []=>rfl
  | p::r=>by
    rw [List.any_cons]
    by_cases e:p.1=k
    · simp only [valV_pos e,decide_eq_true e,Bool.true_or,Option.isSome_some]
    · rw [valV_neg e,decide_eq_false e,Bool.false_or]; exact valV_any k r
theorem length_putK (kvs:List (κ × V)) (k:κ) (v:V):(putK kvs k v).length≤kvs.length + 1:=by
  unfold putK
  split
  · rw [List.length_map]; omega
  · rw [List.length_append,List.length_cons,List.length_nil]; omega
theorem RelO.isSome_eq {o:Option V} {u:Option Value} (r:RelO o u):o.isSome=u.isSome:=by
  cases o with
  | none=>cases u with
    | none=>rfl
    | some _=>exact (show False from r).elim
  | some _=>cases u with
    | none=>exact (show False from r).elim
    | some _=>rfl
theorem RelO.getD {o:Option V} {u:Option Value} {d:V} {d':Value} (r:RelO o u) (rd:RelV d d'):RelV (o.getD d) (u.getD d'):=by
  cases o with
  | none=>cases u with
    | none=>exact rd
    | some _=>exact (show False from r).elim
  | some _=>cases u with
    | none=>exact (show False from r).elim
    | some _=>exact r


theorem KV.val {kvs:List (κ × V)} {vs:List (κ × Value)} (r:KV kvs vs) (k:κ):RelO (valV kvs k) (valueAt vs k):=by
  unfold KV at r
  induction r with
  | nil=>exact True.intro
  | @cons p q ps qs h t ih =>
    obtain ⟨h1,h2⟩:=h
    by_cases e:p.1=k
    · have e':q.1=k:=h1.symm.trans e
      have b:valueAt (q::qs) k=some q.2:=by simp [valueAt,List.find?_cons,e']
      rw [valV_pos e,b]; exact h2
    · have e':¬ q.1=k:=fun z=>e (h1.trans z)
      have b:valueAt (q::qs) k=valueAt qs k:=by simp [valueAt,List.find?_cons,e']
      rw [valV_neg e,b]; exact ih
theorem KV.any {kvs:List (κ × V)} {vs:List (κ × Value)} (r:KV kvs vs) (k:κ):(kvs.any fun kv=>decide (kv.1=k))=vs.any fun kv=>decide (kv.1=k):=by
  unfold KV at r
  induction r with
  | nil=>rfl
  | cons h t ih=>rw [List.any_cons,List.any_cons,ih,h.1]
theorem KV.repl {kvs:List (κ × V)} {vs:List (κ × Value)} (r:KV kvs vs) (k:κ) {y:V} {u:Value} (ry:RelV y u) :
    KV (kvs.map fun kv=>if kv.1=k then (kv.1,y) else kv) (vs.map fun kv=>if kv.1=k then (kv.1,u) else kv):=by
  unfold KV at r ⊢
  induction r with
  | nil=>exact .nil
  | @cons p q ps qs h t ih =>
    rw [List.map_cons,List.map_cons]
    refine .cons ?_ ih
    obtain ⟨h1,h2⟩:=h
    by_cases e:p.1=k
    · rw [if_pos e,if_pos (h1.symm.trans e)]; exact ⟨h1,ry⟩
    · rw [if_neg e,if_neg (fun z=>e (h1.trans z))]; exact ⟨h1,h2⟩
theorem KV.put {kvs:List (κ × V)} {vs:List (κ × Value)} (r:KV kvs vs) (k:κ) {y:V} {u:Value} (ry:RelV y u):KV (putK kvs k y) (stored vs k u):=by
  unfold putK stored
  rw [r.any k]
  by_cases e:(vs.any fun kv=>decide (kv.1=k))=true
  · rw [if_pos e,if_pos e]; exact r.repl k ry
  · rw [if_neg e,if_neg e]; exact Paired.snoc r ⟨rfl,ry⟩
theorem KV.length {kvs:List (κ × V)} {vs:List (κ × Value)} (r:KV kvs vs):kvs.length=vs.length:=Paired.length r
end



theorem kV_is {P:Program} {w:World} {k:Key} {u:Value} (r:RelV (kV k) u):(mixKind P w).is k u=true:=by
  cases k with
  | inl i=>obtain ⟨t,e⟩:=(show ∃ t,u=Value.int i t from r); subst e; exact mixKind_int P w i t
  | inr x=>obtain ⟨t,e⟩:=(show ∃ t,u=Value.str x t from r); subst e; exact mixKind_str P w x t
theorem items_are {P:Program} {w:World}:∀ {ks:List Key} {us:List Value},Vals (ks.map kV) us→ItemsAre (mixKind P w) ks us
  | [],_,r=>by rw [List.map_nil] at r; cases r; exact .nil
  | k::ks,_,r=>by
    rw [List.map_cons] at r
    cases r with
    | cons h t=>exact .cons (kV_is h) (items_are t)


abbrev KT (H:Hp):List (List Key × V)→List (List Key × Addr × Value)→Prop:=Paired fun p q=>p.1=q.1∧H q.2.1=some (.tup (p.1.map kV))∧RelV p.2 q.2.2
theorem KT.val {H:Hp} {kvs:List (List Key × V)} {xs:List (List Key × Addr × Value)} (r:KT H kvs xs) (k:List Key):RelO (valV kvs k) ((atKey xs k).map (·.2)):=by
  induction r with
  | nil=>exact True.intro
  | @cons p q ps qs h t ih =>
    obtain ⟨h1,_,h2⟩:=h
    by_cases e:p.1=k
    · have e':q.1=k:=h1.symm.trans e
      have b:atKey (q::qs) k=some q.2:=by simp [atKey,List.find?_cons,e']
      rw [valV_pos e,b]; exact h2
    · have e':¬ q.1=k:=fun z=>e (h1.trans z)
      have b:atKey (q::qs) k=atKey qs k:=by simp [atKey,List.find?_cons,e']
      rw [valV_neg e,b]; exact ih
theorem KT.repl {H:Hp} {kvs:List (List Key × V)} {xs:List (List Key × Addr × Value)} (r:KT H kvs xs) (k:List Key) {y:V} {u:Value} (ry:RelV y u) :
    KT H (kvs.map fun kv=>if kv.1=k then (kv.1,y) else kv) (xs.map (putAt k u)):=by
  induction r with
  | nil=>exact .nil
  | @cons p q ps qs h t ih =>
    rw [List.map_cons,List.map_cons]
    refine .cons ?_ ih
    obtain ⟨h1,h2,h3⟩:=h
    unfold putAt
    by_cases e:p.1=k
    · rw [if_pos e,if_pos (h1.symm.trans e)]; exact ⟨h1,h2,ry⟩
    · rw [if_neg e,if_neg (fun z=>e (h1.trans z))]; exact ⟨h1,h2,h3⟩
theorem KT.put {H:Hp} {kvs:List (List Key × V)} {xs:List (List Key × Addr × Value)} (r:KT H kvs xs) (k:List Key) {b:Addr} {y:V} {u:Value} (hb:H b=some (.tup (k.map kV))) (ry:RelV y u) :
    KT H (putK kvs k y) (storedH xs k b u):=by
  have e:(kvs.any fun kv=>decide (kv.1=k))=(atKey xs k).isSome:=by
    rw [valV_any,(r.val k).isSome_eq,Option.isSome_map]
  unfold putK storedH
  rw [e]
  by_cases q:(atKey xs k).isSome=true
  · rw [if_pos q,if_pos q]; exact r.repl k ry
  · rw [if_neg q,if_neg q]; exact Paired.snoc r ⟨rfl,hb,ry⟩
theorem KT.keeps {H H':Hp} {kvs:List (List Key × V)} {xs:List (List Key × Addr × Value)} (r:KT H kvs xs) (ht:∀ b ys,H b=some (.tup ys)→H' b=some (.tup ys)):KT H' kvs xs :=
  Paired.mapP r fun _ _ z=>⟨z.1,ht _ _ z.2.1,z.2.2⟩

section
variable {P:Program} {w:World} {H:Hp} {h:Heap} {a:Addr}
theorem rd_of {u:HO} (ok:HOk P w H h) (e:Rd H a u):ObjOk P w H h a u:=e.ok ok
theorem dk_rd {kvs:List (Key × V)} (ok:HOk P w H h) (e:Rd H a (.dK kvs)):kvs.length≤sizeLine∧(a == sysModules)=false∧∃ vs,KV kvs vs∧h.DictOf (mixKind P w) a vs :=
  show ObjOk P w H h a (.dK kvs) from rd_of ok e
theorem dk_of {kvs:List (Key × V)} (ok:HOk P w H h) (e:H a=some (.dK kvs)):kvs.length≤sizeLine∧(a == sysModules)=false∧∃ vs,KV kvs vs∧h.DictOf (mixKind P w) a vs:=dk_rd ok (.inl e)

theorem key_of {ks:List Key} (ok:HOk P w H h) (e:H a=some (.tup (ks.map kV))):(tupleKind (mixKind P w)).is h ks a:=by
  obtain ⟨_,its,r,o,h1,h2,n,h3⟩:=(show ObjOk P w H h a (.tup (ks.map kV)) from ok a _ e)
  exact ⟨o,its.toArray,n,h1,h2,h3,by simpa using items_are r⟩
theorem dt_rd {kvs:List (List Key × V)} (ok:HOk P w H h) (e:Rd H a (.dT kvs)):kvs.length≤sizeLine∧(a == sysModules)=false ∧
    ∃ xs,KT H kvs xs∧h.DictOfH (tupleKind (mixKind P w)) a xs:=by
  obtain ⟨z,y,xs,r,o,es,ep,h1,h2,h3,h4,h5⟩:=(show ObjOk P w H h a (.dT kvs) from rd_of ok e)
  refine ⟨z,y,xs,r,o,es,ep,h1,h2,h3,h4,fun x hx => ?_,h5⟩
  have all:∀ {l:List (List Key × V)} {m:List (List Key × Addr × Value)},KT H l m→∀ x∈m,(tupleKind (mixKind P w)).is h x.1 x.2.1:=by
    intro l m q
    induction q with
    | nil=>intro x hx; exact nomatch hx
    | @cons p q ps qs hq t ih =>
      intro x hx
      rcases List.mem_cons.mp hx with e | hx
      · subst e
        exact key_of ok (by rw [← hq.1]; exact hq.2.1)
      · exact ih x hx
  exact all r x hx
theorem dt_of {kvs:List (List Key × V)} (ok:HOk P w H h) (e:H a=some (.dT kvs)):kvs.length≤sizeLine∧(a == sysModules)=false ∧
    ∃ xs,KT H kvs xs∧h.DictOfH (tupleKind (mixKind P w)) a xs:=dt_rd ok (.inl e)
end


def DGet (H:Hp) (a:Addr) (y:V) (r:Option V):Prop :=
  (∃ kvs k,Rd H a (.dK kvs)∧y=kV k∧r=valV kvs k)∨∃ kvs k b,Rd H a (.dT kvs)∧y=.ref b∧H b=some (.tup (k.map kV))∧r=valV kvs k

def DPut (H:Hp) (a:Addr) (y v:V) (H':Hp):Prop :=
  (∃ kvs k,H a=some (.dK kvs)∧y=kV k∧kvs.length < sizeLine∧H'=upd H a (.dK (putK kvs k v))) ∨
  ∃ kvs k b,H a=some (.dT kvs)∧y=.ref b∧H b=some (.tup (k.map kV))∧kvs.length < sizeLine∧H'=upd H a (.dT (putK kvs k v))
theorem DGet.k {H:Hp} {a:Addr} {kvs:List (Key × V)} {k:Key} (e:H a=some (.dK kvs)):DGet H a (kV k) (valV kvs k):=.inl ⟨kvs,k,.inl e,rfl,rfl⟩
theorem DGet.t {H:Hp} {a b:Addr} {kvs:List (List Key × V)} {k:List Key} (e:H a=some (.dT kvs)) (eb:H b=some (.tup (k.map kV))):DGet H a (.ref b) (valV kvs k):=.inr ⟨kvs,k,b,.inl e,rfl,eb,rfl⟩
theorem DPut.k {H:Hp} {a:Addr} {kvs:List (Key × V)} {k:Key} {v:V} (e:H a=some (.dK kvs)) (hl:kvs.length < sizeLine):DPut H a (kV k) v (upd H a (.dK (putK kvs k v))):=.inl ⟨kvs,k,e,rfl,hl,rfl⟩
theorem DPut.t {H:Hp} {a b:Addr} {kvs:List (List Key × V)} {k:List Key} {v:V} (e:H a=some (.dT kvs)) (eb:H b=some (.tup (k.map kV))) (hl:kvs.length < sizeLine) :
    DPut H a (.ref b) v (upd H a (.dT (putK kvs k v))):=.inr ⟨kvs,k,b,e,rfl,eb,hl,rfl⟩


section
variable {X:Cx} {pins:List (Addr × Obj)} {σ:St} {H:Hp} {s:Shared} {a:Addr} {y v:V} {u r:Value} {o:Option V} {A:Around} {E:Value→Shared→Prop}

theorem Inv.big (I:Inv X pins σ H s):sysModules < s.heap.objs.size:=by
  have h:mainGlobals < s.heap.objs.size:=(I.mod.glob.keeps I.bk).lt
  exact Nat.lt_trans (by decide) h


theorem d_write {h':Heap} {t':Nat} {ob:HO} (I:Inv X pins σ H s) (mu:Mut (H a)) (hs:Heap.SameBut a s.heap h') (he:∃ q,h'.get? a=some q) (new:ObjOk X.prog X.w (upd H a ob) h' a ob) :
    Inv X pins σ (upd H a ob) { s with heap:=h',toks:=t' } :=
  I.write (x:=a) (e:=a) mu (.inl rfl) (fun b q hb z=>(hs.2 b hb).trans z) he new
theorem dk_new {P:Program} {w:World} {H':Hp} {h':Heap} {kvs:List (Key × V)} {vs:List (Key × Value)} (z:kvs.length≤sizeLine) (hd:(a == sysModules)=false) (rel:KV kvs vs) (dd:h'.DictOf (mixKind P w) a vs) :
    ObjOk P w H' h' a (.dK kvs):=⟨z,hd,vs,rel,dd⟩

theorem d_setItem {H':Hp} {Q:Unit→Shared→Prop} (hu:A.units + 1 < cLine) (I:Inv X pins σ H s) (g:DPut H a y v H') (ry:RelV y u) (rv:RelV v r) (h:∀ s',Inv X pins σ H' s'→Q () s') :
    wpAny (model X.prog X.w) A (setItem (.ref a) u r) Q E s:=by
  rcases g with ⟨kvs,k,e,ey,l,eH⟩ | ⟨kvs,k,b,e,ey,eb,l,eH⟩
  · subst ey eH
    obtain ⟨z,hd,vs,rel,dd⟩:=dk_of I.hok e
    have hz:vs.length≤sizeLine:=by rw [← rel.length]; exact z
    have hl:(putK kvs k v).length≤sizeLine:=by have:=length_putK kvs k v; omega
    refine wpAny_setItem_pairs (hsz:=hz) (kV_is ry) dd fun h' dd' hs=>h _ ?_
    have he:∃ q,h'.get? a=some q:=let ⟨q,_,_,hq,_⟩:=dd'; ⟨q,hq⟩
    exact d_write I (by rw [e]; exact True.intro) hs he (dk_new hl hd (rel.put k rv) dd')
  · subst ey eH
    cases (show u=Value.ref b from ry)
    obtain ⟨z,hd,xs,rel,dd⟩:=dt_of I.hok e
    have hz:xs.length≤sizeLine:=by rw [← Paired.length rel]; exact z
    have hl:(putK kvs k v).length≤sizeLine:=by have:=length_putK kvs k v; omega
    refine wpAny_setItem_heap (hsz:=hz) (tupleKind_room_in1 hu) (key_of I.hok eb) dd fun h' dd' hs=>h _ ?_
    obtain ⟨q,es,ep,hq,h2,h3,h4,_,h5⟩:=dd'
    refine d_write I (by rw [e]; exact True.intro) hs ⟨q,hq⟩ ⟨hl,hd,_,(rel.put k eb rv).keeps fun c ys ec => ?_,q,es,ep,hq,h2,h3,h4,h5⟩
    rw [upd_ne (ne_of ec e (fun z=>nomatch z))]
    exact ec
end

section
variable {X:Cx} {pins:List (Addr × Obj)} {σ:St} {H:Hp} {s:Shared} {a:Addr} {kvs:List (Key × V)} {k:Key} {u:Value} {A:Around} {E:Value→Shared→Prop}

end




def sDPut (td ty tv:TE):TS:=fun D σ H=>tv σ H fun v H1=>td σ H1 fun x H2=>ty σ H2 fun y H3=>∃ a H4,x=.ref a∧DPut H3 a y v H4∧D.nx σ H4

section
variable {X:Cx} {o i e value:Expr} {pos pos' tpos:Pos} {td ty tv:TE}
theorem ps_dput (hu:X.A.units + 1 < cLine) (ho:PE X o td) (hi:PE X i ty) (hv:PE X value tv) (hs:swapsWith value (some (.Subscript o i pos')) pos.line X.env=pure false) :
    PS X (.Assign [.Subscript o i pos'] value pos) (sDPut td ty tv):=by
  intro pins s σ H D I h
  refine wpAny_Assign_Subscript (thn (hv pins s σ H _ I h) fun r s1 ⟨v,H1,I1,rv,q1⟩=>thn (ho pins s1 σ H1 _ I1 q1) fun u s2 ⟨x,H2,I2,rx,q2⟩=>thn (hi pins s2 σ H2 _ I2 q2) fun iv s3 ⟨y,H3,I3,ry,a,H4,ex,g,q3⟩ => ?_) hs
  subst ex
  obtain rfl:u=Value.ref a:=rx
  exact d_setItem hu I3 g ry rv fun s4 I4=>⟨σ,H4,I4,q3⟩
end



theorem dk_empty {P:Program} {w:World} {H:Hp} (h:Heap) (hb:sysModules < h.objs.size):ObjOk P w H (h.push { cls:=.type "dict",data:=.dict #[] }) h.objs.size (.dK []) :=
  ⟨Nat.zero_le _,beq_eq_false_iff_ne.mpr (Ne.symm (Nat.ne_of_lt hb)),[],.nil,Heap.DictOf.new h⟩
theorem dt_empty {P:Program} {w:World} {H:Hp} (h:Heap) (hb:sysModules < h.objs.size):ObjOk P w H (h.push { cls:=.type "dict",data:=.dict #[] }) h.objs.size (.dT []) :=
  ⟨Nat.zero_le _,beq_eq_false_iff_ne.mpr (Ne.symm (Nat.ne_of_lt hb)),[],.nil,_,#[],0,Heap.get?_push_size _ rfl,⟨rfl,rfl,rfl⟩,rfl,rfl,List.nodup_nil⟩

def tDNewK:TE:=fun _ H Q=>∀ p,H p=none→Q (.ref p) (upd H p (.dK []))
def tDNewT:TE:=fun _ H Q=>∀ p,H p=none→Q (.ref p) (upd H p (.dT []))
section
variable {X:Cx} {pos:Pos}
theorem pe_dnewK:PE X (.Dict [] [] pos) tDNewK:=fun pins s σ H Q I h =>
  wpAny_Dict_empty ⟨.ref s.heap.objs.size,_,I.laid (a:=s.heap.objs.size) (o:=.dK []) (t':=s.toks) (fun _ _ q=>Heap.get?_push_of_some _ q) (Nat.le_refl _) (dk_empty s.heap I.big),rfl,h _ (I.hok.fresh (Nat.le_refl _))⟩
theorem pe_dnewT:PE X (.Dict [] [] pos) tDNewT:=fun pins s σ H Q I h =>
  wpAny_Dict_empty ⟨.ref s.heap.objs.size,_,I.laid (a:=s.heap.objs.size) (o:=.dT []) (t':=s.toks) (fun _ _ q=>Heap.get?_push_of_some _ q) (Nat.le_refl _) (dt_empty s.heap I.big),rfl,h _ (I.hok.fresh (Nat.le_refl _))⟩
end


structure M2 (X:Cx) (o:Expr) (m:Str) (apos:Pos) (e f:Expr) (cpos:Pos):Prop where
  base:attributeBase o m X.env (eval o X.env)=eval o X.env
  few:((backTo cpos (starEach [e,f] X.env)).all (fun x => !x.1) && (backToKw cpos (keywordEach [] X.env)).all (fun x=>x.1.isSome)
    && decide (([e,f]:List Expr).length + ([]:List Keyword).length + (if ([]:List Keyword).isEmpty then 0 else 1) < 30))=true
  line:(apos.endLine == cpos.line)=true
  trees:backTo cpos (starEach [e,f] X.env)=[(false,eval e X.env),(false,eval f X.env)]


def IsD (H:Hp) (a:Addr):Prop:=(∃ kvs,Rd H a (.dK kvs))∨∃ kvs,Rd H a (.dT kvs)
theorem isD_at {X:Cx} {pins:List (Addr × Obj)} {σ:St} {H:Hp} {s:Shared} {a:Addr} (I:Inv X pins σ H s) (d:IsD H a) :
    s.TypeIs (.ref a) "dict" ∧ (∀ b,Value.ref a=.ref b→∃ ob,s.heap.get? b=some ob∧ob.dict=none)∧(a == sysModules)=false:=by
  rcases d with ⟨kvs,e⟩ | ⟨kvs,e⟩
  · obtain ⟨_,hd,vs,_,dd⟩:=dk_rd I.hok e
    refine ⟨dd.typeIs,fun b q => ?_,hd⟩
    cases q
    obtain ⟨ob,_,_,h1,h2,_⟩:=dd
    exact ⟨ob,h1,h2.2.1⟩
  · obtain ⟨_,hd,xs,_,dd⟩:=dt_rd I.hok e
    refine ⟨dd.typeIs,fun b q => ?_,hd⟩
    cases q
    obtain ⟨ob,_,_,h1,h2,_⟩:=dd
    exact ⟨ob,h1,h2.2.1⟩

section
variable {X:Cx} {pins:List (Addr × Obj)} {σ:St} {H:Hp} {s:Shared} {a:Addr} {y d:V} {u r:Value} {o:Option V} {A:Around} {E:Value→Shared→Prop}

theorem d_get2 {Q:Value→Shared→Prop} (hu:A.units + 1 < cLine) (I:Inv X pins σ H s) (g:DGet H a y o) (ry:RelV y u) (rd:RelV d r) (h:∀ w' s',Inv X pins σ H s'→RelV (o.getD d) w'→Q w' s') :
    wpAny (model X.prog X.w) A (call (.builtin "dict.get") [.ref a,u,r]) Q E s:=by
  rcases g with ⟨kvs,k,e,ey,l⟩ | ⟨kvs,k,b,e,ey,eb,l⟩
  · subst ey
    obtain ⟨z,hd,vs,rel,dd⟩:=dk_rd I.hok e
    refine call_meetsIn PySem.F.slot_dict_get dd.typeIs PySem.F.entry_dict_get (PySem.F.args_dict_get_3 _ _ _) (meets_dict_get_default (mixKind X.prog X.w) a (kV_is ry) hd r) ⟨_,dd.mapOf,h _ _ (I.tok _) ?_⟩
    rw [l]
    exact (rel.val k).getD rd
  · subst ey
    cases (show u=Value.ref b from ry)
    obtain ⟨z,hd,xs,rel,dd⟩:=dt_rd I.hok e
    refine call_meetsIn PySem.F.slot_dict_get dd.typeIs PySem.F.entry_dict_get (PySem.F.args_dict_get_3 _ _ _) (meetsH_dict_get_default (tupleKind (mixKind X.prog X.w)) a b hd r) ⟨tupleKind_room_in1 hu,k,xs,key_of I.hok eb,dd,h _ _ (I.tok _) ?_⟩
    rw [l]
    exact (rel.val k).getD rd
end

def tDGet2 (td ty tx:TE):TE:=fun σ H Q=>td σ H fun x H1=>∃ a,x=.ref a∧IsD H1 a∧ty σ H1 fun y H2=>tx σ H2 fun z H3=>∃ o,DGet H3 a y o∧Q (o.getD z) H3

section
variable {X:Cx} {o e f:Expr} {apos cpos:Pos} {td ty tx:TE}
theorem pe_dget2 (hu:X.A.units + 1 < cLine) (ho:PE X o td) (he:PE X e ty) (hf:PE X f tx) (m:M2 X o "get" apos e f cpos):PE X (.Call (.Attribute o "get" apos) [e,f] [] cpos) (tDGet2 td ty tx):=by
  intro pins s σ H Q I h
  refine wpAny_Call_method m.base m.few m.line PySem.F.plainAttrs_dict PySem.F.slot_dict_get PySem.F.type_dict_get (thn (ho pins s σ H _ I h) fun u s1 ⟨x,H1,I1,rx,a,ex,d,q1⟩ => ?_)
  subst ex
  obtain rfl:u=Value.ref a:=rx
  obtain ⟨t1,t2,_⟩:=isD_at I1 d
  refine ⟨t1,t2,?_⟩
  rw [m.trees]
  refine Calls.callWith_builtin rfl (Calls.evalArgs_plain (Calls.spliced_cons (thn (he pins s1 σ H1 _ I1 q1) fun iv s2 ⟨y,H2,I2,ry,q2⟩ =>
    Calls.spliced_cons (thn (hf pins s2 σ H2 _ I2 q2) fun fv s3 ⟨z,H3,I3,rz,ov,g,q3⟩=>Calls.spliced_nil ?_))))
  exact d_get2 hu I3 g ry rz fun w' s4 I4 rw'=>⟨_,H3,I4,rw',q3⟩
end


section
variable {X:Cx} {pins:List (Addr × Obj)} {σ:St} {H:Hp} {s:Shared} {a:Addr} {kvs:List (Key × V)} {A:Around} {E:Value→Shared→Prop}
end


section
variable {X:Cx} {pins:List (Addr × Obj)} {σ:St} {H:Hp} {s:Shared} {a:Addr} {y:V} {u:Value} {A:Around} {E:Value→Shared→Prop}

end
end L2
namespace L2
open PySem PySem.Spec PyProof.Rows
section
variable {κ:Type} [DecidableEq κ]
end
end L2

set_option maxHeartbeats 4000000
namespace L2
open PySem PySem.Spec PyProof.Rows


def Itg (n:Nat) (g:Nat→V):It:=⟨fun i _=>i < n,fun i H x H'=>H'=H∧x=g i,fun i _=>n≤i⟩
theorem turn_walk {P:Program} {w:World} {K:PySem.W.Frag} {tg:Expr} {it:Addr} {n:Nat} {Pn:Nat→Value→Prop} {St:Nat→Heap→Prop} {g:Nat→V}
    (W:∀ A:Around,A.handled=none→Walks P w A it [it] [it] n Pn St) (hv:∀ i v,Pn i v→RelV (g i) v)
    (hk:∀ i h h',St i h→(∀ o,h.get? it=some o→h'.get? it=some o)→St i h')
    (hself:∀ (A:Around) (i:Nat) (s:Shared) (Q:Value→Shared→Prop) (E:Value→Shared→Prop),St i s.heap→Q (.ref it) s→wpAny (model P w) A (pyIter (.ref it)) Q E s)
    (ho:∀ i h,St i h→∃ o c vs,h.get? it=some o∧o.cls=.type c∧o.data=.fields vs ∧
      ["enumerate","zip","dict_itemiterator","dict_reverseitemiterator","odict_iterator","itertools.zip_longest","itertools.pairwise"].contains c=false) :
    Turn P w K tg (Itg n g) [it] it (fun i h=>i≤n∧St i h) where
  mem:=by simp
  obj:=fun i h st b hb=>by
    have e:b=it:=by simpa using hb
    subst e
    obtain ⟨o,c,vs,e,_,d,_⟩:=ho i h st.2
    exact ⟨o,e,fun v z=>by rw [d] at z; cases z⟩
  keep:=fun i h h' st k=>⟨st.1,hk i h h' st.2 fun o e=>k it (by simp) o e⟩
  item:=by
    intro X hP hw hK hc i pins s σ H E I hf st hg
    subst hP hw hK
    obtain ⟨f0,f1,f2,f3,f4,f5⟩:=hf it (by simp)
    refine (W X.A (I.ok.hd hc)).item i s _ _ hg st.2 fun v h' tk hP st' kk => ?_
    have I1:Inv X pins σ H { s with heap:=h',toks:=tk }:=I.turned (fun b o hb e=>kk b o (by simpa using hb) e) f0 f1 f3 f4 f5
    obtain ⟨o,c,vs,e,hcls,d,hn⟩:=ho _ _ st'
    exact ⟨v,rfl,go_of (s:={ s with heap:=h',toks:=tk }) e hcls d hn ⟨g i,H,I1,hv i v hP,⟨rfl,rfl⟩,⟨hg,st'⟩,fun b hb=>(hf b hb).1⟩⟩
  done:=by
    intro X hP hw hK hc i pins s σ H E I hf st hg
    subst hP hw hK
    obtain ⟨f0,f1,f2,f3,f4,f5⟩:=hf it (by simp)
    have hg':n≤i:=hg
    have e:i=n:=Nat.le_antisymm st.1 hg'
    subst e
    exact (W X.A (I.ok.hd hc)).done s _ _ st.2 fun h' tk kk=>⟨rfl,I.turned (fun b o hb e=>kk b o (by simpa using hb) e) f0 f1 f3 f4 f5⟩
  self:=fun A i s Q E st h=>hself A i s Q E st.2 h
section
variable {X:Cx} {tg:Expr}

def sgn (z:Str) (i:Nat):Str:=⟨#[z.cps.getD i 0]⟩
def iStr (tl:TE):TI:=fun σ H R=>tl σ H fun x H1=>∃ z,x=.str z∧R (Itg z.length fun i=>.str (sgn z i)) H1
theorem sgn_of {z:Str} {i:Nat} {v:Value} (h:SignAt z i v):RelV (.str (sgn z i)) v:=by
  obtain ⟨c,u,hc,rfl⟩:=h
  refine ⟨u,?_⟩
  have e:z.cps.getD i 0=c:=by simp [Array.getD_eq_getD_getElem?,hc]
  unfold sgn
  rw [e]
theorem pi_str {l:Expr} {tl:TE} (hl:PE X l tl):PI X tg l (iStr tl):=by
  intro pins s σ H R I h
  refine thn (hl pins s σ H _ I h) fun v s1 ⟨x,H1,I1,r1,q1⟩ => ?_
  obtain ⟨z,e,q⟩:=q1
  subst e
  obtain ⟨t,rfl⟩:=r1
  have fp:∀ b∈[s1.heap.objs.size],FpOk X pins H1 b:=fun b hb=>by
    have e:b=s1.heap.objs.size:=by simpa using hb
    subst e
    exact I1.fpOk (Nat.le_refl _) (I1.hok.fresh (Nat.le_refl _))
  cases ha:z.cps.all (· < 128)
  · refine wpAny_pyIter_wide ha ?_
    refine ⟨s1.heap.objs.size,[s1.heap.objs.size],_,_,H1,rfl,I1.kept (t':=s1.toks) fun b o e=>Heap.get?_push_of_some _ e,
      turn_walk (St:=fun i h=>h.IsStrIter s1.heap.objs.size "str_iterator" z t i) (fun A hA=>Walks.strWide hA _ z t) (fun i v=>sgn_of) (fun i h h' st k=>let ⟨o,ho,r⟩:=st; ⟨o,k o ho,r⟩) (fun A i s Q E st hQ=>wpAny_pyIter_striter_wide st hQ)
        (fun i h st=>let ⟨o,ho,hc,hd⟩:=st; ⟨o,_,_,ho,hc,hd,by decide⟩),⟨Nat.zero_le _,⟨_,Heap.get?_push_size _ rfl,rfl,rfl⟩⟩,fp,q⟩
  · refine wpAny_pyIter_ascii ha ?_
    refine ⟨s1.heap.objs.size,[s1.heap.objs.size],_,_,H1,rfl,I1.kept (t':=s1.toks) fun b o e=>Heap.get?_push_of_some _ e,
      turn_walk (St:=fun i h=>h.IsStrIter s1.heap.objs.size "str_ascii_iterator" z t i) (fun A hA=>Walks.strAscii hA _ z t) (fun i v=>sgn_of) (fun i h h' st k=>let ⟨o,ho,r⟩:=st; ⟨o,k o ho,r⟩) (fun A i s Q E st hQ=>wpAny_pyIter_striter_ascii st hQ)
        (fun i h st=>let ⟨o,ho,hc,hd⟩:=st; ⟨o,_,_,ho,hc,hd,by decide⟩),⟨Nat.zero_le _,⟨_,Heap.get?_push_size _ rfl,rfl,rfl⟩⟩,fp,q⟩


end


section
variable {X:Cx}
theorem call_int_str:CallR X (.type "int") (fun xs H Q=>∃ z n,xs=[.str z]∧PySem.intText? z=some n∧z.length≤640∧Q (.int n) H):=by
  intro pins s σ H xs us Q I r h
  obtain ⟨z,n,rfl,hn,hl,q⟩:=h
  obtain ⟨u,rfl,t,rfl⟩:=vals1 r
  exact PySem.W.KIN.call_text hn hl ⟨.int n,H,I.tok _,⟨_,rfl⟩,q⟩
theorem strsAre_of:∀ {ys:List Str} {us:List Value},Vals (ys.map V.str) us→StrsAre us ys
  | [],us,r=>by rw [List.map_nil] at r; cases r; exact .nil
  | y::ys,us,r=>by
    rw [List.map_cons] at r
    cases r with
    | cons r1 r2 =>
      obtain ⟨t,e⟩:=r1
      subst e
      exact .cons y t (strsAre_of r2)
def rJoin (K:PySem.W.Frag):V→List V→Hp→VK→Prop:=fun x vs H Q=>∃ z a ys,x=.str z∧vs=[.ref a]∧SqL K H a (ys.map V.str)∧(ys.map (·.length)).sum + ys.length * z.length≤16777216∧Q (.str (Txt.join z ys)) H
theorem mt_join:MtR X "str.join" (rJoin X.K):=by
  intro pins s σ H x vs v us Q I rx rv h
  obtain ⟨z,a,ys,rfl,rfl,hS,hz,q⟩:=h
  obtain ⟨t,rfl⟩:=rx
  obtain ⟨u,rfl,ru⟩:=rv.one
  cases ru
  obtain ⟨its,r,pl,_⟩:=I.list hS
  exact join_list pl.isList (by simpa using strsAre_of r) hz fun t' k=>⟨.str _,H,I.tok _,⟨_,rfl⟩,q⟩
def rSlS:V→Option Int→Option Int→Hp→VK→Prop:=fun x lo hi H Q=>∃ z,x=.str z∧z.length≤sizeLine∧Q (.str (Txt.slice z lo hi)) H
theorem sl_str:SlR X rSlS:=by
  intro pins s σ H x v vl vu lo hi sl Q I rx hs pl pu h
  obtain ⟨z,rfl,hz,q⟩:=h
  obtain ⟨t,rfl⟩:=rx
  refine ⟨"str",_,F.slot_str_getitem.lookup,typeIs_str _ _ _,?_⟩
  obtain ⟨o,e1,e2,e3⟩:=hs
  have fin:∀ (z':Str) (t':Tok) (k:Nat),z'=Txt.slice z lo hi→EP X pins σ Q (.str z' t') { s with toks:=k }:=fun z' t' k e=>by
    subst e
    exact ⟨.str _,H,I.tok _,⟨_,rfl⟩,q⟩
  cases pl with
  | none =>
    cases pu with
    | none=>exact wpAny_getItem_str_slice (l:=none) (u:=none) (st:=none) ⟨o,e1,e2,e3⟩ rfl (post_val_or_str ⟨Nat.le_trans (Txt.slice_le z _ _) hz,fun t' k=>fin _ t' k rfl⟩)
    | int j uj=>exact wpAny_getItem_str_slice (l:=none) (u:=some (j,uj)) (st:=none) ⟨o,e1,e2,e3⟩ rfl (post_val_or_str ⟨Nat.le_trans (Txt.slice_le z _ _) hz,fun t' k=>fin _ t' k rfl⟩)
  | int i ui =>
    cases pu with
    | none=>exact wpAny_getItem_str_slice (l:=some (i,ui)) (u:=none) (st:=none) ⟨o,e1,e2,e3⟩ rfl (post_val_or_str ⟨Nat.le_trans (Txt.slice_le z _ _) hz,fun t' k=>fin _ t' k rfl⟩)
    | int j uj=>exact wpAny_getItem_str_slice (l:=some (i,ui)) (u:=some (j,uj)) (st:=none) ⟨o,e1,e2,e3⟩ rfl (post_val_or_str ⟨Nat.le_trans (Txt.slice_le z _ _) hz,fun t' k=>fin _ t' k rfl⟩)


def rIsiT (K:PySem.W.Frag) (T:String):List V→Hp→VK→Prop:=fun xs H Q=>∃ x t b,xs=[x,.ty T]∧TyOf K H x t∧PySem.W.kitOne K t (.type T)=some b∧Q (.bl b) H
theorem call_isiT (T:String):CallR X (.builtin "isinstance") (rIsiT X.K T):=by
  intro pins s σ H xs us Q I r h
  obtain ⟨x,t,b,rfl,ty,hk,q⟩:=h
  obtain ⟨u,c,rfl,rx,rc⟩:=vals2 r
  cases (show c=.type T from rc)
  exact isinst_ok I rx ty hk fun tk=>⟨.bl b,H,I.tok _,rfl,q⟩
end
end L2

namespace L2
open PySem PySem.Spec PyProof.Rows


section
variable {prog:Program} {w:World} {A:Around} {R:Result→Shared→Prop} {s:Shared}
theorem compLoop_go {elt target iter:Expr} {scope:Scope} {pos:Pos} {it acc:Value} {env:Env} (I:Nat→Shared→Prop)
    (turn:∀ n s,I n s→wpAny (model prog w) A (pyNext it) (fun r s1=>match r with
      | none=>R (.ok .next) s1
      | some v=>wpAny (model prog w) A (letOwnedTupleGo target it v) (fun _ s2=>wpAny (model prog w) A (assign target env v) (fun _ s3 =>
          wpAny (model prog w) A (eval elt env) (fun x s4 =>
            wpAny (model prog w) A (call (.builtin "list.append") [acc,x]) (fun _ s5=>∃ m,m < n∧I m s5) (notedBy (model prog w) A env fun e s'=>R (.error e) s') s4) (notedBy (model prog w) A env fun e s'=>R (.error e) s') s3)
          (notedBy (model prog w) A env fun e s'=>R (.error e) s') s2) (notedBy (model prog w) A env fun e s'=>R (.error e) s') s1) (notedBy (model prog w) A env fun e s'=>R (.error e) s') s)
    (n:Nat) (h:I n s) :
    codeAny (model prog w) A (.compLoop (.ListComp elt [⟨target,iter,[],0⟩] scope pos) 0 it acc env) R s:=by
  refine codeAny_loop rfl I (fun n s hI => ?_) n h
  show wpAny _ A ((compTurn (.ListComp elt [⟨target,iter,[],0⟩] scope pos) 0 it acc env).onRaise (fun x=>do noteFrame x env; theTreesLotGoes x)) _ _ s
  refine wpAny_noted ?_
  rw [compTurn_list]
  refine wpAny_bind (wpAny_standAt (wpAny_bind (wpAny_mono (turn n s hI) (fun r s1 h1 => ?_) fun _ _ h'=>h')))
  cases r with
  | none=>exact wpAny_pure h1
  | some v =>
    refine wpAny_bind (wpAny_mono h1 (fun _ s2 h2=>wpAny_bind (wpAny_mono h2 (fun _ s3 h3 => ?_) fun _ _ h'=>h')) fun _ _ h'=>h')
    refine wpAny_bind (wpAny_tests_nil ?_)
    exact wpAny_bind (wpAny_bind (wpAny_mono h3 (fun x s4 h4=>wpAny_bind (wpAny_mono h4 (fun _ s5 h5=>wpAny_pure (wpAny_pure ⟨rfl,h5⟩)) fun _ _ h'=>h')) fun _ _ h'=>h'))
end

section
variable {X:Cx} {elt tg iter:Expr} {scope:Scope} {pos:Pos} {N':List Str} {wi:TI} {g:TG} {te:TE}
theorem HOk.but {P:Program} {w:World} {H:Hp} {h h':Heap} {C:Addr} (x:HOk P w H h) (n:H C=none) (k:∀ b u,b≠C→h.get? b=some u→h'.get? b=some u):HOk P w H h':=fun a o e =>
  (x a o e).stay (fun b u hb q=>k b u (by
    rcases hb with z | z
    · rw [z]; intro z2; rw [z2,n] at e; cases e
    · intro z2; rw [z2,n] at z; cases z) q) (fun _ q=>q) fun _ _ q=>q
end

section
variable {X:Cx}
theorem boolsAre_of:∀ {bs:List Bool} {us:List Value},Vals (bs.map V.bl) us→LSm.BoolsAre us bs
  | [],us,r=>by rw [List.map_nil] at r; cases r; exact .nil
  | b::bs,us,r=>by
    rw [List.map_cons] at r
    cases r with
    | cons r1 r2 =>
      cases (show _=Value.bool b from r1)
      exact .cons b (boolsAre_of r2)
theorem call_all (hc:X.calm=true):CallR X (.builtin "all") (fun xs H Q=>∃ (a:Addr) (bs:List Bool),xs=[.ref a]∧SqL X.K H a (bs.map V.bl)∧Q (.bl (bs.all id)) H):=by
  intro pins s σ H xs us Q I r h
  obtain ⟨a,bs,rfl,hS,q⟩:=h
  obtain ⟨u,rfl,ru⟩:=vals1 r
  cases ru
  obtain ⟨its,rv,pl,_⟩:=I.list hS
  have hb:=boolsAre_of rv
  have hlt:a < s.heap.objs.size:=by obtain ⟨_,e,_⟩:=pl.isList; exact Heap.lt_size e
  refine call_all_walk (wpAny_pyIter_list pl.isList ?_)
  refine ⟨s.heap.objs.size,[s.heap.objs.size,a],[s.heap.objs.size],its.toArray.size,_,_,fun i=>(bs[i]?).getD true,rfl,Walks.list (A:=X.A.in1) (I.ok.hd hc) _ a (Nat.ne_of_lt hlt) its.toArray,
    ⟨⟨_,Heap.get?_push_size _ rfl,rfl,rfl⟩,pl.isList.push _⟩,fun i v s' Q' E' hP hQ => ?_,fun h' tk hk => ?_⟩
  · obtain ⟨b,e,rfl⟩:=hb.get i v (by simpa using hP)
    simp only [e,Option.getD_some] at hQ
    exact wpAny_truthy_bool hQ
  · have e:((List.range its.toArray.size).all fun i=>(bs[i]?).getD true)=bs.all id:=by
      rw [List.size_toArray,hb.length]; exact LSm.range_all bs
    rw [e]
    exact ⟨.bl _,H,I.kept (LSm.kept_iter hk),rfl,q⟩


end
end L2

namespace L2
open PySem PySem.Spec PyProof.Rows



def Quiet (CX:CXT):Prop:=∀ outer H s e s',CX outer H s E0 e s'→False
theorem quiet0:Quiet CX0:=fun _ _ _ _ _ h=>h
theorem passQ {CX:CXT} {X:Cx} (q:Quiet CX):Passes CX X E0:=fun _ _ _ _ _ _ _ h=>(q _ _ _ _ _ h).elim
structure Fok (P:Program) (w:World) (K:PySem.W.Frag) (mg:Str→Option Value) (base:Heap) (CX:CXT) (j:Nat) (x:Str) (ps:List Str) (dvs:List V) (sp:Sp):Prop where
  ex:∃ f fd ds,FnOk P w K mg base CX j f fd ps sp∧Binds K fd ps ds∧Vals dvs ds∧PySem.W.keepIn K (.ref f)=true∧mg x=some (.ref f)
section
variable {X:Cx} {CX:CXT} {j k:Nat} {ps:List Str} {sp:Sp} {dvs:List V} {E:XK} {x:Str} {p pos:Pos} {e:Expr} {es:List Expr} {t:TA}

theorem pe_callX (F:Fok X.prog X.w X.K X.mg X.base CX j x ps dvs sp) (hr:Room k X.A) (hx:Passes CX X E) (ha:PA X (e::es) t) (hj:j≤k:=by decide) (hg:Gl X x:=by rfl)
    (hdb:(x == ("__debug__" : Str))=false:=by decide) (he:starEach (e::es) X.env=(false,eval e X.env)::starEach es X.env:=by rfl) (hpl:(backTo pos (starEach es X.env)).any (·.1)=false:=by rfl) :
    PE X (.Call (.Name x p) (e::es) [] pos) (tCall sp dvs E t):=by
  obtain ⟨f,fd,ds,G,b,v,kp,m⟩:=F.ex
  exact pe_call G (hr.mono hj) hg m kp b v hx ha hdb he hpl
theorem pe_callF (F:Fok X.prog X.w X.K X.mg X.base CX j x ps dvs sp) (q:Quiet CX) (hr:Room k X.A) (ha:PA X (e::es) t) (hj:j≤k:=by decide) (hg:Gl X x:=by rfl)
    (hdb:(x == ("__debug__" : Str))=false:=by decide) (he:starEach (e::es) X.env=(false,eval e X.env)::starEach es X.env:=by rfl) (hpl:(backTo pos (starEach es X.env)).any (·.1)=false:=by rfl) :
    PE X (.Call (.Name x p) (e::es) [] pos) (tCall sp dvs E0 t):=pe_callX F hr (passQ q) ha hj hg hdb he hpl
end
section
variable {P:Program} {w:World} {K:PySem.W.Frag} {mg:Str→Option Value} {base:Heap}

structure FunD (K:PySem.W.Frag) (x qual:Str) (st:Stmt) (f:Addr) (fd:FuncData) (dV:Value):Prop where
  ex:∃ (oc:Value) (od:Option Addr) (kV doc pm:Value) (an:Option Addr) (cdv ct:Value) (osl:Array (Option Value)),
    fd=PySem.W.fnOf x qual (defArgs st) (defBody st) (defScope st) dV kV doc pm an cdv ct∧K.lookup f=some ⟨oc,od,.func fd,osl⟩∧PySem.W.codeIn K cdv qual=true
  kp:PySem.W.keepIn K (.ref f)=true
theorem funD_mk {x qual:Str} {st:Stmt} {f:Addr} {oc:Value} {od an:Option Addr} {osl:Array (Option Value)} {dV kV doc pm cdv ct:Value} (l:K.lookup f=some ⟨oc,od,.func (PySem.W.fnOf x qual (defArgs st) (defBody st) (defScope st) dV kV doc pm an cdv ct),osl⟩)
    (c:PySem.W.codeIn K cdv qual=true) (k:PySem.W.keepIn K (.ref f)=true):FunD K x qual st f (PySem.W.fnOf x qual (defArgs st) (defBody st) (defScope st) dV kV doc pm an cdv ct) dV:=⟨⟨oc,od,kV,doc,pm,an,cdv,ct,osl,rfl,l,c⟩,k⟩

theorem FunD.ok {x qual:Str} {st:Stmt} {f:Addr} {fd:FuncData} {dV:Value} {N ps:List Str} {k:Nat} {sp:Sp} {CX:CXT} (F:FunD K x qual st f fd dV) (S:FnScope N ps (defScope st)) (len:∀ vs H Q E,sp vs H Q E→vs.length=ps.length)
    (hbody:∀ (cdv:Value) (A:Around) (outer:List Env) (s:Shared) (H:Hp) (vs:List V) (Q:VK) (E:XK),Room k (A.deeper (envOfC qual (defScope st) s.heap.objs.size f cdv))→sp vs H Q E →
      ∃ t,PSs (cxOf CX P w K mg base N qual (defScope st) f cdv A outer s H E).nox (defBody st) t∧t { nx:=fun _ H'=>Q .non H',rt:=Q } (start N vs) H):FnOk P w K mg base CX (k + 1) f fd ps sp:=by
  obtain ⟨oc,od,kV,doc,pm,an,cdv,ct,osl,rfl,lk,hcd⟩:=F.ex
  refine fn_of lk hcd S len fun A outer s H vs Q E hr hsp => ?_
  obtain ⟨t,h,q⟩:=hbody cdv A outer s H vs Q E hr hsp
  exact ⟨t,h.nox,q⟩

theorem FunD.binds {x qual:Str} {st:Stmt} {f:Addr} {fd:FuncData} {dV:Value} {ps:List Str} (F:FunD K x qual st f fd dV)
    (h:∀ (kV doc pm:Value) (an:Option Addr) (cdv ct:Value) (us:List Value),us.length=ps.length→bindArgs (PySem.W.fnOf x qual (defArgs st) (defBody st) (defScope st) dV kV doc pm an cdv ct) ⟨us,[]⟩=pure (ps.zip us)):Binds K fd ps []:=by
  obtain ⟨oc,od,kV,doc,pm,an,cdv,ct,osl,rfl,lk,hcd⟩:=F.ex
  exact .all (h kV doc pm an cdv ct)

theorem fok {CX:CXT} {j:Nat} {x qual:Str} {st:Stmt} {f:Addr} {fd:FuncData} {dV:Value} {ps:List Str} {sp:Sp} (F:FunD K x qual st f fd dV) (G:FnOk P w K mg base CX j f fd ps sp) (b:Binds K fd ps []) (m:mg x=some (.ref f)) :
    Fok P w K mg base CX j x ps [] sp:=⟨f,fd,[],G,b,.nil,F.kp,m⟩

end


section
variable {X:Cx}
def CDivW (i j:Int):Prop:=0 < j∧j < 2 ^ 1000
theorem op_fdivW:OpR X (binaryOp .FloorDiv) (rI CDivW fun i j=>.int (i / j)):=opI fun i j _ _ _ _ _ hc q=>by
  have h1:(0:Int) < j:=hc.1
  have h2:j < 2 ^ 1000:=hc.2
  refine floordiv_int (by omega) (by rw [Int.fdiv_eq_ediv_of_nonneg i (by omega)]; exact q) (.inl (PyProof.noPylong_of_log2 ?_))
  have e:j.natAbs.log2 < 1000:=by
    refine (Nat.log2_lt (by omega)).mpr ?_
    have e2:((j.natAbs:Nat):Int)=j:=by omega
    have e3:((2 ^ 1000:Nat):Int)=(2:Int) ^ 1000:=by rw [Int.natCast_pow]; rfl
    omega
  omega
theorem cdivW {i j:Int} (h0:0 < j) (h1:j < 1000000000000000000000000):CDivW i j:=⟨h0,Int.lt_trans h1 (by decide +kernel)⟩
end
theorem bt_int:bootBuiltins "int" = some (.type "int"):=by decide +kernel
theorem bt_str:bootBuiltins "str" = some (.type "str"):=by decide +kernel
theorem bt_bool:bootBuiltins "bool" = some (.type "bool"):=by decide +kernel
theorem bt_list:bootBuiltins "list" = some (.type "list"):=by decide +kernel
theorem bt_tuple:bootBuiltins "tuple" = some (.type "tuple"):=by decide +kernel
theorem bt_dict:bootBuiltins "dict" = some (.type "dict"):=by decide +kernel
theorem bb_isinstance:bootBuiltins "isinstance" = some (.builtin "isinstance"):=by decide +kernel
theorem bb_max:bootBuiltins "max" = some (.builtin "max"):=by decide +kernel
theorem bb_min:bootBuiltins "min" = some (.builtin "min"):=by decide +kernel
theorem bb_all:bootBuiltins "all" = some (.builtin "all"):=by decide +kernel
theorem bb_any:bootBuiltins "any" = some (.builtin "any"):=by decide +kernel
theorem bb_len:bootBuiltins "len" = some (.builtin "len"):=by decide +kernel
section
variable {K:PySem.W.Frag}
theorem kit_ii:PySem.W.kitOne K (.type "int") (.type "int")=some true:=by kernel_rfl
theorem kit_ib:PySem.W.kitOne K (.type "int") (.type "bool")=some false:=by kernel_rfl
theorem kit_ss:PySem.W.kitOne K (.type "str") (.type "str")=some true:=by kernel_rfl
theorem kit_tt:PySem.W.kitOne K (.type "tuple") (.type "tuple")=some true:=by kernel_rfl
end
end L2

namespace L2
open PySem PySem.Spec PyProof.Rows


section
variable {prog:Program} {w:World} {A:Around} {E:Value→Shared→Prop} {s:Shared}
end
end L2

namespace L2
open PySem PySem.Spec PyProof.Rows

end L2

namespace L2
open PySem PySem.Spec PyProof.Rows
section
variable {prog:Program} {w:World} {A:Around} {E:Value→Shared→Prop} {s:Shared}
end

section
variable {X:Cx} {pins:List (Addr × Obj)} {σ:St} {H:Hp} {s:Shared} {h':Heap}
end
section
variable {X:Cx}
end
end L2

namespace L2
open PySem PySem.Spec PyProof.Rows


def KTu (K:PySem.W.Frag) (a:Addr) (xs:List V):Prop:=∃ (o:Obj) (its:Array Value) (n:Nat),K.lookup a=some o∧o.cls=.type "tuple" ∧ o.data=.seq its n∧its.size≤sizeLine∧Vals xs its.toList
theorem KTu.sq {K:PySem.W.Frag} {a:Addr} {xs:List V} {H:Hp} (h:KTu K a xs):SqT K H a xs:=.inr h

end L2

namespace L2
open PySem PySem.Spec PyProof.Rows

end L2

namespace L2
open PySem PySem.Spec PyProof.Rows


section
variable {P:Program} {w:World} {H H':Hp} {h h' h'' bs:Heap} {l:List Env} {hid:List Addr}

end
section
variable {P:Program} {w:World} {K:PySem.W.Frag} {mg:Str→Option Value} {base:Heap} {N:List Str} {qual:Str} {scope:Scope} {f:Addr} {cd:Value} {A:Around} {outer:List Env} {s0:Shared} {H0:Hp} {E:XK}

end
end L2

namespace L2
open PySem PySem.Spec PyProof.Rows


section
variable {X:Cx}
end


section
variable {prog:Program} {w:World} {A:Around} {E:Value→Shared→Prop} {h:Heap} {g:Array GenState} {d:Drawn} {t:Nat} {os:OsState} {a C:Addr} {o:Obj} {vs:Array Value}
end
end L2

namespace L2
open PySem PySem.Spec PyProof.Rows
section
variable {X:Cx}

end


section
variable {X:Cx} {pins:List (Addr × Obj)} {σ:St} {H:Hp} {s:Shared}
end
end L2

namespace L2
open PySem PySem.Spec PyProof.Rows
section
variable {X:Cx}
end
end L2

namespace L2
open PySem PySem.Spec PyProof.Rows

section
variable {prog:Program} {w:World} {A:Around} {E:Value→Shared→Prop} {s:Shared} {x:Str} {t:Tok}
end
section
variable {X:Cx} {tg:Expr}
end
end L2

namespace L2
open PySem PySem.Spec PyProof.Rows

def clo (env:Env) (xs:List Str):List (Str × Addr):=xs.map fun x=>(x,(env.cells.lookup x).getD 0)
def CapsOk (env:Env) (scope:Scope) (xs caps:List Str):Prop:=∀ x∈caps,env.kindOf x=some .cell∧(relabel scope env).names.lookup x=some .cell∧x∈xs
theorem capsOk_nil {env:Env} {scope:Scope} {xs:List Str}:CapsOk env scope xs []:=fun _ h=>by cases h
theorem capsOk_cons {env:Env} {scope:Scope} {xs:List Str} {x:Str} {r:List Str} (h1:env.kindOf x=some .cell) (h2:(relabel scope env).names.lookup x=some .cell) (h3:x∈xs) (h:CapsOk env scope xs r):CapsOk env scope xs (x::r):=fun y hy=>by
  rcases List.mem_cons.mp hy with rfl | hy
  · exact ⟨h1,h2,h3⟩
  · exact h y hy
theorem clo_of {env:Env} {x:Str} {c:Addr}:∀ {xs:List Str},x∈xs→env.cells.lookup x=some c→(clo env xs).lookup x=some c
  | [],h,_=>by cases h
  | y::r,h,e=>by
    unfold clo
    rw [List.map_cons,List.lookup_cons]
    by_cases z:x=y
    · subst z; simp [e]
    · have zb:(x == y)=false:=by simpa using z
      rw [zb]
      rcases List.mem_cons.mp h with q | q
      · exact absurd q z
      · exact clo_of q e
theorem clo_has {env:Env} {x:Str}:∀ {xs:List Str},x∈xs→∃ c,(clo env xs).lookup x=some c
  | [],h=>by cases h
  | y::r,h=>by
    unfold clo
    rw [List.map_cons,List.lookup_cons]
    by_cases z:x=y
    · subst z; exact ⟨_,by simp; rfl⟩
    · have zb:(x == y)=false:=by simpa using z
      rw [zb]
      rcases List.mem_cons.mp h with q | q
      · exact absurd q z
      · exact clo_has q
theorem clo_sub {env:Env} {x:Str} {c:Addr} {xs:List Str} (hin:(xs.all fun x=>(env.cells.lookup x).isSome)=true) (e:(clo env xs).lookup x=some c):env.cells.lookup x=some c:=by
  induction xs with
  | nil=>cases e
  | cons y r ih =>
    unfold clo at e
    rw [List.map_cons,List.lookup_cons] at e
    rw [List.all_cons,Bool.and_eq_true] at hin
    by_cases z:x=y
    · subst z
      obtain ⟨a,ha⟩:=Option.isSome_iff_exists.mp hin.1
      rw [ha] at e ⊢
      simpa using e
    · have zb:(x == y)=false:=by simpa using z
      rw [zb] at e
      exact ih hin.2 e
theorem caps_len {σ:St} {vs:List V} {is:List Nat} {N N' caps:List Str} {k:Nat} (hvs:is.map (fun i=>σ[i]?)=vs.map fun v=>some (some v)) (his:is.map (N[·]?)=caps.map some) (hN:N'.drop k=caps) (hk:k≤N'.length) :
    (List.replicate k (none:Option V)++vs.map some).length=N'.length:=by
  have h1:=congrArg List.length hvs
  have h2:=congrArg List.length his
  have h3:=congrArg List.length hN
  simp only [List.length_map,List.length_drop,List.length_append,List.length_replicate] at *
  omega
theorem caps_at {σ:St} {vs:List V} {is:List Nat} {N N' caps:List Str} {k i:Nat} {x:Str} {v:V} (hvs:is.map (fun i=>σ[i]?)=vs.map fun v=>some (some v)) (his:is.map (N[·]?)=caps.map some) (hN:N'.drop k=caps)
    (e1:N'[i]? = some x) (e2:(List.replicate k (none:Option V)++vs.map some)[i]? = some (some v)):∃ j:Nat,N[j]? = some x∧x∈caps∧σ[j]? = some (some v):=by
  have hik:k≤i:=by
    by_cases h:k≤i
    · exact h
    · rw [List.getElem?_append_left (by simpa using h),List.getElem?_replicate] at e2
      split at e2 <;> cases e2
  rw [List.getElem?_append_right (by simpa using hik),List.length_replicate] at e2
  have e1':caps[i - k]? = some x:=by rw [← hN,List.getElem?_drop,Nat.add_sub_cancel' hik]; exact e1
  have ev:vs[i - k]? = some v:=by
    rw [List.getElem?_map] at e2
    cases z:vs[i - k]? with
    | none=>rw [z] at e2; cases e2
    | some a=>rw [z] at e2; cases e2; rfl
  have q1:=congrArg (·[i - k]?) hvs
  have q2:=congrArg (·[i - k]?) his
  simp only [List.getElem?_map,ev,e1',Option.map_some] at q1 q2
  cases z:is[i - k]? with
  | none=>rw [z] at q1; cases q1
  | some j =>
    rw [z] at q1 q2
    exact ⟨j,Option.some.inj q2,List.mem_of_getElem? e1',Option.some.inj q1⟩
theorem caps_keep {σ:St} {vs:List V} {k:Nat} (h:σ.drop k=vs.map some) (i:Nat) (v:V) (e:(List.replicate k (none:Option V)++vs.map some)[i]? = some (some v)):σ[i]? = some (some v):=by
  have hik:k≤i:=by
    by_cases h:k≤i
    · exact h
    · rw [List.getElem?_append_left (by simpa using h),List.getElem?_replicate] at e
      split at e <;> cases e
  rw [List.getElem?_append_right (by simpa using hik),List.length_replicate,← h,List.getElem?_drop,Nat.add_sub_cancel' hik] at e
  exact e
theorem all_of {names:List (Str × NameKind)} {xs:List Str} (h:(names.all fun y => !(y.2 == .cell || y.2 == .free) || xs.contains y.1)=true):∀ y∈names,(y.2=.cell∨y.2=.free)→y.1∈xs:=fun y hy hk=>by
  have z:=List.all_eq_true.mp h y hy
  rcases hk with e | e
  · rw [e] at z
    exact List.contains_iff_mem.mp (by simpa using z)
  · rw [e] at z
    exact List.contains_iff_mem.mp (by simpa using z)
def cxCompC (X:Cx) (N':List Str) (scope:Scope) (xs:List Str) (C:Addr) (s0:Shared) (H0:Hp) (fp:List Addr) (pins:List (Addr × Obj)):Cx where
  prog:=X.prog
  w:=X.w
  K:=X.K
  mg:=X.mg
  base:=X.base
  A:=X.A
  N:=N'
  s₀:=s0
  H₀:=H0
  env:=compEnvC scope (clo X.env xs) C X.env
  outer:=X.stack
  stack:=X.stack
  ex:=fp
  fn:=fun _=>false
  calm:=X.calm
  pn:=X.pn++pins
  xe:=fun _ _=>False

def compKC (σ0:St) (k:Nat) (cs:St) (g:TG) (te:TE) (Q:VK):It→Hp→Prop:=fun J H1=>∀ D,H1 D=none→∃ W:Nat→Nat→List V→Hp→Prop,(∃ m,W 0 m [] (upd H1 D (.lst []))) ∧
  ∀ i m ys H2,W i m ys H2→H2 D=some (.lst ys)∧((J.stop i H2∧Q (.ref D) H2)∨(J.go i H2∧ys.length < sizeLine ∧
    ∀ x H',J.yld i H2 x H'→g x σ0 H' fun σ2 H3=>σ2.drop k=cs∧te σ2 H3 fun y H4=>H4 D=some (.lst ys)∧∃ m',m' < m∧W (i + 1) m' (ys++[y]) (upd H4 D (.lst (ys++[y])))))
def tCompC (is:List Nat) (k:Nat) (wi:TI) (g:TG) (te:TE):TE:=fun σ H Q=>∃ vs:List V,is.map (fun i=>σ[i]?)=vs.map (fun v=>some (some v))∧wi σ H (compKC (List.replicate k none++vs.map some) k (vs.map some) g te Q)
section
variable {X:Cx} {elt tg iter cnd:Expr} {scope:Scope} {pos:Pos} {N':List Str} {wi:TI} {g:TG} {te:TE} {tt:TT}
theorem pe_compC (xs caps:List Str) (is:List Nat) (k:Nat) (hclos:closureFor scope X.env=pure (clo X.env xs)) (hin:(xs.all fun x=>(X.env.cells.lookup x).isSome)=true) (hcap:CapsOk X.env scope xs caps) (his:is.map (X.N[·]?)=caps.map some) (hN:N'.drop k=caps) (hk:k≤N'.length)
    (hallB:((relabel scope X.env).names.all fun y => !(y.2 == .cell || y.2 == .free) || xs.contains y.1)=true) (hcell:∀ y∈scope.names,y.2≠.cell) (hkind:scope.kind=.function) (hnames:∀ y∈scope.names,y.2=.local→scope.names.lookup y.1=some .local)
    (hcalm:X.calm=true) (hi:PI X tg iter wi) (hg:∀ C s0 H0 fp pins,PG (cxCompC X N' scope xs C s0 H0 fp pins) tg g) (he:∀ C s0 H0 fp pins,PE (cxCompC X N' scope xs C s0 H0 fp pins) elt te)
    (hs:∀ x,foldedSetIterable iter X.env x=pure x:=by intro _; rfl):PE X (.ListComp elt [⟨tg,iter,[],0⟩] scope pos) (tCompC is k wi g te):=by
  intro pins s σ H Q I h
  have hall:=all_of hallB
  obtain ⟨vs,hvs,h⟩:=h
  rw [eval_ListComp]
  refine wpAny_comprehension_free (use:=none) rfl hs hclos hkind hnames (thn (hi pins s σ H _ I h) fun v s1 h1=>thn h1 fun itv s2 h2 => ?_)
  obtain ⟨it,fp,tn,J,H2,e,I2,T,st2,f2,hW⟩:=h2
  subst e
  refine wpAny_newObj_type (wpAny_newFunctionEnv hcell (by intro y hy; simp at hy) (fun h₁ hns₁ hsb₁ => ?_) hkind)
  dsimp only at hns₁ hsb₁ ⊢
  generalize hH2:s2.heap.push { cls:=.type "list",dict:=none,data:=.seq ([]:List Value).toArray }=P2 at hns₁ hsb₁ ⊢
  have hC:P2.objs.size=s2.heap.objs.size + 1:=by rw [← hH2,Heap.size_push]
  have below:∀ b,b < s2.heap.objs.size→b≠P2.objs.size∧b≠s2.heap.objs.size:=fun b hb=>⟨by rw [hC]; exact Nat.ne_of_lt (Nat.lt_succ_of_lt hb),Nat.ne_of_lt hb⟩
  have hDC:s2.heap.objs.size≠P2.objs.size:=by rw [hC]; exact Nat.ne_of_lt (Nat.lt_succ_self _)
  have old:∀ b o,s2.heap.get? b=some o→h₁.get? b=some o:=fun b o e=>hsb₁.extBut b o (below b (Heap.lt_size e)).1 (Heap.get?_push_of_some _ (hH2▸Heap.get?_push_of_some _ e))
  have hD:h₁.get? s2.heap.objs.size=some { cls:=.type "list",dict:=none,data:=.seq ([]:List Value).toArray }:=hsb₁.extBut _ _ hDC (Heap.get?_push_of_some _ (hH2▸Heap.get?_push_size _ rfl))
  have frD:H2 s2.heap.objs.size=none:=I2.hok.fresh (Nat.le_refl _)
  have frC:H2 P2.objs.size=none:=I2.hok.fresh (by rw [hC]; exact Nat.le_succ _)
  have hfp:∀ b∈fp,b < s2.heap.objs.size:=fun b hb=>by
    obtain ⟨o,e,_⟩:=T.obj _ _ st2 b hb
    exact Heap.lt_size e
  have nst:∀ b,b≠X.env.locals→b∉X.fs→b∉frs X.stack:=fun b n1 n2 z=>by
    rcases List.mem_cons.mp (I2.stkSub b z) with e | e
    · exact n1 e
    · exact n2 e
  obtain ⟨W,⟨m0,w0⟩,turn⟩:=hW s2.heap.objs.size frD
  have csub:∀ (x:Str) (c:Addr),(clo X.env xs).lookup x=some c→X.env.cells.lookup x=some c:=fun x c e=>clo_sub hin e
  have cold:∀ (x:Str) (c:Addr),(clo X.env xs).lookup x=some c→∃ v,s2.heap.IsCell c v:=fun x c e=>I2.cell x c (csub x c e)
  have clt:∀ (x:Str) (c:Addr),(clo X.env xs).lookup x=some c→c < s2.heap.objs.size:=fun x c e=>by
    obtain ⟨v,o,ho,_⟩:=cold x c e
    exact Heap.lt_size ho
  have ok':(cxCompC X N' scope xs P2.objs.size s2 H2 fp pins).Ok:=by
    refine ⟨I2.ok.mod,hkind,I2.ok.glob,I2.ok.blt,?_,fun x y c e e'=>I2.ok.inj x y c (csub x c e) (csub y c e'),fun x hx => ?_,(fun x c z _=>by cases z),I2.ok.hd,I2.ok.frames,.inl rfl,fun b hb=>⟨(below b (hfp b hb)).1,fun x c e=>(f2 b hb).2.2.2.2.1 x c (csub x c e)⟩,I2.bs,Nat.le_trans I2.ok.bsz I2.sz,fun b o e hb => ?_,fun b hb=>nst b (f2 b hb).2.1 (f2 b hb).2.2.1,I2.stack,I2.stkFree⟩
    · show s2.heap.objs.size≤P2.objs.size
      rw [hC]; exact Nat.le_succ _
    · have hx':(relabel scope X.env).names.lookup x=some .cell∨(relabel scope X.env).names.lookup x=some .free:=hx
      rcases hx' with z | z
      · exact clo_has (hall _ (PySem.mem_of_lookup z) (.inl rfl))
      · exact clo_has (hall _ (PySem.mem_of_lookup z) (.inr rfl))
    · rcases (f2 b hb).2.2.2.1 with z | z
      · exact I2.ok.noex b o e z
      · exact absurd (Nat.lt_of_lt_of_le (Heap.lt_size (I2.ok.bs b o e).1) z) (Nat.lt_irrefl _)
  have I':Inv (cxCompC X N' scope xs P2.objs.size s2 H2 fp pins) [] (List.replicate k none++vs.map some) (upd H2 s2.heap.objs.size (.lst [])) { s2 with heap:=h₁,toks:=s2.toks + ([]:List (Str × Value)).length }:=by
    refine ⟨ok',rfl,I2.bare,Un.laid old (Nat.le_refl _) frD,⟨_,hns₁,fun i x v e1 e2 e3 => ?_⟩,fun x c e => ?_,?_,fun x c e => ?_,fun p hp => ?_,I2.hok.laid old (Nat.le_refl _) ⟨by simp,[],0,.nil,hD⟩,?_⟩
    · obtain ⟨j,ej,hj1,hj2⟩:=caps_at hvs his hN e1 e2
      obtain ⟨hc1,hc2,hc3⟩:=hcap x hj1
      obtain ⟨m,hn,hl⟩:=I2.loc
      obtain ⟨u,r,l⟩:=hl j x v ej hj2 (.inr (.inl hc1))
      refine ⟨u,r,.inr ⟨.inl hc2,?_⟩⟩
      rcases l with ⟨z,_⟩ | ⟨_,c,ec,⟨o,ho,hd⟩⟩
      · rw [show X.env.kindOf x=some .cell from hc1] at z; cases z
      · exact ⟨c,clo_of hc3 ec,o,old _ _ ho,hd⟩
    · obtain ⟨v,o,ho,hd⟩:=cold x c e
      exact ⟨v,o,old _ _ ho,hd⟩
    · show upd H2 s2.heap.objs.size (.lst []) P2.objs.size=none
      rw [upd_ne (Ne.symm hDC)]; exact frC
    · show upd H2 s2.heap.objs.size (.lst []) c=none
      rw [upd_ne (below _ (clt x c e)).2]; exact I2.freeC x c (csub x c e)
    · have hp':p∈X.pn++pins:=by
        rcases List.mem_append.mp hp with z | z
        · exact z
        · cases z
      obtain ⟨a1,a2,a3,a4,a5⟩:=I2.pin p hp'
      refine ⟨old _ _ a1,?_,(below _ (Heap.lt_size a1)).1,nst _ a3 a4,a5⟩
      rw [upd_ne (below _ (Heap.lt_size a1)).2]; exact a2
    · show (List.replicate k none++vs.map some).length=N'.length
      exact caps_len hvs his hN hk
  have stat:∀ {H':Hp},(∀ b∈fp,H' b=none)→∀ b∈fp,FpOk (cxCompC X N' scope xs P2.objs.size s2 H2 fp pins) [] H' b:=fun {H'} hn b hb =>
    ⟨hn b hb,(below b (hfp b hb)).1,nst b (f2 b hb).2.1 (f2 b hb).2.2.1,.inl hb,fun x c e=>(f2 b hb).2.2.2.2.1 x c (csub x c e),fun p hp=>(f2 b hb).2.2.2.2.2 p (by
      rcases List.mem_append.mp hp with z | z
      · exact z
      · cases z)⟩
  have fin:∀ (ys:List V) (σ':St) (H':Hp) (s':Shared),Inv (cxCompC X N' scope xs P2.objs.size s2 H2 fp pins) [] σ' H' s'→Q (.ref s2.heap.objs.size) H' →
      ∃ m,s'.heap.Ns P2.objs.size m∧∀ h',Heap.SameBut P2.objs.size s'.heap h'→EP X pins σ Q (.ref s2.heap.objs.size) { s' with heap:=h' }:=by
    intro ys σ' H' s' J1 q
    obtain ⟨m,hm,_⟩:=id J1.loc
    refine ⟨m,hm,fun h' sb=>⟨.ref s2.heap.objs.size,H',?_,rfl,q⟩⟩
    have ne:∀ b o,s2.heap.get? b=some o→b≠P2.objs.size:=fun b o e=>(below b (Heap.lt_size e)).1
    refine I2.call' (s':={ s' with heap:=h' }) (ch:=fp) J1.os ⟨fun b o e n hb hx => ?_,fun b o e n hb hx => ?_,fun b o e n hx=>J1.base.free b o e n hx,fun b o e hx => ?_,J1.base.tups,J1.base.frzs,J1.base.tbls⟩ (J1.hok.but J1.free fun b u hb q=>(sb.2 b hb).trans q) J1.bare fun b hb=>⟨(f2 b hb).2.2.2.1,(f2 b hb).2.1,(f2 b hb).2.2.2.2.1,(f2 b hb).2.2.2.2.2⟩
    · exact (sb.2 b (ne b o e)).trans (J1.base.keep b o e n hb hx)
    · obtain ⟨sl,z⟩:=J1.base.slot b o e n hb hx
      exact ⟨sl,(sb.2 b (ne b o e)).trans z⟩
    · obtain ⟨o',z⟩:=J1.base.there b o e hx
      exact ⟨o',(sb.2 b (ne b o e)).trans z⟩
  have loop:codeAny (model X.prog X.w) X.A (.compLoop (.ListComp elt [⟨tg,iter,[],0⟩] scope pos) 0 (.ref it) (.ref s2.heap.objs.size) (compEnvC scope (clo X.env xs) P2.objs.size X.env))
      (compPost (model X.prog X.w) X.A X.xe none (EP X pins σ Q) (.ref s2.heap.objs.size) P2.objs.size)
      { s2 with heap:=h₁,toks:=s2.toks + ([]:List (Str × Value)).length }:=by
    refine compLoop_go (fun n s'=>∃ i ys σ' H',σ'.drop k=vs.map some∧Inv (cxCompC X N' scope xs P2.objs.size s2 H2 fp pins) [] σ' H' s'∧tn i s'.heap∧(∀ b∈fp,H' b=none)∧W i n ys H') ?_ m0
      ⟨0,[],List.replicate k none++vs.map some,_,by simp,I',T.keep _ _ _ st2 (fun b hb o e=>old b o e),fun b hb=>by rw [upd_ne (below b (hfp b hb)).2]; exact (f2 b hb).1,w0⟩
    rintro n s3 ⟨i,ys,σ3,H3,hd3,J3,st3,fr3,w3⟩
    obtain ⟨hl,q3⟩:=turn i n ys H3 w3
    rcases q3 with ⟨stop,q⟩ | ⟨go,hlt,step⟩
    · refine thn (T.done (cxCompC X N' scope xs P2.objs.size s2 H2 fp pins) rfl rfl rfl hcalm i [] s3 σ3 H3 _ J3 (stat fr3) st3 stop) fun r s4 ⟨hr,J4⟩ => ?_
      subst hr
      exact fin ys σ3 H3 s4 J4 q
    · refine thn (T.item (cxCompC X N' scope xs P2.objs.size s2 H2 fp pins) rfl rfl rfl hcalm i [] s3 σ3 H3 _ J3 (stat fr3) st3 go) fun r s4 ⟨u,hr,h4⟩ => ?_
      subst hr
      refine thn h4 fun _ s5 ⟨x,H5,J5,r5,y5,st5,fr5⟩ => ?_
      have J5':=J5.pinned (stat fr5) (T.obj _ _ st5)
      have J6:Inv (cxCompC X N' scope xs P2.objs.size s2 H2 fp pins) ([]++pinsAt fp s5.heap) (List.replicate k none++vs.map some) H5 s5:=J5'.weak (by rw [J5'.len]; exact caps_len hvs his hN hk) (caps_keep hd3)
      refine wpAny_mono (hg _ _ _ _ _ _ s5 _ H5 x u _ J6 r5 (step x H5 y5)) (fun _ s6 ⟨σ6,H6,J7,hd6,q6⟩ => ?_) fun _ _ z=>False.elim z
      refine wpAny_mono (he _ _ _ _ _ _ s6 σ6 H6 _ J7 q6) (fun yv s7 ⟨y,H7,J8,r7,q7⟩ => ?_) fun _ _ z=>False.elim z
      obtain ⟨hl7,m',hm',w7⟩:=q7
      refine wpAny_mono (mt_append (X:=cxCompC X N' scope xs P2.objs.size s2 H2 fp pins) _ s7 σ6 H7 (.ref s2.heap.objs.size) [y] (.ref s2.heap.objs.size) [yv] (fun v H8=>H8=upd H7 s2.heap.objs.size (.lst (ys++[y]))) J8 rfl (.cons r7 .nil) ⟨_,ys,y,rfl,rfl,hl7,hlt,rfl⟩) (fun _ s8 ⟨v8,H8,J9,r8,e8⟩ => ?_) fun _ _ z=>False.elim z
      subst e8
      have pk:∀ b∈fp,∀ o,s5.heap.get? b=some o→s8.heap.get? b=some o∧upd H7 s2.heap.objs.size (.lst (ys++[y])) b=none:=fun b hb o e =>
        let z:=J9.pin (b,o) (List.mem_append_right _ (List.mem_append_right _ (mem_pinsAt hb e)))
        ⟨z.1,z.2.1⟩
      refine ⟨m',hm',i + 1,ys++[y],σ6,_,hd6,J9.unpinned,T.keep _ _ _ st5 fun b hb o e=>(pk b hb o e).1,fun b hb => ?_,w7⟩
      obtain ⟨o,e,_⟩:=T.obj _ _ st5 b hb
      exact (pk b hb o e).2
  exact codeAny_compStart_list loop (T.self X.A 0 { s2 with heap:=h₁,toks:=s2.toks + ([]:List (Str × Value)).length } _ _ (T.keep _ _ _ st2 fun b hb o e=>old b o e) loop)
end
end L2

namespace L2
open PySem PySem.Spec PyProof.Rows

section
variable {X:Cx}
end
mutual
inductive Dat (H:Hp):V→PyData→Prop
  | non:Dat H .non .none
  | bl (b:Bool):Dat H (.bl b) (.bool b)
  | int (i:Int):Dat H (.int i) (.int i)
  | str (x:Str):Dat H (.str x) (.str x)
  | lst {a:Addr} {xs:List V} {ds:List PyData}:H a=some (.lst xs)→Dats H xs ds→Dat H (.ref a) (.list ds)
  | tup {a:Addr} {xs:List V} {ds:List PyData}:H a=some (.tup xs)→Dats H xs ds→Dat H (.ref a) (.tuple ds)
inductive Dats (H:Hp):List V→List PyData→Prop
  | nil:Dats H [] []
  | cons {x:V} {xs:List V} {d:PyData} {ds:List PyData}:Dat H x d→Dats H xs ds→Dats H (x::xs) (d::ds)
end
section
variable {P:Program} {w:World} {H:Hp} {h:Heap}
mutual
theorem Dat.reads (ok:HOk P w H h):∀ {x:V} {d:PyData} {u:Value},Dat H x d→RelV x u→∃ as,Reads h u d as
  | _,_,u,.non,r=>by cases (show u=Value.none from r); exact ⟨_,.none⟩
  | _,_,u,.bl b,r=>by cases (show u=Value.bool b from r); exact ⟨_,.bool b⟩
  | _,_,u,.int i,r=>by obtain ⟨t,rfl⟩:=r; exact ⟨_,.int i t⟩
  | _,_,u,.str x,r=>by obtain ⟨t,rfl⟩:=r; exact ⟨_,.str x t⟩
  | _,_,u,.lst (a:=a) e q,r=>by
    cases (show u=Value.ref a from r)
    obtain ⟨_,its,n,rv,g⟩:=ok a _ e
    obtain ⟨as,rs⟩:=Dats.reads ok q rv
    exact ⟨_,.list g rfl rfl rs⟩
  | _,_,u,.tup (a:=a) e q,r=>by
    cases (show u=Value.ref a from r)
    obtain ⟨_,its,rv,o,g,c,n,dd⟩:=ok a _ e
    obtain ⟨as,rs⟩:=Dats.reads ok q rv
    exact ⟨_,.tuple g c dd rs⟩
theorem Dats.reads (ok:HOk P w H h):∀ {xs:List V} {ds:List PyData} {us:List Value},Dats H xs ds→Vals xs us→∃ as,ReadsAll h us ds as
  | _,_,_,.nil,.nil=>⟨_,.nil⟩
  | _,_,_,.cons p q,.cons r s=>by
    obtain ⟨as,x⟩:=Dat.reads ok p r
    obtain ⟨bs,y⟩:=Dats.reads ok q s
    exact ⟨_,.cons x y⟩
end
end
def rEqD (neg:Bool):R2:=fun x y H Q=>∃ d1 d2,Dat H x d1∧Dat H y d2∧SeqAt.shaped d1=true∧SeqAt.shaped d2=true∧Q (.bl (if neg then !PyData.eqv d1 d2 else PyData.eqv d1 d2)) H
section
variable {X:Cx}
theorem op_eqD {k:Nat} (hr:Room k X.A):OpR X (compareOp .Eq) (rEqD false):=by
  intro pins s σ H x y v u Q I rx ry h
  obtain ⟨d1,d2,p,q,s1,s2,h⟩:=h
  obtain ⟨as,r1⟩:=p.reads I.hok rx
  obtain ⟨bs,r2⟩:=q.reads I.hok ry
  exact eq_dataH r1 r2 s1 s2 hr.units ⟨.bl _,H,I,rfl,h⟩
theorem op_neD {k:Nat} (hr:Room k X.A):OpR X (compareOp .NotEq) (rEqD true):=by
  intro pins s σ H x y v u Q I rx ry h
  obtain ⟨d1,d2,p,q,s1,s2,h⟩:=h
  obtain ⟨as,r1⟩:=p.reads I.hok rx
  obtain ⟨bs,r2⟩:=q.reads I.hok ry
  exact ne_dataH r1 r2 s1 s2 hr.units ⟨.bl _,H,I,rfl,h⟩
end
end L2

namespace L2
open PySem PySem.Spec PyProof.Rows
section
variable {X:Cx}
theorem call_any (hc:X.calm=true):CallR X (.builtin "any") (fun xs H Q=>∃ (a:Addr) (bs:List Bool),xs=[.ref a]∧SqL X.K H a (bs.map V.bl)∧Q (.bl (bs.any id)) H):=by
  intro pins s σ H xs us Q I r h
  obtain ⟨a,bs,rfl,hS,q⟩:=h
  obtain ⟨u,rfl,ru⟩:=vals1 r
  cases ru
  obtain ⟨its,rv,pl,_⟩:=I.list hS
  have hb:=boolsAre_of rv
  have hlt:a < s.heap.objs.size:=by obtain ⟨_,e,_⟩:=pl.isList; exact Heap.lt_size e
  refine call_any_walk (wpAny_pyIter_list pl.isList ?_)
  refine ⟨s.heap.objs.size,[s.heap.objs.size,a],[s.heap.objs.size],its.toArray.size,_,_,fun i=>(bs[i]?).getD false,rfl,Walks.list (A:=X.A.in1) (I.ok.hd hc) _ a (Nat.ne_of_lt hlt) its.toArray,
    ⟨⟨_,Heap.get?_push_size _ rfl,rfl,rfl⟩,pl.isList.push _⟩,fun i v s' Q' E' hP hQ => ?_,fun h' tk hk => ?_⟩
  · obtain ⟨b,e,rfl⟩:=hb.get i v (by simpa using hP)
    simp only [e,Option.getD_some] at hQ
    exact wpAny_truthy_bool hQ
  · have e:((List.range its.toArray.size).any fun i=>(bs[i]?).getD false)=bs.any id:=by
      rw [List.size_toArray,hb.length]; exact LSm.range_any bs
    rw [e]
    exact ⟨.bl _,H,I.kept (LSm.kept_iter hk),rfl,q⟩
end
section
variable {X:Cx} {K:PySem.W.Frag}

theorem ix_listK (hK:X.K=K:=by rfl):IxR X (rIxL K):=hK▸ix_list
theorem ix_tupK (hK:X.K=K:=by rfl):IxR X (rIxT K):=hK▸ix_tup
theorem call_isiTK (T:String) (hK:X.K=K:=by rfl):CallR X (.builtin "isinstance") (rIsiT K T):=hK▸call_isiT T
end

section
variable {K:PySem.W.Frag} {σ0 cs:St} {k:Nat} {g:TG} {te:TE} {tt:TT} {H1:Hp} {Q:VK}
theorem compC_by {J:It} (n:Nat) (gv:Nat→V→Prop) (Pv:Addr→Nat→List V→Hp→Prop) (hn:n≤sizeLine)
    (hgo:∀ D i ys H,i < n→Pv D i ys H→J.go i H) (hst:∀ D ys H,Pv D n ys H→J.stop n H) (hy:∀ D i ys H x H',i < n→Pv D i ys H→J.yld i H x H'→H'=H∧gv i x)
    (hl:∀ D i ys H,Pv D i ys H→H D=some (.lst ys)∧ys.length≤i) (h0:∀ D,H1 D=none→Pv D 0 [] (upd H1 D (.lst [])))
    (hs:∀ D i x ys H,i < n→gv i x→H1 D=none→Pv D i ys H→g x σ0 H fun σ2 H3=>σ2.drop k=cs∧te σ2 H3 fun y H4=>H4 D=some (.lst ys)∧Pv D (i + 1) (ys++[y]) (upd H4 D (.lst (ys++[y]))))
    (hd:∀ D ys H,H1 D=none→Pv D n ys H→Q (.ref D) H) (mono:∀ x σ H (R R':St→Hp→Prop),(∀ σ' H',R σ' H'→R' σ' H')→g x σ H R→g x σ H R')
    (mono2:∀ σ H (R R':VK),(∀ v H',R v H'→R' v H')→te σ H R→te σ H R'):compKC σ0 k cs g te Q J H1:=by
  intro D hD
  refine ⟨fun i m ys H=>m=n - i∧i≤n∧Pv D i ys H,⟨n,rfl,Nat.zero_le _,h0 D hD⟩,?_⟩
  rintro i m ys H ⟨rfl,hi,p⟩
  obtain ⟨e1,e2⟩:=hl D i ys H p
  refine ⟨e1,?_⟩
  by_cases hlt:i < n
  · refine .inr ⟨hgo D i ys H hlt p,by omega,fun x H' y => ?_⟩
    obtain ⟨rfl,hx⟩:=hy D i ys H x H' hlt p y
    refine mono _ _ _ _ _ (fun σ2 H3 ⟨z1,z2⟩=>⟨z1,mono2 _ _ _ _ (fun v H4 ⟨z3,z4⟩=>⟨z3,n - (i + 1),by omega,rfl,hlt,z4⟩) z2⟩) (hs D i x ys H' hlt hx hD p)
  · have e:i=n:=by omega
    subst e
    exact .inl ⟨hst D ys H p,hd D ys H hD p⟩
theorem compC_list {a:Addr} (xs:List V) (Pv:Addr→Nat→List V→Hp→Prop) (hn:xs.length≤sizeLine) (hq:∀ D i ys H,Pv D i ys H→SqL K H a xs)
    (hl:∀ D i ys H,Pv D i ys H→H D=some (.lst ys)∧ys.length≤i) (h0:∀ D,H1 D=none→Pv D 0 [] (upd H1 D (.lst [])))
    (hs:∀ D i x ys H,xs[i]? = some x→H1 D=none→Pv D i ys H→g x σ0 H fun σ2 H3=>σ2.drop k=cs∧te σ2 H3 fun y H4=>H4 D=some (.lst ys)∧Pv D (i + 1) (ys++[y]) (upd H4 D (.lst (ys++[y]))))
    (hd:∀ D ys H,H1 D=none→Pv D xs.length ys H→Q (.ref D) H) (mono:∀ x σ H (R R':St→Hp→Prop),(∀ σ' H',R σ' H'→R' σ' H')→g x σ H R→g x σ H R')
    (mono2:∀ σ H (R R':VK),(∀ v H',R v H'→R' v H')→te σ H R→te σ H R'):compKC σ0 k cs g te Q (Itl K a) H1 :=
  compC_by xs.length (fun i x=>xs[i]? = some x) Pv hn (fun D i ys H hi p=>⟨xs,xs[i],hq D i ys H p,by simp [hi]⟩) (fun D ys H p=>⟨xs,hq D _ ys H p,Nat.le_refl _⟩)
    (fun D i ys H x H' hi p y=>⟨y.1,y.2 xs (hq D i ys H p)⟩) hl h0 (fun D i x ys H hi hx hD p=>hs D i x ys H hx hD p) hd mono mono2
theorem compC_tup {a:Addr} (xs:List V) (Pv:Addr→Nat→List V→Hp→Prop) (hn:xs.length≤sizeLine) (hq:∀ D i ys H,Pv D i ys H→SqT K H a xs)
    (hl:∀ D i ys H,Pv D i ys H→H D=some (.lst ys)∧ys.length≤i) (h0:∀ D,H1 D=none→Pv D 0 [] (upd H1 D (.lst [])))
    (hs:∀ D i x ys H,xs[i]? = some x→H1 D=none→Pv D i ys H→g x σ0 H fun σ2 H3=>σ2.drop k=cs∧te σ2 H3 fun y H4=>H4 D=some (.lst ys)∧Pv D (i + 1) (ys++[y]) (upd H4 D (.lst (ys++[y]))))
    (hd:∀ D ys H,H1 D=none→Pv D xs.length ys H→Q (.ref D) H) (mono:∀ x σ H (R R':St→Hp→Prop),(∀ σ' H',R σ' H'→R' σ' H')→g x σ H R→g x σ H R')
    (mono2:∀ σ H (R R':VK),(∀ v H',R v H'→R' v H')→te σ H R→te σ H R'):compKC σ0 k cs g te Q (Itt K a) H1 :=
  compC_by xs.length (fun i x=>xs[i]? = some x) Pv hn (fun D i ys H hi p=>⟨xs,xs[i],hq D i ys H p,by simp [hi]⟩) (fun D ys H p=>⟨xs,hq D _ ys H p,Nat.le_refl _⟩)
    (fun D i ys H x H' hi p y=>⟨y.1,y.2 xs (hq D i ys H p)⟩) hl h0 (fun D i x ys H hi hx hD p=>hs D i x ys H hx hD p) hd mono mono2
end
inductive Tr where
  | col (i:Int)
  | four (a b c d:Tr)
deriving DecidableEq
def Tr.data:Tr→PyData
  | .col i=>.int i
  | .four a b c d=>.tuple [a.data,b.data,c.data,d.data]
def Tr.deep:Tr→Nat
  | .col _=>0
  | .four a b c d=>max a.deep (max b.deep (max c.deep d.deep)) + 1
def Tr.isCol:Tr→Bool
  | .col _=>true
  | .four ..=>false
inductive TrAt (H:Hp):V→Tr→Prop
  | col (i:Int):TrAt H (.int i) (.col i)
  | four {p:Addr} {a b c d:V} {ta tb tc td:Tr}:H p=some (.tup [a,b,c,d])→TrAt H a ta→TrAt H b tb→TrAt H c tc→TrAt H d td→TrAt H (.ref p) (.four ta tb tc td)

def Tups (H H':Hp):Prop:=∀ b xs,H b=some (.tup xs)→H' b=some (.tup xs)
theorem Same.tups {H H':Hp} (s:Same H H'):Tups H H':=fun b xs e=>s b _ e
theorem Tups.refl (H:Hp):Tups H H:=fun _ _ e=>e
theorem Tups.trans {H H' H'':Hp} (s:Tups H H') (t:Tups H' H''):Tups H H'':=fun b xs e=>t b xs (s b xs e)
theorem Tups.lst {H:Hp} {l:Addr} {xs ys:List V} (e:H l=some (.lst xs)):Tups H (upd H l (.lst ys)):=fun b zs q=>by
  rw [upd_ne (ne_of q e (by intro z; cases z))]; exact q
theorem TrAt.up {H H':Hp} (s:Tups H H'):∀ {v:V} {t:Tr},TrAt H v t→TrAt H' v t
  | _,_,.col i=>.col i
  | _,_,.four e a b c d=>.four (s _ _ e) (TrAt.up s a) (TrAt.up s b) (TrAt.up s c) (TrAt.up s d)
theorem TrAt.dat {H:Hp}:∀ {v:V} {t:Tr},TrAt H v t→Dat H v t.data
  | _,_,.col i=>.int i
  | _,_,.four e a b c d=>.tup e (.cons a.dat (.cons b.dat (.cons c.dat (.cons d.dat .nil))))
theorem Tr.eqv:∀ t u:Tr,PyData.eqv t.data u.data=decide (t=u)
  | .col i,.col j=>by
    show (i == j)=_
    by_cases h:i=j <;> simp [h]
  | .col i,.four ..=>by
    show false=_
    simp
  | .four ..,.col j=>by
    show false=_
    simp
  | .four a b c d,.four a' b' c' d'=>by
    show (PyData.eqv a.data a'.data && (PyData.eqv b.data b'.data && (PyData.eqv c.data c'.data && (PyData.eqv d.data d'.data && true))))=_
    rw [Tr.eqv a a',Tr.eqv b b',Tr.eqv c c',Tr.eqv d d']
    by_cases h1:a=a' <;> by_cases h2:b=b' <;> by_cases h3:c=c' <;> by_cases h4:d=d' <;> simp [h1,h2,h3,h4]
theorem Tr.lay:∀ t:Tr,t.data.canLay0=true
  | .col i=>rfl
  | .four a b c d=>by
    show (a.data.canLay0 && (b.data.canLay0 && (c.data.canLay0 && (d.data.canLay0 && true))))=true
    rw [Tr.lay a,Tr.lay b,Tr.lay c,Tr.lay d]; rfl
theorem Tr.depth:∀ t:Tr,t.data.depth=t.deep
  | .col i=>rfl
  | .four a b c d=>by
    show max a.data.depth (max b.data.depth (max c.data.depth (max d.data.depth 0))) + 1=_
    rw [Tr.depth a,Tr.depth b,Tr.depth c,Tr.depth d,Nat.max_zero]; rfl
theorem Tr.shaped {t:Tr} (h:t.deep≤64):SeqAt.shaped t.data=true:=by
  unfold SeqAt.shaped
  rw [Tr.lay,Tr.depth,decide_eq_true h]; rfl
theorem TrAt.ty {K:PySem.W.Frag} {H:Hp} {v:V} {t:Tr} (h:TrAt H v t):TyOf K H v (if t.isCol then .type "int" else .type "tuple"):=by
  cases h with
  | col i=>exact .int i
  | four e=>exact .tup e
end L2

namespace L2
open PySem PySem.Spec PyProof.Rows

section
variable {X:Cx} {elt tg iter cnd:Expr} {scope:Scope} {pos:Pos} {N':List Str} {wi:TI} {g:TG} {te:TE} {tt:TT}
theorem ps_setC {y:Str} {py spos:Pos} {i0:Nat} (xs caps:List Str) (is:List Nat) (k:Nat) (hclos:closureFor scope X.env=pure (clo X.env xs)) (hin:(xs.all fun x=>(X.env.cells.lookup x).isSome)=true) (hcap:CapsOk X.env scope xs caps) (his:is.map (X.N[·]?)=caps.map some) (hN:N'.drop k=caps) (hk:k≤N'.length)
    (hallB:((relabel scope X.env).names.all fun y => !(y.2 == .cell || y.2 == .free) || xs.contains y.1)=true) (hcell:∀ y∈scope.names,y.2≠.cell) (hkind:scope.kind=.function) (hnames:∀ y∈scope.names,y.2=.local→scope.names.lookup y.1=some .local)
    (hcalm:X.calm=true) (hi:PI X tg iter wi) (hg:∀ C s0 H0 fp pins,PG (cxCompC X N' scope xs C s0 H0 fp pins) tg g) (he:∀ C s0 H0 fp pins,PE (cxCompC X N' scope xs C s0 H0 fp pins) elt te)
    (hNd:X.N.Nodup) (hi0:X.N[i0]? = some y) (hy:Loc X.env.scope y) (hsw:swapsWith (.ListComp elt [⟨tg,iter,[],0⟩] scope pos) (some (.Name y py)) spos.line X.env=pure true:=by rfl) (hf:X.fn y=true∨X.env.scope.names.lookup y=some .local:=by first | exact .inl rfl | exact .inr rfl | assumption)
    (hs:∀ x,foldedSetIterable iter X.env x=pure x:=by intro _; rfl):PS X (.Assign [.Name y py] (.ListComp elt [⟨tg,iter,[],0⟩] scope pos) spos) (tAsg (tCompC is k wi g te) (gName i0)):=by
  intro pins s σ H D0 I h
  have hall:=all_of hallB
  obtain ⟨vs,hvs,h⟩:=h
  rw [exec_Assign_Name_used _ _ _ _ hsw]
  refine wpAny_bind (wpAny_standAt (wpAny_bind ?_))
  show wpAny _ X.A (do let _ ← comprehension (.ListComp elt [⟨tg,iter,[],0⟩] scope pos) scope X.env _ (newList []) false (eval iter X.env) (some (assign (.Name y py) X.env))) _ _ s
  refine wpAny_bind (wpAny_mono (wpAny_comprehension_free (use:=some (assign (.Name y py) X.env)) (Q:=fun _ s'=>SP X pins D0 .next s') rfl hs hclos hkind hnames (thn (hi pins s σ H _ I h) fun v s1 h1=>thn h1 fun itv s2 h2 => ?_)) (fun _ s' hq=>wpAny_pure (wpAny_pure hq)) fun _ _ e=>e)
  obtain ⟨it,fp,tn,J,H2,e,I2,T,st2,f2,hW⟩:=h2
  subst e
  refine wpAny_newObj_type (wpAny_newFunctionEnv hcell (by intro y hy; simp at hy) (fun h₁ hns₁ hsb₁ => ?_) hkind)
  dsimp only at hns₁ hsb₁ ⊢
  generalize hH2:s2.heap.push { cls:=.type "list",dict:=none,data:=.seq ([]:List Value).toArray }=P2 at hns₁ hsb₁ ⊢
  have hC:P2.objs.size=s2.heap.objs.size + 1:=by rw [← hH2,Heap.size_push]
  have below:∀ b,b < s2.heap.objs.size→b≠P2.objs.size∧b≠s2.heap.objs.size:=fun b hb=>⟨by rw [hC]; exact Nat.ne_of_lt (Nat.lt_succ_of_lt hb),Nat.ne_of_lt hb⟩
  have hDC:s2.heap.objs.size≠P2.objs.size:=by rw [hC]; exact Nat.ne_of_lt (Nat.lt_succ_self _)
  have old:∀ b o,s2.heap.get? b=some o→h₁.get? b=some o:=fun b o e=>hsb₁.extBut b o (below b (Heap.lt_size e)).1 (Heap.get?_push_of_some _ (hH2▸Heap.get?_push_of_some _ e))
  have hD:h₁.get? s2.heap.objs.size=some { cls:=.type "list",dict:=none,data:=.seq ([]:List Value).toArray }:=hsb₁.extBut _ _ hDC (Heap.get?_push_of_some _ (hH2▸Heap.get?_push_size _ rfl))
  have frD:H2 s2.heap.objs.size=none:=I2.hok.fresh (Nat.le_refl _)
  have frC:H2 P2.objs.size=none:=I2.hok.fresh (by rw [hC]; exact Nat.le_succ _)
  have hfp:∀ b∈fp,b < s2.heap.objs.size:=fun b hb=>by
    obtain ⟨o,e,_⟩:=T.obj _ _ st2 b hb
    exact Heap.lt_size e
  have nst:∀ b,b≠X.env.locals→b∉X.fs→b∉frs X.stack:=fun b n1 n2 z=>by
    rcases List.mem_cons.mp (I2.stkSub b z) with e | e
    · exact n1 e
    · exact n2 e
  obtain ⟨W,⟨m0,w0⟩,turn⟩:=hW s2.heap.objs.size frD
  have csub:∀ (x:Str) (c:Addr),(clo X.env xs).lookup x=some c→X.env.cells.lookup x=some c:=fun x c e=>clo_sub hin e
  have cold:∀ (x:Str) (c:Addr),(clo X.env xs).lookup x=some c→∃ v,s2.heap.IsCell c v:=fun x c e=>I2.cell x c (csub x c e)
  have clt:∀ (x:Str) (c:Addr),(clo X.env xs).lookup x=some c→c < s2.heap.objs.size:=fun x c e=>by
    obtain ⟨v,o,ho,_⟩:=cold x c e
    exact Heap.lt_size ho
  have ok':(cxCompC X N' scope xs P2.objs.size s2 H2 fp pins).Ok:=by
    refine ⟨I2.ok.mod,hkind,I2.ok.glob,I2.ok.blt,?_,fun x y c e e'=>I2.ok.inj x y c (csub x c e) (csub y c e'),fun x hx => ?_,(fun x c z _=>by cases z),I2.ok.hd,I2.ok.frames,.inl rfl,fun b hb=>⟨(below b (hfp b hb)).1,fun x c e=>(f2 b hb).2.2.2.2.1 x c (csub x c e)⟩,I2.bs,Nat.le_trans I2.ok.bsz I2.sz,fun b o e hb => ?_,fun b hb=>nst b (f2 b hb).2.1 (f2 b hb).2.2.1,I2.stack,I2.stkFree⟩
    · show s2.heap.objs.size≤P2.objs.size
      rw [hC]; exact Nat.le_succ _
    · have hx':(relabel scope X.env).names.lookup x=some .cell∨(relabel scope X.env).names.lookup x=some .free:=hx
      rcases hx' with z | z
      · exact clo_has (hall _ (PySem.mem_of_lookup z) (.inl rfl))
      · exact clo_has (hall _ (PySem.mem_of_lookup z) (.inr rfl))
    · rcases (f2 b hb).2.2.2.1 with z | z
      · exact I2.ok.noex b o e z
      · exact absurd (Nat.lt_of_lt_of_le (Heap.lt_size (I2.ok.bs b o e).1) z) (Nat.lt_irrefl _)
  have I':Inv (cxCompC X N' scope xs P2.objs.size s2 H2 fp pins) [] (List.replicate k none++vs.map some) (upd H2 s2.heap.objs.size (.lst [])) { s2 with heap:=h₁,toks:=s2.toks + ([]:List (Str × Value)).length }:=by
    refine ⟨ok',rfl,I2.bare,Un.laid old (Nat.le_refl _) frD,⟨_,hns₁,fun i x v e1 e2 e3 => ?_⟩,fun x c e => ?_,?_,fun x c e => ?_,fun p hp => ?_,I2.hok.laid old (Nat.le_refl _) ⟨by simp,[],0,.nil,hD⟩,?_⟩
    · obtain ⟨j,ej,hj1,hj2⟩:=caps_at hvs his hN e1 e2
      obtain ⟨hc1,hc2,hc3⟩:=hcap x hj1
      obtain ⟨m,hn,hl⟩:=I2.loc
      obtain ⟨u,r,l⟩:=hl j x v ej hj2 (.inr (.inl hc1))
      refine ⟨u,r,.inr ⟨.inl hc2,?_⟩⟩
      rcases l with ⟨z,_⟩ | ⟨_,c,ec,⟨o,ho,hd⟩⟩
      · rw [show X.env.kindOf x=some .cell from hc1] at z; cases z
      · exact ⟨c,clo_of hc3 ec,o,old _ _ ho,hd⟩
    · obtain ⟨v,o,ho,hd⟩:=cold x c e
      exact ⟨v,o,old _ _ ho,hd⟩
    · show upd H2 s2.heap.objs.size (.lst []) P2.objs.size=none
      rw [upd_ne (Ne.symm hDC)]; exact frC
    · show upd H2 s2.heap.objs.size (.lst []) c=none
      rw [upd_ne (below _ (clt x c e)).2]; exact I2.freeC x c (csub x c e)
    · have hp':p∈X.pn++pins:=by
        rcases List.mem_append.mp hp with z | z
        · exact z
        · cases z
      obtain ⟨a1,a2,a3,a4,a5⟩:=I2.pin p hp'
      refine ⟨old _ _ a1,?_,(below _ (Heap.lt_size a1)).1,nst _ a3 a4,a5⟩
      rw [upd_ne (below _ (Heap.lt_size a1)).2]; exact a2
    · show (List.replicate k none++vs.map some).length=N'.length
      exact caps_len hvs his hN hk
  have stat:∀ {H':Hp},(∀ b∈fp,H' b=none)→∀ b∈fp,FpOk (cxCompC X N' scope xs P2.objs.size s2 H2 fp pins) [] H' b:=fun {H'} hn b hb =>
    ⟨hn b hb,(below b (hfp b hb)).1,nst b (f2 b hb).2.1 (f2 b hb).2.2.1,.inl hb,fun x c e=>(f2 b hb).2.2.2.2.1 x c (csub x c e),fun p hp=>(f2 b hb).2.2.2.2.2 p (by
      rcases List.mem_append.mp hp with z | z
      · exact z
      · cases z)⟩
  have fin:∀ (ys:List V) (σ':St) (H':Hp) (s':Shared),Inv (cxCompC X N' scope xs P2.objs.size s2 H2 fp pins) [] σ' H' s'→D0.nx (σ.set i0 (some (.ref s2.heap.objs.size))) H' →
      wpAny (model X.prog X.w) X.A (assign (.Name y py) X.env (.ref s2.heap.objs.size)) (fun _ s''=>∃ m,s''.heap.Ns P2.objs.size m∧∀ h',Heap.SameBut P2.objs.size s''.heap h'→SP X pins D0 .next { s'' with heap:=h' }) X.xe s':=by
    intro ys σ' H' s' J1 q
    obtain ⟨m,hm,_⟩:=id J1.loc
    have J2:Inv X pins σ H' s':=I2.call' (s':=s') (ch:=fp) J1.os ⟨J1.base.keep,J1.base.slot,J1.base.free,J1.base.there,J1.base.tups,J1.base.frzs,J1.base.tbls⟩ J1.hok J1.bare fun b hb=>⟨(f2 b hb).2.2.2.1,(f2 b hb).2.1,(f2 b hb).2.2.2.2.1,(f2 b hb).2.2.2.2.2⟩
    have s0C:X.s₀.heap.objs.size≤P2.objs.size:=Nat.le_trans I2.sz (by rw [hC]; exact Nat.le_succ _)
    have neL:P2.objs.size≠X.env.locals:=Ne.symm (below _ I2.lt).1
    have neC:∀ x c,X.env.cells.lookup x=some c→c≠P2.objs.size:=fun x c e=>by
      obtain ⟨v,o,ho,_⟩:=I2.cell x c e
      exact (below _ (Heap.lt_size ho)).1
    have neP:∀ p∈X.pn++pins,p.1≠P2.objs.size:=fun p hp=>(below _ (Heap.lt_size (I2.pin p hp).1)).1
    refine wpAny_assign_Name (store_ok2 J2 hNd hi0 hy (v:=.ref s2.heap.objs.size) rfl (fun s5 J5 hsb => ?_) hf)
    obtain ⟨a,sb,ha⟩:=hsb
    have nea:P2.objs.size≠a:=by
      rcases ha with rfl | ha
      · exact neL
      · exact Ne.symm (neC _ _ ha)
    refine ⟨m,hm.sameBut sb nea,fun h' sb'=>⟨_,H',?_,q⟩⟩
    exact J5.turned (t':=s5.toks) (fun b o hb e=>(sb'.2 b hb).trans e) J1.free neL (.inr s0C) neC neP
  have loop:codeAny (model X.prog X.w) X.A (.compLoop (.ListComp elt [⟨tg,iter,[],0⟩] scope pos) 0 (.ref it) (.ref s2.heap.objs.size) (compEnvC scope (clo X.env xs) P2.objs.size X.env))
      (compPost (model X.prog X.w) X.A X.xe (some (assign (.Name y py) X.env)) (fun _ s'=>SP X pins D0 .next s') (.ref s2.heap.objs.size) P2.objs.size)
      { s2 with heap:=h₁,toks:=s2.toks + ([]:List (Str × Value)).length }:=by
    refine compLoop_go (fun n s'=>∃ i ys σ' H',σ'.drop k=vs.map some∧Inv (cxCompC X N' scope xs P2.objs.size s2 H2 fp pins) [] σ' H' s'∧tn i s'.heap∧(∀ b∈fp,H' b=none)∧W i n ys H') ?_ m0
      ⟨0,[],List.replicate k none++vs.map some,_,by simp,I',T.keep _ _ _ st2 (fun b hb o e=>old b o e),fun b hb=>by rw [upd_ne (below b (hfp b hb)).2]; exact (f2 b hb).1,w0⟩
    rintro n s3 ⟨i,ys,σ3,H3,hd3,J3,st3,fr3,w3⟩
    obtain ⟨hl,q3⟩:=turn i n ys H3 w3
    rcases q3 with ⟨stop,q⟩ | ⟨go,hlt,step⟩
    · refine thn (T.done (cxCompC X N' scope xs P2.objs.size s2 H2 fp pins) rfl rfl rfl hcalm i [] s3 σ3 H3 _ J3 (stat fr3) st3 stop) fun r s4 ⟨hr,J4⟩ => ?_
      subst hr
      exact fin ys σ3 H3 s4 J4 q
    · refine thn (T.item (cxCompC X N' scope xs P2.objs.size s2 H2 fp pins) rfl rfl rfl hcalm i [] s3 σ3 H3 _ J3 (stat fr3) st3 go) fun r s4 ⟨u,hr,h4⟩ => ?_
      subst hr
      refine thn h4 fun _ s5 ⟨x,H5,J5,r5,y5,st5,fr5⟩ => ?_
      have J5':=J5.pinned (stat fr5) (T.obj _ _ st5)
      have J6:Inv (cxCompC X N' scope xs P2.objs.size s2 H2 fp pins) ([]++pinsAt fp s5.heap) (List.replicate k none++vs.map some) H5 s5:=J5'.weak (by rw [J5'.len]; exact caps_len hvs his hN hk) (caps_keep hd3)
      refine wpAny_mono (hg _ _ _ _ _ _ s5 _ H5 x u _ J6 r5 (step x H5 y5)) (fun _ s6 ⟨σ6,H6,J7,hd6,q6⟩ => ?_) fun _ _ z=>False.elim z
      refine wpAny_mono (he _ _ _ _ _ _ s6 σ6 H6 _ J7 q6) (fun yv s7 ⟨y,H7,J8,r7,q7⟩ => ?_) fun _ _ z=>False.elim z
      obtain ⟨hl7,m',hm',w7⟩:=q7
      refine wpAny_mono (mt_append (X:=cxCompC X N' scope xs P2.objs.size s2 H2 fp pins) _ s7 σ6 H7 (.ref s2.heap.objs.size) [y] (.ref s2.heap.objs.size) [yv] (fun v H8=>H8=upd H7 s2.heap.objs.size (.lst (ys++[y]))) J8 rfl (.cons r7 .nil) ⟨_,ys,y,rfl,rfl,hl7,hlt,rfl⟩) (fun _ s8 ⟨v8,H8,J9,r8,e8⟩ => ?_) fun _ _ z=>False.elim z
      subst e8
      have pk:∀ b∈fp,∀ o,s5.heap.get? b=some o→s8.heap.get? b=some o∧upd H7 s2.heap.objs.size (.lst (ys++[y])) b=none:=fun b hb o e =>
        let z:=J9.pin (b,o) (List.mem_append_right _ (List.mem_append_right _ (mem_pinsAt hb e)))
        ⟨z.1,z.2.1⟩
      refine ⟨m',hm',i + 1,ys++[y],σ6,_,hd6,J9.unpinned,T.keep _ _ _ st5 fun b hb o e=>(pk b hb o e).1,fun b hb => ?_,w7⟩
      obtain ⟨o,e,_⟩:=T.obj _ _ st5 b hb
      exact (pk b hb o e).2
  exact codeAny_compStart_list loop (T.self X.A 0 { s2 with heap:=h₁,toks:=s2.toks + ([]:List (Str × Value)).length } _ _ (T.keep _ _ _ st2 fun b hb o e=>old b o e) loop)
end
end L2

namespace L2
open PySem PySem.Spec PyProof.Rows
section
variable {X:Cx}
theorem mt_find:MtR X "str.find" (fun x vs H Q=>∃ z y,x=.str z∧vs=[.str y]∧Q (.int (Txt.find z y)) H):=by
  intro pins s σ H x vs v us Q I rx rv h
  obtain ⟨z,y,rfl,rfl,q⟩:=h
  obtain ⟨t,rfl⟩:=rx
  obtain ⟨u,rfl,tu,rfl⟩:=rv.one
  exact SC.find ⟨.int _,H,I.tok _,⟨_,rfl⟩,q⟩
end
end L2

namespace L2
open PySem PySem.Spec PyProof.Rows
section
variable {X:Cx} {pos:Pos}

theorem pg_tupK {K:PySem.W.Frag} {es:List Expr} {k:Nat} {t:TGs} {n:Nat} (hc:X.calm=true) (h:PGs X es t) (hK:X.K=K:=by rfl)
    (hn:(assignEach es X.env).length=n:=by rfl) (hst:(assignEach es X.env).findIdx? (·.1)=none:=by rfl):PG X (.Tuple es k pos) (gTup K n t):=by
  subst hK
  exact pg_tup hc h hn hst
end
end L2

namespace L2
open PySem PySem.Spec PyProof.Rows

def tCut (t:TS):TS:=fun D σ H=>∃ Pv:St→Hp→Prop,t { D with nx:=Pv } σ H∧∀ σ' H',Pv σ' H'→D.nx σ' H'
section
variable {X:Cx} {st:Stmt} {t:TS}
theorem ps_cut (h:PS X st t):PS X st (tCut t):=by
  intro pins s σ H D I ⟨Pv,h1,h2⟩
  refine thn (h pins s σ H { D with nx:=Pv } I h1) fun f s1 q => ?_
  cases f with
  | next =>
    obtain ⟨σ',H',I',q⟩:=q
    exact ⟨σ',H',I',h2 _ _ q⟩
  | ret v=>exact q
  | brk=>exact q
  | cont=>exact q
end
end L2

namespace L2
open PySem PySem.Spec PyProof.Rows
section
variable {prog:Program} {w:World} {A:Around} {E:Value→Shared→Prop} {s:Shared}

end
section
variable {prog:Program} {w:World} {A:Around} {E:Value→Shared→Prop} {s:Shared}
end
section
variable {X:Cx} {tg:Expr}
end
end L2

namespace L2
open PySem PySem.Spec PyProof.Rows
section
variable {K:PySem.W.Frag} {σ0 cs:St} {k:Nat} {g:TG} {te:TE} {tt:TT} {H1:Hp} {Q:VK}
end
section
variable {X:Cx} {K:PySem.W.Frag} {o e:Expr} {es:List Expr} {to:TE} {t:TA} {name:Str} {apos cpos:Pos} {T id:String} {r:V→List V→Hp→VK→Prop}
end
end L2

namespace L2
open PySem PySem.Spec PySem.Calls PyProof.Rows
section
variable {X:Cx}
end
section
variable {K:PySem.W.Frag} {σ0 cs:St} {k:Nat} {g:TG} {te:TE} {tt:TT} {H1:Hp} {Q:VK}
theorem compC_gen {n:Nat} {g':Nat→V} (Pv:Addr→Nat→List V→Hp→Prop) (hn:n≤sizeLine)
    (hl:∀ D i ys H,Pv D i ys H→H D=some (.lst ys)∧ys.length≤i) (h0:∀ D,H1 D=none→Pv D 0 [] (upd H1 D (.lst [])))
    (hs:∀ D i ys H,i < n→H1 D=none→Pv D i ys H→g (g' i) σ0 H fun σ2 H3=>σ2.drop k=cs∧te σ2 H3 fun y H4=>H4 D=some (.lst ys)∧Pv D (i + 1) (ys++[y]) (upd H4 D (.lst (ys++[y]))))
    (hd:∀ D ys H,H1 D=none→Pv D n ys H→Q (.ref D) H) (mono:∀ x σ H (R R':St→Hp→Prop),(∀ σ' H',R σ' H'→R' σ' H')→g x σ H R→g x σ H R')
    (mono2:∀ σ H (R R':VK),(∀ v H',R v H'→R' v H')→te σ H R→te σ H R'):compKC σ0 k cs g te Q (Itg n g') H1 :=
  compC_by n (fun i x=>x=g' i) Pv hn (fun D i ys H hi p=>hi) (fun D ys H p=>Nat.le_refl _)
    (fun D i ys H x H' hi p y=>y) hl h0 (fun D i x ys H hi hx hD p=>hx▸hs D i ys H hi hD p) hd mono mono2
end
end L2

namespace L2
open PySem PySem.Spec PySem.Calls PyProof.Rows
section
variable {X:Cx} {K:PySem.W.Frag}
end
end L2

namespace L2
open PySem PySem.Spec PySem.Calls PyProof.Rows

section
variable {P:Program} {w:World} {K:PySem.W.Frag} {mg:Str→Option Value} {base:Heap}
end
section
variable {X:Cx} {CX:CXT} {j k:Nat} {ps:List Str} {sp:Sp} {x:Str} {p pos:Pos} {e:Expr} {es:List Expr} {t:TA}
end
end L2


namespace Qs
open PySem L2
theorem len_eq (z:Str):z.length=z.cps.toList.length:=by
  show z.cps.size=z.cps.toList.length
  rw [Array.length_toList]

def IsC (z:Str):Prop:=∀ c∈z.cps.toList,48≤c∧c≤51
def dig (z:Str):List Nat:=z.cps.toList.map (· - 48)
theorem dig_len (z:Str):(dig z).length=z.length:=by simp [dig,len_eq]
theorem sgn_in {z:Str} {i:Nat} (hz:IsC z) (h:i < z.length):48≤z.cps.getD i 0∧z.cps.getD i 0≤51:=by
  have h':i < z.cps.size:=h
  refine hz _ ?_
  have e:z.cps.getD i 0=z.cps[i]:=by simp [Array.getD_eq_getD_getElem?,h']
  rw [e]
  exact Array.getElem_mem_toList h'

def one (d:Nat):Str:=⟨#[48 + d]⟩
theorem sgn_one {z:Str} {i:Nat} (hz:IsC z) (h:i < z.length):∃ d,d < 4∧sgn z i=one d∧z.cps.getD i 0 - 48=d:=by
  obtain ⟨h1,h2⟩:=sgn_in hz h
  refine ⟨z.cps.getD i 0 - 48,by omega,?_,rfl⟩
  unfold sgn one
  have e:48 + (z.cps.getD i 0 - 48)=z.cps.getD i 0:=by omega
  rw [e]
theorem four {P:Nat→Prop} (h0:P 0) (h1:P 1) (h2:P 2) (h3:P 3) {d:Nat} (h:d < 4):P d:=by
  rcases d with _ | _ | _ | _ | d
  · exact h0
  · exact h1
  · exact h2
  · exact h3
  · omega
theorem int_one {d:Nat} (h:d < 4):PySem.intText? (one d)=some (d:Int) :=
  four (P:=fun d=>PySem.intText? (one d)=some (d:Int)) (by decide +kernel) (by decide +kernel) (by decide +kernel) (by decide +kernel) h
theorem IsC.nil:IsC ⟨#[]⟩:=fun c h=>by simp at h
theorem IsC.app {a b:Str} (ha:IsC a) (hb:IsC b):IsC (a++b):=fun c h=>by
  have e:(a++b).cps.toList=a.cps.toList++b.cps.toList:=by
    show (a.cps++b.cps).toList=_
    simp
  rw [e] at h
  rcases List.mem_append.mp h with h | h
  · exact ha c h
  · exact hb c h
theorem IsC.one {d:Nat} (h:d < 4):IsC (one d):=fun c hc=>by
  have e:c=48 + d:=by simpa [Qs.one] using hc
  omega
end Qs

namespace L2
open PySem PySem.Spec PyProof.Rows
section
variable {X:Cx}
theorem pe_gstr {x z:Str} {pos:Pos} (h:∃ t,X.mg x=some (.str z t)) (hg:Gl X x:=by rfl) (hd:(x == ("__debug__" : Str))=false:=by decide):PE X (.Name x pos) (tC (.str z)):=by
  obtain ⟨t,h⟩:=h
  exact pe_glob hg h ⟨t,rfl⟩ hd
end
section
variable {X:Cx}
theorem pe_bty {x:Str} {n:String} {pos:Pos} (hm:X.mg x=none) (hv:bootBuiltins x=some (.type n)) (hg:Gl X x:=by rfl) (hn:x ≠ "__name__" := by decide) (hd:(x == ("__debug__" : Str))=false:=by decide):PE X (.Name x pos) (tC (.ty n)) :=
  pe_bltn hg hm hv rfl hn hd
end

theorem Same.new {H:Hp} {p:Addr} (h:H p=none) (o:HO):Same H (upd H p o):=fun b u q=>by rw [upd_ne (ne_of_none q h)]; exact q
theorem Same.set {H:Hp} {H':Hp} {p:Addr} (h:Same H H') (hp:H p=none) (o:HO):Same H (upd H' p o):=fun b u q=>by rw [upd_ne (ne_of_none q hp)]; exact h b u q
theorem small {n:Nat} (h:n≤1000):n≤sizeLine:=Nat.le_of_lt (small1000 h)
end L2

namespace L2
open PySem PySem.Spec PyProof.Rows
def notStar:PySem.Expr→Bool
  | .Starred _ _=>false
  | _=>true
theorem star_of {e:PySem.Expr} {es:List PySem.Expr} {env:Env} (h:notStar e=true):starEach (e::es) env=(false,eval e env)::starEach es env:=by
  cases e <;> first | rfl | (cases h)
theorem pa_c {X:Cx} {e:PySem.Expr} {es:List PySem.Expr} {te:TE} {t:TA} (ha:PE X e te) (hr:PA X es t) (h:notStar e=true:=by rfl):PA X (e::es) (tCons te t):=pa_cons ha hr (star_of h)
end L2
namespace L2
open PySem PySem.Spec PyProof.Rows
end L2
namespace L2
open PySem PySem.Spec PyProof.Rows

structure PAx (X:Cx) (es:List PySem.Expr) (t:TA):Prop where
  h:PA X es t
section
variable {X:Cx} {e:PySem.Expr} {es:List PySem.Expr} {te:TE} {t:TA} {pos:Pos}
theorem pax_nil:PAx X [] tNil:=⟨pa_nil⟩
theorem pax_c (ha:PE X e te) (hr:PAx X es t) (h:notStar e=true:=by rfl):PAx X (e::es) (tCons te t):=⟨pa_c ha hr.h h⟩
theorem pe_tupx {x1} (h:PAx X es t):PE X (.Tuple es x1 pos) (tTup t):=pe_tup h.h
theorem pe_lstx (h:PAx X es t):PE X (.List es pos) (tLst t):=pe_lst h.h
end
end L2

namespace L2
open PySem PySem.Spec PySem.Calls PyProof.Rows

section
variable {X:Cx}
end
def notComp:PySem.Expr→Bool
  | .ListComp _ _ _ _=>false
  | .SetComp _ _ _ _=>false
  | .DictComp _ _ _ _ _=>false
  | _=>true
theorem swaps_of {e:PySem.Expr} {t:Option PySem.Expr} {l:Nat} {env:Env} (h:notComp e=true):swapsWith e t l env=pure false:=by
  cases e <;> first | rfl | (cases h)

section
variable {X:Cx} {st:Stmt} {rest:List Stmt} {t u:TS}
end
section
variable {P:Program} {w:World} {K:PySem.W.Frag} {mg:Str→Option Value} {base:Heap}
end
end L2

namespace L2
open PySem PySem.Spec PySem.Calls PyProof.Rows
section
variable {X:Cx}

end

namespace HT
section
variable {prog:Program} {w:World} {A:Around} {E:Value→Shared→Prop} {s:Shared}
end
end HT
section
variable {X:Cx}
end

section
variable {X:Cx}
end
end L2

namespace L2
open PySem PySem.Spec PySem.Calls PyProof.Rows
section
variable {K:PySem.W.Frag} {σ0 cs:St} {k:Nat} {g:TG} {te:TE} {H1:Hp} {Q:VK}

end
section
variable {X:Cx}

end
end L2

namespace L2
open PySem PySem.Spec PySem.Calls PyProof.Rows

section
variable {prog:Program} {w:World} {A:Around} {E:Value→Shared→Prop} {s:Shared}
end


section
variable {X:Cx} {pins:List (Addr × Obj)} {σ:St}
end
end L2

namespace L2
open PySem PySem.Spec PySem.Calls PyProof.Rows PySem.W


section
variable {N:Nat} {f:Nat→Int}

end
end L2

namespace L2
open PySem PySem.Spec PySem.Calls PyProof.Rows PySem.W

section
variable {prog:Program} {w:World} {A:Around} {E:Value→Shared→Prop} {s:Shared}

end
end L2

namespace L2
open PySem PySem.Spec PySem.Calls PyProof.Rows PySem.W

theorem bt_sorted:bootBuiltins "sorted" = some (.builtin "sorted"):=by decide +kernel
section
variable {X:Cx} {pins:List (Addr × Obj)} {σ:St} {H H':Hp} {s:Shared} {h':Heap}

theorem sortedHeap_keep {h:Heap} {vs:List Value} {out:Array Value} {b:Addr} {o:Obj} (e:h.get? b=some o):(sortedHeap (h.push (seqObj "list" vs.toArray 0)) h.objs.size vs out).get? b=some o:=by
  rw [sortedHeap_old (Nat.ne_of_lt (Heap.lt_size e)) (by rw [size_push']; exact Nat.lt_succ_of_lt (Heap.lt_size e))]
  exact Heap.get?_push_of_some _ e
theorem sortedHeap_is {h:Heap} {vs:List Value} {out:Array Value}:∃ n,(sortedHeap (h.push (seqObj "list" vs.toArray 0)) h.objs.size vs out).get? h.objs.size=some (seqObj "list" out n) :=
  sortedHeap_at (n:=0) (Heap.get?_push_size _ rfl)

end
end L2

namespace L2
open PySem PySem.Spec PySem.Calls PyProof.Rows

section
variable {X:Cx}
theorem Room.dic {k:Nat} {A:Around} (r:Room k A):A.units + 1 < PySem.cLine:=by have:=r.un; omega
end
end L2

namespace L2
open PySem PySem.Spec PySem.Calls PyProof.Rows PySem.W

def Zs (Z:List (Addr × Obj)) (outer:List Env) (s:Shared) (H:Hp):Prop:=∀ q∈Z,s.heap.get? q.1=some q.2∧H q.1=none∧q.1∉frs outer

structure FnOkZ (Z:List (Addr × Obj)) (P:Program) (w:World) (K:PySem.W.Frag) (mg:Str→Option Value) (base:Heap) (CX:CXT) (k:Nat) (f:Addr) (fd:FuncData) (ps:List Str) (sp:Sp):Prop where
  len:∀ vs H Q E,sp vs H Q E→vs.length=ps.length
  run:∀ (A:Around) (outer:List Env) (s:Shared) (H:Hp) (args:Args) (us:List Value) (vs:List V) (Q:VK) (E:XK),Room k A→Env0 P w K mg base A outer s H→Zs Z outer s H→BindsTo s fd args (ps.zip us)→Vals vs us→sp vs H Q E →
    codeAny (model P w) A (.call (.ref f) args) (CR CX outer P w H s Q E) s
section
variable {X:Cx} {pins:List (Addr × Obj)} {σ:St} {H:Hp} {s:Shared} {Z:List (Addr × Obj)}
theorem Inv.zs (I:Inv X pins σ H s) (hz:Zs Z X.outer X.s₀ X.H₀) (hx:X.ex=[]):Zs Z X.stack s H:=fun q hq=>by
  obtain ⟨h1,h2,h3⟩:=hz q hq
  have nx:q.1∉X.ex:=by rw [hx]; simp
  refine ⟨I.base.keep _ _ h1 h2 h3 nx,I.base.free _ _ h1 h2 nx,fun z => ?_⟩
  rcases I.ok.stk with e | ⟨e,ef⟩
  · rw [e] at z; exact h3 z
  · rw [e] at z
    have z':q.1=X.env.locals∨q.1∈frs X.outer:=by
      have:frs (X.env::X.outer)=X.env.locals::frs X.outer:=by unfold frs; rw [List.filterMap_cons,ef]
      rw [this] at z
      exact List.mem_cons.mp z
    rcases z' with z' | z'
    · have:=Nat.lt_of_lt_of_le (Heap.lt_size h1) I.ok.above
      rw [z'] at this
      exact Nat.lt_irrefl _ this
    · exact h3 z'
end

theorem fnZ_of {Z:List (Addr × Obj)} {CX:CXT} {P:Program} {w:World} {K:PySem.W.Frag} {mg:Str→Option Value} {base:Heap} {k:Nat} {f:Addr} {name qual:Str} {params:Arguments} {body:List Stmt} {scope:Scope} {dV kV doc pm cdv ct oc:Value} {an od:Option Addr}
    {osl:Array (Option Value)} {N ps:List Str} {sp:Sp} (lk:K.lookup f=some ⟨oc,od,.func (PySem.W.fnOf name qual params body scope dV kV doc pm an cdv ct),osl⟩) (hcd:PySem.W.codeIn K cdv qual=true) (S:FnScope N ps scope)
    (len:∀ vs H Q E,sp vs H Q E→vs.length=ps.length)
    (hbody:∀ (A:Around) (outer:List Env) (s:Shared) (H:Hp) (vs:List V) (Q:VK) (E:XK),Room k (A.deeper (envOfC qual scope s.heap.objs.size f cdv))→Zs Z outer s H→sp vs H Q E →
      ∃ t,PSs (cxOf CX P w K mg base N qual scope f cdv A outer s H E) body t∧t { nx:=fun _ H'=>Q .non H',rt:=Q } (start N vs) H) :
    FnOkZ Z P w K mg base CX (k + 1) f (PySem.W.fnOf name qual params body scope dV kV doc pm an cdv ct) ps sp:=by
  refine ⟨len,fun A outer s H args us vs Q E hr e0 hz hb r hsp => ?_⟩
  have hl:=len _ _ _ _ hsp
  have KX:K.In s.heap:=e0.mod.kin.keeps fun b o e=>(e0.bs b o e).1
  have lim:s.heap.NoLimit:=e0.mod.nolimit.keeps fun b o e=>(e0.bs b o e).1
  have hkind:∀ y∈ps.zip us,scope.names.lookup y.1=some .local∨(scope.names.lookup y.1=some .cell∧((cellsFrom (s.heap.objs.size + 1) scope.names []).lookup y.1).isSome=true):=fun ⟨n,v⟩ hy=>by
    rcases S.par n (List.of_mem_zip hy).1 with q | q
    · exact .inl q
    · exact .inr ⟨q,PySem.W.cellsFrom_some _ _ _ (.inl q)⟩
  refine codeAny_call_function hr.depth (KX _ _ lk) rfl S.co S.gen rfl (PySem.W.codeRec_of KX hcd) (hb _ _ _ _ ?_)
  refine wpAny_newFunctionEnv_cells S.kind hkind fun env he s1 x => ?_
  subst he
  refine ⟨lim.keeps x.toInCall.keep,codeAny_func ?_⟩
  obtain ⟨t,ht,hq⟩:=hbody A outer s H vs Q E (hr.deeper _) hz hsp
  have I:Inv (cxOf CX P w K mg base N qual scope f cdv A outer s H E) [] (start N vs) H s1:=inv_start S hr.hd e0 hl r x
  refine wpAny_mono (ht [] s1 (start N vs) H _ I hq) (fun fl s' hs => ?_) fun e s' hs=>hs
  have fin:∀ {σ':St} {H':Hp} {v:V} {u:Value},Inv (cxOf CX P w K mg base N qual scope f cdv A outer s H E) [] σ' H' s'→RelV v u→Q v H'→CE outer P w H s Q u s' :=
    fun {σ' H' v u} J rv q=>⟨v,H',J.os,J.bare,J.base,J.hok,rv,q⟩
  cases fl with
  | ret u =>
    obtain ⟨v,σ',H',J,rv,q⟩:=hs
    exact fin J rv q
  | next =>
    obtain ⟨σ',H',J,q⟩:=hs
    exact fin (v:=V.non) (u:=Value.none) J rfl q
  | brk =>
    obtain ⟨_,_,_,q⟩:=hs
    exact False.elim q
  | cont =>
    obtain ⟨_,_,_,q⟩:=hs
    exact False.elim q
section
variable {P:Program} {w:World} {K:PySem.W.Frag} {mg:Str→Option Value} {base:Heap} {Z:List (Addr × Obj)}
theorem FunD.okZ {x qual:Str} {st:Stmt} {f:Addr} {fd:FuncData} {dV:Value} {N ps:List Str} {k:Nat} {sp:Sp} {CX:CXT} (F:FunD K x qual st f fd dV) (S:FnScope N ps (defScope st)) (len:∀ vs H Q E,sp vs H Q E→vs.length=ps.length)
    (hbody:∀ (cdv:Value) (A:Around) (outer:List Env) (s:Shared) (H:Hp) (vs:List V) (Q:VK) (E:XK),Room k (A.deeper (envOfC qual (defScope st) s.heap.objs.size f cdv))→Zs Z outer s H→sp vs H Q E →
      ∃ t,PSs (cxOf CX P w K mg base N qual (defScope st) f cdv A outer s H E).nox (defBody st) t∧t { nx:=fun _ H'=>Q .non H',rt:=Q } (start N vs) H):FnOkZ Z P w K mg base CX (k + 1) f fd ps sp:=by
  obtain ⟨oc,od,kV,doc,pm,an,cdv,ct,osl,rfl,lk,hcd⟩:=F.ex
  refine fnZ_of lk hcd S len fun A outer s H vs Q E hr hz hsp => ?_
  obtain ⟨t,h,q⟩:=hbody cdv A outer s H vs Q E hr hz hsp
  exact ⟨t,h.nox,q⟩
end

def FokZ (Z:List (Addr × Obj)) (P:Program) (w:World) (K:PySem.W.Frag) (mg:Str→Option Value) (base:Heap) (CX:CXT) (k:Nat) (x:Str) (ps:List Str) (sp:Sp):Prop :=
  ∃ f fd,FnOkZ Z P w K mg base CX k f fd ps sp∧Binds K fd ps []∧PySem.W.keepIn K (.ref f)=true∧mg x=some (.ref f)
section
variable {X:Cx} {CX:CXT} {k j:Nat} {f:Addr} {fd:FuncData} {ps:List Str} {sp:Sp} {x:Str} {p pos:Pos} {e:Expr} {es:List Expr} {t:TA} {Z:List (Addr × Obj)}
theorem run_fnZ {pins:List (Addr × Obj)} {σ:St} {H:Hp} {s:Shared} {Q:VK} {us:List Value} {vs:List V} {E:XK} (F:FnOkZ Z X.prog X.w X.K X.mg X.base CX k f fd ps sp) (hr:Room k X.A) (hb:BindsTo s fd ⟨us,[]⟩ (ps.zip us)) (hx:Passes CX X E)
    (I:Inv X pins σ H s) (hz:Zs Z X.stack s H) (r:Vals vs us) (h:sp vs H Q E):wpAny (model X.prog X.w) X.A (call (.ref f) us) (EP X pins σ Q) X.xe s:=by
  refine wpAny_call (codeAny_mono (F.run X.A X.stack s H ⟨us,[]⟩ us vs Q E hr I.env0 hz hb r h) fun r s' hq => ?_)
  cases r with
  | error e=>exact hx pins σ H s e s' I hq
  | ok fl =>
    cases fl with
    | ret u=>exact I.after hq
    | next=>exact False.elim hq
    | brk=>exact False.elim hq
    | cont=>exact False.elim hq
theorem pe_callZ (F:FokZ Z X.prog X.w X.K X.mg X.base CX j x ps sp) (q:Quiet CX) (hz:Zs Z X.outer X.s₀ X.H₀) (hr:Room k X.A) (ha:PA X (e::es) t) (hj:j≤k:=by decide) (hex:X.ex=[]:=by rfl) (hg:Gl X x:=by rfl)
    (hdb:(x == ("__debug__" : Str))=false:=by decide) (he:starEach (e::es) X.env=(false,eval e X.env)::starEach es X.env:=by rfl) (hpl:(backTo pos (starEach es X.env)).any (·.1)=false:=by rfl) :
    PE X (.Call (.Name x p) (e::es) [] pos) (tCall sp [] E0 t):=by
  obtain ⟨f,fd,G,hb,hk,hm⟩:=F
  intro pins s σ H Q I h
  refine wpAny_Call_Name_kw (ld_glob I hg hm ?_ hdb)
  refine PySem.W.callWith_K (h₀:=X.base) I.ok.mod.kin hk (thn (ha pos pins s σ H _ I h) fun us s1 ⟨vs,H1,I1,r,q1⟩=>⟨I1.kIn,?_⟩) he hpl
  have q2:sp vs H1 Q E0:=by rw [← List.append_nil vs]; exact q1
  have hl:(us++[]).length=ps.length:=by rw [List.append_nil,← r.length]; exact G.len _ _ _ _ q2
  have hb':=hb s1 us I1.kIn hl
  rw [List.append_nil] at hb'
  exact run_fnZ G (hr.mono hj) hb' (passQ q) I1 (I1.zs hz hex) r q2
end

def cxLam (CX:CXT) (P:Program) (w:World) (K:PySem.W.Frag) (mg:Str→Option Value) (base:Heap) (N:List Str) (qual:Str) (scope:Scope) (f:Addr) (cd:Value) (cl:List (Str × Addr)) (A:Around) (outer:List Env) (s:Shared) (H:Hp) (E:XK):Cx where
  prog:=P
  w:=w
  K:=K
  mg:=mg
  base:=base
  A:=A.deeper (envX qual scope s.heap.objs.size f cd cl)
  N:=N
  s₀:=s
  H₀:=H
  env:=envX qual scope s.heap.objs.size f cd cl
  outer:=outer
  stack:=envX qual scope s.heap.objs.size f cd cl::outer
  ex:=[]
  calm:=true
  fn:=fun _=>false
  pn:=[]
  xe:=fun e s'=>wpAny (model P w) (A.deeper (envX qual scope s.heap.objs.size f cd cl)) (leaving (envX qual scope s.heap.objs.size f cd cl) e) (fun _ s''=>CX outer H s E e s'') (fun e' s''=>CX outer H s E e' s'') s'

structure LamScope (ps caps:List Str) (scope:Scope):Prop where
  kind:scope.kind=.function
  gen:scope.isGenerator=false
  co:scope.isCoroutine=false
  nd:ps.Nodup
  loc:∀ x∈ps,scope.names.lookup x=some .local
  nocell:∀ y∈scope.names,y.2≠.cell
  free:∀ y∈scope.names,y.2=.free→y.1∈caps
  caps:∀ x∈caps,scope.names.lookup x=some .free
theorem zip_rev_lookup:∀ {ps:List Str} {us:List Value} {i:Nat} {x:Str} {u:Value},ps.Nodup→ps[i]? = some x→us[i]? = some u→((ps.zip us).reverse.lookup x)=some u
  | [],_,_,_,_,_,h,_=>by simp at h
  | _::_,[],_,_,_,_,_,h=>by simp at h
  | p::ps,w::us,i,x,u,nd,h1,h2=>by
    have nd':=List.nodup_cons.mp nd
    rw [List.zip_cons_cons,List.reverse_cons,List.lookup_append]
    rcases i with _ | i
    · have e1:p=x:=by simpa using h1
      have e2:w=u:=by simpa using h2
      subst e1
      subst e2
      have n:(ps.zip us).reverse.lookup p=none:=by
        rw [List.lookup_eq_none_iff]
        intro y hy
        have hy':=List.mem_reverse.mp hy
        have:=(List.of_mem_zip hy').1
        simp only [bne_iff_ne,ne_eq,beq_eq_false_iff_ne]
        first | (intro z; exact nd'.1 (z▸this)) | (intro z; rw [z] at nd'; exact nd'.1 this)
      rw [n]
      simp
    · rw [zip_rev_lookup nd'.2 (by simpa using h1) (by simpa using h2)]
      rfl
theorem inv_lam {CX:CXT} {P:Program} {w:World} {K:PySem.W.Frag} {mg:Str→Option Value} {base:Heap} {ps caps:List Str} {qual:Str} {scope:Scope} {f:Addr} {cd:Value} {cl:List (Str × Addr)} {A:Around} {outer:List Env} {s:Shared} {H:Hp} {E:XK} {us:List Value} {vs ws:List V} {h':Heap} {tk:Nat}
    (S:LamScope ps caps scope) (hd:A.handled=none) (e0:Env0 P w K mg base A outer s H) (hl:vs.length=ps.length) (r:Vals vs us) (hw:ws.length=caps.length)
    (apart:∀ x y c,cl.lookup x=some c→cl.lookup y=some c→x=y) (hcl:∀ (i:Nat) (x:Str),caps[i]? = some x→∃ c u v,cl.lookup x=some c∧ws[i]? = some v∧RelV v u∧s.heap.IsCell c (some u))
    (hcells:∀ x c,cl.lookup x=some c→(∃ v,s.heap.IsCell c v)∧H c=none)
    (hns:h'.Ns s.heap.objs.size (fun x=>(ps.zip us).reverse.lookup x)) (hk:∀ b o,s.heap.get? b=some o→h'.get? b=some o) :
    Inv (cxLam CX P w K mg base (ps++caps) qual scope f cd cl A outer s H E) [] (vs.map some++ws.map some) H { s with heap:=h',toks:=tk }:=by
  have noA:∀ b:Addr,b∉(cxLam CX P w K mg base (ps++caps) qual scope f cd cl A outer s H E).ex:=fun b z=>absurd (show b∈([]:List Addr) from z) (by simp)
  refine ⟨⟨e0.mod,S.kind,rfl,rfl,Nat.le_refl _,fun y z c h1 h2=>apart y z c h1 h2,fun y hy => ?_,fun y c hf _=>absurd (show false=true from hf) (by decide),fun _=>hd,Around.frames_deeper e0.frames,.inr ⟨rfl,rfl⟩,fun b z=>absurd z (noA b),e0.bs,e0.bsz,fun b _ _=>noA b,fun b z=>absurd z (noA b),e0.funs,e0.frf⟩,
    rfl,e0.bare,Un.kept hk,⟨_,hns,fun i y v h1 h2 h3 => ?_⟩,fun y c h => ?_,e0.hok.fresh (Nat.le_refl _),fun y c h=>(hcells y c h).2,fun p hp=>absurd (show p∈([]:List (Addr × Obj)) from hp) (by simp),e0.hok.kept hk,?_⟩
  · have hy:scope.names.lookup y=some .cell∨scope.names.lookup y=some .free:=hy
    rcases hy with hy | hy
    · exact absurd rfl (S.nocell _ (PySem.mem_of_lookup hy))
    · have hm:=S.free _ (PySem.mem_of_lookup hy) rfl
      obtain ⟨i,hi⟩:=List.getElem?_of_mem hm
      obtain ⟨c,_,_,e,_⟩:=hcl i y hi
      exact ⟨c,e⟩
  · by_cases hi:i < vs.length
    · rw [List.getElem?_append_left (by simpa using hi),List.getElem?_map] at h2
      have ha:vs[i]? = some v:=by
        cases e:vs[i]? with
        | none=>rw [e] at h2; cases h2
        | some a=>rw [e] at h2; cases h2; rfl
      obtain ⟨u,hu,rv⟩:=r.get ha
      have hp:ps[i]? = some y:=by
        have h1':(ps++caps)[i]? = some y:=h1
        rw [List.getElem?_append_left (by omega)] at h1'
        exact h1'
      exact ⟨u,rv,.inl ⟨S.loc y (List.mem_of_getElem? hp),zip_rev_lookup S.nd hp hu⟩⟩
    · have h1':(ps++caps)[i]? = some y:=h1
      rw [List.getElem?_append_right (by omega)] at h1'
      rw [List.getElem?_append_right (by simpa using hi),List.length_map,List.getElem?_map] at h2
      obtain ⟨c,u,v',e1,e2,e3,e4⟩:=hcl _ y h1'
      rw [hl,e2] at h2
      cases h2
      exact ⟨u,e3,.inr ⟨.inr (S.caps y (List.mem_of_getElem? h1')),c,e1,e4.keeps hk⟩⟩
  · obtain ⟨⟨v,hv⟩,_⟩:=hcells y c h
    exact ⟨v,hv.keeps hk⟩
  · show _=(ps++caps).length
    rw [List.length_append,List.length_map,List.length_map,List.length_append,hl,hw]


def codeE (c:Addr) (qual:Str):HO:=.ext fun h=>h.CodeRec (.ref c) qual

def isE (a:Addr) (o:Obj):HO:=.ext fun h=>h.get? a=some o
theorem isE_ok {P:Program} {w:World} {H:Hp} {h:Heap} {a:Addr} {o:Obj} (e:h.get? a=some o):ObjOk P w H h a (isE a o):=⟨e,⟨o,e⟩,fun _ _ e1 k=>k _ e1⟩
theorem codeE_ok {P:Program} {w:World} {H:Hp} {h:Heap} {c:Addr} {qual:Str} (e:h.CodeRec (.ref c) qual):ObjOk P w H h c (codeE c qual):=by
  refine ⟨e,?_,fun h1 h2 e1 k => ?_⟩
  · obtain ⟨_,o,vs,t,z,ho,_⟩:=e
    cases z
    exact ⟨o,ho⟩
  · obtain ⟨_,o,vs,t,z,ho,r⟩:=e1
    cases z
    exact ⟨c,o,vs,t,rfl,k _ ho,r⟩

structure CellsZ (Z:List (Addr × Obj)) (cl:List (Str × Addr)) (caps:List Str) (ws:List V):Prop where
  hw:ws.length=caps.length
  apart:∀ x y c,cl.lookup x=some c→cl.lookup y=some c→x=y
  hcl:∀ (i:Nat) (x:Str),caps[i]? = some x→∃ c u v o,cl.lookup x=some c∧ws[i]? = some v∧RelV v u∧(c,o)∈Z∧o.data=.cell (some u)
  hall:∀ x c,cl.lookup x=some c→∃ o v,(c,o)∈Z∧o.data=.cell v

theorem lam_of {Z:List (Addr × Obj)} {CX:CXT} {P:Program} {w:World} {K:PySem.W.Frag} {mg:Str→Option Value} {base:Heap} {k:Nat} {fa c':Addr} {name qual:Str} {params:Arguments} {body:Expr} {scope:Scope} {cl:List (Str × Addr)} {pm ctv:Value} {ps caps:List Str} {ws:List V} {sp:Sp}
    (S:LamScope ps caps scope) (C:CellsZ Z cl caps ws)
    (len:∀ vs H Q E,sp vs H Q E→vs.length=ps.length) (hcode:∀ vs H Q E,sp vs H Q E→H c'=some (codeE c' qual)∧H fa=some (isE fa (kla_obj name qual params body scope cl pm c' ctv)))
    (hbody:∀ (A:Around) (outer:List Env) (s:Shared) (H:Hp) (vs:List V) (Q:VK) (E:XK),Room k (A.deeper (envX qual scope s.heap.objs.size fa (.ref c') cl))→Zs Z outer s H→sp vs H Q E →
      ∃ t,PE (cxLam CX P w K mg base (ps++caps) qual scope fa (.ref c') cl A outer s H E) body t∧t (vs.map some++ws.map some) H Q) :
    FnOkZ Z P w K mg base CX (k + 1) fa (kla_fn name qual params body scope cl pm (.ref c') ctv) ps sp:=by
  refine ⟨len,fun A outer s H args us vs Q E hr e0 hz hb r hsp => ?_⟩
  have hl:=len _ _ _ _ hsp
  have lim:s.heap.NoLimit:=e0.mod.nolimit.keeps fun b o e=>(e0.bs b o e).1
  have cr:s.heap.CodeRec (.ref c') qual:=(e0.hok c' _ (hcode _ _ _ _ hsp).1).1
  have ho:s.heap.get? fa=some (kla_obj name qual params body scope cl pm c' ctv):=(e0.hok fa _ (hcode _ _ _ _ hsp).2).1
  refine kla_callFunE hr.depth ho rfl S.co S.gen rfl cr (hb _ _ _ _ ?_)
  refine wpAny_newFunctionEnv S.nocell (fun y hy => ?_) (fun h' hns hsb=>⟨lim.fresh _ hsb,?_⟩) S.kind
  · exact S.loc y.1 (List.of_mem_zip (a:=y.1) (b:=y.2) hy).1
  have hk:∀ b o,s.heap.get? b=some o→h'.get? b=some o:=fun b o e=>hsb.extBut b o (Nat.ne_of_lt (Heap.lt_size e)) (Heap.get?_push_of_some _ e)
  refine kla_codeExpr ?_
  obtain ⟨t,ht,hq⟩:=hbody A outer s H vs Q E (hr.deeper _) hz hsp
  have I:=inv_lam (CX:=CX) (E:=E) (qual:=qual) (f:=fa) (cd:=.ref c') (tk:=s.toks + (ps.zip us).length) S hr.hd e0 hl r C.hw C.apart (fun i x hx=>by
    obtain ⟨c,u,v,o,h1,h2,h3,h4,h5⟩:=C.hcl i x hx
    exact ⟨c,u,v,h1,h2,h3,o,(hz _ h4).1,h5⟩) (fun x c e=>by
    obtain ⟨o,v,h1,h2⟩:=C.hall x c e
    exact ⟨⟨v,o,(hz _ h1).1,h2⟩,(hz _ h1).2.1⟩) hns hk
  refine wpAny_mono (ht [] _ _ H _ I hq) (fun u s' hs => ?_) fun e s' hs=>hs
  obtain ⟨v,H',J,rv,q⟩:=hs
  exact ⟨v,H',J.os,J.bare,J.base,J.hok,rv,q⟩
section
variable {X:Cx} {CX:CXT} {k j:Nat} {f:Addr} {fd:FuncData} {ps:List Str} {sp:Sp} {x:Str} {p pos:Pos} {e:Expr} {es:List Expr} {t:TA} {Z:List (Addr × Obj)}

def tCallV (i:Nat) (fa:Addr) (o:Obj) (sp:Sp) (t:TA):TE:=fun σ H Q=>σ[i]? = some (some (.ref fa))∧t σ H fun vs H1=>H1 fa=some (isE fa o)∧sp vs H1 Q E0
theorem pe_callV {i:Nat} {fa:Addr} {o:Obj} (G:FnOkZ Z X.prog X.w X.K X.mg X.base CX j fa fd ps sp) (hd:o.data=.func fd) (hb:∀ us:List Value,us.length=ps.length→bindArgs fd ⟨us,[]⟩=pure (ps.zip us)) (q:Quiet CX) (hz:Zs Z X.outer X.s₀ X.H₀) (hr:Room k X.A) (ha:PA X (e::es) t) (hj:j≤k:=by decide) (hex:X.ex=[]:=by rfl)
    (hN:X.N[i]? = some x:=by rfl) (hv:Vis X.env.scope x:=by first | exact Or.inl rfl | exact Or.inr (Or.inl rfl) | exact Or.inr (Or.inr rfl))
    (hdb:(x == ("__debug__" : Str))=false:=by decide) (hcd:(x == ("__classdict__" : Str))=false:=by decide) (he:starEach (e::es) X.env=(false,eval e X.env)::starEach es X.env:=by rfl) :
    PE X (.Call (.Name x p) (e::es) [] pos) (tCallV i fa o sp t):=by
  intro pins s σ H Q I h
  obtain ⟨hi,h⟩:=h
  refine wpAny_Call_Name_kw ?_
  have pv:=pe_var (X:=X) (pos:=p) hN hv hdb hcd pins s σ H (fun v H'=>v=.ref fa∧H'=H) I ⟨_,hi,rfl,rfl⟩
  refine thn pv fun u s1 ⟨v,H1,I1,r1,e1,e2⟩ => ?_
  subst e1
  subst e2
  cases r1
  refine callWith_def hd (thn (ha pos pins s1 σ _ _ I1 h) fun us s2 ⟨vs,H2,I2,r2,hfa,q2⟩ => ?_) he
  have zs:=I2.zs hz hex
  refine ⟨(I2.hok fa _ hfa).1,?_⟩
  have hl:us.length=ps.length:=by rw [← r2.length]; exact G.len _ _ _ _ q2
  exact run_fnZ G (hr.mono hj) (.of_eq (hb us hl)) (passQ q) I2 zs r2 q2

def tCallL (is:List Nat) (W:List V→Prop) (sp:List V→Sp) (t:TA):TE:=fun σ H Q=>∃ ws:List V,is.map (fun i=>σ[i]?)=ws.map (fun v=>some (some v))∧W ws∧t σ H fun vs H1=>sp ws vs H1 Q E0
theorem mem_clo {env:Env} {y:Str × Addr}:∀ {xs:List Str},y∈clo env xs→y.1∈xs∧y.2=(env.cells.lookup y.1).getD 0:=fun {xs} h=>by
  unfold clo at h
  obtain ⟨x,hx,rfl⟩:=List.mem_map.mp h
  exact ⟨hx,rfl⟩
theorem capsL_nil {env:Env} {xs:List Str}:∀ x∈([]:List Str),(env.kindOf x=some .cell∧Vis env.scope x)∧x∈xs:=fun _ h=>by cases h
theorem capsL_cons {env:Env} {xs:List Str} {x:Str} {r:List Str} (h1:env.kindOf x=some .cell) (h2:Vis env.scope x) (h3:x∈xs) (h:∀ y∈r,(env.kindOf y=some .cell∧Vis env.scope y)∧y∈xs):∀ y∈x::r,(env.kindOf y=some .cell∧Vis env.scope y)∧y∈xs:=fun y hy=>by
  rcases List.mem_cons.mp hy with rfl | hy
  · exact ⟨⟨h1,h2⟩,h3⟩
  · exact h y hy
theorem cells_of {pins:List (Addr × Obj)} {σ:St} {H:Hp} {s:Shared} {xs caps:List Str} {is:List Nat} {ws:List V} (I:Inv X pins σ H s) (hin:(xs.all fun x=>(X.env.cells.lookup x).isSome)=true) (hfn:∀ x,X.fn x=true)
    (hcap:∀ x∈caps,(X.env.kindOf x=some .cell∧Vis X.env.scope x)∧x∈xs) (his:is.map (X.N[·]?)=caps.map some) (hws:is.map (fun i=>σ[i]?)=ws.map (fun v=>some (some v))) :
    ∃ Z,CellsZ Z (clo X.env xs) caps ws∧Zs Z X.stack s H:=by
  have hlook:∀ x c,(clo X.env xs).lookup x=some c→X.env.cells.lookup x=some c:=fun x c e=>clo_sub hin e
  refine ⟨(clo X.env xs).filterMap fun q=>(s.heap.get? q.2).map fun o=>(q.2,o),⟨?_,fun x y c e1 e2=>I.ok.inj x y c (hlook x c e1) (hlook y c e2),fun i x hx => ?_,fun x c e => ?_⟩,fun q hq => ?_⟩
  · have h1:=congrArg List.length his
    have h2:=congrArg List.length hws
    simp only [List.length_map] at h1 h2
    omega
  · obtain ⟨⟨hk,hv⟩,hm⟩:=hcap x (List.mem_of_getElem? hx)
    have q1:=congrArg (·[i]?) his
    have q2:=congrArg (·[i]?) hws
    simp only [List.getElem?_map,hx,Option.map_some] at q1 q2
    cases z:is[i]? with
    | none=>rw [z] at q1; cases q1
    | some n =>
      rw [z] at q1 q2
      have q1':X.N[n]? = some x:=Option.some.inj q1
      cases z2:ws[i]? with
      | none=>rw [z2] at q2; cases q2
      | some v =>
        rw [z2] at q2
        have q2':σ[n]? = some (some v):=Option.some.inj q2
        obtain ⟨m,hn,hl⟩:=I.loc
        obtain ⟨u,rv,l⟩:=hl n x v q1' q2' hv
        rcases l with ⟨kl,_⟩ | ⟨_,c,e,o,ho,hd⟩
        · rw [hk] at kl; cases kl
        · refine ⟨c,u,v,o,clo_of hm e,rfl,rv,List.mem_filterMap.mpr ⟨(x,c),?_,by simp [ho]⟩,hd⟩
          exact PySem.mem_of_lookup (clo_of hm e)
  · obtain ⟨v,o,ho,hd⟩:=I.cell x c (hlook x c e)
    exact ⟨o,v,List.mem_filterMap.mpr ⟨(x,c),PySem.mem_of_lookup e,by simp [ho]⟩,hd⟩
  · obtain ⟨y,hy,e⟩:=List.mem_filterMap.mp hq
    obtain ⟨o,ho,e'⟩:=Option.map_eq_some_iff.mp e
    subst e'
    obtain ⟨m1,m2⟩:=mem_clo hy
    have is:=List.all_eq_true.mp hin _ m1
    obtain ⟨c,hc⟩:=Option.isSome_iff_exists.mp is
    rw [hc] at m2
    have m2':y.2=c:=m2
    rw [m2'] at ho ⊢
    refine ⟨ho,I.freeC _ _ hc,fun z => ?_⟩
    rcases List.mem_cons.mp (I.stkSub _ z) with z | z
    · exact I.cne _ _ hc z
    · obtain ⟨_,o',ho',_⟩:=I.ok.funs.mem z
      exact absurd (Nat.lt_of_lt_of_le (Heap.lt_size ho') (I.ok.cab _ _ (hfn _) hc)) (Nat.lt_irrefl _)
theorem pe_callL (xs caps:List Str) (is:List Nat) {W:List V→Prop} {sp:List V→Sp} (F:∀ Z ws,W ws→CellsZ Z (clo X.env xs) caps ws→FokZ Z X.prog X.w X.K X.mg X.base CX j x ps (sp ws)) (q:Quiet CX) (hr:Room k X.A) (hin:(xs.all fun x=>(X.env.cells.lookup x).isSome)=true)
    (hcap:∀ x∈caps,(X.env.kindOf x=some .cell∧Vis X.env.scope x)∧x∈xs) (his:is.map (X.N[·]?)=caps.map some) (ha:PA X (e::es) t) (hj:j≤k:=by decide) (hfn:∀ x,X.fn x=true:=by intro _; rfl) (hg:Gl X x:=by rfl)
    (hdb:(x == ("__debug__" : Str))=false:=by decide) (he:starEach (e::es) X.env=(false,eval e X.env)::starEach es X.env:=by rfl) (hpl:(backTo pos (starEach es X.env)).any (·.1)=false:=by rfl) :
    PE X (.Call (.Name x p) (e::es) [] pos) (tCallL is W sp t):=by
  intro pins s σ H Q I h
  obtain ⟨ws,hws,hW,h⟩:=h
  obtain ⟨Z0,cz0,zs0⟩:=cells_of I hin hfn hcap his hws
  obtain ⟨f,fd,G0,hb,hk,hm⟩:=F Z0 ws hW cz0
  refine wpAny_Call_Name_kw (ld_glob I hg hm ?_ hdb)
  refine PySem.W.callWith_K (h₀:=X.base) I.ok.mod.kin hk (thn (ha pos pins s σ H _ I h) fun us s1 ⟨vs,H1,I1,r,q1⟩=>⟨I1.kIn,?_⟩) he hpl
  obtain ⟨Z,cz,zs⟩:=cells_of I1 hin hfn hcap his hws
  obtain ⟨f',fd',G,hb2,hk2,hm2⟩:=F Z ws hW cz
  have ef:f'=f:=by rw [hm2] at hm; cases hm; rfl
  subst ef
  have q2:sp ws vs H1 Q E0:=q1
  have hl:(us++[]).length=ps.length:=by rw [List.append_nil,← r.length]; exact G.len _ _ _ _ q2
  have hb':=hb2 s1 us I1.kIn hl
  rw [List.append_nil] at hb'
  exact run_fnZ G (hr.mono hj) hb' (passQ q) I1 zs r q2
end

def TabOk (H:Hp) (P:Addr) (qual:Str):Prop:=∃ ps:Array Value,H P=some (.tbl ps)∧TriplesOk ps.toList∧∀ pos cv,codeAmong pos ps.toList=some cv→∃ c',cv=.ref c'∧H c'=some (codeE c' qual)
def Tabs (T:List (Addr × Str)) (H:Hp):Prop:=∀ q∈T,TabOk H q.1 q.2

def SameT (T:List (Addr × Str)) (H H':Hp):Prop:=∀ b o,H b=some o→b∉T.map (·.1)→H' b=some o
theorem Same.toT {T:List (Addr × Str)} {H H':Hp} (s:Same H H'):SameT T H H':=fun b o e _=>s b o e
theorem SameT.trans {T:List (Addr × Str)} {H H1 H2:Hp} (a:SameT T H H1) (b:SameT T H1 H2):SameT T H H2:=fun c o h n=>b c o (a c o h n) n
theorem Same.tabs {T:List (Addr × Str)} {H H':Hp} (s:Same H H') (t:Tabs T H):Tabs T H':=fun q hq=>by
  obtain ⟨ps,h1,h2,h3⟩:=t q hq
  refine ⟨ps,s _ _ h1,h2,fun pos cv e => ?_⟩
  obtain ⟨c',e1,e2⟩:=h3 pos cv e
  exact ⟨c',e1,s _ _ e2⟩

theorem Tabs.apart {T:List (Addr × Str)} {H:Hp} {b:Addr} {o:HO} (t:Tabs T H) (e:H b=some o) (n:∀ ps,o≠.tbl ps):b∉T.map (·.1):=fun hm=>by
  obtain ⟨q,hq,rfl⟩:=List.mem_map.mp hm
  obtain ⟨ps,h1,_⟩:=t q hq
  rw [e] at h1
  cases h1
  exact n ps rfl
theorem SameT.keep {T:List (Addr × Str)} {H H':Hp} {b:Addr} {o:HO} (s:SameT T H H') (t:Tabs T H) (e:H b=some o) (n:∀ ps,o≠.tbl ps):H' b=some o:=s b o e (t.apart e n)
theorem codeAmong_more {pos pos':Pos} {c cv:Value} (l:List Value) (h:TriplesOk l) (e:codeAmong pos (l++[rawInt pos'.line,rawInt pos'.col,c])=some cv):codeAmong pos l=some cv∨cv=c:=by
  fun_induction TriplesOk l with
  | case1 =>
    simp only [List.nil_append,rawInt,codeAmong] at e
    split at e
    · exact .inr (Option.some.inj e).symm
    · cases e
  | case2 a t b u x rest ih =>
    simp only [List.cons_append,codeAmong] at e ⊢
    split at e
    · rename_i hc
      rw [if_pos hc]
      exact .inl e
    · rename_i hc
      rw [if_neg hc]
      exact ih h e
  | case3 l h1 h2=>exact h.elim

def BMain (mg:Str→Option Value) (h:Heap):Prop:=∃ bm ob,mg "__builtins__" = some (.ref bm)∧bm≠builtinsNs∧h.get? bm=some ob∧ob.cls=.type "module" ∧ ob.dict=some builtinsNs∧ob.data=.plain

def tLam (T:List (Addr × Str)) (qual:Str) (mk:Addr→Value→Obj):TE:=fun _ H Q=>Tabs T H∧∀ fa c' ctv H',H fa=none→H' fa=some (isE fa (mk c' ctv))→H' c'=some (codeE c' qual)→Tabs T H'→SameT T H H'→Q (.ref fa) H'
section
variable {X:Cx}
theorem pe_lam {params:Arguments} {body:Expr} {scope:Scope} {pos:Pos} {T:List (Addr × Str)} {c P:Addr} {qual:Str} (xs:List Str) (hB:BMain X.mg X.base) (hC:CodeHd X.base c P) (hcode:X.env.code=.ref c) (hT:(P,qual)∈T) (hnd:(T.map (·.1)).Nodup) (hq:X.env.qual ++ "<lambda>" = qual)
    (hclos:closureFor scope X.env=pure (clo X.env xs)) (hdef:defaultsOf params X.env=([],[]):=by rfl) :
    PE X (.Lambda params body scope pos) (tLam T qual fun c' ctv=>kla_obj "<lambda>" qual params body scope (clo X.env xs) ((X.mg "__name__").getD .none) c' ctv):=by
  intro pins s σ H Q I h
  obtain ⟨hTab,h⟩:=h
  obtain ⟨ps,hP,ht,hall⟩:=hTab (P,qual) hT
  have hPh:s.heap.get? P=some (tabObj ps):=I.hok P _ hP
  have hgs:s.heap.Ns mainGlobals X.mg:=I.ok.mod.glob.keeps I.bk
  have hgP:mainGlobals≠P:=fun q=>by
    obtain ⟨o,es,ep,e,hd,_⟩:=hgs
    rw [q,hPh] at e; cases e; cases hd
  obtain ⟨bm,ob,b1,b2,b3,b4,b5,b6⟩:=hB
  have b3':=I.bk _ _ b3
  have hbP:bm≠P:=fun q=>by
    rw [q,hPh] at b3'; cases b3'; cases b4
  have hbG:bm≠mainGlobals:=fun q=>by
    obtain ⟨o,es,ep,e,hd,_⟩:=hgs
    rw [q,e] at b3'; cases b3'; rw [hd] at b6; cases b6
  have hbt:s.heap.BuiltinsAt X.mg P:=⟨bm,ob,b1,b2,hbG,hbP,b3',b4,b5,b6⟩
  refine kla_eval hdef ?_
  rw [hq]
  cases hf:codeAmong pos ps.toList with
  | none =>
    refine kla_makeFunction hclos I.ok.glob hgs hcode (hC.keeps I.bk) hPh ht hf hgP hbt fun c' ctv h' tk hx hge hlt hrec htb => ?_
    generalize hob:kla_obj "<lambda>" qual params body scope (clo X.env xs) ((X.mg "__name__").getD .none) c' ctv=ob'
    have hPs:P < s.heap.objs.size:=Heap.lt_size hPh
    have hcP:c'≠P:=Nat.ne_of_gt (Nat.lt_of_lt_of_le hPs hge)
    have hfs:s.heap.objs.size≤h'.objs.size:=Nat.le_of_lt (Nat.lt_of_le_of_lt hge hlt)
    have hfP:h'.objs.size≠P:=Nat.ne_of_gt (Nat.lt_of_lt_of_le hPs hfs)
    have hfc:h'.objs.size≠c':=Nat.ne_of_gt hlt
    have nfa:H h'.objs.size=none:=I.hok.fresh hfs
    have nc:H c'=none:=I.hok.fresh hge
    have old:∀ b o,b≠P→s.heap.get? b=some o→(h'.push ob').get? b=some o:=fun b o hb e=>Heap.get?_push_of_some _ (hx b o hb e)
    let H':Hp:=upd (upd (upd H P (.tbl (ps ++ #[rawInt pos.line,rawInt pos.col,.ref c']))) c' (codeE c' qual)) h'.objs.size (isE h'.objs.size ob')
    have e1:H' h'.objs.size=some (isE h'.objs.size ob'):=upd_same
    have e2:H' c'=some (codeE c' qual):=by show upd _ _ _ _=_; rw [upd_ne (Ne.symm hfc),upd_same]
    have e3:H' P=some (.tbl (ps ++ #[rawInt pos.line,rawInt pos.col,.ref c'])):=by show upd _ _ _ _=_; rw [upd_ne (Ne.symm hfP),upd_ne (Ne.symm hcP),upd_same]
    have e4:∀ b,b≠P→b≠c'→b≠h'.objs.size→H' b=H b:=fun b n1 n2 n3=>by show upd _ _ _ _=_; rw [upd_ne n3,upd_ne n2,upd_ne n1]
    have e5:∀ b o,H b=some o→b≠P→H' b=some o:=fun b o e n=>by rw [e4 b n (ne_of_none e nc) (ne_of_none e nfa)]; exact e
    have hrec':(h'.push ob').CodeRec (.ref c') qual:=by
      obtain ⟨c₂,o₂,vs₂,t₂,z,g₂,r₂⟩:=hrec
      exact ⟨c₂,o₂,vs₂,t₂,z,Heap.get?_push_of_some _ g₂,r₂⟩
    have obf:ob'.isFreed=false:=by rw [← hob]; rfl
    have J:Inv X pins σ H' { s with heap:=h'.push ob',toks:=tk }:=by
      refine I.un ⟨fun b u q n _ _=>old b u (fun z=>by rw [z,hP] at n; cases n) q,fun b u q n _ _=>⟨u.slots,old b u (fun z=>by rw [z,hP] at n; cases n) q⟩,fun b u q n _ => ?_,fun b u q _ => ?_,fun b xs q=>e5 b _ q (fun z=>by rw [z,hP] at q; cases q),fun b u xs q=>e5 b _ q (fun z=>by rw [z,hP] at q; cases q),fun b qs q => ?_⟩ fun b u q => ?_
      · have hb:=Heap.lt_size q
        rw [e4 b (fun z=>by rw [z,hP] at n; cases n) (Nat.ne_of_lt (Nat.lt_of_lt_of_le hb hge)) (Nat.ne_of_lt (Nat.lt_of_lt_of_le hb hfs))]
        exact n
      · by_cases hb:b=P
        · rw [hb]; exact ⟨_,Heap.get?_push_of_some _ htb⟩
        · exact ⟨u,old b u hb q⟩
      · by_cases hb:b=P
        · rw [hb,hP] at q; cases q
          exact ⟨_,by rw [hb]; exact e3⟩
        · exact ⟨#[],by rw [e5 b _ q hb]; simp⟩
      · by_cases h1:b=h'.objs.size
        · subst h1
          rw [e1] at q; cases q
          exact isE_ok (Heap.get?_push_size _ obf)
        · by_cases h2:b=c'
          · subst h2
            rw [e2] at q; cases q
            exact codeE_ok hrec'
          · by_cases h3:b=P
            · subst h3
              rw [e3] at q; cases q
              exact Heap.get?_push_of_some _ htb
            · rw [e4 b h3 h2 h1] at q
              refine (I.hok b u q).stay (fun d v hd r=>old d v ?_ r) (fun d r=>e5 d _ r fun z=>by rw [z,hP] at r; cases r) fun d xs r=>e5 d _ r fun z=>by rw [z,hP] at r; cases r
              rcases hd with rfl | hd
              · exact h3
              · intro z; rw [z,hP] at hd; cases hd
    refine ⟨.ref h'.objs.size,H',J,rfl,h _ c' ctv H' nfa (by dsimp only; rw [hob]; exact e1) e2 (fun q hq => ?_) fun b o e n=>e5 b o e fun z=>n (by rw [z]; exact List.mem_map.mpr ⟨_,hT,rfl⟩)⟩
    by_cases hqP:q.1=P
    · have hq2:q=(P,qual):=by
        have:∀ (l:List (Addr × Str)),(l.map (·.1)).Nodup→q∈l→(P,qual)∈l→q.1=P→q=(P,qual):=by
          intro l
          induction l with
          | nil=>intro _ h; cases h
          | cons y r ih =>
            intro nd h1 h2 h3
            rw [List.map_cons,List.nodup_cons] at nd
            rcases List.mem_cons.mp h1 with z1 | z1
            · rcases List.mem_cons.mp h2 with z2 | z2
              · exact z1.trans z2.symm
              · exact absurd (List.mem_map.mpr ⟨_,z2,by rw [← z1]; exact h3.symm⟩) nd.1
            · rcases List.mem_cons.mp h2 with z2 | z2
              · exact absurd (List.mem_map.mpr ⟨_,z1,by rw [← z2]; exact h3⟩) nd.1
              · exact ih nd.2 z1 z2 h3
        exact this T hnd hq hT hqP
      subst hq2
      refine ⟨_,e3,?_,fun pos' cv e => ?_⟩
      · rw [Array.toList_append]; exact TriplesOk_snoc _ _ _ _ ht
      · rw [Array.toList_append] at e
        rcases codeAmong_more _ ht e with e | e
        · obtain ⟨d,z1,z2⟩:=hall _ _ e
          exact ⟨d,z1,e5 d _ z2 fun z=>by rw [z,hP] at z2; cases z2⟩
        · exact ⟨c',e,e2⟩
    · obtain ⟨qs,g1,g2,g3⟩:=hTab q hq
      refine ⟨qs,e5 _ _ g1 hqP,g2,fun pos' cv e => ?_⟩
      obtain ⟨d,z1,z2⟩:=g3 _ _ e
      exact ⟨d,z1,e5 d _ z2 fun z=>by rw [z,hP] at z2; cases z2⟩
  | some cv =>
    obtain ⟨c',rfl,hc'⟩:=hall _ _ hf
    refine kla_makeFunctionHit hclos I.ok.glob hgs hcode (hC.keeps I.bk) hPh ht hf hbt fun ctv h' tk hk hsz => ?_
    show EP X pins σ Q (.ref h'.objs.size) { s with heap:=h'.push (kla_obj "<lambda>" qual params body scope (clo X.env xs) ((X.mg "__name__").getD .none) c' ctv),toks:=tk }
    generalize hob:kla_obj "<lambda>" qual params body scope (clo X.env xs) ((X.mg "__name__").getD .none) c' ctv=ob'
    have obf:ob'.isFreed=false:=by rw [← hob]; rfl
    have nfa:H h'.objs.size=none:=I.hok.fresh hsz
    have sm:Same H (upd H h'.objs.size (isE h'.objs.size ob')):=fun b o e=>by rw [upd_ne (ne_of_none e nfa)]; exact e
    refine ⟨.ref h'.objs.size,_,I.laid (a:=h'.objs.size) (o:=isE h'.objs.size ob') (h':=h'.push ob') (t':=tk) (fun b u e=>Heap.get?_push_of_some _ (hk b u e)) hsz (isE_ok (Heap.get?_push_size _ obf)),rfl,h _ c' ctv _ nfa (by dsimp only; rw [hob]; exact upd_same) (sm _ _ hc') (sm.tabs hTab) sm.toT⟩
end


theorem law_callT {P:Program} {w:World} {K:PySem.W.Frag} {mg mb:Str→Option Value} {CX:CXT} {k:Nat} {fa a:Addr} {fd:FuncData} {x:Str} {sp:Sp} {s₁:Shared} {vs:List Value} {ns:List Int} {Ps:List Addr}
    (KX:K.In s₁.heap) (hns:s₁.heap.Ns mainGlobals mg) (hb:s₁.heap.Ns builtinsNs mb) (hbb:∀ x:Str,x ≠ "__name__" → mb x=bootBuiltins x) (hlim:s₁.heap.NoLimit) (hg:s₁.gens = #[])
    (ha:s₁.heap.get? a=some { cls:=.type "list",data:=.seq vs.toArray }) (hi:IntsAre vs ns) (hl:ns.length≤sizeLine) (hr:Room k callerA)
    (hbm:BMain mg s₁.heap) (hPs:∀ P∈Ps,s₁.heap.get? P=some (tabObj #[])∧K.lookup P=none∧∃ c,CodeHd s₁.heap c P)
    (F:∀ base:Heap,K.In base→base.Ns mainGlobals mg→BMain mg base→FnOk P w K mg base CX k fa fd [x] sp) (hbind:∀ (s:Shared) (u:Value),BindsTo s fd ⟨[u],[]⟩ [(x,u)])
    (hsp:∀ H:Hp,(∀ P∈Ps,H P=some (.tbl #[]))→SqL K H a (ns.map V.int)→sp [.ref a] H (fun v _=>v=.bl true) fun _ _ _=>False)
    (hCX:∀ H e s',CX [] H s₁ (fun _ _ _=>False) e s'→False) :
    codeAny (model P w) callerA (.call (.ref fa) ⟨[.ref a],[]⟩) (fun r s'=>r=.ok (.ret (.bool true))∧OldK s₁.heap s'.heap∧s'.os=s₁.os∧AllBare s'.gens) s₁:=by
  have rv:=vals_ints hi
  have lenV:=hi.length
  have naP:a∉Ps:=fun z=>by
    have:=(hPs a z).1
    rw [ha] at this; cases this
  have core:∀ H:Hp,(∀ b,H b=none∨(b∈Ps∧H b=some (.tbl #[]))∨∃ o xs,H b=some (.frz o (.lst xs)))→(∀ P∈Ps,H P=some (.tbl #[]))→SqL K H a (ns.map V.int)→HOk P w H s₁.heap→(∀ b,H b≠none→b∈Ps∨b=a)→(H a≠none→K.lookup a=none) →
      codeAny (model P w) callerA (.call (.ref fa) ⟨[.ref a],[]⟩) (fun r s'=>r=.ok (.ret (.bool true))∧OldK s₁.heap s'.heap∧s'.os=s₁.os∧AllBare s'.gens) s₁:=by
    intro H hO hT hS hok hA hK
    have base_of:∀ {b:Addr} {o:Obj},s₁.heap.get? b=some o→H b=none→(hidT s₁.heap H).get? b=some o:=fun e n=>hidT_get e n
    have noA:∀ {b:Addr} {o:Obj},s₁.heap.get? b=some o→(∀ qs,o.data≠.fields qs)→(∀ qs n,o.data≠.seq qs n)→H b=none:=fun {b o} e d1 d2=>by
      cases q:H b with
      | none=>rfl
      | some u =>
        rcases hA b (by rw [q]; simp) with e' | e'
        · rw [(hPs b e').1] at e; cases e
          exact absurd rfl (d1 #[])
        · subst e'
          rw [ha] at e; cases e
          exact absurd rfl (d2 _ _)
    have nsK:∀ {b:Addr} {m:Str→Option Value},s₁.heap.Ns b m→(hidT s₁.heap H).Ns b m:=fun {b m} ⟨o,es,ep,e,d,r⟩=>⟨o,es,ep,base_of e (noA e (fun qs z=>by rw [d] at z; cases z) (fun qs n z=>by rw [d] at z; cases z)),d,r⟩
    have hKb:K.In (hidT s₁.heap H):=fun b o e=>base_of (KX b o e) (by
      cases q:H b with
      | none=>rfl
      | some u =>
        rcases hA b (by rw [q]; simp) with e' | e'
        · rw [(hPs b e').2.1] at e; cases e
        · subst e'
          rw [hK (by rw [q]; simp)] at e; cases e)
    have hM:Mod K mg (hidT s₁.heap H):=⟨hKb,nsK hns,⟨mb,nsK hb,hbb⟩,let ⟨mc,h1,h2⟩:=hlim; ⟨mc,nsK h1,h2⟩⟩
    have hBM:BMain mg (hidT s₁.heap H):=by
      obtain ⟨bm,ob,b1,b2,b3,b4,b5,b6⟩:=hbm
      exact ⟨bm,ob,b1,b2,base_of b3 (noA b3 (fun qs z=>by rw [b6] at z; cases z) (fun qs n z=>by rw [b6] at z; cases z)),b4,b5,b6⟩
    have e0:Env0 P w K mg (hidT s₁.heap H) callerA [] s₁ H:=⟨rfl,hM,fun b o e=>of_hidT e,Nat.le_of_eq (hidT_size _ _),trivial,fun b hb=>absurd (show b∈([]:List Addr) from hb) (by simp),hok,.of_eq hg⟩
    refine codeAny_mono ((F _ hKb (nsK hns) hBM).run callerA [] s₁ H ⟨[.ref a],[]⟩ [.ref a] [.ref a] _ _ hr e0 (hbind s₁ (.ref a)) (.cons rfl .nil) (hsp H hT hS)) fun r s' h => ?_
    cases r with
    | error e=>exact (hCX H e s' h).elim
    | ok fl =>
      cases fl with
      | next=>exact False.elim h
      | brk=>exact False.elim h
      | cont=>exact False.elim h
      | ret u =>
        obtain ⟨v,H',os,bare,un,hok',r',q⟩:=h
        have q':v=.bl true:=q
        subst q'
        obtain rfl:u=Value.bool true:=r'
        have nofs:∀ b:Addr,b∉frs []:=fun b z=>absurd (show b∈([]:List Addr) from z) (by simp)
        refine ⟨rfl,⟨fun b o e => ?_,fun b o e=>un.there b o e (by simp)⟩,os,bare⟩
        rcases hO b with q | ⟨hbP,q⟩ | ⟨ob,xs,z⟩
        · exact .inl (un.keep b o e q (nofs b) (by simp))
        · obtain ⟨h1,h2,c,h3⟩:=hPs b hbP
          rw [h1] at e; cases e
          obtain ⟨more,hm⟩:=un.tbls b _ q
          exact .inr (.inl ⟨(h3.tab h1).isCodeTable,rfl,#[],more,rfl,hok' b _ hm⟩)
        · have z2:=un.frzs b ob _ z
          obtain ⟨e1,_⟩:=hok b _ z
          obtain ⟨e2,_⟩:=hok' b _ z2
          rw [e] at e1; cases e1
          exact .inl e2
  cases hk:K.lookup a with
  | some o =>
    have e:=KX a o hk
    rw [ha] at e
    cases e
    refine core (fun b=>if b∈Ps then some (.tbl #[]) else none) (fun b => ?_) (fun P hP=>if_pos hP) (.inr ⟨_,vs.toArray,_,hk,rfl,rfl,rfl,by rw [List.size_toArray,lenV]; exact hl,by simpa using rv⟩) (fun b u z => ?_) (fun b z => ?_) fun z=>absurd (if_neg naP) z
    · by_cases hb:b∈Ps
      · exact .inr (.inl ⟨hb,if_pos hb⟩)
      · exact .inl (if_neg hb)
    · by_cases hb:b∈Ps
      · have z':=(if_pos hb).symm.trans z
        cases z'
        exact (hPs b hb).1
      · have z':=(if_neg hb).symm.trans z
        cases z'
    · by_cases hb:b∈Ps
      · exact .inl hb
      · exact absurd (if_neg hb) z
  | none =>
    refine core (fun b=>if b∈Ps then some (.tbl #[]) else if b=a then some (.frz { cls:=.type "list",data:=.seq vs.toArray } (.lst (ns.map V.int))) else none) (fun b => ?_) (fun P hP=>if_pos hP) (.inl (.inr ⟨{ cls:=.type "list",data:=.seq vs.toArray },(if_neg naP).trans (if_pos rfl)⟩)) (fun b u z => ?_) (fun b z => ?_) fun _=>hk
    · by_cases hb:b∈Ps
      · exact .inr (.inl ⟨hb,if_pos hb⟩)
      · by_cases hb2:b=a
        · exact .inr (.inr ⟨_,_,(if_neg hb).trans (if_pos hb2)⟩)
        · exact .inl ((if_neg hb).trans (if_neg hb2))
    · by_cases hb:b∈Ps
      · have z':=(if_pos hb).symm.trans z
        cases z'
        exact (hPs b hb).1
      · have z:=(if_neg hb).symm.trans z
        by_cases hb2:b=a
        · have z':=(if_pos hb2).symm.trans z
          cases z'
          subst hb2
          exact ⟨ha,by rw [List.length_map]; exact hl,vs,_,rv,ha⟩
        · have z':=(if_neg hb2).symm.trans z
          cases z'
    · by_cases hb:b∈Ps
      · exact .inl hb
      · by_cases hb2:b=a
        · exact .inr hb2
        · exact absurd ((if_neg hb).trans (if_neg hb2)) z

def tabOf (K:PySem.W.Frag) (cd:Value):Option Addr:=match cd with
  | .ref c=>(match K.lookup c with
    | some ⟨_,_,.fields vs,_⟩=>(match (vs[11]? : Option Value) with
      | some (.ref P)=>if codeHdIn K c P=true then some P else none
      | _=>none)
    | _=>none)
  | _=>none
theorem tabOf_hd {K:PySem.W.Frag} {cd:Value} {P:Addr} {h:Heap} (X:K.In h) (e:tabOf K cd=some P):∃ c,cd=.ref c∧CodeHd h c P:=by
  unfold tabOf at e
  split at e
  · rename_i c
    split at e
    · split at e
      · split at e
        · rename_i hc
          cases e
          exact ⟨c,rfl,codeHd_of_K X hc⟩
        · cases e
      · cases e
    · cases e
  · cases e
theorem tabOf_mk {K:PySem.W.Frag} {cd:Value} {c P:Addr} {cl:Value} {od:Option Addr} {vs:Array Value} {sl:Array (Option Value)} (ec:cd=.ref c) (l:K.lookup c=some ⟨cl,od,.fields vs,sl⟩) (e:vs[11]? = some (.ref P)) (h:codeHdIn K c P=true):tabOf K cd=some P:=by
  subst ec
  unfold tabOf
  simp only [l,e,h,if_true]
theorem walk_ofT {l:PySem.W.OpenLaw} {n k:Nat} {q:Program} {loose:List Str} {XP:(Str→Option Value)→Heap→Prop} {YP:World→Heap→Prop} {d:DefRec} {K:Params→PySem.W.Frag} {CX:World→CXT} {x:Str} {ts:List Addr}
    (hn:l.most=some n) (hn2:n≤sizeLine) (hdf:d.params.defaults=[]) (hr:Room k callerA)
    (hY:∀ (w:World) (h:Heap),YP w h→(K w.params).In h) (hT:∀ (w:World) (h:Heap),YP w h→∀ P∈ts,h.get? P=some (tabObj #[]))
    (F:∀ (w:World) (mg:Str→Option Value) (fa:Addr) (h:Heap),(K w.params).In h→h.Ns mainGlobals mg→mg d.name=some (.ref fa) →
      ∃ (fd:FuncData) (Ps:List Addr) (sp:Sp),(∀ (s:Shared) (u:Value),BindsTo s fd ⟨[u],[]⟩ [(x,u)])∧(∀ P∈Ps,P∈ts∧(K w.params).lookup P=none∧∃ c,CodeHd h c P) ∧
        (∀ base:Heap,(K w.params).In base→base.Ns mainGlobals mg→BMain mg base→FnOk l.prog w (K w.params) mg base (CX w) k fa fd [x] sp) ∧
        ∀ (H:Hp) (a:Addr) (ns:List Int),ns.length≤n→(∀ P∈Ps,H P=some (.tbl #[]))→SqL (K w.params) H a (ns.map V.int)→sp [.ref a] H (fun v _=>v=.bl true) fun _ _ _=>False)
    (hCX:∀ (w:World) (H:Hp) (s:Shared) (e:Value) (s':Shared),CX w [] H s (fun _ _ _=>False) e s'→False) :
    PySem.W.WalkO q loose XP YP l.row.toRowW d [] (fun f vs=>PySem.call f vs):=by
  refine Att.attach_call hn hdf fun w s₀ s₁ mg mb fa o pm cd doc a vs ns G Y ho hd hcd hmg hobj hints hlen hg => ?_
  have KX:=hY w _ Y
  obtain ⟨fd,Ps,sp,hb,hP,hF,hsp⟩:=F w mg fa _ KX G.T.g hmg
  exact law_callT (Ps:=Ps) KX G.T.g G.T.b G.T.builtins G.T.nolimit hg hobj hints (Nat.le_trans hlen hn2) hr G.T.bmain (fun P h=>⟨hT w _ Y P (hP P h).1,(hP P h).2.1,(hP P h).2.2⟩) hF hb (fun H hO hS=>hsp H a ns hlen hO hS) fun H e s'=>hCX w H s₁ e s'

theorem FnOkZ.ex {ι:Type} {Z:List (Addr × Obj)} {P:Program} {w:World} {K:PySem.W.Frag} {mg:Str→Option Value} {base:Heap} {CX:CXT} {k:Nat} {f:Addr} {fd:FuncData} {ps:List Str} {sp:ι→Sp} (F:∀ i,FnOkZ Z P w K mg base CX k f fd ps (sp i)) :
    FnOkZ Z P w K mg base CX k f fd ps fun vs H Q E=>∃ i,sp i vs H Q E :=
  ⟨fun vs H Q E ⟨i,h⟩=>(F i).len vs H Q E h,fun A outer s H args us vs Q E hr e0 hz hb hv ⟨i,h⟩=>(F i).run A outer s H args us vs Q E hr e0 hz hb hv h⟩
theorem FnOkZ.none {Z:List (Addr × Obj)} {P:Program} {w:World} {K:PySem.W.Frag} {mg:Str→Option Value} {base:Heap} {CX:CXT} {k:Nat} {f:Addr} {fd:FuncData} {ps:List Str} {sp:Sp} (h:∀ vs H Q E,¬ sp vs H Q E):FnOkZ Z P w K mg base CX k f fd ps sp :=
  ⟨fun vs H Q E q=>(h vs H Q E q).elim,fun _ _ _ _ _ _ _ _ _ _ _ _ _ _ q=>(h _ _ _ _ q).elim⟩
section
variable {P:Program} {w:World} {K:PySem.W.Frag} {mg:Str→Option Value} {base:Heap} {Z:List (Addr × Obj)}
theorem fokZ {CX:CXT} {j:Nat} {x qual:Str} {st:Stmt} {f:Addr} {fd:FuncData} {dV:Value} {ps:List Str} {sp:Sp} (F:FunD K x qual st f fd dV) (G:FnOkZ Z P w K mg base CX j f fd ps sp) (b:Binds K fd ps []) (m:mg x=some (.ref f)) :
    FokZ Z P w K mg base CX j x ps sp:=⟨f,fd,G,b,F.kp,m⟩

structure FunT (K:PySem.W.Frag) (x qual:Str) (st:Stmt) (f:Addr) (fd:FuncData) (dV:Value) (P:Addr):Prop where
  ex:∃ (oc:Value) (od:Option Addr) (kV doc pm:Value) (an:Option Addr) (cdv ct:Value) (osl:Array (Option Value)),
    fd=PySem.W.fnOf x qual (defArgs st) (defBody st) (defScope st) dV kV doc pm an cdv ct∧K.lookup f=some ⟨oc,od,.func fd,osl⟩∧PySem.W.codeIn K cdv qual=true∧tabOf K cdv=some P
theorem funT_mk {x qual:Str} {st:Stmt} {f Pt:Addr} {oc:Value} {od an:Option Addr} {osl:Array (Option Value)} {dV kV doc pm cdv ct:Value} (l:K.lookup f=some ⟨oc,od,.func (PySem.W.fnOf x qual (defArgs st) (defBody st) (defScope st) dV kV doc pm an cdv ct),osl⟩)
    (c:PySem.W.codeIn K cdv qual=true) (t:tabOf K cdv=some Pt):FunT K x qual st f (PySem.W.fnOf x qual (defArgs st) (defBody st) (defScope st) dV kV doc pm an cdv ct) dV Pt:=⟨⟨oc,od,kV,doc,pm,an,cdv,ct,osl,rfl,l,c,t⟩⟩
theorem FunT.ok {x qual:Str} {st:Stmt} {f Pt:Addr} {fd:FuncData} {dV:Value} {N ps:List Str} {k:Nat} {sp:Sp} {CX:CXT} (F:FunT K x qual st f fd dV Pt) (KX:K.In base) (S:FnScope N ps (defScope st)) (len:∀ vs H Q E,sp vs H Q E→vs.length=ps.length)
    (hbody:∀ (c:Addr) (A:Around) (outer:List Env) (s:Shared) (H:Hp) (vs:List V) (Q:VK) (E:XK),CodeHd base c Pt→Room k (A.deeper (envOfC qual (defScope st) s.heap.objs.size f (.ref c)))→sp vs H Q E →
      ∃ t,PSs (cxOf CX P w K mg base N qual (defScope st) f (.ref c) A outer s H E).nox (defBody st) t∧t { nx:=fun _ H'=>Q .non H',rt:=Q } (start N vs) H):FnOk P w K mg base CX (k + 1) f fd ps sp:=by
  obtain ⟨oc,od,kV,doc,pm,an,cdv,ct,osl,rfl,lk,hcd,ht⟩:=F.ex
  obtain ⟨c,rfl,hc⟩:=tabOf_hd KX ht
  refine fn_of lk hcd S len fun A outer s H vs Q E hr hsp => ?_
  obtain ⟨t,h,q⟩:=hbody c A outer s H vs Q E hc hr hsp
  exact ⟨t,h.nox,q⟩
end
theorem SameT.tups {T:List (Addr × Str)} {H H':Hp} (s:SameT T H H') (t:Tabs T H):Tups H H':=fun b xs e=>s.keep t e (by intro ps z; cases z)
theorem Tabs.start {T:List (Addr × Str)} {H:Hp} (h:∀ P∈T.map (·.1),H P=some (.tbl #[])):Tabs T H:=fun q hq =>
  ⟨#[],h _ (List.mem_map.mpr ⟨_,hq,rfl⟩),trivial,fun pos cv e=>by cases e⟩

def retLam (st:Stmt):Expr:=match (defBody st).getLast? with
  | some (.Return (some (.Tuple [_,.Call _ [_,l] _ _] _ _)) _)=>l
  | _=>.Constant .none 0 ⟨0,0,0,0⟩
def lamParams:Expr→Arguments
  | .Lambda p _ _ _=>p
  | _=>{ posonlyargs:=[],args:=[],vararg:=none,kwonlyargs:=[],kw_defaults:=[],kwarg:=none,defaults:=[] }
def lamBody:Expr→Expr
  | .Lambda _ b _ _=>b
  | e=>e
def lamScope:Expr→Scope
  | .Lambda _ _ s _=>s
  | _=>{ kind:=.function,names:=[],isGenerator:=false,isCoroutine:=false }
end L2

namespace L2
open PySem PySem.Spec PySem.Calls PyProof.Rows PySem.W
section
variable {X:Cx} {K:PySem.W.Frag}

theorem call_dictD:CallR X (.type "dict") (fun xs H Q=>∃ a kvs,xs=[.ref a]∧H a=some (.dK kvs)∧∀ p,H p=none→Q (.ref p) (upd H p (.dK kvs))):=by
  intro pins s σ H xs us Q I r h
  obtain ⟨a,kvs,rfl,ha,q⟩:=h
  obtain ⟨u,rfl,rx⟩:=vals1 r
  cases rx
  obtain ⟨hz,hs,vs,kv,dd⟩:=dk_of I.hok ha
  have hl:vs.length=kvs.length:=(Paired.length kv).symm
  refine kt_call_dict (knd:=mixKind X.prog X.w) hs dd (by rw [hl]; exact hz) fun h' hm hsb => ?_
  have hf:H s.heap.objs.size=none:=I.hok.fresh (Nat.le_refl _)
  have hns:(s.heap.objs.size == sysModules)=false:=by
    have:=I.big
    cases e:(s.heap.objs.size == sysModules) with
    | false=>rfl
    | true =>
      have e':s.heap.objs.size=sysModules:=by simpa using e
      rw [e'] at this
      exact absurd this (Nat.lt_irrefl _)
  refine ⟨.ref s.heap.objs.size,upd H s.heap.objs.size (.dK kvs),I.laid (t':=s.toks) (fun b o e=>hsb.extBut b o (Nat.ne_of_lt (Heap.lt_size e)) (Heap.get?_push_of_some _ e)) (Nat.le_refl _) ?_,rfl,q _ hf⟩
  exact ⟨hz,hns,vs,kv,hm⟩
theorem hits_same {A:Around} {s:Shared}:∀ {kvs:List (Key × V)} {vs ws:List (Key × Value)} (pre:List (Key × Value)),KV kvs vs→KV kvs ws→((pre++ws).map (·.1)).Nodup→(∀ kv∈kvs,flatV kv.2=true∧eqV kv.2 kv.2=true)→KeqHits A s (pre++ws) vs true
  | [],_,_,_,h1,h2,_,_=>by cases h1; exact .nil
  | kv::kvs,v::vs,u::ws,pre,h1,h2,nd,hf=>by
    cases h1 with
    | cons r1 t1 =>
      cases h2 with
      | cons r2 t2 =>
        obtain ⟨k,x⟩:=v
        obtain ⟨k',y⟩:=u
        obtain ⟨e1,rv⟩:=r1
        obtain ⟨e2,rw'⟩:=r2
        have ek:k'=k:=e2.symm.trans e1
        subst ek
        have ff:=hf kv (List.mem_cons_self)
        have hy:valueAt (pre++(k',y)::ws) k'=some y:=by
          have:∀ pre:List (Key × Value),((pre++(k',y)::ws).map (·.1)).Nodup→valueAt (pre++(k',y)::ws) k'=some y:=by
            intro pre
            induction pre with
            | nil=>intro _; simp [valueAt]
            | cons p r ih =>
              intro nd
              rw [List.cons_append,List.map_cons,List.nodup_cons] at nd
              have ne:p.1≠k':=fun z=>nd.1 (by rw [z]; simp)
              have:=ih nd.2
              unfold valueAt at this ⊢
              rw [List.cons_append,List.find?_cons_of_neg (by simpa using ne)]
              exact this
          exact this pre nd
        have hrest:=hits_same (A:=A) (s:=s) (pre++[(k',y)]) t1 t2 (by simpa using nd) (fun z hz=>hf z (List.mem_cons_of_mem _ hz))
        have e:(eqV kv.2 kv.2 && true)=true:=by rw [ff.2]; rfl
        rw [← e]
        refine KeqHits.hit hy (eqAt_V rv rw' ff.1 ff.1) ?_
        simpa using hrest
end
end L2

namespace L2
open PySem PySem.Spec PySem.Calls PyProof.Rows PySem.W

section
variable {prog:Program} {w:World} {A:Around} {E:Value→Shared→Prop} {s:Shared}
theorem entries_heap {id:String} {d:Addr} {o:Obj} {es:Array DictEntry} {ep:Nat} {xs:List (List Key × Addr × Value)} {Q:Array DictEntry→Shared→Prop} (ho:s.heap.get? d=some o) (hd:o.data=.dict es ep)
    (he:es.toList=xs.map (entryOfKey (tupleKind (mixKind prog w)))) (his:∀ x∈xs,(tupleKind (mixKind prog w)).is s.heap x.1 x.2.1) (hn:(xs.map fun x=>(tupleKind (mixKind prog w)).hash x.1).Nodup) (h:Q es s) :
    wpAny (model prog w) A (Builtin.Dict.entriesForEmpty id d) Q E s:=by
  unfold Builtin.Dict.entriesForEmpty
  refine wpAny_bind (wpAny_dictEntries ho hd ?_)
  refine wpAny_bind ?_
  rw [← Array.forIn_toList]
  refine wpAny_forIn_list _ (fun rest _ s'=>s'=s∧∀ e∈rest,e∈es.toList) _ ?_ ?_ _ _ ⟨rfl,fun e h=>h⟩
  · rintro e rest c s' ⟨rfl,hin⟩
    have hm:=hin e List.mem_cons_self
    have hm':e∈xs.map (entryOfKey (tupleKind (mixKind prog w))):=he▸hm
    obtain ⟨x,hx,ex⟩:=List.mem_map.mp hm'
    have hk:=his x hx
    have hT:s'.TypeIs (.ref x.2.1) "tuple" := IsTupleKey.typeIs hk
    have ek:e.key=.ref x.2.1:=by rw [← ex]; rfl
    have hone:¬ (es.filter (·.hash == e.hash)).size > 1:=by
      have l:(es.filter (·.hash == e.hash)).size=(es.toList.filter (·.hash == e.hash)).length:=by rw [← Array.length_toList,Array.toList_filter]
      rw [l,he]
      have key:∀ (ys:List (List Key × Addr × Value)),(ys.map fun x=>(tupleKind (mixKind prog w)).hash x.1).Nodup→((ys.map (entryOfKey (tupleKind (mixKind prog w)))).filter (·.hash == e.hash)).length≤1:=by
        intro ys
        induction ys with
        | nil=>intro _; simp
        | cons y r ih =>
          intro nd
          rw [List.map_cons,List.nodup_cons] at nd
          rw [List.map_cons,List.filter_cons]
          split
          · rename_i hy
            have hy':(tupleKind (mixKind prog w)).hash y.1=e.hash:=by simpa [entryOfKey] using hy
            have none:(r.map (entryOfKey (tupleKind (mixKind prog w)))).filter (·.hash == e.hash)=[]:=by
              rw [List.filter_eq_nil_iff]
              intro z hz hh
              obtain ⟨u,hu,rfl⟩:=List.mem_map.mp hz
              have hu':(tupleKind (mixKind prog w)).hash u.1=e.hash:=by simpa [entryOfKey] using hh
              exact nd.1 (List.mem_map.mpr ⟨u,hu,by rw [hu',hy']⟩)
            rw [none]; simp
          · exact ih nd.2
      have:=key xs hn
      omega
    show wpAny _ _ (Builtin.Dict.quietEq e.key >>= _) _ _ _
    refine wpAny_bind ?_
    rw [ek]
    unfold Builtin.Dict.quietEq
    refine wpAny_bind (wpAny_specialOf hT F.slot_tuple_eq.lookup (wpAny_pure ?_))
    rw [show (some (Value.builtin "tuple.__eq__") == some (Value.builtin "object.__eq__"))=false by decide +kernel]
    simp only [Bool.not_false,if_true]
    rw [if_neg hone]
    exact wpAny_pure ⟨rfl,fun e' h'=>hin e' (List.mem_cons_of_mem _ h')⟩
  · rintro c s' ⟨rfl,_⟩
    exact wpAny_pure h
theorem merge_heap {nm:String} {d o:Addr} {xs:List (List Key × Addr × Value)} {Q:Unit→Shared→Prop} (hdo:d≠o) (hoS:(o == sysModules)=false) (hd:s.heap.DictOfH (tupleKind (mixKind prog w)) d [])
    (ho:s.heap.DictOfH (tupleKind (mixKind prog w)) o xs) (hn2:(xs.map fun x=>(tupleKind (mixKind prog w)).hash x.1).Nodup) (hsz:xs.length≤sizeLine)
    (hQ:∀ h' o' es' ep',h'.get? d=some o'→o'.ExactDict→o'.data=.dict es' ep'→es'.toList=xs.map (entryOfKey (tupleKind (mixKind prog w)))→Heap.SameBut d s.heap h'→Q () { s with heap:=h' }) :
    wpAny (model prog w) A (Builtin.Dict.mergeDict nm d o) Q E s:=by
  obtain ⟨od,esd,epd,hod,hcd,hdd,hed,_,_⟩:=id hd
  obtain ⟨oo,eso,epo,hoo,hco,hdo',heo,hiso,hno⟩:=id ho
  have hlen:eso.size=xs.length:=size_of_entries heo
  have e0:esd = #[]:=by
    have:esd.toList=[]:=by rw [hed]; rfl
    exact Array.toList_eq_nil_iff.mp this
  unfold Builtin.Dict.mergeDict
  rw [if_neg (by simpa using hdo)]
  unfold Builtin.Dict.showsAll
  rw [if_neg (by rw [hoS]; exact Bool.false_ne_true)]
  refine wpAny_bind (wpAny_pure ?_)
  refine wpAny_bind (wpAny_dictEntries hoo hdo' ?_)
  cases xs with
  | nil =>
    have e1:eso = #[]:=Array.toList_eq_nil_iff.mp (by rw [heo]; rfl)
    subst e1
    dsimp only
    rw [if_neg (by simp)]
    refine wpAny_bind (wpAny_dictEpoch hoo hdo' ?_)
    refine wpAny_bind (wpAny_dictEntries hoo hdo' ?_)
    refine wpAny_bind ?_
    rw [Std.Legacy.Range.forIn_eq_forIn_range']
    simp only [Std.Legacy.Range.size]
    exact wpAny_pure (wpAny_pure (hQ _ od esd epd hod hcd hdd (by rw [hed]) (Heap.SameBut.refl _ _)))
  | cons x r =>
    have ns:(eso.all fun e=>(keyPart e.key).isSome)=false:=by
      rw [← Array.all_toList,heo,List.map_cons,List.all_cons]
      show ((keyPart (.ref x.2.1)).isSome && _)=false
      rfl
    dsimp only
    rw [ns,Bool.and_false]
    simp only [Bool.not_false,if_true]
    refine wpAny_bind (wpAny_dictEntries hod hdd ?_)
    rw [if_pos (by rw [e0]; rfl)]
    refine wpAny_bind (entries_heap hoo hdo' heo hiso hn2 ?_)
    have ne:(!eso.isEmpty)=true:=by
      cases q:eso.isEmpty with
      | false=>rfl
      | true =>
        have:eso = #[]:=Array.isEmpty_iff.mp q
        rw [this] at hlen
        simp at hlen
    rw [if_pos ne]
    refine wpAny_bind (wpAny_updateDictKeysTo hod hdd (wpAny_pure ?_) (by rw [hlen]; omega))
    exact hQ _ _ eso (epd + 1) (Heap.get?_update_self _ hod (Obj.isFreed_of_dict (Obj.data_mapDictKeys hdd _))) (hcd.mapDictKeys _) (Obj.data_mapDictKeys hdd _) heo (Heap.SameBut.update ..)
end
section
variable {X:Cx}
def hashT (ks:List Key) (w:World):Int:=reduceHash (Builtin.Tuple.tupleHashOf (ks.map (keyH w)))
theorem KT.hashes {P:Program} {w:World} {H:Hp}:∀ {kvs:List (List Key × V)} {xs:List (List Key × Addr × Value)},KT H kvs xs→(xs.map fun x=>(tupleKind (mixKind P w)).hash x.1)=kvs.map fun kv=>hashT kv.1 w
  | _,_,.nil=>rfl
  | _,_,.cons h t=>by
    rw [List.map_cons,List.map_cons,KT.hashes (P:=P) (w:=w) t,h.1]; rfl
theorem call_dictT:CallR X (.type "dict") (fun xs H Q=>∃ a kvs,xs=[.ref a]∧H a=some (.dT kvs)∧(∀ w,(kvs.map fun kv=>hashT kv.1 w).Nodup)∧∀ p,H p=none→Q (.ref p) (upd H p (.dT kvs))):=by
  intro pins s σ H xs us Q I r h
  obtain ⟨a,kvs,rfl,ha,hh,q⟩:=h
  obtain ⟨u,rfl,rx⟩:=vals1 r
  cases rx
  obtain ⟨hz,hs,ys,kt,dd⟩:=dt_of I.hok ha
  have hl:ys.length=kvs.length:=(Paired.length kt).symm
  have hf:H s.heap.objs.size=none:=I.hok.fresh (Nat.le_refl _)
  have hns:(s.heap.objs.size == sysModules)=false:=by
    have:=I.big
    cases e:(s.heap.objs.size == sysModules) with
    | false=>rfl
    | true =>
      have e':s.heap.objs.size=sysModules:=by simpa using e
      rw [e'] at this
      exact absurd this (Nat.lt_irrefl _)
  have fin:∀ h' o' es' ep',h'.get? s.heap.objs.size=some o'→o'.ExactDict→o'.data=.dict es' ep'→es'.toList=ys.map (entryOfKey (tupleKind (mixKind X.prog X.w)))→Heap.SameBut s.heap.objs.size (s.heap.push { cls:=.type "dict",data:=.dict #[] }) h' →
      EP X pins σ Q (.ref s.heap.objs.size) { s with heap:=h' }:=fun h' o' es' ep' h1 h2 h3 h4 hsb=>by
    refine ⟨.ref s.heap.objs.size,upd H s.heap.objs.size (.dT kvs),I.laid (t':=s.toks) (fun b o e=>hsb.extBut b o (Nat.ne_of_lt (Heap.lt_size e)) (Heap.get?_push_of_some _ e)) (Nat.le_refl _) ?_,rfl,q _ hf⟩
    refine ⟨hz,hns,ys,Paired.mapP kt fun p y z=>⟨z.1,?_,z.2.2⟩,o',es',ep',h1,h2,h3,h4,?_⟩
    · rw [upd_ne (ne_of_none z.2.1 hf)]; exact z.2.1
    · obtain ⟨_,_,_,_,_,_,_,_,hn⟩:=dd
      exact hn
  refine callType_codes (Q₁:=fun obj s₁=>obj=.ref s.heap.objs.size∧s₁={ s with heap:=s.heap.push { cls:=.type "dict",data:=.dict #[] } }) F.kt_called_dict (F.kt_typeCall_dict_1 _) F.entry_dict_init (kt_code_dict_new _ ⟨rfl,rfl⟩) ?_
  rintro obj s₁ ⟨rfl,rfl⟩
  have hnew:(s.heap.push { cls:=.type "dict",data:=.dict #[] }).DictOfH (tupleKind (mixKind X.prog X.w)) s.heap.objs.size []:=Heap.DictOfH.new s.heap
  have ho':(s.heap.push { cls:=.type "dict",data:=.dict #[] }).DictOfH (tupleKind (mixKind X.prog X.w)) a ys:=by
    obtain ⟨o,es,ep,h1,h2,h3,h4,h5,h6⟩:=dd
    refine ⟨o,es,ep,Heap.get?_push_of_some _ h1,h2,h3,h4,fun x hx => ?_,h6⟩
    obtain ⟨o2,it,n2,k1,k2⟩:=h5 x hx
    exact ⟨o2,it,n2,Heap.get?_push_of_some _ k1,k2⟩
  have hdo:s.heap.objs.size≠a:=by
    obtain ⟨_,_,_,hg,_⟩:=dd
    exact fun e=>absurd (Heap.lt_size hg) (by rw [e]; exact Nat.lt_irrefl _)
  refine ⟨hnew.typeIs,F.args_dict_init_2 _ _,?_⟩
  unfold Builtin.«dict.__init__»
  refine wpAny_bind ?_
  unfold Builtin.Dict.selfAndRest
  refine wpAny_bind (wpAny_notOrdered_dict hnew.typeIs ?_)
  show wpAny _ _ (pure (s.heap.objs.size,[Value.ref a])) _ _ _
  refine wpAny_pure ?_
  show wpAny _ _ (Builtin.Dict.updateFrom "dict.__init__" s.heap.objs.size (.ref a) [] .none) _ _ _
  unfold Builtin.Dict.updateFrom
  refine wpAny_bind (wpAny_typeOf ho'.typeIs ?_)
  rw [if_neg (by decide)]
  refine wpAny_bind ?_
  unfold Builtin.Dict.merge
  refine wpAny_bind ?_
  unfold Builtin.Dict.readDirectly
  refine wpAny_bind (wpAny_isInstance ho'.typeIs isSubtype_dict_dict ?_)
  simp only [Bool.not_true,Bool.false_eq_true,if_false]
  refine wpAny_bind (wpAny_specialOf ho'.typeIs F.slot_dict_iter.lookup (wpAny_pure ?_))
  simp only [beq_self_eq_true,if_true]
  refine wpAny_bind (wpAny_pure ?_)
  refine merge_heap hdo hs hnew ho' (by rw [KT.hashes kt]; exact hh X.w) (by rw [hl]; exact hz) fun h' o' es' ep' h1 h2 h3 h4 hs' => ?_
  show wpAny _ _ (Builtin.Dict.addKeywords s.heap.objs.size [] >>= _) _ _ _
  exact wpAny_bind (wpAny_pure (wpAny_pure ⟨rfl,fin h' o' es' ep' h1 h2 h3 h4 hs'⟩))
end
end L2

namespace Tim
open PySem PyProof.Rows

section
variable {prog:Program} {w:World} {A:Around} {E:Value→Shared→Prop} {s:Shared} {a₀:Array Keyed} {κ:SortKind} {key:Keyed→Int}

def LtOk (prog:Program) (w:World) (A:Around) (E:Value→Shared→Prop) (s:Shared) (a₀:Array Keyed) (κ:SortKind) (key:Keyed→Int):Prop :=
  ∀ (x y:Keyed) (C:Bool→Shared→Prop),x∈a₀.toList→y∈a₀.toList→C (decide (key x < key y)) s→wpAny (model prog w) A (keyLt' κ x.1 y.1) C (fun _ _=>False) s
structure SB (a₀:Array Keyed) (κ:SortKind) (st:SortSt):Prop where
  perm:(arrOf st).Perm a₀
  kind:kindOf st=κ
  ok:failedOf st=none
theorem SB.size {st:SortSt} (h:SB a₀ κ st):(arrOf st).size=a₀.size:=h.perm.size_eq
theorem SB.mem {st:SortSt} (h:SB a₀ κ st) {x:Keyed} (hx:x∈(arrOf st).toList):x∈a₀.toList:=(Array.perm_iff_toList_perm.mp h.perm).mem_iff.mp hx
theorem SB.set {st:SortSt} (h:SB a₀ κ st) {xs:Array Keyed} (hp:xs.Perm (arrOf st)):SB a₀ κ (setArr st xs):=⟨hp.trans h.perm,h.kind,h.ok⟩

def kat (key:Keyed→Int) (xs:Array Keyed) (i:Nat):Int:=match xs[i]? with
  | some p=>key p
  | none=>0
theorem kat_of {xs ys:Array Keyed} {i j:Nat} (h:xs[i]? = ys[j]?):kat key xs i=kat key ys j:=by unfold kat; rw [h]
theorem kat_some {xs:Array Keyed} {i:Nat} {p:Keyed} (h:xs[i]? = some p):kat key xs i=key p:=by unfold kat; rw [h]

def Seg (key:Keyed→Int) (xs:Array Keyed) (lo hi:Nat):Prop:=∀ i j,lo≤i→i≤j→j < hi→kat key xs i≤kat key xs j
theorem lt_ok (L:LtOk prog w A E s a₀ κ key) {x y:Keyed} {st:SortSt} {Q:Option Bool→SortSt→Prop} (hk:kindOf st=κ) (hx:x∈a₀.toList) (hy:y∈a₀.toList) (h:Q (some (decide (key x < key y))) st) :
    wpS (model prog w) A E s (lt' x y) Q st:=by
  rw [lt'_eq]
  refine wpS_bind (wpS_get ?_)
  rw [hk]
  refine wpS_bind (wpS_lift (wpAny_attempt (wpAny_mono (L x y (fun b s'=>b=decide (key x < key y)∧s'=s) hx hy ⟨rfl,rfl⟩) (fun b s' hb => ?_) fun _ _ e=>e.elim)))
  obtain ⟨rfl,rfl⟩:=hb
  exact ⟨rfl,wpS_pure h⟩
theorem el_ok {arr:Array Keyed} {i:Nat} {p:Keyed} {st:SortSt} {Q:Keyed→SortSt→Prop} (hi:arr[i]? = some p) (h:Q p st):wpS (model prog w) A E s (elem' arr i) Q st:=by
  rw [elem'_eq,hi]
  exact wpS_pure h
theorem at_mem {xs:Array Keyed} {i:Nat} {p:Keyed} (h:xs[i]? = some p):p∈xs.toList:=by
  have:p∈xs:=Array.mem_of_getElem? h
  exact Array.mem_toList_iff.mpr this
theorem ltAt_ok (L:LtOk prog w A E s a₀ κ key) {i j:Nat} {st:SortSt} {Q:Option Bool→SortSt→Prop} (hB:SB a₀ κ st) (hi:i < a₀.size) (hj:j < a₀.size) (h:Q (some (decide (kat key (arrOf st) i < kat key (arrOf st) j))) st) :
    wpS (model prog w) A E s (ltAt' i j) Q st:=by
  rw [ltAt'_eq]
  refine wpS_bind (wpS_get ?_)
  have e1:(arrOf st)[i]? = some ((arrOf st)[i]'(by rw [hB.size]; exact hi)):=Array.getElem?_eq_getElem _
  have e2:(arrOf st)[j]? = some ((arrOf st)[j]'(by rw [hB.size]; exact hj)):=Array.getElem?_eq_getElem _
  refine wpS_bind (el_ok e1 (wpS_bind (el_ok e2 ?_)))
  refine lt_ok L hB.kind (hB.mem (at_mem e1)) (hB.mem (at_mem e2)) ?_
  rw [kat_some e1,kat_some e2] at h
  exact h

def gallopP:Bool→Keyed→Array Keyed→Nat→Nat→Nat→StateT SortSt Sem (Option Nat):=sortPriv% PySem.Builtin.gallop
def pastP (left:Bool) (x:Keyed) (u:Array Keyed) (base i:Nat):StateT SortSt Sem (Option Bool):=do
  let y ← elem' u (base + i)
  if left then lt' y x else return (← lt' x y).map (!·)
abbrev St3:=Option (Option Nat) × Nat × Nat

def halfL (left:Bool) (x:Keyed) (u:Array Keyed) (base n p q:Nat):StateT SortSt Sem (Option Nat):=do
  let r ← forIn [0:n] ((none,p,q):St3) fun _ r =>
    if r.2.1 ≥ r.2.2 then pure (ForInStep.done (none,r.2.1,r.2.2)) else do
      let y ← pastP left x u base (r.2.1 + (r.2.2 - r.2.1) / 2)
      match y with
      | some more=>if more=true then pure (ForInStep.yield (none,r.2.1 + (r.2.2 - r.2.1) / 2 + 1,r.2.2)) else pure (ForInStep.yield (none,r.2.1,r.2.1 + (r.2.2 - r.2.1) / 2))
      | _=>pure (ForInStep.done (some none,r.2.1,r.2.2))
  match r.1 with
  | some v=>pure v
  | none=>pure (some r.2.2)

def farL (left:Bool) (x:Keyed) (u:Array Keyed) (base n room:Nat) (pl:Nat→Nat) (stop:Bool→Bool):StateT SortSt Sem St3 :=
  forIn [0:n] ((none,0,1):St3) fun _ r =>
    if r.2.2 ≥ room then pure (ForInStep.done (none,r.2.1,r.2.2)) else do
      let y ← pastP left x u base (pl r.2.2)
      match y with
      | some more=>if stop more=true then pure (ForInStep.done (none,r.2.1,r.2.2)) else pure (ForInStep.yield (none,r.2.2,2 * r.2.2 + 1))
      | _=>pure (ForInStep.done (some none,r.2.1,r.2.2))
theorem gallopP_do (left:Bool) (x:Keyed) (u:Array Keyed) (base n hint:Nat):gallopP left x u base n hint=(do
    let mut was:=0
    let mut step:=1
    let mut p:=0
    let mut q:=0
    let some right ← pastP left x u base hint | return none
    if right then
      let room:=n - hint
      for _ in [0:n] do
        if step ≥ room then break
        let some more ← pastP left x u base (hint + step) | return none
        if !more then break
        was:=step
        step:=2 * step + 1
      p:=hint + was + 1
      q:=hint + min step room
    else
      let room:=hint + 1
      for _ in [0:n] do
        if step ≥ room then break
        let some found ← pastP left x u base (hint - step) | return none
        if found then break
        was:=step
        step:=2 * step + 1
      p:=hint + 1 - min step room
      q:=hint - was
    for _ in [0:n] do
      if p ≥ q then break
      let m:=p + (q - p) / 2
      let some more ← pastP left x u base m | return none
      if more then p:=m + 1 else q:=m
    return some q):=rfl
theorem gallopP_eq (left:Bool) (x:Keyed) (u:Array Keyed) (base n hint:Nat):gallopP left x u base n hint=(do
    let y ← pastP left x u base hint
    match y with
    | some right =>
      if right=true then do
        let r ← farL left x u base n (n - hint) (fun k=>hint + k) (fun m => !m)
        match r.1 with
        | some v=>pure v
        | none=>halfL left x u base n (hint + r.2.1 + 1) (hint + min r.2.2 (n - hint))
      else do
        let r ← farL left x u base n (hint + 1) (fun k=>hint - k) (fun m=>m)
        match r.1 with
        | some v=>pure v
        | none=>halfL left x u base n (hint + 1 - min r.2.2 (hint + 1)) (hint - r.2.1)
    | _=>pure none):=by
  rw [gallopP_do]
  unfold farL halfL
  dsimp only
  congr 1
  funext y
  cases y with
  | none=>rfl
  | some r =>
    cases r with
    | true =>
      dsimp only
      rw [if_pos rfl,if_pos rfl]
      congr 1
      funext r
      obtain ⟨r1,r2,r3⟩:=r
      cases r1 with
      | some v=>rfl
      | none =>
        dsimp only
        congr 1
        funext r
        obtain ⟨r1,r2,r3⟩:=r
        cases r1 <;> rfl
    | false =>
      dsimp only
      rw [if_neg (by decide),if_neg (by decide)]
      congr 1
      funext r
      obtain ⟨r1,r2,r3⟩:=r
      cases r1 with
      | some v=>rfl
      | none =>
        dsimp only
        congr 1
        funext r
        obtain ⟨r1,r2,r3⟩:=r
        cases r1 <;> rfl
def isPast (key:Keyed→Int) (left:Bool) (x:Keyed) (u:Array Keyed) (base i:Nat):Bool:=if left then decide (kat key u (base + i) < key x) else !decide (key x < kat key u (base + i))
theorem past_mono {left:Bool} {x:Keyed} {u:Array Keyed} {base n i j:Nat} (sg:Seg key u base (base + n)) (hij:j≤i) (hi:i < n) (h:isPast key left x u base i=true):isPast key left x u base j=true:=by
  have:=sg (base + j) (base + i) (by omega) (by omega) (by omega)
  unfold isPast at h ⊢
  cases left with
  | true =>
    rw [if_pos rfl] at h ⊢
    have h':=of_decide_eq_true h
    exact decide_eq_true (by omega)
  | false =>
    rw [if_neg (by decide)] at h ⊢
    have h':¬ key x < kat key u (base + i):=by simpa using h
    have:¬ key x < kat key u (base + j):=by omega
    simpa using this
theorem past_ok (L:LtOk prog w A E s a₀ κ key) {left:Bool} {x:Keyed} {u:Array Keyed} {base n i:Nat} {st:SortSt} {Q:Option Bool→SortSt→Prop} (hk:kindOf st=κ) (hx:x∈a₀.toList) (hu:∀ y∈u.toList,y∈a₀.toList)
    (hb:base + n≤u.size) (hi:i < n) (h:Q (some (isPast key left x u base i)) st):wpS (model prog w) A E s (pastP left x u base i) Q st:=by
  unfold pastP
  have e1:u[base + i]? = some (u[base + i]'(by omega)):=Array.getElem?_eq_getElem _
  refine wpS_bind (el_ok e1 ?_)
  unfold isPast at h
  rw [kat_some e1] at h
  cases left with
  | true =>
    rw [if_pos rfl] at h ⊢
    exact lt_ok L hk (hu _ (at_mem e1)) hx h
  | false =>
    rw [if_neg (by decide)] at h ⊢
    exact wpS_bind (lt_ok L hk hx (hu _ (at_mem e1)) (wpS_pure h))
theorem half_ok (L:LtOk prog w A E s a₀ κ key) {left:Bool} {x:Keyed} {u:Array Keyed} {base n p q:Nat} {st:SortSt} {Q:Option Nat→SortSt→Prop} (hk:kindOf st=κ) (hx:x∈a₀.toList) (hu:∀ y∈u.toList,y∈a₀.toList)
    (hb:base + n≤u.size) (sg:Seg key u base (base + n)) (hpq:p≤q) (hq:q≤n) (lo:∀ i,i < p→isPast key left x u base i=true) (hi:∀ i,q≤i→i < n→isPast key left x u base i=false)
    (h:∀ k,k≤n→(∀ i,i < k→isPast key left x u base i=true)→(∀ i,k≤i→i < n→isPast key left x u base i=false)→Q (some k) st):wpS (model prog w) A E s (halfL left x u base n p q) Q st:=by
  unfold halfL
  refine wpS_bind (wpS_mono (wpS_forRange (I:=fun t c st'=>st'=st∧∃ p q,c=(none,p,q)∧p≤q∧q≤n∧q - p≤n - t∧(∀ i,i < p→isPast key left x u base i=true)∧(∀ i,q≤i→i < n→isPast key left x u base i=false))
    (Q:=fun c st'=>st'=st∧∃ q,c=(none,q,q)∧q≤n∧(∀ i,i < q→isPast key left x u base i=true)∧(∀ i,q≤i→i < n→isPast key left x u base i=false)) ?step ?fin ⟨rfl,p,q,rfl,hpq,hq,by omega,lo,hi⟩) ?post)
  case post =>
    rintro c st' ⟨rfl,q,rfl,h1,h2,h3⟩
    exact wpS_pure (h q h1 h2 h3)
  case fin =>
    rintro c st' ⟨rfl,p,q,rfl,h1,h2,h3,h4,h5⟩
    have e:p=q:=by omega
    subst e
    exact ⟨rfl,p,rfl,h2,h4,h5⟩
  case step =>
    rintro t c st' _ ht ⟨rfl,p,q,rfl,h1,h2,h3,h4,h5⟩
    dsimp only
    by_cases e:p ≥ q
    · rw [if_pos e]
      have e':p=q:=by omega
      subst e'
      exact wpS_pure ⟨rfl,p,rfl,h2,h4,h5⟩
    · rw [if_neg e]
      refine wpS_bind (past_ok L hk hx hu hb (n:=n) (by omega) ?_)
      dsimp only
      cases hm:isPast key left x u base (p + (q - p) / 2) with
      | true =>
        rw [if_pos rfl]
        exact wpS_pure ⟨rfl,_,_,rfl,by omega,h2,by omega,fun i hi=>past_mono sg (by omega) (by omega) hm,h5⟩
      | false =>
        rw [if_neg (by decide)]
        refine wpS_pure ⟨rfl,_,_,rfl,by omega,by omega,by omega,h4,fun i h6 h7 => ?_⟩
        cases z:isPast key left x u base i with
        | false=>rfl
        | true=>rw [past_mono sg h6 h7 z] at hm; cases hm
theorem far_ok (L:LtOk prog w A E s a₀ κ key) {left:Bool} {x:Keyed} {u:Array Keyed} {base n room:Nat} {pl:Nat→Nat} {good:Bool} {stop:Bool→Bool} (hstop:∀ m,stop m=(m != good)) {st:SortSt} {Q:St3→SortSt→Prop} (hk:kindOf st=κ) (hx:x∈a₀.toList) (hu:∀ y∈u.toList,y∈a₀.toList)
    (hb:base + n≤u.size) (hr:room≤n) (hpl:∀ k,k < room→pl k < n) (h0:isPast key left x u base (pl 0)=good) (hr0:0 < room)
    (h:∀ was step,was < step→was < room→isPast key left x u base (pl was)=good→(room≤step∨isPast key left x u base (pl step) = !good)→Q (none,was,step) st):wpS (model prog w) A E s (farL left x u base n room pl stop) Q st:=by
  unfold farL
  refine wpS_forRange (I:=fun t c st'=>st'=st∧∃ was step,c=(none,was,step)∧was < step∧was < room∧t + 1≤step∧isPast key left x u base (pl was)=good) ?step ?fin ⟨rfl,0,1,rfl,by omega,hr0,by omega,h0⟩
  case fin =>
    rintro c st' ⟨rfl,was,step,rfl,h1,h2,h3,h4⟩
    exact h was step h1 h2 h4 (.inl (by omega))
  case step =>
    rintro t c st' _ ht ⟨rfl,was,step,rfl,h1,h2,h3,h4⟩
    dsimp only
    by_cases e:step ≥ room
    · rw [if_pos e]
      exact wpS_pure (h was step h1 h2 h4 (.inl e))
    · rw [if_neg e]
      refine wpS_bind (past_ok L hk hx hu hb (hpl step (by omega)) ?_)
      dsimp only
      by_cases hm:isPast key left x u base (pl step)=good
      · have e2:stop (isPast key left x u base (pl step))=false:=by rw [hstop,hm]; cases good <;> rfl
        rw [e2,if_neg (by decide)]
        exact wpS_pure ⟨rfl,step,2 * step + 1,rfl,by omega,by omega,by omega,hm⟩
      · have hm':isPast key left x u base (pl step) = !good:=by
          cases q:isPast key left x u base (pl step) <;> cases good <;> simp_all
        have e2:stop (isPast key left x u base (pl step))=true:=by rw [hstop,hm']; cases good <;> rfl
        rw [e2,if_pos rfl]
        exact wpS_pure (h was step h1 h2 h4 (.inr hm'))
theorem gallop_ok (L:LtOk prog w A E s a₀ κ key) {left:Bool} {x:Keyed} {u:Array Keyed} {base n hint:Nat} {st:SortSt} {Q:Option Nat→SortSt→Prop} (hk:kindOf st=κ) (hx:x∈a₀.toList) (hu:∀ y∈u.toList,y∈a₀.toList)
    (hb:base + n≤u.size) (hh:hint < n) (sg:Seg key u base (base + n))
    (h:∀ k,k≤n→(∀ i,i < k→isPast key left x u base i=true)→(∀ i,k≤i→i < n→isPast key left x u base i=false)→Q (some k) st):wpS (model prog w) A E s (gallopP left x u base n hint) Q st:=by
  rw [gallopP_eq]
  have dn:∀ i,i < n→isPast key left x u base i=false→∀ j,i≤j→j < n→isPast key left x u base j=false:=fun i hi e j hj hjn=>by
    cases q:isPast key left x u base j with
    | false=>rfl
    | true=>rw [past_mono sg hj hjn q] at e; cases e
  refine wpS_bind (past_ok L hk hx hu hb hh ?_)
  dsimp only
  cases hp:isPast key left x u base hint with
  | true =>
    rw [if_pos rfl]
    refine wpS_bind (far_ok L (by intro m; cases m <;> rfl) hk hx hu hb (by omega) (fun k hk=>by omega) hp (by omega) fun was step h1 h2 h3 h4 => ?_)
    dsimp only
    refine half_ok L hk hx hu hb sg (by omega) (by omega) (fun i hi=>past_mono sg (by omega) (by omega) h3) (fun i h5 h6 => ?_) h
    rcases h4 with h4 | h4
    · omega
    · by_cases h7:n - hint≤step
      · omega
      · exact dn (hint + step) (by omega) h4 i (by omega) h6
  | false =>
    rw [if_neg (by decide)]
    refine wpS_bind (far_ok L (by intro m; cases m <;> rfl) hk hx hu hb (by omega) (fun k hk=>by omega) hp (by omega) fun was step h1 h2 h3 h4 => ?_)
    dsimp only
    refine half_ok L hk hx hu hb sg (by omega) (by omega) (fun i hi => ?_) (fun i h5 h6=>dn (hint - was) (by omega) h3 i h5 h6) h
    rcases h4 with h4 | h4
    · omega
    · by_cases h7:hint + 1≤step
      · omega
      · exact past_mono sg (by omega) (by omega) h4
end
end Tim

namespace Tim
open PySem PyProof.Rows
section
variable {prog:Program} {w:World} {A:Around} {E:Value→Shared→Prop} {s:Shared} {a₀:Array Keyed} {κ:SortKind} {key:Keyed→Int}
def loP:Array Keyed→Array Keyed→StateT SortSt Sem (Array Keyed):=sortPriv% PySem.Builtin.mergeLo
abbrev setGal (st:SortSt) (g:Nat):SortSt:=SortSt.mk' (kindOf st) (arrOf st) (pendingOf st) g (failedOf st)
abbrev St7:=Option (Array Keyed) × Array Keyed × Nat × Nat × Nat × Nat × Nat
abbrev St6:=Option (Array Keyed) × Array Keyed × Nat × Nat × Nat × Nat
abbrev St5:=Option (Array Keyed) × Array Keyed × Nat × Nat × Nat
def fin1 (u v o:Array Keyed) (i j:Nat):Array Keyed:=o++u.extract i u.size++v.extract j v.size
def fin2 (u v o:Array Keyed) (i j:Nat):Array Keyed:=o++v.extract j v.size++u.extract i u.size

def oneStep (u v:Array Keyed) (g:Nat) (r:St6):StateT SortSt Sem (ForInStep St6):=do
  let y ← elem' v r.2.2.2.1
  let x ← elem' u r.2.2.1
  let z ← lt' y x
  match z with
  | some won =>
    if won=true then do
      let y ← elem' v r.2.2.2.1
      if (r.2.2.2.1 + 1 == v.size)=true then pure (.done (some (fin1 u v (r.2.1.push y) r.2.2.1 (r.2.2.2.1 + 1)),r.2.1.push y,r.2.2.1,r.2.2.2.1 + 1,0,r.2.2.2.2.2 + 1))
      else if r.2.2.2.2.2 + 1 ≥ g then pure (.done (none,r.2.1.push y,r.2.2.1,r.2.2.2.1 + 1,0,r.2.2.2.2.2 + 1))
      else pure (.yield (none,r.2.1.push y,r.2.2.1,r.2.2.2.1 + 1,0,r.2.2.2.2.2 + 1))
    else do
      let x ← elem' u r.2.2.1
      if (r.2.2.1 + 1 + 1 == u.size)=true then pure (.done (some (fin2 u v (r.2.1.push x) (r.2.2.1 + 1) r.2.2.2.1),r.2.1.push x,r.2.2.1 + 1,r.2.2.2.1,r.2.2.2.2.1 + 1,0))
      else if r.2.2.2.2.1 + 1 ≥ g then pure (.done (none,r.2.1.push x,r.2.2.1 + 1,r.2.2.2.1,r.2.2.2.2.1 + 1,0))
      else pure (.yield (none,r.2.1.push x,r.2.2.1 + 1,r.2.2.2.1,r.2.2.2.2.1 + 1,0))
  | _=>pure (.done (some (fin1 u v r.2.1 r.2.2.1 r.2.2.2.1),r.2.1,r.2.2.1,r.2.2.2.1,r.2.2.2.2.1,r.2.2.2.2.2))

def galEnd (u v o:Array Keyed) (i j g ca cb:Nat):StateT SortSt Sem (ForInStep St7):=do
  let x ← elem' u i
  if (i + 1 + 1 == u.size)=true then pure (.done (some (fin2 u v (o.push x) (i + 1) j),o.push x,i + 1,j,g,ca,cb))
  else if (decide (ca < 7) && decide (cb < 7))=true then pure (.done (none,o.push x,i + 1,j,g,ca,cb))
  else pure (.yield (none,o.push x,i + 1,j,g,ca,cb))
def galMid (u v o:Array Keyed) (i j g ca cb:Nat):StateT SortSt Sem (ForInStep St7):=do
  let y ← elem' v j
  if (j + 1 == v.size)=true then pure (.done (some (fin1 u v (o.push y) i (j + 1)),o.push y,i,j + 1,g,ca,cb)) else do
    let x ← elem' u i
    let z ← gallopP true x v (j + 1) (v.size - (j + 1)) 0
    match z with
    | some k =>
      if k > 0 then
        if (j + 1 + k == v.size)=true then pure (.done (some (fin1 u v (o.push y++v.extract (j + 1) (j + 1 + k)) i (j + 1 + k)),o.push y++v.extract (j + 1) (j + 1 + k),i,j + 1 + k,g,ca,k))
        else galEnd u v (o.push y++v.extract (j + 1) (j + 1 + k)) i (j + 1 + k) g ca k
      else galEnd u v (o.push y) i (j + 1) g ca k
    | _=>pure (.done (some (fin1 u v (o.push y) i (j + 1)),o.push y,i,j + 1,g,ca,cb))
def galTop (u v o:Array Keyed) (i j g ca cb:Nat):StateT SortSt Sem (ForInStep St7):=do
  modify fun st=>setGal st g
  let y ← elem' v j
  let z ← gallopP false y u i (u.size - i) 0
  match z with
  | some k =>
    if k > 0 then
      if (i + k + 1 == u.size)=true then pure (.done (some (fin2 u v (o++u.extract i (i + k)) (i + k) j),o++u.extract i (i + k),i + k,j,g,k,cb))
      else if (i + k == u.size)=true then pure (.done (some (fin1 u v (o++u.extract i (i + k)) (i + k) j),o++u.extract i (i + k),i + k,j,g,k,cb))
      else galMid u v (o++u.extract i (i + k)) (i + k) j g k cb
    else galMid u v o i j g k cb
  | _=>pure (.done (some (fin1 u v o i j),o,i,j,g,ca,cb))
def galStep (u v:Array Keyed) (r:St7):StateT SortSt Sem (ForInStep St7) :=
  if r.2.2.2.2.1 > 1 then galTop u v r.2.1 r.2.2.1 r.2.2.2.1 (r.2.2.2.2.1 - 1) r.2.2.2.2.2.1 r.2.2.2.2.2.2 else galTop u v r.2.1 r.2.2.1 r.2.2.2.1 r.2.2.2.2.1 r.2.2.2.2.2.1 r.2.2.2.2.2.2
def roundStep (u v:Array Keyed) (r:St5):StateT SortSt Sem (ForInStep St5):=do
  let q ← forIn [0:u.size + v.size] ((none,r.2.1,r.2.2.1,r.2.2.2.1,0,0):St6) fun _ q=>oneStep u v r.2.2.2.2 q
  match q.1 with
  | some z=>pure (.done (some z,q.2.1,q.2.2.1,q.2.2.2.1,r.2.2.2.2))
  | none=>do
    liftM (rule "list.sort.gallop")
    let p ← forIn [0:u.size + v.size] ((none,q.2.1,q.2.2.1,q.2.2.2.1,r.2.2.2.2 + 1,q.2.2.2.2.1,q.2.2.2.2.2):St7) fun _ p=>galStep u v p
    match p.1 with
    | some z=>pure (.done (some z,p.2.1,p.2.2.1,p.2.2.2.1,p.2.2.2.2.1))
    | none=>do
      modify fun st=>setGal st (p.2.2.2.2.1 + 1)
      pure (.yield (none,p.2.1,p.2.2.1,p.2.2.2.1,p.2.2.2.2.1 + 1))
theorem loP_eq (u v:Array Keyed):loP u v=(do
    liftM (rule "list.sort.merge-lo")
    let y ← elem' v 0
    if (1 == v.size)=true then pure (fin1 u v #[y] 0 1) else
      if (0 + 1 == u.size)=true then pure (fin2 u v #[y] 0 1) else do
        let st ← get
        let r ← forIn [0:u.size + v.size] ((none,#[y],0,1,gallopOf st):St5) fun _ r=>roundStep u v r
        match r.1 with
        | some z=>pure z
        | none=>liftM (unsupported "internal:list.sort.merge-bound" : Sem (Array Keyed))):=by
  kernel_rfl

abbrev Srt (key:Keyed→Int) (l:List Keyed):Prop:=l.Pairwise fun x y=>key x≤key y
theorem srt_seg {u:Array Keyed}:Srt key u.toList↔Seg key u 0 u.size:=by
  constructor
  · intro h i j _ hij hj
    by_cases e:i=j
    · subst e; exact Int.le_refl _
    have e1:u[i]? = some (u.toList[i]'(by simp; omega)):=by simp
    have e2:u[j]? = some (u.toList[j]'(by simp; omega)):=by simp
    rw [kat_some e1,kat_some e2]
    exact List.pairwise_iff_getElem.mp h i j (by simp; omega) (by simp; omega) (by omega)
  · intro h
    refine List.pairwise_iff_getElem.mpr fun i j hi hj hij => ?_
    have hi':i < u.size:=by simpa using hi
    have hj':j < u.size:=by simpa using hj
    have e1:u[i]? = some (u.toList[i]):=by simp
    have e2:u[j]? = some (u.toList[j]):=by simp
    have:=h i j (Nat.zero_le _) (by omega) hj'
    rw [kat_some e1,kat_some e2] at this
    exact this

theorem srt_mid {o m r:List Keyed} (h1:Srt key (o++m)) (h2:Srt key (o++r)) (h3:∀ x∈m,∀ y∈r,key x≤key y):Srt key (o++m++r):=by
  unfold Srt at h1 h2 ⊢
  rw [List.pairwise_append] at h1 h2 ⊢
  refine ⟨List.pairwise_append.mpr h1,h2.2.1,fun x hx y hy => ?_⟩
  rcases List.mem_append.mp hx with hx | hx
  · exact h2.2.2 x hx y hy
  · exact h3 x hx y hy
def Res (key:Keyed→Int) (u v z:Array Keyed):Prop:=z.toList.Perm (u.toList++v.toList)∧Srt key z.toList
structure MI (key:Keyed→Int) (u v o:Array Keyed) (i j:Nat):Prop where
  perm:(o.toList++(u.toList.drop i++v.toList.drop j)).Perm (u.toList++v.toList)
  sa:Srt key (o.toList++u.toList.drop i)
  sb:Srt key (o.toList++v.toList.drop j)
  hi:i≤u.size
  hj:j≤v.size
theorem MI.len {u v o:Array Keyed} {i j:Nat} (h:MI key u v o i j):o.size=i + j:=by
  have:=h.perm.length_eq
  have h1:=h.hi
  have h2:=h.hj
  simp only [List.length_append,List.length_drop,Array.length_toList] at this
  omega
theorem MI.takeA {u v o o':Array Keyed} {i j k:Nat} (h:MI key u v o i j) (ho:o'.toList=o.toList++(u.toList.drop i).take k) (hk:i + k≤u.size) (hl:∀ x∈(u.toList.drop i).take k,∀ y∈v.toList.drop j,key x≤key y):MI key u v o' (i + k) j:=by
  have e:(u.toList.drop i).take k++u.toList.drop (i + k)=u.toList.drop i:=by rw [← List.drop_drop]; exact List.take_append_drop _ _
  refine ⟨?_,?_,?_,hk,h.hj⟩
  · rw [ho]
    have:o.toList++(u.toList.drop i).take k++(u.toList.drop (i + k)++v.toList.drop j)=o.toList++(u.toList.drop i++v.toList.drop j):=by
      rw [List.append_assoc,← List.append_assoc ((u.toList.drop i).take k),e]
    rw [this]; exact h.perm
  · rw [ho,List.append_assoc,e]; exact h.sa
  · rw [ho]
    have h1:Srt key (o.toList++(u.toList.drop i).take k):=by
      have:=h.sa
      rw [← e,← List.append_assoc] at this
      exact (List.pairwise_append.mp this).1
    exact srt_mid h1 h.sb hl
theorem perm_move (o T U D W:List Keyed) (e:T++D=W):(o++T++(U++D)).Perm (o++(U++W)):=by
  rw [← e,List.append_assoc]
  refine List.Perm.append_left _ ?_
  rw [← List.append_assoc,← List.append_assoc]
  exact List.Perm.append_right _ List.perm_append_comm
theorem MI.takeB {u v o o':Array Keyed} {i j k:Nat} (h:MI key u v o i j) (ho:o'.toList=o.toList++(v.toList.drop j).take k) (hk:j + k≤v.size) (hl:∀ x∈(v.toList.drop j).take k,∀ y∈u.toList.drop i,key x≤key y):MI key u v o' i (j + k):=by
  have e:(v.toList.drop j).take k++v.toList.drop (j + k)=v.toList.drop j:=by rw [← List.drop_drop]; exact List.take_append_drop _ _
  refine ⟨?_,?_,?_,h.hi,hk⟩
  · rw [ho]
    exact (perm_move _ _ _ _ _ e).trans h.perm
  · rw [ho]
    have h1:Srt key (o.toList++(v.toList.drop j).take k):=by
      have:=h.sb
      rw [← e,← List.append_assoc] at this
      exact (List.pairwise_append.mp this).1
    exact srt_mid h1 h.sa hl
  · rw [ho,List.append_assoc,e]; exact h.sb
theorem ext_end (u:Array Keyed) (i:Nat):(u.extract i u.size).toList=u.toList.drop i:=by
  rw [Array.toList_extract,List.extract_eq_take_drop,List.take_of_length_le (by simp)]
theorem ext_mid (u:Array Keyed) (i k:Nat):(u.extract i (i + k)).toList=(u.toList.drop i).take k:=by
  rw [Array.toList_extract,List.extract_eq_take_drop]
  congr 1
  omega
theorem fin1_ok {u v o:Array Keyed} {i j:Nat} (h:MI key u v o i j) (he:i=u.size∨j=v.size):Res key u v (fin1 u v o i j):=by
  have e:(fin1 u v o i j).toList=o.toList++u.toList.drop i++v.toList.drop j:=by
    unfold fin1; rw [Array.toList_append,Array.toList_append,ext_end,ext_end]
  refine ⟨by rw [e,List.append_assoc]; exact h.perm,?_⟩
  rw [e]
  rcases he with he | he
  · rw [he,List.drop_of_length_le (by simp),List.append_nil]; exact h.sb
  · rw [he,List.drop_of_length_le (l:=v.toList) (by simp),List.append_nil]; exact h.sa
theorem fin2_ok {u v o:Array Keyed} {i j:Nat} (h:MI key u v o i j) (hl:∀ x∈v.toList.drop j,∀ y∈u.toList.drop i,key x≤key y):Res key u v (fin2 u v o i j):=by
  have e:(fin2 u v o i j).toList=o.toList++v.toList.drop j++u.toList.drop i:=by
    unfold fin2; rw [Array.toList_append,Array.toList_append,ext_end,ext_end]
  refine ⟨?_,?_⟩
  · rw [e,List.append_assoc]
    exact (List.Perm.append_left _ List.perm_append_comm).trans h.perm
  · rw [e]; exact srt_mid h.sb h.sa hl
end
end Tim

namespace Tim
open PySem PyProof.Rows
section
variable {prog:Program} {w:World} {A:Around} {E:Value→Shared→Prop} {s:Shared} {a₀:Array Keyed} {κ:SortKind} {key:Keyed→Int}
structure Pre (a₀:Array Keyed) (key:Keyed→Int) (u v:Array Keyed):Prop where
  mu:∀ y∈u.toList,y∈a₀.toList
  mv:∀ y∈v.toList,y∈a₀.toList
  su:Seg key u 0 u.size
  sv:Seg key v 0 v.size
  hu:1≤u.size
  hv:1≤v.size
  first:kat key v 0 < kat key u 0
  last:kat key v (v.size - 1) < kat key u (u.size - 1)
theorem of_drop {u:Array Keyed} {i:Nat} {y:Keyed} (h:y∈u.toList.drop i):∃ t,i≤t∧t < u.size∧u[t]? = some y:=by
  obtain ⟨t,ht,e⟩:=List.getElem_of_mem h
  rw [List.length_drop,Array.length_toList] at ht
  rw [List.getElem_drop] at e
  refine ⟨i + t,by omega,by omega,?_⟩
  rw [← e,Array.getElem_toList]
  exact Array.getElem?_eq_getElem _
theorem of_take {u:Array Keyed} {i k:Nat} {y:Keyed} (h:y∈(u.toList.drop i).take k):∃ t,i≤t∧t < i + k∧t < u.size∧u[t]? = some y:=by
  obtain ⟨t,ht,e⟩:=List.getElem_of_mem h
  rw [List.length_take,List.length_drop,Array.length_toList] at ht
  rw [List.getElem_take,List.getElem_drop] at e
  refine ⟨i + t,by omega,by omega,by omega,?_⟩
  rw [← e,Array.getElem_toList]
  exact Array.getElem?_eq_getElem _
theorem Pre.lastA {u v:Array Keyed} {i j:Nat} (P:Pre a₀ key u v) (hi:i + 1=u.size):∀ x∈v.toList.drop j,∀ y∈u.toList.drop i,key x≤key y:=fun x hx y hy=>by
  obtain ⟨t,h1,h2,h3⟩:=of_drop hx
  obtain ⟨r,g1,g2,g3⟩:=of_drop hy
  have e:r=u.size - 1:=by omega
  rw [e] at g3
  rw [← kat_some (key:=key) h3,← kat_some (key:=key) g3]
  have:=P.sv t (v.size - 1) (Nat.zero_le _) (by omega) (by omega)
  have:=P.last
  omega
theorem push_list (o:Array Keyed) (u:Array Keyed) {i:Nat} {x:Keyed} (h:u[i]? = some x):(o.push x).toList=o.toList++(u.toList.drop i).take 1:=by
  obtain ⟨hi,e⟩:=Array.getElem?_eq_some_iff.mp h
  have:u.toList.drop i=x::u.toList.drop (i + 1):=by
    rw [List.drop_eq_getElem_cons (by simpa using hi),Array.getElem_toList,e]
  rw [this]; simp
theorem one_ok (L:LtOk prog w A E s a₀ κ key) {u v o:Array Keyed} {i j g ca cb:Nat} {st:SortSt} {Q:ForInStep St6→SortSt→Prop} (hk:kindOf st=κ) (P:Pre a₀ key u v) (M:MI key u v o i j) (hi:i + 1 < u.size) (hj:j < v.size)
    (hd:∀ z r,Res key u v z→Q (.done (some z,r)) st) (hn:∀ o' i' j' ca' cb',MI key u v o' i' j'→i' + 1 < u.size→j' < v.size→o.size < o'.size→Q (.done (none,o',i',j',ca',cb')) st∧Q (.yield (none,o',i',j',ca',cb')) st) :
    wpS (model prog w) A E s (oneStep u v g (none,o,i,j,ca,cb)) Q st:=by
  unfold oneStep
  have e1:v[j]? = some v[j]:=Array.getElem?_eq_getElem hj
  have e2:u[i]? = some u[i]:=Array.getElem?_eq_getElem (by omega)
  dsimp only
  refine wpS_bind (el_ok e1 (wpS_bind (el_ok e2 (wpS_bind (lt_ok L hk (P.mv _ (at_mem e1)) (P.mu _ (at_mem e2)) ?_)))))
  dsimp only
  have ml:=M.len
  by_cases c:key v[j] < key u[i]
  · rw [if_pos (decide_eq_true c)]
    refine wpS_bind (el_ok e1 ?_)
    have M':MI key u v (o.push v[j]) i (j + 1):=M.takeB (push_list o v e1) (by omega) fun x hx y hy=>by
      obtain ⟨t,t1,t2,t3,t4⟩:=of_take hx
      obtain ⟨r,r1,r2,r3⟩:=of_drop hy
      have et:t=j:=by omega
      rw [et,e1] at t4
      have ex:=Option.some.inj t4
      have:=P.su i r (Nat.zero_le _) r1 r2
      rw [kat_some e2,kat_some r3] at this
      rw [← ex]; omega
    have ml':=M'.len
    by_cases e:j + 1=v.size
    · rw [if_pos (by simpa using e)]
      exact wpS_pure (hd _ _ (fin1_ok M' (.inr e)))
    · rw [if_neg (by simpa using e)]
      obtain ⟨q1,q2⟩:=hn _ i (j + 1) 0 (cb + 1) M' hi (by omega) (by omega)
      split
      · exact wpS_pure q1
      · exact wpS_pure q2
  · rw [if_neg (by simpa using c)]
    refine wpS_bind (el_ok e2 ?_)
    have M':MI key u v (o.push u[i]) (i + 1) j:=M.takeA (push_list o u e2) (by omega) fun x hx y hy=>by
      obtain ⟨t,t1,t2,t3,t4⟩:=of_take hx
      obtain ⟨r,r1,r2,r3⟩:=of_drop hy
      have et:t=i:=by omega
      rw [et,e2] at t4
      have ex:=Option.some.inj t4
      have:=P.sv j r (Nat.zero_le _) r1 r2
      rw [kat_some e1,kat_some r3] at this
      rw [← ex]; omega
    have ml':=M'.len
    by_cases e:i + 1 + 1=u.size
    · rw [if_pos (by simpa using e)]
      exact wpS_pure (hd _ _ (fin2_ok M' (P.lastA e)))
    · rw [if_neg (by simpa using e)]
      obtain ⟨q1,q2⟩:=hn _ (i + 1) j (ca + 1) 0 M' (by omega) hj (by omega)
      split
      · exact wpS_pure q1
      · exact wpS_pure q2
theorem galEnd_ok {u v o:Array Keyed} {i j g ca cb n:Nat} {st:SortSt} {Q:ForInStep St7→SortSt→Prop} (P:Pre a₀ key u v) (M:MI key u v o i j) (hi:i + 1 < u.size) (hj:j < v.size) (hx:∀ y∈v.toList.drop j,kat key u i≤key y) (hs:n≤o.size)
    (hd:∀ z r,Res key u v z→Q (.done (some z,r)) st) (hn:∀ o' i' j' g' ca' cb',MI key u v o' i' j'→i' + 1 < u.size→j' < v.size→n < o'.size→Q (.done (none,o',i',j',g',ca',cb')) st∧Q (.yield (none,o',i',j',g',ca',cb')) st) :
    wpS (model prog w) A E s (galEnd u v o i j g ca cb) Q st:=by
  unfold galEnd
  have e2:u[i]? = some u[i]:=Array.getElem?_eq_getElem (by omega)
  refine wpS_bind (el_ok e2 ?_)
  have ml:=M.len
  have M':MI key u v (o.push u[i]) (i + 1) j:=M.takeA (push_list o u e2) (by omega) fun x hx' y hy=>by
    obtain ⟨t,t1,t2,t3,t4⟩:=of_take hx'
    have et:t=i:=by omega
    rw [et,e2] at t4
    have ex:=Option.some.inj t4
    have:=hx y hy
    rw [kat_some e2] at this
    rw [← ex]; exact this
  have ml':=M'.len
  by_cases e:i + 1 + 1=u.size
  · rw [if_pos (by simpa using e)]
    exact wpS_pure (hd _ _ (fin2_ok M' (P.lastA e)))
  · rw [if_neg (by simpa using e)]
    obtain ⟨q1,q2⟩:=hn _ (i + 1) j g ca cb M' (by omega) hj (by omega)
    split
    · exact wpS_pure q1
    · exact wpS_pure q2
theorem app_list (o u:Array Keyed) (i k:Nat):(o++u.extract i (i + k)).toList=o.toList++(u.toList.drop i).take k:=by rw [Array.toList_append,ext_mid]
theorem seg_sub {u:Array Keyed} {a b c d:Nat} (h:Seg key u a b) (h1:a≤c) (h2:d≤b):Seg key u c d:=fun i j x y z=>h i j (by omega) y (by omega)
theorem galMid_ok (L:LtOk prog w A E s a₀ κ key) {u v o:Array Keyed} {i j g ca cb n:Nat} {st:SortSt} {Q:ForInStep St7→SortSt→Prop} (hk:kindOf st=κ) (P:Pre a₀ key u v) (M:MI key u v o i j) (hi:i + 1 < u.size) (hj:j < v.size) (hx:∀ y∈u.toList.drop i,kat key v j≤key y) (hs:n≤o.size)
    (hd:∀ z r,Res key u v z→Q (.done (some z,r)) st) (hn:∀ o' i' j' g' ca' cb',MI key u v o' i' j'→i' + 1 < u.size→j' < v.size→n < o'.size→Q (.done (none,o',i',j',g',ca',cb')) st∧Q (.yield (none,o',i',j',g',ca',cb')) st) :
    wpS (model prog w) A E s (galMid u v o i j g ca cb) Q st:=by
  unfold galMid
  have e1:v[j]? = some v[j]:=Array.getElem?_eq_getElem hj
  have e2:u[i]? = some u[i]:=Array.getElem?_eq_getElem (by omega)
  refine wpS_bind (el_ok e1 ?_)
  have ml:=M.len
  have M':MI key u v (o.push v[j]) i (j + 1):=M.takeB (push_list o v e1) (by omega) fun x hx' y hy=>by
    obtain ⟨t,t1,t2,t3,t4⟩:=of_take hx'
    have et:t=j:=by omega
    rw [et,e1] at t4
    have ex:=Option.some.inj t4
    have:=hx y hy
    rw [kat_some e1] at this
    rw [← ex]; exact this
  have ml':=M'.len
  by_cases e:j + 1=v.size
  · rw [if_pos (by simpa using e)]
    exact wpS_pure (hd _ _ (fin1_ok M' (.inr e)))
  · rw [if_neg (by simpa using e)]
    refine wpS_bind (el_ok e2 (wpS_bind (gallop_ok L hk (P.mu _ (at_mem e2)) P.mv (by omega) (by omega) (seg_sub P.sv (by omega) (by omega)) fun k k1 k2 k3 => ?_)))
    dsimp only
    have lo:∀ t,j + 1≤t→t < j + 1 + k→kat key v t < key u[i]:=fun t t1 t2=>by
      have:=k2 (t - (j + 1)) (by omega)
      unfold isPast at this
      rw [if_pos rfl,show j + 1 + (t - (j + 1))=t by omega] at this
      exact of_decide_eq_true this
    have hi':∀ t,j + 1 + k≤t→t < v.size→key u[i]≤kat key v t:=fun t t1 t2=>by
      have:=k3 (t - (j + 1)) (by omega) (by omega)
      unfold isPast at this
      rw [if_pos rfl,show j + 1 + (t - (j + 1))=t by omega] at this
      have:=of_decide_eq_false this
      omega
    have endx:∀ y∈v.toList.drop (j + 1 + k),kat key u i≤key y:=fun y hy=>by
      obtain ⟨r,r1,r2,r3⟩:=of_drop hy
      have:=hi' r r1 r2
      rw [kat_some r3] at this
      rw [kat_some e2]; exact this
    by_cases hk0:k > 0
    · rw [if_pos hk0]
      have M2:MI key u v (o.push v[j]++v.extract (j + 1) (j + 1 + k)) i (j + 1 + k):=M'.takeB (app_list _ v (j + 1) k) (by omega) fun x hx' y hy=>by
        obtain ⟨t,t1,t2,t3,t4⟩:=of_take hx'
        obtain ⟨r,r1,r2,r3⟩:=of_drop hy
        have a1:=lo t t1 t2
        have a2:=P.su i r (Nat.zero_le _) r1 r2
        rw [kat_some t4] at a1
        rw [kat_some e2,kat_some r3] at a2
        omega
      have ml2:=M2.len
      by_cases e3:j + 1 + k=v.size
      · rw [if_pos (by simpa using e3)]
        exact wpS_pure (hd _ _ (fin1_ok M2 (.inr e3)))
      · rw [if_neg (by simpa using e3)]
        exact galEnd_ok P M2 hi (by omega) endx (by omega) hd hn
    · rw [if_neg hk0]
      have k0:k=0:=by omega
      subst k0
      exact galEnd_ok P M' hi (by omega) endx (by omega) hd hn
theorem galTop_ok (L:LtOk prog w A E s a₀ κ key) {u v o:Array Keyed} {i j g ca cb:Nat} {st:SortSt} {Q:ForInStep St7→SortSt→Prop} (hk:kindOf st=κ) (P:Pre a₀ key u v) (M:MI key u v o i j) (hi:i + 1 < u.size) (hj:j < v.size)
    (hd:∀ z r,Res key u v z→Q (.done (some z,r)) (setGal st g)) (hn:∀ o' i' j' g' ca' cb',MI key u v o' i' j'→i' + 1 < u.size→j' < v.size→o.size < o'.size→Q (.done (none,o',i',j',g',ca',cb')) (setGal st g)∧Q (.yield (none,o',i',j',g',ca',cb')) (setGal st g)) :
    wpS (model prog w) A E s (galTop u v o i j g ca cb) Q st:=by
  unfold galTop
  have e1:v[j]? = some v[j]:=Array.getElem?_eq_getElem hj
  refine wpS_bind (wpS_modify (wpS_bind (el_ok e1 (wpS_bind (gallop_ok L hk (P.mv _ (at_mem e1)) P.mu (by omega) (by omega) (seg_sub P.su (by omega) (by omega)) fun k k1 k2 k3 => ?_)))))
  dsimp only
  have ml:=M.len
  have lo:∀ t,i≤t→t < i + k→kat key u t≤key v[j]:=fun t t1 t2=>by
    have:=k2 (t - i) (by omega)
    unfold isPast at this
    rw [if_neg (by decide),show i + (t - i)=t by omega] at this
    have:¬ key v[j] < kat key u t:=by simpa using this
    omega
  have hi':∀ t,i + k≤t→t < u.size→key v[j] < kat key u t:=fun t t1 t2=>by
    have:=k3 (t - i) (by omega) (by omega)
    unfold isPast at this
    rw [if_neg (by decide),show i + (t - i)=t by omega] at this
    have:key v[j] < kat key u t:=by simpa using this
    exact this
  have midx:∀ y∈u.toList.drop (i + k),kat key v j≤key y:=fun y hy=>by
    obtain ⟨r,r1,r2,r3⟩:=of_drop hy
    have:=hi' r r1 r2
    rw [kat_some r3] at this
    rw [kat_some e1]; omega
  by_cases hk0:k > 0
  · rw [if_pos hk0]
    have M2:MI key u v (o++u.extract i (i + k)) (i + k) j:=M.takeA (app_list _ u i k) (by omega) fun x hx' y hy=>by
      obtain ⟨t,t1,t2,t3,t4⟩:=of_take hx'
      obtain ⟨r,r1,r2,r3⟩:=of_drop hy
      have a1:=lo t t1 t2
      have a2:=P.sv j r (Nat.zero_le _) r1 r2
      rw [kat_some t4] at a1
      rw [kat_some e1,kat_some r3] at a2
      omega
    have ml2:=M2.len
    by_cases e3:i + k + 1=u.size
    · rw [if_pos (by simpa using e3)]
      exact wpS_pure (hd _ _ (fin2_ok M2 (P.lastA e3)))
    · rw [if_neg (by simpa using e3)]
      by_cases e4:i + k=u.size
      · rw [if_pos (by simpa using e4)]
        exact wpS_pure (hd _ _ (fin1_ok M2 (.inl e4)))
      · rw [if_neg (by simpa using e4)]
        exact galMid_ok L (st:=setGal st g) hk P M2 (by omega) hj midx (by omega) hd hn
  · rw [if_neg hk0]
    have k0:k=0:=by omega
    subst k0
    exact galMid_ok L (st:=setGal st g) hk P M hi hj midx (by omega) hd hn
theorem round_ok (L:LtOk prog w A E s a₀ κ key) {u v o:Array Keyed} {i j g:Nat} {st:SortSt} {Q:ForInStep St5→SortSt→Prop} (hk:kindOf st=κ) (P:Pre a₀ key u v) (M:MI key u v o i j) (hi:i + 1 < u.size) (hj:j < v.size)
    (hd:∀ z r g',Res key u v z→Q (.done (some z,r)) (setGal st g')) (hn:∀ o' i' j' g' g'',MI key u v o' i' j'→i' + 1 < u.size→j' < v.size→o.size < o'.size→Q (.yield (none,o',i',j',g')) (setGal st g'')) :
    wpS (model prog w) A E s (roundStep u v (none,o,i,j,g)) Q st:=by
  unfold roundStep
  have ml:=M.len
  refine wpS_bind (wpS_mono (wpS_forRange (I:=fun t c st'=>st'=st∧∃ o' i' j' ca cb,c=(none,o',i',j',ca,cb)∧MI key u v o' i' j'∧i' + 1 < u.size∧j' < v.size∧o.size + t≤o'.size)
    (Q:=fun c st'=>st'=st∧((∃ z r,c=(some z,r)∧Res key u v z)∨∃ o' i' j' ca cb,c=(none,o',i',j',ca,cb)∧MI key u v o' i' j'∧i' + 1 < u.size∧j' < v.size∧o.size < o'.size)) ?step ?fin ⟨rfl,o,i,j,0,0,rfl,M,hi,hj,by omega⟩) ?post)
  case fin =>
    rintro c st' ⟨rfl,o',i',j',ca,cb,rfl,M',h1,h2,h3⟩
    have:=M'.len
    omega
  case step =>
    rintro t c st' _ ht ⟨rfl,o',i',j',ca,cb,rfl,M',h1,h2,h3⟩
    exact one_ok L hk P M' h1 h2 (fun z r hz=>⟨rfl,.inl ⟨z,r,rfl,hz⟩⟩) fun o2 i2 j2 ca2 cb2 M2 g1 g2 g3=>⟨⟨rfl,.inr ⟨o2,i2,j2,ca2,cb2,rfl,M2,g1,g2,by omega⟩⟩,rfl,o2,i2,j2,ca2,cb2,rfl,M2,g1,g2,by omega⟩
  case post =>
    rintro c st' ⟨rfl,h⟩
    rcases h with ⟨z,r,rfl,hz⟩ | ⟨o',i',j',ca,cb,rfl,M',h1,h2,h3⟩
    · exact wpS_pure (hd z _ (gallopOf st') hz)
    · dsimp only
      refine wpS_bind (wpS_lift (wpAny_rule ⟨rfl,?_⟩))
      refine wpS_bind (wpS_mono (wpS_forRange (I:=fun t c st''=>∃ g',st''=setGal st' g'∧∃ o2 i2 j2 g2 ca cb,c=(none,o2,i2,j2,g2,ca,cb)∧MI key u v o2 i2 j2∧i2 + 1 < u.size∧j2 < v.size∧o'.size + t≤o2.size)
        (Q:=fun c st''=>∃ g',st''=setGal st' g'∧((∃ z r,c=(some z,r)∧Res key u v z)∨∃ o2 i2 j2 g2 ca cb,c=(none,o2,i2,j2,g2,ca,cb)∧MI key u v o2 i2 j2∧i2 + 1 < u.size∧j2 < v.size∧o.size < o2.size)) ?gstep ?gfin ⟨gallopOf st',rfl,o',i',j',g + 1,ca,cb,rfl,M',h1,h2,by omega⟩) ?gpost)
      case gfin =>
        rintro c st'' ⟨g',rfl,o2,i2,j2,g2,ca,cb,rfl,M2,q1,q2,q3⟩
        have:=M2.len
        have:=M'.len
        omega
      case gstep =>
        rintro t c st'' _ ht ⟨g',rfl,o2,i2,j2,g2,ca,cb,rfl,M2,q1,q2,q3⟩
        show wpS _ _ _ _ (galStep u v (none,o2,i2,j2,g2,ca,cb)) _ _
        unfold galStep
        dsimp only
        split
        · exact galTop_ok L (st:=setGal st' g') hk P M2 q1 q2 (fun z r hz=>⟨_,rfl,.inl ⟨z,r,rfl,hz⟩⟩) fun o3 i3 j3 g3 ca3 cb3 M3 k1 k2 k3=>⟨⟨_,rfl,.inr ⟨o3,i3,j3,g3,ca3,cb3,rfl,M3,k1,k2,by omega⟩⟩,_,rfl,o3,i3,j3,g3,ca3,cb3,rfl,M3,k1,k2,by omega⟩
        · exact galTop_ok L (st:=setGal st' g') hk P M2 q1 q2 (fun z r hz=>⟨_,rfl,.inl ⟨z,r,rfl,hz⟩⟩) fun o3 i3 j3 g3 ca3 cb3 M3 k1 k2 k3=>⟨⟨_,rfl,.inr ⟨o3,i3,j3,g3,ca3,cb3,rfl,M3,k1,k2,by omega⟩⟩,_,rfl,o3,i3,j3,g3,ca3,cb3,rfl,M3,k1,k2,by omega⟩
      case gpost =>
        rintro c st'' ⟨g',rfl,h⟩
        rcases h with ⟨z,r,rfl,hz⟩ | ⟨o2,i2,j2,g2,ca,cb,rfl,M2,q1,q2,q3⟩
        · exact wpS_pure (hd z _ g' hz)
        · dsimp only
          exact wpS_bind (wpS_modify (wpS_pure (hn o2 i2 j2 _ _ M2 q1 q2 q3)))
theorem lo_ok (L:LtOk prog w A E s a₀ κ key) {u v:Array Keyed} {st:SortSt} {Q:Array Keyed→SortSt→Prop} (hk:kindOf st=κ) (P:Pre a₀ key u v) (hd:∀ z g',Res key u v z→Q z (setGal st g')):wpS (model prog w) A E s (loP u v) Q st:=by
  rw [loP_eq]
  refine wpS_bind (wpS_lift (wpAny_rule ⟨rfl,?_⟩))
  have hu:=P.hu
  have hv:=P.hv
  have e1:v[0]? = some v[0]:=Array.getElem?_eq_getElem (by omega)
  refine wpS_bind (el_ok e1 ?_)
  have M0:MI key u v #[] 0 0:=⟨by simp,by simpa using srt_seg.mpr P.su,by simpa using srt_seg.mpr P.sv,Nat.zero_le _,Nat.zero_le _⟩
  have M:MI key u v #[v[0]] 0 (0 + 1):=M0.takeB (by have:=push_list #[] v e1; simpa using this) (by omega) fun x hx y hy=>by
    obtain ⟨t,t1,t2,t3,t4⟩:=of_take hx
    obtain ⟨r,r1,r2,r3⟩:=of_drop hy
    have et:t=0:=by omega
    rw [et] at t4
    have a1:=P.su 0 r (Nat.zero_le _) r1 r2
    have a2:=P.first
    rw [kat_some t4] at a2
    rw [kat_some r3] at a1
    omega
  rw [Nat.zero_add] at M
  by_cases c1:1=v.size
  · rw [if_pos (by simpa using c1)]
    exact wpS_pure (hd _ (gallopOf st) (fin1_ok M (.inr c1)))
  · rw [if_neg (by simpa using c1)]
    by_cases c2:0 + 1=u.size
    · rw [if_pos (by simpa using c2)]
      exact wpS_pure (hd _ (gallopOf st) (fin2_ok M (P.lastA c2)))
    · rw [if_neg (by simpa using c2)]
      refine wpS_bind (wpS_get ?_)
      refine wpS_bind (wpS_mono (wpS_forRange (I:=fun t c st'=>∃ g',st'=setGal st g'∧∃ o i j g,c=(none,o,i,j,g)∧MI key u v o i j∧i + 1 < u.size∧j < v.size∧t < o.size)
        (Q:=fun c st'=>∃ g',st'=setGal st g'∧∃ z r,c=(some z,r)∧Res key u v z) ?step ?fin ⟨gallopOf st,rfl,#[v[0]],0,1,_,rfl,M,by omega,by omega,by simp⟩) ?post)
      case fin =>
        rintro c st' ⟨g',rfl,o,i,j,g,rfl,M',h1,h2,h3⟩
        have:=M'.len
        omega
      case step =>
        rintro t c st' _ ht ⟨g',rfl,o,i,j,g,rfl,M',h1,h2,h3⟩
        exact round_ok L (st:=setGal st g') hk P M' h1 h2 (fun z r g2 hz=>⟨g2,rfl,z,r,rfl,hz⟩) fun o2 i2 j2 g2 g3 M2 q1 q2 q3=>⟨g3,rfl,o2,i2,j2,g2,rfl,M2,q1,q2,by omega⟩
      case post =>
        rintro c st' ⟨g',rfl,z,r,rfl,hz⟩
        exact wpS_pure (hd z g' hz)
end
end Tim

namespace Tim
open PySem PyProof.Rows
section
variable {prog:Program} {w:World} {A:Around} {E:Value→Shared→Prop} {s:Shared} {a₀:Array Keyed} {κ:SortKind} {key:Keyed→Int}

def hiP:Array Keyed→Array Keyed→StateT SortSt Sem (Array Keyed):=sortPriv% PySem.Builtin.mergeHi
abbrev Sh7:=Option (Array Keyed) × Nat × Nat × Array Keyed × Nat × Nat × Nat
abbrev Sh6:=Option (Array Keyed) × Nat × Nat × Array Keyed × Nat × Nat
abbrev Sh5:=Option (Array Keyed) × Nat × Nat × Array Keyed × Nat
def fih1 (u v o:Array Keyed) (i j:Nat):Array Keyed:=u.extract 0 i++v.extract 0 j++o.reverse
def fih2 (u v o:Array Keyed) (i j:Nat):Array Keyed:=v.extract 0 j++u.extract 0 i++o.reverse
def oneHi (u v:Array Keyed) (g:Nat) (r:Sh6):StateT SortSt Sem (ForInStep Sh6):=do
  let y ← elem' v (r.2.2.1 - 1)
  let x ← elem' u (r.2.1 - 1)
  let z ← lt' y x
  match z with
  | some won =>
    if won=true then do
      let x ← elem' u (r.2.1 - 1)
      if (r.2.1 - 1 == 0)=true then pure (.done (some (fih1 u v (r.2.2.2.1.push x) (r.2.1 - 1) r.2.2.1),r.2.1 - 1,r.2.2.1,r.2.2.2.1.push x,r.2.2.2.2.1 + 1,0))
      else if r.2.2.2.2.1 + 1 ≥ g then pure (.done (none,r.2.1 - 1,r.2.2.1,r.2.2.2.1.push x,r.2.2.2.2.1 + 1,0))
      else pure (.yield (none,r.2.1 - 1,r.2.2.1,r.2.2.2.1.push x,r.2.2.2.2.1 + 1,0))
    else do
      let y ← elem' v (r.2.2.1 - 1)
      if (r.2.2.1 - 1 == 1)=true then pure (.done (some (fih2 u v (r.2.2.2.1.push y) r.2.1 (r.2.2.1 - 1)),r.2.1,r.2.2.1 - 1,r.2.2.2.1.push y,0,r.2.2.2.2.2 + 1))
      else if r.2.2.2.2.2 + 1 ≥ g then pure (.done (none,r.2.1,r.2.2.1 - 1,r.2.2.2.1.push y,0,r.2.2.2.2.2 + 1))
      else pure (.yield (none,r.2.1,r.2.2.1 - 1,r.2.2.2.1.push y,0,r.2.2.2.2.2 + 1))
  | _=>pure (.done (some (fih1 u v r.2.2.2.1 r.2.1 r.2.2.1),r.2.1,r.2.2.1,r.2.2.2.1,r.2.2.2.2.1,r.2.2.2.2.2))
def ghEnd (u v o:Array Keyed) (i j g ca cb:Nat):StateT SortSt Sem (ForInStep Sh7):=do
  let x ← elem' u (i - 1)
  if (i - 1 == 0)=true then pure (.done (some (fih1 u v (o.push x) (i - 1) j),i - 1,j,o.push x,g,ca,cb))
  else if (decide (ca < 7) && decide (cb < 7))=true then pure (.done (none,i - 1,j,o.push x,g,ca,cb))
  else pure (.yield (none,i - 1,j,o.push x,g,ca,cb))
def ghMid (u v o:Array Keyed) (i j g ca cb:Nat):StateT SortSt Sem (ForInStep Sh7):=do
  let y ← elem' v (j - 1)
  if (j - 1 == 1)=true then pure (.done (some (fih2 u v (o.push y) i (j - 1)),i,j - 1,o.push y,g,ca,cb)) else do
    let x ← elem' u (i - 1)
    let z ← gallopP true x v 0 (j - 1) (j - 1 - 1)
    match z with
    | some k =>
      if j - 1 - k > 0 then
        if (k == 1)=true then pure (.done (some (fih2 u v (o.push y++(v.extract k (j - 1)).reverse) i k),i,k,o.push y++(v.extract k (j - 1)).reverse,g,ca,j - 1 - k))
        else if (k == 0)=true then pure (.done (some (fih1 u v (o.push y++(v.extract k (j - 1)).reverse) i k),i,k,o.push y++(v.extract k (j - 1)).reverse,g,ca,j - 1 - k))
        else ghEnd u v (o.push y++(v.extract k (j - 1)).reverse) i k g ca (j - 1 - k)
      else ghEnd u v (o.push y) i (j - 1) g ca (j - 1 - k)
    | _=>pure (.done (some (fih1 u v (o.push y) i (j - 1)),i,j - 1,o.push y,g,ca,cb))
def ghTop (u v o:Array Keyed) (i j g ca cb:Nat):StateT SortSt Sem (ForInStep Sh7):=do
  modify fun st=>setGal st g
  let y ← elem' v (j - 1)
  let z ← gallopP false y u 0 i (i - 1)
  match z with
  | some k =>
    if i - k > 0 then
      if (k == 0)=true then pure (.done (some (fih1 u v (o++(u.extract k i).reverse) k j),k,j,o++(u.extract k i).reverse,g,i - k,cb))
      else ghMid u v (o++(u.extract k i).reverse) k j g (i - k) cb
    else ghMid u v o i j g (i - k) cb
  | _=>pure (.done (some (fih1 u v o i j),i,j,o,g,ca,cb))
def ghStep (u v:Array Keyed) (r:Sh7):StateT SortSt Sem (ForInStep Sh7) :=
  if r.2.2.2.2.1 > 1 then ghTop u v r.2.2.2.1 r.2.1 r.2.2.1 (r.2.2.2.2.1 - 1) r.2.2.2.2.2.1 r.2.2.2.2.2.2 else ghTop u v r.2.2.2.1 r.2.1 r.2.2.1 r.2.2.2.2.1 r.2.2.2.2.2.1 r.2.2.2.2.2.2
def roundHi (u v:Array Keyed) (r:Sh5):StateT SortSt Sem (ForInStep Sh5):=do
  let q ← forIn [0:u.size + v.size] ((none,r.2.1,r.2.2.1,r.2.2.2.1,0,0):Sh6) fun _ q=>oneHi u v r.2.2.2.2 q
  match q.1 with
  | some z=>pure (.done (some z,q.2.1,q.2.2.1,q.2.2.2.1,r.2.2.2.2))
  | none=>do
    liftM (rule "list.sort.gallop")
    let p ← forIn [0:u.size + v.size] ((none,q.2.1,q.2.2.1,q.2.2.2.1,r.2.2.2.2 + 1,q.2.2.2.2.1,q.2.2.2.2.2):Sh7) fun _ p=>ghStep u v p
    match p.1 with
    | some z=>pure (.done (some z,p.2.1,p.2.2.1,p.2.2.2.1,p.2.2.2.2.1))
    | none=>do
      modify fun st=>setGal st (p.2.2.2.2.1 + 1)
      pure (.yield (none,p.2.1,p.2.2.1,p.2.2.2.1,p.2.2.2.2.1 + 1))
theorem hiP_eq (u v:Array Keyed):hiP u v=(do
    liftM (rule "list.sort.merge-hi")
    let x ← elem' u (u.size - 1)
    if (u.size - 1 == 0)=true then pure (fih1 u v #[x] (u.size - 1) v.size) else
      if (v.size == 1)=true then pure (fih2 u v #[x] (u.size - 1) v.size) else do
        let st ← get
        let r ← forIn [0:u.size + v.size] ((none,u.size - 1,v.size,#[x],gallopOf st):Sh5) fun _ r=>roundHi u v r
        match r.1 with
        | some z=>pure z
        | none=>liftM (unsupported "internal:list.sort.merge-bound" : Sem (Array Keyed))):=by
  kernel_rfl
theorem srt_mid2 {o m r:List Keyed} (h1:Srt key (m++o)) (h2:Srt key (r++o)) (h3:∀ x∈r,∀ y∈m,key x≤key y):Srt key (r++(m++o)):=by
  unfold Srt at h1 h2 ⊢
  rw [List.pairwise_append] at h2
  refine List.pairwise_append.mpr ⟨h2.1,h1,fun x hx y hy => ?_⟩
  rcases List.mem_append.mp hy with hy | hy
  · exact h3 x hx y hy
  · exact h2.2.2 x hx y hy
structure HI (key:Keyed→Int) (u v o:Array Keyed) (i j:Nat):Prop where
  perm:(u.toList.take i++v.toList.take j++o.toList.reverse).Perm (u.toList++v.toList)
  sa:Srt key (u.toList.take i++o.toList.reverse)
  sb:Srt key (v.toList.take j++o.toList.reverse)
  hi:i≤u.size
  hj:j≤v.size
theorem HI.len {u v o:Array Keyed} {i j:Nat} (h:HI key u v o i j):o.size + i + j=u.size + v.size:=by
  have:=h.perm.length_eq
  have h1:=h.hi
  have h2:=h.hj
  simp only [List.length_append,List.length_take,List.length_reverse,Array.length_toList] at this
  omega
theorem take_split (l:List Keyed) {k i:Nat} (h:k≤i):l.take k++(l.take i).drop k=l.take i:=by
  have:=List.take_append_drop k (l.take i)
  rwa [List.take_take,Nat.min_eq_left h] at this
theorem perm_a (T D V R W:List Keyed) (e:T++D=W):(T++V++(D++R)).Perm (W++V++R):=by
  rw [← e,List.append_assoc,List.append_assoc,List.append_assoc]
  refine List.Perm.append_left _ ?_
  rw [← List.append_assoc,← List.append_assoc]
  exact List.Perm.append_right _ List.perm_append_comm
theorem perm_b (T D U R W:List Keyed) (e:T++D=W):(U++T++(D++R)).Perm (U++W++R):=by
  rw [← e]
  simp only [List.append_assoc]
  exact List.Perm.refl _
theorem HI.takeA {u v o o':Array Keyed} {i j k:Nat} (h:HI key u v o i j) (ho:o'.toList.reverse=(u.toList.take i).drop k++o.toList.reverse) (hk:k≤i) (hl:∀ x∈v.toList.take j,∀ y∈(u.toList.take i).drop k,key x≤key y):HI key u v o' k j:=by
  have e:=take_split u.toList hk
  have hi:=h.hi
  refine ⟨?_,?_,?_,by omega,h.hj⟩
  · rw [ho]
    exact (perm_a _ _ _ _ _ e).trans h.perm
  · rw [ho,← List.append_assoc,e]; exact h.sa
  · rw [ho]
    have h1:Srt key ((u.toList.take i).drop k++o.toList.reverse):=by
      have:=h.sa
      rw [← e,List.append_assoc] at this
      exact (List.pairwise_append.mp this).2.1
    exact srt_mid2 h1 h.sb hl
theorem HI.takeB {u v o o':Array Keyed} {i j k:Nat} (h:HI key u v o i j) (ho:o'.toList.reverse=(v.toList.take j).drop k++o.toList.reverse) (hk:k≤j) (hl:∀ x∈u.toList.take i,∀ y∈(v.toList.take j).drop k,key x≤key y):HI key u v o' i k:=by
  have e:=take_split v.toList hk
  have hj:=h.hj
  refine ⟨?_,?_,?_,h.hi,by omega⟩
  · rw [ho]
    exact (perm_b _ _ _ _ _ e).trans h.perm
  · rw [ho]
    have h1:Srt key ((v.toList.take j).drop k++o.toList.reverse):=by
      have:=h.sb
      rw [← e,List.append_assoc] at this
      exact (List.pairwise_append.mp this).2.1
    exact srt_mid2 h1 h.sa hl
  · rw [ho,← List.append_assoc,e]; exact h.sb
theorem ext_head (u:Array Keyed) (i:Nat):(u.extract 0 i).toList=u.toList.take i:=by
  rw [Array.toList_extract,List.extract_eq_take_drop]; simp
theorem ext_part (u:Array Keyed) (k i:Nat):(u.extract k i).toList=(u.toList.take i).drop k:=by
  rw [Array.toList_extract,List.extract_eq_take_drop,List.drop_take]
theorem fih1_ok {u v o:Array Keyed} {i j:Nat} (h:HI key u v o i j) (he:i=0∨j=0):Res key u v (fih1 u v o i j):=by
  have e:(fih1 u v o i j).toList=u.toList.take i++v.toList.take j++o.toList.reverse:=by
    unfold fih1; rw [Array.toList_append,Array.toList_append,ext_head,ext_head,Array.toList_reverse]
  refine ⟨by rw [e]; exact h.perm,?_⟩
  rw [e]
  rcases he with he | he
  · rw [he]; simpa using h.sb
  · have:=h.sa
    rw [he]; simpa using this
theorem fih2_ok {u v o:Array Keyed} {i j:Nat} (h:HI key u v o i j) (hl:∀ x∈v.toList.take j,∀ y∈u.toList.take i,key x≤key y):Res key u v (fih2 u v o i j):=by
  have e:(fih2 u v o i j).toList=v.toList.take j++u.toList.take i++o.toList.reverse:=by
    unfold fih2; rw [Array.toList_append,Array.toList_append,ext_head,ext_head,Array.toList_reverse]
  refine ⟨?_,?_⟩
  · rw [e]
    exact (List.Perm.append_right _ List.perm_append_comm).trans h.perm
  · rw [e,List.append_assoc]; exact srt_mid2 h.sa h.sb hl
theorem of_head {u:Array Keyed} {i:Nat} {y:Keyed} (h:y∈u.toList.take i):∃ t,t < i∧t < u.size∧u[t]? = some y:=by
  obtain ⟨t,ht,e⟩:=List.getElem_of_mem h
  rw [List.length_take,Array.length_toList] at ht
  rw [List.getElem_take] at e
  refine ⟨t,by omega,by omega,?_⟩
  rw [← e,Array.getElem_toList]
  exact Array.getElem?_eq_getElem _
theorem of_part {u:Array Keyed} {i k:Nat} {y:Keyed} (h:y∈(u.toList.take i).drop k):∃ t,k≤t∧t < i∧t < u.size∧u[t]? = some y:=by
  rw [List.drop_take] at h
  obtain ⟨t,t1,t2,t3,t4⟩:=of_take h
  exact ⟨t,t1,by omega,t3,t4⟩
theorem Pre.firstB {u v:Array Keyed} {i j:Nat} (P:Pre a₀ key u v) (hj:j=1):∀ x∈v.toList.take j,∀ y∈u.toList.take i,key x≤key y:=fun x hx y hy=>by
  obtain ⟨t,h1,h2,h3⟩:=of_head hx
  obtain ⟨r,g1,g2,g3⟩:=of_head hy
  have e:t=0:=by omega
  rw [e] at h3
  rw [← kat_some (key:=key) h3,← kat_some (key:=key) g3]
  have:=P.su 0 r (Nat.zero_le _) (Nat.zero_le _) g2
  have:=P.first
  omega
theorem push_rev (o u:Array Keyed) {i:Nat} {x:Keyed} (h1:1≤i) (h:u[i - 1]? = some x):(o.push x).toList.reverse=(u.toList.take i).drop (i - 1)++o.toList.reverse:=by
  obtain ⟨hi,e⟩:=Array.getElem?_eq_some_iff.mp h
  have:(u.toList.take i).drop (i - 1)=[x]:=by
    rw [List.drop_take,show i - (i - 1)=1 by omega,List.drop_eq_getElem_cons (by simpa using hi),Array.getElem_toList,e]; rfl
  rw [this]; simp
theorem app_rev (o u:Array Keyed) (k i:Nat):(o++(u.extract k i).reverse).toList.reverse=(u.toList.take i).drop k++o.toList.reverse:=by
  rw [Array.toList_append,Array.toList_reverse,List.reverse_append,List.reverse_reverse,ext_part]
theorem oneHi_ok (L:LtOk prog w A E s a₀ κ key) {u v o:Array Keyed} {i j g ca cb:Nat} {st:SortSt} {Q:ForInStep Sh6→SortSt→Prop} (hk:kindOf st=κ) (P:Pre a₀ key u v) (M:HI key u v o i j) (hi:1≤i) (hj:2≤j)
    (hd:∀ z r,Res key u v z→Q (.done (some z,r)) st) (hn:∀ o' i' j' ca' cb',HI key u v o' i' j'→1≤i'→2≤j'→o.size < o'.size→Q (.done (none,i',j',o',ca',cb')) st∧Q (.yield (none,i',j',o',ca',cb')) st) :
    wpS (model prog w) A E s (oneHi u v g (none,i,j,o,ca,cb)) Q st:=by
  unfold oneHi
  have b1:=M.hi
  have b2:=M.hj
  have e1:v[j - 1]? = some v[j - 1]:=Array.getElem?_eq_getElem (by omega)
  have e2:u[i - 1]? = some u[i - 1]:=Array.getElem?_eq_getElem (by omega)
  dsimp only
  refine wpS_bind (el_ok e1 (wpS_bind (el_ok e2 (wpS_bind (lt_ok L hk (P.mv _ (at_mem e1)) (P.mu _ (at_mem e2)) ?_)))))
  dsimp only
  have ml:=M.len
  by_cases c:key v[j - 1] < key u[i - 1]
  · rw [if_pos (decide_eq_true c)]
    refine wpS_bind (el_ok e2 ?_)
    have M':HI key u v (o.push u[i - 1]) (i - 1) j:=M.takeA (push_rev o u hi e2) (by omega) fun x hx y hy=>by
      obtain ⟨r,r1,r2,r3⟩:=of_head hx
      obtain ⟨t,t1,t2,t3,t4⟩:=of_part hy
      have et:t=i - 1:=by omega
      rw [et,e2] at t4
      have ex:=Option.some.inj t4
      have:=P.sv r (j - 1) (Nat.zero_le _) (by omega) (by omega)
      rw [kat_some e1,kat_some r3] at this
      rw [← ex]; omega
    have ml':=M'.len
    by_cases e:i - 1=0
    · rw [if_pos (by simpa using e)]
      exact wpS_pure (hd _ _ (fih1_ok M' (.inl e)))
    · rw [if_neg (by simpa using e)]
      obtain ⟨q1,q2⟩:=hn _ (i - 1) j (ca + 1) 0 M' (by omega) hj (by omega)
      split
      · exact wpS_pure q1
      · exact wpS_pure q2
  · rw [if_neg (by simpa using c)]
    refine wpS_bind (el_ok e1 ?_)
    have M':HI key u v (o.push v[j - 1]) i (j - 1):=M.takeB (push_rev o v (by omega) e1) (by omega) fun x hx y hy=>by
      obtain ⟨r,r1,r2,r3⟩:=of_head hx
      obtain ⟨t,t1,t2,t3,t4⟩:=of_part hy
      have et:t=j - 1:=by omega
      rw [et,e1] at t4
      have ex:=Option.some.inj t4
      have:=P.su r (i - 1) (Nat.zero_le _) (by omega) (by omega)
      rw [kat_some e2,kat_some r3] at this
      rw [← ex]; omega
    have ml':=M'.len
    by_cases e:j - 1=1
    · rw [if_pos (by simpa using e)]
      exact wpS_pure (hd _ _ (fih2_ok M' (P.firstB e)))
    · rw [if_neg (by simpa using e)]
      obtain ⟨q1,q2⟩:=hn _ i (j - 1) 0 (cb + 1) M' hi (by omega) (by omega)
      split
      · exact wpS_pure q1
      · exact wpS_pure q2
theorem ghEnd_ok {u v o:Array Keyed} {i j g ca cb n:Nat} {st:SortSt} {Q:ForInStep Sh7→SortSt→Prop} (P:Pre a₀ key u v) (M:HI key u v o i j) (hi:1≤i) (hj:2≤j) (hx:∀ y∈v.toList.take j,key y≤kat key u (i - 1)) (hs:n≤o.size)
    (hd:∀ z r,Res key u v z→Q (.done (some z,r)) st) (hn:∀ o' i' j' g' ca' cb',HI key u v o' i' j'→1≤i'→2≤j'→n < o'.size→Q (.done (none,i',j',o',g',ca',cb')) st∧Q (.yield (none,i',j',o',g',ca',cb')) st) :
    wpS (model prog w) A E s (ghEnd u v o i j g ca cb) Q st:=by
  unfold ghEnd
  have b1:=M.hi
  have e2:u[i - 1]? = some u[i - 1]:=Array.getElem?_eq_getElem (by omega)
  refine wpS_bind (el_ok e2 ?_)
  have ml:=M.len
  have M':HI key u v (o.push u[i - 1]) (i - 1) j:=M.takeA (push_rev o u hi e2) (by omega) fun x hx' y hy=>by
    obtain ⟨t,t1,t2,t3,t4⟩:=of_part hy
    have et:t=i - 1:=by omega
    rw [et,e2] at t4
    have ex:=Option.some.inj t4
    have:=hx x hx'
    rw [kat_some e2] at this
    rw [← ex]; exact this
  have ml':=M'.len
  by_cases e:i - 1=0
  · rw [if_pos (by simpa using e)]
    exact wpS_pure (hd _ _ (fih1_ok M' (.inl e)))
  · rw [if_neg (by simpa using e)]
    obtain ⟨q1,q2⟩:=hn _ (i - 1) j g ca cb M' (by omega) hj (by omega)
    split
    · exact wpS_pure q1
    · exact wpS_pure q2
theorem ghMid_ok (L:LtOk prog w A E s a₀ κ key) {u v o:Array Keyed} {i j g ca cb n:Nat} {st:SortSt} {Q:ForInStep Sh7→SortSt→Prop} (hk:kindOf st=κ) (P:Pre a₀ key u v) (M:HI key u v o i j) (hi:1≤i) (hj:2≤j) (hx:∀ y∈u.toList.take i,key y≤kat key v (j - 1)) (hs:n≤o.size)
    (hd:∀ z r,Res key u v z→Q (.done (some z,r)) st) (hn:∀ o' i' j' g' ca' cb',HI key u v o' i' j'→1≤i'→2≤j'→n < o'.size→Q (.done (none,i',j',o',g',ca',cb')) st∧Q (.yield (none,i',j',o',g',ca',cb')) st) :
    wpS (model prog w) A E s (ghMid u v o i j g ca cb) Q st:=by
  unfold ghMid
  have b1:=M.hi
  have b2:=M.hj
  have e1:v[j - 1]? = some v[j - 1]:=Array.getElem?_eq_getElem (by omega)
  have e2:u[i - 1]? = some u[i - 1]:=Array.getElem?_eq_getElem (by omega)
  refine wpS_bind (el_ok e1 ?_)
  have ml:=M.len
  have M':HI key u v (o.push v[j - 1]) i (j - 1):=M.takeB (push_rev o v (by omega) e1) (by omega) fun x hx' y hy=>by
    obtain ⟨t,t1,t2,t3,t4⟩:=of_part hy
    have et:t=j - 1:=by omega
    rw [et,e1] at t4
    have ex:=Option.some.inj t4
    have:=hx x hx'
    rw [kat_some e1] at this
    rw [← ex]; exact this
  have ml':=M'.len
  by_cases e:j - 1=1
  · rw [if_pos (by simpa using e)]
    exact wpS_pure (hd _ _ (fih2_ok M' (P.firstB e)))
  · rw [if_neg (by simpa using e)]
    refine wpS_bind (el_ok e2 (wpS_bind (gallop_ok L hk (P.mu _ (at_mem e2)) P.mv (by omega) (by omega) (seg_sub P.sv (by omega) (by omega)) fun k k1 k2 k3 => ?_)))
    dsimp only
    have lo:∀ t,t < k→kat key v t < key u[i - 1]:=fun t t1=>by
      have:=k2 t t1
      unfold isPast at this
      rw [if_pos rfl,Nat.zero_add] at this
      exact of_decide_eq_true this
    have up:∀ t,k≤t→t < j - 1→key u[i - 1]≤kat key v t:=fun t t1 t2=>by
      have:=k3 t t1 t2
      unfold isPast at this
      rw [if_pos rfl,Nat.zero_add] at this
      have:=of_decide_eq_false this
      omega
    have endx:∀ y∈v.toList.take k,key y≤kat key u (i - 1):=fun y hy=>by
      obtain ⟨r,r1,r2,r3⟩:=of_head hy
      have:=lo r r1
      rw [kat_some r3] at this
      rw [kat_some e2]; omega
    by_cases hk0:j - 1 - k > 0
    · rw [if_pos hk0]
      have M2:HI key u v (o.push v[j - 1]++(v.extract k (j - 1)).reverse) i k:=M'.takeB (app_rev _ v k (j - 1)) (by omega) fun x hx' y hy=>by
        obtain ⟨r,r1,r2,r3⟩:=of_head hx'
        obtain ⟨t,t1,t2,t3,t4⟩:=of_part hy
        have a1:=up t t1 t2
        have a2:=P.su r (i - 1) (Nat.zero_le _) (by omega) (by omega)
        rw [kat_some t4] at a1
        rw [kat_some e2,kat_some r3] at a2
        omega
      have ml2:=M2.len
      by_cases e3:k=1
      · rw [if_pos (by simpa using e3)]
        exact wpS_pure (hd _ _ (fih2_ok M2 (P.firstB e3)))
      · rw [if_neg (by simpa using e3)]
        by_cases e4:k=0
        · rw [if_pos (by simpa using e4)]
          exact wpS_pure (hd _ _ (fih1_ok M2 (.inr e4)))
        · rw [if_neg (by simpa using e4)]
          exact ghEnd_ok P M2 hi (by omega) endx (by omega) hd hn
    · rw [if_neg hk0]
      have k0:k=j - 1:=by omega
      subst k0
      exact ghEnd_ok P M' hi (by omega) endx (by omega) hd hn
theorem ghTop_ok (L:LtOk prog w A E s a₀ κ key) {u v o:Array Keyed} {i j g ca cb:Nat} {st:SortSt} {Q:ForInStep Sh7→SortSt→Prop} (hk:kindOf st=κ) (P:Pre a₀ key u v) (M:HI key u v o i j) (hi:1≤i) (hj:2≤j)
    (hd:∀ z r,Res key u v z→Q (.done (some z,r)) (setGal st g)) (hn:∀ o' i' j' g' ca' cb',HI key u v o' i' j'→1≤i'→2≤j'→o.size < o'.size→Q (.done (none,i',j',o',g',ca',cb')) (setGal st g)∧Q (.yield (none,i',j',o',g',ca',cb')) (setGal st g)) :
    wpS (model prog w) A E s (ghTop u v o i j g ca cb) Q st:=by
  unfold ghTop
  have b1:=M.hi
  have b2:=M.hj
  have e1:v[j - 1]? = some v[j - 1]:=Array.getElem?_eq_getElem (by omega)
  refine wpS_bind (wpS_modify (wpS_bind (el_ok e1 (wpS_bind (gallop_ok L hk (P.mv _ (at_mem e1)) P.mu (by omega) (by omega) (seg_sub P.su (by omega) (by omega)) fun k k1 k2 k3 => ?_)))))
  dsimp only
  have ml:=M.len
  have lo:∀ t,t < k→kat key u t≤key v[j - 1]:=fun t t1=>by
    have:=k2 t t1
    unfold isPast at this
    rw [if_neg (by decide),Nat.zero_add] at this
    have:¬ key v[j - 1] < kat key u t:=by simpa using this
    omega
  have up:∀ t,k≤t→t < i→key v[j - 1] < kat key u t:=fun t t1 t2=>by
    have:=k3 t t1 t2
    unfold isPast at this
    rw [if_neg (by decide),Nat.zero_add] at this
    have:key v[j - 1] < kat key u t:=by simpa using this
    exact this
  have midx:∀ y∈u.toList.take k,key y≤kat key v (j - 1):=fun y hy=>by
    obtain ⟨r,r1,r2,r3⟩:=of_head hy
    have:=lo r r1
    rw [kat_some r3] at this
    rw [kat_some e1]; omega
  by_cases hk0:i - k > 0
  · rw [if_pos hk0]
    have M2:HI key u v (o++(u.extract k i).reverse) k j:=M.takeA (app_rev _ u k i) (by omega) fun x hx' y hy=>by
      obtain ⟨r,r1,r2,r3⟩:=of_head hx'
      obtain ⟨t,t1,t2,t3,t4⟩:=of_part hy
      have a1:=up t t1 t2
      have a2:=P.sv r (j - 1) (Nat.zero_le _) (by omega) (by omega)
      rw [kat_some t4] at a1
      rw [kat_some e1,kat_some r3] at a2
      omega
    have ml2:=M2.len
    by_cases e3:k=0
    · rw [if_pos (by simpa using e3)]
      exact wpS_pure (hd _ _ (fih1_ok M2 (.inl e3)))
    · rw [if_neg (by simpa using e3)]
      exact ghMid_ok L (st:=setGal st g) hk P M2 (by omega) hj midx (by omega) hd hn
  · rw [if_neg hk0]
    have k0:k=i:=by omega
    subst k0
    exact ghMid_ok L (st:=setGal st g) hk P M hi hj midx (by omega) hd hn
theorem roundHi_ok (L:LtOk prog w A E s a₀ κ key) {u v o:Array Keyed} {i j g:Nat} {st:SortSt} {Q:ForInStep Sh5→SortSt→Prop} (hk:kindOf st=κ) (P:Pre a₀ key u v) (M:HI key u v o i j) (hi:1≤i) (hj:2≤j)
    (hd:∀ z r g',Res key u v z→Q (.done (some z,r)) (setGal st g')) (hn:∀ o' i' j' g' g'',HI key u v o' i' j'→1≤i'→2≤j'→o.size < o'.size→Q (.yield (none,i',j',o',g')) (setGal st g'')) :
    wpS (model prog w) A E s (roundHi u v (none,i,j,o,g)) Q st:=by
  unfold roundHi
  have ml:=M.len
  refine wpS_bind (wpS_mono (wpS_forRange (I:=fun t c st'=>st'=st∧∃ o' i' j' ca cb,c=(none,i',j',o',ca,cb)∧HI key u v o' i' j'∧1≤i'∧2≤j'∧o.size + t≤o'.size)
    (Q:=fun c st'=>st'=st∧((∃ z r,c=(some z,r)∧Res key u v z)∨∃ o' i' j' ca cb,c=(none,i',j',o',ca,cb)∧HI key u v o' i' j'∧1≤i'∧2≤j'∧o.size < o'.size)) ?step ?fin ⟨rfl,o,i,j,0,0,rfl,M,hi,hj,by omega⟩) ?post)
  case fin =>
    rintro c st' ⟨rfl,o',i',j',ca,cb,rfl,M',h1,h2,h3⟩
    have:=M'.len
    omega
  case step =>
    rintro t c st' _ ht ⟨rfl,o',i',j',ca,cb,rfl,M',h1,h2,h3⟩
    exact oneHi_ok L hk P M' h1 h2 (fun z r hz=>⟨rfl,.inl ⟨z,r,rfl,hz⟩⟩) fun o2 i2 j2 ca2 cb2 M2 g1 g2 g3=>⟨⟨rfl,.inr ⟨o2,i2,j2,ca2,cb2,rfl,M2,g1,g2,by omega⟩⟩,rfl,o2,i2,j2,ca2,cb2,rfl,M2,g1,g2,by omega⟩
  case post =>
    rintro c st' ⟨rfl,h⟩
    rcases h with ⟨z,r,rfl,hz⟩ | ⟨o',i',j',ca,cb,rfl,M',h1,h2,h3⟩
    · exact wpS_pure (hd z _ (gallopOf st') hz)
    · dsimp only
      refine wpS_bind (wpS_lift (wpAny_rule ⟨rfl,?_⟩))
      refine wpS_bind (wpS_mono (wpS_forRange (I:=fun t c st''=>∃ g',st''=setGal st' g'∧∃ o2 i2 j2 g2 ca cb,c=(none,i2,j2,o2,g2,ca,cb)∧HI key u v o2 i2 j2∧1≤i2∧2≤j2∧o'.size + t≤o2.size)
        (Q:=fun c st''=>∃ g',st''=setGal st' g'∧((∃ z r,c=(some z,r)∧Res key u v z)∨∃ o2 i2 j2 g2 ca cb,c=(none,i2,j2,o2,g2,ca,cb)∧HI key u v o2 i2 j2∧1≤i2∧2≤j2∧o.size < o2.size)) ?gstep ?gfin ⟨gallopOf st',rfl,o',i',j',g + 1,ca,cb,rfl,M',h1,h2,by omega⟩) ?gpost)
      case gfin =>
        rintro c st'' ⟨g',rfl,o2,i2,j2,g2,ca,cb,rfl,M2,q1,q2,q3⟩
        have:=M2.len
        have:=M'.len
        omega
      case gstep =>
        rintro t c st'' _ ht ⟨g',rfl,o2,i2,j2,g2,ca,cb,rfl,M2,q1,q2,q3⟩
        show wpS _ _ _ _ (ghStep u v (none,i2,j2,o2,g2,ca,cb)) _ _
        unfold ghStep
        dsimp only
        split
        · exact ghTop_ok L (st:=setGal st' g') hk P M2 q1 q2 (fun z r hz=>⟨_,rfl,.inl ⟨z,r,rfl,hz⟩⟩) fun o3 i3 j3 g3 ca3 cb3 M3 k1 k2 k3=>⟨⟨_,rfl,.inr ⟨o3,i3,j3,g3,ca3,cb3,rfl,M3,k1,k2,by omega⟩⟩,_,rfl,o3,i3,j3,g3,ca3,cb3,rfl,M3,k1,k2,by omega⟩
        · exact ghTop_ok L (st:=setGal st' g') hk P M2 q1 q2 (fun z r hz=>⟨_,rfl,.inl ⟨z,r,rfl,hz⟩⟩) fun o3 i3 j3 g3 ca3 cb3 M3 k1 k2 k3=>⟨⟨_,rfl,.inr ⟨o3,i3,j3,g3,ca3,cb3,rfl,M3,k1,k2,by omega⟩⟩,_,rfl,o3,i3,j3,g3,ca3,cb3,rfl,M3,k1,k2,by omega⟩
      case gpost =>
        rintro c st'' ⟨g',rfl,h⟩
        rcases h with ⟨z,r,rfl,hz⟩ | ⟨o2,i2,j2,g2,ca,cb,rfl,M2,q1,q2,q3⟩
        · exact wpS_pure (hd z _ g' hz)
        · dsimp only
          exact wpS_bind (wpS_modify (wpS_pure (hn o2 i2 j2 _ _ M2 q1 q2 q3)))
theorem hi_ok (L:LtOk prog w A E s a₀ κ key) {u v:Array Keyed} {st:SortSt} {Q:Array Keyed→SortSt→Prop} (hk:kindOf st=κ) (P:Pre a₀ key u v) (hd:∀ z g',Res key u v z→Q z (setGal st g')):wpS (model prog w) A E s (hiP u v) Q st:=by
  rw [hiP_eq]
  refine wpS_bind (wpS_lift (wpAny_rule ⟨rfl,?_⟩))
  have hu:=P.hu
  have hv:=P.hv
  have e2:u[u.size - 1]? = some u[u.size - 1]:=Array.getElem?_eq_getElem (by omega)
  refine wpS_bind (el_ok e2 ?_)
  have tu:u.toList.take u.size=u.toList:=List.take_of_length_le (by simp)
  have tv:v.toList.take v.size=v.toList:=List.take_of_length_le (by simp)
  have M0:HI key u v #[] u.size v.size:=⟨by rw [tu,tv]; simp,by rw [tu]; simpa using srt_seg.mpr P.su,by rw [tv]; simpa using srt_seg.mpr P.sv,Nat.le_refl _,Nat.le_refl _⟩
  have M:HI key u v #[u[u.size - 1]] (u.size - 1) v.size:=M0.takeA (by have:=push_rev #[] u (by omega) e2; simpa using this) (by omega) fun x hx y hy=>by
    obtain ⟨r,r1,r2,r3⟩:=of_head hx
    obtain ⟨t,t1,t2,t3,t4⟩:=of_part hy
    have et:t=u.size - 1:=by omega
    rw [et] at t4
    have a1:=P.sv r (v.size - 1) (Nat.zero_le _) (by omega) (by omega)
    have a2:=P.last
    rw [kat_some t4] at a2
    rw [kat_some r3] at a1
    omega
  by_cases c1:u.size - 1=0
  · rw [if_pos (by simpa using c1)]
    exact wpS_pure (hd _ (gallopOf st) (fih1_ok M (.inl c1)))
  · rw [if_neg (by simpa using c1)]
    by_cases c2:v.size=1
    · rw [if_pos (by simpa using c2)]
      exact wpS_pure (hd _ (gallopOf st) (fih2_ok M (P.firstB c2)))
    · rw [if_neg (by simpa using c2)]
      refine wpS_bind (wpS_get ?_)
      refine wpS_bind (wpS_mono (wpS_forRange (I:=fun t c st'=>∃ g',st'=setGal st g'∧∃ o i j g,c=(none,i,j,o,g)∧HI key u v o i j∧1≤i∧2≤j∧t < o.size)
        (Q:=fun c st'=>∃ g',st'=setGal st g'∧∃ z r,c=(some z,r)∧Res key u v z) ?step ?fin ⟨gallopOf st,rfl,#[u[u.size - 1]],u.size - 1,v.size,_,rfl,M,by omega,by omega,by simp⟩) ?post)
      case fin =>
        rintro c st' ⟨g',rfl,o,i,j,g,rfl,M',h1,h2,h3⟩
        have:=M'.len
        omega
      case step =>
        rintro t c st' _ ht ⟨g',rfl,o,i,j,g,rfl,M',h1,h2,h3⟩
        exact roundHi_ok L (st:=setGal st g') hk P M' h1 h2 (fun z r g2 hz=>⟨g2,rfl,z,r,rfl,hz⟩) fun o2 i2 j2 g2 g3 M2 q1 q2 q3=>⟨g3,rfl,o2,i2,j2,g2,rfl,M2,q1,q2,by omega⟩
      case post =>
        rintro c st' ⟨g',rfl,z,r,rfl,hz⟩
        exact wpS_pure (hd z g' hz)
end
end Tim

namespace Tim
open PySem PyProof.Rows
section
variable {prog:Program} {w:World} {A:Around} {E:Value→Shared→Prop} {s:Shared} {a₀:Array Keyed} {κ:SortKind} {key:Keyed→Int}

abbrev Sa:=Option (Option Nat) × Nat
abbrev Sd:=Option (Option Nat) × Nat × Nat
def riseL (lo a n:Nat):StateT SortSt Sem Sa :=
  forIn [a:n] ((none,a):Sa) fun _ r=>do
    let z ← ltAt' (lo + r.2) (lo + r.2 - 1)
    match z with
    | some less=>if less=true then pure (.done (none,r.2)) else pure (.yield (none,r.2 + 1))
    | _=>pure (.done (some none,r.2))
def fallL (lo a n:Nat):StateT SortSt Sem Sd :=
  forIn [a:n] ((none,a,0):Sd) fun _ r=>do
    let z ← ltAt' (lo + r.2.1) (lo + r.2.1 - 1)
    match z with
    | some less =>
      if less=true then
        if r.2.2 > 0 then do
          reverseSlice' (lo + r.2.1 - (r.2.2 + 1)) (lo + r.2.1)
          pure (.yield (none,r.2.1 + 1,0))
        else pure (.yield (none,r.2.1 + 1,0))
      else do
        let y ← ltAt' (lo + r.2.1 - 1) (lo + r.2.1)
        match y with
        | some more=>if more=true then pure (.done (none,r.2.1,r.2.2)) else pure (.yield (none,r.2.1 + 1,r.2.2 + 1))
        | _=>pure (.done (some none,r.2.1,r.2.2))
    | _=>pure (.done (some none,r.2.1,r.2.2))
def riseEnd (lo m n:Nat):StateT SortSt Sem (Option Nat):=do
  reverseSlice' lo (lo + m)
  let r ← riseL lo m n
  match r.1 with
  | some v=>pure v
  | none=>pure (some r.2)
def fallPart (lo m n:Nat):StateT SortSt Sem (Option Nat):=do
  liftM (rule "list.sort.descending-run")
  let r ← fallL lo (m + 1) n
  match r.1 with
  | some v=>pure v
  | none =>
    if r.2.2 > 0 then do
      reverseSlice' (lo + r.2.1 - (r.2.2 + 1)) (lo + r.2.1)
      riseEnd lo r.2.1 n
    else riseEnd lo r.2.1 n
theorem run_eq (lo n:Nat):countRun' lo n=(do
    let r ← riseL lo 1 n
    match r.1 with
    | some v=>pure v
    | none =>
      if (r.2 == n)=true then pure (some r.2)
      else if r.2 > 1 then do
        let z ← ltAt' lo (lo + r.2 - 1)
        match z with
        | some up=>if up=true then pure (some r.2) else do
            reverseSlice' lo (lo + r.2)
            fallPart lo r.2 n
        | _=>pure none
      else fallPart lo r.2 n):=by
  kernel_rfl
def Fal (key:Keyed→Int) (xs:Array Keyed) (lo hi:Nat):Prop:=∀ i j,lo≤i→i≤j→j < hi→kat key xs j≤kat key xs i

def Off (xs ys:Array Keyed) (lo hi:Nat):Prop:=∀ t,(t < lo∨hi≤t)→ys[t]? = xs[t]?
theorem Off.refl (xs:Array Keyed) (lo hi:Nat):Off xs xs lo hi:=fun _ _=>rfl
theorem Off.trans {xs ys zs:Array Keyed} {lo hi:Nat} (h:Off xs ys lo hi) (g:Off ys zs lo hi):Off xs zs lo hi:=fun t ht=>(g t ht).trans (h t ht)
theorem kat_mir {xs:Array Keyed} {i j:Nat} (hj:j≤xs.size) (k:Nat):kat key (mirror xs i j ((j - i) / 2)) k=if i≤k∧k < j then kat key xs (i + j - 1 - k) else kat key xs k:=by
  have e:=getElem?_mirror_all (i:=i) hj k
  by_cases h1:i≤k∧k < j
  · rw [if_pos h1] at e ⊢; exact kat_of e
  · rw [if_neg h1] at e ⊢; exact kat_of e
theorem off_mir {xs:Array Keyed} {i j lo hi:Nat} (hj:j≤xs.size) (h1:lo≤i) (h2:j≤hi):Off xs (mirror xs i j ((j - i) / 2)) lo hi:=fun t ht=>by
  rw [getElem?_mirror_all hj,if_neg (by omega)]
theorem kat_mir_same {xs:Array Keyed} {i j:Nat} (hj:j≤xs.size) (he:∀ k,i≤k→k < j→kat key xs k=kat key xs (j - 1)) (k:Nat):kat key (mirror xs i j ((j - i) / 2)) k=kat key xs k:=by
  rw [kat_mir hj]
  split
  · rw [he _ (by omega) (by omega),he k (by omega) (by omega)]
  · rfl
theorem rev_ok {st:SortSt} {i j:Nat} {Q:Unit→SortSt→Prop} (h:Q () (setArr st (mirror (arrOf st) i j ((j - i) / 2)))):wpS (model prog w) A E s (reverseSlice' i j) Q st:=by
  rw [reverseSlice'_eq]; exact wpS_modify h
theorem rise_ok (L:LtOk prog w A E s a₀ κ key) {lo a n:Nat} {st:SortSt} {Q:Sa→SortSt→Prop} (hB:SB a₀ κ st) (hz:lo + n≤a₀.size) (h1:1≤a) (han:a≤n) (hs:Seg key (arrOf st) lo (lo + a))
    (h:∀ m,a≤m→m≤n→Seg key (arrOf st) lo (lo + m)→(m=n∨kat key (arrOf st) (lo + m) < kat key (arrOf st) (lo + m - 1))→Q (none,m) st):wpS (model prog w) A E s (riseL lo a n) Q st:=by
  unfold riseL
  refine wpS_forRange (I:=fun t c st'=>st'=st∧c=(none,t)∧Seg key (arrOf st) lo (lo + t)) ?step ?fin ⟨rfl,rfl,hs⟩
  case fin =>
    rintro c st' ⟨rfl,rfl,hs'⟩
    rw [show max a n=n by omega] at hs' ⊢
    exact h n han (Nat.le_refl _) hs' (.inl rfl)
  case step =>
    rintro t c st' ht htn ⟨rfl,rfl,hs'⟩
    refine wpS_bind (ltAt_ok L hB (by dsimp only; omega) (by dsimp only; omega) ?_)
    dsimp only
    by_cases e:kat key (arrOf st') (lo + t) < kat key (arrOf st') (lo + t - 1)
    · rw [if_pos (decide_eq_true e)]
      exact wpS_pure (h t ht (by omega) hs' (.inr e))
    · rw [if_neg (by simpa using e)]
      refine wpS_pure ⟨rfl,rfl,fun i j x y z => ?_⟩
      by_cases q:j < lo + t
      · exact hs' i j x y q
      · have ej:j=lo + t:=by omega
        subst ej
        by_cases q2:i=lo + t
        · rw [q2]; exact Int.le_refl _
        · have:=hs' i (lo + t - 1) x (by omega) (by omega)
          omega
theorem riseEnd_ok (L:LtOk prog w A E s a₀ κ key) {lo m n:Nat} {st:SortSt} {Q:Option Nat→SortSt→Prop} (hB:SB a₀ κ st) (hz:lo + n≤a₀.size) (h1:1≤m) (hmn:m≤n) (hs:Fal key (arrOf st) lo (lo + m))
    (h:∀ k xs,1≤k→k≤n→xs.Perm (arrOf st)→Off (arrOf st) xs lo (lo + n)→Seg key xs lo (lo + k)→Q (some k) (setArr st xs)):wpS (model prog w) A E s (riseEnd lo m n) Q st:=by
  unfold riseEnd
  have hsz:lo + m≤(arrOf st).size:=by rw [hB.size]; omega
  refine wpS_bind (rev_ok ?_)
  have hp:(mirror (arrOf st) lo (lo + m) ((lo + m - lo) / 2)).Perm (arrOf st):=mirror_perm _ _ _ _
  have hB':=hB.set hp
  refine wpS_bind (rise_ok L hB' hz h1 hmn (fun i j x y z => ?_) fun k k1 k2 k3 _=>wpS_pure (h k _ (by omega) k2 hp (off_mir hsz (by omega) (by omega)) k3))
  show kat key (mirror (arrOf st) lo (lo + m) ((lo + m - lo) / 2)) i≤kat key (mirror (arrOf st) lo (lo + m) ((lo + m - lo) / 2)) j
  rw [kat_mir hsz,kat_mir hsz,if_pos (by omega),if_pos (by omega)]
  exact hs _ _ (by omega) (by omega) (by omega)
theorem fall_ok (L:LtOk prog w A E s a₀ κ key) {lo a n:Nat} {st:SortSt} {Q:Sd→SortSt→Prop} (hB:SB a₀ κ st) (hz:lo + n≤a₀.size) (h1:1≤a) (han:a≤n) (hs:Fal key (arrOf st) lo (lo + a))
    (h:∀ m q xs,a≤m→m≤n→xs.Perm (arrOf st)→Off (arrOf st) xs lo (lo + n)→Fal key xs lo (lo + m)→q + 1≤m→(∀ i,lo + m - (q + 1)≤i→i < lo + m→kat key xs i=kat key xs (lo + m - 1))→Q (none,m,q) (setArr st xs)):wpS (model prog w) A E s (fallL lo a n) Q st:=by
  unfold fallL
  refine wpS_forRange (I:=fun t c st'=>∃ q xs,st'=setArr st xs∧c=(none,t,q)∧xs.Perm (arrOf st)∧Off (arrOf st) xs lo (lo + n)∧Fal key xs lo (lo + t)∧q + 1≤t∧∀ i,lo + t - (q + 1)≤i→i < lo + t→kat key xs i=kat key xs (lo + t - 1)) ?step ?fin
    ⟨0,arrOf st,rfl,rfl,Array.Perm.refl _,Off.refl _ _ _,hs,by omega,fun i x y=>by congr 1; omega⟩
  case fin =>
    rintro c st' ⟨q,xs,rfl,rfl,hp,ho,hf,hq,he⟩
    rw [show max a n=n by omega] at hf hq he ⊢
    exact h n q xs han (Nat.le_refl _) hp ho hf hq he
  case step =>
    rintro t c st' ht htn ⟨q,xs,rfl,rfl,hp,ho,hf,hq,he⟩
    have hB':=hB.set hp
    have hsz:lo + t≤xs.size:=by rw [hp.size_eq,hB.size]; omega
    refine wpS_bind (ltAt_ok L hB' (by dsimp only; omega) (by dsimp only; omega) ?_)
    dsimp only
    show wpS _ _ _ _ (if decide (kat key xs (lo + t) < kat key xs (lo + t - 1))=true then _ else _) _ _
    by_cases e:kat key xs (lo + t) < kat key xs (lo + t - 1)
    · rw [if_pos (decide_eq_true e)]
      have step1:∀ ys:Array Keyed,(∀ k,kat key ys k=kat key xs k)→Fal key ys lo (lo + (t + 1)):=by
        intro ys hk i j x y z
        rw [hk,hk]
        by_cases r:j < lo + t
        · exact hf i j x y r
        · have ej:j=lo + t:=by omega
          subst ej
          by_cases q2:i=lo + t
          · rw [q2]; exact Int.le_refl _
          · have:=hf i (lo + t - 1) x (by omega) (by omega)
            omega
      by_cases hq0:q > 0
      · rw [if_pos hq0]
        refine wpS_bind (rev_ok (wpS_pure ⟨0,mirror xs (lo + t - (q + 1)) (lo + t) ((lo + t - (lo + t - (q + 1))) / 2),rfl,rfl,(mirror_perm _ _ _ _).trans hp,ho.trans (off_mir hsz (by omega) (by omega)),step1 _ (kat_mir_same hsz he),by omega,fun i x y=>by congr 1; omega⟩))
      · rw [if_neg hq0]
        exact wpS_pure ⟨0,xs,rfl,rfl,hp,ho,step1 _ (fun _=>rfl),by omega,fun i x y=>by congr 1; omega⟩
    · rw [if_neg (by simpa using e)]
      refine wpS_bind (ltAt_ok L hB' (by omega) (by omega) ?_)
      dsimp only
      show wpS _ _ _ _ (if decide (kat key xs (lo + t - 1) < kat key xs (lo + t))=true then _ else _) _ _
      by_cases e2:kat key xs (lo + t - 1) < kat key xs (lo + t)
      · rw [if_pos (decide_eq_true e2)]
        exact wpS_pure (h t q xs ht (by omega) hp ho hf hq he)
      · rw [if_neg (by simpa using e2)]
        have eq:kat key xs (lo + t)=kat key xs (lo + t - 1):=by omega
        refine wpS_pure ⟨q + 1,xs,rfl,rfl,hp,ho,fun i j x y z => ?_,by omega,fun i x y => ?_⟩
        · by_cases r:j < lo + t
          · exact hf i j x y r
          · have ej:j=lo + t:=by omega
            subst ej
            by_cases q2:i=lo + t
            · rw [q2]; exact Int.le_refl _
            · rw [eq]; exact hf i (lo + t - 1) x (by omega) (by omega)
        · rw [show lo + (t + 1) - 1=lo + t by omega]
          by_cases q2:i=lo + t
          · rw [q2]
          · rw [eq]; exact he i (by omega) (by omega)
theorem fallPart_ok (L:LtOk prog w A E s a₀ κ key) {lo m n:Nat} {st:SortSt} {Q:Option Nat→SortSt→Prop} (hB:SB a₀ κ st) (hz:lo + n≤a₀.size) (hmn:m + 1≤n) (hs:Fal key (arrOf st) lo (lo + (m + 1)))
    (h:∀ k xs,1≤k→k≤n→xs.Perm (arrOf st)→Off (arrOf st) xs lo (lo + n)→Seg key xs lo (lo + k)→Q (some k) (setArr st xs)):wpS (model prog w) A E s (fallPart lo m n) Q st:=by
  unfold fallPart
  refine wpS_bind (wpS_lift (wpAny_rule ⟨rfl,?_⟩))
  refine wpS_bind (fall_ok L hB hz (by omega) hmn hs fun k q xs k1 k2 hp ho hf hq he => ?_)
  dsimp only
  have hsz:lo + k≤xs.size:=by rw [hp.size_eq,hB.size]; omega
  by_cases hq0:q > 0
  · rw [if_pos hq0]
    refine wpS_bind (rev_ok ?_)
    have hp2:(mirror xs (lo + k - (q + 1)) (lo + k) ((lo + k - (lo + k - (q + 1))) / 2)).Perm (arrOf st):=(mirror_perm _ _ _ _).trans hp
    refine riseEnd_ok L (st:=setArr st (mirror xs (lo + k - (q + 1)) (lo + k) ((lo + k - (lo + k - (q + 1))) / 2))) (hB.set hp2) hz (by omega) k2 (fun i j x y z => ?_) fun r ys r1 r2 r3 r4 r5=>h r ys r1 r2 (r3.trans hp2) ((ho.trans (off_mir hsz (by omega) (by omega))).trans r4) r5
    show kat key (mirror xs _ _ _) j≤kat key (mirror xs _ _ _) i
    rw [kat_mir_same hsz he,kat_mir_same hsz he]
    exact hf i j x y z
  · rw [if_neg hq0]
    exact riseEnd_ok L (st:=setArr st xs) (hB.set hp) hz (by omega) k2 hf fun r ys r1 r2 r3 r4 r5=>h r ys r1 r2 (r3.trans hp) (ho.trans r4) r5
theorem run_ok (L:LtOk prog w A E s a₀ κ key) {lo n:Nat} {st:SortSt} {Q:Option Nat→SortSt→Prop} (hB:SB a₀ κ st) (hz:lo + n≤a₀.size) (h1:1≤n)
    (h:∀ k xs,1≤k→k≤n→xs.Perm (arrOf st)→Off (arrOf st) xs lo (lo + n)→Seg key xs lo (lo + k)→Q (some k) (setArr st xs)):wpS (model prog w) A E s (countRun' lo n) Q st:=by
  rw [run_eq]
  refine wpS_bind (rise_ok L hB hz (Nat.le_refl 1) h1 (fun i j x y z=>by rw [show i=j by omega]; exact Int.le_refl _) fun m m1 m2 hsm hor => ?_)
  dsimp only
  by_cases e:m=n
  · rw [if_pos (by simpa using e)]
    exact wpS_pure (h m (arrOf st) m1 m2 (Array.Perm.refl _) (Off.refl _ _ _) hsm)
  · rw [if_neg (by simpa using e)]
    have lt:kat key (arrOf st) (lo + m) < kat key (arrOf st) (lo + m - 1):=hor.resolve_left e
    by_cases g:m > 1
    · rw [if_pos g]
      refine wpS_bind (ltAt_ok L hB (by omega) (by omega) ?_)
      dsimp only
      by_cases c:kat key (arrOf st) lo < kat key (arrOf st) (lo + m - 1)
      · rw [if_pos (decide_eq_true c)]
        exact wpS_pure (h m (arrOf st) m1 m2 (Array.Perm.refl _) (Off.refl _ _ _) hsm)
      · rw [if_neg (by simpa using c)]
        have hsz:lo + m≤(arrOf st).size:=by rw [hB.size]; omega
        have all:∀ k,lo≤k→k < lo + m→kat key (arrOf st) k=kat key (arrOf st) (lo + m - 1):=by
          intro k x y
          have a1:=hsm lo k (Nat.le_refl _) x y
          have a2:=hsm k (lo + m - 1) x (by omega) (by omega)
          omega
        refine wpS_bind (rev_ok ?_)
        have hp:(mirror (arrOf st) lo (lo + m) ((lo + m - lo) / 2)).Perm (arrOf st):=mirror_perm _ _ _ _
        refine fallPart_ok L (hB.set hp) hz (by omega) (fun i j x y z => ?_) fun r ys r1 r2 r3 r4 r5=>h r ys r1 r2 (r3.trans hp) ((off_mir hsz (by omega) (by omega)).trans r4) r5
        show kat key (mirror (arrOf st) _ _ _) j≤kat key (mirror (arrOf st) _ _ _) i
        rw [kat_mir_same hsz all,kat_mir_same hsz all]
        by_cases q:j < lo + m
        · rw [all i x (by omega),all j (by omega) q]; exact Int.le_refl _
        · have ej:j=lo + m:=by omega
          subst ej
          by_cases q2:i=lo + m
          · rw [q2]; exact Int.le_refl _
          · rw [all i x (by omega)]; omega
    · rw [if_neg g]
      have em:m=1:=by omega
      subst em
      refine fallPart_ok L hB hz (by omega) (fun i j x y z => ?_) h
      by_cases q:i=j
      · rw [q]; exact Int.le_refl _
      · have ei:i=lo:=by omega
        have ej:j=lo + 1:=by omega
        subst ei
        subst ej
        have:i + 1 - 1=i:=by omega
        rw [this] at lt
        omega
end
end Tim

namespace Tim
open PySem PyProof.Rows
section
variable {prog:Program} {w:World} {A:Around} {E:Value→Shared→Prop} {s:Shared} {a₀:Array Keyed} {κ:SortKind} {key:Keyed→Int}
theorem kat_bub {xs:Array Keyed} {src d:Nat} (hs:src < xs.size) (hd:d≤src) (k:Nat):kat key (bubble xs src d) k=if k=src - d then kat key xs src else if src - d < k∧k≤src then kat key xs (k - 1) else kat key xs k:=by
  have e:=getElem?_bubble hs d hd k
  by_cases h1:k=src - d
  · rw [if_pos h1] at e ⊢; exact kat_of e
  · rw [if_neg h1] at e ⊢
    by_cases h2:src - d < k∧k≤src
    · rw [if_pos h2] at e ⊢; exact kat_of e
    · rw [if_neg h2] at e ⊢; exact kat_of e
def findL (lo k:Nat):StateT SortSt Sem (Option Bool × Nat × Nat) :=
  forIn [0:k] ((none,0,k):Option Bool × Nat × Nat) fun _ r =>
    if r.2.1 ≥ r.2.2 then pure (.done (none,r.2.1,r.2.2)) else do
      let z ← ltAt' (lo + k) (lo + (r.2.1 + r.2.2) / 2)
      match z with
      | some less=>if less=true then pure (.yield (none,r.2.1,(r.2.1 + r.2.2) / 2)) else pure (.yield (none,(r.2.1 + r.2.2) / 2 + 1,r.2.2))
      | _=>pure (.done (some false,r.2.1,r.2.2))
def insL (lo n ok:Nat):StateT SortSt Sem (Option Bool × Unit) :=
  forIn [max ok 1:n] ((none,()):Option Bool × Unit) fun k _=>do
    let r ← findL lo k
    match r.1 with
    | some v=>pure (.done (some v,()))
    | none=>do
      moveDown' (lo + k) (lo + r.2.1)
      pure (.yield (none,()))
theorem ins_eq (lo n ok:Nat):binarySort' lo n ok=(do
    let r ← insL lo n ok
    match r.1 with
    | some v=>pure v
    | none=>pure true):=by kernel_rfl
theorem find_ok (L:LtOk prog w A E s a₀ κ key) {lo k:Nat} {st:SortSt} {Q:Option Bool × Nat × Nat→SortSt→Prop} (hB:SB a₀ κ st) (hz:lo + k < a₀.size) (hs:Seg key (arrOf st) lo (lo + k))
    (h:∀ l,l≤k→(∀ i,lo≤i→i < lo + l→kat key (arrOf st) i≤kat key (arrOf st) (lo + k))→(∀ i,lo + l≤i→i < lo + k→kat key (arrOf st) (lo + k) < kat key (arrOf st) i)→Q (none,l,l) st):wpS (model prog w) A E s (findL lo k) Q st:=by
  unfold findL
  refine wpS_forRange (I:=fun t c st'=>st'=st∧∃ l r,c=(none,l,r)∧l≤r∧r≤k∧r - l≤k - t∧(∀ i,lo≤i→i < lo + l→kat key (arrOf st) i≤kat key (arrOf st) (lo + k))∧(∀ i,lo + r≤i→i < lo + k→kat key (arrOf st) (lo + k) < kat key (arrOf st) i)) ?step ?fin
    ⟨rfl,0,k,rfl,by omega,by omega,by omega,fun i x y=>by omega,fun i x y=>by omega⟩
  case fin =>
    rintro c st' ⟨rfl,l,r,rfl,h1,h2,h3,h4,h5⟩
    have e:l=r:=by omega
    subst e
    exact h l h2 h4 h5
  case step =>
    rintro t c st' _ ht ⟨rfl,l,r,rfl,h1,h2,h3,h4,h5⟩
    dsimp only
    by_cases e:l ≥ r
    · rw [if_pos e]
      have e':l=r:=by omega
      subst e'
      exact wpS_pure (h l h2 h4 h5)
    · rw [if_neg e]
      refine wpS_bind (ltAt_ok L hB hz (by omega) ?_)
      dsimp only
      by_cases c:kat key (arrOf st') (lo + k) < kat key (arrOf st') (lo + (l + r) / 2)
      · rw [if_pos (decide_eq_true c)]
        refine wpS_pure ⟨rfl,_,_,rfl,by omega,by omega,by omega,h4,fun i x y => ?_⟩
        have:=hs (lo + (l + r) / 2) i (by omega) x y
        omega
      · rw [if_neg (by simpa using c)]
        refine wpS_pure ⟨rfl,_,_,rfl,by omega,by omega,by omega,fun i x y => ?_,h5⟩
        have:=hs i (lo + (l + r) / 2) x (by omega) (by omega)
        omega
theorem bub_seg {xs:Array Keyed} {lo p q:Nat} (h1:lo≤q) (h2:q≤p) (hks:p < xs.size) (hs:Seg key xs lo p) (h4:∀ i,lo≤i→i < q→kat key xs i≤kat key xs p) (h5:∀ i,q≤i→i < p→kat key xs p < kat key xs i):Seg key (bubble xs p (p - q)) lo (p + 1):=by
  intro i j x y z
  rw [kat_bub hks (Nat.sub_le _ _),kat_bub hks (Nat.sub_le _ _),show p - (p - q)=q from Nat.sub_sub_self h2]
  clear hks
  repeat' split
  all_goals first
    | (exfalso; omega)
    | exact Int.le_refl _
    | exact h4 _ (by omega) (by omega)
    | exact Int.le_of_lt (h5 _ (by omega) (by omega))
    | exact hs _ _ (by omega) (by omega) (by omega)
theorem ins_ok (L:LtOk prog w A E s a₀ κ key) {lo n ok:Nat} {st:SortSt} {Q:Bool→SortSt→Prop} (hB:SB a₀ κ st) (hz:lo + n≤a₀.size) (hok:ok≤n) (hs:Seg key (arrOf st) lo (lo + ok))
    (h:∀ xs,xs.Perm (arrOf st)→Off (arrOf st) xs lo (lo + n)→Seg key xs lo (lo + n)→Q true (setArr st xs)):wpS (model prog w) A E s (binarySort' lo n ok) Q st:=by
  rw [ins_eq]
  unfold insL
  refine wpS_bind (wpS_mono (wpS_forRange (I:=fun t c st'=>c=(none,())∧∃ xs,st'=setArr st xs∧xs.Perm (arrOf st)∧Off (arrOf st) xs lo (lo + n)∧Seg key xs lo (lo + min t n))
    (Q:=fun c st'=>c=(none,())∧∃ xs,st'=setArr st xs∧xs.Perm (arrOf st)∧Off (arrOf st) xs lo (lo + n)∧Seg key xs lo (lo + n)) ?step ?fin ?init) ?post)
  case post =>
    rintro c st' ⟨rfl,xs,rfl,hp,ho,hs'⟩
    exact wpS_pure (h xs hp ho hs')
  case init =>
    refine ⟨rfl,arrOf st,rfl,Array.Perm.refl _,Off.refl _ _ _,fun i j x y z => ?_⟩
    by_cases h1:ok=0
    · rw [show i=j by omega]; exact Int.le_refl _
    · exact hs i j x y (by omega)
  case fin =>
    rintro c st' ⟨rfl,xs,rfl,hp,ho,hs'⟩
    refine ⟨rfl,xs,rfl,hp,ho,?_⟩
    rwa [show min (max (max ok 1) n) n=n by omega] at hs'
  case step =>
    rintro k c st' hk hkn ⟨rfl,xs,rfl,hp,ho,hs'⟩
    rw [show min k n=k by omega] at hs'
    have hB':=hB.set hp
    refine wpS_bind (find_ok L hB' (by omega) hs' fun l hl h4 h5 => ?_)
    dsimp only
    rw [moveDown'_eq]
    refine wpS_bind (wpS_modify (wpS_pure ⟨rfl,bubble xs (lo + k) (lo + k - (lo + l)),rfl,(bubble_perm _ _ _).trans hp,?_,?_⟩))
    · have hks:lo + k < xs.size:=by rw [hp.size_eq,hB.size]; omega
      refine ho.trans fun t ht => ?_
      rw [getElem?_bubble hks _ (by omega),if_neg (by omega),if_neg (by omega)]
    · rw [show min (k + 1) n=k + 1 by omega]
      have hks:lo + k < xs.size:=by rw [hp.size_eq,hB.size]; omega
      exact bub_seg (Nat.le_add_right _ _) (by omega) hks hs' h4 h5

def wback (xs:Array Keyed) (p:Nat) (z:List Keyed):Array Keyed:=z.zipIdx.foldl (fun a q=>a.setIfInBounds (p + q.2) q.1) xs
theorem wback_at (p:Nat):∀ (z:List Keyed) (n:Nat) (xs:Array Keyed),p + n + z.length≤xs.size→∀ t:Nat,((z.zipIdx n).foldl (fun a q=>a.setIfInBounds (p + q.2) q.1) xs)[t]? = if p + n≤t∧t < p + n + z.length then z[t - (p + n)]? else xs[t]?
  | [],n,xs,_,t=>by
    rw [if_neg (by simp)]; rfl
  | x::z,n,xs,h,t=>by
    rw [List.zipIdx_cons,List.foldl_cons]
    have hl:(x::z).length=z.length + 1:=rfl
    rw [wback_at p z (n + 1) _ (by rw [Array.size_setIfInBounds]; omega) t]
    by_cases c:p + n≤t∧t < p + n + (x::z).length
    · rw [if_pos c]
      by_cases c2:t=p + n
      · rw [if_neg (by omega),c2]
        have:p + n < xs.size:=by omega
        simp [Array.getElem?_setIfInBounds,this]
      · rw [if_pos (by omega)]
        have e:t - (p + n)=t - (p + (n + 1)) + 1:=by omega
        rw [e,List.getElem?_cons_succ]
    · rw [if_neg c,if_neg (by omega),Array.getElem?_setIfInBounds]
      have:p + n≠t:=by omega
      simp [this]
theorem wback_get {xs:Array Keyed} {p:Nat} {z:List Keyed} (h:p + z.length≤xs.size) (t:Nat):(wback xs p z)[t]? = if p≤t∧t < p + z.length then z[t - p]? else xs[t]? := by
  have:=wback_at p z 0 xs (by omega) t
  simpa [wback] using this
theorem wback_list {xs:Array Keyed} {p:Nat} {z:List Keyed} (h:p + z.length≤xs.size):(wback xs p z).toList=xs.toList.take p++z++xs.toList.drop (p + z.length):=by
  refine List.ext_getElem? fun t => ?_
  rw [Array.getElem?_toList,wback_get h]
  have lt:(xs.toList.take p).length=p:=by simp; omega
  by_cases c1:t < p
  · rw [if_neg (by omega),List.append_assoc,List.getElem?_append_left (by rw [lt]; exact c1),List.getElem?_take_of_lt c1,Array.getElem?_toList]
  · by_cases c2:t < p + z.length
    · rw [if_pos ⟨by omega,c2⟩,List.getElem?_append_left (by rw [List.length_append,lt]; omega),List.getElem?_append_right (by rw [lt]; omega),lt]
    · rw [if_neg (by omega),List.getElem?_append_right (by rw [List.length_append,lt]; omega),List.length_append,lt,List.getElem?_drop,Array.getElem?_toList]
      congr 1
      omega
abbrev setPen (st:SortSt) (p:Array (Nat × Nat × Nat)):SortSt:=SortSt.mk' (kindOf st) (arrOf st) p (gallopOf st) (failedOf st)
theorem join_eq (i:Nat):mergeAt' i=(do
    let st ← get
    match (pendingOf st)[i]?,(pendingOf st)[i + 1]? with
    | some (sa,na,pw),some (sb,nb,_)=>do
      set (setPen st (((pendingOf st).setIfInBounds i (sa,na + nb,pw)).eraseIdxIfInBounds (i + 1)))
      let y ← elem' (arrOf st) sb
      let z ← gallopP false y (arrOf st) sa na 0
      match z with
      | some k =>
        if (na - k == 0)=true then pure true else do
          let x ← elem' (arrOf st) (sa + k + (na - k) - 1)
          let r ← gallopP true x (arrOf st) sb nb (nb - 1)
          match r with
          | some m =>
            if (m == 0)=true then pure true else do
              let t ← if na - k≤m then loP ((arrOf st).extract (sa + k) sb) ((arrOf st).extract sb (sb + m)) else hiP ((arrOf st).extract (sa + k) sb) ((arrOf st).extract sb (sb + m))
              modify fun st=>setArr st (wback (arrOf st) (sa + k) t.toList)
              let st ← get
              pure (failedOf st).isNone
          | _=>pure false
      | _=>pure false
    | _,_=>liftM (unsupported "internal:list.sort.pending" : Sem Bool)):=by
  kernel_rfl
end
end Tim

namespace Tim
open PySem PyProof.Rows
section
variable {prog:Program} {w:World} {A:Around} {E:Value→Shared→Prop} {s:Shared} {a₀:Array Keyed} {κ:SortKind} {key:Keyed→Int}
abbrev Tri:=Nat × Nat × Nat
theorem pend_at {p:Array Tri} {l1 l2:List Tri} {a b:Tri} (h:p.toList=l1++a::b::l2):p[l1.length]? = some a∧p[l1.length + 1]? = some b:=by
  rw [← Array.getElem?_toList,← Array.getElem?_toList,h]
  constructor
  · rw [List.getElem?_append_right (Nat.le_refl _)]; simp
  · rw [List.getElem?_append_right (by omega)]; simp
theorem pend_new {p:Array Tri} {l1 l2:List Tri} {a b c:Tri} (h:p.toList=l1++a::b::l2):((p.setIfInBounds l1.length c).eraseIdxIfInBounds (l1.length + 1)).toList=l1++c::l2:=by
  have hs:p.size=l1.length + (l2.length + 2):=by rw [← Array.length_toList,h]; simp
  rw [Array.eraseIdxIfInBounds,dif_pos (by rw [Array.size_setIfInBounds]; omega),Array.toList_eraseIdx,Array.toList_setIfInBounds,h]
  rw [List.set_append_right _ _ (Nat.le_refl _),Nat.sub_self,List.set_cons_zero,List.eraseIdx_append_of_length_le (by omega)]
  simp
theorem kat_ext {xs:Array Keyed} {a b i:Nat} (hb:b≤xs.size) (hi:a + i < b):kat key (xs.extract a b) i=kat key xs (a + i):=by
  apply kat_of
  rw [Array.getElem?_extract]
  simp
  omega
theorem ext_size {xs:Array Keyed} {a b:Nat} (hb:b≤xs.size):(xs.extract a b).size=b - a:=by
  rw [Array.size_extract]; omega
theorem ext_sub {xs:Array Keyed} {a b:Nat} {y:Keyed} (h:y∈(xs.extract a b).toList):y∈xs.toList:=by
  rw [ext_part] at h
  exact List.mem_of_mem_take (List.mem_of_mem_drop h)
theorem merged {xs z:Array Keyed} {lo p q r hi:Nat} (h1:lo≤p) (h2:p≤q) (h3:q≤r) (h4:r≤hi) (h5:hi≤xs.size) (R:Res key (xs.extract p q) (xs.extract q r) z) (s1:Seg key xs lo q) (s2:Seg key xs q hi)
    (lo1:∀ t,lo≤t→t < p→kat key xs t≤kat key xs q) (up2:∀ t,r≤t→t < hi→kat key xs (q - 1)≤kat key xs t):(wback xs p z.toList).Perm xs∧Off xs (wback xs p z.toList) lo hi∧Seg key (wback xs p z.toList) lo hi:=by
  obtain ⟨zp,zs⟩:=R
  have zl:z.toList.length=r - p:=by
    have e:=zp.length_eq
    simp only [List.length_append,Array.length_toList] at e ⊢
    rw [ext_size (by omega),ext_size (by omega)] at e
    omega
  have hfit:p + z.toList.length≤xs.size:=by omega
  have em:xs.toList=xs.toList.take p++((xs.extract p q).toList++(xs.extract q r).toList)++xs.toList.drop (p + z.toList.length):=by
    rw [ext_part,ext_part]
    have a1:(xs.toList.take q).drop p++(xs.toList.take r).drop q=(xs.toList.drop p).take z.toList.length:=by
      rw [List.drop_take,List.drop_take,show z.toList.length=(q - p) + (r - q) by omega,List.take_add,List.drop_drop,show p + (q - p)=q by omega]
    have a2:(xs.toList.drop p).take z.toList.length++xs.toList.drop (p + z.toList.length)=xs.toList.drop p:=by
      have:=List.take_append_drop z.toList.length (xs.toList.drop p)
      rwa [List.drop_drop] at this
    rw [a1,List.append_assoc,a2]
    exact (List.take_append_drop _ _).symm
  have zseg:Seg key z 0 z.size:=srt_seg.mp zs
  have old:∀ t,(t < p∨r≤t)→kat key (wback xs p z.toList) t=kat key xs t:=fun t ht=>kat_of (by rw [wback_get hfit,if_neg (by omega)])
  have kz:∀ t,p≤t→t < r→∃ x,x∈z.toList∧(wback xs p z.toList)[t]? = some x∧z[t - p]? = some x:=fun t t1 t2=>by
    have hlt:t - p < z.toList.length:=by omega
    refine ⟨z.toList[t - p],List.getElem_mem hlt,?_,?_⟩
    · rw [wback_get hfit,if_pos ⟨t1,by omega⟩]; exact List.getElem?_eq_getElem hlt
    · rw [← Array.getElem?_toList]; exact List.getElem?_eq_getElem hlt
  have from2:∀ x∈z.toList,∃ t,((p≤t∧t < q)∨(q≤t∧t < r))∧key x=kat key xs t:=fun x hx=>by
    rcases List.mem_append.mp (zp.mem_iff.mp hx) with hx | hx
    · rw [ext_part] at hx
      obtain ⟨t,t1,t2,t3,t4⟩:=of_part hx
      exact ⟨t,.inl ⟨t1,t2⟩,(kat_some t4).symm⟩
    · rw [ext_part] at hx
      obtain ⟨t,t1,t2,t3,t4⟩:=of_part hx
      exact ⟨t,.inr ⟨t1,t2⟩,(kat_some t4).symm⟩
  refine ⟨?_,fun t ht=>by rw [wback_get hfit,if_neg (by omega)],?_⟩
  · rw [Array.perm_iff_toList_perm,wback_list hfit]
    conv=>rhs; rw [em]
    exact List.Perm.append_right _ (List.Perm.append_left _ zp)
  have zz2:z.size=r - p:=by rw [← Array.length_toList]; exact zl
  clear em hfit zl
  intro i j x y zz
  by_cases i1:i < p
  · rw [old i (.inl i1)]
    by_cases j1:j < p
    · rw [old j (.inl j1)]; exact s1 i j x y (Nat.lt_of_lt_of_le j1 h2)
    · by_cases j2:j < r
      · obtain ⟨v,v1,v2,v3⟩:=kz j (Nat.le_of_not_lt j1) j2
        rw [kat_some v2]
        obtain ⟨t,ht,et⟩:=from2 v v1
        rw [et]
        rcases ht with ⟨t1,t2⟩ | ⟨t1,t2⟩
        · exact s1 i t x (Nat.le_trans (Nat.le_of_lt i1) t1) t2
        · exact Int.le_trans (lo1 i x i1) (s2 q t (Nat.le_refl _) t1 (Nat.lt_of_lt_of_le t2 h4))
      · rw [old j (.inr (Nat.le_of_not_lt j2))]
        exact Int.le_trans (lo1 i x i1) (s2 q j (Nat.le_refl _) (Nat.le_trans h3 (Nat.le_of_not_lt j2)) zz)
  · have i1':=Nat.le_of_not_lt i1
    by_cases i2:i < r
    · obtain ⟨u,u1,u2,u3⟩:=kz i i1' i2
      by_cases j2:j < r
      · obtain ⟨v,v1,v2,v3⟩:=kz j (Nat.le_trans i1' y) j2
        rw [kat_some u2,kat_some v2]
        have e:=zseg (i - p) (j - p) (Nat.zero_le _) (Nat.sub_le_sub_right y p) (by rw [zz2]; exact Nat.sub_lt_sub_right (Nat.le_trans i1' y) j2)
        rw [kat_some u3,kat_some v3] at e
        exact e
      · have j2':=Nat.le_of_not_lt j2
        rw [old j (.inr j2'),kat_some u2]
        obtain ⟨t,ht,et⟩:=from2 u u1
        rw [et]
        rcases ht with ⟨t1,t2⟩ | ⟨t1,t2⟩
        · exact Int.le_trans (s1 t (q - 1) (Nat.le_trans h1 t1) (Nat.le_sub_one_of_lt t2) (Nat.sub_one_lt (Nat.ne_of_gt (Nat.lt_of_le_of_lt (Nat.zero_le _) t2)))) (up2 j j2' zz)
        · exact s2 t j t1 (Nat.le_trans (Nat.le_of_lt t2) j2') zz
    · have i2':=Nat.le_of_not_lt i2
      rw [old i (.inr i2'),old j (.inr (Nat.le_trans i2' y))]
      exact s2 i j (Nat.le_trans h3 i2') y zz
theorem parts_pre {xs:Array Keyed} {lo p q r hi:Nat} (h1:lo≤p) (h2:p < q) (h3:q < r) (h4:r≤hi) (h5:hi≤xs.size) (all:∀ y∈xs.toList,y∈a₀.toList) (s1:Seg key xs lo q) (s2:Seg key xs q hi)
    (up1:kat key xs q < kat key xs p) (lo2:kat key xs (r - 1) < kat key xs (q - 1)):Pre a₀ key (xs.extract p q) (xs.extract q r):=by
  have zu:(xs.extract p q).size=q - p:=ext_size (by omega)
  have zv:(xs.extract q r).size=r - q:=ext_size (by omega)
  refine ⟨fun y hy=>all y (ext_sub hy),fun y hy=>all y (ext_sub hy),fun i j x y z => ?_,fun i j x y z => ?_,by omega,by omega,?_,?_⟩
  · rw [zu] at z
    rw [kat_ext (by omega) (by omega),kat_ext (by omega) (by omega)]
    exact s1 _ _ (by omega) (by omega) (by omega)
  · rw [zv] at z
    rw [kat_ext (by omega) (by omega),kat_ext (by omega) (by omega)]
    exact s2 _ _ (by omega) (by omega) (by omega)
  · rw [kat_ext (by omega) (by omega),kat_ext (by omega) (by omega)]
    exact up1
  · rw [zu,zv,kat_ext (by omega) (by omega),kat_ext (by omega) (by omega),show q + (r - q - 1)=r - 1 by omega,show p + (q - p - 1)=q - 1 by omega]
    exact lo2
theorem join_ok (L:LtOk prog w A E s a₀ κ key) {st:SortSt} {Q:Bool→SortSt→Prop} (hB:SB a₀ κ st) {l1 l2:List Tri} {sa na p sb nb q:Nat} (hp:(pendingOf st).toList=l1++(sa,na,p)::(sb,nb,q)::l2) (hsb:sb=sa + na) (h1:1≤na) (h2:1≤nb) (hz:sb + nb≤a₀.size)
    (s1:Seg key (arrOf st) sa sb) (s2:Seg key (arrOf st) sb (sb + nb))
    (h:∀ st',SB a₀ κ st'→(pendingOf st').toList=l1++(sa,na + nb,p)::l2→Seg key (arrOf st') sa (sb + nb)→Off (arrOf st) (arrOf st') sa (sb + nb)→Q true st'):wpS (model prog w) A E s (mergeAt' l1.length) Q st:=by
  rw [join_eq]
  refine wpS_bind (wpS_get ?_)
  obtain ⟨e1,e2⟩:=pend_at hp
  rw [e1,e2]
  dsimp only
  have hsz:=hB.size
  have mem:∀ {i:Nat} {x:Keyed},(arrOf st)[i]? = some x→x∈a₀.toList:=fun e=>hB.mem (at_mem e)
  have all:∀ y∈(arrOf st).toList,y∈a₀.toList:=fun y hy=>hB.mem hy
  refine wpS_bind ?_
  show wpS _ _ _ _ (set _) _ _
  have hset:∀ (t:SortSt) (R:PUnit→SortSt→Prop),R ⟨⟩ t→wpS (model prog w) A E s (set t:StateT SortSt Sem PUnit) R st:=fun t R hr=>by
    unfold wpS; rw [StateT.run_set]; exact wpAny_pure ⟨rfl,hr⟩
  refine hset _ _ ?_
  have pn:=pend_new (c:=(sa,na + nb,p)) hp
  generalize hP:((pendingOf st).setIfInBounds l1.length (sa,na + nb,p)).eraseIdxIfInBounds (l1.length + 1)=P at pn ⊢
  have f1:(arrOf st)[sb]? = some (arrOf st)[sb]:=Array.getElem?_eq_getElem (by omega)
  refine wpS_bind (el_ok f1 (wpS_bind (gallop_ok L (st:=setPen st P) hB.kind (mem f1) all (by omega) (by omega) (by rw [← hsb]; exact s1) fun k k1 k2 k3 => ?_)))
  dsimp only
  have lo1:∀ t,sa≤t→t < sa + k→kat key (arrOf st) t≤kat key (arrOf st) sb:=fun t t1 t2=>by
    have:=k2 (t - sa) (by omega)
    unfold isPast at this
    rw [if_neg (by decide),show sa + (t - sa)=t by omega,← kat_some (key:=key) f1] at this
    have:¬ kat key (arrOf st) sb < kat key (arrOf st) t:=by simpa using this
    omega
  have up1:∀ t,sa + k≤t→t < sb→kat key (arrOf st) sb < kat key (arrOf st) t:=fun t t1 t2=>by
    have:=k3 (t - sa) (by omega) (by omega)
    unfold isPast at this
    rw [if_neg (by decide),show sa + (t - sa)=t by omega,← kat_some (key:=key) f1] at this
    have:kat key (arrOf st) sb < kat key (arrOf st) t:=by simpa using this
    exact this
  have B1:SB a₀ κ (setPen st P):=⟨hB.perm,hB.kind,hB.ok⟩
  by_cases c1:na - k=0
  · rw [if_pos (by simpa using c1)]
    refine wpS_pure (h _ B1 pn (fun i j x y z => ?_) (Off.refl _ _ _))
    show kat key (arrOf st) i≤kat key (arrOf st) j
    by_cases a1:j < sb
    · exact s1 i j x y a1
    · by_cases a2:sb≤i
      · exact s2 i j a2 y z
      · have:=lo1 i x (by omega)
        have:=s2 sb j (Nat.le_refl _) (by omega) z
        omega
  · rw [if_neg (by simpa using c1)]
    have f2:(arrOf st)[sa + k + (na - k) - 1]? = some (arrOf st)[sb - 1]:=by
      rw [show sa + k + (na - k) - 1=sb - 1 by omega]; exact Array.getElem?_eq_getElem (by omega)
    have f3:(arrOf st)[sb - 1]? = some (arrOf st)[sb - 1]:=Array.getElem?_eq_getElem (by omega)
    refine wpS_bind (el_ok f2 (wpS_bind (gallop_ok L (st:=setPen st P) hB.kind (mem f2) all (by omega) (by omega) s2 fun m m1 m2 m3 => ?_)))
    dsimp only
    have lo2:∀ t,sb≤t→t < sb + m→kat key (arrOf st) t < kat key (arrOf st) (sb - 1):=fun t t1 t2=>by
      have:=m2 (t - sb) (by omega)
      unfold isPast at this
      rw [if_pos rfl,show sb + (t - sb)=t by omega,← kat_some (key:=key) f3] at this
      exact of_decide_eq_true this
    have up2:∀ t,sb + m≤t→t < sb + nb→kat key (arrOf st) (sb - 1)≤kat key (arrOf st) t:=fun t t1 t2=>by
      have:=m3 (t - sb) (by omega) (by omega)
      unfold isPast at this
      rw [if_pos rfl,show sb + (t - sb)=t by omega,← kat_some (key:=key) f3] at this
      have:=of_decide_eq_false this
      omega
    by_cases c2:m=0
    · rw [if_pos (by simpa using c2)]
      refine wpS_pure (h _ B1 pn (fun i j x y z => ?_) (Off.refl _ _ _))
      show kat key (arrOf st) i≤kat key (arrOf st) j
      by_cases a1:j < sb
      · exact s1 i j x y a1
      · by_cases a2:sb≤i
        · exact s2 i j a2 y z
        · have:=s1 i (sb - 1) x (by omega) (by omega)
          have:=up2 j (by omega) z
          omega
    · rw [if_neg (by simpa using c2)]
      have o1:sa≤sa + k:=Nat.le_add_right _ _
      have o2:sa + k < sb:=by omega
      have o3:sb < sb + m:=by omega
      have o4:sb + m≤sb + nb:=by omega
      have o5:sb + nb≤(arrOf st).size:=by omega
      have PR:Pre a₀ key ((arrOf st).extract (sa + k) sb) ((arrOf st).extract sb (sb + m)):=parts_pre o1 o2 o3 o4 o5 all s1 s2 (up1 _ (Nat.le_refl _) o2) (lo2 _ (Nat.le_sub_one_of_lt o3) (Nat.sub_one_lt (Nat.ne_of_gt (Nat.lt_of_le_of_lt (Nat.zero_le _) o3))))
      have fin:∀ (z:Array Keyed) (g':Nat),Res key ((arrOf st).extract (sa + k) sb) ((arrOf st).extract sb (sb + m)) z →
          wpS (model prog w) A E s (do
            modify fun st=>setArr st (wback (arrOf st) (sa + k) z.toList)
            let st ← get
            pure (failedOf st).isNone:StateT SortSt Sem Bool) Q (setGal (setPen st P) g'):=fun z g' hz=>by
        obtain ⟨hperm,hoff,hseg⟩:=merged o1 (Nat.le_of_lt o2) (Nat.le_of_lt o3) o4 o5 hz s1 s2 lo1 up2
        refine wpS_bind (wpS_modify (wpS_bind (wpS_get (wpS_pure ?_))))
        have okf:(failedOf (setArr (setGal (setPen st P) g') (wback (arrOf st) (sa + k) z.toList))).isNone=true:=by
          show (failedOf st).isNone=true
          rw [hB.ok]; rfl
        show Q (failedOf (setArr (setGal (setPen st P) g') (wback (arrOf st) (sa + k) z.toList))).isNone _
        rw [okf]
        exact h _ ⟨hperm.trans hB.perm,hB.kind,hB.ok⟩ pn hseg hoff
      split
      · exact wpS_bind (lo_ok L (st:=setPen st P) hB.kind PR fun z g' hz=>fin z g' hz)
      · exact wpS_bind (hi_ok L (st:=setPen st P) hB.kind PR fun z g' hz=>fin z g' hz)
end
end Tim

namespace Tim
open PySem PyProof.Rows
section
variable {prog:Program} {w:World} {A:Around} {E:Value→Shared→Prop} {s:Shared} {a₀:Array Keyed} {κ:SortKind} {key:Keyed→Int}
abbrev So:=Option Unit × Unit
def downL (size pw:Nat):StateT SortSt Sem So :=
  forIn [0:size] ((none,()):So) fun _ _=>do
    let st ← get
    match (if (pendingOf st).size > 1 then (pendingOf st)[(pendingOf st).size - 2]? else none) with
    | some (_,_,older)=>if older≤pw then pure (.done (none,())) else do
        let b ← mergeAt' ((pendingOf st).size - 2)
        if (!b)=true then pure (.done (some (),())) else pure (.yield (none,()))
    | _=>pure (.done (none,()))
def pushEnd (lo n:Nat):StateT SortSt Sem (ForInStep (Option Unit × Nat)):=do
  modify fun st=>setPen st ((pendingOf st).push (lo,n,0))
  pure (.yield (none,lo + n))
def pushRun (size lo n:Nat):StateT SortSt Sem (ForInStep (Option Unit × Nat)):=do
  let st ← get
  match (pendingOf st).back? with
  | some (s1,n1,_)=>do
    let q ← downL size (power' size (2 * s1 + n1) (2 * s1 + n1 + n1 + n) size)
    match q.1 with
    | some v=>pure (.done (some v,lo))
    | none=>do
      modify fun st=>setPen st ((pendingOf st).modify ((pendingOf st).size - 1) fun (a,b,_)=>(a,b,power' size (2 * s1 + n1) (2 * s1 + n1 + n1 + n) size))
      pushEnd lo n
  | _=>pushEnd lo n
def mainStep (size minrun:Nat) (r:Option Unit × Nat):StateT SortSt Sem (ForInStep (Option Unit × Nat)) :=
  if r.2 ≥ size then pure (.done (none,r.2)) else do
    let z ← countRun' r.2 (size - r.2)
    match z with
    | some found =>
      if found < minrun then do
        liftM (rule "list.sort.binary-insertion")
        let b ← binarySort' r.2 (min (size - r.2) minrun) found
        if (!b)=true then pure (.done (some (),r.2)) else pushRun size r.2 (min (size - r.2) minrun)
      else pushRun size r.2 found
    | _=>pure (.done (some (),r.2))
def lastAt (p:Array Tri):Nat:=if (if p.size - 2 > 0 then p[p.size - 2 - 1]?.map (·.2.1) else none).any (· < (p[p.size - 2 + 1]?.elim 0 (·.2.1))) then p.size - 2 - 1 else p.size - 2
def lastL (size:Nat):StateT SortSt Sem So :=
  forIn [0:size] ((none,()):So) fun _ _=>do
    let st ← get
    if (pendingOf st).size≤1 then pure (.done (none,())) else do
      let b ← mergeAt' (lastAt (pendingOf st))
      if (!b)=true then pure (.done (some (),())) else pure (.yield (none,()))
theorem runs_eq:sortRuns'=(do
    let st ← get
    let r ← forIn [0:(arrOf st).size] ((none,0):Option Unit × Nat) fun _ r=>mainStep (arrOf st).size (minRun' (arrOf st).size (arrOf st).size 0) r
    match r.1 with
    | some v=>pure v
    | none=>do
      let q ← lastL (arrOf st).size
      match q.1 with
      | some v=>pure v
      | none=>pure ()):=by kernel_rfl

def Tiles (key:Keyed→Int) (xs:Array Keyed):Nat→List Tri→Nat→Prop
  | a,[],e=>a=e
  | a,t::r,e=>t.1=a∧1≤t.2.1∧Seg key xs a (a + t.2.1)∧Tiles key xs (a + t.2.1) r e
theorem Tiles.le {xs:Array Keyed}:∀ {l:List Tri} {a e:Nat},Tiles key xs a l e→a + l.length≤e
  | [],a,e,h=>by have:a=e:=h; simp; omega
  | t::r,a,e,h=>by
    obtain ⟨_,h1,_,h2⟩:=h
    have:=Tiles.le h2
    simp; omega
theorem tiles_app {xs:Array Keyed} {l2:List Tri} {e:Nat}:∀ {l1:List Tri} {a:Nat},Tiles key xs a (l1++l2) e↔∃ m,Tiles key xs a l1 m∧Tiles key xs m l2 e
  | [],a=>⟨fun h=>⟨a,rfl,h⟩,fun ⟨m,h1,h2⟩=>by have:a=m:=h1; subst this; exact h2⟩
  | t::r,a=>by
    constructor
    · rintro ⟨h1,h2,h3,h4⟩
      obtain ⟨m,g1,g2⟩:=tiles_app.mp h4
      exact ⟨m,⟨h1,h2,h3,g1⟩,g2⟩
    · rintro ⟨m,⟨h1,h2,h3,g1⟩,g2⟩
      exact ⟨h1,h2,h3,tiles_app.mpr ⟨m,g1,g2⟩⟩
theorem Tiles.same {xs ys:Array Keyed}:∀ {l:List Tri} {a e:Nat},Tiles key xs a l e→(∀ t,a≤t→t < e→ys[t]? = xs[t]?)→Tiles key ys a l e
  | [],a,e,h,_=>h
  | t::r,a,e,h,g=>by
    obtain ⟨h1,h2,h3,h4⟩:=h
    have l4:=h4.le
    refine ⟨h1,h2,fun i j x y z => ?_,Tiles.same h4 fun t x y=>g t (by omega) y⟩
    rw [kat_of (g i x (by omega)),kat_of (g j (by omega) (by omega))]
    exact h3 i j x y z
theorem Tiles.alike {xs:Array Keyed}:∀ {l l':List Tri} {a e:Nat},Tiles key xs a l e→l'.map (fun t=>(t.1,t.2.1))=l.map (fun t=>(t.1,t.2.1))→Tiles key xs a l' e
  | [],[],_,_,h,_=>h
  | [],_::_,_,_,_,g=>by simp at g
  | _::_,[],_,_,_,g=>by simp at g
  | t::r,t'::r',a,e,h,g=>by
    obtain ⟨h1,h2,h3,h4⟩:=h
    rw [List.map_cons,List.map_cons,List.cons.injEq,Prod.mk.injEq] at g
    obtain ⟨⟨g1,g2⟩,g3⟩:=g
    exact ⟨by rw [g1]; exact h1,by rw [g2]; exact h2,by rw [g2]; exact h3,by rw [g2]; exact Tiles.alike h4 g3⟩
theorem split2 {α:Type} {l:List α} {i:Nat} (h:i + 1 < l.length):∃ l1 a b l2,l=l1++a::b::l2∧l1.length=i:=by
  refine ⟨l.take i,l[i],l[i + 1],l.drop (i + 2),?_,by rw [List.length_take]; omega⟩
  have e1:l.drop i=l[i]::l.drop (i + 1):=List.drop_eq_getElem_cons (by omega)
  have e2:l.drop (i + 1)=l[i + 1]::l.drop (i + 2):=List.drop_eq_getElem_cons h
  rw [← e2,← e1,List.take_append_drop]
theorem joinT (L:LtOk prog w A E s a₀ κ key) {st:SortSt} {Q:Bool→SortSt→Prop} {i e:Nat} (hB:SB a₀ κ st) (T:Tiles key (arrOf st) 0 (pendingOf st).toList e) (he:e≤a₀.size) (hi:i + 1 < (pendingOf st).size)
    (h:∀ st',SB a₀ κ st'→Tiles key (arrOf st') 0 (pendingOf st').toList e→(pendingOf st').size + 1=(pendingOf st).size→Off (arrOf st) (arrOf st') 0 e→Q true st'):wpS (model prog w) A E s (mergeAt' i) Q st:=by
  obtain ⟨l1,⟨sa,na,p⟩,⟨sb,nb,q⟩,l2,hl,rfl⟩:=split2 (l:=(pendingOf st).toList) (i:=i) (by simpa using hi)
  have T':=T
  rw [hl] at T'
  obtain ⟨m,T1,⟨a1,a2,a3,b1,b2,b3,T2⟩⟩:=tiles_app.mp T'
  have l2e:=T2.le
  have l1e:=T1.le
  dsimp only at a1 a2 a3 b1 b2 b3 T2 l2e
  subst a1
  subst b1
  refine join_ok L hB hl rfl a2 b2 (by omega) a3 b3 fun st' B' P' S' O' => ?_
  have sz:(pendingOf st').size + 1=(pendingOf st).size:=by
    rw [← Array.length_toList,← Array.length_toList,P',hl]; simp; omega
  refine h st' B' ?_ sz fun t ht=>O' t (by omega)
  rw [P']
  refine tiles_app.mpr ⟨sa,T1.same fun t x y=>O' t (.inl y),rfl,by dsimp only; omega,?_,?_⟩
  · dsimp only; rw [← Nat.add_assoc]; exact S'
  · dsimp only
    rw [← Nat.add_assoc]
    exact T2.same fun t x y=>O' t (.inr x)
theorem down_ok (L:LtOk prog w A E s a₀ κ key) {st:SortSt} {Q:So→SortSt→Prop} {pw e size:Nat} (hB:SB a₀ κ st) (T:Tiles key (arrOf st) 0 (pendingOf st).toList e) (he:e≤a₀.size) (hp:1≤(pendingOf st).size)
    (h:∀ st',SB a₀ κ st'→Tiles key (arrOf st') 0 (pendingOf st').toList e→1≤(pendingOf st').size→Off (arrOf st) (arrOf st') 0 e→Q (none,()) st'):wpS (model prog w) A E s (downL size pw) Q st:=by
  unfold downL
  refine wpS_forRange (I:=fun _ c st'=>c=(none,())∧SB a₀ κ st'∧Tiles key (arrOf st') 0 (pendingOf st').toList e∧1≤(pendingOf st').size∧Off (arrOf st) (arrOf st') 0 e) ?step ?fin ⟨rfl,hB,T,hp,Off.refl _ _ _⟩
  case fin =>
    rintro c st' ⟨rfl,B',T',P',O'⟩
    exact h st' B' T' P' O'
  case step =>
    rintro t c st' _ _ ⟨rfl,B',T',P',O'⟩
    refine wpS_bind (wpS_get ?_)
    by_cases g:(pendingOf st').size > 1
    · rw [if_pos g,Array.getElem?_eq_getElem (show (pendingOf st').size - 2 < (pendingOf st').size by omega)]
      dsimp only
      split
      · exact wpS_pure (h st' B' T' P' O')
      · refine wpS_bind (joinT L B' T' he (by omega) fun st2 B2 T2 P2 O2 => ?_)
        rw [if_neg (by decide)]
        exact wpS_pure ⟨rfl,B2,T2,by omega,O'.trans O2⟩
    · rw [if_neg g]
      exact wpS_pure (h st' B' T' P' O')
theorem pushEnd_ok {st:SortSt} {Q:ForInStep (Option Unit × Nat)→SortSt→Prop} {lo n:Nat} (hB:SB a₀ κ st) (T:Tiles key (arrOf st) 0 (pendingOf st).toList lo) (h1:1≤n) (hs:Seg key (arrOf st) lo (lo + n))
    (h:∀ st',SB a₀ κ st'→Tiles key (arrOf st') 0 (pendingOf st').toList (lo + n)→Q (.yield (none,lo + n)) st'):wpS (model prog w) A E s (pushEnd lo n) Q st:=by
  unfold pushEnd
  refine wpS_bind (wpS_modify (wpS_pure (h _ ⟨hB.perm,hB.kind,hB.ok⟩ ?_)))
  show Tiles key (arrOf st) 0 ((pendingOf st).push (lo,n,0)).toList (lo + n)
  rw [Array.toList_push]
  exact tiles_app.mpr ⟨lo,T,rfl,h1,hs,rfl⟩
theorem pushRun_ok (L:LtOk prog w A E s a₀ κ key) {st:SortSt} {Q:ForInStep (Option Unit × Nat)→SortSt→Prop} {lo n size:Nat} (hB:SB a₀ κ st) (T:Tiles key (arrOf st) 0 (pendingOf st).toList lo) (hz:lo + n≤a₀.size) (h1:1≤n) (hs:Seg key (arrOf st) lo (lo + n))
    (h:∀ st',SB a₀ κ st'→Tiles key (arrOf st') 0 (pendingOf st').toList (lo + n)→Q (.yield (none,lo + n)) st'):wpS (model prog w) A E s (pushRun size lo n) Q st:=by
  unfold pushRun
  refine wpS_bind (wpS_get ?_)
  cases hb:(pendingOf st).back? with
  | none=>exact pushEnd_ok hB T h1 hs h
  | some t =>
    obtain ⟨s1,n1,p1⟩:=t
    dsimp only
    have ne:1≤(pendingOf st).size:=by
      rcases Nat.eq_zero_or_pos (pendingOf st).size with e | e
      · have:pendingOf st = #[]:=Array.eq_empty_of_size_eq_zero e
        rw [this] at hb; cases hb
      · exact e
    refine wpS_bind (down_ok L hB T (by omega) ne fun st' B' T' P' O' => ?_)
    dsimp only
    refine wpS_bind (wpS_modify ?_)
    refine pushEnd_ok (key:=key) (a₀:=a₀) (κ:=κ) ⟨B'.perm,B'.kind,B'.ok⟩ ?_ h1 (fun i j x y z => ?_) h
    · show Tiles key (arrOf st') 0 ((pendingOf st').modify ((pendingOf st').size - 1) _).toList lo
      refine T'.alike ?_
      rw [Array.toList_modify]
      refine List.ext_getElem? fun k => ?_
      rw [List.getElem?_map,List.getElem?_map,List.getElem?_modify]
      split
      · cases (pendingOf st').toList[k]? <;> rfl
      · cases (pendingOf st').toList[k]? <;> rfl
    · show kat key (arrOf st') i≤kat key (arrOf st') j
      rw [kat_of (O' i (.inr x)),kat_of (O' j (.inr (by omega)))]
      exact hs i j x y z
theorem main_ok (L:LtOk prog w A E s a₀ κ key) {st:SortSt} {Q:ForInStep (Option Unit × Nat)→SortSt→Prop} {lo minrun:Nat} (hB:SB a₀ κ st) (T:Tiles key (arrOf st) 0 (pendingOf st).toList lo) (hlo:lo≤a₀.size)
    (hd:a₀.size≤lo→Q (.done (none,lo)) st) (h:∀ st' lo',lo < lo'→lo'≤a₀.size→SB a₀ κ st'→Tiles key (arrOf st') 0 (pendingOf st').toList lo'→Q (.yield (none,lo')) st'):wpS (model prog w) A E s (mainStep a₀.size minrun (none,lo)) Q st:=by
  unfold mainStep
  dsimp only
  by_cases e:lo ≥ a₀.size
  · rw [if_pos e]
    exact wpS_pure (hd e)
  · rw [if_neg e]
    refine wpS_bind (run_ok L hB (by omega) (by omega) fun k xs k1 k2 hp ho hs => ?_)
    dsimp only
    have T1:Tiles key xs 0 (pendingOf st).toList lo:=T.same fun t x y=>ho t (.inl y)
    by_cases c:k < minrun
    · rw [if_pos c]
      refine wpS_bind (wpS_lift (wpAny_rule ⟨rfl,?_⟩))
      refine wpS_bind (ins_ok L (st:=setArr st xs) (hB.set hp) (by omega) (by omega) hs fun ys yp yo ys' => ?_)
      rw [if_neg (by decide)]
      refine pushRun_ok L (st:=setArr st ys) (hB.set (yp.trans hp)) ?_ (by omega) (by omega) ys' fun st' B' T'=>h st' _ (by omega) (by omega) B' T'
      exact T1.same fun t x y=>yo t (.inl y)
    · rw [if_neg c]
      exact pushRun_ok L (st:=setArr st xs) (hB.set hp) T1 (by omega) k1 hs fun st' B' T'=>h st' _ (by omega) (by omega) B' T'
theorem lastAt_lt {p:Array Tri} (h:1 < p.size):lastAt p + 1 < p.size:=by
  unfold lastAt
  by_cases g:p.size - 2 > 0
  · have e:∀ (c:Bool),(if c=true then p.size - 2 - 1 else p.size - 2) + 1 < p.size:=fun c=>by cases c <;> simp <;> omega
    exact e _
  · rw [if_neg (show ¬ ((if p.size - 2 > 0 then p[p.size - 2 - 1]?.map (·.2.1) else none).any (· < (p[p.size - 2 + 1]?.elim 0 (·.2.1))))=true by rw [if_neg g]; simp)]
    omega
theorem last_ok (L:LtOk prog w A E s a₀ κ key) {st:SortSt} {Q:So→SortSt→Prop} (hB:SB a₀ κ st) (T:Tiles key (arrOf st) 0 (pendingOf st).toList a₀.size)
    (h:∀ st',SB a₀ κ st'→Seg key (arrOf st') 0 a₀.size→Q (none,()) st'):wpS (model prog w) A E s (lastL a₀.size) Q st:=by
  unfold lastL
  have fin:∀ st',SB a₀ κ st'→Tiles key (arrOf st') 0 (pendingOf st').toList a₀.size→(pendingOf st').size≤1→Q (none,()) st':=fun st' B' T' h1=>by
    refine h st' B' fun i j x y z => ?_
    cases hl:(pendingOf st').toList with
    | nil =>
      rw [hl] at T'
      have:0=a₀.size:=T'
      omega
    | cons t r =>
      have hr:r=[]:=by
        have:=congrArg List.length hl
        rw [Array.length_toList,List.length_cons] at this
        exact List.length_eq_zero_iff.mp (by omega)
      rw [hl,hr] at T'
      obtain ⟨h2,h3,h4,h5⟩:=T'
      have h5':0 + t.2.1=a₀.size:=h5
      exact h4 i j x y (by omega)
  refine wpS_forRange (I:=fun t c st'=>c=(none,())∧SB a₀ κ st'∧Tiles key (arrOf st') 0 (pendingOf st').toList a₀.size∧((pendingOf st').size≤1∨(pendingOf st').size + t≤a₀.size)) ?step ?fin ⟨rfl,hB,T,.inr (by have:=T.le; rw [Array.length_toList] at this; omega)⟩
  case fin =>
    rintro c st' ⟨rfl,B',T',P'⟩
    exact fin st' B' T' (by omega)
  case step =>
    rintro t c st' _ _ ⟨rfl,B',T',P'⟩
    refine wpS_bind (wpS_get ?_)
    by_cases g:(pendingOf st').size≤1
    · rw [if_pos g]
      exact wpS_pure (fin st' B' T' g)
    · rw [if_neg g]
      refine wpS_bind (joinT L B' T' (Nat.le_refl _) (lastAt_lt (by omega)) fun st2 B2 T2 P2 O2 => ?_)
      rw [if_neg (by decide)]
      exact wpS_pure ⟨rfl,B2,T2,by omega⟩

theorem runs_ok (L:LtOk prog w A E s a₀ κ key) {st:SortSt} {Q:Unit→SortSt→Prop} (hB:SB a₀ κ st) (hp:pendingOf st = #[])
    (h:∀ st',SB a₀ κ st'→Seg key (arrOf st') 0 a₀.size→Q () st'):wpS (model prog w) A E s sortRuns' Q st:=by
  rw [runs_eq]
  refine wpS_bind (wpS_get ?_)
  rw [hB.size]
  refine wpS_bind (wpS_mono (wpS_forRange (I:=fun t c st'=>∃ lo,c=(none,lo)∧t≤lo∧lo≤a₀.size∧SB a₀ κ st'∧Tiles key (arrOf st') 0 (pendingOf st').toList lo)
    (Q:=fun c st'=>c=(none,a₀.size)∧SB a₀ κ st'∧Tiles key (arrOf st') 0 (pendingOf st').toList a₀.size) ?step ?fin ⟨0,rfl,Nat.le_refl _,Nat.zero_le _,hB,by rw [hp]; rfl⟩) ?post)
  case fin =>
    rintro c st' ⟨lo,rfl,h1,h2,B',T'⟩
    have e:lo=a₀.size:=by omega
    subst e
    exact ⟨rfl,B',T'⟩
  case step =>
    rintro t c st' _ _ ⟨lo,rfl,h1,h2,B',T'⟩
    refine main_ok L B' T' h2 (fun e => ?_) fun st2 lo2 g1 g2 B2 T2=>⟨lo2,rfl,by omega,g2,B2,T2⟩
    have e':lo=a₀.size:=by omega
    subst e'
    exact ⟨rfl,B',T'⟩
  case post =>
    rintro c st' ⟨rfl,B',T'⟩
    dsimp only
    exact wpS_bind (last_ok L B' T' fun st2 B2 S2=>wpS_pure (h st2 B2 S2))
end
end Tim

namespace L2
open PySem PySem.Spec PySem.Calls PyProof.Rows PySem.W

structure Lin {α:Type} (lt:α→α→Bool):Prop where
  irr:∀ x,lt x x=false
  tr:∀ x y z,lt x y=true→lt y z=true→lt x z=true
  tot:∀ x y,lt x y=false→lt y x=false→x=y
theorem countP_less {α:Type} {p q:α→Bool} {a:α}:∀ {l:List α},(∀ x∈l,p x=true→q x=true)→a∈l→p a=false→q a=true→l.countP p < l.countP q
  | [],_,h,_,_=>by simp at h
  | x::l,hm,ha,hp,hq=>by
    have m:l.countP p≤l.countP q:=List.countP_mono_left fun y hy=>hm y (by simp [hy])
    rw [List.countP_cons,List.countP_cons]
    rcases List.mem_cons.mp ha with rfl | ha
    · rw [hp,hq]
      simp
      omega
    · have:=countP_less (fun y hy=>hm y (by simp [hy])) ha hp hq
      have hx:=hm x (by simp)
      cases e:p x with
      | true=>rw [hx e]; simp; omega
      | false=>simp; split <;> omega
def rnk {α:Type} (lt:α→α→Bool) (ks:List α) (x:α):Int:=((ks.countP fun k=>lt k x:Nat):Int)
theorem rnk_lt {α:Type} {lt:α→α→Bool} (L:Lin lt) {ks:List α} {x y:α} (hx:x∈ks) (hy:y∈ks):decide (rnk lt ks x < rnk lt ks y)=lt x y:=by
  unfold rnk
  cases e:lt x y with
  | true =>
    have:=countP_less (l:=ks) (p:=fun k=>lt k x) (q:=fun k=>lt k y) (fun k _ h=>L.tr _ _ _ h e) hx (L.irr x) e
    simp
    exact this
  | false =>
    cases e2:lt y x with
    | true =>
      have:=countP_less (l:=ks) (p:=fun k=>lt k y) (q:=fun k=>lt k x) (fun k _ h=>L.tr _ _ _ h e2) hy (L.irr y) e2
      simp
      omega
    | false =>
      have:=L.tot _ _ e e2
      subst this
      simp
section
variable {prog:Program} {w:World} {A:Around} {E:Value→Shared→Prop} {s:Shared} {α:Type} {lt:α→α→Bool} {kf:Value→α}
structure SrtA (prog:Program) (w:World) (vs:List Value) {α:Type} (kf:Value→α) (lt:α→α→Bool) (κ:SortKind) (s:Shared):Prop where
  kind:∀ (A:Around),2≤vs.length→∀ Q:SortKind→Shared→Prop,Q κ s→wpAny (model prog w) A (keyKind' vs.toArray) Q (fun _ _=>False) s
  less:∀ (A:Around) (x y:Value) (C:Bool→Shared→Prop),x∈vs→y∈vs→C (lt (kf x) (kf y)) s→wpAny (model prog w) A (keyLt' κ x y) C (fun _ _=>False) s
theorem zip_self {vs:List Value} {p:Keyed} (h:p∈(vs.toArray.zip vs.toArray).toList):p.1=p.2∧p.2∈vs:=by
  rw [Array.toList_zip] at h
  obtain ⟨i,hi⟩:=List.mem_iff_getElem?.mp h
  rw [List.getElem?_zip_eq_some] at hi
  have e:=hi.1.symm.trans hi.2
  exact ⟨Option.some.inj e,List.mem_iff_getElem?.mpr ⟨i,hi.2⟩⟩
theorem zip_snd (vs:List Value):(vs.toArray.zip vs.toArray).toList.map (·.2)=vs:=by
  rw [Array.toList_zip]
  exact List.map_snd_zip (Nat.le_refl _)
theorem list_sort_all {a:Addr} {vs:List Value} {n:Nat} {κ:SortKind} {P:PySem.Fin→Shared→Prop} (L:Lin lt) (ho:s.heap.get? a=some (seqObj "list" vs.toArray n)) (sz:vs.length≤sizeLine)
    (hs:∀ h',(∀ b o,b≠a→s.heap.get? b=some o→h'.get? b=some o)→SrtA prog w vs kf lt κ { s with heap:=h' })
    (h:∀ out:List Value,out.Perm vs→out.Pairwise (fun x y=>lt (kf y) (kf x)=false)→P (.done (.ret .none)) { s with heap:=sortedHeap s.heap a vs out.toArray }) :
    wpAny (model prog w) A (Builtin.«list.sort» ⟨[.ref a],[]⟩) P E s:=by
  have ha:a < s.heap.objs.size:=Heap.lt_size ho
  rw [list_sort_plain]
  refine wpAny_bind (listItems_at ho rfl ?_)
  refine wpAny_bind (listUpdate_at ho rfl ?_ (by rw [List.size_toArray]; exact sz) (Nat.zero_le _))
  obtain ⟨e1,ho1⟩:∃ e1,(s.heap.update a (Obj.mapSeq fun _=>(#[]:Array Value))).get? a=some (seqObj "list" #[] e1):=⟨_,get?_update_seq ho fun _ => #[]⟩
  refine wpAny_bind (seqEpoch_at ho1 rfl ?_)
  refine wpAny_bind (wpAny_newTuple ?_ (by show vs.length≤_; exact sz))
  refine wpAny_bind (wpAny_newList ?_ (Nat.zero_le _))
  refine wpAny_holding ?_
  show wpAny (model prog w) A _ P E { s with heap:=((s.heap.update a (Obj.mapSeq fun _=>(#[]:Array Value))).push (seqObj "tuple" vs.toArray 0)).push (seqObj "list" #[] 0) }
  dsimp only
  have ho6:(((s.heap.update a (Obj.mapSeq fun _=>(#[]:Array Value))).push (seqObj "tuple" vs.toArray 0)).push (seqObj "list" #[] 0)).get? a=some (seqObj "list" #[] e1):=Heap.get?_push_of_some _ (Heap.get?_push_of_some _ ho1)
  have kp:∀ b o,b≠a→s.heap.get? b=some o→(((s.heap.update a (Obj.mapSeq fun _=>(#[]:Array Value))).push (seqObj "tuple" vs.toArray 0)).push (seqObj "list" #[] 0)).get? b=some o:=fun b o hb e =>
    Heap.get?_push_of_some _ (Heap.get?_push_of_some _ ((Heap.get?_update_other _ _ (Ne.symm hb)).trans e))
  have S:=hs _ kp
  by_cases h2:vs.toArray.size < 2
  · rw [if_pos h2,if_pos h2]
    refine wpAny_bind (wpAny_pure ?_)
    rw [StateT.run_pure]
    refine wpAny_bind (wpAny_pure ?_)
    dsimp only
    refine wpAny_bind (seqEpoch_at ho6 rfl ?_)
    have ez:(vs.toArray.zip vs.toArray).map (·.2)=vs.toArray:=by
      apply Array.toList_inj.mp
      rw [Array.toList_map,zip_snd]
    refine wpAny_bind (listUpdate_at ho6 rfl ?_ (hsz2:=by rw [Array.size_map,Array.size_zip]; simp; omega))
    simp only [bne_self_eq_false,Bool.false_eq_true,if_false]
    refine wpAny_pure ?_
    have:=h vs (List.Perm.refl _) (by
      rw [List.size_toArray] at h2
      match vs,h2 with
      | [],_=>exact List.Pairwise.nil
      | [x],_=>exact List.pairwise_singleton _ _
      | _::_::_,h2=>exact absurd h2 (by simp))
    show P _ { s with heap:=Heap.update _ a (Obj.mapSeq fun _=>(vs.toArray.zip vs.toArray).map (·.2)) }
    rw [ez]
    exact this
  · rw [if_neg h2,if_neg h2]
    have h2':2≤vs.length:=by rw [List.size_toArray] at h2; omega
    refine wpAny_bind (wpAny_mono (S.kind A h2' (fun κ' s'=>κ'=κ∧s'=_) ⟨rfl,rfl⟩) (fun κ' s' hk => ?_) fun _ _ x=>x.elim)
    obtain ⟨rfl,rfl⟩:=hk
    have LO:Tim.LtOk prog w A E { s with heap:=((s.heap.update a (Obj.mapSeq fun _=>(#[]:Array Value))).push (seqObj "tuple" vs.toArray 0)).push (seqObj "list" #[] 0) } (vs.toArray.zip vs.toArray) κ' (fun p=>rnk lt (vs.map kf) (kf p.2)):=fun x y C hx hy hC=>by
      obtain ⟨x1,x2⟩:=zip_self hx
      obtain ⟨y1,y2⟩:=zip_self hy
      rw [x1,y1]
      refine S.less A x.2 y.2 C x2 y2 ?_
      rw [← rnk_lt L (List.mem_map_of_mem x2) (List.mem_map_of_mem y2)]
      exact hC
    refine wpAny_bind (wpAny_mono (Tim.runs_ok LO (st:=SortSt.mk' κ' (vs.toArray.zip vs.toArray) #[] 7 none) (Q:=fun _ st'=>Tim.SB (vs.toArray.zip vs.toArray) κ' st'∧Tim.Seg (fun p=>rnk lt (vs.map kf) (kf p.2)) (arrOf st') 0 (vs.toArray.zip vs.toArray).size) ⟨Array.Perm.refl _,rfl,rfl⟩ rfl fun st' B S'=>⟨B,S'⟩) ?_ fun _ _ e=>e)
    rintro ⟨⟨⟩,st'⟩ s' ⟨rfl,B,S'⟩
    dsimp only at B S' ⊢
    refine wpAny_bind (seqEpoch_at ho6 rfl ?_)
    have hp:((arrOf st').toList.map (·.2)).Perm vs:=by
      have:=(Array.perm_iff_toList_perm.mp B.perm).map (·.2)
      rw [zip_snd] at this
      exact this
    have hout:(arrOf st').map (·.2)=((arrOf st').toList.map (·.2)).toArray:=by
      apply Array.toList_inj.mp
      rw [Array.toList_map]
    rw [hout]
    refine wpAny_bind (listUpdate_at ho6 rfl ?_ (Nat.zero_le _) (by rw [List.size_toArray,hp.length_eq]; omega))
    rw [B.ok]
    simp only [bne_self_eq_false,Bool.false_eq_true,if_false]
    refine wpAny_pure (h _ hp ?_)
    rw [List.pairwise_map,List.pairwise_iff_getElem]
    intro i j hi hj hij
    rw [Array.length_toList] at hi hj
    have q:=S' i j (Nat.zero_le _) (Nat.le_of_lt hij) (by rw [← B.size]; exact hj)
    rw [Tim.kat_some (Array.getElem?_eq_getElem hi),Tim.kat_some (Array.getElem?_eq_getElem hj)] at q
    have m1:(arrOf st')[i].2∈vs:=hp.mem_iff.mp (List.mem_map_of_mem (by simp))
    have m2:(arrOf st')[j].2∈vs:=hp.mem_iff.mp (List.mem_map_of_mem (by simp))
    have:=rnk_lt L (ks:=vs.map kf) (List.mem_map_of_mem m2) (List.mem_map_of_mem m1)
    show lt (kf (arrOf st')[j].2) (kf (arrOf st')[i].2)=false
    rw [← this]
    exact decide_eq_false (by omega)
theorem sorted_all {r:Addr} {Q:Value→Shared→Prop} (L:Lin lt) (hcol:wpAny (model prog w) A.in1 (collect (.ref r)) (fun vs s1=>vs.length≤sizeLine∧∃ (κ:SortKind),(∀ h',(∀ b o,s1.heap.get? b=some o→h'.get? b=some o)→SrtA prog w vs kf lt κ { s1 with heap:=h' }) ∧
      ∀ out:List Value,out.Perm vs→out.Pairwise (fun x y=>lt (kf y) (kf x)=false)→Q (.ref s1.heap.objs.size) { s1 with heap:=sortedHeap (s1.heap.push (seqObj "list" vs.toArray 0)) s1.heap.objs.size vs out.toArray }) E s) :
    wpAny (model prog w) A (call (.builtin "sorted") [.ref r]) Q E s:=by
  refine Calls.call_function_entry kind_sorted plain_sorted entry_sorted (args_sorted1 _) ?_
  unfold Builtin.«sorted»
  refine wpAny_bind (m:=checkCount "sorted" 1 1 _) (wpAny_pure ?_)
  refine wpAny_bind (wpAny_mono hcol (fun vs s1 ⟨sz,κ,hS,hq⟩ => ?_) fun _ _ e=>e)
  refine wpAny_bind (wpAny_newList ?_ sz)
  have hoL:(s1.heap.push (seqObj "list" vs.toArray 0)).get? s1.heap.objs.size=some (seqObj "list" vs.toArray 0):=Heap.get?_push_size _ rfl
  show wpAny _ _ _ _ _ { s1 with heap:=s1.heap.push (seqObj "list" vs.toArray 0) }
  refine wpAny_bind (wpAny_holding (wpAny_call_entry slot_list_sort ⟨_,hoL,rfl⟩ entry_list_sort (list_sort_all (kf:=kf) (κ:=κ) L hoL sz (fun h' kp=>hS h' fun b o e => ?_) fun out o u=>⟨_,rfl,?_⟩) (args_list_sort _)))
  · exact kp b o (Nat.ne_of_lt (Heap.lt_size e)) (Heap.get?_push_of_some _ e)
  · exact wpAny_pure ⟨_,rfl,hq out o u⟩
end

theorem lin_txt:Lin (fun (a b:List Nat)=>decide (a < b)):=by
  refine ⟨fun a=>by simpa using List.lt_irrefl a,fun a b c h1 h2 => ?_,fun a b h1 h2 => ?_⟩
  · simp only [decide_eq_true_eq] at *
    exact List.lt_trans h1 h2
  · simp only [decide_eq_false_iff_not] at *
    exact List.le_antisymm (List.not_lt.mp h2) (List.not_lt.mp h1)
theorem lin_int:Lin (fun (a b:Int)=>decide (a < b)):=by
  refine ⟨fun a=>by simp,fun a b c h1 h2 => ?_,fun a b h1 h2 => ?_⟩
  · simp only [decide_eq_true_eq] at *
    omega
  · simp only [decide_eq_false_iff_not] at *
    omega
def lexB {α β:Type} [DecidableEq α] (l:α→α→Bool) (m:β→β→Bool) (x y:α × β):Bool:=if x.1=y.1 then m x.2 y.2 else l x.1 y.1
theorem lin_lex {α β:Type} [DecidableEq α] {l:α→α→Bool} {m:β→β→Bool} (hl:Lin l) (hm:Lin m):Lin (lexB l m):=by
  refine ⟨fun x=>by unfold lexB; rw [if_pos rfl]; exact hm.irr _,fun x y z h1 h2 => ?_,fun x y h1 h2 => ?_⟩
  · unfold lexB at h1 h2 ⊢
    by_cases e1:x.1=y.1
    · rw [if_pos e1] at h1
      by_cases e2:y.1=z.1
      · rw [if_pos e2] at h2
        rw [if_pos (e1.trans e2)]
        exact hm.tr _ _ _ h1 h2
      · rw [if_neg e2] at h2
        rw [e1,if_neg e2]
        exact h2
    · rw [if_neg e1] at h1
      by_cases e2:y.1=z.1
      · rw [← e2,if_neg e1]
        exact h1
      · rw [if_neg e2] at h2
        have h3:=hl.tr _ _ _ h1 h2
        by_cases e3:x.1=z.1
        · rw [e3,hl.irr] at h3
          cases h3
        · rw [if_neg e3]
          exact h3
  · unfold lexB at h1 h2
    by_cases e1:x.1=y.1
    · rw [if_pos e1] at h1
      rw [if_pos e1.symm] at h2
      exact Prod.ext e1 (hm.tot _ _ h1 h2)
    · rw [if_neg e1] at h1
      rw [if_neg (Ne.symm e1)] at h2
      exact absurd (hl.tot _ _ h1 h2) e1
def adrOf:Value→Addr
  | .ref a=>a
  | _=>0
section
variable {prog:Program} {w:World} {s:Shared}
end
section
variable {X:Cx}
theorem Inv.sortd {pins:List (Addr × Obj)} {σ:St} {H:Hp} {s:Shared} {a:Addr} {its out:List Value} {us:List V} (I:Inv X pins σ H s) (hz:us.length≤sizeLine) (ho:Vals us out) :
    ∃ S,H S=none∧Inv X pins σ (upd H S (.lst us)) { s with heap:=sortedHeap (((s.heap.push (seqObj "list" #[] 0)).update s.heap.objs.size (Obj.mapSeq (· ++ its.toArray))).push (seqObj "list" its.toArray 0)) ((s.heap.push (seqObj "list" #[] 0)).update s.heap.objs.size (Obj.mapSeq (· ++ its.toArray))).objs.size its out.toArray } ∧
      S=((s.heap.push (seqObj "list" #[] 0)).update s.heap.objs.size (Obj.mapSeq (· ++ its.toArray))).objs.size:=by
  have kp:∀ b o,s.heap.get? b=some o→((s.heap.push (seqObj "list" #[] 0)).update s.heap.objs.size (Obj.mapSeq (· ++ its.toArray))).get? b=some o:=fun b o e =>
    (Heap.get?_update_other _ _ (Ne.symm (Nat.ne_of_lt (Heap.lt_size e)))).trans (Heap.get?_push_of_some _ e)
  have I1:Inv X pins σ H { s with heap:=(s.heap.push (seqObj "list" #[] 0)).update s.heap.objs.size (Obj.mapSeq (· ++ its.toArray)) }:=I.kept (t':=s.toks) kp
  obtain ⟨n2,hS⟩:=sortedHeap_is (h:=(s.heap.push (seqObj "list" #[] 0)).update s.heap.objs.size (Obj.mapSeq (· ++ its.toArray))) (vs:=its) (out:=out.toArray)
  refine ⟨_,I1.hok.fresh (Nat.le_refl _),I1.laid (t':=s.toks) (fun b o e=>sortedHeap_keep e) (Nat.le_refl _) ⟨hz,out,n2,ho,hS⟩,rfl⟩
end
end L2

namespace L2
open PySem PySem.Spec PySem.Calls PyProof.Rows PySem.W


abbrev Pky:Type:=List Nat × Int × List Nat
def pkV (x:Str):V→Pky
  | .int i=>(x.cps.toList,i,[])
  | .str y=>(x.cps.toList,0,y.cps.toList)
  | _=>(x.cps.toList,0,[])
def pkH (H:Hp) (a:Addr):Pky:=match H a with
  | some (.tup [.str x,v])=>pkV x v
  | _=>([],0,[])
def ltP:Pky→Pky→Bool:=lexB (fun a b=>decide (a < b)) (lexB (fun a b=>decide (a < b)) (fun a b=>decide (a < b)))
theorem lin_P:Lin ltP:=lin_lex lin_txt (lin_lex lin_int lin_txt)

def Snd (t:Bool) (v:V):Prop:=if t=true then ∃ y,v=.str y else ∃ i,v=.int i
section
variable {prog:Program} {w:World} {A:Around} {s:Shared}
theorem cps_inj {x y:Str} (h:x.cps.toList=y.cps.toList):x=y:=by
  cases x; cases y
  simp only [Str.mk.injEq]
  exact Array.toList_inj.mp h
theorem less_pair {x y:Addr} {a b:Str} {p q:V} {vx vy:List Value} {t:Bool} {C:Bool→Shared→Prop} (hp:Snd t p) (hq:Snd t q) (ix:IsTup s.heap x vx.toArray) (iy:IsTup s.heap y vy.toArray) (rx:Vals [.str a,p] vx) (ry:Vals [.str b,q] vy)
    (h:C (ltP (pkV a p) (pkV b q)) s):wpAny (model prog w) A (keyLt' (tuples' true) (.ref x) (.ref y)) C (fun _ _=>False) s:=by
  obtain ⟨ox,hx,_,n,dx⟩:=ix
  obtain ⟨oy,hy,_,m,dy⟩:=iy
  cases rx with
  | cons r1 rx =>
  cases rx with
  | cons r2 rx =>
  cases rx
  cases ry with
  | cons r3 ry =>
  cases ry with
  | cons r4 ry =>
  cases ry
  obtain ⟨t1,rfl⟩:=r1
  obtain ⟨t3,rfl⟩:=r3
  refine kat_lt hx dx hy dy (kat_cons (wpAny_eqBool_str (kat_go (fun e=>kat_yes ?_) fun e=>kat_no ?_)))
  · have e':a=b:=by simpa using e
    subst e'
    cases t with
    | true =>
      obtain ⟨c,rfl⟩:=hp
      obtain ⟨d,rfl⟩:=hq
      obtain ⟨t2,rfl⟩:=r2
      obtain ⟨t4,rfl⟩:=r4
      have hv:ltP (pkV a (.str c)) (pkV a (.str d))=decide (c.cps.toList < d.cps.toList):=by
        simp only [ltP,lexB,pkV,if_true]
        exact decide_eq_decide.mpr Iff.rfl
      rw [hv] at h
      refine kat_cons (wpAny_eqBool_str (kat_go (fun e=>kat_yes (kat_nil ?_)) fun e=>kat_no (kat_one _ _ (PySem.P.lt_str ?_))))
      · have e':c=d:=by simpa using e
        subst e'
        rw [decide_eq_false (List.lt_irrefl _)] at h
        simpa using h
      · exact h
    | false =>
      obtain ⟨c,rfl⟩:=hp
      obtain ⟨d,rfl⟩:=hq
      obtain ⟨t2,rfl⟩:=r2
      obtain ⟨t4,rfl⟩:=r4
      have hv:ltP (pkV a (.int c)) (pkV a (.int d))=decide (c < d):=by
        simp only [ltP,lexB,pkV,if_true]
        by_cases e:c=d
        · subst e; simp
        · exact (if_neg e).trans (decide_eq_decide.mpr Iff.rfl)
      rw [hv] at h
      refine kat_cons (wpAny_eqBool_int (kat_go (fun e=>kat_yes (kat_nil ?_)) fun e=>kat_no (kat_one _ _ (PySem.P.lt_int ?_))))
      · have e':c=d:=by simpa using e
        subst e'
        simpa using h
      · exact h
  · have e':¬ a=b:=by simpa using e
    show wpAny _ _ (oneLt' true _ _) _ _ _
    refine oneLt_str ?_
    have hv:ltP (pkV a p) (pkV b q)=decide (a.cps.toList < b.cps.toList):=by
      have f1:∀ (x:Str) (v:V),(pkV x v).1=x.cps.toList:=fun x v=>by cases v <;> rfl
      unfold ltP lexB
      rw [f1,f1,if_neg fun e=>e' (cps_inj e)]
    rw [← hv]
    exact h

def Prs (H:Hp) (t:Bool) (as:List Addr):Prop:=∀ b∈as,∃ x v,H b=some (.tup [.str x,v])∧Snd t v
theorem srt_prs {H:Hp} {t:Bool} {as:List Addr} (hP:Prs H t as) (hok:∀ b x v,H b=some (.tup [.str x,v])→∃ its:List Value,Vals [.str x,v] its∧IsTup s.heap b its.toArray) :
    SrtA prog w (as.map Value.ref) (fun v=>pkH H (adrOf v)) ltP (tuples' true) s:=by
  refine ⟨fun A h2 Q q => ?_,fun A x y C hx hy q => ?_⟩
  · have kt:∀ (as:List Addr),Prs H t as→∃ fs:List Value,KatTups s.heap (as.map Value.ref) fs∧fs.length=as.length∧∀ v∈fs,∃ (k:Str) (t:Tok),v=.str k t:=by
      intro as
      induction as with
      | nil=>intro _; exact ⟨[],KatTups.nil,rfl,fun v hv=>nomatch hv⟩
      | cons a as ih =>
        intro hP
        obtain ⟨x,v,e,_⟩:=hP a (by simp)
        obtain ⟨its,r,o,ho,hc,n,hd⟩:=hok a x v e
        obtain ⟨fs,f1,f2,f3⟩:=ih fun b hb=>hP b (by simp [hb])
        cases r with
        | cons r1 r =>
          obtain ⟨tk,rfl⟩:=r1
          refine ⟨.str x tk::fs,KatTups.cons ho hc hd (by simp) f1,by simp [f2],fun v hv => ?_⟩
          rcases List.mem_cons.mp hv with rfl | hv
          · exact ⟨x,tk,rfl⟩
          · exact f3 v hv
    obtain ⟨fs,f1,f2,f3⟩:=kt as hP
    refine kat_kind (T:=.type "str") f1 (by rw [f2]; rw [List.length_map] at h2; omega) (fun v hv => ?_) (by decide) q
    obtain ⟨k,t,rfl⟩:=f3 v hv
    exact Looks.now
  · obtain ⟨a,ha,rfl⟩:=List.mem_map.mp hx
    obtain ⟨b,hb,rfl⟩:=List.mem_map.mp hy
    obtain ⟨x,v,e1,s1⟩:=hP a ha
    obtain ⟨y,u,e2,s2⟩:=hP b hb
    obtain ⟨ix,r1,i1⟩:=hok a x v e1
    obtain ⟨iy,r2,i2⟩:=hok b y u e2
    refine less_pair s1 s2 i1 i2 r1 r2 ?_
    have f1:pkH H (adrOf (.ref a))=pkV x v:=by show pkH H a=_; unfold pkH; rw [e1]
    have f2:pkH H (adrOf (.ref b))=pkV y u:=by show pkH H b=_; unfold pkH; rw [e2]
    rw [← f1,← f2]
    exact q
end
section
variable {X:Cx}
theorem vals_refs:∀ {as:List Addr} {its:List Value},Vals (as.map V.ref) its→its=as.map Value.ref
  | [],its,r=>by cases r; rfl
  | a::as,its,r=>by
    cases r with
    | cons h t =>
      rw [vals_refs t,show _=Value.ref a from h]
      rfl
theorem refs_vals:∀ (as:List Addr),Vals (as.map V.ref) (as.map Value.ref)
  | []=>.nil
  | _::as=>.cons rfl (refs_vals as)
theorem call_sortP (hc:X.calm=true):CallR X (.builtin "sorted") (fun xs H Q=>∃ (a:Addr) (t:Bool) (as:List Addr),xs=[.ref a]∧SqL X.K H a (as.map V.ref)∧Prs H t as ∧
    ∀ (S:Addr) (as':List Addr),H S=none→as'.Perm as→as'.Pairwise (fun x y=>ltP (pkH H y) (pkH H x)=false)→Q (.ref S) (upd H S (.lst (as'.map V.ref)))):=by
  intro pins s σ H xs us Q I r h
  obtain ⟨a,t,as,rfl,hS,hP,q⟩:=h
  obtain ⟨u,rfl,ru⟩:=vals1 r
  cases ru
  obtain ⟨its,rv,pl,sz⟩:=I.list hS
  have sz':its.length≤sizeLine:=by rw [← rv.length]; exact sz
  obtain rfl:=vals_refs rv
  refine sorted_all (kf:=fun v=>pkH H (adrOf v)) lin_P (collect_list pl.isList ?_ sz')
  have kp0:∀ b o,s.heap.get? b=some o→((s.heap.push (seqObj "list" #[] 0)).update s.heap.objs.size (Obj.mapSeq (· ++ (as.map Value.ref).toArray))).get? b=some o:=fun b o e =>
    (Heap.get?_update_other _ _ (Ne.symm (Nat.ne_of_lt (Heap.lt_size e)))).trans (Heap.get?_push_of_some _ e)
  refine ⟨sz',tuples' true,fun h' kp=>srt_prs (t:=t) hP fun b x v e => ?_,fun out hp hw => ?_⟩
  · obtain ⟨_,its,r,it⟩:=I.hok b _ e
    exact ⟨its,r,it.keeps fun c o e=>kp c o (kp0 c o e)⟩
  have ro:out=(out.map adrOf).map Value.ref:=by
    rw [List.map_map]
    refine (List.map_id out).symm.trans (List.map_congr_left fun v hv => ?_)
    obtain ⟨b,_,rfl⟩:=List.mem_map.mp (hp.mem_iff.mp hv)
    rfl
  have pm:(out.map adrOf).Perm as:=by
    have:=hp.map adrOf
    rw [List.map_map] at this
    have e:as.map (adrOf ∘ Value.ref)=as:=(List.map_congr_left fun b _=>rfl).trans (List.map_id as)
    rw [e] at this
    exact this
  have rv2:Vals ((out.map adrOf).map V.ref) out:=by
    have:=refs_vals (out.map adrOf)
    rw [← ro] at this
    exact this
  obtain ⟨S,h1,h2,h3⟩:=I.sortd (a:=a) (its:=as.map Value.ref) (by rw [rv2.length,hp.length_eq]; exact sz') rv2
  subst h3
  refine ⟨.ref _,_,h2,rfl,q _ _ h1 pm ?_⟩
  rw [List.pairwise_map]
  exact hw
end
end L2

namespace L2
open PySem PySem.Spec PySem.Calls PyProof.Rows PySem.W

section
variable {X:Cx} {e lo st:Expr} {te:TE} {tl ts:TO} {p2 pos:Pos}
end
end L2

namespace L2
open PySem PySem.Spec PySem.Calls PyProof.Rows PySem.W

section
variable {prog:Program} {w:World} {A:Around} {E:Value→Shared→Prop} {s:Shared} {a:Addr} {o:Obj} {xs:Array Value} {k:Nat}
end
section
variable {prog:Program} {w:World} {A:Around} {E:Value→Shared→Prop} {s:Shared}
end

section
variable {X:Cx}
end

section
variable {X:Cx}
end
end L2

namespace L2
open PySem PySem.Spec PySem.Calls PyProof.Rows PySem.W

section
variable {P:Program} {w:World} {K:PySem.W.Frag} {mg:Str→Option Value} {base:Heap} {N:List Str} {qual:Str} {scope:Scope} {f:Addr} {cd:Value} {cl:List (Str × Addr)} {A:Around} {outer:List Env} {s0:Shared} {H0:Hp} {E:XK}
end

section
variable {X:Cx}
end

section
variable {X:Cx}
end
end L2

namespace L2
open PySem PySem.Spec PySem.Calls PyProof.Rows

section
variable {X:Cx} {st:Stmt} {rest:List Stmt} {t u:TS} {pos:Pos} {e a b:PySem.Expr} {te ta tb:TE}
end
section
variable {P:Program} {w:World} {K:PySem.W.Frag} {mg:Str→Option Value} {base:Heap}
end
end L2

namespace L2
open PySem PySem.Spec PySem.Calls PyProof.Rows

section
variable {X:Cx} {tg:Expr}
end

section
variable {X:Cx}
end
end L2

namespace L2
open PySem PySem.Spec PySem.Calls PyProof.Rows PySem.W

section
variable {prog:Program} {w:World} {A:Around} {E:Value→Shared→Prop} {s:Shared}
end
section
variable {X:Cx}
end

section
variable {prog:Program} {w:World} {A:Around} {E:Value→Shared→Prop} {s:Shared}
end
section
variable {prog:Program} {w:World} {A:Around} {E:Value→Shared→Prop} {s:Shared}
end
section
variable {X:Cx}

end
section
variable {X:Cx} {K:PySem.W.Frag}

end
end L2

namespace L2
open PySem PySem.Spec PySem.Calls PyProof.Rows PySem.W

section
variable {prog:Program} {w:World} {K:Type} [DecidableEq K] {knd:HeapKind prog w K} {A:Around} {E:Value→Shared→Prop} {s:Shared} {d b:Addr} {k:K} {ps:List (K × Addr × Value)}
end
section
variable {X:Cx} {o e f:Expr} {apos cpos:Pos} {td ty tx:TE}
end

section
open PySem.SeqAt
open PySem.AutoSeq1 (wpAny_loadPart')
open PySem.MeetsSeq PySem.MeetsSeq2 PySem.MeetsSeq3
end
section
variable {X:Cx}
end
end L2

namespace L2
open PySem PySem.Spec PySem.Calls PyProof.Rows PySem.W

section
variable {X:Cx} {tg:Expr}
end
section
variable {σ0 cs:St} {k:Nat} {g:TG} {te:TE} {tt:TT} {H1:Hp} {Q:VK}
end
end L2

namespace L2
open PySem PySem.Spec PySem.Calls PyProof.Rows PySem.W

section
variable {prog:Program} {w:World} {A:Around} {E:Value→Shared→Prop} {s:Shared} {α:Type} {lt:α→α→Bool}
end
section
variable {X:Cx}
end
end L2

namespace L2
open PySem PySem.Spec PySem.Calls PyProof.Rows PySem.W

section
variable {X:Cx}
end
section
variable {prog:Program} {w:World} {A:Around} {E:Value→Shared→Prop} {s:Shared}
end

section
variable {X:Cx}
end
end L2

namespace L2
open PySem PySem.Spec PySem.Calls PyProof.Rows PySem.W

theorem args_maxK2 (a b v:Value):argsOk "max" ⟨[a,b],[(Str.ofString "key",v)]⟩:=by unfold argsOk; kernel_rfl
section
variable {prog:Program} {w:World} {A:Around} {E:Value→Shared→Prop} {s:Shared}
theorem max_len_loop {a b:Str} {ta tb:Tok} {T I S:Addr} {c:Nat} {R:Result→Shared→Prop} (hh:A.handled=none) (la:a.length≤sizeLine) (lb:b.length≤sizeLine) (hIS:I≠S) (hTS:T≠S) (hTI:T≠I)
    (ht:s.heap.IsTuple T #[.str a ta,.str b tb]) (hi:s.heap.IsTupleIter I T 0) (hS:s.heap.get? S=some (seqObj "list" #[] c))
    (hR:∀ h' tk,(∀ x o,x≠I→x≠S→s.heap.get? x=some o→h'.get? x=some o)→R (.ok (.ret (if b.length > a.length then .str b tb else .str a ta))) { s with heap:=h',toks:=tk }) :
    codeAny (model prog w) A (.builtin "max.loop" ⟨[.ref I,.builtin "len",.ref S],[]⟩) R s:=by
  have hname:(toString "max" ++ toString ".loop" : String) = "max.loop" := by decide
  have l63:=line63
  refine codeAny_builtin PySem.F.entry_max_loop ?_
  rw [Around.under_plainId PySem.F.plain_max_loop _]
  show wpAny _ A.in1 (seqItems? (.ref S) >>= _) _ _ _
  refine wpAny_bind (wpAny_seqItems hS rfl ?_)
  show wpAny _ A.in1 (tryCatch (pyNext (.ref I)) _ >>= _) _ _ _
  refine wpAny_bind (wpAny_tryCatch (wpAny_pyNext_tuple_item hi ht rfl fun h1 hi1 sb1 => ?_))
  have ht1:h1.IsTuple T #[.str a ta,.str b tb]:=by
    obtain ⟨o,e,r⟩:=ht
    exact ⟨o,(sb1.2 T hTI).trans e,r⟩
  have hS1:h1.get? S=some (seqObj "list" #[] c):=(sb1.2 S hIS.symm).trans hS
  show wpAny _ A.in1 (tryCatch (holding [.str a ta] (call (.builtin "len") [.str a ta])) _ >>= _) _ _ _
  refine wpAny_bind (wpAny_tryCatch (wpAny_holding (len_str (by omega) ?_)))
  show wpAny _ A.in1 (updateSeq S (fun _ => #[.str a ta,.int a.length _]) >>= _) _ _ _
  refine wpAny_bind ?_
  refine wpAny_updateSeq hS1 rfl ?_
  rw [hname]
  generalize e2:h1.update S (Obj.mapSeq fun _ => #[.str a ta,.int a.length (s.toks + 1)])=h2
  have sb2:Heap.SameBut S h1 h2:=e2▸Heap.SameBut.update ..
  obtain ⟨c2,hS2⟩:∃ c2,h2.get? S=some (seqObj "list" #[.str a ta,.int a.length (s.toks + 1)] c2):=by
    rw [← e2]
    exact ⟨_,get?_update_seq hS1 fun _ => #[.str a ta,.int a.length (s.toks + 1)]⟩
  have ht2:h2.IsTuple T #[.str a ta,.str b tb]:=by
    obtain ⟨o,e,r⟩:=ht1
    exact ⟨o,(sb2.2 T hTS).trans e,r⟩
  have hi2:h2.IsTupleIter I T 1:=by
    obtain ⟨o,e,r⟩:=hi1
    exact ⟨o,(sb2.2 I hIS).trans e,r⟩
  refine wpAny_pure ⟨plainId_quiet PySem.F.plain_max_loop _,?_⟩
  refine codeAny_builtin PySem.F.entry_max_loop ?_
  rw [Around.under_plainId PySem.F.plain_max_loop _]
  show wpAny _ A.in1 (seqItems? (.ref S) >>= _) _ _ _
  refine wpAny_bind (wpAny_seqItems hS2 rfl ?_)
  show wpAny _ A.in1 (tryCatch (pyNext (.ref I)) _ >>= _) _ _ _
  refine wpAny_bind (wpAny_tryCatch (wpAny_pyNext_tuple_item hi2 ht2 rfl fun h3 hi3 sb3 => ?_))
  have ht3:h3.IsTuple T #[.str a ta,.str b tb]:=by
    obtain ⟨o,e,r⟩:=ht2
    exact ⟨o,(sb3.2 T hTI).trans e,r⟩
  have hS3:=(sb3.2 S hIS.symm).trans hS2
  show wpAny _ A.in1 (tryCatch (holding [.str b tb] (call (.builtin "len") [.str b tb])) _ >>= _) _ _ _
  refine wpAny_bind (wpAny_tryCatch (wpAny_holding (len_str (by omega) ?_)))
  show wpAny _ A.in1 (tryCatch (holding [.str b tb,.int b.length _] (richCompare .Gt (.int b.length _) (.int a.length _) >>= _)) _ >>= _) _ _ _
  refine wpAny_bind (wpAny_tryCatch (wpAny_holding (wpAny_bind (CmpOf.ints_gt (prog:=prog) (w:=w) (A:=A.in1) (P:=fun i v=>∃ t,v=.int (if i=0 then (a.length:Int) else (b.length:Int)) t) (fun i=>if i=0 then (a.length:Int) else (b.length:Int)) (fun i v h=>h) 1 0 _ _ _ _ _ ⟨_,rfl⟩ ⟨_,rfl⟩ ?_))))
  refine wpAny_bind (wpAny_holding (wpAny_truthy_bool ?_))
  refine wpAny_bind (wpAny_letGo (wpAny_pure ?_))
  have fin:∀ (vb:Value) (k:Int) (t:Tok) (c3:Nat) (h4:Heap) (tk:Nat),(if b.length > a.length then .str b tb else .str a ta:Value)=vb→h4.get? S=some (seqObj "list" #[vb,.int k t] c3)→h4.IsTuple T #[.str a ta,.str b tb]→h4.IsTupleIter I T 2→(∀ x o,x≠I→x≠S→s.heap.get? x=some o→h4.get? x=some o) →
      codeAny (model prog w) A (.builtin "max.loop" ⟨[.ref I,.builtin "len",.ref S],[]⟩) R { s with heap:=h4,toks:=tk }:=by
    intro vb k t c3 h4 tk ev hS4 ht4 hi4 k4
    refine codeAny_builtin PySem.F.entry_max_loop ?_
    rw [Around.under_plainId PySem.F.plain_max_loop _]
    show wpAny _ A.in1 (seqItems? (.ref S) >>= _) _ _ _
    refine wpAny_bind (wpAny_seqItems hS4 rfl ?_)
    show wpAny _ A.in1 (tryCatch (pyNext (.ref I)) _ >>= _) _ _ _
    refine wpAny_bind (wpAny_tryCatch (wpAny_pyNext_tuple_end (A:=A.in1) hh hi4 ht4 rfl fun h5 eb5 => ?_))
    have hS5:=eb5 S _ hIS.symm hS4
    show wpAny _ A.in1 (updateSeq S (fun _ => #[]) >>= _) _ _ _
    refine wpAny_bind ?_
    refine wpAny_updateSeq hS5 rfl (wpAny_bind (wpAny_letGo (wpAny_pure ?_)))
    rw [← ev]
    exact hR _ _ fun x o h1 h2 e=>(Heap.get?_update_other _ _ h2.symm).trans (eb5 x o h1 (k4 x o h1 h2 e))
  have k3:∀ x o,x≠I→x≠S→s.heap.get? x=some o→h3.get? x=some o:=fun x o h1 h2 e=>(sb3.2 x h1).trans ((sb2.2 x h2).trans ((sb1.2 x h1).trans e))
  by_cases hb:b.length > a.length
  · have hb':(b.length:Int) > (a.length:Int):=by omega
    simp only [Nat.one_ne_zero,if_false,if_true,hb',decide_true]
    refine wpAny_bind ?_
    refine wpAny_updateSeq hS3 rfl (wpAny_bind (wpAny_letGo ?_))
    rw [hname]
    refine wpAny_pure ⟨plainId_quiet PySem.F.plain_max_loop _,?_⟩
    have sb4:=Heap.SameBut.update h3 S (Obj.mapSeq fun _ => #[.str b tb,.int b.length (s.toks + 1 + 1 + 1)])
    refine fin _ _ _ _ _ _ (if_pos hb) (get?_update_seq hS3 _) ?_ ?_ fun x o h1 h2 e=>(sb4.2 x h2).trans (k3 x o h1 h2 e)
    · obtain ⟨o,e,r⟩:=ht3
      exact ⟨o,(sb4.2 T hTS).trans e,r⟩
    · obtain ⟨o,e,r⟩:=hi3
      exact ⟨o,(sb4.2 I hIS).trans e,r⟩
  · have hb':¬ (b.length:Int) > (a.length:Int):=by omega
    simp only [Nat.one_ne_zero,if_false,if_true,hb',decide_false,Bool.false_eq_true]
    refine wpAny_bind (wpAny_letGo ?_)
    rw [hname]
    exact wpAny_pure ⟨plainId_quiet PySem.F.plain_max_loop _,fin _ _ _ _ _ _ (if_neg hb) hS3 ht3 hi3 k3⟩
theorem max_len2 {a b:Str} {ta tb:Tok} {Q:Value→Shared→Prop} (hh:A.handled=none) (la:a.length≤sizeLine) (lb:b.length≤sizeLine)
    (hQ:∀ h' tk,(∀ x o,s.heap.get? x=some o→h'.get? x=some o)→Q (if b.length > a.length then .str b tb else .str a ta) { s with heap:=h',toks:=tk }) :
    wpAny (model prog w) A (call (.builtin "max") [.str a ta,.str b tb] [(Str.ofString "key",.builtin "len")]) Q E s:=by
  have hname:(toString "max" ++ toString ".loop" : String) = "max.loop" := by decide
  have l63:=line63
  refine kmk_tree PySem.F.kind_max PySem.F.plain_max PySem.F.entry_max (args_maxK2 _ _ _) ?_
  show wpAny _ A.in1 (Builtin.Builtins.bindParams "max" ["key","default"] 0 ⟨[],[(Str.ofString "key",.builtin "len")]⟩ >>= _) _ _ s
  refine wpAny_bind (wpAny_of_eq (show Builtin.Builtins.bindParams "max" ["key","default"] 0 ⟨[],[(Str.ofString "key",.builtin "len")]⟩=pure [some (.builtin "len"),none] from rfl) ?_)
  show wpAny _ A.in1 (newTuple [.str a ta,.str b tb] >>= _) _ _ s
  refine wpAny_bind (wpAny_newTuple ?_ (by show 2≤sizeLine; decide))
  refine wpAny_bind (wpAny_pyIter_tuple (items := #[.str a ta,.str b tb]) ⟨_,Heap.get?_push_size _ rfl,rfl,_,rfl⟩ ?_)
  refine wpAny_bind (wpAny_newList ?_ (Nat.zero_le _))
  rw [hname]
  refine wpAny_pure ⟨plainId_quiet PySem.F.plain_max_loop _,?_⟩
  have n1:(s.heap.push { cls:=.type "tuple",data:=.seq #[.str a ta,.str b tb] }).objs.size=s.heap.objs.size + 1:=size_push' ..
  have n2:((s.heap.push { cls:=.type "tuple",data:=.seq #[.str a ta,.str b tb] }).push { cls:=.type "tuple_iterator",data:=.fields #[.ref s.heap.objs.size,.int 0 0] }).objs.size=s.heap.objs.size + 1 + 1:=by rw [size_push',n1]
  refine max_len_loop hh la lb ?_ ?_ ?_ (T:=s.heap.objs.size) ⟨_,Heap.get?_push_of_some _ (Heap.get?_push_of_some _ (Heap.get?_push_size _ rfl)),rfl,_,rfl⟩ ⟨_,Heap.get?_push_of_some _ (Heap.get?_push_size _ rfl),rfl,rfl⟩ (Heap.get?_push_size _ rfl) fun h' tk k => ?_
  · show (s.heap.push _).objs.size≠((s.heap.push _).push _).objs.size
    rw [n1,n2]; omega
  · intro e
    have e2:s.heap.objs.size=s.heap.objs.size + 1 + 1:=e.trans n2
    exact absurd e2 (by omega)
  · intro e
    have e2:s.heap.objs.size=s.heap.objs.size + 1:=e.trans n1
    exact absurd e2 (by omega)
  · refine hQ h' tk fun x o e => ?_
    have hx:=Heap.lt_size e
    refine k x o ?_ ?_ (Heap.get?_push_of_some _ (Heap.get?_push_of_some _ (Heap.get?_push_of_some _ e)))
    · exact Nat.ne_of_lt (Nat.lt_of_lt_of_le hx (Nat.le_of_lt (n1▸Nat.lt_succ_self _)))
    · exact Nat.ne_of_lt (Nat.lt_of_lt_of_le hx (Nat.le_trans (Nat.le_add_right _ 2) (Nat.le_of_eq n2.symm)))
end
section
variable {X:Cx}
theorem mt_stripC:MtR X "str.strip" (fun x vs H Q=>∃ z y,x=.str z∧vs=[.str y]∧z.length≤sizeLine∧Q (.str (Txt.stripChars z y)) H):=by
  intro pins s σ H x vs v us Q I rx rv h
  obtain ⟨z,y,rfl,rfl,hz,q⟩:=h
  obtain ⟨t,rfl⟩:=rx
  obtain ⟨u,rfl,tu,rfl⟩:=rv.one
  exact SC.stripChars (fun t' k=>⟨.str _,H,I.tok _,⟨_,rfl⟩,q⟩) hz
end
section
variable {X:Cx}
def tMaxLen (t:TA):TE:=fun σ H Q=>t σ H fun vs H1=>∃ a b:Str,vs=[.str a,.str b]∧a.length≤sizeLine∧b.length≤sizeLine∧Q (.str (if b.length > a.length then b else a)) H1
theorem pe_maxLen {e1 e2:Expr} {te:TA} {p p2 pos kp:Pos} (hM:X.mg "max" = none) (hL:X.mg "len" = none) (he:PA X [e1,e2] te) (hc:X.calm=true:=by rfl) (hg:Gl X "max" := by rfl) (hg2:Gl X "len" := by rfl)
    (hbt:backTo pos (starEach [e1,e2] X.env)=(false,eval e1 X.env)::backTo pos (starEach [e2] X.env):=by rfl) (hpn:(backTo pos (starEach [e1,e2] X.env)).any (·.1)=false:=by rfl) :
    PE X (.Call (.Name "max" p) [e1,e2] [⟨some "key",.Name "len" p2,kp⟩] pos) (tMaxLen te):=by
  intro pins s σ H Q I h
  refine wpAny_Call_Name_kw (ld_blt I hg hM bb_max ?_)
  refine callWith_kw (thn (he pos pins s σ H _ I h) fun us s1 ⟨vs,H1,I1,r,a,b,e,la,lb,q⟩ => ?_) hbt hpn
  subst e
  obtain ⟨u,v,rfl,⟨t1,rfl⟩,⟨t2,rfl⟩⟩:=vals2 r
  refine kws_cons (ld_blt I1 hg2 hL bb_len (kws_nil ?_))
  show wpAny _ _ (call (.builtin "max") [.str a t1,.str b t2] [(Str.ofString "key",.builtin "len")]) _ _ _
  refine max_len2 (I1.ok.hd hc) la lb fun h' tk k=>⟨_,H1,I1.kept k,?_,q⟩
  by_cases hb:b.length > a.length
  · rw [if_pos hb,if_pos hb]; exact ⟨_,rfl⟩
  · rw [if_neg hb,if_neg hb]; exact ⟨_,rfl⟩
end

theorem pairs_mem {P:Program} {w:World} {es:List DictEntry} {vs:List (Key × Value)} (h:Pairs (mixKind P w) es vs):∀ e∈es,∃ kv∈vs,keyIs kv.1 e.key=true:=by
  induction h with
  | nil=>intro e he; cases he
  | cons h1 _ _ ih =>
    intro e he
    rcases List.mem_cons.mp he with rfl | he
    · exact ⟨_,List.mem_cons_self,h1⟩
    · obtain ⟨kv,m,z⟩:=ih e he
      exact ⟨kv,List.mem_cons_of_mem _ m,z⟩
theorem pairs_any {P P':Program} {w w':World} {es:List DictEntry} {vs:List (Key × Value)} (h:Pairs (mixKind P w) es vs):Pairs (mixKind P' w') es vs:=by
  induction h with
  | nil=>exact .nil
  | cons h1 h2 _ ih=>exact .cons h1 h2 ih
theorem dict_any {P P':Program} {w w':World} {h:Heap} {a:Addr} {vs:List (Key × Value)} (d:h.DictOf (mixKind P w) a vs) (hi:∀ kv∈vs,∃ i,kv.1=Sum.inl i):h.DictOf (mixKind P' w') a vs:=by
  obtain ⟨o,es,ep,h1,h2,h3,hk,hp,hn⟩:=d
  refine ⟨o,es,ep,h1,h2,h3,fun e he => ?_,pairs_any hp,hn⟩
  obtain ⟨k,k1,k2⟩:=hk e he
  obtain ⟨kv,m,z⟩:=pairs_mem hp e (Array.mem_toList_iff.mpr he)
  obtain ⟨i,ei⟩:=hi kv m
  have ek:k=kv.1:=(mixKind P w).inj _ _ _ k1 z
  refine ⟨k,k1,k2.trans ?_⟩
  rw [ek,ei]
  rfl
theorem kv_keys {kvs:List (Key × V)} {vs:List (Key × Value)} (h:KV kvs vs) (hi:∀ kv∈kvs,∃ i,kv.1=Sum.inl i):∀ kv∈vs,∃ i,kv.1=Sum.inl i:=by
  have h':Paired _ kvs vs:=h
  clear h
  induction h' with
  | nil=>intro kv m; cases m
  | cons r _ ih =>
    intro kv m
    rcases List.mem_cons.mp m with rfl | m
    · obtain ⟨i,e⟩:=hi _ List.mem_cons_self
      exact ⟨i,r.1.symm.trans e⟩
    · exact ih (fun z hz=>hi z (List.mem_cons_of_mem _ hz)) kv m
theorem rc_dK {P:Program} {w:World} {H:Hp} {A:Around} {s:Shared} {a c:Addr} {kvs:List (Key × V)} (ok:HOk P w H s.heap) (ha:H a=some (.dK kvs)) (hc:H c=some (.dK kvs)) (hi:∀ kv∈kvs,∃ i,kv.1=Sum.inl i) (hf:∀ kv∈kvs,flatV kv.2=true∧eqV kv.2 kv.2=true) (hu:A.units < cLine):SeqAt.RcAt A s (.ref a) (.ref c) true:=fun prog w' E Q h=>by
  obtain ⟨_,hs1,vs,kv1,d1⟩:=dk_of ok ha
  obtain ⟨_,hs2,ws,kv2,d2⟩:=dk_of ok hc
  have nd:(ws.map (·.1)).Nodup:=let ⟨_,_,_,_,_,_,_,_,hn⟩:=d2; hn
  refine keq_eq (knd:=mixKind prog w') hs1 hs2 (dict_any d1 (kv_keys kv1 hi)) (dict_any d2 (kv_keys kv2 hi)) hu (fun _=>by simpa using hits_same [] kv1 kv2 (by simpa using nd) hf) ?_
  have e:(vs.length == ws.length)=true:=by
    rw [← Paired.length kv1,← Paired.length kv2]; simp
  rw [e]
  exact h
section
variable {prog:Program} {w:World} {κ:Type} [DecidableEq κ] {knd:HeapKind prog w κ} {A:Around} {E:Value→Shared→Prop} {s:Shared}
theorem same_pairsH {nm:String} {a b:Addr} {xs ys:List (κ × Addr × Value)} {Q:Bool→Shared→Prop} (ha:(a == sysModules)=false) (hb:(b == sysModules)=false) (da:s.heap.DictOfH knd a xs) (db:s.heap.DictOfH knd b ys) (hl:xs.length=ys.length)
    (hm:∀ (i:Nat) (x:κ × Addr × Value),xs[i]? = some x→∃ (j:Nat) (p:Addr × Value),ys[j]? = some (x.1,p)∧SeqAt.EqAt A s x.2.2 p.2 true) (hu:knd.room A) (h:Q true s):wpAny (model prog w) A (Builtin.Dict.samePairs nm a b) Q E s:=by
  obtain ⟨oa,es,ep,hoa,_,hda,hea,hia,hna⟩:=da
  obtain ⟨ob,fs,fp,hob,_,hdb,heb,hib,hnb⟩:=db
  have la:es.size=xs.length:=by rw [← Array.length_toList,hea,List.length_map]
  have lb:fs.size=ys.length:=by rw [← Array.length_toList,heb,List.length_map]
  unfold Builtin.Dict.samePairs Builtin.Dict.showsAll
  rw [if_neg (by rw [ha]; exact Bool.false_ne_true),if_neg (by rw [hb]; exact Bool.false_ne_true)]
  refine wpAny_bind (wpAny_pure (wpAny_bind (wpAny_pure (wpAny_bind (wpAny_dictEntries hoa hda ?_)))))
  dsimp only
  refine wpAny_bind (wpAny_dictEntries hob hdb ?_)
  rw [if_neg (by rw [la,lb,hl]; simp)]
  refine wpAny_bind (wpAny_dictEpoch hoa hda (wpAny_bind ?_))
  rw [Std.Legacy.Range.forIn_eq_forIn_range']
  simp only [Std.Legacy.Range.size,Nat.sub_zero,Nat.add_sub_cancel,Nat.div_one]
  refine wpAny_forIn_list _ (fun rest q s'=>s'=s∧q=(none,())∧∃ i,rest=List.range' i (es.size - i)∧i≤es.size) _ ?_ ?_ _ _ ⟨rfl,rfl,0,by simp,Nat.zero_le _⟩
  · rintro x rest q s' ⟨rfl,rfl,i,hr,hi⟩
    have hlt:i < es.size:=by
      rcases Nat.lt_or_ge i es.size with h | h
      · exact h
      · rw [Nat.sub_eq_zero_of_le h] at hr; simp at hr
    obtain ⟨rfl,hrest⟩:x=i∧rest=List.range' (i + 1) (es.size - (i + 1)):=by
      rw [show es.size - i=(es.size - (i + 1)) + 1 by omega,List.range'_succ] at hr
      injection hr with h1 h2
      exact ⟨h1,h2⟩
    refine wpAny_bind (wpAny_dictEntries hoa hda ?_)
    have hx:x < xs.length:=by omega
    have ex:es[x]? = some (entryOfKey knd xs[x]):=by rw [entry_at hea x,List.getElem?_eq_getElem hx]; rfl
    rw [ex]
    obtain ⟨j,p,hj,he⟩:=hm x xs[x] (List.getElem?_eq_getElem hx)
    show wpAny _ _ (holding [Value.ref xs[x].2.1,xs[x].2.2] _ >>= _) _ _ _
    refine wpAny_bind (wpAny_holding (wpAny_bind ?_))
    refine wpAny_dictFind_heap hu (hia _ (List.getElem_mem hx)) hob hdb heb hib hnb (fun hno=>absurd hj (hno j p)) fun j' p' hj' => ?_
    have ep':p'=p:=by
      have hlj:=(List.getElem?_eq_some_iff.mp hj).1
      have hlj':=(List.getElem?_eq_some_iff.mp hj').1
      have e1:(ys.map (·.1))[j]? = some xs[x].1:=by rw [List.getElem?_map,hj]; rfl
      have e2:(ys.map (·.1))[j']? = some xs[x].1:=by rw [List.getElem?_map,hj']; rfl
      have:=(List.getElem_inj (h₀:=by rw [List.length_map]; exact hlj) (h₁:=by rw [List.length_map]; exact hlj') hnb).mp (by rw [List.getElem?_eq_getElem (by rw [List.length_map]; exact hlj)] at e1; rw [List.getElem?_eq_getElem (by rw [List.length_map]; exact hlj')] at e2; exact (Option.some.inj e1).trans (Option.some.inj e2).symm)
      rw [this,hj'] at hj
      exact (Prod.mk.inj (Option.some.inj hj)).2
    refine wpAny_bind (wpAny_dictEntries hob hdb ?_)
    rw [entry_at heb j',hj']
    refine wpAny_holding ?_
    show wpAny _ _ (eqBool xs[x].2.2 p'.2) _ _ _
    rw [ep']
    refine he prog w _ _ ?_
    show wpAny _ _ (if (!true)=true then _ else _) _ _ _
    rw [if_neg (by decide)]
    refine wpAny_bind (wpAny_dictEpoch hoa hda ?_)
    rw [if_neg (by simp)]
    exact wpAny_pure ⟨rfl,rfl,x + 1,hrest,hlt⟩
  · rintro q s' ⟨rfl,rfl,i,hr,hi⟩
    exact wpAny_pure h
end
theorem kt_get {H:Hp} {kvs:List (List Key × V)} {xs:List (List Key × Addr × Value)} (h:KT H kvs xs):∀ {i:Nat} {x:List Key × Addr × Value},xs[i]? = some x→∃ kv,kvs[i]? = some kv∧kv.1=x.1∧RelV kv.2 x.2.2:=by
  have h':Paired _ kvs xs:=h
  clear h
  induction h' with
  | nil=>intro i x e; cases e
  | @cons a b as bs h _ ih =>
    intro i x e
    cases i with
    | zero=>cases e; exact ⟨a,rfl,h.1,h.2.2⟩
    | succ i=>exact ih e
theorem kt_put {H:Hp} {kvs:List (List Key × V)} {xs:List (List Key × Addr × Value)} (h:KT H kvs xs):∀ {i:Nat} {kv:List Key × V},kvs[i]? = some kv→∃ x,xs[i]? = some x∧kv.1=x.1∧RelV kv.2 x.2.2:=by
  have h':Paired _ kvs xs:=h
  clear h
  induction h' with
  | nil=>intro i x e; cases e
  | @cons a b as bs h _ ih =>
    intro i x e
    cases i with
    | zero=>cases e; exact ⟨b,rfl,h.1,h.2.2⟩
    | succ i=>exact ih e
theorem hash_any {P P':Program} {w w':World} {ks:List Key} (hi:∀ k∈ks,∃ i,k=Sum.inl i):(tupleKind (mixKind P w)).hash ks=(tupleKind (mixKind P' w')).hash ks:=by
  show tupleKeyHash (mixKind P w) ks=tupleKeyHash (mixKind P' w') ks
  unfold tupleKeyHash
  congr 2
  refine List.map_congr_left fun k hk => ?_
  obtain ⟨i,rfl⟩:=hi k hk
  rfl
theorem items_any {P P':Program} {w w':World} {ks:List Key} {vs:List Value} (h:ItemsAre (mixKind P w) ks vs):ItemsAre (mixKind P' w') ks vs:=by
  induction h with
  | nil=>exact .nil
  | cons h1 _ ih=>exact .cons h1 ih
theorem dictH_any {P P':Program} {w w':World} {h:Heap} {a:Addr} {xs:List (List Key × Addr × Value)} (d:h.DictOfH (tupleKind (mixKind P w)) a xs) (hi:∀ x∈xs,∀ k∈x.1,∃ i,k=Sum.inl i):h.DictOfH (tupleKind (mixKind P' w')) a xs:=by
  obtain ⟨o,es,ep,h1,h2,h3,h4,h5,h6⟩:=d
  refine ⟨o,es,ep,h1,h2,h3,h4.trans (List.map_congr_left fun x hx => ?_),fun x hx => ?_,h6⟩
  · unfold entryOfKey
    rw [hash_any (hi x hx)]
  · obtain ⟨o',items,n,g1,g2,g3,g4⟩:=h5 x hx
    exact ⟨o',items,n,g1,g2,g3,items_any g4⟩
theorem rc_dT {P:Program} {w:World} {H:Hp} {A:Around} {s:Shared} {a c:Addr} {kvs:List (List Key × V)} (ok:HOk P w H s.heap) (ha:H a=some (.dT kvs)) (hc:H c=some (.dT kvs)) (hi:∀ kv∈kvs,∀ k∈kv.1,∃ i,k=Sum.inl i) (hf:∀ kv∈kvs,flatV kv.2=true∧eqV kv.2 kv.2=true) (hu:A.units + 64 < cLine):SeqAt.RcAt A s (.ref a) (.ref c) true:=fun prog w' E Q h=>by
  obtain ⟨_,hs1,xs,kt1,d1⟩:=dt_of ok ha
  obtain ⟨_,hs2,ys,kt2,d2⟩:=dt_of ok hc
  have keys:∀ {zs:List (List Key × Addr × Value)},KT H kvs zs→∀ x∈zs,∀ k∈x.1,∃ i,k=Sum.inl i:=fun {zs} kt x hx k hk=>by
    obtain ⟨i,hi'⟩:=List.getElem?_of_mem hx
    obtain ⟨kv,e1,e2,_⟩:=kt_get kt hi'
    exact hi kv (List.mem_of_getElem? e1) k (e2▸hk)
  have D1:=dictH_any (P':=prog) (w':=w') d1 (keys kt1)
  have D2:=dictH_any (P':=prog) (w':=w') d2 (keys kt2)
  show wpAny _ _ (compareOp .Eq (.ref a) (.ref c)) _ _ _
  refine wpAny_richCompare_same_room (op:=.Eq) D1.typeIs D2.typeIs PySem.F.slot_dict_eq (wpAny_call_entry PySem.F.slot_dict_eq D1.typeIs PySem.F.entry_dict_eq ?_ (PySem.F.args_dict_eq_2 _ _)) (by omega)
  show wpAny _ _ (Builtin.Dict.dictSlotArgs "__eq__" ⟨[.ref a,.ref c],[]⟩ >>= _) _ _ s
  unfold Builtin.Dict.dictSlotArgs
  refine wpAny_bind (wpAny_bind (wpAny_notOrdered_dict D1.typeIs ?_))
  show wpAny _ _ (pure (Value.ref a,Value.ref c)) _ _ s
  refine wpAny_pure (wpAny_bind (wpAny_isInstance (T := "dict") D2.typeIs PySem.F.sub_dict_dict ?_))
  simp only [Bool.not_true,Bool.false_eq_true,if_false]
  refine wpAny_bind (wpAny_pure (wpAny_bind (wpAny_pure (wpAny_bind ?_))))
  refine same_pairsH hs1 hs2 D1 D2 ((Paired.length kt1).symm.trans (Paired.length kt2)) (fun i x hx => ?_) (by show A.units + 1 < cLine; omega) ?_
  · obtain ⟨kv,e1,e2,e3⟩:=kt_get kt1 hx
    obtain ⟨y,e4,e5,e6⟩:=kt_put kt2 e1
    have ff:=hf kv (List.mem_of_getElem? e1)
    refine ⟨i,y.2,by rw [e4,← e2,e5],?_⟩
    rw [← ff.2]
    exact eqAt_V e3 e6 ff.1 ff.1
  · exact wpAny_pure ⟨_,rfl,(fun x=>nomatch x),h⟩
def intKs (kvs:List (Key × V)):Prop:=(∀ kv∈kvs,∃ i,kv.1=Sum.inl i)∧∀ kv∈kvs,flatV kv.2=true∧eqV kv.2 kv.2=true
def intTs (kvs:List (List Key × V)):Prop:=(∀ kv∈kvs,∀ k∈kv.1,∃ i,k=Sum.inl i)∧∀ kv∈kvs,flatV kv.2=true∧eqV kv.2 kv.2=true

def ItemEq (H:Hp) (u v:V):Prop:=(∃ d,Dat H u d∧Dat H v d∧SeqAt.shaped d=true)∨(∃ a c kvs,u=.ref a∧v=.ref c∧H a=some (.dK kvs)∧H c=some (.dK kvs)∧intKs kvs)∨∃ a c kvs,u=.ref a∧v=.ref c∧H a=some (.dT kvs)∧H c=some (.dT kvs)∧intTs kvs
def rSameL (b:Bool):R2:=fun x y H Q=>∃ (a c:Addr) (xs ys:List V),x=.ref a∧y=.ref c∧H a=some (.lst xs)∧H c=some (.lst ys)∧xs.length=ys.length∧(∀ (i:Nat) (u v:V),xs[i]? = some u→ys[i]? = some v→ItemEq H u v)∧Q (.bl b) H
section
variable {X:Cx}
theorem item_eqAt {pins:List (Addr × Obj)} {σ:St} {H:Hp} {s:Shared} {k:Nat} {u v:V} {x y:Value} (I:Inv X pins σ H s) (hr:Room k X.A) (e:ItemEq H u v) (rx:RelV u x) (ry:RelV v y):SeqAt.EqAt X.A.in1 s x y true:=by
  have hu:=hr.units
  rcases e with ⟨d,d1,d2,sh⟩ | ⟨a,c,kvs,rfl,rfl,ha,hc,hi,hf⟩ | ⟨a,c,kvs,rfl,rfl,ha,hc,hi,hf⟩
  · obtain ⟨as,r1⟩:=d1.reads I.hok rx
    obtain ⟨bs,r2⟩:=d2.reads I.hok ry
    have:=keq_at (A:=X.A) r1 r2 sh sh (by have:=hr.un; show X.A.units + 1 + 64 < cLine; omega)
    rw [SeqAt.eqv_refl _ (SeqAt.canLay_of_shaped sh)] at this
    exact this
  · cases rx
    cases ry
    by_cases h:a=c
    · subst h; exact SeqAt.EqAt.same _
    · exact SeqAt.EqAt.of_refs h (rc_dK I.hok ha hc hi hf (by have:=hr.un; show X.A.units + 1 < cLine; omega))
  · cases rx
    cases ry
    by_cases h:a=c
    · subst h; exact SeqAt.EqAt.same _
    · exact SeqAt.EqAt.of_refs h (rc_dT I.hok ha hc hi hf (by have:=hr.un; show X.A.units + 1 + 64 < cLine; omega))
theorem op_neL {k:Nat} (hr:Room k X.A):OpR X (compareOp .NotEq) (rSameL false):=by
  intro pins s σ H x y v u Q I rx ry h
  obtain ⟨a,c,xs,ys,rfl,rfl,ha,hc,hl,he,q⟩:=h
  cases rx
  cases ry
  obtain ⟨its,rv,pl,_⟩:=I.list (SqL.of (K:=X.K) ha)
  obtain ⟨its',rv',pl',_⟩:=I.list (SqL.of (K:=X.K) hc)
  have l1:=rv.length
  have l2:=rv'.length
  refine SeqAt.RcNeAt.lists (e:=fun _=>true) pl.isList pl'.isList (by simp only [List.size_toArray]; omega) hr.units0 (fun j h1 h2 => ?_) _ _ _ _ ?_
  · simp only [List.size_toArray] at h1 h2
    obtain ⟨z,hz⟩:∃ z,xs[j]? = some z:=⟨xs[j]'(by omega),List.getElem?_eq_getElem _⟩
    obtain ⟨z',hz'⟩:∃ z',ys[j]? = some z':=⟨ys[j]'(by omega),List.getElem?_eq_getElem _⟩
    obtain ⟨w1,g1,r1⟩:=rv.get hz
    obtain ⟨w2,g2,r2⟩:=rv'.get hz'
    have e1:its.toArray[j]=w1:=by
      rw [List.getElem_toArray]
      exact (List.getElem?_eq_some_iff.mp g1).2
    have e2:its'.toArray[j]=w2:=by
      rw [List.getElem_toArray]
      exact (List.getElem?_eq_some_iff.mp g2).2
    rw [e1,e2]
    exact item_eqAt I hr (he j z z' hz hz') r1 r2
  · have:(!(List.range its.toArray.size).all fun _=>true)=false:=by
      have:((List.range its.toArray.size).all fun _=>true)=true:=List.all_eq_true.mpr fun _ _=>rfl
      rw [this]; rfl
    rw [this]
    exact ⟨.bl false,H,I,rfl,q⟩
end

def rNoneIn:R2:=fun x y H Q=>x=.non∧∃ (a:Addr) (xs:List V),y=.ref a∧H a=some (.lst xs)∧(∀ u∈xs,∃ d,Dat H u d∧SeqAt.shaped d=true∧PyData.eqv d .none=false)∧Q (.bl false) H
section
variable {X:Cx}
theorem op_noneIn {k:Nat} (hr:Room k X.A):OpR X (compareOp .In) rNoneIn:=by
  intro pins s σ H x y v u Q I rx ry h
  obtain ⟨rfl,a,xs,rfl,ha,he,q⟩:=h
  cases (show v=Value.none from rx)
  cases ry
  obtain ⟨its,rv,pl,_⟩:=I.list (SqL.of (K:=X.K) ha)
  have l1:=rv.length
  refine SeqAt.in_listAt (fun _=>false) pl.isList (fun y hy => ?_) ?_
  · obtain ⟨j,hj,ej⟩:=List.getElem_of_mem (show y∈its by simpa using hy)
    obtain ⟨z,hz⟩:∃ z,xs[j]? = some z:=⟨xs[j]'(by omega),List.getElem?_eq_getElem _⟩
    obtain ⟨w1,g1,r1⟩:=rv.get hz
    have e1:w1=y:=by
      rw [← ej]
      exact ((List.getElem?_eq_some_iff.mp g1).2).symm
    obtain ⟨d,d1,sh,ee⟩:=he z (List.mem_of_getElem? hz)
    obtain ⟨as,rd1⟩:=d1.reads I.hok (e1▸r1)
    have:=keq_at (A:=X.A) rd1 (.none) sh (by decide +kernel) (by have:=hr.un; show X.A.units + 1 + 64 < cLine; omega)
    rw [ee] at this
    exact this
  · have:(its.toArray.any fun _=>false)=false:=by simp
    rw [this]
    exact ⟨.bl false,H,I,rfl,q⟩
end
section
variable {X:Cx}
theorem call_list_ofK {K:PySem.W.Frag} (hK:X.K=K:=by rfl):CallR X (.type "list") (fun xs H Q=>∃ p ys,xs=[V.ref p]∧(SqL K H p ys∨SqT K H p ys)∧∀ l:Addr,H l=none→Q (V.ref l) (upd H l (HO.lst ys))):=by
  subst hK
  exact call_list_of
end
end L2

namespace Qs
open PySem L2

def top (i:Nat):Stmt:=PySem.Challenge.pw_quartersheet_k34_rows_as_sheets.main.body.getD i (.Pass ⟨0,0,0,0⟩)

structure Tx (K:PySem.W.Frag) (mg:Str→Option Value):Prop where
  b_isinstance:mg "isinstance" = none
  b_tuple:mg "tuple" = none
  b_all:mg "all" = none
  b_range:mg "range" = none
  b_str:mg "str" = none
  c_QUARTERS:∃ t,mg "QUARTERS" = some (.str "0123" t)
  b_len:mg "len" = none
  b_max:mg "max" = none
  b_sorted:mg "sorted" = none
  c_TO_THE_LEFT:∃ t,mg "TO_THE_LEFT" = some (.str "2031" t)
  b_int:mg "int" = none
  b_any:mg "any" = none
  b_list:mg "list" = none
  b_min:mg "min" = none
  b_bool:mg "bool" = none
  b_dict:mg "dict" = none
end Qs
namespace Qs
open PySem L2

def txt (ds:List Nat):Str:=⟨(ds.map (48 + ·)).toArray⟩
theorem txt_len (ds:List Nat):(txt ds).length=ds.length:=by
  rw [len_eq]; simp [txt]
theorem txt_isC {ds:List Nat} (h:∀ d∈ds,d < 4):IsC (txt ds):=fun c hc=>by
  have hc':∃ d∈ds,48 + d=c:=by simpa [txt] using hc
  obtain ⟨d,hd,e⟩:=hc'
  have:=h d hd
  omega
theorem dig_txt (ds:List Nat):dig (txt ds)=ds:=by
  unfold dig txt
  rw [List.map_map]
  have e:((fun x=>x - 48) ∘ fun x=>48 + x)=(id:Nat→Nat):=by funext x; show 48 + x - 48=x; omega
  rw [e,List.map_id]
theorem str_ext {a b:Str} (h:a.cps.toList=b.cps.toList):a=b:=by
  obtain ⟨a⟩:=a
  obtain ⟨b⟩:=b
  have h':a.toList=b.toList:=h
  have e:a=b:=Array.toList_inj.mp h'
  rw [e]
theorem txt_dig {z:Str} (h:IsC z):txt (dig z)=z:=by
  refine str_ext ?_
  have e:(txt (dig z)).cps.toList=(z.cps.toList.map (· - 48)).map (48 + ·):=rfl
  rw [e,List.map_map]
  have e2:∀ c∈z.cps.toList,((fun x=>48 + x) ∘ fun x=>x - 48) c=id c:=fun c hc=>by
    have:=h c hc
    show 48 + (c - 48)=c
    omega
  rw [List.map_congr_left e2,List.map_id]
theorem empty_eq:("" : Str)=⟨#[]⟩:=by decide +kernel
theorem join_one:∀ ds:List Nat,Txt.join ("" : Str) (ds.map one)=txt ds:=by
  intro ds
  have key:∀ ds:List Nat,Str.join ⟨#[]⟩ (ds.map one)=txt ds:=by
    intro ds
    induction ds with
    | nil=>rfl
    | cons d r ih =>
      cases r with
      | nil=>rfl
      | cons e r =>
        refine str_ext ?_
        show (one d++⟨#[]⟩++Str.join ⟨#[]⟩ ((e::r).map one)).cps.toList=_
        rw [ih]
        show ((#[48 + d] ++ #[])++(txt (e::r)).cps).toList=_
        simp [txt]
  rw [empty_eq]
  show Builtin.Str.glued ⟨#[]⟩ (ds.map one)=_
  rw [StrLaws.glued_eq_join]
  exact key ds

def pre (z:Str) (k:Nat):Str:=⟨(z.cps.toList.take k).toArray⟩
theorem slice_pre (z:Str) (k:Nat):Txt.slice z none (some (k:Int))=pre z k:=by
  by_cases h:k≤z.length
  · have e:=PyProof.Rows.slice_closes_to (x:=z) (j:=(k:Int)) ⟨by omega,by rw [← len_eq]; omega⟩
    rw [beq_iff_eq] at e
    rw [e]
    unfold pre
    simp
  · have e:Builtin.Str.strSliceIndices none (some (k:Int)) 1 z.length=(List.range z.length).map fun j:Nat=>(0 + 1 * (j:Int)).toNat:=by
      unfold Builtin.Str.strSliceIndices
      dsimp only
      unfold sliceRange
      have h1:¬ (k:Int) < 0:=by omega
      have h2:max (0:Int) (min (k:Int) (z.length:Int))=(z.length:Int):=by omega
      simp only [show (1:Int) > 0 by decide,if_true,h1,if_false,h2]
      by_cases h0:(0:Int) < (z.length:Int)
      · rw [if_pos h0]
        have e3:(((z.length:Int) - 0 + 1 - 1) / 1).toNat=z.length:=by omega
        rw [e3]
      · rw [if_neg h0]
        have e3:z.length=0:=by omega
        rw [e3]; rfl
    unfold Txt.slice
    rw [e,List.length_map,List.length_range]
    rw [if_pos (by simp)]
    refine str_ext ?_
    unfold pre
    rw [List.take_of_length_le (by rw [← len_eq]; omega)]
theorem pre_len (z:Str) (k:Nat):(pre z k).length=min k z.length:=by
  rw [len_eq,len_eq]; simp [pre]
theorem pre_isC {z:Str} (h:IsC z) (k:Nat):IsC (pre z k):=fun c hc=>h c (by
  have hc':c∈z.cps.toList.take k:=by simpa [pre] using hc
  exact List.mem_of_mem_take hc')

theorem app_len (a b:Str):(a++b).length=a.length + b.length:=by
  show (a.cps++b.cps).size=_
  rw [Array.size_append]; rfl
theorem at_q {d:Nat} (h:d < 4):atI ("0123" : Str).cps.toList (d:Int)=some (48 + d) :=
  four (P:=fun d=>atI ("0123" : Str).cps.toList (d:Int)=some (48 + d)) (by decide +kernel) (by decide +kernel) (by decide +kernel) (by decide +kernel) h
theorem q_len:("0123" : Str).length≤sizeLine:=by decide +kernel
end Qs
namespace Qs
open PySem L2

def oneB (a b c d:Tr):Bool:=a.isCol && (decide (a=a) && (decide (b=a) && (decide (c=a) && (decide (d=a) && true))))
def gath (a b c d:Tr):Tr:=if oneB a b c d then a else .four a b c d
def q0:Tr→Tr | .col i=>.col i | .four a _ _ _=>a
def q1:Tr→Tr | .col i=>.col i | .four _ b _ _=>b
def q2:Tr→Tr | .col i=>.col i | .four _ _ c _=>c
def q3:Tr→Tr | .col i=>.col i | .four _ _ _ d=>d
theorem oneB_iff {a b c d:Tr}:oneB a b c d=true↔a.isCol=true∧b=a∧c=a∧d=a:=by
  unfold oneB
  simp only [Bool.and_eq_true,decide_eq_true_eq,and_true,true_and]
theorem gath_parts (a b c d:Tr):q0 (gath a b c d)=a∧q1 (gath a b c d)=b∧q2 (gath a b c d)=c∧q3 (gath a b c d)=d:=by
  unfold gath
  by_cases h:oneB a b c d=true
  · rw [if_pos h]
    obtain ⟨h1,rfl,rfl,rfl⟩:=oneB_iff.mp h
    cases d with
    | col i=>exact ⟨rfl,rfl,rfl,rfl⟩
    | four=>cases h1
  · rw [if_neg h]; exact ⟨rfl,rfl,rfl,rfl⟩
theorem gath_deep {a b c d:Tr} {n:Nat} (ha:a.deep≤n) (hb:b.deep≤n) (hc:c.deep≤n) (hd:d.deep≤n):(gath a b c d).deep≤n + 1:=by
  unfold gath
  split
  · omega
  · show max a.deep (max b.deep (max c.deep d.deep)) + 1≤n + 1
    omega

def ShAt (H:Hp) (v:V) (n:Int) (t:Tr):Prop:=∃ p x,v=.ref p∧H p=some (.tup [.int n,x])∧TrAt H x t
theorem ShAt.up {H H':Hp} {v:V} {n:Int} {t:Tr} (h:ShAt H v n t) (s:Tups H H'):ShAt H' v n t:=by
  obtain ⟨p,x,e,hp,ht⟩:=h
  exact ⟨p,x,e,s _ _ hp,ht.up s⟩
theorem kit_it {K:PySem.W.Frag}:PySem.W.kitOne K (.type "int") (.type "tuple")=some false:=by kernel_rfl

def qk (t:Tr):Nat→Tr
  | 0=>q0 t
  | 1=>q1 t
  | 2=>q2 t
  | _=>q3 t
def put4 (t:Tr) (d:Nat) (x:Tr):Tr:=gath (if d=0 then x else q0 t) (if d=1 then x else q1 t) (if d=2 then x else q2 t) (if d=3 then x else q3 t)
def plant (t:Tr):List Nat→Tr→Tr
  | [],o=>o
  | d::ds,o=>put4 t d (plant (qk t d) ds o)
theorem qk_deep {t:Tr} {n d:Nat} (h:t.deep≤n + 1):(qk t d).deep≤n:=by
  cases t with
  | col i=>rcases d with _ | _ | _ | d <;> exact Nat.zero_le _
  | four a b c e =>
    have h':max a.deep (max b.deep (max c.deep e.deep)) + 1≤n + 1:=h
    rcases d with _ | _ | _ | d
    · show a.deep≤n; omega
    · show b.deep≤n; omega
    · show c.deep≤n; omega
    · show e.deep≤n; omega
theorem qk_deep' {t:Tr} {n d:Nat} (h:t.deep≤n):(qk t d).deep≤n:=by
  rcases n with _ | n
  · cases t with
    | col i=>rcases d with _ | _ | _ | d <;> exact Nat.zero_le _
    | four a b c e=>exact absurd h (by show ¬ _ + 1≤0; omega)
  · exact Nat.le_succ_of_le (qk_deep h)
theorem put4_deep {t x:Tr} {n d:Nat} (h:t.deep≤n + 1) (hx:x.deep≤n):(put4 t d x).deep≤n + 1:=by
  unfold put4
  have h0:=qk_deep (d:=0) h
  have h1:=qk_deep (d:=1) h
  have h2:=qk_deep (d:=2) h
  have h3:=qk_deep (d:=3) h
  refine gath_deep ?_ ?_ ?_ ?_ <;> split <;> assumption
theorem qk_put4 {t x:Tr} {d k:Nat} (hd:d < 4) (hk:k < 4):qk (put4 t d x) k=if k=d then x else qk t k:=by
  unfold put4
  obtain ⟨g0,g1,g2,g3⟩:=gath_parts (if d=0 then x else q0 t) (if d=1 then x else q1 t) (if d=2 then x else q2 t) (if d=3 then x else q3 t)
  rcases k with _ | _ | _ | _ | k
  · show q0 _=_
    rw [g0]
    by_cases h:d=0
    · rw [if_pos h,if_pos h.symm]
    · rw [if_neg h,if_neg (Ne.symm h)]; rfl
  · show q1 _=_
    rw [g1]
    by_cases h:d=1
    · rw [if_pos h,if_pos h.symm]
    · rw [if_neg h,if_neg (Ne.symm h)]; rfl
  · show q2 _=_
    rw [g2]
    by_cases h:d=2
    · rw [if_pos h,if_pos h.symm]
    · rw [if_neg h,if_neg (Ne.symm h)]; rfl
  · show q3 _=_
    rw [g3]
    by_cases h:d=3
    · rw [if_pos h,if_pos h.symm]
    · rw [if_neg h,if_neg (Ne.symm h)]; rfl
  · omega

def Good:Nat→Tr→Prop
  | _,.col i=>0≤i∧i≤35
  | 0,.four ..=>False
  | n + 1,.four a b c d=>Good n a∧Good n b∧Good n c∧Good n d∧oneB a b c d=false
theorem Good.deep:∀ {n:Nat} {t:Tr},Good n t→t.deep≤n
  | _,.col i,_=>Nat.zero_le _
  | 0,.four ..,h=>h.elim
  | n + 1,.four a b c d,⟨ha,hb,hc,hd,_⟩=>by
    have:=ha.deep
    have:=hb.deep
    have:=hc.deep
    have:=hd.deep
    show max a.deep (max b.deep (max c.deep d.deep)) + 1≤n + 1
    omega
theorem Good.col {n:Nat} {i:Int} (h:0≤i∧i≤35):Good n (.col i):=by cases n <;> exact h
theorem Good.q {n:Nat} {t:Tr} (h:Good (n + 1) t) (k:Nat):Good n (qk t k):=by
  cases t with
  | col i =>
    have z:Good n (.col i):=Good.col h
    rcases k with _ | _ | _ | k <;> exact z
  | four a b c d =>
    obtain ⟨ha,hb,hc,hd,_⟩:=h
    rcases k with _ | _ | _ | k
    · exact ha
    · exact hb
    · exact hc
    · exact hd
theorem Good.up {n:Nat} {t:Tr} (h:Good n t):Good (n + 1) t:=by
  induction t generalizing n with
  | col i=>exact Good.col (by cases n <;> exact h)
  | four a b c d ia ib ic id =>
    cases n with
    | zero=>exact h.elim
    | succ n =>
      obtain ⟨ha,hb,hc,hd,ho⟩:=h
      exact ⟨ia ha,ib hb,ic hc,id hd,ho⟩
theorem good_gath {n:Nat} {a b c d:Tr} (ha:Good n a) (hb:Good n b) (hc:Good n c) (hd:Good n d):Good (n + 1) (gath a b c d):=by
  unfold gath
  split
  · exact ha.up
  · rename_i h
    exact ⟨ha,hb,hc,hd,by simpa using h⟩
theorem good_put4 {n d:Nat} {t x:Tr} (h:Good (n + 1) t) (hx:Good n x):Good (n + 1) (put4 t d x):=by
  unfold put4
  have h0:=h.q 0
  have h1:=h.q 1
  have h2:=h.q 2
  have h3:=h.q 3
  refine good_gath ?_ ?_ ?_ ?_ <;> split <;> assumption
theorem good_plant:∀ {n:Nat} {ds:List Nat} {t o:Tr},ds.length≤n→Good n t→Good (n - ds.length) o→Good n (plant t ds o)
  | n,[],t,o,_,_,h=>h
  | 0,d::ds,t,o,hl,_,_=>by simp at hl
  | n + 1,d::ds,t,o,hl,ht,ho=>by
    have hl':ds.length≤n:=by simpa using hl
    refine good_put4 ht (good_plant hl' (ht.q d) ?_)
    have e:n + 1 - (d::ds).length=n - ds.length:=by simp
    rw [e] at ho
    exact ho
theorem plant_deep:∀ (ds:List Nat) (n:Nat) (t o:Tr),t.deep≤n→o.deep + ds.length≤n→(plant t ds o).deep≤n
  | [],n,t,o,_,h=>by show o.deep≤n; simpa using h
  | d::ds,0,t,o,_,h=>by simp at h
  | d::ds,n + 1,t,o,ht,ho=>by
    have ho':o.deep + ds.length≤n:=by simp at ho; omega
    exact put4_deep ht (plant_deep ds n (qk t d) o (qk_deep ht) ho')
section
variable {P:Program} {w:World} {K:PySem.W.Frag} {mg:Str→Option Value} {base:Heap} {CX:CXT} {f:Addr} {fd:FuncData}
theorem at4 {α:Type} {a b c d x:α} {i:Nat} (h:[a,b,c,d][i]? = some x):(i=0∧x=a)∨(i=1∧x=b)∨(i=2∧x=c)∨(i=3∧x=d):=by
  rcases i with _ | _ | _ | _ | i
  · exact .inl ⟨rfl,(Option.some.inj h).symm⟩
  · exact .inr (.inl ⟨rfl,(Option.some.inj h).symm⟩)
  · exact .inr (.inr (.inl ⟨rfl,(Option.some.inj h).symm⟩))
  · exact .inr (.inr (.inr ⟨rfl,(Option.some.inj h).symm⟩))
  · simp at h
theorem str_eq_nil {z:Str}:(z=("" : Str))↔z.length=0:=by
  constructor
  · rintro rfl; decide +kernel
  · intro h
    apply str_ext
    have e:z.cps.toList=[]:=List.eq_nil_of_length_eq_zero (by rw [← len_eq]; exact h)
    rw [e]; decide +kernel

def rst (z:Str):Str:=⟨(z.cps.toList.drop 1).toArray⟩
theorem slice_rst {z:Str} (h:0 < z.length):Txt.slice z (some 1) none=rst z:=by
  have e:=PyProof.Rows.slice_closes_from (x:=z) (i:=1) ⟨by decide,by rw [← len_eq]; omega⟩
  rw [beq_iff_eq] at e
  rw [e]
  unfold rst
  congr 2
  show (z.cps.toList.drop 1).take ((z.cps.toList.length:Int) - 1).toNat=_
  rw [List.take_of_length_le]
  rw [List.length_drop,← len_eq]; omega
theorem rst_len (z:Str):(rst z).length=z.length - 1:=by rw [len_eq,len_eq]; simp [rst]
theorem rst_isC {z:Str} (h:IsC z):IsC (rst z):=fun c hc=>h c (by
  have hc':c∈z.cps.toList.drop 1:=by simpa [rst] using hc
  exact List.mem_of_mem_drop hc')
theorem at_zero {z:Str} (h:0 < z.length):atI z.cps.toList 0=some (z.cps.getD 0 0):=by
  have hs:0 < z.cps.size:=h
  refine atI_nat (j:=0) ?_
  simp [Array.getD_eq_getD_getElem?,hs]
theorem Same.none {H H':Hp} {l:Addr} (s:Same H H') (h:H' l=none):H l=none:=by
  cases q:H l with
  | none=>rfl
  | some o=>rw [s _ _ q] at h; cases h
theorem fokF {x qual:Str} {st:Stmt} {dV:Value} {ps:List Str} (F:FunD K x qual st f fd dV) (b:Binds K fd ps []) (m:mg x=some (.ref f)):Fok P w K mg base CX 0 x ps [] (fun _ _ _ _=>False) :=
  ⟨f,fd,[],⟨fun _ _ _ _ h=>h.elim,fun _ _ _ _ _ _ _ _ _ _ _ _ _ h=>h.elim⟩,b,.nil,F.kp,m⟩
theorem dig_empty:dig ("" : Str)=[]:=by decide +kernel
theorem dig_rst {z:Str} (h:0 < z.length):dig z=(z.cps.getD 0 0 - 48)::dig (rst z):=by
  have hs:0 < z.cps.size:=h
  have hl:0 < z.cps.toList.length:=by simpa using hs
  have e:z.cps.toList=z.cps.getD 0 0::z.cps.toList.drop 1:=by
    have e1:=List.drop_eq_getElem_cons (l:=z.cps.toList) (i:=0) hl
    rw [List.drop_zero] at e1
    have e2:z.cps.getD 0 0=z.cps.toList[0]:=by simp [Array.getD_eq_getD_getElem?,hs]
    rw [e2]; exact e1
  unfold dig rst
  conv=>lhs; rw [e]
  rfl
end
end Qs
namespace Qs
open PySem L2
def cnt:Tr→Nat
  | .col _=>1
  | .four a b c d=>cnt a + cnt b + cnt c + cnt d
theorem cnt_gath (a b c d:Tr):cnt (gath a b c d)≤cnt a + cnt b + cnt c + cnt d:=by
  unfold gath
  split
  · omega
  · exact Nat.le_refl _
theorem cnt_q {t:Tr}:cnt (q0 t) + cnt (q1 t) + cnt (q2 t) + cnt (q3 t)≤cnt t + 3:=by
  cases t with
  | col i=>show 1 + 1 + 1 + 1≤1 + 3; decide
  | four a b c d=>show cnt a + cnt b + cnt c + cnt d≤cnt a + cnt b + cnt c + cnt d + 3; omega
theorem cnt_put4 {t x:Tr} {d:Nat} (hd:d < 4):cnt (put4 t d x) + cnt (qk t d)≤cnt t + 3 + cnt x:=by
  unfold put4
  have h:=cnt_gath (if d=0 then x else q0 t) (if d=1 then x else q1 t) (if d=2 then x else q2 t) (if d=3 then x else q3 t)
  have h2:=cnt_q (t:=t)
  generalize gath (if d=0 then x else q0 t) (if d=1 then x else q1 t) (if d=2 then x else q2 t) (if d=3 then x else q3 t)=g at *
  rcases d with _ | _ | _ | _ | d
  · have h':cnt g≤cnt x + cnt (q1 t) + cnt (q2 t) + cnt (q3 t):=h
    show cnt g + cnt (q0 t)≤_
    omega
  · have h':cnt g≤cnt (q0 t) + cnt x + cnt (q2 t) + cnt (q3 t):=h
    show cnt g + cnt (q1 t)≤_
    omega
  · have h':cnt g≤cnt (q0 t) + cnt (q1 t) + cnt x + cnt (q3 t):=h
    show cnt g + cnt (q2 t)≤_
    omega
  · have h':cnt g≤cnt (q0 t) + cnt (q1 t) + cnt (q2 t) + cnt x:=h
    show cnt g + cnt (q3 t)≤_
    omega
  · omega
theorem cnt_plant:∀ (ds:List Nat) (t o:Tr),(∀ d∈ds,d < 4)→cnt (plant t ds o)≤cnt t + 3 * ds.length + cnt o
  | [],t,o,_=>by show cnt o≤_; omega
  | d::ds,t,o,h=>by
    have h1:=cnt_put4 (t:=t) (x:=plant (qk t d) ds o) (h d List.mem_cons_self)
    have h2:=cnt_plant ds (qk t d) o fun x hx=>h x (List.mem_cons_of_mem _ hx)
    show cnt (put4 t d (plant (qk t d) ds o))≤_
    rw [List.length_cons]
    omega
theorem four_of (m:Int):∃ d:Nat,d < 4∧m % 4=(d:Int):=⟨(m % 4).toNat,by omega,by omega⟩
theorem dig_lt {z:Str} (hz:IsC z):∀ d∈dig z,d < 4:=fun d h=>by
  obtain ⟨c,hc,rfl⟩:=List.mem_map.mp h
  have:=hz c hc
  omega
def pk4 (a b c d:Tr):Nat→Tr
  | 0=>a
  | 1=>b
  | 2=>c
  | _=>d

def rear (o:Nat→Nat):Tr→Tr
  | .col i=>.col i
  | .four a b c d=>.four (pk4 (rear o a) (rear o b) (rear o c) (rear o d) (o 0)) (pk4 (rear o a) (rear o b) (rear o c) (rear o d) (o 1)) (pk4 (rear o a) (rear o b) (rear o c) (rear o d) (o 2)) (pk4 (rear o a) (rear o b) (rear o c) (rear o d) (o 3))
def oL:Nat→Nat
  | 0=>1
  | 1=>3
  | 2=>0
  | _=>2
def oM:Nat→Nat
  | 0=>1
  | 1=>0
  | 2=>3
  | _=>2
def oS:Nat→Nat
  | 0=>0
  | 1=>2
  | 2=>1
  | _=>3
theorem rearL (a b c d:Tr):rear oL (.four a b c d)=.four (rear oL b) (rear oL d) (rear oL a) (rear oL c):=rfl
theorem rear_col (o:Nat→Nat) (i:Int):rear o (.col i)=.col i:=rfl
theorem rear_LLLL (t:Tr):rear oL (rear oL (rear oL (rear oL t)))=t:=by
  induction t with
  | col i=>rfl
  | four a b c d ha hb hc hd=>simp only [rearL,ha,hb,hc,hd]
theorem qk_pk (a b c d:Tr) (k:Nat):qk (.four a b c d) k=pk4 a b c d k:=by rcases k with _ | _ | _ | k <;> rfl
theorem pk4_rear {o:Nat→Nat} (a b c d:Tr) (k:Nat):pk4 (rear o a) (rear o b) (rear o c) (rear o d) k=rear o (pk4 a b c d k):=by rcases k with _ | _ | _ | k <;> rfl
theorem qk_rear {o:Nat→Nat} (t:Tr) {k:Nat} (hk:k < 4):qk (rear o t) k=rear o (qk t (o k)):=by
  cases t with
  | col i =>
    have z:∀ k,qk (Tr.col i) k=.col i:=fun k=>by rcases k with _ | _ | _ | k <;> rfl
    rw [rear_col,z,z,rear_col]
  | four a b c d =>
    rw [qk_pk a b c d,← pk4_rear]
    rcases k with _ | _ | _ | _ | k
    · rfl
    · rfl
    · rfl
    · rfl
    · omega
theorem rear_deep {o:Nat→Nat}:∀ {t:Tr} {n:Nat},t.deep≤n→(rear o t).deep≤n
  | .col i,n,h=>h
  | .four a b c d,n,h=>by
    have h':max a.deep (max b.deep (max c.deep d.deep)) + 1≤n:=h
    rcases n with _ | n
    · omega
    have ha:=rear_deep (o:=o) (t:=a) (n:=n) (by omega)
    have hb:=rear_deep (o:=o) (t:=b) (n:=n) (by omega)
    have hc:=rear_deep (o:=o) (t:=c) (n:=n) (by omega)
    have hd:=rear_deep (o:=o) (t:=d) (n:=n) (by omega)
    have key:∀ k,(pk4 (rear o a) (rear o b) (rear o c) (rear o d) k).deep≤n:=fun k=>by rcases k with _ | _ | _ | k <;> assumption
    have k0:=key (o 0)
    have k1:=key (o 1)
    have k2:=key (o 2)
    have k3:=key (o 3)
    show max (Tr.deep _) (max (Tr.deep _) (max (Tr.deep _) (Tr.deep _))) + 1≤n + 1
    omega
theorem rear_isCol {o:Nat→Nat} (t:Tr):(rear o t).isCol=t.isCol:=by cases t <;> rfl

structure Ord4 (o:Nat→Nat):Prop where
  inj:∀ x y,rear o x=rear o y→x=y
  one:∀ a b c d,oneB a b c d=false→oneB (pk4 a b c d (o 0)) (pk4 a b c d (o 1)) (pk4 a b c d (o 2)) (pk4 a b c d (o 3))=false
  lt:∀ k,o k < 4
theorem not_true {b:Bool} (h:b=true→False):b=false:=by cases b <;> simp_all
theorem ordL:Ord4 oL:=by
  refine ⟨fun x y h => ?_,fun a b c d h=>not_true fun z => ?_,fun k=>by rcases k with _ | _ | _ | k <;> first | decide | (show (2:Nat) < 4; decide) | (show (3:Nat) < 4; decide)⟩
  · have e:=congrArg (fun z=>rear oL (rear oL (rear oL z))) h
    simpa only [rear_LLLL] using e
  · obtain ⟨h1,h2,h3,h4⟩:=oneB_iff.mp z
    have h1':b.isCol=true:=h1
    have h2':d=b:=h2
    have h3':a=b:=h3
    have h4':c=b:=h4
    subst h2' h3' h4'
    rw [oneB_iff.mpr ⟨h1',rfl,rfl,rfl⟩] at h
    cases h
theorem good_rear {o:Nat→Nat} (O:Ord4 o):∀ (t:Tr) (n:Nat),Good n t→Good n (rear o t)
  | .col i,n,h=>h
  | .four a b c d,0,h=>h.elim
  | .four a b c d,n + 1,⟨ha,hb,hc,hd,ho⟩=>by
    have ga:=good_rear O a n ha
    have gb:=good_rear O b n hb
    have gc:=good_rear O c n hc
    have gd:=good_rear O d n hd
    have key:∀ k,Good n (pk4 (rear o a) (rear o b) (rear o c) (rear o d) k):=fun k=>by rcases k with _ | _ | _ | k <;> assumption
    refine ⟨key _,key _,key _,key _,O.one _ _ _ _ (not_true fun z => ?_)⟩
    obtain ⟨h1,h2,h3,h4⟩:=oneB_iff.mp z
    rw [rear_isCol] at h1
    rw [oneB_iff.mpr ⟨h1,O.inj _ _ h2,O.inj _ _ h3,O.inj _ _ h4⟩] at ho
    cases ho
def bit (x l:Nat):Nat:=x / 2 ^ l % 2
theorem bit_lt (x l:Nat):bit x l < 2:=Nat.mod_lt _ (by decide)

def colAt:Nat→Tr→Nat→Nat→Int
  | _,.col i,_,_=>i
  | 0,.four ..,_,_=>0
  | l + 1,.four a b c d,x,y=>colAt l (pk4 a b c d (bit x l + 2 * bit y l)) x y
theorem colAt_col (l:Nat) (i:Int) (x y:Nat):colAt l (.col i) x y=i:=by cases l <;> rfl
theorem colAt_step (l:Nat) (t:Tr) (x y:Nat):colAt (l + 1) t x y=colAt l (qk t (bit x l + 2 * bit y l)) x y:=by
  cases t with
  | col i =>
    have z:∀ k,qk (Tr.col i) k=.col i:=fun k=>by rcases k with _ | _ | _ | k <;> rfl
    rw [z,colAt_col,colAt_col]
  | four a b c d=>rw [qk_pk]; rfl
theorem colAt_rear {o:Nat→Nat} {n x y X Y:Nat} (h:∀ l,l < n→o (bit X l + 2 * bit Y l)=bit x l + 2 * bit y l):∀ (l:Nat) (t:Tr),l≤n→t.deep≤l→colAt l (rear o t) X Y=colAt l t x y
  | 0,.col i,_,_=>rfl
  | 0,.four a b c d,_,ht=>absurd ht (by show ¬ _ + 1≤0; omega)
  | l + 1,t,hl,ht=>by
    have b1:=bit_lt X l
    have b2:=bit_lt Y l
    rw [colAt_step,colAt_step,qk_rear t (by omega),h l (by omega)]
    exact colAt_rear h l _ (by omega) (qk_deep ht)
theorem bit_flip {n x l:Nat} (hx:x < 2 ^ n) (hl:l < n):bit (2 ^ n - 1 - x) l=1 - bit x l:=by
  have e:=Nat.testBit_two_pow_sub_succ hx l
  have e1:2 ^ n - (x + 1)=2 ^ n - 1 - x:=by omega
  rw [e1,decide_eq_true hl,Bool.true_and] at e
  rw [Nat.testBit_eq_decide_div_mod_eq,Nat.testBit_eq_decide_div_mod_eq] at e
  unfold bit
  have a1:=Nat.mod_lt ((2 ^ n - 1 - x) / 2 ^ l) (show 2 > 0 by decide)
  have a2:=Nat.mod_lt (x / 2 ^ l) (show 2 > 0 by decide)
  generalize (2 ^ n - 1 - x) / 2 ^ l % 2=u at *
  generalize x / 2 ^ l % 2=v at *
  rcases u with _ | _ | u <;> rcases v with _ | _ | v <;> simp_all <;> omega
def od:Nat→Nat→Nat
  | 0=>oL
  | 1=>oM
  | _=>oS
def thX (d L x y:Nat):Nat:=match d with | 0=>y | 1=>L - x | _=>y
def thY (d L x y:Nat):Nat:=match d with | 0=>L - x | 1=>y | _=>x
def bkX (d L x y:Nat):Nat:=match d with | 0=>L - y | 1=>L - x | _=>y
def bkY (d L x y:Nat):Nat:=match d with | 0=>x | 1=>y | _=>x
theorem th_bits (d:Nat) {n x y:Nat} (hx:x < 2 ^ n) (hy:y < 2 ^ n) (l:Nat) (hl:l < n):od d (bit (thX d (2 ^ n - 1) x y) l + 2 * bit (thY d (2 ^ n - 1) x y) l)=bit x l + 2 * bit y l:=by
  have b1:=bit_lt x l
  have b2:=bit_lt y l
  rcases d with _ | _ | d
  · show oL (bit y l + 2 * bit (2 ^ n - 1 - x) l)=_
    rw [bit_flip hx hl]
    generalize bit x l=u at *
    generalize bit y l=v at *
    rcases u with _ | _ | u <;> rcases v with _ | _ | v <;> first | rfl | omega
  · show oM (bit (2 ^ n - 1 - x) l + 2 * bit y l)=_
    rw [bit_flip hx hl]
    generalize bit x l=u at *
    generalize bit y l=v at *
    rcases u with _ | _ | u <;> rcases v with _ | _ | v <;> first | rfl | omega
  · show oS (bit y l + 2 * bit x l)=_
    generalize bit x l=u at *
    generalize bit y l=v at *
    rcases u with _ | _ | u <;> rcases v with _ | _ | v <;> first | rfl | omega
theorem bk_th (d:Nat) {L x y:Nat} (hx:x≤L) (hy:y≤L):thX d L (bkX d L x y) (bkY d L x y)=x∧thY d L (bkX d L x y) (bkY d L x y)=y:=by
  rcases d with _ | _ | d
  · exact ⟨rfl,by show L - (L - y)=y; omega⟩
  · exact ⟨by show L - (L - x)=x; omega,rfl⟩
  · exact ⟨rfl,rfl⟩
theorem bk_le (d:Nat) {L x y:Nat} (hx:x≤L) (hy:y≤L):bkX d L x y≤L∧bkY d L x y≤L:=by
  rcases d with _ | _ | d
  · exact ⟨Nat.sub_le _ _,hx⟩
  · exact ⟨Nat.sub_le _ _,hy⟩
  · exact ⟨hy,hx⟩
theorem col_there (d:Nat) {n x y:Nat} {t:Tr} (ht:t.deep≤n) (hx:x < 2 ^ n) (hy:y < 2 ^ n):colAt n (rear (od d) t) (thX d (2 ^ n - 1) x y) (thY d (2 ^ n - 1) x y)=colAt n t x y :=
  colAt_rear (th_bits d hx hy) n t (Nat.le_refl _) ht
theorem col_back (d:Nat) {n x y:Nat} {t:Tr} (ht:t.deep≤n) (hx:x < 2 ^ n) (hy:y < 2 ^ n):colAt n t (bkX d (2 ^ n - 1) x y) (bkY d (2 ^ n - 1) x y)=colAt n (rear (od d) t) x y:=by
  obtain ⟨e1,e2⟩:=bk_th d (L:=2 ^ n - 1) (x:=x) (y:=y) (by omega) (by omega)
  obtain ⟨l1,l2⟩:=bk_le d (L:=2 ^ n - 1) (x:=x) (y:=y) (by omega) (by omega)
  have p:0 < 2 ^ n:=Nat.two_pow_pos n
  have e:=col_there d (n:=n) (x:=bkX d (2 ^ n - 1) x y) (y:=bkY d (2 ^ n - 1) x y) ht (by omega) (by omega)
  rw [e1,e2] at e
  exact e.symm

theorem bit_in {x x' l e:Nat} (hx:x % 2 ^ (l + 1)=0) (he:e < 2) (h1:x + e * 2 ^ l≤x') (h2:x' < x + e * 2 ^ l + 2 ^ l):bit x' l=e:=by
  unfold bit
  obtain ⟨q,hq⟩:∃ q,x=2 ^ (l + 1) * q:=⟨x / 2 ^ (l + 1),(Nat.mul_div_cancel' (Nat.dvd_of_mod_eq_zero hx)).symm⟩
  have p:0 < 2 ^ l:=Nat.two_pow_pos l
  have e1:x' / 2 ^ l=2 * q + e:=by
    have hb:x=(2 * q) * 2 ^ l:=by rw [hq,Nat.pow_succ]; rw [Nat.mul_comm (2 ^ l) 2,Nat.mul_assoc,Nat.mul_comm (2 ^ l) q,Nat.mul_assoc]
    refine Nat.div_eq_of_lt_le ?_ ?_
    · rw [Nat.add_mul,← hb]; exact h1
    · rw [Nat.add_mul,Nat.add_mul,← hb,Nat.one_mul]; exact h2
  rw [e1]; omega
theorem cell_mod {x l e:Nat} (hx:x % 2 ^ (l + 1)=0):(x + e * 2 ^ l) % 2 ^ l=0:=by
  have d1:2 ^ l ∣ x:=Nat.dvd_trans ⟨2,by rw [Nat.pow_succ]⟩ (Nat.dvd_of_mod_eq_zero hx)
  exact Nat.mod_eq_zero_of_dvd (Nat.dvd_add d1 (Nat.dvd_mul_left _ _))
theorem bitAnd_bit (x l:Nat):Builtin.bitAnd ((x:Int) / 2 ^ ((l:Int)).toNat) 1=((bit x l:Nat):Int):=by
  have e:(x:Int) / 2 ^ ((l:Int)).toNat=((x / 2 ^ l:Nat):Int):=by
    rw [Int.toNat_natCast]; simp
  rw [e,PyProof.Rows.bitAnd_pp (Int.natCast_nonneg _) (by decide)]
  show (((x / 2 ^ l) &&& 1:Nat):Int)=_
  rw [Nat.and_one_is_mod]; rfl
def paintAll (t:Tr) (L:List (List Nat × Int)):Tr:=L.foldl (fun t p=>plant t p.1 (.col p.2)) t
theorem paintAll_snoc (t:Tr) (L:List (List Nat × Int)) (p:List Nat × Int):paintAll t (L++[p])=plant (paintAll t L) p.1 (.col p.2):=by unfold paintAll; rw [List.foldl_append]; rfl

def POk (n:Nat) (p:List Nat × Int):Prop:=(∀ d∈p.1,d < 4)∧p.1.length≤n∧0≤p.2∧p.2≤35
theorem good_all {n:Nat}:∀ (L:List (List Nat × Int)) (t:Tr),(∀ p∈L,POk n p)→Good n t→Good n (paintAll t L)
  | [],_,_,g=>g
  | p::L,t,h,g=>by
    obtain ⟨_,h2,h3⟩:=h p List.mem_cons_self
    exact good_all L _ (fun q hq=>h q (List.mem_cons_of_mem _ hq)) (good_plant h2 g (Good.col h3))

def subP (d:Nat):List (List Nat × Int)→List (List Nat × Int)
  | []=>[]
  | ([],_)::M=>subP d M
  | (e::ds,c)::M=>if e=d then (ds,c)::subP d M else subP d M
theorem subP_app (d:Nat):∀ A B:List (List Nat × Int),subP d (A++B)=subP d A++subP d B
  | [],_=>rfl
  | ([],_)::A,B=>subP_app d A B
  | (e::ds,c)::A,B=>by
    show (if e=d then (ds,c)::subP d (A++B) else subP d (A++B))=(if e=d then (ds,c)::subP d A else subP d A)++subP d B
    by_cases h:e=d
    · rw [if_pos h,if_pos h,subP_app d A B]; rfl
    · rw [if_neg h,if_neg h,subP_app d A B]
theorem gath_qk (a b c d:Tr):gath (qk (gath a b c d) 0) (qk (gath a b c d) 1) (qk (gath a b c d) 2) (qk (gath a b c d) 3)=gath a b c d:=by
  obtain ⟨h0,h1,h2,h3⟩:=gath_parts a b c d
  show gath (q0 _) (q1 _) (q2 _) (q3 _)=_
  rw [h0,h1,h2,h3]
theorem paintAll_four:∀ (M:List (List Nat × Int)) (t:Tr),(∀ p∈M,p.1≠[]∧∀ d∈p.1,d < 4)→gath (qk t 0) (qk t 1) (qk t 2) (qk t 3)=t →
    paintAll t M=gath (paintAll (qk t 0) (subP 0 M)) (paintAll (qk t 1) (subP 1 M)) (paintAll (qk t 2) (subP 2 M)) (paintAll (qk t 3) (subP 3 M))
  | [],t,_,h=>h.symm
  | ([],c)::M,t,h,_=>absurd rfl (h _ List.mem_cons_self).1
  | (e::ds,c)::M,t,h,_=>by
    have he:e < 4:=(h _ List.mem_cons_self).2 e List.mem_cons_self
    have ih:=paintAll_four M (put4 t e (plant (qk t e) ds (.col c))) (fun p hp=>h p (List.mem_cons_of_mem _ hp)) (gath_qk _ _ _ _)
    have key:∀ d,d < 4→paintAll (qk (put4 t e (plant (qk t e) ds (.col c))) d) (subP d M)=paintAll (qk t d) (subP d ((e::ds,c)::M)):=fun d hd=>by
      rw [qk_put4 he hd]
      show _=paintAll (qk t d) (if e=d then (ds,c)::subP d M else subP d M)
      by_cases k:d=e
      · rw [if_pos k,if_pos k.symm,k]; rfl
      · rw [if_neg k,if_neg (Ne.symm k)]
    show paintAll (plant t (e::ds) (.col c)) M=_
    rw [← key 0 (by decide),← key 1 (by decide),← key 2 (by decide),← key 3 (by decide),← ih]
    rfl
def lvs:List Nat→Tr→List (List Nat × Int)
  | z,.col i=>[(z,i)]
  | z,.four a b c d=>lvs (z++[0]) a++(lvs (z++[1]) b++(lvs (z++[2]) c++lvs (z++[3]) d))
def norm:Tr→Tr
  | .col i=>.col i
  | .four a b c d=>gath (norm a) (norm b) (norm c) (norm d)

def Nm:Tr→Prop
  | .col _=>True
  | .four a b c d=>Nm a∧Nm b∧Nm c∧Nm d∧oneB a b c d=false
theorem nm_gath {a b c d:Tr} (ha:Nm a) (hb:Nm b) (hc:Nm c) (hd:Nm d):Nm (gath a b c d):=by
  unfold gath
  by_cases h:oneB a b c d=true
  · rw [if_pos h]; exact ha
  · rw [if_neg h]; exact ⟨ha,hb,hc,hd,by simpa using h⟩
theorem nm_norm:∀ S:Tr,Nm (norm S)
  | .col _=>trivial
  | .four a b c d=>nm_gath (nm_norm a) (nm_norm b) (nm_norm c) (nm_norm d)
def four4 (w:List Nat) (c:Int):List (List Nat × Int):=[(w++[0],c),(w++[1],c),(w++[2],c),(w++[3],c)]
def EndsF (X:List (List Nat × Int)):Prop:=∃ Y w c,X=Y++four4 w c
inductive Red:List (List Nat × Int)→List (List Nat × Int)→Prop
  | done {X:List (List Nat × Int)}:¬ EndsF X→Red X X
  | step {Y:List (List Nat × Int)} {w:List Nat} {c:Int} {R:List (List Nat × Int)}:Red (Y++[(w,c)]) R→Red (Y++four4 w c) R
inductive Runs:List (List Nat × Int)→List (List Nat × Int)→List (List Nat × Int)→Prop
  | nil {R:List (List Nat × Int)}:Runs R [] R
  | cons {R R1 R' L:List (List Nat × Int)} {q:List Nat × Int}:Red (R++[q]) R1→Runs R1 L R'→Runs R (q::L) R'
theorem Runs.split:∀ {A B R R':List (List Nat × Int)},Runs R (A++B) R'→∃ R1,Runs R A R1∧Runs R1 B R'
  | [],_,R,_,h=>⟨R,.nil,h⟩
  | q::A,B,R,R',h=>by
    have h':Runs R (q::(A++B)) R':=h
    cases h' with
    | cons h1 h2 =>
      obtain ⟨R2,h3,h4⟩:=Runs.split h2
      exact ⟨R2,.cons h1 h3,h4⟩
theorem Runs.snoc:∀ {A R R1 R':List (List Nat × Int)} {q:List Nat × Int},Runs R A R1→Red (R1++[q]) R'→Runs R (A++[q]) R'
  | [],_,_,_,_,h,h2=>by cases h; exact .cons h2 .nil
  | _::_,_,_,_,_,h,h2=>by
    cases h with
    | cons h1 h3=>exact .cons h1 (Runs.snoc h3 h2)
theorem Red.stay {X R:List (List Nat × Int)} (h:Red X R) (n:¬ EndsF X):R=X:=by
  cases h with
  | done _=>rfl
  | step h=>exact absurd ⟨_,_,_,rfl⟩ n
theorem Red.next {Y R:List (List Nat × Int)} {w:List Nat} {c:Int} (h:Red (Y++four4 w c) R):Red (Y++[(w,c)]) R:=by
  generalize hX:Y++four4 w c=X at h
  cases h with
  | done n=>exact absurd ⟨Y,w,c,hX.symm⟩ n
  | @step Y' w' c' _ h =>
    have e:=List.append_inj' hX (by rfl)
    obtain ⟨e1,e2⟩:=e
    unfold four4 at e2
    simp only [List.cons.injEq,Prod.mk.injEq,List.append_cancel_right_eq] at e2
    obtain ⟨⟨e3,e4⟩,_⟩:=e2
    rw [e1,e3,e4]; exact h
theorem lvs_len:∀ (t:Tr) (z:List Nat) (q:List Nat × Int),q∈lvs z t→z.length≤q.1.length
  | .col i,z,q,h=>by rw [List.mem_singleton.mp h]; exact Nat.le_refl _
  | .four a b c d,z,q,h=>by
    have h':q∈lvs (z++[0]) a++(lvs (z++[1]) b++(lvs (z++[2]) c++lvs (z++[3]) d)):=h
    simp only [List.mem_append] at h'
    rcases h' with h | h | h | h
    · have:=lvs_len a _ q h; simp at this; omega
    · have:=lvs_len b _ q h; simp at this; omega
    · have:=lvs_len c _ q h; simp at this; omega
    · have:=lvs_len d _ q h; simp at this; omega

theorem lvs_last:∀ (t:Tr) (z:List Nat),∃ (X:List (List Nat × Int)) (q:List Nat × Int),lvs z t=X++[q]∧(q.1=z→t=.col q.2∧X=[])
  | .col i,z=>⟨[],(z,i),rfl,fun _=>⟨rfl,rfl⟩⟩
  | .four a b c d,z=>by
    obtain ⟨X,q,e,_⟩:=lvs_last d (z++[3])
    refine ⟨lvs (z++[0]) a++(lvs (z++[1]) b++(lvs (z++[2]) c++X)),q,?_,fun h => ?_⟩
    · show lvs (z++[0]) a++(lvs (z++[1]) b++(lvs (z++[2]) c++lvs (z++[3]) d))=_
      rw [e]; simp
    · have:=lvs_len d (z++[3]) q (by rw [e]; simp)
      rw [h] at this
      simp at this
      omega

theorem lvs_strip {t:Tr} {z:List Nat} {i:Int} {R Y:List (List Nat × Int)} (h:R++lvs z t=Y++[(z,i)]):t=.col i∧R=Y:=by
  obtain ⟨X,q,e,hq⟩:=lvs_last t z
  rw [e,← List.append_assoc] at h
  obtain ⟨h1,h2⟩:=List.append_inj' h rfl
  have h3:q=(z,i):=by simpa using h2
  obtain ⟨h4,h5⟩:=hq (by rw [h3])
  refine ⟨by rw [h4,h3],?_⟩
  rw [h5,List.append_nil] at h1
  exact h1
theorem noFour:∀ (t:Tr) (z:List Nat) (R:List (List Nat × Int)),Nm t→t.isCol=false→¬ EndsF (R++lvs z t)
  | .col _,_,_,_,h=>by cases h
  | .four a b c d,z,R,⟨ha,hb,hc,hd,ho⟩,_=>by
    rintro ⟨Y,w,x,e⟩
    have e':(R++lvs (z++[0]) a++lvs (z++[1]) b++lvs (z++[2]) c)++lvs (z++[3]) d=Y++four4 w x:=by rw [← e]; show _=R++(lvs (z++[0]) a++(lvs (z++[1]) b++(lvs (z++[2]) c++lvs (z++[3]) d))); simp
    cases hdc:d.isCol with
    | false=>exact noFour d (z++[3]) _ hd hdc ⟨Y,w,x,e'⟩
    | true =>
      cases d with
      | four=>cases hdc
      | col i =>
        have e2:(R++lvs (z++[0]) a++lvs (z++[1]) b++lvs (z++[2]) c)++[(z++[3],i)]=(Y++[(w++[0],x),(w++[1],x),(w++[2],x)])++[(w++[3],x)]:=by
          have e4:Y++four4 w x=(Y++[(w++[0],x),(w++[1],x),(w++[2],x)])++[(w++[3],x)]:=by unfold four4; simp
          rw [← e4]; exact e'
        obtain ⟨e3,e4⟩:=List.append_inj' e2 rfl
        simp only [List.cons.injEq,Prod.mk.injEq,List.append_cancel_right_eq,and_true] at e4
        obtain ⟨rfl,rfl⟩:=e4
        have e5:(R++lvs (z++[0]) a++lvs (z++[1]) b)++lvs (z++[2]) c=(Y++[(z++[0],i),(z++[1],i)])++[(z++[2],i)]:=by rw [e3]; simp
        obtain ⟨rfl,e6⟩:=lvs_strip e5
        have e7:(R++lvs (z++[0]) a)++lvs (z++[1]) b=(Y++[(z++[0],i)])++[(z++[1],i)]:=by rw [e6]; simp
        obtain ⟨rfl,e8⟩:=lvs_strip e7
        obtain ⟨rfl,_⟩:=lvs_strip e8
        rw [oneB_iff.mpr ⟨rfl,rfl,rfl,rfl⟩] at ho
        cases ho
theorem noThree {t:Tr} {z:List Nat} {k:Nat} (R:List (List Nat × Int)) (ht:Nm t) (hk:k≠3):¬ EndsF (R++lvs (z++[k]) t):=by
  cases hc:t.isCol with
  | false=>exact noFour t _ R ht hc
  | true =>
    cases t with
    | four=>cases hc
    | col i =>
      rintro ⟨Y,w,x,e⟩
      have e2:R++[(z++[k],i)]=(Y++[(w++[0],x),(w++[1],x),(w++[2],x)])++[(w++[3],x)]:=by
        have e4:Y++four4 w x=(Y++[(w++[0],x),(w++[1],x),(w++[2],x)])++[(w++[3],x)]:=by unfold four4; simp
        rw [← e4]; exact e
      obtain ⟨_,e4⟩:=List.append_inj' e2 rfl
      have e5:z++[k]=w++[3]:=by simpa using congrArg (fun l=>l.map Prod.fst) e4
      obtain ⟨_,e6⟩:=List.append_inj' e5 rfl
      exact hk (by simpa using e6)
theorem runs_lvs:∀ (S:Tr) (z:List Nat) (R R':List (List Nat × Int)),Runs R (lvs z S) R'→Red (R++lvs z (norm S)) R'
  | .col i,z,R,R',h=>by
    have h':Runs R [(z,i)] R':=h
    cases h' with
    | cons h1 h2=>cases h2; exact h1
  | .four a b c d,z,R,R',h=>by
    obtain ⟨R1,h1,h⟩:=Runs.split (A:=lvs (z++[0]) a) h
    obtain ⟨R2,h2,h⟩:=Runs.split (A:=lvs (z++[1]) b) h
    obtain ⟨R3,h3,h4⟩:=Runs.split (A:=lvs (z++[2]) c) h
    have e1:=(runs_lvs a _ _ _ h1).stay (noThree R (nm_norm a) (by decide))
    subst e1
    have e2:=(runs_lvs b _ _ _ h2).stay (noThree _ (nm_norm b) (by decide))
    subst e2
    have e3:=(runs_lvs c _ _ _ h3).stay (noThree _ (nm_norm c) (by decide))
    subst e3
    have r:=runs_lvs d _ _ _ h4
    show Red (R++lvs z (gath (norm a) (norm b) (norm c) (norm d))) R'
    unfold gath
    by_cases ho:oneB (norm a) (norm b) (norm c) (norm d)=true
    · rw [if_pos ho]
      obtain ⟨k1,k2,k3,k4⟩:=oneB_iff.mp ho
      rw [k2,k3,k4] at r
      cases hna:norm a with
      | four=>rw [hna] at k1; cases k1
      | col i =>
        rw [hna] at r
        refine Red.next (w:=z) (c:=i) (Y:=R) ?_
        have e:R++four4 z i=R++lvs (z++[0]) (.col i)++lvs (z++[1]) (.col i)++lvs (z++[2]) (.col i)++lvs (z++[3]) (.col i):=by simp [lvs,four4]
        rw [e]; exact r
    · rw [if_neg ho]
      have e:R++lvs z (.four (norm a) (norm b) (norm c) (norm d))=R++lvs (z++[0]) (norm a)++lvs (z++[1]) (norm b)++lvs (z++[2]) (norm c)++lvs (z++[3]) (norm d):=by simp [lvs]
      rw [e]; exact r
theorem settled_lvs {S:Tr} {R:List (List Nat × Int)} (h:Runs [] (lvs [] S) R):R=lvs [] (norm S):=by
  have r:=runs_lvs S [] [] R h
  rw [List.nil_append] at r
  refine r.stay ?_
  cases hc:(norm S).isCol with
  | false =>
    have:=noFour (norm S) [] [] (nm_norm S) hc
    rw [List.nil_append] at this
    exact this
  | true =>
    cases hn:norm S with
    | four=>rw [hn] at hc; cases hc
    | col i =>
      rintro ⟨Y,w,x,e⟩
      have:=congrArg List.length e
      simp [lvs,four4] at this

theorem lvs_count:∀ (t:Tr) (z:List Nat),(lvs z t).length=cnt t
  | .col _,_=>rfl
  | .four a b c d,z=>by
    show (lvs (z++[0]) a++(lvs (z++[1]) b++(lvs (z++[2]) c++lvs (z++[3]) d))).length=cnt a + cnt b + cnt c + cnt d
    rw [List.length_append,List.length_append,List.length_append,lvs_count a,lvs_count b,lvs_count c,lvs_count d]; omega

def node:Tr→List Nat→Option Tr
  | t,[]=>some t
  | .col _,_::_=>none
  | .four a b c d,k::w=>node (qk (.four a b c d) k) w
theorem lvs_node:∀ (t:Tr) (z:List Nat) (q:List Nat × Int),q∈lvs z t→∃ w,q.1=z++w∧node t w=some (.col q.2)
  | .col i,z,q,h=>by rw [List.mem_singleton.mp h]; exact ⟨[],by simp,rfl⟩
  | .four a b c d,z,q,h=>by
    have h':q∈lvs (z++[0]) a++(lvs (z++[1]) b++(lvs (z++[2]) c++lvs (z++[3]) d)):=h
    simp only [List.mem_append] at h'
    rcases h' with h | h | h | h
    · obtain ⟨w,e,n⟩:=lvs_node a _ q h; exact ⟨0::w,by rw [e]; simp,n⟩
    · obtain ⟨w,e,n⟩:=lvs_node b _ q h; exact ⟨1::w,by rw [e]; simp,n⟩
    · obtain ⟨w,e,n⟩:=lvs_node c _ q h; exact ⟨2::w,by rw [e]; simp,n⟩
    · obtain ⟨w,e,n⟩:=lvs_node d _ q h; exact ⟨3::w,by rw [e]; simp,n⟩
def Bef (x y:List Nat):Prop:=∃ w d u e v,x=w++d::u∧y=w++e::v∧d < e
theorem lvs_pre (t:Tr) (z:List Nat) (q:List Nat × Int) (h:q∈lvs z t):∃ w,q.1=z++w:=by
  obtain ⟨w,e,_⟩:=lvs_node t z q h
  exact ⟨w,e⟩
theorem bef_parts {t u:Tr} {z:List Nat} {d e:Nat} (hde:d < e) {p q:List Nat × Int} (hp:p∈lvs (z++[d]) t) (hq:q∈lvs (z++[e]) u):Bef p.1 q.1:=by
  obtain ⟨w1,e1⟩:=lvs_pre _ _ _ hp
  obtain ⟨w2,e2⟩:=lvs_pre _ _ _ hq
  exact ⟨z,d,w1,e,w2,by rw [e1]; simp,by rw [e2]; simp,hde⟩
theorem lvs_sorted:∀ (t:Tr) (z:List Nat),(lvs z t).Pairwise fun p q=>Bef p.1 q.1
  | .col i,z=>List.pairwise_singleton _ _
  | .four a b c d,z=>by
    show (lvs (z++[0]) a++(lvs (z++[1]) b++(lvs (z++[2]) c++lvs (z++[3]) d))).Pairwise _
    refine List.pairwise_append.mpr ⟨lvs_sorted a _,List.pairwise_append.mpr ⟨lvs_sorted b _,List.pairwise_append.mpr ⟨lvs_sorted c _,lvs_sorted d _,fun p hp q hq=>bef_parts (by decide) hp hq⟩,fun p hp q hq => ?_⟩,fun p hp q hq => ?_⟩
    · rcases List.mem_append.mp hq with hq | hq
      · exact bef_parts (by decide) hp hq
      · exact bef_parts (by decide) hp hq
    · rcases List.mem_append.mp hq with hq | hq
      · exact bef_parts (by decide) hp hq
      · rcases List.mem_append.mp hq with hq | hq
        · exact bef_parts (by decide) hp hq
        · exact bef_parts (by decide) hp hq
theorem bef_lt {x y:List Nat} (h:Bef x y):x.map (48 + ·) < y.map (48 + ·):=by
  obtain ⟨w,d,u,e,v,rfl,rfl,hde⟩:=h
  rw [List.map_append,List.map_append]
  induction w with
  | nil=>exact List.Lex.rel (show 48 + d < 48 + e by omega)
  | cons a w ih=>exact List.Lex.cons ih
def colv:Tr→Int
  | .col i=>i
  | .four ..=>0
def allCol (ts:List Tr):Bool:=ts.all Tr.isCol
def blend (g:List Int→Int):Nat→List Tr→Tr
  | 0,ts=>.col (g (ts.map colv))
  | n + 1,ts=>if allCol ts=true then .col (g (ts.map colv)) else
    gath (blend g n (ts.map (qk · 0))) (blend g n (ts.map (qk · 1))) (blend g n (ts.map (qk · 2))) (blend g n (ts.map (qk · 3)))
theorem blend_deep (g:List Int→Int):∀ (n:Nat) (ts:List Tr),(blend g n ts).deep≤n
  | 0,ts=>Nat.le_refl 0
  | n + 1,ts=>by
    unfold blend
    split
    · exact Nat.zero_le _
    · exact gath_deep (blend_deep g n _) (blend_deep g n _) (blend_deep g n _) (blend_deep g n _)
theorem allCol_zero {ts:List Tr} (h:∀ t∈ts,t.deep≤0):allCol ts=true:=List.all_eq_true.mpr fun t ht=>by
  have:=h t ht
  cases t with
  | col i=>rfl
  | four a b c d=>exact absurd this (by show ¬ _ + 1≤0; omega)
theorem blend_col {g:List Int→Int} {n:Nat} {ts:List Tr} (h:allCol ts=true):blend g n ts=.col (g (ts.map colv)):=by
  cases n with
  | zero=>rfl
  | succ n=>unfold blend; rw [if_pos h]
theorem blend_four {g:List Int→Int} {n:Nat} {ts:List Tr} (h:allCol ts=false):blend g (n + 1) ts=gath (blend g n (ts.map (qk · 0))) (blend g n (ts.map (qk · 1))) (blend g n (ts.map (qk · 2))) (blend g n (ts.map (qk · 3))):=by
  conv=>lhs; unfold blend
  rw [if_neg (by rw [h]; decide)]
theorem blend_q {g:List Int→Int} {n k:Nat} {ts:List Tr} (h:allCol ts=false) (hk:k < 4):qk (blend g (n + 1) ts) k=blend g n (ts.map (qk · k)):=by
  rw [blend_four h]
  obtain ⟨g0,g1,g2,g3⟩:=gath_parts (blend g n (ts.map (qk · 0))) (blend g n (ts.map (qk · 1))) (blend g n (ts.map (qk · 2))) (blend g n (ts.map (qk · 3)))
  rcases k with _ | _ | _ | _ | k
  · exact g0
  · exact g1
  · exact g2
  · exact g3
  · omega
def Fair (g:List Int→Int):Prop:=∀ xs:List Int,(∀ x∈xs,0≤x∧x≤35)→0≤g xs∧g xs≤35
theorem colv_good {n:Nat} {t:Tr} (h:Good n t):0≤colv t∧colv t≤35:=by
  cases t with
  | col i=>cases n <;> exact h
  | four a b c d=>show (0:Int)≤0∧(0:Int)≤35; decide
theorem good_blend {g:List Int→Int} (hg:Fair g):∀ (n:Nat) (ts:List Tr),(∀ t∈ts,Good n t)→Good n (blend g n ts)
  | 0,ts,h=>by
    refine Good.col (hg _ fun x hx => ?_)
    obtain ⟨t,ht,rfl⟩:=List.mem_map.mp hx
    exact colv_good (h t ht)
  | n + 1,ts,h=>by
    cases hc:allCol ts with
    | true =>
      rw [blend_col hc]
      refine Good.col (hg _ fun x hx => ?_)
      obtain ⟨t,ht,rfl⟩:=List.mem_map.mp hx
      exact colv_good (h t ht)
    | false =>
      rw [blend_four hc]
      have key:∀ k,∀ t∈ts.map (qk · k),Good n t:=fun k t ht=>by
        obtain ⟨u,hu,rfl⟩:=List.mem_map.mp ht
        exact (h u hu).q k
      exact good_gath (good_blend hg n _ (key 0)) (good_blend hg n _ (key 1)) (good_blend hg n _ (key 2)) (good_blend hg n _ (key 3))
theorem gath_qkG {n:Nat} {t:Tr} (h:Good n t):gath (qk t 0) (qk t 1) (qk t 2) (qk t 3)=t:=by
  cases t with
  | col i =>
    show gath (.col i) (.col i) (.col i) (.col i)=_
    unfold gath
    rw [if_pos (oneB_iff.mpr ⟨rfl,rfl,rfl,rfl⟩)]
  | four a b c d =>
    show gath a b c d=_
    cases n with
    | zero=>exact h.elim
    | succ n =>
      unfold gath
      rw [if_neg (by rw [h.2.2.2.2]; decide)]

theorem blend_is {g:List Int→Int} {R:List Tr→Prop} {f:List Tr→Tr} (hq:∀ ts k,R ts→R (ts.map (qk · k))∧f (ts.map (qk · k))=qk (f ts) k) (hc:∀ ts,R ts→allCol ts=true→f ts=.col (g (ts.map colv))) :
    ∀ (n:Nat) (ts:List Tr),R ts→(∀ t∈ts,t.deep≤n)→Good n (f ts)→blend g n ts=f ts
  | 0,ts,r,h,_=>by rw [hc ts r (allCol_zero h)]; rfl
  | n + 1,ts,r,h,gd=>by
    cases e:allCol ts with
    | true=>rw [blend_col e,hc ts r e]
    | false =>
      rw [blend_four e]
      have key:∀ k,blend g n (ts.map (qk · k))=qk (f ts) k:=fun k=>by
        obtain ⟨h1,h2⟩:=hq ts k r
        rw [blend_is hq hc n _ h1 (fun t ht => ?_) (by rw [h2]; exact gd.q k),h2]
        obtain ⟨u,hu,rfl⟩:=List.mem_map.mp ht
        exact qk_deep (h u hu)
      rw [key 0,key 1,key 2,key 3]
      exact gath_qkG gd
theorem getD_fair {xs:List Int} (h:∀ x∈xs,0≤x∧x≤35) (i:Nat):0≤(xs[i]?).getD 0∧(xs[i]?).getD 0≤35:=by
  cases e:xs[i]? with
  | none=>show (0:Int)≤0∧(0:Int)≤35; decide
  | some x=>exact h x (List.mem_of_getElem? e)
section
variable {κ:Type} [DecidableEq κ]
def Cols (kvs:List (κ × V)):Prop:=∀ kv∈kvs,∃ i:Int,kv.2=.int i∧0≤i∧i≤35
theorem valV_mem {kvs:List (κ × V)} {k:κ} {v:V} (h:valV kvs k=some v):∃ kv∈kvs,kv.2=v:=by
  unfold valV at h
  obtain ⟨kv,h1,h2⟩:=Option.map_eq_some_iff.mp h
  exact ⟨kv,List.mem_of_find?_eq_some h1,h2⟩
theorem Cols.put {kvs:List (κ × V)} (h:Cols kvs) (k:κ) {i:Int} (h0:0≤i) (h1:i≤35):Cols (putK kvs k (.int i)):=by
  intro kv hkv
  unfold putK at hkv
  split at hkv
  · obtain ⟨z,hz,rfl⟩:=List.mem_map.mp hkv
    split
    · exact ⟨i,rfl,h0,h1⟩
    · exact h z hz
  · rcases List.mem_append.mp hkv with hkv | hkv
    · exact h kv hkv
    · rw [List.mem_singleton.mp hkv]; exact ⟨i,rfl,h0,h1⟩
theorem Cols.nil:Cols ([]:List (κ × V)):=fun _ h=>by cases h
theorem put_len {kvs:List (κ × V)} {k:κ} {v:V}:(putK kvs k v).length≤kvs.length + 1:=by
  unfold putK
  split
  · simp
  · simp
def gTab (key:List Int→κ) (kvs:List (κ × V)) (xs:List Int):Int:=match valV kvs (key xs) with
  | some (.int j)=>j
  | _=>(xs[0]?).getD 0
theorem fair_tab (key:List Int→κ) {kvs:List (κ × V)} (h:Cols kvs):Fair (gTab key kvs):=fun xs hx=>by
  unfold gTab
  cases e:valV kvs (key xs) with
  | none=>exact getD_fair hx 0
  | some v =>
    obtain ⟨kv,m,rfl⟩:=valV_mem e
    obtain ⟨i,ei,h0,h1⟩:=h kv m
    rw [ei]
    exact ⟨h0,h1⟩

theorem get_tab (key:List Int→κ) {kvs:List (κ × V)} (h:Cols kvs) (xs:List Int):(valV kvs (key xs)).getD (.int ((xs[0]?).getD 0))=.int (gTab key kvs xs):=by
  unfold gTab
  cases e:valV kvs (key xs) with
  | none=>rfl
  | some v =>
    obtain ⟨kv,m,rfl⟩:=valV_mem e
    obtain ⟨i,ei,h0,h1⟩:=h kv m
    rw [ei]; rfl
theorem blend_tab0 (key:List Int→κ) {n:Nat} {t:Tr} {r:List Tr} (h:Good n t) (hr:∀ x∈r,Good n x):blend (gTab key []) n (t::r)=t:=by
  refine blend_is (R:=fun ts=>∃ t r,ts=t::r) (f:=fun ts=>(ts[0]?).getD (.col 0)) ?_ ?_ n (t::r) ⟨t,r,rfl⟩ ?_ (by simpa using h)
  · rintro ts k ⟨u,s,rfl⟩; exact ⟨⟨qk u k,_,rfl⟩,rfl⟩
  · rintro ts ⟨u,s,rfl⟩ e
    cases u with
    | col i=>rfl
    | four=>cases e
  · intro u hu
    rcases List.mem_cons.mp hu with rfl | hu
    · exact h.deep
    · exact (hr u hu).deep
end
theorem flat_cols {κ:Type} {kvs:List (κ × V)} (h:Cols kvs):∀ kv∈kvs,flatV kv.2=true∧eqV kv.2 kv.2=true:=fun kv hkv=>by
  obtain ⟨i,e,_⟩:=h kv hkv
  rw [e]
  exact ⟨rfl,by show (i == i)=true; simp⟩

def h2 (a b:Nat):Int:=reduceHash (Builtin.Tuple.tupleHashOf [hashInt (a:Int),hashInt (b:Int)])
def chk:List Nat→Nat→Bool
  | [],_=>true
  | x::r,acc => !(acc.testBit x) && chk r (acc ||| (1 <<< x))
theorem chk_nodup:∀ (l:List Nat) (acc:Nat),chk l acc=true→l.Nodup∧∀ x∈l,acc.testBit x=false
  | [],_,_=>⟨List.nodup_nil,fun _ h=>by cases h⟩
  | x::r,acc,h=>by
    unfold chk at h
    rw [Bool.and_eq_true] at h
    obtain ⟨h1,h2⟩:=h
    obtain ⟨n,f⟩:=chk_nodup r _ h2
    have bit:∀ y,(acc ||| (1 <<< x)).testBit y=(acc.testBit y || decide (x=y)):=fun y=>by
      rw [Nat.testBit_or,Nat.one_shiftLeft,Nat.testBit_two_pow]
    refine ⟨List.nodup_cons.mpr ⟨fun hx => ?_,n⟩,fun y hy => ?_⟩
    · have:=f x hx
      rw [bit] at this
      simp at this
    · rcases List.mem_cons.mp hy with rfl | hy
      · simpa using h1
      · have:=f y hy
        rw [bit] at this
        simp at this
        exact this.1
theorem h2_all:chk ((List.range 1296).map fun n=>(h2 (n / 36) (n % 36) % 9771).toNat) 0=true:=by decide +kernel
theorem h2_inj {a b c d:Nat} (ha:a < 36) (hb:b < 36) (hc:c < 36) (hd:d < 36) (e:h2 a b=h2 c d):a=c∧b=d:=by
  have n:=(chk_nodup _ _ h2_all).1
  have at':∀ x y,x < 36→y < 36→((List.range 1296).map fun n=>(h2 (n / 36) (n % 36) % 9771).toNat)[36 * x + y]? = some (h2 x y % 9771).toNat:=fun x y hx hy=>by
    have hlt:36 * x + y < 1296:=by omega
    rw [List.getElem?_map,List.getElem?_range hlt]
    have e1:(36 * x + y) / 36=x:=by omega
    have e2:(36 * x + y) % 36=y:=by omega
    simp only [Option.map_some,e1,e2]
  have p:=at' a b ha hb
  have q:=at' c d hc hd
  rw [e] at p
  have l1:36 * a + b < ((List.range 1296).map fun n=>(h2 (n / 36) (n % 36) % 9771).toNat).length:=by simp; omega
  have:=(List.getElem?_inj l1 n).mp (p.trans q.symm)
  omega
def Keys2 (kvs:List (List Key × V)):Prop:=(kvs.map (·.1)).Nodup∧∀ kv∈kvs,∃ a b:Nat,a < 36∧b < 36∧kv.1=[Sum.inl (a:Int),Sum.inl (b:Int)]
theorem Keys2.nil:Keys2 []:=⟨List.nodup_nil,fun _ h=>by cases h⟩
theorem Keys2.hash {kvs:List (List Key × V)} (h:Keys2 kvs) (w:World):(kvs.map fun kv=>hashT kv.1 w).Nodup:=by
  obtain ⟨n,k⟩:=h
  have:∀ l:List (List Key × V),(l.map (·.1)).Nodup→(∀ kv∈l,∃ a b:Nat,a < 36∧b < 36∧kv.1=[Sum.inl (a:Int),Sum.inl (b:Int)])→(l.map fun kv=>hashT kv.1 w).Nodup:=by
    intro l
    induction l with
    | nil=>intro _ _; exact List.nodup_nil
    | cons x r ih =>
      intro n k
      rw [List.map_cons,List.nodup_cons] at n
      rw [List.map_cons,List.nodup_cons]
      refine ⟨fun hx => ?_,ih n.2 fun kv h=>k kv (List.mem_cons_of_mem _ h)⟩
      obtain ⟨y,hy,e⟩:=List.mem_map.mp hx
      obtain ⟨a,b,ha,hb,ex⟩:=k x List.mem_cons_self
      obtain ⟨c,d,hc,hd,ey⟩:=k y (List.mem_cons_of_mem _ hy)
      rw [ex,ey] at e
      obtain ⟨rfl,rfl⟩:=h2_inj hc hd ha hb e
      exact n.1 (List.mem_map.mpr ⟨y,hy,by rw [ey,ex]⟩)
  exact this kvs n k
theorem Keys2.put {kvs:List (List Key × V)} {a b:Nat} {v:V} (h:Keys2 kvs) (ha:a < 36) (hb:b < 36):Keys2 (putK kvs [Sum.inl (a:Int),Sum.inl (b:Int)] v):=by
  obtain ⟨n,k⟩:=h
  unfold putK
  split
  · rename_i hs
    have e:(kvs.map fun kv=>if kv.1=[Sum.inl (a:Int),Sum.inl (b:Int)] then (kv.1,v) else kv).map (·.1)=kvs.map (·.1):=by
      rw [List.map_map]
      refine List.map_congr_left fun kv _ => ?_
      show (if _ then _ else _:List Key × V).1=kv.1
      split <;> rfl
    refine ⟨by rw [e]; exact n,fun kv hkv => ?_⟩
    obtain ⟨z,hz,rfl⟩:=List.mem_map.mp hkv
    obtain ⟨c,d,hc,hd,ez⟩:=k z hz
    refine ⟨c,d,hc,hd,?_⟩
    split <;> exact ez
  · rename_i hs
    refine ⟨?_,fun kv hkv => ?_⟩
    · rw [List.map_append,List.nodup_append]
      refine ⟨n,by simp,fun x hx y hy e => ?_⟩
      subst e
      have hy':x=[Sum.inl (a:Int),Sum.inl (b:Int)]:=by simpa using hy
      obtain ⟨z,hz,ez⟩:=List.mem_map.mp hx
      exact hs (List.any_eq_true.mpr ⟨z,hz,decide_eq_true (ez.trans hy')⟩)
    · rcases List.mem_append.mp hkv with hkv | hkv
      · exact k kv hkv
      · rw [List.mem_singleton.mp hkv]; exact ⟨a,b,ha,hb,rfl⟩
def key2 (xs:List Int):List Key:=[Sum.inl ((xs[0]?).getD 0),Sum.inl ((xs[1]?).getD 0)]
theorem good_norm {c:Int}:gath (qk (.col c) 0) (qk (.col c) 1) (qk (.col c) 2) (qk (.col c) 3)=.col c:=by
  show gath (.col c) (.col c) (.col c) (.col c)=.col c
  unfold gath
  rw [if_pos (oneB_iff.mpr ⟨rfl,rfl,rfl,rfl⟩)]

def mapT (f:Int→Int):Tr→Tr
  | .col i=>.col (f i)
  | .four a b c d=>.four (mapT f a) (mapT f b) (mapT f c) (mapT f d)
def zipT (g:Int→Int→Int):Tr→Tr→Tr
  | .col i,t=>mapT (g i) t
  | .four a b c d,.col j=>mapT (fun x=>g x j) (.four a b c d)
  | .four a b c d,.four a' b' c' d'=>.four (zipT g a a') (zipT g b b') (zipT g c c') (zipT g d d')
theorem lvs_map (f:Int→Int):∀ (t:Tr) (z:List Nat),lvs z (mapT f t)=(lvs z t).map fun q=>(q.1,f q.2)
  | .col i,z=>rfl
  | .four a b c d,z=>by
    show lvs (z++[0]) (mapT f a)++(lvs (z++[1]) (mapT f b)++(lvs (z++[2]) (mapT f c)++lvs (z++[3]) (mapT f d)))=(lvs (z++[0]) a++(lvs (z++[1]) b++(lvs (z++[2]) c++lvs (z++[3]) d))).map _
    rw [lvs_map f a,lvs_map f b,lvs_map f c,lvs_map f d,List.map_append,List.map_append,List.map_append]
theorem zip_r (g:Int→Int→Int) (a:Tr) (j:Int):zipT g a (.col j)=mapT (fun x=>g x j) a:=by cases a <;> rfl
theorem zip_q (g:Int→Int→Int) {s t:Tr} (h:allCol [s,t]=false):zipT g s t=.four (zipT g (qk s 0) (qk t 0)) (zipT g (qk s 1) (qk t 1)) (zipT g (qk s 2) (qk t 2)) (zipT g (qk s 3) (qk t 3)):=by
  cases s with
  | col i =>
    cases t with
    | col j=>cases h
    | four a b c d=>rfl
  | four a b c d =>
    cases t with
    | col j =>
      show Tr.four (mapT _ a) (mapT _ b) (mapT _ c) (mapT _ d)=.four (zipT g a (.col j)) (zipT g b (.col j)) (zipT g c (.col j)) (zipT g d (.col j))
      rw [zip_r,zip_r,zip_r,zip_r]
    | four a' b' c' d'=>rfl
theorem blend_zip (G:List Int→Int):∀ (n:Nat) (s t:Tr),s.deep≤n→t.deep≤n→blend G n [s,t]=norm (zipT (fun i j=>G [i,j]) s t)
  | 0,s,t,hs,ht=>by
    cases s with
    | col i =>
      cases t with
      | col j=>rfl
      | four a b c d=>exact absurd ht (by show ¬ _ + 1≤0; omega)
    | four a b c d=>exact absurd hs (by show ¬ _ + 1≤0; omega)
  | n + 1,s,t,hs,ht=>by
    cases e:allCol [s,t] with
    | true =>
      rw [blend_col e]
      cases s with
      | col i =>
        cases t with
        | col j=>rfl
        | four a b c d=>cases e
      | four a b c d=>cases e
    | false =>
      rw [blend_four e,zip_q _ e]
      have k:∀ j,blend G n [qk s j,qk t j]=norm (zipT (fun i j=>G [i,j]) (qk s j) (qk t j)):=fun j=>blend_zip G n _ _ (qk_deep hs) (qk_deep ht)
      show gath (blend G n [qk s 0,qk t 0]) (blend G n [qk s 1,qk t 1]) (blend G n [qk s 2,qk t 2]) (blend G n [qk s 3,qk t 3])=gath _ _ _ _
      rw [k 0,k 1,k 2,k 3]
theorem blend_one (G:List Int→Int):∀ (n:Nat) (t:Tr),t.deep≤n→blend G n [t]=norm (mapT (fun i=>G [i]) t)
  | 0,.col i,h=>rfl
  | 0,.four a b c d,h=>absurd h (by show ¬ _ + 1≤0; omega)
  | n + 1,.col i,h=>blend_col rfl
  | n + 1,.four a b c d,h=>by
    have h':max a.deep (max b.deep (max c.deep d.deep)) + 1≤n + 1:=h
    rw [blend_four rfl]
    show gath (blend G n [a]) (blend G n [b]) (blend G n [c]) (blend G n [d])=gath _ _ _ _
    rw [blend_one G n a (by omega),blend_one G n b (by omega),blend_one G n c (by omega),blend_one G n d (by omega)]
    try rfl

def lastIn (z p:List Nat):Bool:=(z.drop p.length).all fun d=>decide (d=3)
def adv (z:List Nat):List (List Nat × Int)→List (List Nat × Int)
  | []=>[]
  | p::R=>if lastIn z p.1=true then R else p::R
def longer (p q:List Nat):List Nat:=if q.length > p.length then q else p
inductive Mg (g:Int→Int→Int):List (List Nat × Int)→List (List Nat × Int)→List (List Nat × Int)→Prop
  | done {O:List (List Nat × Int)}:Mg g [] O []
  | step {p q:List Nat × Int} {R O M:List (List Nat × Int)}:Mg g (adv (longer p.1 q.1) (p::R)) (adv (longer p.1 q.1) (q::O)) M→Mg g (p::R) (q::O) ((longer p.1 q.1,g p.2 q.2)::M)
theorem last_self (z:List Nat):lastIn z z=true:=by unfold lastIn; rw [List.drop_length]; rfl
theorem last_snoc {z p:List Nat} (h:p.length≤z.length) (d:Nat):lastIn (z++[d]) p=(lastIn z p && decide (d=3)):=by
  unfold lastIn
  rw [List.drop_append_of_le_length h,List.all_append]
  simp
theorem adv_self (z:List Nat) (c:Int) (R:List (List Nat × Int)):adv z ((z,c)::R)=R:=by
  show (if lastIn z z=true then R else _)=R
  rw [last_self,if_pos rfl]
theorem adv_three {z p:List Nat} (h:p.length≤z.length) (c:Int) (R:List (List Nat × Int)):adv (z++[3]) ((p,c)::R)=adv z ((p,c)::R):=by
  show (if lastIn (z++[3]) p=true then R else _)=if lastIn z p=true then R else _
  rw [last_snoc h,decide_eq_true rfl,Bool.and_true]
theorem adv_less {z p:List Nat} (h:p.length≤z.length) {d:Nat} (hd:d≠3) (c:Int) (R:List (List Nat × Int)):adv (z++[d]) ((p,c)::R)=(p,c)::R:=by
  show (if lastIn (z++[d]) p=true then R else _)=_
  rw [last_snoc h,decide_eq_false hd,Bool.and_false,if_neg (by decide)]
theorem mg_left {g:Int→Int→Int}:∀ (t:Tr) (z p:List Nat) (c:Int) (R O M:List (List Nat × Int)),p.length < z.length→Mg g (adv z ((p,c)::R)) O M→Mg g ((p,c)::R) (lvs z t++O) (lvs z (mapT (g c) t)++M)
  | .col d,z,p,c,R,O,M,h,k=>by
    have e:longer p z=z:=by unfold longer; rw [if_pos h]
    show Mg g ((p,c)::R) ((z,d)::O) ((z,g c d)::M)
    have:=Mg.step (g:=g) (p:=(p,c)) (q:=(z,d)) (R:=R) (O:=O) (M:=M) (by show Mg g (adv (longer p z) _) (adv (longer p z) _) M; rw [e,adv_self]; exact k)
    have e':(longer (p,c).1 (z,d).1)=z:=e
    rw [e'] at this
    exact this
  | .four a b c' d,z,p,c,R,O,M,h,k=>by
    have l:∀ j,p.length < (z++[j]).length:=fun j=>by rw [List.length_append]; show p.length < z.length + 1; omega
    show Mg g ((p,c)::R) ((lvs (z++[0]) a++(lvs (z++[1]) b++(lvs (z++[2]) c'++lvs (z++[3]) d)))++O) ((lvs (z++[0]) (mapT (g c) a)++(lvs (z++[1]) (mapT (g c) b)++(lvs (z++[2]) (mapT (g c) c')++lvs (z++[3]) (mapT (g c) d))))++M)
    rw [List.append_assoc,List.append_assoc,List.append_assoc,List.append_assoc,List.append_assoc,List.append_assoc]
    refine mg_left a _ p c R _ _ (l 0) ?_
    rw [adv_less (by omega) (by decide)]
    refine mg_left b _ p c R _ _ (l 1) ?_
    rw [adv_less (by omega) (by decide)]
    refine mg_left c' _ p c R _ _ (l 2) ?_
    rw [adv_less (by omega) (by decide)]
    refine mg_left d _ p c R _ _ (l 3) ?_
    rw [adv_three (by omega)]
    exact k
theorem mg_right {g:Int→Int→Int}:∀ (t:Tr) (z q:List Nat) (c:Int) (R O M:List (List Nat × Int)),q.length < z.length→Mg g R (adv z ((q,c)::O)) M→Mg g (lvs z t++R) ((q,c)::O) (lvs z (mapT (fun x=>g x c) t)++M)
  | .col d,z,q,c,R,O,M,h,k=>by
    have e:longer z q=z:=by unfold longer; rw [if_neg (by omega)]
    show Mg g ((z,d)::R) ((q,c)::O) ((z,g d c)::M)
    have:=Mg.step (g:=g) (p:=(z,d)) (q:=(q,c)) (R:=R) (O:=O) (M:=M) (by show Mg g (adv (longer z q) _) (adv (longer z q) _) M; rw [e,adv_self]; exact k)
    have e':(longer (z,d).1 (q,c).1)=z:=e
    rw [e'] at this
    exact this
  | .four a b c' d,z,q,c,R,O,M,h,k=>by
    have l:∀ j,q.length < (z++[j]).length:=fun j=>by rw [List.length_append]; show q.length < z.length + 1; omega
    show Mg g ((lvs (z++[0]) a++(lvs (z++[1]) b++(lvs (z++[2]) c'++lvs (z++[3]) d)))++R) ((q,c)::O) ((lvs (z++[0]) (mapT (fun x=>g x c) a)++(lvs (z++[1]) (mapT (fun x=>g x c) b)++(lvs (z++[2]) (mapT (fun x=>g x c) c')++lvs (z++[3]) (mapT (fun x=>g x c) d))))++M)
    rw [List.append_assoc,List.append_assoc,List.append_assoc,List.append_assoc,List.append_assoc,List.append_assoc]
    refine mg_right a _ q c _ O _ (l 0) ?_
    rw [adv_less (by omega) (by decide)]
    refine mg_right b _ q c _ O _ (l 1) ?_
    rw [adv_less (by omega) (by decide)]
    refine mg_right c' _ q c _ O _ (l 2) ?_
    rw [adv_less (by omega) (by decide)]
    refine mg_right d _ q c _ O _ (l 3) ?_
    rw [adv_three (by omega)]
    exact k
theorem mg_zip {g:Int→Int→Int}:∀ (s t:Tr) (z:List Nat) (R O M:List (List Nat × Int)),Mg g R O M→Mg g (lvs z s++R) (lvs z t++O) (lvs z (zipT g s t)++M)
  | .col i,.col j,z,R,O,M,k=>by
    have e:longer z z=z:=by unfold longer; rw [if_neg (Nat.lt_irrefl _)]
    show Mg g ((z,i)::R) ((z,j)::O) ((z,g i j)::M)
    have:=Mg.step (g:=g) (p:=(z,i)) (q:=(z,j)) (R:=R) (O:=O) (M:=M) (by show Mg g (adv (longer z z) _) (adv (longer z z) _) M; rw [e,adv_self,adv_self]; exact k)
    have e':(longer (z,i).1 (z,j).1)=z:=e
    rw [e'] at this
    exact this
  | .col i,.four a b c d,z,R,O,M,k=>by
    have l:∀ j,z.length < (z++[j]).length:=fun j=>by rw [List.length_append]; show z.length < z.length + 1; omega
    show Mg g ((z,i)::R) ((lvs (z++[0]) a++(lvs (z++[1]) b++(lvs (z++[2]) c++lvs (z++[3]) d)))++O) ((lvs (z++[0]) (mapT (g i) a)++(lvs (z++[1]) (mapT (g i) b)++(lvs (z++[2]) (mapT (g i) c)++lvs (z++[3]) (mapT (g i) d))))++M)
    rw [List.append_assoc,List.append_assoc,List.append_assoc,List.append_assoc,List.append_assoc,List.append_assoc]
    refine mg_left a _ z i R _ _ (l 0) ?_
    rw [adv_less (Nat.le_refl _) (by decide)]
    refine mg_left b _ z i R _ _ (l 1) ?_
    rw [adv_less (Nat.le_refl _) (by decide)]
    refine mg_left c _ z i R _ _ (l 2) ?_
    rw [adv_less (Nat.le_refl _) (by decide)]
    refine mg_left d _ z i R _ _ (l 3) ?_
    rw [adv_three (Nat.le_refl _),adv_self]
    exact k
  | .four a b c d,.col j,z,R,O,M,k=>by
    have l:∀ j,z.length < (z++[j]).length:=fun j=>by rw [List.length_append]; show z.length < z.length + 1; omega
    show Mg g ((lvs (z++[0]) a++(lvs (z++[1]) b++(lvs (z++[2]) c++lvs (z++[3]) d)))++R) ((z,j)::O) ((lvs (z++[0]) (mapT (fun x=>g x j) a)++(lvs (z++[1]) (mapT (fun x=>g x j) b)++(lvs (z++[2]) (mapT (fun x=>g x j) c)++lvs (z++[3]) (mapT (fun x=>g x j) d))))++M)
    rw [List.append_assoc,List.append_assoc,List.append_assoc,List.append_assoc,List.append_assoc,List.append_assoc]
    refine mg_right a _ z j _ O _ (l 0) ?_
    rw [adv_less (Nat.le_refl _) (by decide)]
    refine mg_right b _ z j _ O _ (l 1) ?_
    rw [adv_less (Nat.le_refl _) (by decide)]
    refine mg_right c _ z j _ O _ (l 2) ?_
    rw [adv_less (Nat.le_refl _) (by decide)]
    refine mg_right d _ z j _ O _ (l 3) ?_
    rw [adv_three (Nat.le_refl _),adv_self]
    exact k
  | .four a b c d,.four a' b' c' d',z,R,O,M,k=>by
    show Mg g ((lvs (z++[0]) a++(lvs (z++[1]) b++(lvs (z++[2]) c++lvs (z++[3]) d)))++R) ((lvs (z++[0]) a'++(lvs (z++[1]) b'++(lvs (z++[2]) c'++lvs (z++[3]) d')))++O) ((lvs (z++[0]) (zipT g a a')++(lvs (z++[1]) (zipT g b b')++(lvs (z++[2]) (zipT g c c')++lvs (z++[3]) (zipT g d d'))))++M)
    simp only [List.append_assoc]
    exact mg_zip a a' _ _ _ _ (mg_zip b b' _ _ _ _ (mg_zip c c' _ _ _ _ (mg_zip d d' _ _ _ _ k)))
theorem mg_all (g:Int→Int→Int) (s t:Tr):Mg g (lvs [] s) (lvs [] t) (lvs [] (zipT g s t)):=by
  have:=mg_zip (g:=g) s t [] [] [] [] .done
  simpa using this

theorem lvs_app (w:List Nat):∀ (t:Tr) (z:List Nat),lvs (w++z) t=(lvs z t).map fun q=>(w++q.1,q.2)
  | .col i,z=>rfl
  | .four a b c d,z=>by
    show lvs (w++z++[0]) a++(lvs (w++z++[1]) b++(lvs (w++z++[2]) c++lvs (w++z++[3]) d))=(lvs (z++[0]) a++(lvs (z++[1]) b++(lvs (z++[2]) c++lvs (z++[3]) d))).map _
    rw [List.append_assoc w,List.append_assoc w,List.append_assoc w,List.append_assoc w,lvs_app w a,lvs_app w b,lvs_app w c,lvs_app w d,List.map_append,List.map_append,List.map_append]
theorem lvs_lt4:∀ (t:Tr) (z:List Nat),(∀ d∈z,d < 4)→∀ p∈lvs z t,∀ x∈p.1,x < 4
  | .col i,z,h,p,hp,x,hx=>by
    rw [List.mem_singleton.mp hp] at hx
    exact h x hx
  | .four a b c d,z,h,p,hp,x,hx=>by
    have hp':p∈lvs (z++[0]) a++(lvs (z++[1]) b++(lvs (z++[2]) c++lvs (z++[3]) d)):=hp
    simp only [List.mem_append] at hp'
    have k:∀ {j:Nat},j < 4→∀ d∈z++[j],d < 4:=fun {j} hj d hd=>by
      rcases List.mem_append.mp hd with hd | hd
      · exact h d hd
      · rw [List.mem_singleton.mp hd]; exact hj
    rcases hp' with hp | hp | hp | hp
    · exact lvs_lt4 a _ (k (by decide)) p hp x hx
    · exact lvs_lt4 b _ (k (by decide)) p hp x hx
    · exact lvs_lt4 c _ (k (by decide)) p hp x hx
    · exact lvs_lt4 d _ (k (by decide)) p hp x hx
theorem sub_map (k j:Nat):∀ A:List (List Nat × Int),subP k (A.map fun q=>([j]++q.1,q.2))=if j=k then A else []
  | []=>by split <;> rfl
  | q::A=>by
    show (if j=k then (q.1,q.2)::subP k (A.map fun q=>([j]++q.1,q.2)) else subP k (A.map fun q=>([j]++q.1,q.2)))=_
    rw [sub_map k j A]
    split <;> rfl
theorem paint_lvs (i:Int):∀ (n:Nat) (u:Tr),Good n u→paintAll (.col i) (lvs [] u)=u
  | n,.col c,_=>rfl
  | 0,.four a b c d,g=>g.elim
  | n + 1,.four a b c d,⟨ga,gb,gc,gd,e⟩=>by
    have el:lvs [] (.four a b c d)=((lvs [] a).map fun q=>([0]++q.1,q.2))++(((lvs [] b).map fun q=>([1]++q.1,q.2))++(((lvs [] c).map fun q=>([2]++q.1,q.2))++((lvs [] d).map fun q=>([3]++q.1,q.2)))):=by
      show lvs [0] a++(lvs [1] b++(lvs [2] c++lvs [3] d))=_
      rw [← lvs_app [0] a [],← lvs_app [1] b [],← lvs_app [2] c [],← lvs_app [3] d []]
      rfl
    have ok:∀ p∈lvs [] (.four a b c d),p.1≠[]∧∀ x∈p.1,x < 4:=fun p hp=>by
      refine ⟨?_,?_⟩
      · rw [el] at hp
        simp only [List.mem_append,List.mem_map] at hp
        rcases hp with ⟨q,_,rfl⟩ | ⟨q,_,rfl⟩ | ⟨q,_,rfl⟩ | ⟨q,_,rfl⟩ <;> simp
      · exact lvs_lt4 _ [] (by simp) p hp
    rw [paintAll_four _ (.col i) ok good_norm]
    show gath (paintAll (.col i) _) (paintAll (.col i) _) (paintAll (.col i) _) (paintAll (.col i) _)=_
    rw [el]
    simp only [subP_app,sub_map]
    simp only [show (0:Nat)=0 from rfl,if_true,show ¬ (1:Nat)=0 by decide,show ¬ (2:Nat)=0 by decide,show ¬ (3:Nat)=0 by decide,show ¬ (0:Nat)=1 by decide,show ¬ (2:Nat)=1 by decide,show ¬ (3:Nat)=1 by decide,show ¬ (0:Nat)=2 by decide,show ¬ (1:Nat)=2 by decide,show ¬ (3:Nat)=2 by decide,show ¬ (0:Nat)=3 by decide,show ¬ (1:Nat)=3 by decide,show ¬ (2:Nat)=3 by decide,if_false,List.append_nil,List.nil_append]
    rw [paint_lvs i n a ga,paint_lvs i n b gb,paint_lvs i n c gc,paint_lvs i n d gd]
    unfold gath
    rw [if_neg (by rw [e]; decide)]

def gL:Nat→Nat
  | 0=>2
  | 1=>0
  | 2=>3
  | _=>1
def turnQ (q:List Nat × Int):List Nat × Int:=(q.1.map gL,q.2)
theorem turn_perm:∀ (t:Tr) (z:List Nat),((lvs z t).map turnQ).Perm (lvs (z.map gL) (rear oL t))
  | .col i,z=>List.Perm.refl _
  | .four a b c d,z=>by
    have k:∀ (j:Nat),(z++[j]).map gL=z.map gL++[gL j]:=fun j=>by rw [List.map_append]; rfl
    have ha:=turn_perm a (z++[0])
    have hb:=turn_perm b (z++[1])
    have hc:=turn_perm c (z++[2])
    have hd:=turn_perm d (z++[3])
    rw [k] at ha hb hc hd
    rw [rearL]
    show ((lvs (z++[0]) a++(lvs (z++[1]) b++(lvs (z++[2]) c++lvs (z++[3]) d))).map turnQ).Perm (lvs (z.map gL++[0]) (rear oL b)++(lvs (z.map gL++[1]) (rear oL d)++(lvs (z.map gL++[2]) (rear oL a)++lvs (z.map gL++[3]) (rear oL c))))
    rw [List.map_append,List.map_append,List.map_append]
    refine ((ha.append (hb.append (hc.append hd)))).trans ?_
    show (lvs (z.map gL++[2]) (rear oL a)++(lvs (z.map gL++[0]) (rear oL b)++(lvs (z.map gL++[3]) (rear oL c)++lvs (z.map gL++[1]) (rear oL d)))).Perm _
    generalize lvs (z.map gL++[2]) (rear oL a)=A
    generalize lvs (z.map gL++[0]) (rear oL b)=B
    generalize lvs (z.map gL++[3]) (rear oL c)=C
    generalize lvs (z.map gL++[1]) (rear oL d)=D
    have h0:((A++B)++(C++D)).Perm ((B++A)++(C++D)):=List.perm_append_comm.append_right _
    have h1:(A++(B++(C++D))).Perm (B++(A++(C++D))):=by
      rw [List.append_assoc,List.append_assoc] at h0
      exact h0
    refine h1.trans (List.Perm.append_left B ?_)
    rw [← List.append_assoc]
    exact List.perm_append_comm
end Qs


namespace Qs
open PySem L2
section
variable {P:Program} {w:World} {K:PySem.W.Frag} {mg:Str→Option Value} {base:Heap} {CX:CXT} {f:Addr} {fd:FuncData}
abbrev s_is_of_one_colour:Stmt:=top 5
theorem sc_is_of_one_colour:FnScope ["parts","first"] ["parts"] (defScope s_is_of_one_colour):=⟨rfl,rfl,rfl,by decide +kernel,rfl,by decide +kernel,by decide +kernel⟩
def sp_is_one:Sp:=fun vs H Q _=>∃ (l:Addr) (a b c d:V) (ta tb tc td:Tr),vs=[.ref l]∧H l=some (.lst [a,b,c,d])∧TrAt H a ta∧TrAt H b tb∧TrAt H c tc∧TrAt H d td ∧
  (ta.deep≤60∧tb.deep≤60∧tc.deep≤60∧td.deep≤60)∧∀ H',Same H H'→Q (.bl (oneB ta tb tc td)) H'
theorem ok_is_of_one_colour (T:Tx K mg) (F:FunD K "is_of_one_colour" "is_of_one_colour" s_is_of_one_colour f fd .none):FnOk P w K mg base CX 1 f fd ["parts"] sp_is_one:=by
  refine F.ok sc_is_of_one_colour (fun vs H Q E h => ?_) (fun cdv A outer s H vs Q E hr h => ?_)
  · obtain ⟨_,_,_,_,_,_,_,_,_,rfl,_⟩:=h
    rfl
  obtain ⟨l,a,b,c,d,ta,tb,tc,td,rfl,hl,ha,hb,hc,hd,⟨da,db,dc,dd⟩,q'⟩:=h
  refine ⟨_,(pss_cons (ps_set (i:=1) sc_is_of_one_colour.nd rfl (Or.inr rfl) (pe_ix ix_list (pv 0) pe_int (fun _ _=>rfl))) (pss_cons (ps_if (pt_val (pe_callB (call_isiT "tuple") rfl T.b_isinstance bb_isinstance (pa_cons (pv 1) (pa_cons (pe_bty T.b_tuple bt_tuple) pa_nil)))) (pss_one (ps_ret pe_bl)) pss_nil) (pss_one (ps_ret (pe_callB (call_all rfl) rfl T.b_all bb_all (pa_cons (pe_compC (N':=["part","first"]) ["first"] ["first"] [1] 1 (by with_unfolding_all rfl) rfl (capsOk_cons rfl rfl (by decide) capsOk_nil) rfl rfl (by decide) rfl (by decide +kernel) rfl (by decide +kernel) rfl (pi_list (pv 0)) (fun C s0 H0 fp pins=>(pg_name (i:=0) (show (["part","first"]:List Str).Nodup by decide +kernel) rfl (Or.inl rfl) (Or.inr rfl))) (fun C s0 H0 fp pins=>(pe_cmpR (op_eqD hr) (pv 0) (pv 1) (nomark _)))) pa_nil)))))),?_⟩
  refine ⟨_,rfl,l,_,_,a,rfl,rfl,SqL.of hl,rfl,?_⟩
  cases ha with
  | four e =>
    refine ⟨_,rfl,_,_,_,rfl,.tup e,kit_tt,_,rfl,iteT ?_⟩
    exact q' H (Same.refl H)
  | col i =>
    refine ⟨_,rfl,_,_,_,rfl,.int i,kit_it,_,rfl,iteF ?_⟩
    have full:∃ bs:List Bool,bs=[decide (Tr.col i=Tr.col i),decide (tb=.col i),decide (tc=.col i),decide (td=.col i)]:=⟨_,rfl⟩
    obtain ⟨bs,ebs⟩:=full
    have hi:TrAt H (.int i) (.col i):=.col i
    refine ⟨[.int i],rfl,_,rfl,l,rfl,⟨_,SqL.of hl⟩,compC_list [.int i,b,c,d] (fun D j ys H'=>Same H H'∧H' D=some (.lst ys)∧j≤4∧ys=(bs.take j).map V.bl) (by show 4≤sizeLine; decide) (fun D j ys H' h=>SqL.of (h.1 _ _ hl))
      (fun D j ys H' h=>⟨h.2.1,by rw [h.2.2.2]; simp; omega⟩) (fun D hD=>⟨Same.new hD _,upd_same,by decide,rfl⟩) ?_ ?_ (fun _ _ _ _ _ k h=>k _ _ h) ?_⟩
    · rintro D j x ys H' hx hD ⟨s1,s2,s3,s4⟩
      have key:∃ tx,TrAt H x tx∧tx.deep≤60∧bs[j]? = some (decide (tx=.col i)):=by
        rcases at4 hx with ⟨rfl,rfl⟩ | ⟨rfl,rfl⟩ | ⟨rfl,rfl⟩ | ⟨rfl,rfl⟩
        · exact ⟨_,hi,Nat.zero_le _,by rw [ebs]; rfl⟩
        · exact ⟨_,hb,db,by rw [ebs]; rfl⟩
        · exact ⟨_,hc,dc,by rw [ebs]; rfl⟩
        · exact ⟨_,hd,dd,by rw [ebs]; rfl⟩
      obtain ⟨tx,htx,dx,ex⟩:=key
      refine ⟨rfl,_,rfl,_,rfl,tx.data,(Tr.col i).data,(htx.up s1.tups).dat,.int i,Tr.shaped (by omega),Tr.shaped (Nat.zero_le _),s2,Same.set s1 hD _,upd_same,?_,?_⟩
      · have:=(List.getElem?_eq_some_iff.mp hx).1
        exact this
      · rw [Tr.eqv,List.take_add_one,ex,s4,List.map_append]; rfl
    · rintro D ys H' hD ⟨s1,s2,s3,s4⟩
      refine ⟨D,bs,rfl,SqL.of (by rw [s2,s4]; congr 2; rw [ebs]; rfl),?_⟩
      have e:bs.all id=oneB (.col i) tb tc td:=by rw [ebs]; rfl
      rw [e]
      exact q' H' s1
    · intro σ H' R R' k h
      obtain ⟨x1,e1,x2,e2,d1,d2,p1,p2,p3,p4,h⟩:=h
      exact ⟨x1,e1,x2,e2,d1,d2,p1,p2,p3,p4,k _ _ h⟩
abbrev s_gathered:Stmt:=top 6
theorem sc_gathered:FnScope ["parts"] ["parts"] (defScope s_gathered):=⟨rfl,rfl,rfl,by decide +kernel,rfl,by decide +kernel,by decide +kernel⟩
def sp_gathered:Sp:=fun vs H Q _=>∃ (l:Addr) (a b c d:V) (ta tb tc td:Tr),vs=[.ref l]∧H l=some (.lst [a,b,c,d])∧TrAt H a ta∧TrAt H b tb∧TrAt H c tc∧TrAt H d td ∧
  (ta.deep≤60∧tb.deep≤60∧tc.deep≤60∧td.deep≤60)∧∀ v H',Same H H'→TrAt H' v (gath ta tb tc td)→Q v H'
theorem ok_gathered (T:Tx K mg) (q:Quiet CX) (F:FunD K "gathered" "gathered" s_gathered f fd .none) (C_is_of_one_colour:Fok P w K mg base CX 1 "is_of_one_colour" ["parts"] [] sp_is_one):FnOk P w K mg base CX 2 f fd ["parts"] sp_gathered:=by
  refine F.ok sc_gathered (fun vs H Q E h => ?_) (fun cdv A outer s H vs Q E hr h => ?_)
  · obtain ⟨_,_,_,_,_,_,_,_,_,rfl,_⟩:=h
    rfl
  obtain ⟨l,a,b,c,d,ta,tb,tc,td,rfl,hl,ha,hb,hc,hd,dp,q'⟩:=h
  refine ⟨_,(pss_cons (ps_if (pt_val (pe_callF C_is_of_one_colour q hr (pa_cons (pv 0) pa_nil))) (pss_one (ps_ret (pe_ix ix_list (pv 0) pe_int (fun _ _=>rfl)))) pss_nil) (pss_one (ps_ret (pe_callTy call_tuple_of rfl T.b_tuple bt_tuple (pa_cons (pv 0) pa_nil))))),?_⟩
  refine ⟨_,rfl,l,a,b,c,d,ta,tb,tc,td,rfl,hl,ha,hb,hc,hd,dp,fun H1 s1=>⟨_,rfl,ite2 (fun e => ?_) (fun e => ?_)⟩⟩
  · refine ⟨_,rfl,l,_,_,a,rfl,rfl,SqL.of (s1 _ _ hl),rfl,q' a H1 s1 ?_⟩
    unfold gath
    rw [if_pos e]
    exact ha.up s1.tups
  · refine ⟨_,rfl,l,_,rfl,.inl ⟨SqL.of (s1 _ _ hl),fun p hp=>q' _ _ (s1.trans (Same.new hp _)) ?_⟩⟩
    unfold gath
    rw [if_neg e]
    have s2:=(s1.trans (Same.new hp (.tup [a,b,c,d]))).tups
    exact .four upd_same (ha.up s2) (hb.up s2) (hc.up s2) (hd.up s2)
abbrev s_parted:Stmt:=top 7
theorem sc_parted:FnScope ["tree"] ["tree"] (defScope s_parted):=⟨rfl,rfl,rfl,by decide +kernel,rfl,by decide +kernel,by decide +kernel⟩
def sp_parted:Sp:=fun vs H Q _=>∃ (v:V) (t:Tr),vs=[v]∧TrAt H v t∧∀ p a b c d H',Same H H'→H' p=some (.tup [a,b,c,d])→TrAt H' a (q0 t)→TrAt H' b (q1 t)→TrAt H' c (q2 t)→TrAt H' d (q3 t)→Q (.ref p) H'
theorem ok_parted (T:Tx K mg) (F:FunD K "parted" "parted" s_parted f fd .none):FnOk P w K mg base CX 1 f fd ["tree"] sp_parted:=by
  refine F.ok sc_parted (fun vs H Q E h => ?_) (fun cdv A outer s H vs Q E hr h => ?_)
  · obtain ⟨_,_,rfl,_⟩:=h
    rfl
  obtain ⟨v,t,rfl,ht,q'⟩:=h
  refine ⟨_,(pss_cons (ps_if (pt_val (pe_callB (call_isiT "tuple") rfl T.b_isinstance bb_isinstance (pa_cons (pv 0) (pa_cons (pe_bty T.b_tuple bt_tuple) pa_nil)))) (pss_one (ps_ret (pv 0))) pss_nil) (pss_one (ps_ret (pe_tupx (pax_c (pv 0) (pax_c (pv 0) (pax_c (pv 0) (pax_c (pv 0) pax_nil)))))))),?_⟩
  cases ht with
  | four e a b c d =>
    refine ⟨_,rfl,_,_,_,rfl,.tup e,kit_tt,_,rfl,iteT ⟨_,rfl,?_⟩⟩
    exact q' _ _ _ _ _ H (Same.refl H) e a b c d
  | col i =>
    refine ⟨_,rfl,_,_,_,rfl,.int i,kit_it,_,rfl,iteF ?_⟩
    exact ⟨_,rfl,_,rfl,_,rfl,_,rfl,(by show 4≤sizeLine; decide),fun p hp=>q' p _ _ _ _ _ (Same.new hp _) upd_same (.col i) (.col i) (.col i) (.col i)⟩
abbrev s_need_one_level:Stmt:=top 20
theorem sc_need_one_level:FnScope ["sheets","level"] ["sheets"] (defScope s_need_one_level):=⟨rfl,rfl,rfl,by decide +kernel,rfl,by decide +kernel,by decide +kernel⟩
def sp_one_level:Sp:=fun vs H Q _=>∃ (l:Addr) (ss:List V) (n:Int) (s0:V),vs=[.ref l]∧H l=some (.lst ss)∧ss[0]? = some s0∧ss.length≤10∧(∀ v∈ss,∃ p x,v=.ref p∧H p=some (.tup [.int n,x]))∧∀ H',Same H H'→Q .non H'
theorem ok_need_one_level (T:Tx K mg) (F:FunD K "need_one_level" "need_one_level" s_need_one_level f fd .none):FnOk P w K mg base CX 1 f fd ["sheets"] sp_one_level:=by
  refine F.ok sc_need_one_level (fun vs H Q E h => ?_) (fun cdv A outer s H vs Q E hr h => ?_)
  · obtain ⟨_,_,_,_,rfl,_⟩:=h
    rfl
  obtain ⟨l,ss,n,s0,rfl,hl,h0,hlen,hall,q'⟩:=h
  refine ⟨_,(pss_cons (ps_set (i:=1) sc_need_one_level.nd rfl (Or.inr rfl) (pe_ix ix_tup (pe_ix ix_list (pv 0) pe_int (fun _ _=>rfl)) pe_int (fun _ _=>rfl))) (pss_one (ps_if (pt_val (pe_callB (call_any rfl) rfl T.b_any bb_any (pa_cons (pe_compC (N':=["sheet","level"]) ["level"] ["level"] [1] 1 (by with_unfolding_all rfl) rfl (capsOk_cons rfl rfl (by decide) capsOk_nil) rfl rfl (by decide) rfl (by decide +kernel) rfl (by decide +kernel) rfl (pi_list (pv 0)) (fun C s0 H0 fp pins=>(pg_name (i:=0) (show (["sheet","level"]:List Str).Nodup by decide +kernel) rfl (Or.inl rfl) (Or.inr rfl))) (fun C s0 H0 fp pins=>(pe_cmpR op_ne (pe_ix (ix_tupK (K:=K)) (pv 0) pe_int (fun _ _=>rfl)) (pv 1) (nomark _)))) pa_nil))) (pss_one ps_never) pss_nil))),?_⟩
  obtain ⟨p0,x0,rfl,hp0⟩:=hall s0 (List.mem_of_getElem? h0)
  refine ⟨_,rfl,l,_,_,_,rfl,rfl,SqL.of hl,atI_nat h0,p0,_,_,_,rfl,rfl,SqT.of hp0,rfl,?_⟩
  refine ⟨[.int n],rfl,_,rfl,l,rfl,⟨_,SqL.of hl⟩,compC_list ss (fun D j ys H'=>Same H H'∧H' D=some (.lst ys)∧j≤ss.length∧ys=(List.replicate j false).map V.bl) (small (by omega)) (fun D j ys H' h=>SqL.of (h.1 _ _ hl))
      (fun D j ys H' h=>⟨h.2.1,by rw [h.2.2.2]; simp⟩) (fun D hD=>⟨Same.new hD _,upd_same,Nat.zero_le _,rfl⟩) ?_ ?_ (fun _ _ _ _ _ k h=>k _ _ h) ?_⟩
  · rintro D j x ys H' hx hD ⟨s1,s2,s3,s4⟩
    obtain ⟨p,y,rfl,hp⟩:=hall x (List.mem_of_getElem? hx)
    refine ⟨rfl,_,rfl,p,_,_,_,rfl,rfl,SqT.of (s1 _ _ hp),rfl,_,rfl,rfl,s2,Same.set s1 hD _,upd_same,(List.getElem?_eq_some_iff.mp hx).1,?_⟩
    rw [s4,List.replicate_succ',List.map_append]
    simp
  · rintro D ys H' hD ⟨s1,s2,s3,s4⟩
    refine ⟨D,List.replicate ss.length false,rfl,SqL.of (by rw [s2,s4]),?_⟩
    have e:(List.replicate ss.length false).any id=false:=by simp
    rw [e]
    exact ⟨_,rfl,iteF (q' H' s1)⟩
  · intro σ H' R R' k h
    obtain ⟨x1,e1,p,xs,i,v,e2,e3,e4,e5,x2,e6,e7,h⟩:=h
    exact ⟨x1,e1,p,xs,i,v,e2,e3,e4,e5,x2,e6,e7,k _ _ h⟩
end
end Qs
namespace Qs
open PySem L2

def TrsAt (H:Hp) (xs:List V) (ts:List Tr):Prop:=xs.length=ts.length∧∀ (i:Nat) (x:V) (t:Tr),xs[i]? = some x→ts[i]? = some t→TrAt H x t
theorem TrsAt.up {H H':Hp} {xs:List V} {ts:List Tr} (h:TrsAt H xs ts) (s:Tups H H'):TrsAt H' xs ts:=⟨h.1,fun i x t e1 e2=>(h.2 i x t e1 e2).up s⟩
theorem TrsAt.nil (H:Hp):TrsAt H [] []:=⟨rfl,fun i x t e=>by simp at e⟩
theorem TrsAt.snoc {H:Hp} {xs:List V} {ts:List Tr} {x:V} {t:Tr} (h:TrsAt H xs ts) (k:TrAt H x t):TrsAt H (xs++[x]) (ts++[t]):=by
  refine ⟨by rw [List.length_append,List.length_append,h.1]; rfl,fun i y u e1 e2 => ?_⟩
  by_cases hi:i < xs.length
  · rw [List.getElem?_append_left hi] at e1
    rw [List.getElem?_append_left (by rw [← h.1]; exact hi)] at e2
    exact h.2 i y u e1 e2
  · rw [List.getElem?_append_right (by omega)] at e1
    rw [List.getElem?_append_right (by rw [← h.1]; omega),← h.1] at e2
    generalize i - xs.length=j at e1 e2
    rcases j with _ | j
    · simp at e1 e2; rw [← e1,← e2]; exact k
    · simp at e1
theorem TrsAt.get {H:Hp} {xs:List V} {ts:List Tr} {i:Nat} {x:V} (h:TrsAt H xs ts) (e:xs[i]? = some x):∃ t,ts[i]? = some t∧TrAt H x t:=by
  have hi:i < ts.length:=by rw [← h.1]; exact (List.getElem?_eq_some_iff.mp e).1
  exact ⟨ts[i],List.getElem?_eq_getElem hi,h.2 i x _ e (List.getElem?_eq_getElem hi)⟩
theorem TrsAt.ints {H:Hp} {xs:List V} {ts:List Tr} (h:TrsAt H xs ts) (c:allCol ts=true):xs=(ts.map colv).map V.int:=by
  refine List.ext_getElem? fun i => ?_
  rw [List.getElem?_map,List.getElem?_map]
  cases e:xs[i]? with
  | none =>
    have:ts[i]? = none:=List.getElem?_eq_none_iff.mpr (by rw [← h.1]; exact List.getElem?_eq_none_iff.mp e)
    rw [this]; rfl
  | some x =>
    obtain ⟨t,et,k⟩:=h.get e
    have ct:t.isCol=true:=List.all_eq_true.mp c t (List.mem_of_getElem? et)
    rw [et]
    cases k with
    | col i=>rfl
    | four=>cases ct
theorem kit_tr {K:PySem.W.Frag} (t:Tr):PySem.W.kitOne K (if t.isCol then .type "int" else .type "tuple") (.type "tuple")=some (!t.isCol):=by
  cases t with
  | col i=>exact kit_it
  | four a b c d=>exact kit_tt
theorem any_cols (ts:List Tr):(ts.map fun t => !t.isCol).any id = !allCol ts:=by
  unfold allCol
  induction ts with
  | nil=>rfl
  | cons t r ih=>rw [List.map_cons,List.any_cons,List.all_cons,ih]; cases t.isCol <;> rfl
section
variable {P:Program} {w:World} {K:PySem.W.Frag} {mg:Str→Option Value} {base:Heap} {CX:CXT} {f:Addr} {fd:FuncData}

def sp_rule (fa c':Addr) (o:Obj) (qual:Str) (R:Hp→Prop) (g:List Int→Int) (len:Nat):Sp:=fun vs H Q _=>∃ (l:Addr) (is:List Int),vs=[.ref l]∧H l=some (.lst (is.map V.int))∧is.length=len∧H c'=some (codeE c' qual)∧H fa=some (isE fa o)∧R H ∧
  ∀ H',Same H H'→Q (.int (g is)) H'
structure RuleOk (Z:List (Addr × Obj)) (P:Program) (w:World) (K:PySem.W.Frag) (mg:Str→Option Value) (base:Heap) (CX:CXT) (fa c':Addr) (o:Obj) (qual:Str) (R:Hp→Prop) (g:List Int→Int) (len:Nat):Prop where
  ex:∃ fdl,o.data=.func fdl∧(∀ us:List Value,us.length=1→bindArgs fdl ⟨us,[]⟩=pure ((["colours"]:List Str).zip us))∧FnOkZ Z P w K mg base CX 1 fa fdl ["colours"] (sp_rule fa c' o qual R g len)
  st:∀ H H',Same H H'→R H→R H'
abbrev s_blended:Stmt:=top 22
theorem sc_blended:FnScope ["trees","rule","parts","quarter"] ["trees","rule"] (defScope s_blended):=⟨rfl,rfl,rfl,by decide +kernel,rfl,by decide +kernel,by decide +kernel⟩
def sp_blended (fa c':Addr) (o:Obj) (qual:Str) (R:Hp→Prop) (g:List Int→Int) (len m:Nat):Sp:=fun vs H Q _=>∃ (n:Nat) (l:Addr) (xs:List V) (ts:List Tr),vs=[.ref l,.ref fa]∧n < m∧H l=some (.lst xs)∧TrsAt H xs ts∧xs.length=len∧len≤3∧(∀ t∈ts,t.deep≤n)∧n≤40 ∧
  H c'=some (codeE c' qual)∧H fa=some (isE fa o)∧R H∧∀ v H',Same H H'→TrAt H' v (blend g n ts)→Q v H'
theorem ok_blended (T:Tx K mg) (q:Quiet CX) (F:FunD K "blended" "blended" s_blended f fd .none) (C_parted:Fok P w K mg base CX 1 "parted" ["tree"] [] sp_parted) (C_gathered:Fok P w K mg base CX 2 "gathered" ["parts"] [] sp_gathered) (b:Binds K fd ["trees","rule"] []) (m:mg "blended" = some (.ref f))
    {Z:List (Addr × Obj)} {fa c':Addr} {o:Obj} {qual:Str} {R:Hp→Prop} {g:List Int→Int} {len:Nat} (RO:RuleOk Z P w K mg base CX fa c' o qual R g len):∀ n,FnOkZ Z P w K mg base CX (3 + n) f fd ["trees","rule"] (sp_blended fa c' o qual R g len n)
  | 0=>FnOkZ.none fun vs H Q E h=>by obtain ⟨n,_,_,_,_,h,_⟩:=h; exact absurd h (Nat.not_lt_zero _)
  | n + 1=>by
    obtain ⟨⟨fdl,hd,hb,G⟩,hRs⟩:=RO
    have C_blended:FokZ Z P w K mg base CX (3 + n) "blended" ["trees","rule"] (sp_blended fa c' o qual R g len n):=fokZ F (ok_blended T q F C_parted C_gathered b m ⟨⟨fdl,hd,hb,G⟩,hRs⟩ n) b m
    refine F.okZ sc_blended (fun vs H Q E h => ?_) (fun cdv A outer s H vs Q E hr hz h => ?_)
    · obtain ⟨_,_,_,_,rfl,_⟩:=h
      rfl
    obtain ⟨d,l,xs,ts,rfl,hdn,hl,hts,hlen,hl3,hdp,h40,hc,hf,hR,q'⟩:=h
    refine ⟨_,(pss_cons (ps_if (pt_not (pt_val (pe_callB (call_any rfl) rfl T.b_any bb_any (pa_cons (pe_compC (N':=["tree"]) [] [] [] 1 (by with_unfolding_all rfl) rfl capsOk_nil rfl rfl (by decide) rfl (by decide +kernel) rfl (by decide +kernel) rfl (pi_list (pv 0)) (fun C s0 H0 fp pins=>(pg_name (i:=0) (show (["tree"]:List Str).Nodup by decide +kernel) rfl (Or.inl rfl) (Or.inr rfl))) (fun C s0 H0 fp pins=>(pe_callB (call_isiTK (K:=K) "tuple") rfl T.b_isinstance bb_isinstance (pa_cons (pv 0) (pa_cons (pe_bty T.b_tuple bt_tuple) pa_nil))))) pa_nil)))) (pss_one (ps_ret (pe_callV (i:=1) G hd hb q hz hr (pa_cons (pv 0) pa_nil) (hj:=by first | decide | omega | (simp only [Nat.add_eq]; omega))))) pss_nil) (pss_cons (ps_set (i:=2) sc_blended.nd rfl (Or.inl rfl) (pe_lstx pax_nil)) (pss_cons (ps_for PassesOwn.never rfl (pi_range1 rfl T.b_range (pa_cons pe_int pa_nil)) (pg_name (i:=3) sc_blended.nd rfl (Or.inr rfl)) (pss_one (ps_expr (pe_bm PySem.F.plainAttrs_list PySem.F.slot_list_append PySem.F.type_list_append mt_append (pv 2) (pa_cons (pe_callZ C_blended q hz hr (pa_cons (pe_compC (N':=["tree","quarter"]) ["quarter"] ["quarter"] [3] 1 (by with_unfolding_all rfl) rfl (capsOk_cons rfl rfl (by decide) capsOk_nil) rfl rfl (by decide) rfl (by decide +kernel) rfl (by decide +kernel) rfl (pi_list (pv 0)) (fun C s0 H0 fp pins=>(pg_name (i:=0) (show (["tree","quarter"]:List Str).Nodup by decide +kernel) rfl (Or.inl rfl) (Or.inr rfl))) (fun C s0 H0 fp pins=>(pe_ix (ix_tupK (K:=K)) (pe_callF C_parted q hr (pa_cons (pv 0) pa_nil) (hj:=by first | decide | omega | (simp only [Nat.add_eq]; omega))) (pv 1) (fun _ _=>rfl)))) (pa_cons (pv 1) pa_nil)) (hj:=by first | decide | omega | (simp only [Nat.add_eq]; omega))) pa_nil))))) (pss_one (ps_ret (pe_callF C_gathered q hr (pa_cons (pv 2) pa_nil) (hj:=by first | decide | omega | (simp only [Nat.add_eq]; omega)))))))),?_⟩
    have lx:xs.length≤sizeLine:=small (by omega)
    refine ⟨[],rfl,_,rfl,l,rfl,⟨_,SqL.of hl⟩,compC_list xs (fun D j ys H'=>Same H H'∧H' D=some (.lst ys)∧j≤xs.length∧ys=(ts.take j).map (fun t=>V.bl (!t.isCol))) lx (fun D j ys H' h=>SqL.of (h.1 _ _ hl))
      (fun D j ys H' h=>⟨h.2.1,by rw [h.2.2.2]; simp; omega⟩) (fun D hD=>⟨Same.new hD _,upd_same,Nat.zero_le _,rfl⟩) ?_ ?_ (fun _ _ _ _ _ k h=>k _ _ h) ?_⟩
    · rintro D j x ys H' hx hD ⟨s1,s2,s3,s4⟩
      obtain ⟨t,et,kt⟩:=hts.get hx
      refine ⟨rfl,_,rfl,_,_,_,rfl,(kt.up s1.tups).ty (K:=K),kit_tr t,s2,Same.set s1 hD _,upd_same,(List.getElem?_eq_some_iff.mp hx).1,?_⟩
      rw [List.take_add_one,et,s4,List.map_append]; rfl
    · rintro D ys H1 hD ⟨s1,s2,s3,s4⟩
      refine ⟨D,ts.map (fun t => !t.isCol),rfl,SqL.of (by rw [s2,s4,hts.1,List.take_length,List.map_map]; rfl),?_⟩
      rw [any_cols]
      have hl1:=s1 _ _ hl
      have hts1:=hts.up s1.tups
      cases hac:allCol ts with
      | true =>
        refine ⟨_,rfl,iteT ?_⟩
        rw [hts.ints hac] at hl1
        refine ⟨rfl,_,rfl,s1 _ _ hf,l,ts.map colv,rfl,hl1,?_,s1 _ _ hc,s1 _ _ hf,hRs _ _ s1 hR,fun H2 s2=>q' _ H2 (s1.trans s2) ?_⟩
        · rw [List.length_map,← hts.1]; exact hlen
        · rw [blend_col hac]; exact .col _
      | false =>
        refine ⟨_,rfl,iteF ?_⟩
        rcases d with _ | d
        · rw [allCol_zero hdp] at hac; cases hac
        refine ⟨(by show 0≤sizeLine; decide),fun lp hlp => ?_⟩
        have sp0:=s1.trans (Same.new hlp (.lst []))
        have hlpH:H lp=none:=Same.none s1 hlp
        refine ⟨_,rfl,by decide,by decide,for_range (fun j σ H2=>Same H H2∧∃ (ys:List V) (o3:Option V),H2 lp=some (.lst ys)∧TrsAt H2 ys ((List.range j).map fun i=>blend g d (ts.map (qk · i)))∧σ=[some (.ref l),some (.ref fa),some (.ref lp),o3])
          ⟨sp0,[],none,upd_same,TrsAt.nil _,rfl⟩ ?_ ?_⟩
        · rintro j σ H2 hj ⟨sm2,ys2,o3,hlp2,hys2,rfl⟩
          have hj4:j < 4:=hj
          have e0:(0:Int) + (j:Int)=(j:Int):=Int.zero_add _
          rw [e0]
          have hl2:=sm2 _ _ hl
          have hts2:=hts.up sm2.tups
          have ly2:ys2.length=j:=by rw [hys2.1]; simp
          refine ⟨_,rfl,.inl ⟨rfl,_,SqL.of hlp2⟩,[.int j],rfl,_,rfl,l,rfl,⟨_,SqL.of hl2⟩,compC_list xs (fun D i zs H'=>Same H2 H'∧H' D=some (.lst zs)∧i≤xs.length∧TrsAt H' zs ((ts.take i).map (qk · j))) lx (fun D i zs H' h=>SqL.of (h.1 _ _ hl2))
            (fun D i zs H' h=>⟨h.2.1,by rw [h.2.2.2.1]; simp; omega⟩) (fun D hD=>⟨Same.new hD _,upd_same,Nat.zero_le _,TrsAt.nil _⟩) ?_ ?_ (fun _ _ _ _ _ k h=>k _ _ h) ?_⟩
          · rintro D2 i x zs H3 hx hD2 ⟨c1,c2,c3,c4⟩
            obtain ⟨t,et,kt⟩:=hts2.get hx
            refine ⟨rfl,_,rfl,x,t,rfl,kt.up c1.tups,fun p a b c e H4 s4 hp ka kb kc ke => ?_⟩
            have key:∃ y,atI [a,b,c,e] (j:Int)=some y∧TrAt H4 y (qk t j):=by
              rcases j with _ | _ | _ | _ | j
              · exact ⟨a,rfl,ka⟩
              · exact ⟨b,rfl,kb⟩
              · exact ⟨c,rfl,kc⟩
              · exact ⟨e,rfl,ke⟩
              · omega
            obtain ⟨y,ey,ky⟩:=key
            refine ⟨_,rfl,p,_,_,y,rfl,rfl,SqT.of hp,ey,s4 _ _ c2,Same.set (c1.trans s4) hD2 _,upd_same,(List.getElem?_eq_some_iff.mp hx).1,?_⟩
            have tz:=Tups.lst (ys:=zs++[y]) (s4 _ _ c2)
            rw [List.take_add_one,et,List.map_append]
            exact (c4.up (s4.tups.trans tz)).snoc (ky.up tz)
          · rintro D2 zs H3 hD2 ⟨c1,c2,c3,c4⟩
            rw [hts.1,List.take_length] at c4
            have s3:=sm2.trans c1
            refine ⟨_,rfl,d,D2,zs,ts.map (qk · j),rfl,by omega,c2,c4,?_,hl3,fun t ht => ?_,by omega,s3 _ _ hc,s3 _ _ hf,hRs _ _ s3 hR,fun v H4 s4 hv => ?_⟩
            · rw [c4.1,List.length_map,← hts.1]; exact hlen
            · obtain ⟨u,hu,rfl⟩:=List.mem_map.mp ht
              exact qk_deep (hdp u hu)
            have hlp4:=s4 _ _ (c1 _ _ hlp2)
            refine ⟨lp,ys2,v,rfl,rfl,hlp4,small (by omega),Same.set (s3.trans s4) hlpH _,ys2++[v],_,upd_same,?_,rfl⟩
            have tz:=Tups.lst (ys:=ys2++[v]) hlp4
            rw [List.range_succ,List.map_append]
            exact (hys2.up (c1.tups.trans (s4.tups.trans tz))).snoc (hv.up tz)
          · intro σ H' R R' k h
            obtain ⟨x1,e1,x2,t2,e2,h1,h2⟩:=h
            refine ⟨x1,e1,x2,t2,e2,h1,fun p a b c e H4 s4 hp ka kb kc ke => ?_⟩
            obtain ⟨y1,f1,y2,y3,y4,y5,f2,f3,f4,f5,f6⟩:=h2 p a b c e H4 s4 hp ka kb kc ke
            exact ⟨y1,f1,y2,y3,y4,y5,f2,f3,f4,f5,k _ _ f6⟩
        · rintro σ H2 ⟨sm2,ys2,o3,hlp2,hys2,rfl⟩
          have h4:ys2.length=4:=by rw [hys2.1]; rfl
          match ys2,h4,hlp2,hys2 with
          | [xa,xb,xc,xd],_,hlp2,hys2 =>
            refine ⟨_,rfl,lp,xa,xb,xc,xd,_,_,_,_,rfl,hlp2,hys2.2 0 _ _ rfl rfl,hys2.2 1 _ _ rfl rfl,hys2.2 2 _ _ rfl rfl,hys2.2 3 _ _ rfl rfl,?_,fun v H3 s3 hv=>q' v H3 (sm2.trans s3) ?_⟩
            · have bd:=fun i=>blend_deep g d (ts.map (qk · i))
              exact ⟨Nat.le_trans (bd 0) (by omega),Nat.le_trans (bd 1) (by omega),Nat.le_trans (bd 2) (by omega),Nat.le_trans (bd 3) (by omega)⟩
            · rw [blend_four hac]; exact hv
    · intro σ H' R R' k h
      obtain ⟨x1,e1,a1,a2,a3,p1,p2,p3,h⟩:=h
      exact ⟨x1,e1,a1,a2,a3,p1,p2,p3,k _ _ h⟩
end
end Qs


namespace Qs
open PySem L2
section
variable {P:Program} {w:World} {K:PySem.W.Frag} {mg:Str→Option Value} {base:Heap} {CX:CXT} {f:Addr} {fd:FuncData}

def BlOk (P:Program) (w:World) (K:PySem.W.Frag) (mg:Str→Option Value) (base:Heap) (CX:CXT):Prop:=∃ f fd,Binds K fd ["trees","rule"] []∧PySem.W.keepIn K (.ref f)=true∧mg "blended" = some (.ref f) ∧
  ∀ (Z:List (Addr × Obj)) (fa c':Addr) (o:Obj) (qual:Str) (R:Hp→Prop) (g:List Int→Int) (len:Nat),RuleOk Z P w K mg base CX fa c' o qual R g len→FnOkZ Z P w K mg base CX 44 f fd ["trees","rule"] (sp_blended fa c' o qual R g len 41)
def sp_bl (mk:Addr→Value→Obj) (qual:Str) (R:Hp→Prop) (g:List Int→Int) (len:Nat):Sp:=fun vs H Q E=>∃ i:Addr × Addr × Value,sp_blended i.1 i.2.1 (mk i.2.1 i.2.2) qual R g len 41 vs H Q E
theorem BlOk.of {Z:List (Addr × Obj)} {mk:Addr→Value→Obj} {qual:Str} {R:Hp→Prop} {g:List Int→Int} {len:Nat} (B:BlOk P w K mg base CX) (h:∀ fa c' ctv,RuleOk Z P w K mg base CX fa c' (mk c' ctv) qual R g len):FokZ Z P w K mg base CX 44 "blended" ["trees","rule"] (sp_bl mk qual R g len):=by
  obtain ⟨f,fd,b,kp,m,G⟩:=B
  exact ⟨f,fd,FnOkZ.ex fun i=>G Z i.1 i.2.1 _ qual R g len (h i.1 i.2.1 i.2.2),b,kp,m⟩
end
end Qs
namespace Qs
open PySem L2
def key1 (xs:List Int):Key:=Sum.inl ((xs[0]?).getD 0)
section
variable {P:Program} {w:World} {K:PySem.W.Frag} {mg:Str→Option Value} {base:Heap} {CX:CXT} {f:Addr} {fd:FuncData}
abbrev s_mapped:Stmt:=top 23
theorem sc_mapped:FnScope ["sheet","turned"] ["sheet","turned"] (defScope s_mapped):=⟨rfl,rfl,rfl,by decide +kernel,rfl,by decide +kernel,by decide +kernel⟩
abbrev qMapped:Str:=("mapped" : Str) ++ ".<locals>." ++ "<lambda>"
abbrev lMapped:Expr:=retLam s_mapped
def sp_mapped (Tb:List (Addr × Str)):Sp:=fun vs H Q _=>∃ (a:V) (d:Addr) (n:Nat) (t:Tr) (kvs:List (Key × V)),vs=[a,.ref d]∧ShAt H a n t∧Good n t∧n≤40∧H d=some (.dK kvs)∧Cols kvs∧Tabs Tb H ∧
  ∀ v H',SameT Tb H H'→Tabs Tb H'→ShAt H' v n (blend (gTab key1 kvs) n [t])→Q v H'
theorem scl_mapped:LamScope ["colours"] ["turned"] (lamScope lMapped):=⟨rfl,rfl,rfl,by decide +kernel,by decide +kernel,by decide +kernel,by decide +kernel,by decide +kernel⟩
theorem rule_mapped (T:Tx K mg) {Z:List (Addr × Obj)} {cl:List (Str × Addr)} {d:Addr} {kvs:List (Key × V)} (hk:Cols kvs) (C:CellsZ Z cl ["turned"] [.ref d]) (fa c':Addr) (pm ctv:Value) :
    RuleOk Z P w K mg base CX fa c' (PySem.W.kla_obj "<lambda>" qMapped (lamParams lMapped) (lamBody lMapped) (lamScope lMapped) cl pm c' ctv) qMapped (fun H=>H d=some (.dK kvs)) (gTab key1 kvs) 1:=by
  refine ⟨⟨_,rfl,fun us hl=>match us,hl with | [_],_=>rfl,?_⟩,fun _ _ s h=>s _ _ h⟩
  refine lam_of scl_mapped C (fun vs H Q E h => ?_) (fun vs H Q E h => ?_) fun A outer s H vs Q E hr hz h => ?_
  · obtain ⟨_,_,rfl,_⟩:=h
    rfl
  · obtain ⟨_,_,_,_,_,h1,h2,_⟩:=h
    exact ⟨h1,h2⟩
  obtain ⟨l,is,rfl,hl,hlen,_,_,hd,q'⟩:=h
  refine ⟨_,(pe_dget2 hr.dic (pv 1) (pe_ix (ix_listK (K:=K)) (pv 0) pe_int (fun _ _=>rfl)) (pe_ix (ix_listK (K:=K)) (pv 0) pe_int (fun _ _=>rfl)) ⟨rfl,rfl,rfl,rfl⟩),?_⟩
  match is,hlen,hl,q' with
  | [i],_,hl,q' =>
    have hl':H l=some (.lst [.int i]):=hl
    have q2:=q' H (Same.refl H)
    refine ⟨_,rfl,d,rfl,.inl ⟨_,.inl hd⟩,_,rfl,l,_,_,_,rfl,rfl,SqL.of hl',rfl,_,rfl,l,_,_,_,rfl,rfl,SqL.of hl',rfl,_,DGet.k (k:=Sum.inl i) hd,?_⟩
    have z:=get_tab key1 hk [i]
    have z':(valV kvs (Sum.inl i)).getD (.int i)=.int (gTab key1 kvs [i]):=z
    rw [z']; exact q2
theorem ok_mapped (T:Tx K mg) (q:Quiet CX) {Tb:List (Addr × Str)} {Pt:Addr} (F:FunT K "mapped" "mapped" s_mapped f fd .none Pt) (KX:K.In base) (hB:BMain mg base) (hT:(Pt,qMapped)∈Tb) (hnd:(Tb.map (·.1)).Nodup) (B:BlOk P w K mg base CX):FnOk P w K mg base CX 45 f fd ["sheet","turned"] (sp_mapped Tb):=by
  refine F.ok KX sc_mapped (fun vs H Q E h => ?_) (fun c A outer s H vs Q E hC hr h => ?_)
  · obtain ⟨_,_,_,_,_,rfl,_⟩:=h
    rfl
  obtain ⟨va,d,n,t,kvs,rfl,⟨pa,xa,rfl,hpa,ht⟩,gt,hn,hd,hk,hTb,q'⟩:=h
  have FL:∀ Z ws,ws=[V.ref d]→CellsZ Z (clo (PyProof.Rows.envOfC "mapped" (defScope s_mapped) s.heap.objs.size f (.ref c)) ["turned"]) ["turned"] ws→FokZ Z P w K mg base CX 44 "blended" ["trees","rule"]
      (sp_bl (fun c' ctv=>PySem.W.kla_obj "<lambda>" qMapped (lamParams lMapped) (lamBody lMapped) (lamScope lMapped) (clo (PyProof.Rows.envOfC "mapped" (defScope s_mapped) s.heap.objs.size f (.ref c)) ["turned"]) ((mg "__name__").getD .none) c' ctv) qMapped (fun H=>H d=some (.dK kvs)) (gTab key1 kvs) 1):=by
    rintro Z ws rfl cz
    exact B.of fun fa c' ctv=>rule_mapped T hk cz fa c' _ ctv
  refine ⟨_,(pss_one (ps_ret (pe_tupx (pax_c (pe_ix ix_tup (pv 0) pe_int (fun _ _=>rfl)) (pax_c (pe_callL ["turned"] ["turned"] [1] FL q hr rfl (capsL_cons rfl (Or.inr (Or.inl rfl)) (by decide) capsL_nil) rfl (pa_cons (pe_lstx (pax_c (pe_ix ix_tup (pv 0) pe_int (fun _ _=>rfl)) pax_nil)) (pa_cons (pe_lam ["turned"] hB hC rfl hT hnd rfl (by with_unfolding_all rfl)) pa_nil))) pax_nil))))),?_⟩
  refine ⟨_,rfl,pa,_,_,_,rfl,rfl,SqT.of hpa,rfl,[.ref d],rfl,rfl,_,rfl,pa,_,_,_,rfl,rfl,SqT.of hpa,rfl,(by show 1≤sizeLine; decide),fun lt hlt => ?_⟩
  have s3:=Same.new hlt (.lst [xa])
  have u3:upd H lt (.lst [xa]) lt=some (.lst [xa]):=upd_same
  generalize upd H lt (.lst [xa])=H3 at *
  have tb3:=s3.tabs hTb
  refine ⟨tb3,fun fa c' ctv H4 nfa e1 e2 tb4 st4 => ?_⟩
  have t4:=s3.tups.trans (st4.tups tb3)
  refine ⟨(fa,c',ctv),n,lt,[xa],[t],rfl,by omega,st4.keep tb3 u3 (by intro ps z; cases z),((TrsAt.nil _).snoc (ht.up t4):TrsAt H4 [xa] [t]),rfl,by decide,fun x hx => ?_,hn,e2,e1,st4.keep tb3 (s3 _ _ hd) (by intro ps z; cases z),fun v H5 s5 hv => ?_⟩
  · rw [List.mem_singleton.mp hx]; exact gt.deep
  refine ⟨(by show 2≤sizeLine; decide),fun pp hpp => ?_⟩
  have s6:=s5.trans (Same.new hpp (.tup [.int n,v]))
  exact q' _ _ (s3.toT.trans (st4.trans s6.toT)) (s6.tabs tb4) ⟨pp,v,rfl,upd_same,hv.up (Same.new hpp _).tups⟩
end
end Qs
namespace Qs
open PySem L2
section
variable {P:Program} {w:World} {K:PySem.W.Frag} {mg:Str→Option Value} {base:Heap} {CX:CXT} {f:Addr} {fd:FuncData}
abbrev s_mixed:Stmt:=top 24
theorem sc_mixed:FnScope ["one","other","table"] ["one","other","table"] (defScope s_mixed):=⟨rfl,rfl,rfl,by decide +kernel,rfl,by decide +kernel,by decide +kernel⟩
abbrev qMixed:Str:=("mixed" : Str) ++ ".<locals>." ++ "<lambda>"
abbrev lMixed:Expr:=retLam s_mixed
def sp_mixed (Tb:List (Addr × Str)):Sp:=fun vs H Q _=>∃ (a b:V) (d:Addr) (n:Nat) (t u:Tr) (kvs:List (List Key × V)),vs=[a,b,.ref d]∧ShAt H a n t∧ShAt H b n u∧Good n t∧Good n u∧n≤40∧H d=some (.dT kvs)∧Cols kvs∧Tabs Tb H ∧
  ∀ v H',SameT Tb H H'→Tabs Tb H'→ShAt H' v n (blend (gTab key2 kvs) n [t,u])→Q v H'
theorem scl_mixed:LamScope ["colours"] ["table"] (lamScope lMixed):=⟨rfl,rfl,rfl,by decide +kernel,by decide +kernel,by decide +kernel,by decide +kernel,by decide +kernel⟩
theorem rule_mixed (T:Tx K mg) {Z:List (Addr × Obj)} {cl:List (Str × Addr)} {d:Addr} {kvs:List (List Key × V)} (hk:Cols kvs) (C:CellsZ Z cl ["table"] [.ref d]) (fa c':Addr) (pm ctv:Value) :
    RuleOk Z P w K mg base CX fa c' (PySem.W.kla_obj "<lambda>" qMixed (lamParams lMixed) (lamBody lMixed) (lamScope lMixed) cl pm c' ctv) qMixed (fun H=>H d=some (.dT kvs)) (gTab key2 kvs) 2:=by
  refine ⟨⟨_,rfl,fun us hl=>match us,hl with | [_],_=>rfl,?_⟩,fun _ _ s h=>s _ _ h⟩
  refine lam_of scl_mixed C (fun vs H Q E h => ?_) (fun vs H Q E h => ?_) fun A outer s H vs Q E hr hz h => ?_
  · obtain ⟨_,_,rfl,_⟩:=h
    rfl
  · obtain ⟨_,_,_,_,_,h1,h2,_⟩:=h
    exact ⟨h1,h2⟩
  obtain ⟨l,is,rfl,hl,hlen,_,_,hd,q'⟩:=h
  refine ⟨_,(pe_dget2 hr.dic (pv 1) (pe_callTy call_tuple_of rfl T.b_tuple bt_tuple (pa_cons (pv 0) pa_nil)) (pe_ix (ix_listK (K:=K)) (pv 0) pe_int (fun _ _=>rfl)) ⟨rfl,rfl,rfl,rfl⟩),?_⟩
  match is,hlen,hl,q' with
  | [i,j],_,hl,q' =>
    have hl':H l=some (.lst [.int i,.int j]):=hl
    refine ⟨_,rfl,d,rfl,.inr ⟨_,.inl hd⟩,_,rfl,l,_,rfl,.inl ⟨SqL.of hl',fun p hp => ?_⟩⟩
    have s1:=Same.new hp (.tup [.int i,.int j])
    have u1:upd H p (.tup [.int i,.int j]) p=some (.tup [.int i,.int j]):=upd_same
    generalize upd H p (.tup [.int i,.int j])=H1 at *
    have q2:=q' H1 s1
    refine ⟨_,rfl,l,_,_,_,rfl,rfl,SqL.of (s1 _ _ hl'),rfl,_,DGet.t (k:=[Sum.inl i,Sum.inl j]) (s1 _ _ hd) u1,?_⟩
    have z:=get_tab key2 hk [i,j]
    have z':(valV kvs [Sum.inl i,Sum.inl j]).getD (.int i)=.int (gTab key2 kvs [i,j]):=z
    rw [z']; exact q2
theorem ok_mixed (T:Tx K mg) (q:Quiet CX) {Tb:List (Addr × Str)} {Pt:Addr} (F:FunT K "mixed" "mixed" s_mixed f fd .none Pt) (KX:K.In base) (hB:BMain mg base) (hT:(Pt,qMixed)∈Tb) (hnd:(Tb.map (·.1)).Nodup)
    (C_need_one_level:Fok P w K mg base CX 1 "need_one_level" ["sheets"] [] sp_one_level) (B:BlOk P w K mg base CX):FnOk P w K mg base CX 45 f fd ["one","other","table"] (sp_mixed Tb):=by
  refine F.ok KX sc_mixed (fun vs H Q E h => ?_) (fun c A outer s H vs Q E hC hr h => ?_)
  · obtain ⟨_,_,_,_,_,_,_,rfl,_⟩:=h
    rfl
  obtain ⟨va,vb,d,n,t,u,kvs,rfl,⟨pa,xa,rfl,hpa,ht⟩,⟨pb,xb,rfl,hpb,hu⟩,gt,gu,hn,hd,hk,hTb,q'⟩:=h
  have FL:∀ Z ws,ws=[V.ref d]→CellsZ Z (clo (PyProof.Rows.envOfC "mixed" (defScope s_mixed) s.heap.objs.size f (.ref c)) ["table"]) ["table"] ws→FokZ Z P w K mg base CX 44 "blended" ["trees","rule"]
      (sp_bl (fun c' ctv=>PySem.W.kla_obj "<lambda>" qMixed (lamParams lMixed) (lamBody lMixed) (lamScope lMixed) (clo (PyProof.Rows.envOfC "mixed" (defScope s_mixed) s.heap.objs.size f (.ref c)) ["table"]) ((mg "__name__").getD .none) c' ctv) qMixed (fun H=>H d=some (.dT kvs)) (gTab key2 kvs) 2):=by
    rintro Z ws rfl cz
    exact B.of fun fa c' ctv=>rule_mixed T hk cz fa c' _ ctv
  refine ⟨_,(pss_cons (ps_expr (pe_callF C_need_one_level q hr (pa_cons (pe_lstx (pax_c (pv 0) (pax_c (pv 1) pax_nil))) pa_nil))) (pss_one (ps_ret (pe_tupx (pax_c (pe_ix ix_tup (pv 0) pe_int (fun _ _=>rfl)) (pax_c (pe_callL ["table"] ["table"] [2] FL q hr rfl (capsL_cons rfl (Or.inr (Or.inl rfl)) (by decide) capsL_nil) rfl (pa_cons (pe_lstx (pax_c (pe_ix ix_tup (pv 0) pe_int (fun _ _=>rfl)) (pax_c (pe_ix ix_tup (pv 1) pe_int (fun _ _=>rfl)) pax_nil))) (pa_cons (pe_lam ["table"] hB hC rfl hT hnd rfl (by with_unfolding_all rfl)) pa_nil))) pax_nil)))))),?_⟩
  refine ⟨_,rfl,_,rfl,(by show 2≤sizeLine; decide),fun l hl => ?_⟩
  have s1:=Same.new hl (.lst [.ref pa,.ref pb])
  have u1:upd H l (.lst [.ref pa,.ref pb]) l=some (.lst [.ref pa,.ref pb]):=upd_same
  generalize upd H l (.lst [.ref pa,.ref pb])=H1 at *
  have hpa1:=s1 _ _ hpa
  have hpb1:=s1 _ _ hpb
  refine ⟨l,_,(n:Int),_,rfl,u1,rfl,(by show 2≤10; decide),(fun v hv => ?_),fun H2 s2 => ?_⟩
  · rcases List.mem_cons.mp hv with rfl | hv
    · exact ⟨pa,xa,rfl,hpa1⟩
    · rw [List.mem_singleton.mp hv]; exact ⟨pb,xb,rfl,hpb1⟩
  have s12:=s1.trans s2
  refine ⟨_,rfl,pa,_,_,_,rfl,rfl,SqT.of (s12 _ _ hpa),rfl,[.ref d],rfl,rfl,_,rfl,pa,_,_,_,rfl,rfl,SqT.of (s12 _ _ hpa),rfl,_,rfl,pb,_,_,_,rfl,rfl,SqT.of (s12 _ _ hpb),rfl,(by show 2≤sizeLine; decide),fun lt hlt => ?_⟩
  have s3:=Same.new hlt (.lst [xa,xb])
  have u3:upd H2 lt (.lst [xa,xb]) lt=some (.lst [xa,xb]):=upd_same
  generalize upd H2 lt (.lst [xa,xb])=H3 at *
  have s13:=s12.trans s3
  have tb3:=s13.tabs hTb
  refine ⟨tb3,fun fa c' ctv H4 nfa e1 e2 tb4 st4 => ?_⟩
  have t4:=s13.tups.trans (st4.tups tb3)
  refine ⟨(fa,c',ctv),n,lt,[xa,xb],[t,u],rfl,by omega,st4.keep tb3 u3 (by intro ps z; cases z),(((TrsAt.nil _).snoc (ht.up t4)).snoc (hu.up t4):TrsAt H4 [xa,xb] [t,u]),rfl,by decide,fun x hx => ?_,hn,e2,e1,st4.keep tb3 (s13 _ _ hd) (by intro ps z; cases z),fun v H5 s5 hv => ?_⟩
  · rcases List.mem_cons.mp hx with rfl | hx
    · exact gt.deep
    · rw [List.mem_singleton.mp hx]; exact gu.deep
  refine ⟨(by show 2≤sizeLine; decide),fun pp hpp => ?_⟩
  have s6:=s5.trans (Same.new hpp (.tup [.int n,v]))
  exact q' _ _ (s13.toT.trans (st4.trans s6.toT)) (s6.tabs tb4) ⟨pp,v,rfl,upd_same,hv.up (Same.new hpp _).tups⟩
end
end Qs


namespace Qs
open PySem L2

def PaV (H:Hp) (n:Nat) (u:V) (q:List Nat × Int):Prop:=∃ p z,u=.ref p∧H p=some (.tup [.str z,.int q.2])∧IsC z∧dig z=q.1∧z.length≤n∧0≤q.2∧q.2≤35
theorem PaV.up {H H':Hp} {n:Nat} {u:V} {q:List Nat × Int} (h:PaV H n u q) (s:Tups H H'):PaV H' n u q:=by
  obtain ⟨p,z,e,hp,h⟩:=h
  exact ⟨p,z,e,s _ _ hp,h⟩
inductive PasAt (H:Hp) (n:Nat):List V→List (List Nat × Int)→Prop
  | nil:PasAt H n [] []
  | cons {u:V} {q:List Nat × Int} {us:List V} {L:List (List Nat × Int)}:PaV H n u q→PasAt H n us L→PasAt H n (u::us) (q::L)
theorem PasAt.up {H H':Hp} {n:Nat} {us:List V} {L:List (List Nat × Int)} (h:PasAt H n us L) (s:Tups H H'):PasAt H' n us L:=by
  induction h with
  | nil=>exact .nil
  | cons p _ ih=>exact .cons (p.up s) ih
theorem PasAt.len {H:Hp} {n:Nat} {us:List V} {L:List (List Nat × Int)} (h:PasAt H n us L):us.length=L.length:=by
  induction h with
  | nil=>rfl
  | cons p _ ih=>simp [ih]
theorem PasAt.app {H:Hp} {n:Nat} {us vs:List V} {L M:List (List Nat × Int)} (h:PasAt H n us L) (k:PasAt H n vs M):PasAt H n (us++vs) (L++M):=by
  induction h with
  | nil=>exact k
  | cons p _ ih=>exact .cons p ih
theorem PasAt.get {H:Hp} {n:Nat} {us:List V} {L:List (List Nat × Int)} (h:PasAt H n us L):∀ {i:Nat} {u:V},us[i]? = some u→∃ q,L[i]? = some q∧PaV H n u q:=by
  induction h with
  | nil=>intro i u e; simp at e
  | cons p _ ih =>
    intro i u e
    rcases i with _ | i
    · exact ⟨_,rfl,by rw [← Option.some.inj e]; exact p⟩
    · exact ih (by simpa using e)
theorem PasAt.take {H:Hp} {n:Nat} {us:List V} {L:List (List Nat × Int)} (h:PasAt H n us L):∀ k,PasAt H n (us.take k) (L.take k):=by
  induction h with
  | nil=>intro k; simp; exact .nil
  | cons p _ ih =>
    intro k
    rcases k with _ | k
    · exact .nil
    · exact .cons p (ih k)
theorem PasAt.drop {H:Hp} {n:Nat} {us:List V} {L:List (List Nat × Int)} (h:PasAt H n us L):∀ k,PasAt H n (us.drop k) (L.drop k):=by
  induction h with
  | nil=>intro k; simp; exact .nil
  | cons p r ih =>
    intro k
    rcases k with _ | k
    · exact .cons p r
    · exact ih k
theorem PaV.ok {H:Hp} {n:Nat} {u:V} {q:List Nat × Int} (h:PaV H n u q):POk n q:=by
  obtain ⟨p,z,_,_,hz,e,hl,h0⟩:=h
  rw [POk,← e,dig_len]
  exact ⟨dig_lt hz,hl,h0⟩
theorem PasAt.ok {H:Hp} {n:Nat} {us:List V} {L:List (List Nat × Int)} (h:PasAt H n us L):∀ p∈L,POk n p:=by
  induction h with
  | nil=>intro p hp; cases hp
  | cons p _ ih =>
    intro q hq
    rcases List.mem_cons.mp hq with rfl | hq
    · exact p.ok
    · exact ih q hq
def paData (q:Str × Int):PyData:=.tuple [.str q.1,.int q.2]
theorem strOk_isC {z:Str} (h:IsC z):PyData.strOk z=true:=by
  unfold PyData.strOk
  rw [← Array.all_toList,List.all_eq_true]
  intro c hc
  have:=h c hc
  exact decide_eq_true (by omega)
theorem paList_shaped {ds:List (Str × Int)} (h:∀ q∈ds,PyData.strOk q.1=true):SeqAt.shaped (.list (ds.map paData))=true:=by
  have e:PyData.canLayAll0 (ds.map paData)=true∧PyData.depthAll (ds.map paData)≤1:=by
    induction ds with
    | nil=>exact ⟨rfl,Nat.zero_le _⟩
    | cons q r ih =>
      obtain ⟨i1,i2⟩:=ih (fun p hp=>h p (List.mem_cons_of_mem _ hp))
      refine ⟨?_,?_⟩
      · show ((PyData.strOk q.1 && (true && true)) && PyData.canLayAll0 (r.map paData))=true
        rw [h q List.mem_cons_self,i1]; rfl
      · show max (max 0 (max 0 0) + 1) (PyData.depthAll (r.map paData))≤1
        omega
  unfold SeqAt.shaped
  show (PyData.canLayAll0 (ds.map paData) && decide (PyData.depthAll (ds.map paData) + 1≤64))=true
  rw [e.1,decide_eq_true (by omega)]; rfl
end Qs
namespace Qs
open PySem L2
theorem dig_app (a b:Str):dig (a++b)=dig a++dig b:=by
  unfold dig
  show (a.cps++b.cps).toList.map _=_
  simp
theorem dig_one (d:Nat):dig (one d)=[d]:=by
  show [48 + d - 48]=[d]
  rw [show 48 + d - 48=d by omega]
theorem dig_pre' (z:Str) (k:Nat):dig (pre z k)=(dig z).take k:=by
  unfold dig pre
  simp
theorem big {n:Nat} (h:n≤1000000):n≤sizeLine:=Nat.le_trans h (by decide)
theorem big' {n:Nat} (h:n≤1000000):n < sizeLine:=Nat.lt_of_le_of_lt h (by decide)
theorem slice_neg1 (z:Str):Txt.slice z none (some (-1))=pre z (z.length - 1):=by
  rcases Nat.eq_zero_or_pos z.length with h | h
  · rw [str_eq_nil.mpr h]; decide +kernel
  · have e:=PyProof.Rows.slice_closes_to_neg (x:=z) (j:=-1) (k:=(z.length:Int) - 1) (by decide) (by omega) (by omega)
    rw [beq_iff_eq] at e
    rw [e]
    unfold pre
    congr 2
    rw [show ((z.length:Int) - 1 - 0).toNat=z.length - 1 by omega]
    rfl
theorem dig_init (z:Str):dig (pre z (z.length - 1))=(dig z).dropLast:=by
  rw [dig_pre',List.dropLast_eq_take,dig_len]
theorem cutV_last4 (xs:List V):cutV xs (some (-4)) none=xs.drop (xs.length - 4):=by
  unfold cutV
  have e0:HT.sIx xs.length 0 (some (-4))=xs.length - 4:=by
    unfold HT.sIx
    first | (simp; omega) | (dsimp only; split <;> omega)
  have e1:HT.sIx xs.length xs.length none=xs.length:=rfl
  rw [e0,e1]
  exact List.take_of_length_le (by rw [List.length_drop]; exact Nat.le_refl _)
theorem kit_ll {K:PySem.W.Frag}:PySem.W.kitOne K (.type "list") (.type "list")=some true:=by kernel_rfl
def paT (q:List Nat × Int):Str × Int:=(txt q.1,q.2)
theorem paT_inj:∀ {A B:List (List Nat × Int)},A.map paT=B.map paT→A=B
  | [],[],_=>rfl
  | [],_::_,h=>by cases h
  | _::_,[],h=>by cases h
  | a::A,b::B,h=>by
    have h':paT a::A.map paT=paT b::B.map paT:=h
    obtain ⟨h1,h2⟩:=List.cons.inj h'
    have h3:txt a.1=txt b.1:=congrArg Prod.fst h1
    have h4:a.2=b.2:=congrArg (fun x:Str × Int=>x.2) h1
    have h5:=congrArg dig h3
    rw [dig_txt,dig_txt] at h5
    rw [paT_inj h2,show a=b from Prod.ext h5 h4]
theorem PasAt.dats2 {H:Hp} {n:Nat} {us:List V} {L:List (List Nat × Int)} (h:PasAt H n us L):Dats H us ((L.map paT).map paData)∧∀ q∈L.map paT,PyData.strOk q.1=true:=by
  induction h with
  | nil=>exact ⟨.nil,fun q hq=>(by cases hq)⟩
  | @cons u q us L p _ ih =>
    obtain ⟨a,z,rfl,ha,hz,ez,_⟩:=p
    have e:txt q.1=z:=by rw [← ez,txt_dig hz]
    refine ⟨.cons ?_ ih.1,fun r hr => ?_⟩
    · show Dat H (.ref a) (.tuple [.str (txt q.1),.int q.2])
      rw [e]
      exact .tup ha (.cons (.str z) (.cons (.int _) .nil))
    · rcases List.mem_cons.mp hr with rfl | hr
      · show PyData.strOk (txt q.1)=true
        rw [e]; exact strOk_isC hz
      · exact ih.2 r hr
theorem paEqv:∀ A B:List (Str × Int),PyData.eqv (.list (A.map paData)) (.list (B.map paData))=decide (A=B)
  | [],[]=>by simp [PyData.eqv,PyData.eqvAll]
  | [],_::_=>by simp [PyData.eqv,PyData.eqvAll]
  | _::_,[]=>by simp [PyData.eqv,PyData.eqvAll]
  | a::A,b::B=>by
    have ih:=paEqv A B
    show ((a.1 == b.1 && (a.2 == b.2 && true)) && PyData.eqv (.list (A.map paData)) (.list (B.map paData)))=_
    rw [ih]
    obtain ⟨a1,a2⟩:=a
    obtain ⟨b1,b2⟩:=b
    by_cases h1:a1=b1 <;> by_cases h2:a2=b2 <;> by_cases h3:A=B <;> simp [h1,h2,h3]
theorem log_small4:∀ n:Nat,n < 4→((n:Int)).natAbs.log2 < 1920:=by decide +kernel
theorem str_one {d:Nat} (h:d < 4):Str.ofString (toString ((d:Nat):Int))=one d :=
  four (P:=fun d=>Str.ofString (toString ((d:Nat):Int))=one d) (by decide +kernel) (by decide +kernel) (by decide +kernel) (by decide +kernel) h
section
variable {P:Program} {w:World} {K:PySem.W.Frag} {mg:Str→Option Value} {base:Heap} {CX:CXT} {f:Addr} {fd:FuncData}
abbrev s_leaves_below:Stmt:=top 9
theorem sc_leaves_below:FnScope ["tree","code","row","quarter"] ["tree","code"] (defScope s_leaves_below):=⟨rfl,rfl,rfl,by decide +kernel,rfl,by decide +kernel,by decide +kernel⟩
def sp_leaves_below (m:Nat):Sp:=fun vs H Q _=>∃ (v:V) (t:Tr) (z:Str) (k n:Nat),vs=[v,.str z]∧TrAt H v t∧Good k t∧IsC z∧z.length + k≤n∧n≤40∧k < m∧m≤41∧cnt t≤4000∧∀ l us H',Same H H'→H l=none→H' l=some (.lst us)→PasAt H' n us (lvs (dig z) t)→Q (.ref l) H'
theorem ok_leaves_below (T:Tx K mg) (q:Quiet CX) (F:FunD K "leaves_below" "leaves_below" s_leaves_below f fd .none) (b:Binds K fd ["tree","code"] []) (m:mg "leaves_below" = some (.ref f)) :
    ∀ n,FnOk P w K mg base CX (1 + n) f fd ["tree","code"] (sp_leaves_below n)
  | 0=>by
    refine F.ok sc_leaves_below (fun vs H Q E h => ?_) (fun cdv A outer s H vs Q E hr h => ?_)
    · obtain ⟨_,_,_,_,_,rfl,_⟩:=h
      rfl
    obtain ⟨_,_,_,_,_,_,_,_,_,_,_,h,_⟩:=h
    exact absurd h (Nat.not_lt_zero _)
  | m' + 1=>by
    have C_leaves_below:Fok P w K mg base CX (1 + m') "leaves_below" ["tree","code"] [] (sp_leaves_below m'):=fok F (ok_leaves_below T q F b m m') b m
    refine F.ok sc_leaves_below (fun vs H Q E h => ?_) (fun cdv A outer s H vs Q E hr h => ?_)
    · obtain ⟨_,_,_,_,_,rfl,_⟩:=h
      rfl
    obtain ⟨v,t,z,k,n,rfl,ht,gt,hz,hl,hn,hk,hm,hc,q'⟩:=h
    refine ⟨_,(pss_cons (ps_if (pt_not (pt_val (pe_callB (call_isiT "tuple") rfl T.b_isinstance bb_isinstance (pa_cons (pv 0) (pa_cons (pe_bty T.b_tuple bt_tuple) pa_nil))))) (pss_one (ps_ret (pe_lstx (pax_c (pe_tupx (pax_c (pv 1) (pax_c (pv 0) pax_nil))) pax_nil)))) pss_nil) (pss_cons (ps_set (i:=2) sc_leaves_below.nd rfl (Or.inl rfl) (pe_lstx pax_nil)) (pss_cons (ps_for PassesOwn.never rfl (pi_range1 rfl T.b_range (pa_cons pe_int pa_nil)) (pg_name (i:=3) sc_leaves_below.nd rfl (Or.inl rfl)) (pss_one (ps_expr (pe_bm PySem.F.plainAttrs_list PySem.F.slot_list_extend PySem.F.type_list_extend mt_extend (pv 2) (pa_cons (pe_callF C_leaves_below q hr (pa_cons (pe_ix ix_tup (pv 0) (pv 3) (fun _ _=>rfl)) (pa_cons (pe_op op_add_str (pv 1) (pe_callTy call_str_int rfl T.b_str bt_str (pa_cons (pv 3) pa_nil))) pa_nil)) (hj:=by first | decide | omega | (simp only [Nat.add_eq]; omega))) pa_nil))))) (pss_one (ps_ret (pv 2)))))),?_⟩
    cases ht with
    | col i =>
      have g':0≤i∧i≤35:=by cases k <;> exact gt
      refine ⟨_,rfl,_,_,_,rfl,.int _,kit_it,_,rfl,iteT ?_⟩
      refine ⟨_,rfl,_,rfl,(by show 2≤sizeLine; decide),fun p hp => ?_⟩
      have s1:=Same.new hp (.tup [.str z,.int i])
      have u1:upd H p (.tup [.str z,.int i]) p=some (.tup [.str z,.int i]):=upd_same
      generalize upd H p (.tup [.str z,.int i])=H1 at *
      refine ⟨(by show 1≤sizeLine; decide),fun l hl1 => ?_⟩
      have s2:=Same.new hl1 (.lst [.ref p])
      exact q' l _ _ (s1.trans s2) (Same.none s1 hl1) upd_same (.cons ⟨p,z,rfl,s2 _ _ u1,hz,rfl,by omega,g'⟩ .nil)
    | @four p xa xb xc xd ta tb tc td e ja jb jc jd =>
      rcases k with _ | k
      · exact gt.elim
      obtain ⟨ga,gb,gc,gd,ho⟩:=gt
      have hc':cnt ta + cnt tb + cnt tc + cnt td≤4000:=hc
      refine ⟨_,rfl,_,_,_,rfl,.tup e,kit_tt,_,rfl,iteF ?_⟩
      refine ⟨(by show 0≤sizeLine; decide),fun l hl1 => ?_⟩
      have s1:=Same.new hl1 (.lst [])
      have u1:upd H l (.lst []) l=some (.lst []):=upd_same
      generalize upd H l (.lst [])=H1 at *
      obtain ⟨ps,eps⟩:∃ ps:List (List (List Nat × Int)),ps=[lvs (dig z++[0]) ta,lvs (dig z++[1]) tb,lvs (dig z++[2]) tc,lvs (dig z++[3]) td]:=⟨_,rfl⟩
      have lps:ps.length=4:=by rw [eps]; rfl
      have tot:ps.flatten.length≤4000:=by
        rw [eps]
        simp only [List.flatten_cons,List.flatten_nil,List.append_nil,List.length_append,lvs_count]
        omega
      refine ⟨4,rfl,by decide,by decide,for_range (fun j σ H2=>Same H H2∧∃ (us:List V) (o3:Option V),H2 l=some (.lst us)∧j≤4∧PasAt H2 n us (ps.take j).flatten∧σ=[some (.ref p),some (.str z),some (.ref l),o3]) ⟨s1,[],none,u1,by decide,.nil,rfl⟩ ?_ ?_⟩
      · rintro j σ H2 hj ⟨s2,us,o3,u2,hj4,hus,rfl⟩
        have hj4:j < 4:=hj
        rw [show (0:Int) + (j:Int)=(j:Int) from Int.zero_add _]
        have key:∃ x t',atI [xa,xb,xc,xd] (j:Int)=some x∧TrAt H x t'∧Good k t'∧cnt t'≤4000∧ps[j]? = some (lvs (dig z++[j]) t'):=by
          rw [eps]
          rcases j with _ | _ | _ | _ | j
          · exact ⟨xa,ta,rfl,ja,ga,by omega,rfl⟩
          · exact ⟨xb,tb,rfl,jb,gb,by omega,rfl⟩
          · exact ⟨xc,tc,rfl,jc,gc,by omega,rfl⟩
          · exact ⟨xd,td,rfl,jd,gd,by omega,rfl⟩
          · omega
        obtain ⟨x,t',k1,k2,k3,k4,k5⟩:=key
        have l1:(one j).length=1:=rfl
        refine ⟨_,rfl,.inl ⟨rfl,_,SqL.of u2⟩,_,rfl,_,rfl,p,_,_,x,rfl,rfl,SqT.of (s2 _ _ e),k1,_,rfl,_,rfl,(j:Int),rfl,log_small4 j hj4,?_⟩
        rw [str_one hj4]
        refine ⟨_,_,rfl,rfl,(by rw [l1]; exact small (by omega)),x,t',z++one j,k,n,rfl,k2.up s2.tups,k3,IsC.app hz (IsC.one hj4),by rw [app_len,l1]; omega,hn,by omega,by omega,k4,fun l2 us2 H3 s3 hl2 u3 hus2 => ?_⟩
        rw [dig_app,dig_one] at hus2
        have u2':=s3 _ _ u2
        have et:(ps.take (j + 1)).flatten=(ps.take j).flatten++lvs (dig z++[j]) t':=by rw [List.take_add_one,k5,List.flatten_append]; simp
        have n1:=hus.len
        have n2:=hus2.len
        have n3:(ps.take j).flatten.length≤ps.flatten.length:=by
          conv=>rhs; rw [← List.take_append_drop j ps,List.flatten_append,List.length_append]
          omega
        have n4:=lvs_count t' (dig z++[j])
        have tl:=Tups.lst (ys:=us++us2) u2'
        refine ⟨l,l2,us,us2,rfl,rfl,u2',u3,big (by omega),Same.set (s2.trans s3) hl1 _,us++us2,_,upd_same,hj4,?_,rfl⟩
        rw [et]
        exact (hus.up (s3.tups.trans tl)).app (hus2.up tl)
      · rintro σ H2 ⟨s2,us,o3,u2,hj4,hus,rfl⟩
        have e4:(ps.take 4).flatten=lvs (dig z) (.four ta tb tc td):=by
          rw [List.take_of_length_le (by omega),eps]
          simp [lvs]
        have hus':PasAt H2 n us (ps.take 4).flatten:=hus
        rw [e4] at hus'
        exact ⟨_,rfl,q' l us H2 s2 hl1 u2 hus'⟩
abbrev s_leaves:Stmt:=top 10
theorem sc_leaves:FnScope ["sheet"] ["sheet"] (defScope s_leaves):=⟨rfl,rfl,rfl,by decide +kernel,rfl,by decide +kernel,by decide +kernel⟩
def sp_leaves:Sp:=fun vs H Q _=>∃ (v:V) (t:Tr) (n:Nat),vs=[v]∧ShAt H v n t∧Good n t∧n≤40∧cnt t≤4000∧∀ l us H',Same H H'→H l=none→H' l=some (.lst us)→PasAt H' n us (lvs [] t)→Q (.ref l) H'
theorem ok_leaves (T:Tx K mg) (q:Quiet CX) (F:FunD K "leaves" "leaves" s_leaves f fd .none) (C_leaves_below:Fok P w K mg base CX 42 "leaves_below" ["tree","code"] [] (sp_leaves_below 41)):FnOk P w K mg base CX 43 f fd ["sheet"] sp_leaves:=by
  refine F.ok sc_leaves (fun vs H Q E h => ?_) (fun cdv A outer s H vs Q E hr h => ?_)
  · obtain ⟨_,_,_,rfl,_⟩:=h
    rfl
  obtain ⟨v,t,n,rfl,⟨p,x,rfl,hp,hx⟩,gt,hn,hc,q'⟩:=h
  refine ⟨_,(pss_one (ps_ret (pe_callF C_leaves_below q hr (pa_cons (pe_ix ix_tup (pv 0) pe_int (fun _ _=>rfl)) (pa_cons pe_str pa_nil))))),?_⟩
  refine ⟨_,rfl,p,_,_,_,rfl,rfl,SqT.of hp,rfl,x,t,("" : Str),n,n,rfl,hx,gt,empty_eq▸IsC.nil,by rw [show ("" : Str).length=0 by decide +kernel]; omega,hn,by omega,by decide,hc,fun l us H' s' hl u' hus => ?_⟩
  rw [dig_empty] at hus
  exact q' l us H' s' hl u' hus
end
end Qs
namespace Qs
open PySem L2
theorem ends_iff {R:List (List Nat × Int)} {q:List Nat × Int} (h:R[R.length - 1]? = some q):R.drop (R.length - 4)=four4 q.1.dropLast q.2↔EndsF R:=by
  constructor
  · intro e
    exact ⟨R.take (R.length - 4),_,_,by rw [← e,List.take_append_drop]⟩
  · rintro ⟨Y,w,c,rfl⟩
    have l4:(four4 w c).length=4:=rfl
    rw [List.length_append,l4] at h ⊢
    have h':(four4 w c)[3]? = some q:=by
      rw [List.getElem?_append_right (by omega)] at h
      rw [show Y.length + 4 - 1 - Y.length=3 by omega] at h
      exact h
    have hq:q=(w++[3],c):=(Option.some.inj h').symm
    rw [show Y.length + 4 - 4=Y.length by omega,List.drop_left,hq]
    simp
section
variable {P:Program} {w:World} {K:PySem.W.Frag} {mg:Str→Option Value} {base:Heap} {CX:CXT} {f:Addr} {fd:FuncData}
abbrev s_ends_in_four:Stmt:=top 11
theorem sc_ends_in_four:FnScope ["row","code","colour"] ["row"] (defScope s_ends_in_four):=⟨rfl,rfl,rfl,by decide +kernel,rfl,by decide +kernel,by decide +kernel⟩
def sp_ends_in_four:Sp:=fun vs H Q _=>∃ (l:Addr) (us:List V) (R:List (List Nat × Int)) (n:Nat),vs=[.ref l]∧H l=some (.lst us)∧PasAt H n us R∧R≠[]∧n≤40∧∀ (b:Bool) H',Same H H'→(b=true↔EndsF R)→Q (.bl b) H'
theorem ok_ends_in_four (T:Tx K mg) (F:FunD K "ends_in_four" "ends_in_four" s_ends_in_four f fd .none):FnOk P w K mg base CX 1 f fd ["row"] sp_ends_in_four:=by
  refine F.ok sc_ends_in_four (fun vs H Q E h => ?_) (fun cdv A outer s H vs Q E hr h => ?_)
  · obtain ⟨_,_,_,_,rfl,_⟩:=h
    rfl
  obtain ⟨l,us,R,n,rfl,hl,hR,hne,hn,q'⟩:=h
  refine ⟨_,(pss_cons (ps_set (i:=1) sc_ends_in_four.nd rfl (Or.inr rfl) (pe_ix ix_tup (pe_ix ix_list (pv 0) (pe_un un_neg pe_int) (fun _ _=>rfl)) pe_int (fun _ _=>rfl))) (pss_cons (ps_set (i:=2) sc_ends_in_four.nd rfl (Or.inr rfl) (pe_ix ix_tup (pe_ix ix_list (pv 0) (pe_un un_neg pe_int) (fun _ _=>rfl)) pe_int (fun _ _=>rfl))) (pss_one (ps_ret (pe_cmpR (op_eqD hr) (pe_slice sl_list (pv 0) (po_some (pe_un un_neg pe_int)) po_none) (pe_compC (N':=["sign","colour","code"]) ["colour","code"] ["colour","code"] [2,1] 1 (by with_unfolding_all rfl) rfl (capsOk_cons rfl rfl (by decide) (capsOk_cons rfl rfl (by decide) capsOk_nil)) rfl rfl (by decide) rfl (by decide +kernel) rfl (by decide +kernel) rfl (pi_str (pe_gstr T.c_QUARTERS)) (fun C s0 H0 fp pins=>(pg_name (i:=0) (show (["sign","colour","code"]:List Str).Nodup by decide +kernel) rfl (Or.inl rfl) (Or.inr rfl))) (fun C s0 H0 fp pins=>(pe_tupx (pax_c (pe_op op_add_str (pe_slice sl_str (pv 2) po_none (po_some (pe_un un_neg pe_int))) (pv 0)) (pax_c (pv 1) pax_nil))))) (nomark _)))))),?_⟩
  have ll:=hR.len
  have pR:0 < R.length:=List.length_pos_iff.mpr hne
  obtain ⟨u,hu⟩:∃ u,us[us.length - 1]? = some u:=⟨_,List.getElem?_eq_getElem (by omega)⟩
  obtain ⟨lq,elq,p,z,rfl,hp,hz,ez,lz,hc⟩:=hR.get hu
  have hix:atI us (-1)=some (V.ref p):=by
    unfold atI ixN
    rw [if_neg (by decide),if_pos (by omega)]
    show us[((-1:Int) + (us.length:Int)).toNat]? = some (V.ref p)
    rw [show ((-1:Int) + (us.length:Int)).toNat=us.length - 1 by omega]
    exact hu
  have zs:z.length≤sizeLine:=small (by omega)
  refine ⟨_,rfl,_,rfl,l,_,_,.ref p,rfl,rfl,SqL.of hl,hix,p,_,_,_,rfl,rfl,SqT.of hp,rfl,?_⟩
  refine ⟨_,rfl,_,rfl,l,_,_,.ref p,rfl,rfl,SqL.of hl,hix,p,_,_,_,rfl,rfl,SqT.of hp,rfl,?_⟩
  refine ⟨_,rfl,_,rfl,-4,rfl,l,us,rfl,SqL.of hl,fun ls hls => ?_⟩
  rw [cutV_last4]
  have s1:=Same.new hls (.lst (us.drop (us.length - 4)))
  have u1:upd H ls (.lst (us.drop (us.length - 4))) ls=some (.lst (us.drop (us.length - 4))):=upd_same
  generalize upd H ls (.lst (us.drop (us.length - 4)))=H1 at *
  have h1:=(hR.drop (us.length - 4)).up s1.tups
  refine ⟨[.int lq.2,.str z],rfl,_,rfl,compC_gen (fun D j ys H'=>Same H1 H'∧H' D=some (.lst ys)∧j≤4∧PasAt H' 41 ys ((four4 lq.1.dropLast lq.2).take j)) q_len (fun D j ys H' h=>⟨h.2.1,by rw [h.2.2.2.len,List.length_take]; omega⟩) (fun D hD=>⟨Same.new hD _,upd_same,by decide,.nil⟩) ?_ ?_ (fun _ _ _ _ _ k h=>k _ _ h) ?_⟩
  · rintro D j ys H' hj hD ⟨c1,c2,c3,c4⟩
    have hj4:j < 4:=by rw [show ("0123" : Str).length=4 by decide +kernel] at hj; exact hj
    have ej:sgn ("0123" : Str) j=one j:=four (P:=fun d=>sgn ("0123" : Str) d=one d) (by decide +kernel) (by decide +kernel) (by decide +kernel) (by decide +kernel) hj4
    rw [ej]
    refine ⟨rfl,_,rfl,_,rfl,-1,rfl,z,rfl,zs,?_⟩
    rw [slice_neg1]
    have lp:=pre_len z (z.length - 1)
    have l1:(one j).length=1:=rfl
    refine ⟨_,rfl,_,_,rfl,rfl,small (by rw [l1]; omega),_,rfl,(by show 2≤sizeLine; decide),fun p' hp' => ?_⟩
    have sn:=Same.new hp' (.tup [.str (pre z (z.length - 1)++one j),.int lq.2])
    have uD:=sn _ _ c2
    have un:upd H' p' (.tup [.str (pre z (z.length - 1)++one j),.int lq.2]) p'=some (.tup [.str (pre z (z.length - 1)++one j),.int lq.2]):=upd_same
    have tl:=Tups.lst (ys:=ys++[V.ref p']) uD
    have e4:(four4 lq.1.dropLast lq.2)[j]? = some (lq.1.dropLast++[j],lq.2):=by
      rcases j with _ | _ | _ | _ | j
      · rfl
      · rfl
      · rfl
      · rfl
      · omega
    refine ⟨uD,Same.set (c1.trans sn) hD _,upd_same,hj4,?_⟩
    rw [List.take_add_one,e4]
    refine (c4.up (sn.tups.trans tl)).app (.cons ⟨p',pre z (z.length - 1)++one j,rfl,tl _ _ un,IsC.app (pre_isC hz _) (IsC.one hj4),?_,by rw [app_len,l1]; omega,hc⟩ .nil)
    rw [dig_app,dig_one,dig_init,ez]
  · rintro D ys H' hD ⟨c1,c2,c3,c4⟩
    have e4:(four4 lq.1.dropLast lq.2).take ("0123" : Str).length=four4 lq.1.dropLast lq.2:=by rw [show ("0123" : Str).length=4 by decide +kernel]; rfl
    rw [e4] at c4
    obtain ⟨k1,k2⟩:=(h1.up c1.tups).dats2
    obtain ⟨k3,k4⟩:=c4.dats2
    refine ⟨_,_,.lst (c1 _ _ u1) k1,.lst c2 k3,paList_shaped k2,paList_shaped k4,?_⟩
    show Q (.bl (PyData.eqv (.list (((R.drop (us.length - 4)).map paT).map paData)) (.list (((four4 lq.1.dropLast lq.2).map paT).map paData)))) H'
    rw [paEqv]
    refine q' _ H' (s1.trans c1) ?_
    rw [decide_eq_true_eq,ll]
    rw [ll] at elq
    rw [← ends_iff elq]
    exact ⟨paT_inj,fun h=>by rw [h]⟩
  · rintro σ H' R R' k ⟨a1,e1,a2,e2,a3,e3,z,e4,hs,a4,e5,b1,b2,f1,f2,f3,a5,e6,h1,h2⟩
    exact ⟨a1,e1,a2,e2,a3,e3,z,e4,hs,a4,e5,b1,b2,f1,f2,f3,a5,e6,h1,fun p hp=>k _ _ (h2 p hp)⟩
abbrev s_settled:Stmt:=top 12
theorem sc_settled:FnScope ["cover","row","leaf","whole","step"] ["cover"] (defScope s_settled):=⟨rfl,rfl,rfl,by decide +kernel,rfl,by decide +kernel,by decide +kernel⟩
def sp_settled:Sp:=fun vs H Q _=>∃ (l:Addr) (us:List V) (S:Tr) (n:Nat),vs=[.ref l]∧H l=some (.lst us)∧PasAt H n us (lvs [] S)∧n≤40∧us.length≤300000∧∀ lr ys H',Same H H'→H lr=none→H' lr=some (.lst ys)→PasAt H' n ys (lvs [] (norm S))→Q (.ref lr) H'
theorem ok_settled (T:Tx K mg) (q:Quiet CX) (F:FunD K "settled" "settled" s_settled f fd .none) (C_ends_in_four:Fok P w K mg base CX 1 "ends_in_four" ["row"] [] sp_ends_in_four):FnOk P w K mg base CX 2 f fd ["cover"] sp_settled:=by
  refine F.ok sc_settled (fun vs H Q E h => ?_) (fun cdv A outer s H vs Q E hr h => ?_)
  · obtain ⟨_,_,_,_,rfl,_⟩:=h
    rfl
  obtain ⟨l,us,S,n,rfl,hl,hL,hn,lus,q'⟩:=h
  refine ⟨_,(pss_cons (ps_set (i:=1) sc_settled.nd rfl (Or.inl rfl) (pe_lstx pax_nil)) (pss_cons (ps_for PassesOwn.never rfl (pi_list (pv 0)) (pg_name (i:=2) sc_settled.nd rfl (Or.inl rfl)) (pss_cons (ps_expr (pe_bm PySem.F.plainAttrs_list PySem.F.slot_list_append PySem.F.type_list_append mt_append (pv 1) (pa_cons (pv 2) pa_nil))) (pss_one (ps_while PassesOwn.never (pt_val (pe_callF C_ends_in_four q hr (pa_cons (pv 1) pa_nil))) (pss_cons (ps_set (i:=3) sc_settled.nd rfl (Or.inl rfl) (pe_tupx (pax_c (pe_slice sl_str (pe_ix ix_tup (pe_ix ix_list (pv 1) (pe_un un_neg pe_int) (fun _ _=>rfl)) pe_int (fun _ _=>rfl)) po_none (po_some (pe_un un_neg pe_int))) (pax_c (pe_ix ix_tup (pe_ix ix_list (pv 1) (pe_un un_neg pe_int) (fun _ _=>rfl)) pe_int (fun _ _=>rfl)) pax_nil)))) (pss_cons (ps_for PassesOwn.never rfl (pi_range1 rfl T.b_range (pa_cons pe_int pa_nil)) (pg_name (i:=4) sc_settled.nd rfl (Or.inl rfl)) (pss_one (ps_expr (pe_bm0 PySem.F.plainAttrs_list PySem.F.slot_list_pop PySem.F.type_list_pop mt_pop (pv 1))))) (pss_one (ps_expr (pe_bm PySem.F.plainAttrs_list PySem.F.slot_list_append PySem.F.type_list_append mt_append (pv 1) (pa_cons (pv 3) pa_nil)))))))))) (pss_one (ps_ret (pv 1))))),?_⟩
  refine ⟨(by show 0≤sizeLine; decide),fun lr hlr => ?_⟩
  have s1:=Same.new hlr (.lst [])
  have u1:upd H lr (.lst []) lr=some (.lst []):=upd_same
  generalize upd H lr (.lst [])=H1 at *
  have ll:=hL.len
  refine ⟨_,rfl,l,rfl,⟨_,SqL.of (s1 _ _ hl)⟩,for_list (xs:=us) (fun i σ H2=>Same H H2∧∃ (ys:List V) (R:List (List Nat × Int)) (o2 o3 o4:Option V),H2 lr=some (.lst ys)∧PasAt H2 n ys R∧Runs [] ((lvs [] S).take i) R∧ys.length≤i∧σ=[some (.ref l),some (.ref lr),o2,o3,o4]) ⟨s1,[],[],none,none,none,u1,.nil,.nil,Nat.le_refl _,rfl⟩ (fun i σ H2 _ h=>SqL.of (h.1 _ _ hl)) ?_ ?_⟩
  · rintro i u σ H2 hu ⟨s2,ys,R,o2,o3,o4,u2,hR,hrun,lys,rfl⟩
    have hi:i < us.length:=(List.getElem?_eq_some_iff.mp hu).1
    obtain ⟨lq,elq,kq⟩:=hL.get hu
    have et:(lvs [] S).take (i + 1)=(lvs [] S).take i++[lq]:=by rw [List.take_add_one,elq]; rfl
    have tl:=Tups.lst (ys:=ys++[u]) u2
    refine ⟨_,rfl,.inl ⟨rfl,_,SqL.of u2⟩,_,rfl,lr,ys,_,rfl,rfl,u2,big' (by omega),?_⟩
    refine while_by (fun σ H3=>Same H H3∧∃ (ys:List V) (R1:List (List Nat × Int)) (o3 o4:Option V),H3 lr=some (.lst ys)∧PasAt H3 n ys R1∧R1≠[]∧(∀ R',Red R1 R'→Red (R++[lq]) R')∧ys.length≤i + 1∧σ=[some (.ref l),some (.ref lr),some u,o3,o4]) (fun σ H3=>match H3 lr with | some (.lst rs)=>rs.length | _=>0) ⟨Same.set s2 hlr _,ys++[u],R++[lq],o3,o4,upd_same,(hR.up tl).app (.cons (kq.up (s2.tups.trans tl)) .nil),by simp,fun R' h=>h,by rw [List.length_append]; show ys.length + 1≤i + 1; omega,rfl⟩ ?_ ?_
    · rintro σ H3 ⟨s3,ys,R1,o3,o4,u3,hR1,hne,hred,lys',rfl⟩
      refine ⟨_,rfl,lr,ys,R1,n,rfl,u3,hR1,hne,hn,fun b H4 s4 hb=>⟨_,rfl,ite2 (fun hbt => ?_) (fun hbf => ?_)⟩⟩
      · obtain ⟨Y,w',c,rfl⟩:=hb.mp hbt
        have u4:=s4 _ _ u3
        have hR4:=hR1.up s4.tups
        have l4:(four4 w' c).length=4:=rfl
        have ly:=hR4.len
        rw [List.length_append,l4] at ly
        obtain ⟨v,hv⟩:∃ v,ys[ys.length - 1]? = some v:=⟨_,List.getElem?_eq_getElem (by omega)⟩
        obtain ⟨q3,eq3,p,z,rfl,hp,hz,ez,lz,hc⟩:=hR4.get hv
        have hq3:q3=(w'++[3],c):=by
          rw [List.getElem?_append_right (by omega),show ys.length - 1 - Y.length=3 by omega] at eq3
          exact (Option.some.inj eq3).symm
        subst hq3
        have hix:atI ys (-1)=some (V.ref p):=by
          unfold atI ixN
          rw [if_neg (by decide),if_pos (by omega)]
          show ys[((-1:Int) + (ys.length:Int)).toNat]? = some (V.ref p)
          rw [show ((-1:Int) + (ys.length:Int)).toNat=ys.length - 1 by omega]
          exact hv
        have zs:z.length≤sizeLine:=small (by omega)
        refine ⟨_,rfl,_,rfl,lr,_,_,.ref p,rfl,rfl,SqL.of u4,hix,p,_,_,_,rfl,rfl,SqT.of hp,rfl,_,rfl,-1,rfl,z,rfl,zs,?_⟩
        rw [slice_neg1]
        refine ⟨_,rfl,_,rfl,lr,_,_,.ref p,rfl,rfl,SqL.of u4,hix,p,_,_,_,rfl,rfl,SqT.of hp,rfl,(by show 2≤sizeLine; decide),fun pw hpw => ?_⟩
        have s5:=Same.new hpw (.tup [.str (pre z (z.length - 1)),.int c])
        have v5:upd H4 pw (.tup [.str (pre z (z.length - 1)),.int c]) pw=some (.tup [.str (pre z (z.length - 1)),.int c]):=upd_same
        have u5:=s5 _ _ u4
        generalize upd H4 pw (.tup [.str (pre z (z.length - 1)),.int c])=H5 at *
        have s35:=s3.trans (s4.trans s5)
        refine ⟨4,rfl,by decide,by decide,for_range (fun j σ H6=>Same H H6∧j≤4∧H6 lr=some (.lst (ys.take (ys.length - j)))∧Tups H5 H6∧∃ o4:Option V,σ=[some (.ref l),some (.ref lr),some u,some (.ref pw),o4]) ⟨s35,by decide,by rw [Nat.sub_zero,List.take_length]; exact u5,Tups.refl _,o4,rfl⟩ ?_ ?_⟩
        · rintro j σ H6 hj ⟨s6,hj4,u6,t6,o4,rfl⟩
          have hj':j < 4:=hj
          have lt6:(ys.take (ys.length - j)).length=ys.length - j:=by rw [List.length_take]; omega
          obtain ⟨y,hy⟩:∃ y,(ys.take (ys.length - j))[(ys.take (ys.length - j)).length - 1]? = some y:=⟨_,List.getElem?_eq_getElem (by omega)⟩
          refine ⟨_,rfl,.inl ⟨rfl,_,SqL.of u6⟩,lr,_,y,rfl,rfl,u6,hy,Same.set s6 hlr _,hj',?_,t6.trans (Tups.lst u6),_,rfl⟩
          rw [upd_same,List.dropLast_eq_take,List.take_take,lt6]
          congr 3
          omega
        · rintro σ H6 ⟨s6,hj4,u6,t6,o4,rfl⟩
          have u6':H6 lr=some (.lst (ys.take (ys.length - 4))):=u6
          have lt6:(ys.take (ys.length - 4)).length=ys.length - 4:=by rw [List.length_take]; omega
          have tl:=Tups.lst (ys:=ys.take (ys.length - 4)++[V.ref pw]) u6'
          have eY:(Y++four4 w' c).take (ys.length - 4)=Y:=by rw [show ys.length - 4=Y.length by omega,List.take_left]
          have hT:=(hR4.up (s5.tups.trans (t6.trans tl))).take (ys.length - 4)
          rw [eY] at hT
          have lpz:=pre_len z (z.length - 1)
          have pv:PaV (upd H6 lr (.lst (ys.take (ys.length - 4)++[V.ref pw]))) n (.ref pw) (w',c):=⟨pw,pre z (z.length - 1),rfl,(t6.trans tl) _ _ v5,pre_isC hz _,by rw [dig_init,ez]; simp,by omega,hc⟩
          refine ⟨_,rfl,.inl ⟨rfl,_,SqL.of u6'⟩,_,rfl,lr,ys.take (ys.length - 4),_,rfl,rfl,u6',big' (by omega),⟨Same.set s6 hlr _,_,Y++[(w',c)],_,_,upd_same,hT.app (.cons pv .nil),by simp,fun R' h=>hred R' (.step h),by rw [List.length_append,lt6]; show ys.length - 4 + 1≤i + 1; omega,rfl⟩,?_⟩
          rw [upd_same,u3]
          show (ys.take (ys.length - 4)++[V.ref pw]).length < ys.length
          rw [List.length_append,lt6]
          show ys.length - 4 + 1 < ys.length
          omega
      · have hR4:=hR1.up s4.tups
        have nE:¬ EndsF R1:=fun h=>hbf (hb.mpr h)
        exact ⟨s3.trans s4,ys,R1,_,_,_,s4 _ _ u3,hR4,by rw [et]; exact hrun.snoc (hred _ (.done nE)),lys',rfl⟩
    · rintro σ H' Q1 Q2 hq ⟨a1,e1,l,us,R,n,h1,h2,h3,h4,h5,h⟩
      exact ⟨a1,e1,l,us,R,n,h1,h2,h3,h4,h5,fun b H4 s4 hb=>by
        obtain ⟨b',e',h'⟩:=h b H4 s4 hb
        exact ⟨b',e',hq _ _ h'⟩⟩
  · rintro σ H2 ⟨s2,ys,R,o2,o3,o4,u2,hR,hrun,lys,rfl⟩
    have eL:(lvs [] S).take us.length=lvs [] S:=List.take_of_length_le (by rw [ll]; exact Nat.le_refl _)
    rw [eL] at hrun
    rw [settled_lvs hrun] at hR
    exact ⟨_,rfl,q' lr ys H2 s2 hlr u2 hR⟩
end
end Qs


namespace Qs
open PySem L2
section
variable {P:Program} {w:World} {K:PySem.W.Frag} {mg:Str→Option Value} {base:Heap} {CX:CXT} {f:Addr} {fd:FuncData}

structure Ty (K:PySem.W.Frag) (mg:Str→Option Value):Prop where
  left:∃ a,mg "LEFT" = some (.ref a)∧KTu K a [.int 1,.int 3,.int 0,.int 2]
abbrev s_rearranged:Stmt:=top 27
theorem sc_rearranged:FnScope ["tree","order"] ["tree","order"] (defScope s_rearranged):=⟨rfl,rfl,rfl,by decide +kernel,rfl,by decide +kernel,by decide +kernel⟩
def sp_rearranged (K:PySem.W.Frag) (m:Nat):Sp:=fun vs H Q _=>∃ (v:V) (t:Tr) (po:Addr) (o:Nat→Nat),vs=[v,.ref po]∧TrAt H v t∧KTu K po [.int (o 0),.int (o 1),.int (o 2),.int (o 3)]∧(∀ k,o k < 4)∧t.deep≤m∧m≤40∧∀ v' H',Same H H'→TrAt H' v' (rear o t)→Q v' H'
theorem ok_rearranged (T:Tx K mg) (q:Quiet CX) (F:FunD K "rearranged" "rearranged" s_rearranged f fd .none) (b:Binds K fd ["tree","order"] []) (m:mg "rearranged" = some (.ref f)) :
    ∀ n,FnOk P w K mg base CX (1 + n) f fd ["tree","order"] (sp_rearranged K n)
  | 0=>by
    have C_rearranged:=fokF (P:=P) (w:=w) (base:=base) (CX:=CX) F b m
    refine F.ok sc_rearranged (fun vs H Q E h => ?_) (fun cdv A outer s H vs Q E hr h => ?_)
    · obtain ⟨_,_,_,_,rfl,_⟩:=h
      rfl
    obtain ⟨v,t,po,o,rfl,ht,ko,ho,hd,hm,q'⟩:=h
    refine ⟨_,(pss_cons (ps_if (pt_not (pt_val (pe_callB (call_isiT "tuple") rfl T.b_isinstance bb_isinstance (pa_cons (pv 0) (pa_cons (pe_bty T.b_tuple bt_tuple) pa_nil))))) (pss_one (ps_ret (pv 0))) pss_nil) (pss_one (ps_ret (pe_callTy call_tuple_of rfl T.b_tuple bt_tuple (pa_cons (pe_compC (N':=["quarter","order","tree"]) ["tree","order"] ["order","tree"] [1,0] 1 (by with_unfolding_all rfl) rfl (capsOk_cons rfl rfl (by decide) (capsOk_cons rfl rfl (by decide) capsOk_nil)) rfl rfl (by decide) rfl (by decide +kernel) rfl (by decide +kernel) rfl (pi_tup (pv 1)) (fun C s0 H0 fp pins=>(pg_name (i:=0) (show (["quarter","order","tree"]:List Str).Nodup by decide +kernel) rfl (Or.inl rfl) (Or.inr rfl))) (fun C s0 H0 fp pins=>(pe_callF C_rearranged q hr (pa_cons (pe_ix (ix_tupK (K:=K)) (pv 2) (pv 0) (fun _ _=>rfl)) (pa_cons (pv 1) pa_nil)) (hj:=by first | decide | omega | (simp only [Nat.add_eq]; omega))))) pa_nil))))),?_⟩
    cases ht with
    | four e=>exact absurd hd (by show ¬ _ + 1≤0; omega)
    | col i=>exact ⟨_,rfl,_,_,_,rfl,.int i,kit_it,_,rfl,iteT ⟨_,rfl,q' _ H (Same.refl H) (.col i)⟩⟩
  | n + 1=>by
    have C_rearranged:Fok P w K mg base CX (1 + n) "rearranged" ["tree","order"] [] (sp_rearranged K n):=fok F (ok_rearranged T q F b m n) b m
    refine F.ok sc_rearranged (fun vs H Q E h => ?_) (fun cdv A outer s H vs Q E hr h => ?_)
    · obtain ⟨_,_,_,_,rfl,_⟩:=h
      rfl
    obtain ⟨v,t,po,o,rfl,ht,ko,ho,hd,hm,q'⟩:=h
    refine ⟨_,(pss_cons (ps_if (pt_not (pt_val (pe_callB (call_isiT "tuple") rfl T.b_isinstance bb_isinstance (pa_cons (pv 0) (pa_cons (pe_bty T.b_tuple bt_tuple) pa_nil))))) (pss_one (ps_ret (pv 0))) pss_nil) (pss_one (ps_ret (pe_callTy call_tuple_of rfl T.b_tuple bt_tuple (pa_cons (pe_compC (N':=["quarter","order","tree"]) ["tree","order"] ["order","tree"] [1,0] 1 (by with_unfolding_all rfl) rfl (capsOk_cons rfl rfl (by decide) (capsOk_cons rfl rfl (by decide) capsOk_nil)) rfl rfl (by decide) rfl (by decide +kernel) rfl (by decide +kernel) rfl (pi_tup (pv 1)) (fun C s0 H0 fp pins=>(pg_name (i:=0) (show (["quarter","order","tree"]:List Str).Nodup by decide +kernel) rfl (Or.inl rfl) (Or.inr rfl))) (fun C s0 H0 fp pins=>(pe_callF C_rearranged q hr (pa_cons (pe_ix (ix_tupK (K:=K)) (pv 2) (pv 0) (fun _ _=>rfl)) (pa_cons (pv 1) pa_nil)) (hj:=by first | decide | omega | (simp only [Nat.add_eq]; omega))))) pa_nil))))),?_⟩
    cases ht with
    | col i=>exact ⟨_,rfl,_,_,_,rfl,.int i,kit_it,_,rfl,iteT ⟨_,rfl,q' _ H (Same.refl H) (.col i)⟩⟩
    | @four p xa xb xc xd ta tb tc td e ja jb jc jd =>
      refine ⟨_,rfl,_,_,_,rfl,.tup e,kit_tt,_,rfl,iteF ?_⟩
      have hd':max ta.deep (max tb.deep (max tc.deep td.deep)) + 1≤n + 1:=hd
      have pick:∀ k:Nat,k < 4→∃ x,atI [xa,xb,xc,xd] (k:Int)=some x∧TrAt H x (pk4 ta tb tc td k)∧(pk4 ta tb tc td k).deep≤n:=fun k hk=>by
        rcases k with _ | _ | _ | _ | k
        · exact ⟨xa,rfl,ja,by show ta.deep≤n; omega⟩
        · exact ⟨xb,rfl,jb,by show tb.deep≤n; omega⟩
        · exact ⟨xc,rfl,jc,by show tc.deep≤n; omega⟩
        · exact ⟨xd,rfl,jd,by show td.deep≤n; omega⟩
        · omega
      refine ⟨[.ref po,.ref p],rfl,_,rfl,po,rfl,⟨_,ko.sq⟩,compC_tup [.int (o 0),.int (o 1),.int (o 2),.int (o 3)] (fun D j ys H'=>Same H H'∧H' D=some (.lst ys)∧j≤4∧ys.length=j∧∀ i y,ys[i]? = some y→TrAt H' y (rear o (pk4 ta tb tc td (o i)))) (by show 4≤sizeLine; decide) (fun D j ys H' h=>ko.sq)
        (fun D j ys H' h=>⟨h.2.1,by rw [h.2.2.2.1]; exact Nat.le_refl _⟩) (fun D hD=>⟨Same.new hD _,upd_same,by decide,rfl,fun i y hy=>by simp at hy⟩) ?_ ?_ (fun _ _ _ _ _ k h=>k _ _ h) ?_⟩
      · rintro D j x ys H' hx hD ⟨s1,s2,s3,s4,s5⟩
        have key:j < 4∧x=.int (o j):=by
          rcases at4 hx with ⟨rfl,rfl⟩ | ⟨rfl,rfl⟩ | ⟨rfl,rfl⟩ | ⟨rfl,rfl⟩
          · exact ⟨by decide,rfl⟩
          · exact ⟨by decide,rfl⟩
          · exact ⟨by decide,rfl⟩
          · exact ⟨by decide,rfl⟩
        obtain ⟨hj,rfl⟩:=key
        obtain ⟨y,ey,ky,dy⟩:=pick (o j) (ho j)
        refine ⟨rfl,_,rfl,_,rfl,p,_,_,y,rfl,rfl,SqT.of (s1 _ _ e),ey,_,rfl,y,_,po,o,rfl,ky.up s1.tups,ko,ho,dy,by omega,fun v' H2 t2 hv => ?_⟩
        have uD:=t2 _ _ s2
        have tl:=Tups.lst (ys:=ys++[v']) uD
        refine ⟨uD,Same.set (s1.trans t2) hD _,upd_same,by omega,by rw [List.length_append,s4]; rfl,fun i z hz => ?_⟩
        rcases Nat.lt_or_ge i ys.length with hi | hi
        · rw [List.getElem?_append_left hi] at hz
          exact (s5 i z hz).up (t2.tups.trans tl)
        · rw [List.getElem?_append_right hi] at hz
          have h0:i - ys.length=0:=by
            rcases h:i - ys.length with _ | k
            · rfl
            · rw [h] at hz; simp at hz
          rw [h0] at hz
          have ei:i=j:=by omega
          rw [← Option.some.inj hz,ei]
          exact hv.up tl
      · rintro D ys H' hD ⟨s1,s2,s3,s4,s5⟩
        have s4':ys.length=4:=s4
        obtain ⟨y0,y1,y2,y3,rfl⟩:∃ y0 y1 y2 y3,ys=[y0,y1,y2,y3]:=by
          match ys,s4' with
          | [y0,y1,y2,y3],_=>exact ⟨y0,y1,y2,y3,rfl⟩
        refine ⟨D,_,rfl,.inl ⟨SqL.of s2,fun pn hpn=>q' _ _ (s1.trans (Same.new hpn _)) ?_⟩⟩
        have sn:=(Same.new hpn (.tup [y0,y1,y2,y3])).tups
        have kk:∀ i y,[y0,y1,y2,y3][i]? = some y→TrAt (upd H' pn (.tup [y0,y1,y2,y3])) y (pk4 (rear o ta) (rear o tb) (rear o tc) (rear o td) (o i)):=fun i y hy=>by
          rw [pk4_rear]; exact (s5 i y hy).up sn
        exact .four upd_same (kk 0 _ rfl) (kk 1 _ rfl) (kk 2 _ rfl) (kk 3 _ rfl)
      · intro σ H' R R' k h
        obtain ⟨x1,e1,x2,e2,p1,xs,i,v,a1,a2,a3,a4,x3,e3,v0,t0,po0,o0,b1,b2,b3,b4,b5,b6,h⟩:=h
        exact ⟨x1,e1,x2,e2,p1,xs,i,v,a1,a2,a3,a4,x3,e3,v0,t0,po0,o0,b1,b2,b3,b4,b5,b6,fun v' H2 s hv=>k _ _ (h v' H2 s hv)⟩
abbrev s_turned_left:Stmt:=top 28
theorem sc_turned_left:FnScope ["sheet"] ["sheet"] (defScope s_turned_left):=⟨rfl,rfl,rfl,by decide +kernel,rfl,by decide +kernel,by decide +kernel⟩
def sp_turn (o:Nat→Nat):Sp:=fun vs H Q _=>∃ (v:V) (n:Int) (t:Tr),vs=[v]∧ShAt H v n t∧t.deep≤40∧∀ v' H',Same H H'→ShAt H' v' n (rear o t)→Q v' H'
theorem ok_turned_left (T:Tx K mg) (U:Ty K mg) (q:Quiet CX) (F:FunD K "turned_left" "turned_left" s_turned_left f fd .none) (C_rearranged:Fok P w K mg base CX 41 "rearranged" ["tree","order"] [] (sp_rearranged K 40)):FnOk P w K mg base CX 42 f fd ["sheet"] (sp_turn oL):=by
  refine F.ok sc_turned_left (fun vs H Q E h => ?_) (fun cdv A outer s H vs Q E hr h => ?_)
  · obtain ⟨_,_,_,rfl,_⟩:=h
    rfl
  obtain ⟨v,n,t,rfl,⟨p,x,rfl,hp,hx⟩,hd,q'⟩:=h
  obtain ⟨aO,g_LEFT,kO⟩:=U.left
  refine ⟨_,(pss_one (ps_ret (pe_tupx (pax_c (pe_ix ix_tup (pv 0) pe_int (fun _ _=>rfl)) (pax_c (pe_callF C_rearranged q hr (pa_cons (pe_ix ix_tup (pv 0) pe_int (fun _ _=>rfl)) (pa_cons (pe_glob (v:=.ref _) rfl g_LEFT rfl) pa_nil))) pax_nil))))),?_⟩
  refine ⟨_,rfl,p,_,_,_,rfl,rfl,SqT.of hp,rfl,_,rfl,p,_,_,_,rfl,rfl,SqT.of hp,rfl,x,t,aO,oL,rfl,hx,kO,ordL.lt,hd,by decide,fun v' H1 s1 hv=>⟨(by show 2≤sizeLine; decide),fun pp hpp => ?_⟩⟩
  exact q' _ _ (s1.trans (Same.new hpp _)) ⟨pp,v',rfl,upd_same,hv.up (Same.new hpp _).tups⟩
end
end Qs


namespace Qs
open PySem L2

def suf (z:Str) (k:Nat):Str:=⟨(z.cps.toList.drop k).toArray⟩
theorem slice_suf {z:Str} {k:Nat} (h:k≤z.length):Txt.slice z (some (k:Int)) none=suf z k:=by
  have e:=PyProof.Rows.slice_closes_from (x:=z) (i:=(k:Int)) ⟨by omega,by rw [← len_eq]; omega⟩
  rw [beq_iff_eq] at e
  rw [e]
  unfold suf
  congr 2
  rw [Int.toNat_natCast,List.take_of_length_le]
  rw [List.length_drop,← len_eq]; omega
theorem suf_len (z:Str) (k:Nat):(suf z k).length=z.length - k:=by rw [len_eq,len_eq]; simp [suf]
theorem suf_isC {z:Str} (h:IsC z) (k:Nat):IsC (suf z k):=fun c hc=>h c (by
  have hc':c∈z.cps.toList.drop k:=by simpa [suf] using hc
  exact List.mem_of_mem_drop hc')
theorem slice_suf' (z:Str) (k:Nat):Txt.slice z (some (k:Int)) none=suf z k:=by
  by_cases h:k≤z.length
  · exact slice_suf h
  · have e:Builtin.Str.strSliceIndices (some (k:Int)) none 1 z.length=[]:=by
      unfold Builtin.Str.strSliceIndices
      dsimp only
      unfold sliceRange
      have h1:¬ (k:Int) < 0:=by omega
      have h2:max (0:Int) (min (k:Int) (z.length:Int))=(z.length:Int):=by omega
      simp only [show (1:Int) > 0 by decide,if_true,h1,if_false,h2]
      rw [if_neg (by omega)]
      first | rfl | simp
    unfold Txt.slice
    rw [e]
    refine str_ext ?_
    unfold suf
    rw [List.drop_of_length_le (by rw [← len_eq]; omega)]
    by_cases h0:z.length=0
    · rw [str_eq_nil.mpr h0]; decide +kernel
    · first | rw [if_neg (by simp; omega)] | skip
      first | rfl | simp

theorem drop_get {α:Type} {L:List α} {i:Nat} {q:α} (h:L[i]? = some q):L.drop i=q::L.drop (i + 1):=by
  obtain ⟨hi,e⟩:=List.getElem?_eq_some_iff.mp h
  rw [← e]; exact List.drop_eq_getElem_cons hi

theorem dig_sufS (z:Str) (k:Nat):dig (suf z k)=(dig z).drop k:=by
  unfold dig suf
  simp
theorem goes3 (c:Nat):("3" : Str).cps.contains c=decide (c=51):=by
  have e:("3" : Str).cps = #[51]:=by decide +kernel
  rw [e]
  by_cases h:c=51
  · subst h; decide +kernel
  · rw [decide_eq_false h]
    simp [h]
theorem take_all {α:Type} {p:α→Bool}:∀ {l:List α},(∀ x∈l,p x=true)→l.takeWhile p=l
  | [],_=>rfl
  | a::l,h=>by rw [List.takeWhile_cons,h a List.mem_cons_self,if_pos rfl,take_all fun x hx=>h x (List.mem_cons_of_mem _ hx)]
theorem drop_take {α:Type} {p:α→Bool}:∀ {l:List α},(∃ x∈l,p x=false)→∃ h r,l.drop (l.takeWhile p).length=h::r∧p h=false
  | [],h=>by obtain ⟨_,m,_⟩:=h; cases m
  | a::l,h=>by
    rw [List.takeWhile_cons]
    cases e:p a with
    | false=>exact ⟨a,l,rfl,e⟩
    | true =>
      rw [if_pos rfl]
      obtain ⟨x,m,hx⟩:=h
      rcases List.mem_cons.mp m with rfl | m
      · rw [e] at hx; cases hx
      · exact drop_take ⟨x,m,hx⟩
theorem take_end {α:Type} {p:α→Bool} {h:α} (hp:p h=false):∀ r:List α,((r++[h]).takeWhile p).length≤r.length
  | []=>by rw [List.nil_append,List.takeWhile_cons,hp]; exact Nat.le_refl _
  | a::r=>by
    rw [List.cons_append,List.takeWhile_cons]
    cases p a with
    | false=>exact Nat.zero_le _
    | true=>rw [if_pos rfl,List.length_cons,List.length_cons]; exact Nat.succ_le_succ (take_end hp r)
theorem strip3 (x:Str):(Txt.stripChars x ("3" : Str)=("" : Str))↔∀ c∈x.cps.toList,c=51:=by
  have len:x.length=x.cps.toList.length:=len_eq x
  have g:∀ c,("3" : Str).cps.contains c=decide (c=51):=goes3
  constructor
  · intro h c hc
    apply Classical.byContradiction
    intro ne
    obtain ⟨hd,r,e1,e2⟩:=drop_take (p:=("3" : Str).cps.contains) ⟨c,hc,by rw [g,decide_eq_false ne]⟩
    have hlen:=congrArg List.length e1
    rw [List.length_drop,List.length_cons] at hlen
    have lx:0 < x.cps.toList.length:=List.length_pos_of_mem hc
    unfold Txt.stripChars Txt.stripBy at h
    split at h
    · rw [h] at lx
      exact absurd lx (by decide +kernel)
    · have hh:stripHi ("3" : Str).cps.contains true x (stripLo ("3" : Str).cps.contains true x) > stripLo ("3" : Str).cps.contains true x:=by
        unfold stripHi stripLo
        rw [if_pos rfl,if_pos rfl,e1,List.reverse_cons]
        have:=take_end e2 r.reverse
        rw [List.length_reverse] at this
        rw [len]
        omega
      have le:stripHi ("3" : Str).cps.contains true x (stripLo ("3" : Str).cps.contains true x)≤x.cps.size:=by
        unfold stripHi
        rw [if_pos rfl]
        exact Nat.le_trans (Nat.sub_le _ _) (Nat.le_of_eq rfl)
      have:=congrArg Str.length h
      unfold stripped Builtin.Str.strSub at this
      have e3:(⟨x.cps.extract (stripLo ("3" : Str).cps.contains true x) (stripHi ("3" : Str).cps.contains true x (stripLo ("3" : Str).cps.contains true x))⟩:Str).length=min (stripHi ("3" : Str).cps.contains true x (stripLo ("3" : Str).cps.contains true x)) x.cps.size - stripLo ("3" : Str).cps.contains true x:=by
        show (x.cps.extract _ _).size=_
        rw [Array.size_extract]
      rw [e3] at this
      have z:("" : Str).length=0:=by decide +kernel
      rw [z] at this
      omega
  · intro h
    have all:x.cps.toList.takeWhile ("3" : Str).cps.contains=x.cps.toList:=take_all fun c hc=>by rw [g,decide_eq_true (h c hc)]
    have lo:stripLo ("3" : Str).cps.contains true x=x.cps.toList.length:=by
      unfold stripLo
      rw [if_pos rfl,all]
    unfold Txt.stripChars Txt.stripBy
    split
    · rename_i hs
      unfold stripSame at hs
      rw [lo] at hs
      have h0:x.cps.toList.length=0:=by
        have:=(Bool.and_eq_true_iff.mp hs).1
        exact eq_of_beq this
      exact str_eq_nil.mpr (by rw [len]; exact h0)
    · refine str_eq_nil.mpr ?_
      unfold stripped Builtin.Str.strSub
      show (x.cps.extract _ _).size=0
      rw [Array.size_extract,lo]
      have:min (stripHi ("3" : Str).cps.contains true x x.cps.toList.length) x.cps.size≤x.cps.toList.length:=by
        rw [Array.length_toList]
        omega
      omega
theorem last_is {z p:Str} (hz:IsC z):decide (V.str (Txt.stripChars (suf z p.length) ("3" : Str))=V.str ("" : Str))=lastIn (dig z) (dig p):=by
  have key:(Txt.stripChars (suf z p.length) ("3" : Str)=("" : Str))↔lastIn (dig z) (dig p)=true:=by
    rw [strip3]
    unfold lastIn
    rw [dig_len,← dig_sufS,List.all_eq_true]
    constructor
    · intro h d hd
      unfold dig at hd
      obtain ⟨c,hc,rfl⟩:=List.mem_map.mp hd
      rw [h c hc]
      decide
    · intro h c hc
      have hd:c - 48∈dig (suf z p.length):=List.mem_map.mpr ⟨c,hc,rfl⟩
      have:=of_decide_eq_true (h _ hd)
      have hr:=suf_isC hz p.length c hc
      omega
  cases e:lastIn (dig z) (dig p) with
  | true=>exact decide_eq_true (by rw [key.mpr e])
  | false =>
    refine decide_eq_false fun h => ?_
    have:=key.mp (V.str.inj h)
    rw [e] at this
    cases this
theorem map_cnt (f:Int→Int):∀ t:Tr,cnt (mapT f t)=cnt t
  | .col i=>rfl
  | .four a b c d=>by
    show cnt (mapT f a) + cnt (mapT f b) + cnt (mapT f c) + cnt (mapT f d)=_
    rw [map_cnt f a,map_cnt f b,map_cnt f c,map_cnt f d]
    rfl
theorem zip_cnt' (g:Int→Int→Int):∀ t u:Tr,cnt (zipT g t u)≤cnt t + cnt u
  | .col i,u=>by
    show cnt (mapT (g i) u)≤_
    rw [map_cnt]; exact Nat.le_add_left _ _
  | .four a b c d,.col j=>by
    show cnt (mapT (fun x=>g x j) (.four a b c d))≤_
    rw [map_cnt]; exact Nat.le_add_right _ _
  | .four a b c d,.four a' b' c' d'=>by
    have h1:=zip_cnt' g a a'
    have h2:=zip_cnt' g b b'
    have h3:=zip_cnt' g c c'
    have h4:=zip_cnt' g d d'
    show cnt (zipT g a a') + cnt (zipT g b b') + cnt (zipT g c c') + cnt (zipT g d d')≤(cnt a + cnt b + cnt c + cnt d) + (cnt a' + cnt b' + cnt c' + cnt d')
    omega
theorem zip_cnt (g:Int→Int→Int) (t u:Tr) (h1:cnt t≤4000) (h2:cnt u≤4000):cnt (zipT g t u)≤8000:=Nat.le_trans (zip_cnt' g t u) (by omega)
theorem gL_lt:∀ d:Nat,gL d < 4
  | 0=>by decide
  | 1=>by decide
  | 2=>by decide
  | _ + 3=>by show 1 < 4; decide
theorem onesL (ds:List Nat):((ds.map one).map (·.length)).sum=ds.length:=by
  induction ds with
  | nil=>rfl
  | cons d r ih =>
    rw [List.map_cons,List.map_cons,List.sum_cons,ih,List.length_cons]
    show 1 + _=_
    omega

def AdV (H:Hp) (n:Nat) (a:Addr) (q:List Nat × Int):Prop:=PaV H n (.ref a) q
theorem pas_addr {H:Hp} {n:Nat}:∀ {us:List V} {L:List (List Nat × Int)},PasAt H n us L→∃ as:List Addr,us=as.map V.ref∧Prs H false as∧Paired (AdV H n) as L
  | _,_,.nil=>⟨[],rfl,(fun b hb=>by cases hb),.nil⟩
  | _,_,.cons (q:=q) ⟨p,z,e,hp,r⟩ h=>by
    obtain ⟨as,e1,e2,e3⟩:=pas_addr h
    refine ⟨p::as,by rw [e,e1]; rfl,fun b hb => ?_,.cons ⟨p,z,rfl,hp,r⟩ e3⟩
    rcases List.mem_cons.mp hb with rfl | hb
    · exact ⟨z,.int q.2,hp,⟨q.2,rfl⟩⟩
    · exact e2 b hb
theorem paired_perm {α β:Type} {R:α→β→Prop} {as as':List α} (p:as'.Perm as):∀ {L:List β},Paired R as L→∃ L',L'.Perm L∧Paired R as' L':=by
  induction p with
  | nil=>intro L h; exact ⟨L,List.Perm.refl _,h⟩
  | cons x _ ih =>
    intro L h
    cases h with
    | cons r h =>
      obtain ⟨L',p',h'⟩:=ih h
      exact ⟨_,p'.cons _,.cons r h'⟩
  | swap x y l =>
    intro L h
    cases h with
    | cons r h =>
      cases h with
      | cons r2 h =>
        exact ⟨_,List.Perm.swap _ _ _,.cons r2 (.cons r h)⟩
  | trans _ _ ih1 ih2 =>
    intro L h
    obtain ⟨L1,p1,h1⟩:=ih2 h
    obtain ⟨L2,p2,h2⟩:=ih1 h1
    exact ⟨L2,p2.trans p1,h2⟩
theorem paired_pas {H:Hp} {n:Nat} {as:List Addr} {L:List (List Nat × Int)} (h:Paired (AdV H n) as L):PasAt H n (as.map V.ref) L:=by
  induction h with
  | nil=>exact .nil
  | cons r _ ih=>exact .cons r ih

def NB (x y:List Nat × Int):Prop:=¬ y.1.map (48 + ·) < x.1.map (48 + ·)
theorem nb_of {H:Hp} {n:Nat} {a b:Addr} {x y:List Nat × Int} (ha:AdV H n a x) (hb:AdV H n b y) (h:ltP (pkH H b) (pkH H a)=false):NB x y:=by
  obtain ⟨p,z,e,hp,hz,ez,_⟩:=ha
  cases e
  obtain ⟨p',z',e',hp',hz',ez',_⟩:=hb
  cases e'
  have k:∀ {z:Str},IsC z→z.cps.toList=(dig z).map (48 + ·):=fun {z} hz=>by
    unfold dig
    rw [List.map_map]
    conv=>lhs; rw [← List.map_id z.cps.toList]
    refine List.map_congr_left fun c hc => ?_
    have:=hz c hc
    show c=48 + (c - 48)
    omega
  intro lt
  unfold pkH at h
  rw [hp,hp'] at h
  have h':lexB (fun a b=>decide (a < b)) (lexB (fun a b=>decide (a < b)) (fun a b=>decide (a < b))) (z'.cps.toList,y.2,([]:List Nat)) (z.cps.toList,x.2,[])=false:=h
  unfold lexB at h'
  rw [← ez,← ez',← k hz,← k hz'] at lt
  have ne:¬ z'.cps.toList=z.cps.toList:=fun e=>by rw [e] at lt; exact absurd lt (List.lt_irrefl _)
  rw [if_neg ne] at h'
  exact absurd lt (of_decide_eq_false h')
theorem paired_pw {H:Hp} {n:Nat} {as:List Addr} {L:List (List Nat × Int)} (h:Paired (AdV H n) as L):as.Pairwise (fun x y=>ltP (pkH H y) (pkH H x)=false)→L.Pairwise NB:=by
  induction h with
  | nil=>intro _; exact List.Pairwise.nil
  | @cons a q as L r h ih =>
    intro pw
    obtain ⟨p1,p2⟩:=List.pairwise_cons.mp pw
    refine List.pairwise_cons.mpr ⟨fun y hy => ?_,ih p2⟩
    have:∃ b∈as,AdV H n b y:=by
      clear ih p1 p2 pw
      induction h with
      | nil=>cases hy
      | cons r' _ ih' =>
        rcases List.mem_cons.mp hy with rfl | hy
        · exact ⟨_,List.mem_cons_self,r'⟩
        · obtain ⟨b,m,e⟩:=ih' hy
          exact ⟨b,List.mem_cons_of_mem _ m,e⟩
    obtain ⟨b,hb,e⟩:=this
    exact nb_of r e (p1 b hb)
theorem turned_sorted {H:Hp} {n:Nat} {as as':List Addr} {t:Tr} (h:Paired (AdV H n) as ((lvs [] t).map turnQ)) (pm:as'.Perm as) (pw:as'.Pairwise (fun x y=>ltP (pkH H y) (pkH H x)=false)):PasAt H n (as'.map V.ref) (lvs [] (rear oL t)):=by
  obtain ⟨L',p1,h1⟩:=paired_perm pm h
  have p2:L'.Perm (lvs [] (rear oL t)):=p1.trans (turn_perm t [])
  have so:=lvs_sorted (rear oL t) []
  have w2:(lvs [] (rear oL t)).Pairwise NB:=so.imp fun hb=>List.lt_asymm (bef_lt hb)
  have e:L'=lvs [] (rear oL t):=by
    refine List.Perm.eq_of_pairwise (fun a b ha hb n1 n2 => ?_) (paired_pw h1 pw) w2 p2
    have ma:=p2.mem_iff.mp ha
    apply Classical.byContradiction
    intro ne
    have key:∀ {a b:List Nat × Int} {l:List (List Nat × Int)},l.Pairwise (fun p q=>Bef p.1 q.1)→a∈l→b∈l→a≠b→Bef a.1 b.1∨Bef b.1 a.1:=fun {a b l} pw=>by
      induction pw with
      | nil=>intro m; cases m
      | cons r _ ih =>
        intro ma mb ne
        rcases List.mem_cons.mp ma with e1 | m1
        · rcases List.mem_cons.mp mb with e2 | m2
          · exact absurd (e1.trans e2.symm) ne
          · exact .inl (e1▸r b m2)
        · rcases List.mem_cons.mp mb with e2 | m2
          · exact .inr (e2▸r a m1)
          · exact ih m1 m2 ne
    rcases key so ma hb ne with k | k
    · exact n2 (bef_lt k)
    · exact n1 (bef_lt k)
  rw [← e]
  exact paired_pas h1
theorem dig_longer (a b:Str):dig (if b.length > a.length then b else a)=longer (dig a) (dig b):=by
  unfold longer
  rw [dig_len,dig_len]
  split <;> rfl
section
variable {P:Program} {w:World} {K:PySem.W.Frag} {mg:Str→Option Value} {base:Heap} {CX:CXT} {f:Addr} {fd:FuncData}
abbrev s_row_mapped:Stmt:=top 15
theorem sc_row_mapped:FnScope ["row","turned"] ["row","turned"] (defScope s_row_mapped):=⟨rfl,rfl,rfl,by decide +kernel,rfl,by decide +kernel,by decide +kernel⟩
def sp_row_mapped:Sp:=fun vs H Q _=>∃ (l d:Addr) (us:List V) (t:Tr) (n:Nat) (kvs:List (Key × V)),vs=[.ref l,.ref d]∧H l=some (.lst us)∧PasAt H n us (lvs [] t)∧Good n t∧n≤40∧cnt t≤4000∧H d=some (.dK kvs)∧Cols kvs ∧
  ∀ lr ys H',Same H H'→H lr=none→H' lr=some (.lst ys)→PasAt H' n ys (lvs [] (blend (gTab key1 kvs) n [t]))→Q (.ref lr) H'
theorem ok_row_mapped (T:Tx K mg) (q:Quiet CX) (F:FunD K "row_mapped" "row_mapped" s_row_mapped f fd .none) (C_settled:Fok P w K mg base CX 2 "settled" ["cover"] [] sp_settled):FnOk P w K mg base CX 3 f fd ["row","turned"] sp_row_mapped:=by
  refine F.ok sc_row_mapped (fun vs H Q E h => ?_) (fun cdv A outer s H vs Q E hr h => ?_)
  · obtain ⟨_,_,_,_,_,_,rfl,_⟩:=h
    rfl
  obtain ⟨l,d,us,t,n,kvs,rfl,hl,hL,gt,hn,hc,hd,hk,q'⟩:=h
  refine ⟨_,(pss_one (ps_ret (pe_callF C_settled q hr (pa_cons (pe_compC (N':=["code","colour","turned"]) ["turned"] ["turned"] [1] 2 (by with_unfolding_all rfl) rfl (capsOk_cons rfl rfl (by decide) capsOk_nil) rfl rfl (by decide) rfl (by decide +kernel) rfl (by decide +kernel) rfl (pi_list (pv 0)) (fun C s0 H0 fp pins=>(pg_tupK (K:=K) (n:=2) rfl (pgs_cons (pg_name (i:=0) (show (["code","colour","turned"]:List Str).Nodup by decide +kernel) rfl (Or.inl rfl) (Or.inr rfl)) (pgs_cons (pg_name (i:=1) (show (["code","colour","turned"]:List Str).Nodup by decide +kernel) rfl (Or.inl rfl) (Or.inr rfl)) pgs_nil)))) (fun C s0 H0 fp pins=>(pe_tupx (pax_c (pv 0) (pax_c (pe_dget2 hr.dic (pv 2) (pv 1) (pv 1) ⟨rfl,rfl,rfl,rfl⟩) pax_nil))))) pa_nil)))),?_⟩
  have ll:=hL.len
  have lc:us.length≤4000:=by rw [ll,lvs_count]; exact hc
  have fr:=fair_tab key1 hk
  refine ⟨[.ref d],rfl,_,rfl,l,rfl,⟨_,SqL.of hl⟩,compC_list us (fun D (i:Nat) ys H'=>Same H H'∧H' D=some (.lst ys)∧ys.length≤i∧PasAt H' n ys (((lvs [] t).take i).map fun q=>(q.1,gTab key1 kvs [q.2]))) (big (by omega)) (fun D i ys H' h=>SqL.of (h.1 _ _ hl)) (fun D i ys H' h=>⟨h.2.1,h.2.2.1⟩) (fun D hD=>⟨Same.new hD _,upd_same,Nat.le_refl _,.nil⟩) ?_ ?_ ?_ ?_⟩
  · rintro D i x ys H' hx hD ⟨c1,c2,c3,c4⟩
    obtain ⟨pq,epq,p,z,rfl,hp,hz,ez,lz,hcc⟩:=hL.get hx
    refine ⟨p,_,rfl,SqT.of (c1 _ _ hp),rfl,_,_,rfl,_,_,rfl,rfl,rfl,?_⟩
    refine ⟨_,rfl,_,rfl,d,rfl,.inl ⟨_,.inl (c1 _ _ hd)⟩,_,rfl,_,rfl,_,DGet.k (k:=Sum.inl pq.2) (c1 _ _ hd),?_⟩
    have zz:(valV kvs (Sum.inl pq.2)).getD (.int pq.2)=.int (gTab key1 kvs [pq.2]):=get_tab key1 hk [pq.2]
    dsimp only
    rw [zz]
    refine ⟨(by show 2≤sizeLine; decide),fun pn hpn => ?_⟩
    have sn:=Same.new hpn (.tup [.str z,.int (gTab key1 kvs [pq.2])])
    have uD:=sn _ _ c2
    have un:upd H' pn (.tup [.str z,.int (gTab key1 kvs [pq.2])]) pn=some (.tup [.str z,.int (gTab key1 kvs [pq.2])]):=upd_same
    have tl:=Tups.lst (ys:=ys++[V.ref pn]) uD
    have cf:=fr [pq.2] (by intro x hx; rw [List.mem_singleton.mp hx]; exact hcc)
    refine ⟨uD,Same.set (c1.trans sn) hD _,upd_same,by rw [List.length_append]; show ys.length + 1≤i + 1; omega,?_⟩
    have et:(lvs [] t).take (i + 1)=(lvs [] t).take i++[pq]:=by rw [List.take_add_one,epq]; rfl
    rw [et,List.map_append]
    exact (c4.up (sn.tups.trans tl)).app (.cons ⟨pn,z,rfl,tl _ _ un,hz,ez,lz,cf⟩ .nil)
  · rintro D ys H' hD ⟨c1,c2,c3,c4⟩
    rw [List.take_of_length_le (by omega),← lvs_map (fun i=>gTab key1 kvs [i])] at c4
    refine ⟨D,ys,mapT (fun i=>gTab key1 kvs [i]) t,n,rfl,c2,c4,hn,by omega,fun lr zs H2 s2 hlr u2 h2 => ?_⟩
    rw [← blend_one _ n t gt.deep] at h2
    exact q' lr zs H2 (c1.trans s2) (c1.free hlr) u2 h2
  · rintro x σ H' R R' k ⟨a1,xs,e1,e2,e3,b1,b2,e4,b3,b4,e5,e6,h⟩
    exact ⟨a1,xs,e1,e2,e3,b1,b2,e4,b3,b4,e5,e6,k _ _ h⟩
  · rintro σ H' R R' k ⟨a1,e1,a2,e2,d1,e3,e4,a3,e5,a4,e6,a5,e7,h1,h2⟩
    exact ⟨a1,e1,a2,e2,d1,e3,e4,a3,e5,a4,e6,a5,e7,h1,fun p hp=>k _ _ (h2 p hp)⟩
abbrev s_is_last_within:Stmt:=top 16
theorem sc_is_last_within:FnScope ["code","other"] ["code","other"] (defScope s_is_last_within):=⟨rfl,rfl,rfl,by decide +kernel,rfl,by decide +kernel,by decide +kernel⟩
def sp_is_last_within:Sp:=fun vs H Q _=>∃ z p:Str,vs=[.str z,.str p]∧IsC z∧z.length≤40∧p.length≤40∧Q (.bl (lastIn (dig z) (dig p))) H
theorem ok_is_last_within (T:Tx K mg) (F:FunD K "is_last_within" "is_last_within" s_is_last_within f fd .none):FnOk P w K mg base CX 1 f fd ["code","other"] sp_is_last_within:=by
  refine F.ok sc_is_last_within (fun vs H Q E h => ?_) (fun cdv A outer s H vs Q E hr h => ?_)
  · obtain ⟨_,_,rfl,_⟩:=h
    rfl
  obtain ⟨z,p,rfl,hz,lz,lp,q'⟩:=h
  refine ⟨_,(pss_one (ps_ret (pe_cmpR op_eq (pe_bm PySem.F.plainAttrs_str PySem.F.slot_str_strip PySem.F.type_str_strip mt_stripC (pe_slice sl_str (pv 0) (po_some (pe_callB call_len rfl T.b_len bb_len (pa_cons (pv 1) pa_nil))) po_none) (pa_cons pe_str pa_nil)) pe_str (nomark _)))),?_⟩
  refine ⟨_,rfl,_,rfl,_,_,rfl,⟨small (by omega),rfl⟩,_,rfl,z,rfl,small (by omega),rfl,_,_,rfl,rfl,?_,rfl,?_⟩
  · rw [slice_suf',suf_len]
    exact small (by omega)
  · rw [slice_suf',last_is hz]
    exact q'
abbrev s_row_mixed:Stmt:=top 17
theorem sc_row_mixed:FnScope ["row","other","table","cover","at","other_at","one_leaf","other_leaf","code"] ["row","other","table"] (defScope s_row_mixed):=⟨rfl,rfl,rfl,by decide +kernel,rfl,by decide +kernel,by decide +kernel⟩
def sp_row_mixed:Sp:=fun vs H Q _=>∃ (l l2 d:Addr) (us vs2:List V) (t u:Tr) (n:Nat) (kvs:List (List Key × V)),vs=[.ref l,.ref l2,.ref d]∧H l=some (.lst us)∧H l2=some (.lst vs2)∧PasAt H n us (lvs [] t)∧PasAt H n vs2 (lvs [] u)∧Good n t∧Good n u∧n≤40∧cnt t≤4000∧cnt u≤4000∧H d=some (.dT kvs)∧Cols kvs ∧
  ∀ lr ys H',Same H H'→H lr=none→H' lr=some (.lst ys)→PasAt H' n ys (lvs [] (blend (gTab key2 kvs) n [t,u]))→Q (.ref lr) H'
theorem ok_row_mixed (T:Tx K mg) (q:Quiet CX) (F:FunD K "row_mixed" "row_mixed" s_row_mixed f fd .none) (C_is_last_within:Fok P w K mg base CX 1 "is_last_within" ["code","other"] [] sp_is_last_within) (C_settled:Fok P w K mg base CX 2 "settled" ["cover"] [] sp_settled):FnOk P w K mg base CX 3 f fd ["row","other","table"] sp_row_mixed:=by
  refine F.ok sc_row_mixed (fun vs H Q E h => ?_) (fun cdv A outer s H vs Q E hr h => ?_)
  · obtain ⟨_,_,_,_,_,_,_,_,_,rfl,_⟩:=h
    rfl
  obtain ⟨l,l2,d,us,vs2,t,u,n,kvs,rfl,hl,hl2,hL,hL2,gt,gu,hn,hc,hc2,hd,hk,q'⟩:=h
  refine ⟨_,(pss_cons (ps_set (i:=3) sc_row_mixed.nd rfl (Or.inl rfl) (pe_lstx pax_nil)) (pss_cons (ps_set (i:=4) sc_row_mixed.nd rfl (Or.inl rfl) pe_int) (pss_cons (ps_set (i:=5) sc_row_mixed.nd rfl (Or.inl rfl) pe_int) (pss_cons (ps_while PassesOwn.never (pt_cmpR op_lt (pv 4) (pe_callB call_len rfl T.b_len bb_len (pa_cons (pv 0) pa_nil)) (nomark _)) (pss_cons (ps_set (i:=6) sc_row_mixed.nd rfl (Or.inl rfl) (pe_ix ix_list (pv 0) (pv 4) (fun _ _=>rfl))) (pss_cons (ps_set (i:=7) sc_row_mixed.nd rfl (Or.inl rfl) (pe_ix ix_list (pv 1) (pv 5) (fun _ _=>rfl))) (pss_cons (ps_set (i:=8) sc_row_mixed.nd rfl (Or.inl rfl) (pe_maxLen T.b_max T.b_len (pa_cons (pe_ix ix_tup (pv 6) pe_int (fun _ _=>rfl)) (pa_cons (pe_ix ix_tup (pv 7) pe_int (fun _ _=>rfl)) pa_nil)))) (pss_cons (ps_expr (pe_bm PySem.F.plainAttrs_list PySem.F.slot_list_append PySem.F.type_list_append mt_append (pv 3) (pa_cons (pe_tupx (pax_c (pv 8) (pax_c (pe_dget2 hr.dic (pv 2) (pe_tupx (pax_c (pe_ix ix_tup (pv 6) pe_int (fun _ _=>rfl)) (pax_c (pe_ix ix_tup (pv 7) pe_int (fun _ _=>rfl)) pax_nil))) (pe_ix ix_tup (pv 6) pe_int (fun _ _=>rfl)) ⟨rfl,rfl,rfl,rfl⟩) pax_nil))) pa_nil))) (pss_cons (ps_cut (ps_if (pt_val (pe_callF C_is_last_within q hr (pa_cons (pv 8) (pa_cons (pe_ix ix_tup (pv 6) pe_int (fun _ _=>rfl)) pa_nil)))) (pss_one (ps_set (i:=4) sc_row_mixed.nd rfl (Or.inl rfl) (pe_op op_add (pv 4) pe_int))) pss_nil)) (pss_one (ps_if (pt_val (pe_callF C_is_last_within q hr (pa_cons (pv 8) (pa_cons (pe_ix ix_tup (pv 7) pe_int (fun _ _=>rfl)) pa_nil)))) (pss_one (ps_set (i:=5) sc_row_mixed.nd rfl (Or.inl rfl) (pe_op op_add (pv 5) pe_int))) pss_nil)))))))) (pss_one (ps_ret (pe_callF C_settled q hr (pa_cons (pv 3) pa_nil)))))))),?_⟩
  obtain ⟨g,eg⟩:∃ g:Int→Int→Int,g=fun i j=>gTab key2 kvs [i,j]:=⟨_,rfl⟩
  obtain ⟨N,eN⟩:∃ N,N=lvs [] (zipT g t u):=⟨_,rfl⟩
  have mg0:=mg_all g t u
  rw [← eN] at mg0
  have fr:=fair_tab key2 hk
  have lN:N.length≤8000:=by rw [eN,lvs_count]; exact zip_cnt g t u hc hc2
  have ll:=hL.len
  have ll2:=hL2.len
  refine ⟨(by show 0≤sizeLine; decide),fun lc hlc => ?_⟩
  have s1:=Same.new hlc (.lst [])
  have u1:upd H lc (.lst []) lc=some (.lst []):=upd_same
  generalize upd H lc (.lst [])=H1 at *
  refine while_by (fun σ H2=>Same H H2∧∃ (cs:List V) (D M:List (List Nat × Int)) (i j:Nat) (o6 o7 o8:Option V),H2 lc=some (.lst cs)∧PasAt H2 n cs D∧D++M=N∧Mg g ((lvs [] t).drop i) ((lvs [] u).drop j) M∧σ=[some (.ref l),some (.ref l2),some (.ref d),some (.ref lc),some (.int (i:Int)),some (.int (j:Int)),o6,o7,o8]) (fun σ H2=>match H2 lc with | some (.lst cs)=>N.length - cs.length | _=>0) ⟨s1,[],[],N,0,0,none,none,none,u1,.nil,rfl,mg0,rfl⟩ ?_ ?_
  · rintro σ H2 ⟨s2,cs,D,M,i,j,o6,o7,o8,u2,hD,eD,mgs,rfl⟩
    have lcs:=hD.len
    refine ⟨_,rfl,_,rfl,_,_,rfl,.inl ⟨_,SqL.of (s2 _ _ hl),rfl⟩,_,_,rfl,rfl,_,rfl,ite2 (fun c => ?_) (fun c => ?_)⟩
    rotate_left
    · have hi:us.length≤i:=by
        have c':¬ (i:Int) < (us.length:Int):=fun h=>c (decide_eq_true h)
        omega
      have e0:(lvs [] t).drop i=[]:=List.drop_of_length_le (by omega)
      rw [e0] at mgs
      cases mgs
      rw [List.append_nil] at eD
      subst eD
      refine ⟨_,rfl,lc,cs,zipT g t u,n,rfl,u2,eN▸hD,hn,by omega,fun lr ys H3 s3 hlr u3 h3 => ?_⟩
      rw [eg,← blend_zip _ n t u gt.deep gu.deep] at h3
      exact q' lr ys H3 (s2.trans s3) (s2.free hlr) u3 h3
    · have hi:i < us.length:=by
        have c':(i:Int) < (us.length:Int):=of_decide_eq_true c
        omega
      obtain ⟨x,hx⟩:∃ x,us[i]? = some x:=⟨us[i],List.getElem?_eq_getElem hi⟩
      obtain ⟨pq,epq,p,z,rfl,hp,hz,ez,lz,hcc⟩:=hL.get hx
      have ed:(lvs [] t).drop i=pq::(lvs [] t).drop (i + 1):=drop_get epq
      rw [ed] at mgs
      generalize eO:(lvs [] u).drop j=O at mgs
      cases mgs with
      | @step _ qq _ O' M' mg' =>
        have eqq:(lvs [] u)[j]? = some qq:=by
          have:=congrArg (·[0]?) eO
          simp only [List.getElem?_drop,Nat.add_zero,List.getElem?_cons_zero] at this
          exact this
        have hj:j < vs2.length:=by
          have:=(List.getElem?_eq_some_iff.mp eqq).1
          omega
        obtain ⟨y,hy⟩:∃ y,vs2[j]? = some y:=⟨vs2[j],List.getElem?_eq_getElem hj⟩
        obtain ⟨qq',eqq',p2,z2,rfl,hp2,hz2,ez2,lz2,hcc2⟩:=hL2.get hy
        have e5:qq'=qq:=by rw [eqq] at eqq'; exact (Option.some.inj eqq').symm
        subst e5
        have eO':O'=(lvs [] u).drop (j + 1):=by
          have:=drop_get eqq
          rw [eO] at this
          exact (List.cons.inj this).2
        refine ⟨_,rfl,_,rfl,l,_,_,.ref p,rfl,rfl,SqL.of (s2 _ _ hl),atI_nat hx,?_⟩
        refine ⟨_,rfl,_,rfl,l2,_,_,.ref p2,rfl,rfl,SqL.of (s2 _ _ hl2),atI_nat hy,?_⟩
        refine ⟨_,rfl,p,_,_,_,rfl,rfl,SqT.of (s2 _ _ hp),rfl,_,rfl,p2,_,_,_,rfl,rfl,SqT.of (s2 _ _ hp2),rfl,z,z2,rfl,small (by omega),small (by omega),?_⟩
        obtain ⟨zc,ezc⟩:∃ zc,zc=if z2.length > z.length then z2 else z:=⟨_,rfl⟩
        rw [← ezc]
        have dz:dig zc=longer pq.1 qq'.1:=by rw [ezc,dig_longer,ez,ez2]
        have hzc:IsC zc:=by rw [ezc]; split <;> assumption
        have lzc:zc.length≤n:=by rw [ezc]; split <;> assumption
        have hp':=s2 _ _ hp
        have hp2':=s2 _ _ hp2
        refine ⟨_,rfl,.inl ⟨rfl,_,SqL.of u2⟩,_,rfl,_,rfl,d,rfl,.inr ⟨_,.inl (s2 _ _ hd)⟩,_,rfl,p,_,_,_,rfl,rfl,SqT.of hp',rfl,_,rfl,p2,_,_,_,rfl,rfl,SqT.of hp2',rfl,(by show 2≤sizeLine; decide),fun pk hpk => ?_⟩
        have s3:=Same.new hpk (.tup [.int pq.2,.int qq'.2])
        have u3:upd H2 pk (.tup [.int pq.2,.int qq'.2]) pk=some (.tup [.int pq.2,.int qq'.2]):=upd_same
        generalize upd H2 pk (.tup [.int pq.2,.int qq'.2])=H3 at *
        have s23:=s2.trans s3
        refine ⟨_,rfl,p,_,_,_,rfl,rfl,SqT.of (s3 _ _ hp'),rfl,_,DGet.t (k:=[Sum.inl pq.2,Sum.inl qq'.2]) (s23 _ _ hd) u3,?_⟩
        have zz:(valV kvs [Sum.inl pq.2,Sum.inl qq'.2]).getD (.int pq.2)=.int (g pq.2 qq'.2):=by rw [eg]; exact get_tab key2 hk [pq.2,qq'.2]
        dsimp only
        rw [zz]
        refine ⟨(by show 2≤sizeLine; decide),fun pn hpn => ?_⟩
        have s4:=Same.new hpn (.tup [.str zc,.int (g pq.2 qq'.2)])
        have u4:upd H3 pn (.tup [.str zc,.int (g pq.2 qq'.2)]) pn=some (.tup [.str zc,.int (g pq.2 qq'.2)]):=upd_same
        generalize upd H3 pn (.tup [.str zc,.int (g pq.2 qq'.2)])=H4 at *
        have s24:=s3.trans s4
        have v4:=s24 _ _ u2
        have lD:D.length < N.length:=by
          rw [← eD,List.length_append]
          show D.length < D.length + (M'.length + 1)
          omega
        refine ⟨lc,cs,_,rfl,rfl,v4,big' (by omega),?_⟩
        have tl:=Tups.lst (ys:=cs++[V.ref pn]) v4
        have s25:=Same.set (s2.trans s24) hlc (.lst (cs++[V.ref pn]))
        have v5:upd H4 lc (.lst (cs++[V.ref pn])) lc=some (.lst (cs++[V.ref pn])):=upd_same
        have t45:=s24.tups.trans tl
        have w5:=tl _ _ u4
        generalize upd H4 lc (.lst (cs++[V.ref pn]))=H5 at *
        have cf:0≤g pq.2 qq'.2∧g pq.2 qq'.2≤35:=by
          rw [eg]
          refine fr [pq.2,qq'.2] fun x hx => ?_
          rcases List.mem_cons.mp hx with rfl | hx
          · exact hcc
          · rw [List.mem_singleton.mp hx]; exact hcc2
        have hD5:PasAt H5 n (cs++[V.ref pn]) (D++[(longer pq.1 qq'.1,g pq.2 qq'.2)]):=(hD.up t45).app (.cons ⟨pn,zc,rfl,w5,hzc,dz,lzc,cf⟩ .nil)
        have adv1:∃ i':Nat,adv (longer pq.1 qq'.1) (pq::(lvs [] t).drop (i + 1))=(lvs [] t).drop i'∧i'=if lastIn (dig zc) (dig z)=true then i + 1 else i:=⟨_,by
          show (if lastIn (longer pq.1 qq'.1) pq.1=true then _ else _)=_
          rw [dz,ez]
          split
          · rfl
          · exact ed.symm,rfl⟩
        have adv2:∃ j':Nat,adv (longer pq.1 qq'.1) (qq'::O')=(lvs [] u).drop j'∧j'=if lastIn (dig zc) (dig z2)=true then j + 1 else j:=⟨_,by
          show (if lastIn (longer pq.1 qq'.1) qq'.1=true then _ else _)=_
          rw [dz,ez2]
          split
          · exact eO'
          · exact eO.symm,rfl⟩
        obtain ⟨i',ei1,ei2⟩:=adv1
        obtain ⟨j',ej1,ej2⟩:=adv2
        rw [ei1,ej1] at mg'
        have fin:∀ (o6 o7 o8:Option V),(Same H H5∧∃ (cs:List V) (D M:List (List Nat × Int)) (i j:Nat) (o6' o7' o8':Option V),H5 lc=some (.lst cs)∧PasAt H5 n cs D∧D++M=N∧Mg g ((lvs [] t).drop i) ((lvs [] u).drop j) M∧[some (V.ref l),some (V.ref l2),some (V.ref d),some (V.ref lc),some (V.int (i':Int)),some (V.int (j':Int)),o6,o7,o8]=[some (.ref l),some (.ref l2),some (.ref d),some (.ref lc),some (.int (i:Int)),some (.int (j:Int)),o6',o7',o8'])∧(match H5 lc with | some (.lst cs)=>N.length - cs.length | _=>0) < (match H2 lc with | some (.lst cs)=>N.length - cs.length | _=>0):=fun o6 o7 o8=>by
          refine ⟨⟨s25,_,_,M',i',j',o6,o7,o8,v5,hD5,by rw [List.append_assoc]; exact eD,mg',rfl⟩,?_⟩
          rw [v5,u2]
          show N.length - (cs++[V.ref pn]).length < N.length - cs.length
          rw [List.length_append]
          show N.length - (cs.length + 1) < _
          omega
        have h5p:H5 p=some (.tup [.str z,.int pq.2]):=t45 _ _ hp'
        have h5p2:H5 p2=some (.tup [.str z2,.int qq'.2]):=t45 _ _ hp2'
        refine ⟨fun σ H6=>H6=H5∧σ=[some (.ref l),some (.ref l2),some (.ref d),some (.ref lc),some (.int (i':Int)),some (.int (j:Int)),some (.ref p),some (.ref p2),some (.str zc)],?_,?_⟩
        · refine ⟨_,rfl,_,rfl,p,_,_,_,rfl,rfl,SqT.of h5p,rfl,zc,z,rfl,hzc,by omega,by omega,_,rfl,ite2 (fun c1 => ?_) (fun c1 => ?_)⟩
          · rw [if_pos c1] at ei2
            refine ⟨_,rfl,_,_,rfl,rfl,rfl,?_⟩
            rw [ei2]
            rfl
          · rw [if_neg c1] at ei2
            refine ⟨rfl,?_⟩
            rw [ei2]
            rfl
        · rintro σ H6 ⟨rfl,rfl⟩
          refine ⟨_,rfl,_,rfl,p2,_,_,_,rfl,rfl,SqT.of h5p2,rfl,zc,z2,rfl,hzc,by omega,by omega,_,rfl,ite2 (fun c1 => ?_) (fun c1 => ?_)⟩
          · rw [if_pos c1] at ej2
            refine ⟨_,rfl,_,_,rfl,rfl,?_⟩
            have:=fin (some (.ref p)) (some (.ref p2)) (some (.str zc))
            rw [ej2] at this
            exact this
          · rw [if_neg c1] at ej2
            have:=fin (some (.ref p)) (some (.ref p2)) (some (.str zc))
            rw [ej2] at this
            exact this
  · rintro σ H' R R' k ⟨a1,e1,a2,e2,x,n',e3,e4,i,j,e5,e6,kk,e7,h⟩
    exact ⟨a1,e1,a2,e2,x,n',e3,e4,i,j,e5,e6,kk,e7,k _ _ h⟩
abbrev s_row_turned:Stmt:=top 18
theorem sc_row_turned:FnScope ["row","turned","code","colour"] ["row"] (defScope s_row_turned):=⟨rfl,rfl,rfl,by decide +kernel,rfl,by decide +kernel,by decide +kernel⟩
def sp_row_turned:Sp:=fun vs H Q _=>∃ (l:Addr) (us:List V) (t:Tr) (n:Nat),vs=[.ref l]∧H l=some (.lst us)∧PasAt H n us (lvs [] t)∧Good n t∧n≤40∧cnt t≤4000 ∧
  ∀ lr ys H',Same H H'→H lr=none→H' lr=some (.lst ys)→PasAt H' n ys (lvs [] (rear oL t))→Q (.ref lr) H'
theorem ok_row_turned (T:Tx K mg) (F:FunD K "row_turned" "row_turned" s_row_turned f fd .none):FnOk P w K mg base CX 1 f fd ["row"] sp_row_turned:=by
  refine F.ok sc_row_turned (fun vs H Q E h => ?_) (fun cdv A outer s H vs Q E hr h => ?_)
  · obtain ⟨_,_,_,_,rfl,_⟩:=h
    rfl
  obtain ⟨l,us,t,n,rfl,hl,hL,gt,hn,hc,q'⟩:=h
  refine ⟨_,(pss_cons (ps_set (i:=1) sc_row_turned.nd rfl (Or.inl rfl) (pe_lstx pax_nil)) (pss_cons (ps_for PassesOwn.never rfl (pi_list (pv 0)) (pg_tup rfl (pgs_cons (pg_name (i:=2) sc_row_turned.nd rfl (Or.inl rfl)) (pgs_cons (pg_name (i:=3) sc_row_turned.nd rfl (Or.inl rfl)) pgs_nil))) (pss_one (ps_expr (pe_bm PySem.F.plainAttrs_list PySem.F.slot_list_append PySem.F.type_list_append mt_append (pv 1) (pa_cons (pe_tupx (pax_c (pe_bm PySem.F.plainAttrs_str PySem.F.slot_str_join PySem.F.type_str_join mt_join pe_str (pa_cons (pe_compC (N':=["sign"]) [] [] [] 1 (by with_unfolding_all rfl) rfl capsOk_nil rfl rfl (by decide) rfl (by decide +kernel) rfl (by decide +kernel) rfl (pi_str (pv 2)) (fun C s0 H0 fp pins=>(pg_name (i:=0) (show (["sign"]:List Str).Nodup by decide +kernel) rfl (Or.inl rfl) (Or.inr rfl))) (fun C s0 H0 fp pins=>(pe_ix ix_str (pe_gstr T.c_TO_THE_LEFT) (pe_callTy call_int_str rfl T.b_int bt_int (pa_cons (pv 0) pa_nil)) (fun _ _=>rfl)))) pa_nil)) (pax_c (pv 3) pax_nil))) pa_nil))))) (pss_one (ps_ret (pe_callB (call_sortP rfl) rfl T.b_sorted bt_sorted (pa_cons (pv 1) pa_nil)))))),?_⟩
  have ll:=hL.len
  have lc:us.length≤4000:=by rw [ll,lvs_count]; exact hc
  refine ⟨(by show 0≤sizeLine; decide),fun lt hlt => ?_⟩
  have s1:=Same.new hlt (.lst [])
  have u1:upd H lt (.lst []) lt=some (.lst []):=upd_same
  generalize upd H lt (.lst [])=H1 at *
  refine ⟨_,rfl,l,rfl,⟨_,SqL.of (s1 _ _ hl)⟩,for_list (xs:=us) (fun i σ H2=>Same H H2∧(∃ ys,H2 lt=some (.lst ys)∧PasAt H2 n ys (((lvs [] t).take i).map turnQ))∧∃ o2 o3:Option V,σ=[some (.ref l),some (.ref lt),o2,o3]) ⟨s1,⟨[],u1,.nil⟩,none,none,rfl⟩ (fun i σ H2 _ h=>SqL.of (h.1 _ _ hl)) ?_ ?_⟩
  · rintro i x σ H2 hx ⟨s2,⟨ys,u2,h2⟩,o2,o3,rfl⟩
    have hi:=(List.getElem?_eq_some_iff.mp hx).1
    obtain ⟨pq,epq,p,z,rfl,hp,hz,ez,lz,hcc⟩:=hL.get hx
    have zs:z.length≤sizeLine:=small (by omega)
    refine ⟨p,_,rfl,SqT.of (s2 _ _ hp),rfl,_,_,rfl,_,_,rfl,rfl,?_⟩
    refine ⟨_,rfl,.inl ⟨rfl,_,SqL.of u2⟩,rfl,[],rfl,_,rfl,z,rfl,compC_gen (fun D (j:Nat) zs H'=>Same H2 H'∧H' D=some (.lst zs)∧zs=(((dig z).take j).map gL).map fun d=>V.str (one d)) zs (fun D j zs H' h=>⟨h.2.1,by rw [h.2.2,List.length_map,List.length_map,List.length_take]; omega⟩) (fun D hD=>⟨Same.new hD _,upd_same,rfl⟩) ?_ ?_ (fun _ _ _ _ _ k h=>k _ _ h) ?_⟩
    · rintro D j zs' H' hj hD ⟨c1,c2,c3⟩
      obtain ⟨d,hd,e1,e2⟩:=sgn_one hz hj
      rw [e1]
      refine ⟨rfl,_,rfl,_,_,rfl,int_one hd,(by show 1≤640; decide),?_⟩
      have hdj:(dig z)[j]? = some d:=by
        unfold dig
        rw [List.getElem?_map]
        have hj':j < z.cps.toList.length:=by rw [← len_eq]; exact hj
        rw [List.getElem?_eq_getElem hj',← e2]
        show some (z.cps.toList[j] - 48)=_
        congr 2
        rw [Array.getElem_toList,Array.getD_eq_getD_getElem?,Array.getElem?_eq_getElem (by rw [← Array.length_toList]; exact hj')]
        rfl
      refine ⟨("2031" : Str),(d:Int),48 + gL d,rfl,rfl,(by decide +kernel),?_,c2,Same.set c1 hD _,upd_same,?_⟩
      · exact four (P:=fun d=>atI ("2031" : Str).cps.toList (d:Int)=some (48 + gL d)) (by decide +kernel) (by decide +kernel) (by decide +kernel) (by decide +kernel) hd
      · rw [List.take_add_one,hdj,c3,List.map_append,List.map_append]
        rfl
    · rintro D zs' H3 hD ⟨c1,c2,c3⟩
      rw [← dig_len z,List.take_length] at c3
      have c2':H3 D=some (.lst (((dig z).map gL).map fun d=>V.str (one d))):=by rw [c2,c3]
      have ej:(((dig z).map gL).map fun d=>V.str (one d))=(((dig z).map gL).map one).map V.str:=by simp only [List.map_map]; rfl
      refine ⟨("" : Str),D,((dig z).map gL).map one,rfl,rfl,?_,?_,?_⟩
      · rw [← ej]; exact SqL.of c2'
      · rw [onesL,List.length_map,List.length_map,List.length_map,dig_len]
        have z0:("" : Str).length=0:=by decide +kernel
        rw [z0]
        omega
      rw [join_one]
      refine ⟨_,rfl,(by show 2≤sizeLine; decide),fun pn hpn => ?_⟩
      have s4:=Same.new hpn (.tup [.str (txt ((dig z).map gL)),.int pq.2])
      have u4:upd H3 pn (.tup [.str (txt ((dig z).map gL)),.int pq.2]) pn=some (.tup [.str (txt ((dig z).map gL)),.int pq.2]):=upd_same
      generalize upd H3 pn (.tup [.str (txt ((dig z).map gL)),.int pq.2])=H4 at *
      have s24:=c1.trans s4
      have v4:=s24 _ _ u2
      have ly:=h2.len
      rw [List.length_map,List.length_take] at ly
      refine ⟨lt,ys,_,rfl,rfl,v4,big' (by omega),?_⟩
      have tl:=Tups.lst (ys:=ys++[V.ref pn]) v4
      refine ⟨Same.set (s2.trans s24) hlt _,⟨_,upd_same,?_⟩,_,_,rfl⟩
      have et:(lvs [] t).take (i + 1)=(lvs [] t).take i++[pq]:=by rw [List.take_add_one,epq]; rfl
      rw [et,List.map_append]
      refine (h2.up (s24.tups.trans tl)).app (.cons ⟨pn,_,rfl,tl _ _ u4,txt_isC ?_,?_,?_,hcc⟩ .nil)
      · intro x hx
        obtain ⟨d,_,rfl⟩:=List.mem_map.mp hx
        exact gL_lt d
      · rw [dig_txt,ez]; rfl
      · rw [txt_len,List.length_map,dig_len]; exact lz
    · rintro σ H' R R' k ⟨a1,e1,z',n',e2,e3,e4,z2,i,c,e5,e6,e7,e8,h⟩
      exact ⟨a1,e1,z',n',e2,e3,e4,z2,i,c,e5,e6,e7,e8,k _ _ h⟩
  · rintro σ H2 ⟨s2,⟨ys,u2,h2⟩,o2,o3,rfl⟩
    rw [ll,List.take_length] at h2
    obtain ⟨as,eas,hpr,hkey⟩:=pas_addr h2
    subst eas
    refine ⟨_,rfl,lt,false,as,rfl,SqL.of u2,hpr,fun S as' hS pm pw => ?_⟩
    have s3:=Same.new hS (.lst (as'.map V.ref))
    refine q' S _ _ (s2.trans s3) (s2.free hS) upd_same ?_
    have:=turned_sorted (t:=t) hkey pm pw
    exact this.up s3.tups
end
end Qs


namespace Qs
open PySem L2
def cell (ns:List Int) (k:Nat):Int:=(ns[k]?).getD 0
section
variable {P:Program} {w:World} {K:PySem.W.Frag} {mg:Str→Option Value} {base:Heap} {CX:CXT} {f:Addr} {fd:FuncData}
abbrev s_law_at:Stmt:=top 30
theorem sc_law_at:FnScope ["_law_script","_law_k"] ["_law_script","_law_k"] (defScope s_law_at):=⟨rfl,rfl,rfl,by decide +kernel,rfl,by decide +kernel,by decide +kernel⟩
def sp_law_at (K:PySem.W.Frag):Sp:=fun vs H Q _=>∃ (a:Addr) (ns:List Int) (k:Nat),vs=[.ref a,.int k]∧SqL K H a (ns.map V.int)∧ns.length≤63∧Q (.int (cell ns k)) H
theorem ok_law_at (T:Tx K mg) (F:FunD K "_law_at" "_law_at" s_law_at f fd .none):FnOk P w K mg base CX 1 f fd ["_law_script","_law_k"] (sp_law_at K):=by
  refine F.ok sc_law_at (fun vs H Q E h => ?_) (fun cdv A outer s H vs Q E hr h => ?_)
  · obtain ⟨_,_,_,rfl,_⟩:=h
    rfl
  obtain ⟨a,ns,k,rfl,hS,hl,q'⟩:=h
  refine ⟨_,(pss_cons (ps_if (pt_cmpR op_lt (pv 1) (pe_callB call_len rfl T.b_len bb_len (pa_cons (pv 0) pa_nil)) (nomark _)) (pss_one (ps_ret (pe_ix ix_list (pv 0) (pv 1) (fun _ _=>rfl)))) pss_nil) (pss_one (ps_ret pe_int))),?_⟩
  refine ⟨_,rfl,_,rfl,_,_,rfl,.inl ⟨_,hS,rfl⟩,_,_,rfl,rfl,_,rfl,ite2 (fun c => ?_) (fun c => ?_)⟩
  · have c':(k:Int) < (((ns.map V.int).length:Nat):Int):=of_decide_eq_true c
    rw [List.length_map] at c'
    have hk:k < ns.length:=by omega
    have e:(ns.map V.int)[k]? = some (.int (cell ns k)):=by simp [cell,hk]
    exact ⟨_,rfl,_,rfl,a,_,_,_,rfl,rfl,hS,atI_nat e,q'⟩
  · have c':¬ (k:Int) < (((ns.map V.int).length:Nat):Int):=fun z=>c (decide_eq_true z)
    rw [List.length_map] at c'
    have e:cell ns k=0:=by
      have:ns[k]? = none:=List.getElem?_eq_none (by omega)
      simp [cell,this]
    rw [e] at q'
    exact q'

abbrev s_law_mix:Stmt:=top 31
theorem sc_law_mix:FnScope ["_law_cell","_law_k","_law_value"] ["_law_cell","_law_k"] (defScope s_law_mix):=⟨rfl,rfl,rfl,by decide +kernel,rfl,by decide +kernel,by decide +kernel⟩
def sp_law_mix:Sp:=fun vs H Q _=>∃ (c:Int) (k:Nat),vs=[.int c,.int k]∧k≤100000∧∀ m:Nat,m < 2305843009213693951→Q (.int (m:Int)) H
theorem ok_law_mix (T:Tx K mg) (F:FunD K "_law_mix" "_law_mix" s_law_mix f fd .none):FnOk P w K mg base CX 1 f fd ["_law_cell","_law_k"] sp_law_mix:=by
  refine F.ok sc_law_mix (fun vs H Q E h => ?_) (fun cdv A outer s H vs Q E hr h => ?_)
  · obtain ⟨_,_,rfl,_⟩:=h
    rfl
  obtain ⟨c,k,rfl,hk,q'⟩:=h
  refine ⟨_,(pss_cons (ps_set (i:=2) sc_law_mix.nd rfl (Or.inl rfl) (pe_op op_add (pe_op op_add (pe_op op_mod (pv 0) pe_int) (pe_op op_mul pe_int (pv 1))) pe_int)) (pss_cons (ps_set (i:=2) sc_law_mix.nd rfl (Or.inl rfl) (pe_op op_mod (pe_op op_mul (pv 2) (pe_op op_add pe_int (pe_op op_mul pe_int (pv 1)))) pe_int)) (pss_one (ps_ret (pe_op op_mod (pe_op op_mul (pe_op op_add (pe_op op_fdivW (pv 2) pe_int) (pe_op op_mul (pv 2) pe_int)) pe_int) pe_int))))),?_⟩
  have pP:(0:Int) < 2305843009213693951:=by decide
  refine ⟨_,rfl,_,_,rfl,rfl,pP,_,rfl,_,_,rfl,rfl,.inl ⟨by decide,by decide⟩,_,_,rfl,rfl,_,_,rfl,rfl,?_⟩
  dsimp only
  obtain ⟨v,hv,ev⟩:∃ v:Int,(0≤v∧v < 2305843009213693951 + 211 * 100000 + 13)∧c % 2305843009213693951 + 211 * (k:Int) + 13=v:=⟨_,by omega,rfl⟩
  rw [ev]
  refine ⟨_,rfl,_,rfl,_,_,rfl,rfl,.inl ⟨by decide,by decide⟩,_,_,rfl,rfl,_,_,rfl,rfl,.inl ⟨by omega,by omega⟩,_,_,rfl,rfl,pP,?_⟩
  dsimp only
  obtain ⟨x,hx,ex⟩:∃ x:Int,(0≤x∧x < 2305843009213693951)∧v * (746413622384679307 + 2 * (k:Int)) % 2305843009213693951=x:=⟨_,⟨Int.emod_nonneg _ (by decide),Int.emod_lt_of_pos _ (by decide)⟩,rfl⟩
  rw [ex]
  refine ⟨_,rfl,_,_,rfl,rfl,cdivW (by decide) (by decide),_,rfl,_,_,rfl,rfl,.inr ⟨by decide,by decide⟩,_,_,rfl,rfl,_,_,rfl,rfl,.inr ⟨by decide,by decide⟩,_,_,rfl,rfl,pP,?_⟩
  dsimp only
  obtain ⟨m,hm,em⟩:∃ m:Nat,m < 2305843009213693951∧(x / 268435456 + x * 5) * 1302034522624059749 % 2305843009213693951=(m:Int):=by
    have h1:=Int.emod_nonneg ((x / 268435456 + x * 5) * 1302034522624059749) (show (2305843009213693951:Int)≠0 by decide)
    have h2:=Int.emod_lt_of_pos ((x / 268435456 + x * 5) * 1302034522624059749) pP
    generalize (x / 268435456 + x * 5) * 1302034522624059749 % 2305843009213693951=y at *
    exact ⟨y.toNat,by omega,by omega⟩
  rw [em]
  exact q' m hm
abbrev s_law_level_by:Stmt:=top 32
theorem sc_law_level_by:FnScope ["_law_cell"] ["_law_cell"] (defScope s_law_level_by):=⟨rfl,rfl,rfl,by decide +kernel,rfl,by decide +kernel,by decide +kernel⟩
def sp_law_level_by:Sp:=fun vs H Q _=>∃ c:Int,vs=[.int c]∧∀ n:Nat,n≤40→Q (.int (n:Int)) H
theorem ok_law_level_by (T:Tx K mg) (F:FunD K "_law_level_by" "_law_level_by" s_law_level_by f fd .none):FnOk P w K mg base CX 1 f fd ["_law_cell"] sp_law_level_by:=by
  refine F.ok sc_law_level_by (fun vs H Q E h => ?_) (fun cdv A outer s H vs Q E hr h => ?_)
  · obtain ⟨_,rfl,_⟩:=h
    rfl
  obtain ⟨c,rfl,q'⟩:=h
  refine ⟨_,(pss_cons (ps_if (pt_cmpR op_eq (pe_op op_mod (pv 0) pe_int) pe_int (nomark _)) (pss_one (ps_ret (pe_op op_add pe_int (pe_op op_mod (pe_op op_fdivW (pv 0) pe_int) pe_int)))) pss_nil) (pss_one (ps_ret (pe_op op_mod (pe_op op_fdivW (pv 0) pe_int) pe_int)))),?_⟩
  refine ⟨_,rfl,_,_,rfl,rfl,(by show (0:Int) < 6; decide),rfl,_,rfl,ite2 (fun _ => ?_) (fun _ => ?_)⟩
  · refine ⟨_,rfl,_,_,rfl,rfl,cdivW (by decide) (by decide),_,_,rfl,rfl,(by show (0:Int) < 36; decide),_,_,rfl,rfl,?_⟩
    obtain ⟨n,hn,en⟩:∃ n:Nat,n≤40∧5 + c / 6 % 36=(n:Int):=⟨(5 + c / 6 % 36).toNat,by omega,by omega⟩
    dsimp only
    rw [en]; exact q' n hn
  · refine ⟨_,rfl,_,_,rfl,rfl,cdivW (by decide) (by decide),_,_,rfl,rfl,(by show (0:Int) < 5; decide),?_⟩
    obtain ⟨n,hn,en⟩:∃ n:Nat,n≤40∧c / 6 % 5=(n:Int):=⟨(c / 6 % 5).toNat,by omega,by omega⟩
    dsimp only
    rw [en]; exact q' n hn
abbrev s_law_code_by:Stmt:=top 33
theorem sc_law_code_by:FnScope ["_law_cell","_law_k","_law_most","_law_signs","_law_value","_law_code","_law_j"] ["_law_cell","_law_k","_law_most"] (defScope s_law_code_by):=⟨rfl,rfl,rfl,by decide +kernel,rfl,by decide +kernel,by decide +kernel⟩
def sp_law_code_by:Sp:=fun vs H Q _=>∃ (c:Int) (k n:Nat),vs=[.int c,.int k,.int n]∧k≤90000∧n≤40∧∀ z,IsC z→z.length≤n→Q (.str z) H
theorem ok_law_code_by (T:Tx K mg) (q:Quiet CX) (F:FunD K "_law_code_by" "_law_code_by" s_law_code_by f fd .none) (C__law_mix:Fok P w K mg base CX 1 "_law_mix" ["_law_cell","_law_k"] [] sp_law_mix):FnOk P w K mg base CX 2 f fd ["_law_cell","_law_k","_law_most"] sp_law_code_by:=by
  refine F.ok sc_law_code_by (fun vs H Q E h => ?_) (fun cdv A outer s H vs Q E hr h => ?_)
  · obtain ⟨_,_,_,rfl,_⟩:=h
    rfl
  obtain ⟨c,k,n,rfl,hk,hn,q'⟩:=h
  refine ⟨_,(pss_cons (ps_set (i:=3) sc_law_code_by.nd rfl (Or.inl rfl) (pe_op op_mod (pe_callF C__law_mix q hr (pa_cons (pv 0) (pa_cons (pv 1) pa_nil))) (pe_op op_add (pv 2) pe_int))) (pss_cons (ps_if (pt_cmpR op_gt (pe_op op_mod (pe_callF C__law_mix q hr (pa_cons (pv 0) (pa_cons (pe_op op_add (pv 1) pe_int) pa_nil))) pe_int) pe_int (nomark _)) (pss_one (ps_set (i:=3) sc_law_code_by.nd rfl (Or.inl rfl) (pv 2))) pss_nil) (pss_cons (ps_set (i:=4) sc_law_code_by.nd rfl (Or.inl rfl) (pe_op op_add (pe_op op_mul (pe_callF C__law_mix q hr (pa_cons (pv 0) (pa_cons (pe_op op_add (pv 1) pe_int) pa_nil))) pe_int) (pe_callF C__law_mix q hr (pa_cons (pv 0) (pa_cons (pe_op op_add (pv 1) pe_int) pa_nil))))) (pss_cons (ps_set (i:=5) sc_law_code_by.nd rfl (Or.inl rfl) pe_str) (pss_cons (ps_for PassesOwn.never rfl (pi_range1 rfl T.b_range (pa_cons (pv 3) pa_nil)) (pg_name (i:=6) sc_law_code_by.nd rfl (Or.inl rfl)) (pss_cons (ps_set (i:=5) sc_law_code_by.nd rfl (Or.inl rfl) (pe_op op_add_str (pv 5) (pe_ix ix_str pe_str (pe_op op_mod (pv 4) pe_int) (fun _ _=>rfl)))) (pss_one (ps_if (PW.pt (pw_or (pt_cmpR op_lt (pv 6) pe_int (nomark _)) (pw_or1 (pt_cmpR op_eq (pe_op op_mod (pe_callF C__law_mix q hr (pa_cons (pv 0) (pa_cons (pe_op op_add (pv 1) pe_int) pa_nil))) pe_int) pe_int (nomark _))))) (pss_one (ps_set (i:=4) sc_law_code_by.nd rfl (Or.inl rfl) (pe_op op_fdivW (pv 4) pe_int))) pss_nil)))) (pss_one (ps_ret (pv 5)))))))),?_⟩
  refine ⟨_,rfl,_,rfl,c,k,rfl,by omega,fun m hm=>⟨_,rfl,_,_,rfl,rfl,_,_,rfl,rfl,(by show (0:Int) < (n:Int) + 1; omega),?_⟩⟩
  obtain ⟨s1,hs1,es1⟩:∃ s1:Nat,s1≤n∧(m:Int) % ((n:Int) + 1)=(s1:Int):=by
    have h1:=Int.emod_nonneg (m:Int) (show (n:Int) + 1≠0 by omega)
    have h2:=Int.emod_lt_of_pos (m:Int) (show (0:Int) < (n:Int) + 1 by omega)
    exact ⟨((m:Int) % ((n:Int) + 1)).toNat,by omega,by omega⟩
  dsimp only
  rw [es1]
  refine ⟨_,rfl,_,rfl,_,_,rfl,rfl,c,k + 1,rfl,by omega,fun m2 hm2=>⟨_,_,rfl,rfl,(by show (0:Int) < 3; decide),_,_,rfl,rfl,_,rfl,?_⟩⟩
  refine ite2 (fun _ => ?_) (fun _ => ?_)
  · obtain ⟨sg,hsg⟩:∃ sg:Nat,sg=n:=⟨n,rfl⟩
    subst hsg
    refine ⟨_,rfl,?_⟩
    refine ⟨_,rfl,_,rfl,_,_,rfl,rfl,c,k + 2,rfl,by omega,fun m3 hm3=>⟨_,_,rfl,rfl,.inr ⟨by decide,by decide⟩,_,rfl,_,rfl,_,_,rfl,rfl,c,k + 3,rfl,by omega,fun m4 hm4=>⟨_,_,rfl,rfl,?_⟩⟩⟩
    refine ⟨_,rfl,_,rfl,by omega,by omega,for_range (fun j σ H2=>H2=H∧∃ (z:Str) (val:Int) (o6:Option V),IsC z∧z.length=j∧σ=[some (.int c),some (.int k),some (.int (sg:Int)),some (.int (sg:Int)),some (.int val),some (.str z),o6]) ⟨rfl,_,_,none,empty_eq▸IsC.nil,by decide +kernel,rfl⟩ ?_ ?_⟩
    · rintro j σ H2 hj ⟨rfl,z,val,o6,hz,lz,rfl⟩
      have hj':j < sg:=by omega
      obtain ⟨d,hd,ed⟩:=four_of val
      have nz:IsC (z++one d):=IsC.app hz (IsC.one hd)
      have nl:(z++one d).length=j + 1:=by rw [app_len,lz]; rfl
      refine ⟨_,rfl,_,rfl,_,_,rfl,rfl,(by show (0:Int) < 4; decide),_,_,48 + d,rfl,rfl,q_len,by rw [ed]; exact at_q hd,_,_,rfl,rfl,?_,?_⟩
      · rw [lz]; show j + 1≤sizeLine; exact small (by omega)
      refine ⟨_,rfl,_,_,rfl,rfl,_,rfl,ite2 (fun _=>iteT ?_) (fun _ => ?_)⟩
      · exact ⟨_,rfl,_,_,rfl,rfl,cdivW (by decide) (by decide),rfl,z++one d,_,_,nz,nl,rfl⟩
      · refine ⟨_,rfl,_,rfl,_,_,rfl,rfl,c,k + 4,rfl,by omega,fun m5 _=>⟨_,_,rfl,rfl,(by show (0:Int) < 2; decide),rfl,_,rfl,ite2 (fun _ => ?_) (fun _ => ?_)⟩⟩
        · exact ⟨_,rfl,_,_,rfl,rfl,cdivW (by decide) (by decide),rfl,z++one d,_,_,nz,nl,rfl⟩
        · exact ⟨rfl,z++one d,_,_,nz,nl,rfl⟩
    · rintro σ H2 ⟨rfl,z,val,o6,hz,lz,rfl⟩
      exact ⟨_,rfl,q' z hz (by omega)⟩
  · obtain ⟨sg,hsg⟩:∃ sg:Nat,sg=s1:=⟨s1,rfl⟩
    subst hsg
    refine ⟨_,rfl,_,rfl,_,_,rfl,rfl,c,k + 2,rfl,by omega,fun m3 hm3=>⟨_,_,rfl,rfl,.inr ⟨by decide,by decide⟩,_,rfl,_,rfl,_,_,rfl,rfl,c,k + 3,rfl,by omega,fun m4 hm4=>⟨_,_,rfl,rfl,?_⟩⟩⟩
    refine ⟨_,rfl,_,rfl,by omega,by omega,for_range (fun j σ H2=>H2=H∧∃ (z:Str) (val:Int) (o6:Option V),IsC z∧z.length=j∧σ=[some (.int c),some (.int k),some (.int n),some (.int (sg:Int)),some (.int val),some (.str z),o6]) ⟨rfl,_,_,none,empty_eq▸IsC.nil,by decide +kernel,rfl⟩ ?_ ?_⟩
    · rintro j σ H2 hj ⟨rfl,z,val,o6,hz,lz,rfl⟩
      have hj':j < sg:=by omega
      obtain ⟨d,hd,ed⟩:=four_of val
      have nz:IsC (z++one d):=IsC.app hz (IsC.one hd)
      have nl:(z++one d).length=j + 1:=by rw [app_len,lz]; rfl
      refine ⟨_,rfl,_,rfl,_,_,rfl,rfl,(by show (0:Int) < 4; decide),_,_,48 + d,rfl,rfl,q_len,by rw [ed]; exact at_q hd,_,_,rfl,rfl,?_,?_⟩
      · rw [lz]; show j + 1≤sizeLine; exact small (by omega)
      refine ⟨_,rfl,_,_,rfl,rfl,_,rfl,ite2 (fun _=>iteT ?_) (fun _ => ?_)⟩
      · exact ⟨_,rfl,_,_,rfl,rfl,cdivW (by decide) (by decide),rfl,z++one d,_,_,nz,nl,rfl⟩
      · refine ⟨_,rfl,_,rfl,_,_,rfl,rfl,c,k + 4,rfl,by omega,fun m5 _=>⟨_,_,rfl,rfl,(by show (0:Int) < 2; decide),rfl,_,rfl,ite2 (fun _ => ?_) (fun _ => ?_)⟩⟩
        · exact ⟨_,rfl,_,_,rfl,rfl,cdivW (by decide) (by decide),rfl,z++one d,_,_,nz,nl,rfl⟩
        · exact ⟨rfl,z++one d,_,_,nz,nl,rfl⟩
    · rintro σ H2 ⟨rfl,z,val,o6,hz,lz,rfl⟩
      exact ⟨_,rfl,q' z hz (by omega)⟩
abbrev s_law_colour_by:Stmt:=top 34
theorem sc_law_colour_by:FnScope ["_law_script","_law_cell","_law_k","_law_value"] ["_law_script","_law_cell","_law_k"] (defScope s_law_colour_by):=⟨rfl,rfl,rfl,by decide +kernel,rfl,by decide +kernel,by decide +kernel⟩
def sp_law_colour_by (K:PySem.W.Frag):Sp:=fun vs H Q _=>∃ (a:Addr) (ns:List Int) (c:Int) (k:Nat),vs=[.ref a,.int c,.int k]∧SqL K H a (ns.map V.int)∧ns.length≤63∧k≤90000∧∀ i:Int,0≤i→i≤35→Q (.int i) H
theorem ok_law_colour_by (T:Tx K mg) (q:Quiet CX) (F:FunD K "_law_colour_by" "_law_colour_by" s_law_colour_by f fd .none) (C__law_mix:Fok P w K mg base CX 1 "_law_mix" ["_law_cell","_law_k"] [] sp_law_mix) (C__law_at:Fok P w K mg base CX 1 "_law_at" ["_law_script","_law_k"] [] (sp_law_at K)):FnOk P w K mg base CX 2 f fd ["_law_script","_law_cell","_law_k"] (sp_law_colour_by K):=by
  refine F.ok sc_law_colour_by (fun vs H Q E h => ?_) (fun cdv A outer s H vs Q E hr h => ?_)
  · obtain ⟨_,_,_,_,rfl,_⟩:=h
    rfl
  obtain ⟨a,ns,c,k,rfl,hS,h63,hk,q'⟩:=h
  refine ⟨_,(pss_cons (ps_set (i:=3) sc_law_colour_by.nd rfl (Or.inl rfl) (pe_callF C__law_mix q hr (pa_cons (pv 1) (pa_cons (pv 2) pa_nil)))) (pss_cons (ps_if (pt_cmpR op_eq (pe_op op_mod (pv 3) pe_int) pe_int (nomark _)) (pss_one (ps_ret (pe_op op_mod (pe_op op_fdivW (pv 3) pe_int) pe_int))) pss_nil) (pss_one (ps_ret (pe_op op_mod (pe_op op_add (pe_op op_fdivW (pe_callF C__law_at q hr (pa_cons (pv 0) (pa_cons pe_int pa_nil))) pe_int) (pe_op op_mul (pe_op op_mod (pe_op op_fdivW (pv 3) pe_int) pe_int) (pe_op op_add pe_int (pe_op op_mul (pe_op op_mod (pe_callF C__law_at q hr (pa_cons (pv 0) (pa_cons pe_int pa_nil))) pe_int) pe_int)))) pe_int))))),?_⟩
  refine ⟨_,rfl,_,rfl,c,k,rfl,by omega,fun m hm => ?_⟩
  refine ⟨_,rfl,_,_,rfl,rfl,(by show (0:Int) < 8; decide),rfl,_,rfl,ite2 (fun _ => ?_) (fun _ => ?_)⟩
  · refine ⟨_,rfl,_,_,rfl,rfl,cdivW (by decide) (by decide),_,_,rfl,rfl,(by show (0:Int) < 36; decide),q' _ ?_ ?_⟩
    · show 0≤(m:Int) / 8 % 36; omega
    · show (m:Int) / 8 % 36≤35; omega
  · refine ⟨_,rfl,a,ns,1,rfl,hS,h63,_,_,rfl,rfl,cdivW (by decide) (by decide),?_⟩
    refine ⟨_,rfl,_,_,rfl,rfl,cdivW (by decide) (by decide),_,_,rfl,rfl,(by show (0:Int) < 3; decide),?_⟩
    refine ⟨_,rfl,a,ns,1,rfl,hS,h63,_,_,rfl,rfl,(by show (0:Int) < 2; decide),_,_,rfl,rfl,.inr ⟨by decide,by decide⟩,_,_,rfl,rfl,_,_,rfl,rfl,.inl ⟨?_,?_⟩,_,_,rfl,rfl,_,_,rfl,rfl,(by show (0:Int) < 36; decide),q' _ ?_ ?_⟩
    · show -(2 ^ 64) < (m:Int) / 8 % 3; omega
    · show (m:Int) / 8 % 3 < 2 ^ 64; omega
    · exact Int.emod_nonneg _ (by decide)
    · have:=Int.emod_lt_of_pos (cell ns 1 / 2 + (m:Int) / 8 % 3 * (1 + cell ns 1 % 2 * 11)) (show (0:Int) < 36 by decide)
      show (cell ns 1 / 2 + (m:Int) / 8 % 3 * (1 + cell ns 1 % 2 * 11)) % 36≤35
      omega
abbrev s_law_four:Stmt:=top 35
theorem sc_law_four:FnScope ["_law_tree"] ["_law_tree"] (defScope s_law_four):=⟨rfl,rfl,rfl,by decide +kernel,rfl,by decide +kernel,by decide +kernel⟩
def sp_law_four:Sp:=fun vs H Q _=>∃ (v:V) (t:Tr),vs=[v]∧TrAt H v t∧∀ l a b c d H',Same H H'→H l=none→H' l=some (.lst [a,b,c,d])→TrAt H' a (q0 t)→TrAt H' b (q1 t)→TrAt H' c (q2 t)→TrAt H' d (q3 t)→Q (.ref l) H'
theorem ok_law_four (T:Tx K mg) (F:FunD K "_law_four" "_law_four" s_law_four f fd .none):FnOk P w K mg base CX 1 f fd ["_law_tree"] sp_law_four:=by
  refine F.ok sc_law_four (fun vs H Q E h => ?_) (fun cdv A outer s H vs Q E hr h => ?_)
  · obtain ⟨_,_,rfl,_⟩:=h
    rfl
  obtain ⟨v,t,rfl,ht,q'⟩:=h
  refine ⟨_,(pss_cons (ps_if (pt_val (pe_callB (call_isiT "tuple") rfl T.b_isinstance bb_isinstance (pa_cons (pv 0) (pa_cons (pe_bty T.b_tuple bt_tuple) pa_nil)))) (pss_one (ps_ret (pe_callTy call_list_of rfl T.b_list bt_list (pa_cons (pv 0) pa_nil)))) pss_nil) (pss_one (ps_ret (pe_lstx (pax_c (pv 0) (pax_c (pv 0) (pax_c (pv 0) (pax_c (pv 0) pax_nil)))))))),?_⟩
  cases ht with
  | four e a b c d =>
    refine ⟨_,rfl,_,_,_,rfl,.tup e,kit_tt,_,rfl,iteT ⟨_,rfl,_,_,rfl,.inr (SqT.of e),fun l hl => ?_⟩⟩
    have t2:=fun zs=>(Same.new hl (.lst zs)).tups
    exact q' l _ _ _ _ _ (Same.new hl _) hl upd_same (a.up (t2 _)) (b.up (t2 _)) (c.up (t2 _)) (d.up (t2 _))
  | col i =>
    refine ⟨_,rfl,_,_,_,rfl,.int i,kit_it,_,rfl,iteF ?_⟩
    exact ⟨_,rfl,_,rfl,_,rfl,_,rfl,(by show 4≤sizeLine; decide),fun l hl=>q' l _ _ _ _ _ (Same.new hl _) hl upd_same (.col i) (.col i) (.col i) (.col i)⟩
end
end Qs


namespace Qs
open PySem L2
theorem find_q {d:Nat} (h:d < 4):Txt.find ("0123" : Str) (one d)=(d:Int) :=
  four (P:=fun d=>Txt.find ("0123" : Str) (one d)=(d:Int)) (by decide +kernel) (by decide +kernel) (by decide +kernel) (by decide +kernel) h
theorem shaped4 {a b c d:Tr} (ha:a.deep≤60) (hb:b.deep≤60) (hc:c.deep≤60) (hd:d.deep≤60):SeqAt.shaped (.list [a.data,b.data,c.data,d.data])=true:=by
  have e1:(PyData.list [a.data,b.data,c.data,d.data]).canLay0=true:=by
    show (a.data.canLay0 && (b.data.canLay0 && (c.data.canLay0 && (d.data.canLay0 && true))))=true
    rw [Tr.lay a,Tr.lay b,Tr.lay c,Tr.lay d]; rfl
  have e2:(PyData.list [a.data,b.data,c.data,d.data]).depth≤64:=by
    show max a.data.depth (max b.data.depth (max c.data.depth (max d.data.depth 0))) + 1≤64
    rw [Tr.depth a,Tr.depth b,Tr.depth c,Tr.depth d]; omega
  unfold SeqAt.shaped
  rw [e1,decide_eq_true e2]; rfl
theorem eqv4 (a b c d a' b' c' d':Tr):PyData.eqv (.list [a.data,b.data,c.data,d.data]) (.list [a'.data,b'.data,c'.data,d'.data])=decide (a=a'∧b=b'∧c=c'∧d=d'):=by
  show (PyData.eqv a.data a'.data && (PyData.eqv b.data b'.data && (PyData.eqv c.data c'.data && (PyData.eqv d.data d'.data && true))))=_
  rw [Tr.eqv a a',Tr.eqv b b',Tr.eqv c c',Tr.eqv d d']
  by_cases h1:a=a' <;> by_cases h2:b=b' <;> by_cases h3:c=c' <;> by_cases h4:d=d' <;> simp [h1,h2,h3,h4]
section
variable {P:Program} {w:World} {K:PySem.W.Frag} {mg:Str→Option Value} {base:Heap} {CX:CXT} {f:Addr} {fd:FuncData}
abbrev s_law_painted:Stmt:=top 36
theorem sc_law_painted:FnScope ["_law_tree","_law_code","_law_colour","_law_four_here","_law_at_here"] ["_law_tree","_law_code","_law_colour"] (defScope s_law_painted):=⟨rfl,rfl,rfl,by decide +kernel,rfl,by decide +kernel,by decide +kernel⟩
def sp_law_painted (m:Nat):Sp:=fun vs H Q _=>∃ (v:V) (i:Int) (t:Tr) (z:Str),vs=[v,.str z,.int i]∧TrAt H v t∧IsC z∧z.length≤m∧m≤40∧t.deep≤60∧∀ v' H',Same H H'→TrAt H' v' (plant t (dig z) (.col i))→Q v' H'
theorem ok_law_painted (T:Tx K mg) (q:Quiet CX) (F:FunD K "_law_painted" "_law_painted" s_law_painted f fd .none) (C__law_four:Fok P w K mg base CX 1 "_law_four" ["_law_tree"] [] sp_law_four) (b:Binds K fd ["_law_tree","_law_code","_law_colour"] []) (m:mg "_law_painted" = some (.ref f)) :
    ∀ n,FnOk P w K mg base CX (2 + n) f fd ["_law_tree","_law_code","_law_colour"] (sp_law_painted n)
  | 0=>by
    have C__law_painted:=fokF (P:=P) (w:=w) (base:=base) (CX:=CX) F b m
    refine F.ok sc_law_painted (fun vs H Q E h => ?_) (fun cdv A outer s H vs Q E hr h => ?_)
    · obtain ⟨_,_,_,_,rfl,_⟩:=h
      rfl
    obtain ⟨v,i,t,z,rfl,ht,hz,hl,hm,dt,q'⟩:=h
    refine ⟨_,(pss_cons (ps_if (pt_cmpR op_eq (pv 1) pe_str (nomark _)) (pss_one (ps_ret (pv 2))) pss_nil) (pss_cons (ps_set (i:=3) sc_law_painted.nd rfl (Or.inl rfl) (pe_callF C__law_four q hr (pa_cons (pv 0) pa_nil) (hj:=by first | decide | omega | (simp only [Nat.add_eq]; omega)))) (pss_cons (ps_set (i:=4) sc_law_painted.nd rfl (Or.inl rfl) (pe_bm PySem.F.plainAttrs_str PySem.F.slot_str_find PySem.F.type_str_find mt_find pe_str (pa_cons (pe_ix ix_str (pv 1) pe_int (fun _ _=>rfl)) pa_nil))) (pss_cons (ps_asg (pe_callF C__law_painted q hr (pa_cons (pe_ix ix_list (pv 3) (pv 4) (fun _ _=>rfl)) (pa_cons (pe_slice sl_str (pv 1) (po_some pe_int) po_none) (pa_cons (pv 2) pa_nil))) (hj:=by first | decide | omega | (simp only [Nat.add_eq]; omega))) (pg_sub (pv 3) (pv 4) set_list)) (pss_cons (ps_if (PW.pt (pw_and (pt_not (pt_val (pe_callB (call_isiT "tuple") rfl T.b_isinstance bb_isinstance (pa_cons (pe_ix ix_list (pv 3) pe_int (fun _ _=>rfl)) (pa_cons (pe_bty T.b_tuple bt_tuple) pa_nil))))) (pw_and1 (pt_cmpR (op_eqD hr) (pv 3) (pe_op op_rep (pe_lstx (pax_c (pe_ix ix_list (pv 3) pe_int (fun _ _=>rfl)) pax_nil)) pe_int) (nomark _))))) (pss_one (ps_ret (pe_ix ix_list (pv 3) pe_int (fun _ _=>rfl)))) pss_nil) (pss_one (ps_ret (pe_tupx (pax_c (pe_ix ix_list (pv 3) pe_int (fun _ _=>rfl)) (pax_c (pe_ix ix_list (pv 3) pe_int (fun _ _=>rfl)) (pax_c (pe_ix ix_list (pv 3) pe_int (fun _ _=>rfl)) (pax_c (pe_ix ix_list (pv 3) pe_int (fun _ _=>rfl)) pax_nil)))))))))))),?_⟩
    have e:=str_eq_nil.mpr (Nat.le_zero.mp hl)
    subst e
    rw [dig_empty] at q'
    refine ⟨_,rfl,rfl,_,rfl,ite2 (fun c => ?_) (fun c=>absurd (by simp) c)⟩
    exact ⟨_,rfl,q' (.int i) H (Same.refl H) (.col i)⟩
  | n + 1=>by
    have C__law_painted:Fok P w K mg base CX (2 + n) "_law_painted" ["_law_tree","_law_code","_law_colour"] [] (sp_law_painted n):=fok F (ok_law_painted T q F C__law_four b m n) b m
    refine F.ok sc_law_painted (fun vs H Q E h => ?_) (fun cdv A outer s H vs Q E hr h => ?_)
    · obtain ⟨_,_,_,_,rfl,_⟩:=h
      rfl
    obtain ⟨v,i,t,z,rfl,ht,hz,hl,hm,dt,q'⟩:=h
    refine ⟨_,(pss_cons (ps_if (pt_cmpR op_eq (pv 1) pe_str (nomark _)) (pss_one (ps_ret (pv 2))) pss_nil) (pss_cons (ps_set (i:=3) sc_law_painted.nd rfl (Or.inl rfl) (pe_callF C__law_four q hr (pa_cons (pv 0) pa_nil) (hj:=by first | decide | omega | (simp only [Nat.add_eq]; omega)))) (pss_cons (ps_set (i:=4) sc_law_painted.nd rfl (Or.inl rfl) (pe_bm PySem.F.plainAttrs_str PySem.F.slot_str_find PySem.F.type_str_find mt_find pe_str (pa_cons (pe_ix ix_str (pv 1) pe_int (fun _ _=>rfl)) pa_nil))) (pss_cons (ps_asg (pe_callF C__law_painted q hr (pa_cons (pe_ix ix_list (pv 3) (pv 4) (fun _ _=>rfl)) (pa_cons (pe_slice sl_str (pv 1) (po_some pe_int) po_none) (pa_cons (pv 2) pa_nil))) (hj:=by first | decide | omega | (simp only [Nat.add_eq]; omega))) (pg_sub (pv 3) (pv 4) set_list)) (pss_cons (ps_if (PW.pt (pw_and (pt_not (pt_val (pe_callB (call_isiT "tuple") rfl T.b_isinstance bb_isinstance (pa_cons (pe_ix ix_list (pv 3) pe_int (fun _ _=>rfl)) (pa_cons (pe_bty T.b_tuple bt_tuple) pa_nil))))) (pw_and1 (pt_cmpR (op_eqD hr) (pv 3) (pe_op op_rep (pe_lstx (pax_c (pe_ix ix_list (pv 3) pe_int (fun _ _=>rfl)) pax_nil)) pe_int) (nomark _))))) (pss_one (ps_ret (pe_ix ix_list (pv 3) pe_int (fun _ _=>rfl)))) pss_nil) (pss_one (ps_ret (pe_tupx (pax_c (pe_ix ix_list (pv 3) pe_int (fun _ _=>rfl)) (pax_c (pe_ix ix_list (pv 3) pe_int (fun _ _=>rfl)) (pax_c (pe_ix ix_list (pv 3) pe_int (fun _ _=>rfl)) (pax_c (pe_ix ix_list (pv 3) pe_int (fun _ _=>rfl)) pax_nil)))))))))))),?_⟩
    refine ⟨_,rfl,rfl,_,rfl,ite2 (fun c => ?_) (fun c => ?_)⟩
    · have e:z=("" : Str):=by simpa using c
      subst e
      rw [dig_empty] at q'
      exact ⟨_,rfl,q' (.int i) H (Same.refl H) (.col i)⟩
    have pz:0 < z.length:=by
      rcases Nat.eq_zero_or_pos z.length with h0 | h0
      · exact absurd (by simp [str_eq_nil.mpr h0]) c
      · exact h0
    have hs:z.length≤sizeLine:=small (by omega)
    refine ⟨_,rfl,v,t,rfl,ht,fun l a b c d H2 s2 hl0 u2 ka kb kc kd => ?_⟩
    obtain ⟨e,he,e1,e2⟩:=sgn_one hz pz
    refine ⟨rfl,_,rfl,z,0,z.cps.getD 0 0,rfl,rfl,hs,at_zero pz,("0123" : Str),sgn z 0,rfl,rfl,?_⟩
    rw [e1,find_q he]
    have key:∃ x,atI [a,b,c,d] (e:Int)=some x∧TrAt H2 x (qk t e):=by
      rcases e with _ | _ | _ | _ | e
      · exact ⟨a,rfl,ka⟩
      · exact ⟨b,rfl,kb⟩
      · exact ⟨c,rfl,kc⟩
      · exact ⟨d,rfl,kd⟩
      · omega
    obtain ⟨x,ex,kx⟩:=key
    refine ⟨_,rfl,_,rfl,l,_,_,x,rfl,rfl,SqL.of u2,ex,_,rfl,_,rfl,z,rfl,hs,_,rfl,?_⟩
    have rl:=rst_len z
    refine ⟨x,i,qk t e,rst z,(by show [x,V.str _,V.int i]=[x,V.str _,V.int i]; rw [slice_rst pz]),kx,rst_isC hz,by omega,by omega,qk_deep' dt,fun v' H3 s3 hv' => ?_⟩
    have u3:=s3 _ _ u2
    have hix:ixN [a,b,c,d].length (e:Int)=some e:=by
      unfold ixN
      rw [if_pos (by omega),if_pos (by simp; omega),Int.toNat_natCast]
    refine ⟨_,rfl,_,rfl,l,[a,b,c,d],(e:Int),e,rfl,rfl,u3,hix,?_⟩
    have t3:=Tups.lst (ys:=[a,b,c,d].set e v') u3
    have sf:Same H (upd H3 l (.lst ([a,b,c,d].set e v'))):=Same.set (s2.trans s3) hl0 _
    have t23:=s3.tups.trans t3
    have dq:=plant_deep (dig (rst z)) 60 (qk t e) (.col i) (qk_deep' dt) (by rw [dig_len]; show 0 + _≤60; omega)
    have ep:plant t (dig z) (.col i)=put4 t e (plant (qk t e) (dig (rst z)) (.col i)):=by rw [dig_rst pz,e2]; rfl
    rw [ep] at q'
    have d0:=qk_deep' (d:=0) dt
    have d1:=qk_deep' (d:=1) dt
    have d2:=qk_deep' (d:=2) dt
    have d3:=qk_deep' (d:=3) dt
    have kv:=hv'.up t3
    have u4:upd H3 l (.lst ([a,b,c,d].set e v')) l=some (.lst ([a,b,c,d].set e v')):=upd_same
    have four4:∃ (xa xb xc xd:V) (ta tb tc td:Tr),[a,b,c,d].set e v'=[xa,xb,xc,xd]∧TrAt (upd H3 l (.lst ([a,b,c,d].set e v'))) xa ta∧TrAt (upd H3 l (.lst ([a,b,c,d].set e v'))) xb tb∧TrAt (upd H3 l (.lst ([a,b,c,d].set e v'))) xc tc∧TrAt (upd H3 l (.lst ([a,b,c,d].set e v'))) xd td ∧
        (ta.deep≤60∧tb.deep≤60∧tc.deep≤60∧td.deep≤60)∧put4 t e (plant (qk t e) (dig (rst z)) (.col i))=gath ta tb tc td:=by
      rcases e with _ | _ | _ | _ | e
      · exact ⟨_,_,_,_,_,_,_,_,rfl,kv,kb.up t23,kc.up t23,kd.up t23,⟨dq,d1,d2,d3⟩,rfl⟩
      · exact ⟨_,_,_,_,_,_,_,_,rfl,ka.up t23,kv,kc.up t23,kd.up t23,⟨d0,dq,d2,d3⟩,rfl⟩
      · exact ⟨_,_,_,_,_,_,_,_,rfl,ka.up t23,kb.up t23,kv,kd.up t23,⟨d0,d1,dq,d3⟩,rfl⟩
      · exact ⟨_,_,_,_,_,_,_,_,rfl,ka.up t23,kb.up t23,kc.up t23,kv,⟨d0,d1,d2,dq⟩,rfl⟩
      · omega
    obtain ⟨xa,xb,xc,xd,ta,tb,tc,td,el,ja,jb,jc,jd,⟨da,db,dc,dd⟩,eg⟩:=four4
    rw [eg] at q'
    rw [el] at u4 sf ja jb jc jd ⊢
    generalize upd H3 l (.lst [xa,xb,xc,xd])=H4 at *
    cases hta:ta.isCol with
    | false =>
      have hg:gath ta tb tc td=.four ta tb tc td:=by
        unfold gath
        rw [if_neg (fun z=>by have:=(oneB_iff.mp z).1; rw [hta] at this; cases this)]
      have ty:=ja.ty (K:=K)
      rw [hta] at ty
      refine ⟨_,rfl,l,_,_,xa,rfl,rfl,SqL.of u4,rfl,_,_,_,rfl,ty,kit_tt,_,rfl,iteF (iteF ?_)⟩
      refine ⟨_,rfl,l,_,_,_,rfl,rfl,SqL.of u4,rfl,_,rfl,l,_,_,_,rfl,rfl,SqL.of u4,rfl,_,rfl,l,_,_,_,rfl,rfl,SqL.of u4,rfl,_,rfl,l,_,_,_,rfl,rfl,SqL.of u4,rfl,(by show 4≤sizeLine; decide),fun pp hpp=>q' _ _ (sf.trans (Same.new hpp _)) ?_⟩
      rw [hg]
      have sn:=(Same.new hpp (.tup [xa,xb,xc,xd])).tups
      exact .four upd_same (ja.up sn) (jb.up sn) (jc.up sn) (jd.up sn)
    | true =>
      have ty:=ja.ty (K:=K)
      rw [hta] at ty
      refine ⟨_,rfl,l,_,_,xa,rfl,rfl,SqL.of u4,rfl,_,_,_,rfl,ty,kit_it,_,rfl,iteT ?_⟩
      refine ⟨_,rfl,_,rfl,l,_,_,xa,rfl,rfl,SqL.of u4,rfl,(by show 1≤sizeLine; decide),fun m hm => ?_⟩
      refine ⟨m,4,_,rfl,rfl,upd_same,by decide,by decide,(by show 4≤sizeLine; decide),fun m2 hm2 => ?_⟩
      have er:(List.replicate (4:Int).toNat [xa]).flatten=[xa,xa,xa,xa]:=rfl
      rw [er]
      have sy:=(Same.new hm (.lst [xa])).trans (Same.new hm2 (.lst [xa,xa,xa,xa]))
      have um:upd (upd H4 m (.lst [xa])) m2 (.lst [xa,xa,xa,xa]) m2=some (.lst [xa,xa,xa,xa]):=upd_same
      generalize upd (upd H4 m (.lst [xa])) m2 (.lst [xa,xa,xa,xa])=H5 at *
      have u5:=sy _ _ u4
      have la:=ja.up sy.tups
      have lb:=jb.up sy.tups
      have lc:=jc.up sy.tups
      have ld:=jd.up sy.tups
      refine ⟨_,_,.lst u5 (.cons la.dat (.cons lb.dat (.cons lc.dat (.cons ld.dat .nil)))),.lst um (.cons la.dat (.cons la.dat (.cons la.dat (.cons la.dat .nil)))),shaped4 da db dc dd,shaped4 da da da da,_,rfl,ite2 (fun z => ?_) (fun z => ?_)⟩
      · have z':PyData.eqv (.list [ta.data,tb.data,tc.data,td.data]) (.list [ta.data,ta.data,ta.data,ta.data])=true:=z
        rw [eqv4] at z'
        obtain ⟨h1,h2,h3,h4⟩:=of_decide_eq_true z'
        have hg:gath ta tb tc td=ta:=by
          unfold gath
          rw [if_pos (oneB_iff.mpr ⟨hta,h2,h3,h4⟩)]
        refine ⟨_,rfl,l,_,_,_,rfl,rfl,SqL.of u5,rfl,q' _ _ (sf.trans sy) ?_⟩
        rw [hg]; exact la
      · have z':¬ PyData.eqv (.list [ta.data,tb.data,tc.data,td.data]) (.list [ta.data,ta.data,ta.data,ta.data])=true:=z
        rw [eqv4] at z'
        have hg:gath ta tb tc td=.four ta tb tc td:=by
          unfold gath
          rw [if_neg (fun y=>by obtain ⟨_,h2,h3,h4⟩:=oneB_iff.mp y; exact z' (decide_eq_true ⟨rfl,h2,h3,h4⟩))]
        refine ⟨_,rfl,l,_,_,_,rfl,rfl,SqL.of u5,rfl,_,rfl,l,_,_,_,rfl,rfl,SqL.of u5,rfl,_,rfl,l,_,_,_,rfl,rfl,SqL.of u5,rfl,_,rfl,l,_,_,_,rfl,rfl,SqL.of u5,rfl,(by show 4≤sizeLine; decide),fun pp hpp=>q' _ _ (sf.trans (sy.trans (Same.new hpp _))) ?_⟩
        rw [hg]
        have sn:=(Same.new hpp (.tup [xa,xb,xc,xd])).tups
        exact .four upd_same (la.up sn) (lb.up sn) (lc.up sn) (ld.up sn)
end
end Qs


namespace Qs
open PySem L2
section
variable {P:Program} {w:World} {K:PySem.W.Frag} {mg:Str→Option Value} {base:Heap} {CX:CXT} {f:Addr} {fd:FuncData}
abbrev s_law_tree_by:Stmt:=top 37
theorem sc_law_tree_by:FnScope ["_law_script","_law_first","_law_level","_law_many","_law_tree","_law_last","_law_k","_law_cell","_law_code","_law_same"] ["_law_script","_law_first","_law_level","_law_many"] (defScope s_law_tree_by):=⟨rfl,rfl,rfl,by decide +kernel,rfl,by decide +kernel,by decide +kernel⟩
def sp_law_tree_by (K:PySem.W.Frag):Sp:=fun vs H Q _=>∃ (a:Addr) (ns:List Int) (first level many:Nat),vs=[.ref a,.int first,.int level,.int many]∧SqL K H a (ns.map V.int)∧ns.length≤63∧first≤1000∧level≤40∧many≤12 ∧
  ∀ v t H',Same H H'→TrAt H' v t→Good level t→cnt t≤1453→Q v H'
theorem ok_law_tree_by (T:Tx K mg) (q:Quiet CX) (F:FunD K "_law_tree_by" "_law_tree_by" s_law_tree_by f fd .none) (C__law_at:Fok P w K mg base CX 1 "_law_at" ["_law_script","_law_k"] [] (sp_law_at K)) (C__law_mix:Fok P w K mg base CX 1 "_law_mix" ["_law_cell","_law_k"] [] sp_law_mix)
    (C__law_code_by:Fok P w K mg base CX 2 "_law_code_by" ["_law_cell","_law_k","_law_most"] [] sp_law_code_by) (C__law_colour_by:Fok P w K mg base CX 2 "_law_colour_by" ["_law_script","_law_cell","_law_k"] [] (sp_law_colour_by K)) (C__law_painted:Fok P w K mg base CX 42 "_law_painted" ["_law_tree","_law_code","_law_colour"] [] (sp_law_painted 40)):FnOk P w K mg base CX 43 f fd ["_law_script","_law_first","_law_level","_law_many"] (sp_law_tree_by K):=by
  refine F.ok sc_law_tree_by (fun vs H Q E h => ?_) (fun cdv A outer s H vs Q E hr h => ?_)
  · obtain ⟨_,_,_,_,_,rfl,_⟩:=h
    rfl
  obtain ⟨a,ns,first,level,many,rfl,hS,h63,hf,hlv,hmany,q'⟩:=h
  refine ⟨_,(pss_cons (ps_set (i:=4) sc_law_tree_by.nd rfl (Or.inl rfl) (pe_callF C__law_colour_by q hr (pa_cons (pv 0) (pa_cons (pe_callF C__law_at q hr (pa_cons (pv 0) (pa_cons (pv 1) pa_nil))) (pa_cons pe_int pa_nil))))) (pss_cons (ps_set (i:=5) sc_law_tree_by.nd rfl (Or.inl rfl) (pe_callF C__law_code_by q hr (pa_cons (pe_callF C__law_at q hr (pa_cons (pv 0) (pa_cons pe_int pa_nil))) (pa_cons pe_int (pa_cons (pv 2) pa_nil))))) (pss_cons (ps_cut (ps_if (pt_cmpR op_gt (pv 2) pe_int (nomark _)) (pss_one (ps_set (i:=3) sc_law_tree_by.nd rfl (Or.inl rfl) (pe_callB (call_min2 rfl) rfl T.b_min bb_min (pa_cons (pv 3) (pa_cons (pe_op op_sub pe_int (pe_callTy call_int1 rfl T.b_int bt_int (pa_cons (pe_cmpR op_gt (pv 2) pe_int (nomark _)) pa_nil))) pa_nil))))) pss_nil)) (pss_cons (ps_for PassesOwn.never rfl (pi_range1 rfl T.b_range (pa_cons (pv 3) pa_nil)) (pg_name (i:=6) sc_law_tree_by.nd rfl (Or.inl rfl)) (pss_cons (ps_set (i:=7) sc_law_tree_by.nd rfl (Or.inl rfl) (pe_callF C__law_at q hr (pa_cons (pv 0) (pa_cons (pe_op op_add (pv 1) (pv 6)) pa_nil)))) (pss_cons (ps_set (i:=8) sc_law_tree_by.nd rfl (Or.inl rfl) (pe_callF C__law_code_by q hr (pa_cons (pv 7) (pa_cons (pe_op op_mul pe_int (pv 6)) (pa_cons (pv 2) pa_nil))))) (pss_cons (ps_cut (ps_if (pt_cmpR op_eq (pe_op op_mod (pe_callF C__law_mix q hr (pa_cons (pv 7) (pa_cons (pe_op op_add (pe_op op_mul pe_int (pv 6)) pe_int) pa_nil))) pe_int) pe_int (nomark _)) (pss_cons (ps_set (i:=9) sc_law_tree_by.nd rfl (Or.inl rfl) (pe_slice sl_str (pv 5) po_none (po_some (pe_op op_fdivW (pe_op op_mul (pe_callB call_len rfl T.b_len bb_len (pa_cons (pv 8) pa_nil)) pe_int) pe_int)))) (pss_one (ps_set (i:=8) sc_law_tree_by.nd rfl (Or.inl rfl) (pe_op op_add_str (pv 9) (pe_slice sl_str (pv 8) (po_some (pe_callB call_len rfl T.b_len bb_len (pa_cons (pv 9) pa_nil))) po_none))))) pss_nil)) (pss_cons (ps_set (i:=4) sc_law_tree_by.nd rfl (Or.inl rfl) (pe_callF C__law_painted q hr (pa_cons (pv 4) (pa_cons (pv 8) (pa_cons (pe_callF C__law_colour_by q hr (pa_cons (pv 0) (pa_cons (pv 7) (pa_cons (pe_op op_add (pe_op op_mul pe_int (pv 6)) pe_int) pa_nil)))) pa_nil))))) (pss_one (ps_set (i:=5) sc_law_tree_by.nd rfl (Or.inl rfl) (pv 8)))))))) (pss_one (ps_ret (pv 4))))))),?_⟩
  refine ⟨_,rfl,_,rfl,_,rfl,a,ns,first,rfl,hS,h63,a,ns,cell ns first,7,rfl,hS,h63,by omega,fun i0 h0 h1 => ?_⟩
  refine ⟨_,rfl,a,ns,4,rfl,hS,h63,_,rfl,cell ns 4,0,level,rfl,by omega,hlv,fun zl hzl llz => ?_⟩
  refine ⟨fun σ H2=>H2=H∧∃ mm:Nat,mm≤12∧σ=[some (.ref a),some (.int first),some (.int level),some (.int (mm:Int)),some (.int i0),some (.str zl),none,none,none,none],?_,?_⟩
  · refine ⟨_,rfl,_,_,rfl,rfl,_,rfl,ite2 (fun c => ?_) (fun c=>⟨rfl,many,hmany,rfl⟩)⟩
    obtain ⟨mm,hmm,em⟩:∃ mm:Nat,mm≤12∧(if (3 - if decide ((level:Int) > 12)=true then (1:Int) else 0) < (many:Int) then (3 - if decide ((level:Int) > 12)=true then (1:Int) else 0) else (many:Int))=(mm:Int):=by
      by_cases h1:(level:Int) > 12
      · rw [decide_eq_true h1]
        refine ⟨min 2 many,by omega,?_⟩
        simp only [if_true]
        split <;> omega
      · rw [decide_eq_false h1]
        refine ⟨min 3 many,by omega,?_⟩
        simp only [Bool.false_eq_true,if_false]
        split <;> omega
    exact ⟨_,rfl,_,rfl,_,_,rfl,rfl,.inr ⟨_,rfl,_,_,rfl,rfl,_,_,rfl,rfl,mm,hmm,by rw [← em]; rfl⟩⟩
  rintro σ H2 ⟨rfl,mm,hmm,rfl⟩
  refine ⟨_,rfl,_,rfl,by omega,by omega,for_range (fun j σ H3=>Same H2 H3∧∃ (v:V) (t:Tr) (z:Str) (o6 o7 o8 o9:Option V),TrAt H3 v t∧Good level t∧cnt t≤1 + 121 * j∧IsC z∧z.length≤level ∧
      σ=[some (.ref a),some (.int first),some (.int level),some (.int (mm:Int)),some v,some (.str z),o6,o7,o8,o9]) ⟨Same.refl H2,.int i0,.col i0,zl,none,none,none,none,.col i0,Good.col ⟨h0,h1⟩,by show 1≤1 + 121 * 0; omega,hzl,llz,rfl⟩ ?_ ?_⟩
  · rintro j σ H3 hj ⟨s2,v,t,z,o6,o7,o8,o9,ht,gt,ct,hz,lz,rfl⟩
    have hj':j < mm:=by omega
    have hS2:=s2.seq hS
    have e0:(0:Int) + (j:Int)=(j:Int):=Int.zero_add _
    rw [e0]
    refine ⟨_,rfl,_,rfl,_,rfl,_,_,rfl,rfl,a,ns,first + j,rfl,hS2,h63,?_⟩
    refine ⟨_,rfl,_,rfl,_,_,rfl,rfl,.inl ⟨by decide,by decide⟩,_,rfl,cell ns (first + j),10 * j,level,rfl,by omega,hlv,fun z2 hz2 lz2 => ?_⟩
    refine ⟨fun σ H4=>H4=H3∧∃ (z3:Str) (o9:Option V),IsC z3∧z3.length≤level∧σ=[some (.ref a),some (.int first),some (.int level),some (.int (mm:Int)),some v,some (.str z),some (.int (j:Int)),some (.int (cell ns (first + j))),some (.str z3),o9],?_,?_⟩
    · refine ⟨_,rfl,_,rfl,_,_,rfl,rfl,.inl ⟨by decide,by decide⟩,_,_,rfl,rfl,cell ns (first + j),10 * j + 9,rfl,by omega,fun m hm=>⟨_,_,rfl,rfl,(by show (0:Int) < 2; decide),rfl,_,rfl,ite2 (fun c2 => ?_) (fun c2=>⟨rfl,z2,_,hz2,lz2,rfl⟩)⟩⟩
      refine ⟨_,rfl,_,rfl,_,_,rfl,⟨small (by omega),rfl⟩,_,_,rfl,rfl,.inr ⟨by decide,by decide⟩,_,_,rfl,rfl,cdivW (by decide) (by decide),_,rfl,z,rfl,small (by omega),?_⟩
      have ek:(z2.length:Int) * 3 / 4=((z2.length * 3 / 4:Nat):Int):=by omega
      have es:Txt.slice z none (some ((z2.length:Int) * 3 / 4))=pre z (z2.length * 3 / 4):=by rw [ek,slice_pre]
      have lp:=pre_len z (z2.length * 3 / 4)
      have lp2:(pre z (z2.length * 3 / 4)).length≤z2.length:=by omega
      have hp:=pre_isC hz (z2.length * 3 / 4)
      dsimp only
      rw [es]
      generalize pre z (z2.length * 3 / 4)=zp at *
      have ls:=suf_len z2 zp.length
      refine ⟨_,rfl,_,rfl,_,rfl,_,_,rfl,⟨small (by omega),rfl⟩,_,rfl,z2,rfl,small (by omega),?_⟩
      rw [slice_suf lp2]
      exact ⟨_,_,rfl,rfl,small (by omega),rfl,zp++suf z2 zp.length,_,IsC.app hp (suf_isC hz2 zp.length),by rw [app_len]; omega,rfl⟩
    rintro σ H4 ⟨rfl,z3,o9,hz3,lz3,rfl⟩
    refine ⟨_,rfl,_,rfl,_,rfl,_,rfl,_,rfl,_,_,rfl,rfl,.inl ⟨by decide,by decide⟩,_,_,rfl,rfl,a,ns,cell ns (first + j),10 * j + 8,rfl,hS2,h63,by omega,fun i hi0 hi1 => ?_⟩
    refine ⟨v,i,t,z3,rfl,ht,hz3,by omega,by decide,by have:=gt.deep; omega,fun v' H5 s3 hv' => ?_⟩
    have l3:(dig z3).length≤level:=by rw [dig_len]; exact lz3
    have c3:=cnt_plant (dig z3) t (.col i) (dig_lt hz3)
    have c1:cnt (.col i)=1:=rfl
    exact ⟨_,rfl,s2.trans s3,v',plant t (dig z3) (.col i),z3,_,_,_,_,hv',good_plant l3 gt (Good.col ⟨hi0,hi1⟩),by omega,hz3,lz3,rfl⟩
  · rintro σ H3 ⟨s2,v,t,z,o6,o7,o8,o9,ht,gt,ct,hz,lz,rfl⟩
    exact ⟨_,rfl,q' v t H3 s2 ht gt (by omega)⟩

end
end Qs
namespace Qs
open PySem L2
theorem iteDT {c A B:Prop} [Decidable c] (hc:c) (h:A):if decide c=true then A else B:=by rw [if_pos (decide_eq_true hc)]; exact h
section
variable {P:Program} {w:World} {K:PySem.W.Frag} {mg:Str→Option Value} {base:Heap} {CX:CXT} {f:Addr} {fd:FuncData}
abbrev s_law_quarter:Stmt:=top 38
theorem sc_law_quarter:FnScope ["_law_tree","_law_k"] ["_law_tree","_law_k"] (defScope s_law_quarter):=⟨rfl,rfl,rfl,by decide +kernel,rfl,by decide +kernel,by decide +kernel⟩
def sp_law_quarter:Sp:=fun vs H Q _=>∃ (v:V) (t:Tr) (k:Nat),vs=[v,.int k]∧k < 4∧TrAt H v t∧∀ v',TrAt H v' (qk t k)→Q v' H
theorem ok_law_quarter (T:Tx K mg) (F:FunD K "_law_quarter" "_law_quarter" s_law_quarter f fd .none):FnOk P w K mg base CX 1 f fd ["_law_tree","_law_k"] sp_law_quarter:=by
  refine F.ok sc_law_quarter (fun vs H Q E h => ?_) (fun cdv A outer s H vs Q E hr h => ?_)
  · obtain ⟨_,_,_,rfl,_⟩:=h
    rfl
  obtain ⟨v,t,k,rfl,hk,ht,q'⟩:=h
  refine ⟨_,(pss_cons (ps_if (pt_val (pe_callB (call_isiT "tuple") rfl T.b_isinstance bb_isinstance (pa_cons (pv 0) (pa_cons (pe_bty T.b_tuple bt_tuple) pa_nil)))) (pss_one (ps_ret (pe_ix ix_tup (pv 0) (pv 1) (fun _ _=>rfl)))) pss_nil) (pss_one (ps_ret (pv 0)))),?_⟩
  cases ht with
  | @four p a b c d ta tb tc td e ka kb kc kd =>
    have key:∃ x,atI [a,b,c,d] (k:Int)=some x∧TrAt H x (qk (.four ta tb tc td) k):=by
      rcases k with _ | _ | _ | _ | k
      · exact ⟨a,rfl,ka⟩
      · exact ⟨b,rfl,kb⟩
      · exact ⟨c,rfl,kc⟩
      · exact ⟨d,rfl,kd⟩
      · omega
    obtain ⟨x,ex,kx⟩:=key
    exact ⟨_,rfl,_,_,_,rfl,.tup e,kit_tt,_,rfl,iteT ⟨_,rfl,_,rfl,p,_,_,x,rfl,rfl,SqT.of e,ex,q' x kx⟩⟩
  | col i =>
    have z:qk (Tr.col i) k=.col i:=by rcases k with _ | _ | _ | k <;> rfl
    exact ⟨_,rfl,_,_,_,rfl,.int i,kit_it,_,rfl,iteF ⟨_,rfl,q' _ (by rw [z]; exact .col i)⟩⟩
end
end Qs


namespace Qs
open PySem L2

def Rul (H:Hp) (v:V) (g:List Int→Int) (len:Nat):Prop:=(∃ (d:Addr) (kvs:List (Key × V)),v=.ref d∧H d=some (.dK kvs)∧Cols kvs∧g=gTab key1 kvs∧len=1)∨∃ (d:Addr) (kvs:List (List Key × V)),v=.ref d∧H d=some (.dT kvs)∧Cols kvs∧g=gTab key2 kvs∧len=2
theorem Rul.up {H H':Hp} {v:V} {g:List Int→Int} {len:Nat} (h:Rul H v g len) (s:Same H H'):Rul H' v g len:=by
  rcases h with ⟨d,kvs,rfl,h,r⟩ | ⟨d,kvs,rfl,h,r⟩
  · exact .inl ⟨d,kvs,rfl,s _ _ h,r⟩
  · exact .inr ⟨d,kvs,rfl,s _ _ h,r⟩
section
variable {P:Program} {w:World} {K:PySem.W.Frag} {mg:Str→Option Value} {base:Heap} {CX:CXT} {f:Addr} {fd:FuncData}
abbrev s_law_due:Stmt:=top 43
theorem sc_law_due:FnScope ["_law_rule","_law_colours"] ["_law_rule","_law_colours"] (defScope s_law_due):=⟨rfl,rfl,rfl,by decide +kernel,rfl,by decide +kernel,by decide +kernel⟩
def sp_law_due:Sp:=fun vs H Q _=>∃ (vr:V) (l:Addr) (is:List Int) (g:List Int→Int),vs=[vr,.ref l]∧Rul H vr g is.length∧H l=some (.lst (is.map V.int))∧∀ H',Same H H'→Q (.int (g is)) H'
theorem ok_law_due (T:Tx K mg) (F:FunD K "_law_due" "_law_due" s_law_due f fd .none):FnOk P w K mg base CX 1 f fd ["_law_rule","_law_colours"] sp_law_due:=by
  refine F.ok sc_law_due (fun vs H Q E h => ?_) (fun cdv A outer s H vs Q E hr h => ?_)
  · obtain ⟨_,_,_,_,rfl,_⟩:=h
    rfl
  obtain ⟨vr,l,is,g,rfl,hR,hl,q'⟩:=h
  refine ⟨_,(pss_cons (ps_if (pt_cmpR op_eq (pe_callB call_len rfl T.b_len bb_len (pa_cons (pv 1) pa_nil)) pe_int (nomark _)) (pss_one (ps_ret (pe_dget2 hr.dic (pv 0) (pe_ix ix_list (pv 1) pe_int (fun _ _=>rfl)) (pe_ix ix_list (pv 1) pe_int (fun _ _=>rfl)) ⟨rfl,rfl,rfl,rfl⟩))) pss_nil) (pss_one (ps_ret (pe_dget2 hr.dic (pv 0) (pe_tupx (pax_c (pe_ix ix_list (pv 1) pe_int (fun _ _=>rfl)) (pax_c (pe_ix ix_list (pv 1) pe_int (fun _ _=>rfl)) pax_nil))) (pe_ix ix_list (pv 1) pe_int (fun _ _=>rfl)) ⟨rfl,rfl,rfl,rfl⟩)))),?_⟩
  rcases hR with ⟨d,kvs,rfl,hd,hk,rfl,hlen⟩ | ⟨d,kvs,rfl,hd,hk,rfl,hlen⟩
  · match is,hlen,hl,q' with
    | [i],_,hl,q' =>
      have hl':H l=some (.lst [.int i]):=hl
      have q2:=q' H (Same.refl H)
      refine ⟨_,rfl,_,_,rfl,.inl ⟨_,SqL.of hl',rfl⟩,rfl,_,rfl,iteDT rfl ?_⟩
      refine ⟨_,rfl,d,rfl,.inl ⟨_,.inl hd⟩,_,rfl,l,_,_,_,rfl,rfl,SqL.of hl',rfl,_,rfl,l,_,_,_,rfl,rfl,SqL.of hl',rfl,_,DGet.k (k:=Sum.inl i) hd,?_⟩
      have z:=get_tab key1 hk [i]
      have z':(valV kvs (Sum.inl i)).getD (.int i)=.int (gTab key1 kvs [i]):=z
      rw [z']; exact q2
  · match is,hlen,hl,q' with
    | [i,j],_,hl,q' =>
      have hl':H l=some (.lst [.int i,.int j]):=hl
      refine ⟨_,rfl,_,_,rfl,.inl ⟨_,SqL.of hl',rfl⟩,rfl,_,rfl,ite2 (fun c=>absurd (V.int.inj (of_decide_eq_true c)) (by show ¬ ((2:Nat):Int)=1; decide)) (fun _ => ?_)⟩
      refine ⟨_,rfl,d,rfl,.inr ⟨_,.inl hd⟩,_,rfl,l,_,_,_,rfl,rfl,SqL.of hl',rfl,_,rfl,l,_,_,_,rfl,rfl,SqL.of hl',rfl,(by show 2≤sizeLine; decide),fun p hp => ?_⟩
      have s1:=Same.new hp (.tup [.int i,.int j])
      have u1:upd H p (.tup [.int i,.int j]) p=some (.tup [.int i,.int j]):=upd_same
      generalize upd H p (.tup [.int i,.int j])=H1 at *
      have q2:=q' H1 s1
      refine ⟨_,rfl,l,_,_,_,rfl,rfl,SqL.of (s1 _ _ hl'),rfl,_,DGet.t (k:=[Sum.inl i,Sum.inl j]) (s1 _ _ hd) u1,?_⟩
      have z:=get_tab key2 hk [i,j]
      have z':(valV kvs [Sum.inl i,Sum.inl j]).getD (.int i)=.int (gTab key2 kvs [i,j]):=z
      rw [z']; exact q2
end
end Qs
namespace Qs
open PySem L2
theorem in_cols (ts:List Tr):inV (.bl true) (ts.map fun t=>V.bl (!t.isCol)) = !allCol ts:=by
  rw [← any_cols]
  unfold inV
  rw [List.any_map,List.any_map]
  congr 1
  funext t
  show ((!t.isCol) == true)=(!t.isCol)
  simp
section
variable {P:Program} {w:World} {K:PySem.W.Frag} {mg:Str→Option Value} {base:Heap} {CX:CXT} {f:Addr} {fd:FuncData}
abbrev s_law_agrees:Stmt:=top 39
theorem sc_law_agrees:FnScope ["_law_found","_law_trees","_law_rule","_law_k"] ["_law_found","_law_trees","_law_rule"] (defScope s_law_agrees):=⟨rfl,rfl,rfl,by decide +kernel,rfl,by decide +kernel,by decide +kernel⟩
def sp_law_agrees (m:Nat):Sp:=fun vs H Q _=>∃ (n:Nat) (vf:V) (l:Addr) (xs:List V) (ts:List Tr) (vr:V) (g:List Int→Int),vs=[vf,.ref l,vr]∧n < m∧TrAt H vf (blend g n ts)∧H l=some (.lst xs)∧TrsAt H xs ts∧xs.length≤3∧(∀ t∈ts,t.deep≤n)∧n≤40∧Rul H vr g xs.length ∧
  ∀ H',Same H H'→Q (.bl true) H'
theorem ok_law_agrees (T:Tx K mg) (q:Quiet CX) (F:FunD K "_law_agrees" "_law_agrees" s_law_agrees f fd .none) (C__law_due:Fok P w K mg base CX 1 "_law_due" ["_law_rule","_law_colours"] [] sp_law_due) (C__law_quarter:Fok P w K mg base CX 1 "_law_quarter" ["_law_tree","_law_k"] [] sp_law_quarter)
    (b:Binds K fd ["_law_found","_law_trees","_law_rule"] []) (m:mg "_law_agrees" = some (.ref f)):∀ n,FnOk P w K mg base CX (2 + n) f fd ["_law_found","_law_trees","_law_rule"] (sp_law_agrees n)
  | 0=>⟨fun vs H Q E h=>by obtain ⟨n,_,_,_,_,_,_,_,h,_⟩:=h; exact absurd h (Nat.not_lt_zero _),fun A outer s H args us vs Q E _ _ _ _ h=>by obtain ⟨n,_,_,_,_,_,_,_,h,_⟩:=h; exact absurd h (Nat.not_lt_zero _)⟩
  | n + 1=>by
    have C__law_agrees:Fok P w K mg base CX (2 + n) "_law_agrees" ["_law_found","_law_trees","_law_rule"] [] (sp_law_agrees n):=fok F (ok_law_agrees T q F C__law_due C__law_quarter b m n) b m
    refine F.ok sc_law_agrees (fun vs H Q E h => ?_) (fun cdv A outer s H vs Q E hr h => ?_)
    · obtain ⟨_,_,_,_,_,_,_,rfl,_⟩:=h
      rfl
    obtain ⟨d,vf,l,xs,ts,vr,g,rfl,hdn,hvf,hl,hts,hlen,hdp,h40,hR,q'⟩:=h
    refine ⟨_,(pss_cons (ps_cut (ps_if (PW.pt (pw_and (pt_not (pt_val (pe_callB (call_isiT "tuple") rfl T.b_isinstance bb_isinstance (pa_cons (pv 0) (pa_cons (pe_bty T.b_tuple bt_tuple) pa_nil))))) (pw_and1 (pt_cmpR op_notIn_seq pe_bl (pe_compC (N':=["_law_tree"]) [] [] [] 1 (by with_unfolding_all rfl) rfl capsOk_nil rfl rfl (by decide) rfl (by decide +kernel) rfl (by decide +kernel) rfl (pi_list (pv 1)) (fun C s0 H0 fp pins=>(pg_name (i:=0) (show (["_law_tree"]:List Str).Nodup by decide +kernel) rfl (Or.inl rfl) (Or.inr rfl))) (fun C s0 H0 fp pins=>(pe_callB (call_isiTK (K:=K) "tuple") rfl T.b_isinstance bb_isinstance (pa_cons (pv 0) (pa_cons (pe_bty T.b_tuple bt_tuple) pa_nil))))) (by with_unfolding_all rfl))))) (pss_one (ps_ret (pe_cmpR (op_eqD hr) (pv 0) (pe_callF C__law_due q hr (pa_cons (pv 2) (pa_cons (pv 1) pa_nil)) (hj:=by first | decide | omega | (simp only [Nat.add_eq]; omega))) (nomark _)))) pss_nil)) (pss_cons (ps_for PassesOwn.never rfl (pi_range1 rfl T.b_range (pa_cons pe_int pa_nil)) (pg_name (i:=3) sc_law_agrees.nd rfl (Or.inr rfl)) (pss_one (ps_if (pt_not (pt_val (pe_callF C__law_agrees q hr (pa_cons (pe_callF C__law_quarter q hr (pa_cons (pv 0) (pa_cons (pv 3) pa_nil)) (hj:=by first | decide | omega | (simp only [Nat.add_eq]; omega))) (pa_cons (pe_compC (N':=["_law_tree","_law_k"]) ["_law_k"] ["_law_k"] [3] 1 (by with_unfolding_all rfl) rfl (capsOk_cons rfl rfl (by decide) capsOk_nil) rfl rfl (by decide) rfl (by decide +kernel) rfl (by decide +kernel) rfl (pi_list (pv 1)) (fun C s0 H0 fp pins=>(pg_name (i:=0) (show (["_law_tree","_law_k"]:List Str).Nodup by decide +kernel) rfl (Or.inl rfl) (Or.inr rfl))) (fun C s0 H0 fp pins=>(pe_callF C__law_quarter q hr (pa_cons (pv 0) (pa_cons (pv 1) pa_nil)) (hj:=by first | decide | omega | (simp only [Nat.add_eq]; omega))))) (pa_cons (pv 2) pa_nil))) (hj:=by first | decide | omega | (simp only [Nat.add_eq]; omega))))) (pss_one (ps_ret pe_bl)) pss_nil))) (pss_one (ps_ret pe_bl)))),?_⟩
    have lx:xs.length≤sizeLine:=small (by omega)
    refine ⟨fun σ H1=>Same H H1∧allCol ts=false∧σ=[some vf,some (.ref l),some vr,none],?_,?_⟩
    · refine ⟨_,rfl,_,_,_,rfl,hvf.ty (K:=K),kit_tr _,_,rfl,?_⟩
      cases hcf:(blend g d ts).isCol with
      | false =>
        refine iteF (iteF ⟨Same.refl H,?_,rfl⟩)
        cases hac:allCol ts with
        | false=>rfl
        | true=>rw [blend_col hac] at hcf; cases hcf
      | true =>
        refine iteT ?_
        refine ⟨[],rfl,_,rfl,l,rfl,⟨_,SqL.of hl⟩,compC_list xs (fun D j ys H'=>Same H H'∧H' D=some (.lst ys)∧j≤xs.length∧ys=(ts.take j).map (fun t=>V.bl (!t.isCol))) lx (fun D j ys H' h=>SqL.of (h.1 _ _ hl))
          (fun D j ys H' h=>⟨h.2.1,by rw [h.2.2.2]; simp; omega⟩) (fun D hD=>⟨Same.new hD _,upd_same,Nat.zero_le _,rfl⟩) ?_ ?_ (fun _ _ _ _ _ k h=>k _ _ h) ?_⟩
        · rintro D j x ys H' hx hD ⟨s1,s2,s3,s4⟩
          obtain ⟨t,et,kt⟩:=hts.get hx
          refine ⟨rfl,_,rfl,_,_,_,rfl,(kt.up s1.tups).ty (K:=K),kit_tr t,s2,Same.set s1 hD _,upd_same,(List.getElem?_eq_some_iff.mp hx).1,?_⟩
          rw [List.take_add_one,et,s4,List.map_append]; rfl
        · rintro D ys H1 hD ⟨s1,s2,s3,s4⟩
          rw [hts.1,List.take_length] at s4
          refine ⟨D,ys,rfl,.inl (SqL.of s2),rfl,?_,_,rfl,?_⟩
          · rw [s4,List.all_map]; exact List.all_eq_true.mpr fun _ _=>rfl
          rw [s4]
          show if (!inV (.bl true) (ts.map fun t=>V.bl (!t.isCol)))=true then _ else _
          rw [in_cols]
          cases hac:allCol ts with
          | false=>exact iteF ⟨s1,rfl,rfl⟩
          | true =>
            refine iteT ?_
            have hl1:=s1 _ _ hl
            rw [hts.ints hac] at hl1
            refine ⟨_,rfl,_,rfl,_,rfl,vr,l,ts.map colv,g,rfl,?_,hl1,fun H2 s2 => ?_⟩
            · rw [List.length_map,← hts.1]; exact hR.up s1
            have k2:=(hvf.up s1.tups).up s2.tups
            rw [blend_col hac] at k2
            refine ⟨_,_,k2.dat,.int _,Tr.shaped (Nat.zero_le _),Tr.shaped (t:=.col _) (Nat.zero_le _),?_⟩
            have ev:PyData.eqv (Tr.col (g (ts.map colv))).data (.int (g (ts.map colv)))=true:=by
              rw [show PyData.int (g (ts.map colv))=(Tr.col (g (ts.map colv))).data from rfl,Tr.eqv]; simp
            rw [ev]
            exact q' H2 (s1.trans s2)
        · intro σ H' R R' k h
          obtain ⟨x1,e1,a1,a2,a3,p1,p2,p3,h⟩:=h
          exact ⟨x1,e1,a1,a2,a3,p1,p2,p3,k _ _ h⟩
    · rintro σ H1 ⟨s1,hac,rfl⟩
      rcases d with _ | d
      · rw [allCol_zero hdp] at hac; cases hac
      refine ⟨_,rfl,by decide,by decide,for_range (fun j σ H2=>Same H H2∧∃ (o3:Option V),σ=[some vf,some (.ref l),some vr,o3]) ⟨s1,none,rfl⟩ ?_ ?_⟩
      · rintro j σ H2 hj ⟨sm2,o3,rfl⟩
        have hj4:j < 4:=hj
        have e0:(0:Int) + (j:Int)=(j:Int):=Int.zero_add _
        rw [e0]
        have hl2:=sm2 _ _ hl
        have hts2:=hts.up sm2.tups
        refine ⟨_,rfl,_,rfl,vf,_,j,rfl,hj4,hvf.up sm2.tups,fun v' hv' => ?_⟩
        rw [blend_q hac hj4] at hv'
        refine ⟨[.int j],rfl,_,rfl,l,rfl,⟨_,SqL.of hl2⟩,compC_list xs (fun D i zs H'=>Same H2 H'∧H' D=some (.lst zs)∧i≤xs.length∧TrsAt H' zs ((ts.take i).map (qk · j))) lx (fun D i zs H' h=>SqL.of (h.1 _ _ hl2))
            (fun D i zs H' h=>⟨h.2.1,by rw [h.2.2.2.1]; simp; omega⟩) (fun D hD=>⟨Same.new hD _,upd_same,Nat.zero_le _,TrsAt.nil _⟩) ?_ ?_ (fun _ _ _ _ _ k h=>k _ _ h) ?_⟩
        · rintro D2 i x zs H3 hx hD2 ⟨c1,c2,c3,c4⟩
          obtain ⟨t,et,kt⟩:=hts2.get hx
          refine ⟨rfl,_,rfl,_,rfl,x,t,j,rfl,hj4,kt.up c1.tups,fun y ky=>⟨c2,Same.set c1 hD2 _,upd_same,(List.getElem?_eq_some_iff.mp hx).1,?_⟩⟩
          have tz:=Tups.lst (ys:=zs++[y]) c2
          rw [List.take_add_one,et,List.map_append]
          exact (c4.up tz).snoc (ky.up tz)
        · rintro D2 zs H3 hD2 ⟨c1,c2,c3,c4⟩
          rw [hts.1,List.take_length] at c4
          have s3:=sm2.trans c1
          have lz:zs.length=xs.length:=by rw [c4.1,List.length_map,← hts.1]
          refine ⟨_,rfl,d,v',D2,zs,ts.map (qk · j),vr,g,rfl,by omega,hv'.up c1.tups,c2,c4,by omega,fun t ht => ?_,by omega,by rw [lz]; exact hR.up s3,fun H4 s4=>⟨_,rfl,iteF ⟨s3.trans s4,_,rfl⟩⟩⟩
          obtain ⟨u,hu,rfl⟩:=List.mem_map.mp ht
          exact qk_deep (hdp u hu)
        · intro σ H' R R' k h
          obtain ⟨x1,e1,x2,e2,y1,y2,y3,f1,f2,f3,h⟩:=h
          exact ⟨x1,e1,x2,e2,y1,y2,y3,f1,f2,f3,fun v' hv'=>k _ _ (h v' hv')⟩
      · rintro σ H2 ⟨sm2,o3,rfl⟩
        exact q' H2 sm2
end
end Qs


namespace Qs
open PySem L2
theorem cnt_rear {o:Nat→Nat} (O:∀ t a b c d,t=Tr.four a b c d→cnt (rear o t)=cnt (rear o a) + cnt (rear o b) + cnt (rear o c) + cnt (rear o d)):∀ t,cnt (rear o t)=cnt t
  | .col i=>rfl
  | .four a b c d=>by
    rw [O _ a b c d rfl,cnt_rear O a,cnt_rear O b,cnt_rear O c,cnt_rear O d]; rfl
theorem cnt_od (d:Nat) (t:Tr):cnt (rear (od d) t)=cnt t:=by
  refine cnt_rear (fun t a b c e h => ?_) t
  subst h
  rcases d with _ | _ | d
  · show cnt (rear oL b) + cnt (rear oL e) + cnt (rear oL a) + cnt (rear oL c)=cnt (rear oL a) + cnt (rear oL b) + cnt (rear oL c) + cnt (rear oL e)
    omega
  · show cnt (rear oM b) + cnt (rear oM a) + cnt (rear oM e) + cnt (rear oM c)=cnt (rear oM a) + cnt (rear oM b) + cnt (rear oM c) + cnt (rear oM e)
    omega
  · show cnt (rear oS a) + cnt (rear oS c) + cnt (rear oS b) + cnt (rear oS e)=cnt (rear oS a) + cnt (rear oS b) + cnt (rear oS c) + cnt (rear oS e)
    omega
section
variable {P:Program} {w:World} {K:PySem.W.Frag} {mg:Str→Option Value} {base:Heap} {CX:CXT} {f:Addr} {fd:FuncData}
abbrev s_law_leaves:Stmt:=top 40
theorem sc_law_leaves:FnScope ["_law_tree","_law_code","_law_found","_law_k"] ["_law_tree","_law_code"] (defScope s_law_leaves):=⟨rfl,rfl,rfl,by decide +kernel,rfl,by decide +kernel,by decide +kernel⟩
def sp_law_leaves (m:Nat):Sp:=fun vs H Q _=>∃ (v:V) (t:Tr) (z:Str) (k n:Nat),vs=[v,.str z]∧TrAt H v t∧Good k t∧IsC z∧z.length + k≤n∧n≤40∧k < m∧m≤41∧cnt t≤4000∧∀ l us H',Same H H'→H l=none→H' l=some (.lst us)→PasAt H' n us (lvs (dig z) t)→Q (.ref l) H'
theorem ok_law_leaves (T:Tx K mg) (q:Quiet CX) (F:FunD K "_law_leaves" "_law_leaves" s_law_leaves f fd .none) (b:Binds K fd ["_law_tree","_law_code"] []) (m:mg "_law_leaves" = some (.ref f)) :
    ∀ n,FnOk P w K mg base CX (1 + n) f fd ["_law_tree","_law_code"] (sp_law_leaves n)
  | 0=>by
    refine F.ok sc_law_leaves (fun vs H Q E h => ?_) (fun cdv A outer s H vs Q E hr h => ?_)
    · obtain ⟨_,_,_,_,_,rfl,_⟩:=h
      rfl
    obtain ⟨_,_,_,_,_,_,_,_,_,_,_,h,_⟩:=h
    exact absurd h (Nat.not_lt_zero _)
  | m' + 1=>by
    have C__law_leaves:Fok P w K mg base CX (1 + m') "_law_leaves" ["_law_tree","_law_code"] [] (sp_law_leaves m'):=fok F (ok_law_leaves T q F b m m') b m
    refine F.ok sc_law_leaves (fun vs H Q E h => ?_) (fun cdv A outer s H vs Q E hr h => ?_)
    · obtain ⟨_,_,_,_,_,rfl,_⟩:=h
      rfl
    obtain ⟨v,t,z,k,n,rfl,ht,gt,hz,hl,hn,hk,hm,hc,q'⟩:=h
    refine ⟨_,(pss_cons (ps_if (pt_not (pt_val (pe_callB (call_isiT "tuple") rfl T.b_isinstance bb_isinstance (pa_cons (pv 0) (pa_cons (pe_bty T.b_tuple bt_tuple) pa_nil))))) (pss_one (ps_ret (pe_lstx (pax_c (pe_tupx (pax_c (pv 1) (pax_c (pv 0) pax_nil))) pax_nil)))) pss_nil) (pss_cons (ps_set (i:=2) sc_law_leaves.nd rfl (Or.inl rfl) (pe_lstx pax_nil)) (pss_cons (ps_for PassesOwn.never rfl (pi_range1 rfl T.b_range (pa_cons pe_int pa_nil)) (pg_name (i:=3) sc_law_leaves.nd rfl (Or.inl rfl)) (pss_one (ps_expr (pe_bm PySem.F.plainAttrs_list PySem.F.slot_list_extend PySem.F.type_list_extend mt_extend (pv 2) (pa_cons (pe_callF C__law_leaves q hr (pa_cons (pe_ix ix_tup (pv 0) (pv 3) (fun _ _=>rfl)) (pa_cons (pe_op op_add_str (pv 1) (pe_ix ix_str pe_str (pv 3) (fun _ _=>rfl))) pa_nil)) (hj:=by first | decide | omega | (simp only [Nat.add_eq]; omega))) pa_nil))))) (pss_one (ps_ret (pv 2)))))),?_⟩
    cases ht with
    | col i =>
      have g':0≤i∧i≤35:=by cases k <;> exact gt
      refine ⟨_,rfl,_,_,_,rfl,.int _,kit_it,_,rfl,iteT ?_⟩
      refine ⟨_,rfl,_,rfl,(by show 2≤sizeLine; decide),fun p hp => ?_⟩
      have s1:=Same.new hp (.tup [.str z,.int i])
      have u1:upd H p (.tup [.str z,.int i]) p=some (.tup [.str z,.int i]):=upd_same
      generalize upd H p (.tup [.str z,.int i])=H1 at *
      refine ⟨(by show 1≤sizeLine; decide),fun l hl1 => ?_⟩
      have s2:=Same.new hl1 (.lst [.ref p])
      exact q' l _ _ (s1.trans s2) (Same.none s1 hl1) upd_same (.cons ⟨p,z,rfl,s2 _ _ u1,hz,rfl,by omega,g'⟩ .nil)
    | @four p xa xb xc xd ta tb tc td e ja jb jc jd =>
      rcases k with _ | k
      · exact gt.elim
      obtain ⟨ga,gb,gc,gd,ho⟩:=gt
      have hc':cnt ta + cnt tb + cnt tc + cnt td≤4000:=hc
      refine ⟨_,rfl,_,_,_,rfl,.tup e,kit_tt,_,rfl,iteF ?_⟩
      refine ⟨(by show 0≤sizeLine; decide),fun l hl1 => ?_⟩
      have s1:=Same.new hl1 (.lst [])
      have u1:upd H l (.lst []) l=some (.lst []):=upd_same
      generalize upd H l (.lst [])=H1 at *
      obtain ⟨ps,eps⟩:∃ ps:List (List (List Nat × Int)),ps=[lvs (dig z++[0]) ta,lvs (dig z++[1]) tb,lvs (dig z++[2]) tc,lvs (dig z++[3]) td]:=⟨_,rfl⟩
      have lps:ps.length=4:=by rw [eps]; rfl
      have tot:ps.flatten.length≤4000:=by
        rw [eps]
        simp only [List.flatten_cons,List.flatten_nil,List.append_nil,List.length_append,lvs_count]
        omega
      refine ⟨4,rfl,by decide,by decide,for_range (fun j σ H2=>Same H H2∧∃ (us:List V) (o3:Option V),H2 l=some (.lst us)∧j≤4∧PasAt H2 n us (ps.take j).flatten∧σ=[some (.ref p),some (.str z),some (.ref l),o3]) ⟨s1,[],none,u1,by decide,.nil,rfl⟩ ?_ ?_⟩
      · rintro j σ H2 hj ⟨s2,us,o3,u2,hj4,hus,rfl⟩
        have hj4:j < 4:=hj
        rw [show (0:Int) + (j:Int)=(j:Int) from Int.zero_add _]
        have key:∃ x t',atI [xa,xb,xc,xd] (j:Int)=some x∧TrAt H x t'∧Good k t'∧cnt t'≤4000∧ps[j]? = some (lvs (dig z++[j]) t'):=by
          rw [eps]
          rcases j with _ | _ | _ | _ | j
          · exact ⟨xa,ta,rfl,ja,ga,by omega,rfl⟩
          · exact ⟨xb,tb,rfl,jb,gb,by omega,rfl⟩
          · exact ⟨xc,tc,rfl,jc,gc,by omega,rfl⟩
          · exact ⟨xd,td,rfl,jd,gd,by omega,rfl⟩
          · omega
        obtain ⟨x,t',k1,k2,k3,k4,k5⟩:=key
        have l1:(one j).length=1:=rfl
        refine ⟨_,rfl,.inl ⟨rfl,_,SqL.of u2⟩,_,rfl,_,rfl,p,_,_,x,rfl,rfl,SqT.of (s2 _ _ e),k1,_,rfl,_,rfl,_,_,48 + j,rfl,rfl,q_len,at_q hj4,?_⟩
        refine ⟨_,_,rfl,rfl,(by show z.length + 1≤sizeLine; exact small (by omega)),x,t',z++one j,k,n,rfl,k2.up s2.tups,k3,IsC.app hz (IsC.one hj4),by rw [app_len,l1]; omega,hn,by omega,by omega,k4,fun l2 us2 H3 s3 hl2 u3 hus2 => ?_⟩
        rw [dig_app,dig_one] at hus2
        have u2':=s3 _ _ u2
        have et:(ps.take (j + 1)).flatten=(ps.take j).flatten++lvs (dig z++[j]) t':=by rw [List.take_add_one,k5,List.flatten_append]; simp
        have n1:=hus.len
        have n2:=hus2.len
        have n3:(ps.take j).flatten.length≤ps.flatten.length:=by
          conv=>rhs; rw [← List.take_append_drop j ps,List.flatten_append,List.length_append]
          omega
        have n4:=lvs_count t' (dig z++[j])
        have tl:=Tups.lst (ys:=us++us2) u2'
        refine ⟨l,l2,us,us2,rfl,rfl,u2',u3,big (by omega),Same.set (s2.trans s3) hl1 _,us++us2,_,upd_same,hj4,?_,rfl⟩
        rw [et]
        exact (hus.up (s3.tups.trans tl)).app (hus2.up tl)
      · rintro σ H2 ⟨s2,us,o3,u2,hj4,hus,rfl⟩
        have e4:(ps.take 4).flatten=lvs (dig z) (.four ta tb tc td):=by
          rw [List.take_of_length_le (by omega),eps]
          simp [lvs]
        have hus':PasAt H2 n us (ps.take 4).flatten:=hus
        rw [e4] at hus'
        exact ⟨_,rfl,q' l us H2 s2 hl1 u2 hus'⟩
abbrev s_law_colour_at:Stmt:=top 41
theorem sc_law_colour_at:FnScope ["_law_tree","_law_level","_law_x","_law_y","_law_right","_law_low"] ["_law_tree","_law_level","_law_x","_law_y"] (defScope s_law_colour_at):=⟨rfl,rfl,rfl,by decide +kernel,rfl,by decide +kernel,by decide +kernel⟩
def sp_law_colour_at:Sp:=fun vs H Q _=>∃ (v:V) (t:Tr) (n x y:Nat),vs=[v,.int n,.int x,.int y]∧TrAt H v t∧t.deep≤n∧Q (.int (colAt n t x y)) H
theorem ok_law_colour_at (T:Tx K mg) (F:FunD K "_law_colour_at" "_law_colour_at" s_law_colour_at f fd .none):FnOk P w K mg base CX 1 f fd ["_law_tree","_law_level","_law_x","_law_y"] sp_law_colour_at:=by
  refine F.ok sc_law_colour_at (fun vs H Q E h => ?_) (fun cdv A outer s H vs Q E hr h => ?_)
  · obtain ⟨_,_,_,_,_,rfl,_⟩:=h
    rfl
  obtain ⟨v,t,n,x,y,rfl,ht,hd,q'⟩:=h
  refine ⟨_,(pss_cons (ps_while PassesOwn.never (pt_val (pe_callB (call_isiT "tuple") rfl T.b_isinstance bb_isinstance (pa_cons (pv 0) (pa_cons (pe_bty T.b_tuple bt_tuple) pa_nil)))) (pss_cons (ps_set (i:=1) sc_law_colour_at.nd rfl (Or.inl rfl) (pe_op op_sub (pv 1) pe_int)) (pss_cons (ps_set (i:=4) sc_law_colour_at.nd rfl (Or.inl rfl) (pe_op op_and (pe_op op_shr (pv 2) (pv 1)) pe_int)) (pss_cons (ps_set (i:=5) sc_law_colour_at.nd rfl (Or.inl rfl) (pe_op op_and (pe_op op_shr (pv 3) (pv 1)) pe_int)) (pss_one (ps_set (i:=0) sc_law_colour_at.nd rfl (Or.inl rfl) (pe_ix ix_tup (pv 0) (pe_op op_add (pv 4) (pe_op op_mul pe_int (pv 5))) (fun _ _=>rfl)))))))) (pss_one (ps_ret (pv 0)))),?_⟩
  refine while_by (fun σ H2=>H2=H∧∃ (v':V) (t':Tr) (l:Nat) (o4 o5:Option V),TrAt H v' t'∧t'.deep≤l∧colAt l t' x y=colAt n t x y∧σ=[some v',some (.int l),some (.int x),some (.int y),o4,o5]) (fun σ _=>match σ with | _::some (.int l)::_=>l.toNat | _=>0) ⟨rfl,v,t,n,none,none,ht,hd,rfl,rfl⟩ ?_ ?_
  · rintro σ H2 ⟨rfl,v',t',l,o4,o5,ht',hd',ec,rfl⟩
    cases ht' with
    | col i =>
      refine ⟨_,rfl,_,_,_,rfl,.int i,kit_it,_,rfl,iteF ?_⟩
      rw [colAt_col] at ec
      rw [← ec] at q'
      exact ⟨_,rfl,q'⟩
    | @four p xa xb xc xd ta tb tc td e ja jb jc jd =>
      refine ⟨_,rfl,_,_,_,rfl,.tup e,kit_tt,_,rfl,iteT ?_⟩
      rcases l with _ | l
      · exact absurd hd' (by show ¬ _ + 1≤0; omega)
      have el:((l + 1:Nat):Int) - 1=(l:Int):=by omega
      refine ⟨_,rfl,_,_,rfl,rfl,?_⟩
      dsimp only
      rw [el]
      refine ⟨_,rfl,_,rfl,_,_,rfl,rfl,(by show (0:Int)≤(l:Int); omega),_,_,rfl,rfl,?_⟩
      dsimp only
      rw [bitAnd_bit]
      refine ⟨_,rfl,_,rfl,_,_,rfl,rfl,(by show (0:Int)≤(l:Int); omega),_,_,rfl,rfl,?_⟩
      dsimp only
      rw [bitAnd_bit]
      have b1:=bit_lt x l
      have b2:=bit_lt y l
      have ek:((bit x l:Nat):Int) + 2 * ((bit y l:Nat):Int)=((bit x l + 2 * bit y l:Nat):Int):=by omega
      rw [colAt_step] at ec
      have hk:bit x l + 2 * bit y l < 4:=by omega
      generalize hkk:bit x l + 2 * bit y l=k at *
      have key:∃ u,atI [xa,xb,xc,xd] (k:Int)=some u∧TrAt H2 u (qk (.four ta tb tc td) k):=by
        rcases k with _ | _ | _ | _ | k
        · exact ⟨xa,rfl,ja⟩
        · exact ⟨xb,rfl,jb⟩
        · exact ⟨xc,rfl,jc⟩
        · exact ⟨xd,rfl,jd⟩
        · omega
      obtain ⟨u,eu,ku⟩:=key
      refine ⟨_,rfl,_,rfl,_,rfl,_,_,rfl,rfl,.inl ⟨by decide,by decide⟩,_,_,rfl,rfl,p,_,_,u,rfl,rfl,SqT.of e,?_,⟨rfl,u,_,l,_,_,ku,qk_deep hd',ec,rfl⟩,?_⟩
      · show atI [xa,xb,xc,xd] (((bit x l:Nat):Int) + 2 * ((bit y l:Nat):Int))=some u
        rw [ek]; exact eu
      · show ((l:Int)).toNat < (((l + 1:Nat):Int)).toNat
        omega
  · rintro σ H' R R' k ⟨x0,e0,x1,x2,x3,e1,ty,kk,bb,eb,h⟩
    exact ⟨x0,e0,x1,x2,x3,e1,ty,kk,bb,eb,k _ _ h⟩
abbrev s_law_squares:Stmt:=top 42
theorem sc_law_squares:FnScope ["_law_tree","_law_code","_law_x","_law_y","_law_wide","_law_half","_law_found","_law_k"] ["_law_tree","_law_code","_law_x","_law_y","_law_wide"] (defScope s_law_squares):=⟨rfl,rfl,rfl,by decide +kernel,rfl,by decide +kernel,by decide +kernel⟩

def SqrAt (H:Hp) (u:V) (j:Nat) (t:Tr) (x y:Nat):Prop:=∃ p c i x' y' wd,u=.ref p∧H p=some (.tup [.str c,.int i,.int ((x':Nat):Int),.int ((y':Nat):Int),wd])∧(x≤x'∧x' < x + 2 ^ j)∧(y≤y'∧y' < y + 2 ^ j)∧colAt j t x' y'=i
theorem SqrAt.up {H H':Hp} {u:V} {j:Nat} {t:Tr} {x y:Nat} (h:SqrAt H u j t x y) (s:Tups H H'):SqrAt H' u j t x y:=by
  obtain ⟨p,c,i,x',y',wd,e,hp,h⟩:=h
  exact ⟨p,c,i,x',y',wd,e,s _ _ hp,h⟩
def sp_law_squares (m:Nat):Sp:=fun vs H Q _=>∃ (v:V) (t:Tr) (z:Str) (x y j:Nat),vs=[v,.str z,.int x,.int y,.int ((2 ^ j:Nat):Int)]∧TrAt H v t∧t.deep≤j∧j≤m∧m≤40∧z.length + j≤40∧cnt t≤1460∧x % 2 ^ j=0∧y % 2 ^ j=0 ∧
  ∀ l xs H',Same H H'→H l=none→H' l=some (.lst xs)→xs.length=cnt t→(∀ u∈xs,SqrAt H' u j t x y)→Q (.ref l) H'
theorem sqr_col {H:Hp} {p:Addr} {z:Str} {i:Int} {x y j:Nat} {wd:V} (h:H p=some (.tup [.str z,.int i,.int (x:Int),.int (y:Int),wd])):SqrAt H (.ref p) j (.col i) x y :=
  ⟨p,z,i,x,y,wd,rfl,h,⟨Nat.le_refl _,Nat.lt_add_of_pos_right (Nat.two_pow_pos j)⟩,⟨Nat.le_refl _,Nat.lt_add_of_pos_right (Nat.two_pow_pos j)⟩,colAt_col _ _ _ _⟩
theorem ok_law_squares (T:Tx K mg) (q:Quiet CX) (F:FunD K "_law_squares" "_law_squares" s_law_squares f fd .none) (b:Binds K fd ["_law_tree","_law_code","_law_x","_law_y","_law_wide"] []) (m:mg "_law_squares" = some (.ref f)) :
    ∀ n,FnOk P w K mg base CX (1 + n) f fd ["_law_tree","_law_code","_law_x","_law_y","_law_wide"] (sp_law_squares n)
  | 0=>by
    have C__law_squares:=fokF (P:=P) (w:=w) (base:=base) (CX:=CX) F b m
    refine F.ok sc_law_squares (fun vs H Q E h => ?_) (fun cdv A outer s H vs Q E hr h => ?_)
    · obtain ⟨_,_,_,_,_,_,rfl,_⟩:=h
      rfl
    obtain ⟨v,t,z,x,y,j,rfl,ht,hd,hj,hm,hl,hc,mx,my,q'⟩:=h
    refine ⟨_,(pss_cons (ps_if (pt_not (pt_val (pe_callB (call_isiT "tuple") rfl T.b_isinstance bb_isinstance (pa_cons (pv 0) (pa_cons (pe_bty T.b_tuple bt_tuple) pa_nil))))) (pss_one (ps_ret (pe_lstx (pax_c (pe_tupx (pax_c (pv 1) (pax_c (pv 0) (pax_c (pv 2) (pax_c (pv 3) (pax_c (pv 4) pax_nil)))))) pax_nil)))) pss_nil) (pss_cons (ps_set (i:=5) sc_law_squares.nd rfl (Or.inl rfl) (pe_op op_fdivW (pv 4) pe_int)) (pss_cons (ps_set (i:=6) sc_law_squares.nd rfl (Or.inl rfl) (pe_lstx pax_nil)) (pss_cons (ps_for PassesOwn.never rfl (pi_range1 rfl T.b_range (pa_cons pe_int pa_nil)) (pg_name (i:=7) sc_law_squares.nd rfl (Or.inl rfl)) (pss_one (ps_expr (pe_bm PySem.F.plainAttrs_list PySem.F.slot_list_extend PySem.F.type_list_extend mt_extend (pv 6) (pa_cons (pe_callF C__law_squares q hr (pa_cons (pe_ix ix_tup (pv 0) (pv 7) (fun _ _=>rfl)) (pa_cons (pe_op op_add_str (pv 1) (pe_ix ix_str pe_str (pv 7) (fun _ _=>rfl))) (pa_cons (pe_op op_add (pv 2) (pe_op op_mul (pe_op op_mod (pv 7) pe_int) (pv 5))) (pa_cons (pe_op op_add (pv 3) (pe_op op_mul (pe_op op_fdivW (pv 7) pe_int) (pv 5))) (pa_cons (pv 5) pa_nil))))) (hj:=by first | decide | omega | (simp only [Nat.add_eq]; omega))) pa_nil))))) (pss_one (ps_ret (pv 6))))))),?_⟩
    cases ht with
    | four e=>exact absurd (Nat.le_trans hd hj) (by show ¬ _ + 1≤0; omega)
    | col i =>
      refine ⟨_,rfl,_,_,_,rfl,.int i,kit_it,_,rfl,iteT ⟨_,rfl,_,rfl,_,rfl,_,rfl,_,rfl,(by show 5≤sizeLine; decide),fun p hp=>⟨(by show 1≤sizeLine; decide),fun l hl1 => ?_⟩⟩⟩
      have s1:=Same.new hp (.tup [.str z,.int i,.int (x:Int),.int (y:Int),.int ((2 ^ j:Nat):Int)])
      refine q' l _ _ (s1.trans (Same.new hl1 _)) (Same.none s1 hl1) upd_same rfl fun u hu => ?_
      rw [List.mem_singleton.mp hu]
      exact sqr_col ((Same.new hl1 _) _ _ upd_same)
  | n + 1=>by
    have C__law_squares:Fok P w K mg base CX (1 + n) "_law_squares" ["_law_tree","_law_code","_law_x","_law_y","_law_wide"] [] (sp_law_squares n):=fok F (ok_law_squares T q F b m n) b m
    refine F.ok sc_law_squares (fun vs H Q E h => ?_) (fun cdv A outer s H vs Q E hr h => ?_)
    · obtain ⟨_,_,_,_,_,_,rfl,_⟩:=h
      rfl
    obtain ⟨v,t,z,x,y,j,rfl,ht,hd,hj,hm,hl,hc,mx,my,q'⟩:=h
    refine ⟨_,(pss_cons (ps_if (pt_not (pt_val (pe_callB (call_isiT "tuple") rfl T.b_isinstance bb_isinstance (pa_cons (pv 0) (pa_cons (pe_bty T.b_tuple bt_tuple) pa_nil))))) (pss_one (ps_ret (pe_lstx (pax_c (pe_tupx (pax_c (pv 1) (pax_c (pv 0) (pax_c (pv 2) (pax_c (pv 3) (pax_c (pv 4) pax_nil)))))) pax_nil)))) pss_nil) (pss_cons (ps_set (i:=5) sc_law_squares.nd rfl (Or.inl rfl) (pe_op op_fdivW (pv 4) pe_int)) (pss_cons (ps_set (i:=6) sc_law_squares.nd rfl (Or.inl rfl) (pe_lstx pax_nil)) (pss_cons (ps_for PassesOwn.never rfl (pi_range1 rfl T.b_range (pa_cons pe_int pa_nil)) (pg_name (i:=7) sc_law_squares.nd rfl (Or.inl rfl)) (pss_one (ps_expr (pe_bm PySem.F.plainAttrs_list PySem.F.slot_list_extend PySem.F.type_list_extend mt_extend (pv 6) (pa_cons (pe_callF C__law_squares q hr (pa_cons (pe_ix ix_tup (pv 0) (pv 7) (fun _ _=>rfl)) (pa_cons (pe_op op_add_str (pv 1) (pe_ix ix_str pe_str (pv 7) (fun _ _=>rfl))) (pa_cons (pe_op op_add (pv 2) (pe_op op_mul (pe_op op_mod (pv 7) pe_int) (pv 5))) (pa_cons (pe_op op_add (pv 3) (pe_op op_mul (pe_op op_fdivW (pv 7) pe_int) (pv 5))) (pa_cons (pv 5) pa_nil))))) (hj:=by first | decide | omega | (simp only [Nat.add_eq]; omega))) pa_nil))))) (pss_one (ps_ret (pv 6))))))),?_⟩
    cases ht with
    | col i =>
      refine ⟨_,rfl,_,_,_,rfl,.int i,kit_it,_,rfl,iteT ⟨_,rfl,_,rfl,_,rfl,_,rfl,_,rfl,(by show 5≤sizeLine; decide),fun p hp=>⟨(by show 1≤sizeLine; decide),fun l hl1 => ?_⟩⟩⟩
      have s1:=Same.new hp (.tup [.str z,.int i,.int (x:Int),.int (y:Int),.int ((2 ^ j:Nat):Int)])
      refine q' l _ _ (s1.trans (Same.new hl1 _)) (Same.none s1 hl1) upd_same rfl fun u hu => ?_
      rw [List.mem_singleton.mp hu]
      exact sqr_col ((Same.new hl1 _) _ _ upd_same)
    | @four p xa xb xc xd ta tb tc td e ja jb jc jd =>
      have hd':max ta.deep (max tb.deep (max tc.deep td.deep)) + 1≤j:=hd
      rcases j with _ | j
      · omega
      have hc':cnt ta + cnt tb + cnt tc + cnt td≤1460:=hc
      refine ⟨_,rfl,_,_,_,rfl,.tup e,kit_tt,_,rfl,iteF ?_⟩
      have eh:((2 ^ (j + 1):Nat):Int) / 2=((2 ^ j:Nat):Int):=by rw [Nat.pow_succ]; omega
      refine ⟨_,rfl,_,_,rfl,rfl,cdivW (by decide) (by decide),?_⟩
      dsimp only
      rw [eh]
      refine ⟨(by show 0≤sizeLine; decide),fun l hl1 => ?_⟩
      obtain ⟨sc,esc⟩:∃ sc:Nat→Nat,sc=fun j=>match j with | 0=>0 | 1=>cnt ta | 2=>cnt ta + cnt tb | 3=>cnt ta + cnt tb + cnt tc | _=>cnt ta + cnt tb + cnt tc + cnt td:=⟨_,rfl⟩
      refine ⟨_,rfl,by decide,by decide,for_range (fun k σ H2=>Same H H2∧∃ (xs:List V) (o7:Option V),H2 l=some (.lst xs)∧xs.length=sc k∧(∀ u∈xs,SqrAt H2 u (j + 1) (.four ta tb tc td) x y)∧σ=[some (.ref p),some (.str z),some (.int x),some (.int y),some (.int ((2 ^ (j + 1):Nat):Int)),some (.int ((2 ^ j:Nat):Int)),some (.ref l),o7]) ⟨Same.new hl1 _,[],none,upd_same,by rw [esc]; rfl,fun x hx=>absurd hx (by simp),rfl⟩ ?_ ?_⟩
      · rintro k σ H2 hk ⟨s2,xs,o7,u2,lx,hxs,rfl⟩
        have hk':k < 4:=hk
        have e0:(0:Int) + (k:Int)=(k:Int):=Int.zero_add _
        rw [e0]
        have key:∃ u tx,atI [xa,xb,xc,xd] (k:Int)=some u∧TrAt H u tx∧tx.deep≤j∧sc (k + 1)=sc k + cnt tx∧sc k + cnt tx≤1460∧qk (.four ta tb tc td) k=tx:=by
          rw [esc]
          rcases k with _ | _ | _ | _ | k
          · exact ⟨xa,ta,rfl,ja,by omega,by show cnt ta=0 + cnt ta; omega,by show 0 + cnt ta≤1460; omega,rfl⟩
          · exact ⟨xb,tb,rfl,jb,by omega,rfl,by show cnt ta + cnt tb≤1460; omega,rfl⟩
          · exact ⟨xc,tc,rfl,jc,by omega,rfl,by show cnt ta + cnt tb + cnt tc≤1460; omega,rfl⟩
          · exact ⟨xd,td,rfl,jd,by omega,rfl,by show cnt ta + cnt tb + cnt tc + cnt td≤1460; omega,rfl⟩
          · omega
        obtain ⟨u,tx,eu,ku,dx,e5,hle,etx⟩:=key
        have ll:(z++one k).length=z.length + 1:=by rw [app_len]; rfl
        refine ⟨_,rfl,.inl ⟨rfl,_,SqL.of u2⟩,_,rfl,_,rfl,p,_,_,u,rfl,rfl,SqT.of (s2 _ _ e),eu,_,rfl,_,rfl,_,_,48 + k,rfl,rfl,q_len,at_q hk',_,_,rfl,rfl,?_,?_⟩
        · show z.length + 1≤sizeLine
          exact small (by omega)
        refine ⟨_,rfl,_,rfl,_,_,rfl,rfl,(by show (0:Int) < 2; decide),_,rfl,_,_,rfl,rfl,.inl ⟨by omega,by omega⟩,_,_,rfl,rfl,?_⟩
        refine ⟨_,rfl,_,rfl,_,_,rfl,rfl,cdivW (by decide) (by decide),_,rfl,_,_,rfl,rfl,.inl ⟨by omega,by omega⟩,_,_,rfl,rfl,_,rfl,?_⟩
        have eX:(x:Int) + (k:Int) % 2 * ((2 ^ j:Nat):Int)=((x + k % 2 * 2 ^ j:Nat):Int):=by simp
        have eY:(y:Int) + (k:Int) / 2 * ((2 ^ j:Nat):Int)=((y + k / 2 * 2 ^ j:Nat):Int):=by simp
        refine ⟨u,tx,z++one k,x + k % 2 * 2 ^ j,y + k / 2 * 2 ^ j,j,?_,ku.up s2.tups,dx,by omega,by omega,by omega,by omega,cell_mod mx,cell_mod my,fun l2 ys H3 s3 hl2 u3 ly hys => ?_⟩
        · show [u,V.str _,V.int ((x:Int) + (k:Int) % 2 * ((2 ^ j:Nat):Int)),V.int ((y:Int) + (k:Int) / 2 * ((2 ^ j:Nat):Int)),V.int _]=_
          rw [eX,eY]; rfl
        refine ⟨l,l2,xs,ys,rfl,rfl,s3 _ _ u2,u3,(by have hs:sizeLine=16777216:=sizeLine_eq; omega),?_⟩
        have t3:=Tups.lst (ys:=xs++ys) (s3 _ _ u2)
        refine ⟨Same.set (s2.trans s3) hl1 _,xs++ys,_,upd_same,by rw [List.length_append,lx,ly,e5],fun g hg => ?_,rfl⟩
        rcases List.mem_append.mp hg with hg | hg
        · exact (hxs g hg).up (s3.tups.trans t3)
        · obtain ⟨p2,c2,i2,x2,y2,w2,g1,g2,⟨g3,g4⟩,⟨g5,g6⟩,g7⟩:=(hys g hg).up t3
          have bx:=bit_in mx (Nat.mod_lt k (by decide)) g3 g4
          have bY:=bit_in my (show k / 2 < 2 by omega) g5 g6
          have ps:2 ^ (j + 1)=2 ^ j + 2 ^ j:=by rw [Nat.pow_succ]; omega
          have le1:k % 2 * 2 ^ j≤1 * 2 ^ j:=Nat.mul_le_mul_right _ (by omega)
          have le2:k / 2 * 2 ^ j≤1 * 2 ^ j:=Nat.mul_le_mul_right _ (by omega)
          refine ⟨p2,c2,i2,x2,y2,w2,g1,g2,⟨by omega,by omega⟩,⟨by omega,by omega⟩,?_⟩
          rw [colAt_step,bx,bY,show k % 2 + 2 * (k / 2)=k by omega,etx]
          exact g7
      · rintro σ H2 ⟨s2,xs,o7,u2,lx,hxs,rfl⟩
        exact ⟨_,rfl,q' l xs H2 s2 hl1 u2 (by rw [lx,esc]; rfl) hxs⟩
end
end Qs


namespace Qs
open PySem L2
section
variable {P:Program} {w:World} {K:PySem.W.Frag} {mg:Str→Option Value} {base:Heap} {CX:CXT} {f:Addr} {fd:FuncData}
abbrev s_law_tree_of:Stmt:=top 44
theorem sc_law_tree_of:FnScope ["_law_row","_law_tree","_law_entry"] ["_law_row"] (defScope s_law_tree_of):=⟨rfl,rfl,rfl,by decide +kernel,rfl,by decide +kernel,by decide +kernel⟩
def sp_law_tree_of:Sp:=fun vs H Q _=>∃ (l:Addr) (us:List V) (t:Tr) (n:Nat),vs=[.ref l]∧H l=some (.lst us)∧PasAt H n us (lvs [] t)∧Good n t∧n≤40∧cnt t≤4000∧∀ v H',Same H H'→TrAt H' v t→Q v H'
theorem ok_law_tree_of (T:Tx K mg) (q:Quiet CX) (F:FunD K "_law_tree_of" "_law_tree_of" s_law_tree_of f fd .none) (C__law_painted:Fok P w K mg base CX 42 "_law_painted" ["_law_tree","_law_code","_law_colour"] [] (sp_law_painted 40)) (C__law_leaves:Fok P w K mg base CX 42 "_law_leaves" ["_law_tree","_law_code"] [] (sp_law_leaves 41)):FnOk P w K mg base CX 43 f fd ["_law_row"] sp_law_tree_of:=by
  refine F.ok sc_law_tree_of (fun vs H Q E h => ?_) (fun cdv A outer s H vs Q E hr h => ?_)
  · obtain ⟨_,_,_,_,rfl,_⟩:=h
    rfl
  obtain ⟨l,us,t,n,rfl,hl,hL,gt,hn,hc,q'⟩:=h
  refine ⟨_,(pss_cons (ps_if (pt_not (pt_val (pe_callB (call_isiT "list") rfl T.b_isinstance bb_isinstance (pa_cons (pv 0) (pa_cons (pe_bty T.b_list bt_list) pa_nil))))) (pss_one (ps_ret pe_non)) pss_nil) (pss_cons (ps_set (i:=1) sc_law_tree_of.nd rfl (Or.inl rfl) pe_int) (pss_cons (ps_for PassesOwn.never rfl (pi_list (pv 0)) (pg_name (i:=2) sc_law_tree_of.nd rfl (Or.inl rfl)) (pss_cons (ps_if (PW.pt (pw_or (pt_not (pt_val (pe_callB (call_isiT "tuple") rfl T.b_isinstance bb_isinstance (pa_cons (pv 2) (pa_cons (pe_bty T.b_tuple bt_tuple) pa_nil))))) (pw_or (pt_cmpR op_ne (pe_callB call_len rfl T.b_len bb_len (pa_cons (pv 2) pa_nil)) pe_int (nomark _)) (pw_or1 (pt_not (pt_val (pe_callB (call_isiT "str") rfl T.b_isinstance bb_isinstance (pa_cons (pe_ix ix_tup (pv 2) pe_int (fun _ _=>rfl)) (pa_cons (pe_bty T.b_str bt_str) pa_nil))))))))) (pss_one (ps_ret pe_non)) pss_nil) (pss_cons (ps_if (PW.pt (pw_or (pt_not (pt_val (pe_callB (call_isiT "int") rfl T.b_isinstance bb_isinstance (pa_cons (pe_ix ix_tup (pv 2) pe_int (fun _ _=>rfl)) (pa_cons (pe_bty T.b_int bt_int) pa_nil))))) (pw_or1 (pt_val (pe_callB (call_isiT "bool") rfl T.b_isinstance bb_isinstance (pa_cons (pe_ix ix_tup (pv 2) pe_int (fun _ _=>rfl)) (pa_cons (pe_bty T.b_bool bt_bool) pa_nil))))))) (pss_one (ps_ret pe_non)) pss_nil) (pss_one (ps_set (i:=1) sc_law_tree_of.nd rfl (Or.inl rfl) (pe_callF C__law_painted q hr (pa_cons (pv 1) (pa_cons (pe_ix ix_tup (pv 2) pe_int (fun _ _=>rfl)) (pa_cons (pe_ix ix_tup (pv 2) pe_int (fun _ _=>rfl)) pa_nil))))))))) (pss_cons (ps_if (pt_cmpR (op_neD hr) (pe_callF C__law_leaves q hr (pa_cons (pv 1) (pa_cons pe_str pa_nil))) (pv 0) (nomark _)) (pss_one (ps_ret pe_non)) pss_nil) (pss_one (ps_ret (pv 1))))))),?_⟩
  refine ⟨_,rfl,_,_,_,rfl,.lst hl,kit_ll,_,rfl,iteF ?_⟩
  have ll:=hL.len
  refine ⟨_,rfl,l,rfl,⟨_,SqL.of hl⟩,for_list (xs:=us) (fun i σ H2=>Same H H2∧∃ (v:V) (o2:Option V),TrAt H2 v (paintAll (.col 0) ((lvs [] t).take i))∧σ=[some (.ref l),some v,o2]) ⟨Same.refl _,_,none,.col 0,rfl⟩ (fun i σ H2 _ h=>SqL.of (h.1 _ _ hl)) ?_ ?_⟩
  · rintro i x σ H2 hx ⟨s2,v,o2,hv,rfl⟩
    obtain ⟨pq,epq,p,z,rfl,hp,hz,ez,lz,hcc⟩:=hL.get hx
    have hp2:=s2 _ _ hp
    have et:(lvs [] t).take (i + 1)=(lvs [] t).take i++[pq]:=by rw [List.take_add_one,epq]; rfl
    refine ⟨_,rfl,_,_,_,rfl,.tup hp2,kit_tt,_,rfl,iteF ?_⟩
    refine ⟨_,rfl,_,_,rfl,.inr ⟨_,SqT.of hp2,rfl⟩,rfl,_,rfl,iteNS rfl ?_⟩
    refine ⟨_,rfl,p,_,_,_,rfl,rfl,SqT.of hp2,rfl,_,_,_,rfl,.str _,kit_ss,_,rfl,iteF ?_⟩
    refine ⟨_,rfl,p,_,_,_,rfl,rfl,SqT.of hp2,rfl,_,_,_,rfl,.int _,kit_ii,_,rfl,iteF ?_⟩
    refine ⟨_,rfl,p,_,_,_,rfl,rfl,SqT.of hp2,rfl,_,_,_,rfl,.int _,kit_ib,_,rfl,iteF ?_⟩
    have ok:∀ r∈(lvs [] t).take i,POk n r:=fun r hr=>hL.ok r (List.mem_of_mem_take hr)
    have gd:=(good_all ((lvs [] t).take i) (.col 0) ok (Good.col (n:=n) ⟨by decide,by decide⟩)).deep
    refine ⟨_,rfl,_,rfl,p,_,_,_,rfl,rfl,SqT.of hp2,rfl,_,rfl,p,_,_,_,rfl,rfl,SqT.of hp2,rfl,v,pq.2,_,z,rfl,hv,hz,by omega,Nat.le_refl _,by omega,fun v' H3 s3 hv' => ?_⟩
    refine ⟨s2.trans s3,v',_,?_,rfl⟩
    rw [et,paintAll_snoc,← ez]
    exact hv'
  · rintro σ H2 ⟨s2,v,o2,hv,rfl⟩
    rw [ll,List.take_length,paint_lvs 0 n t gt] at hv
    refine ⟨_,rfl,v,t,("" : Str),n,n,rfl,hv,gt,empty_eq▸IsC.nil,by rw [show ("" : Str).length=0 by decide +kernel]; omega,hn,by omega,Nat.le_refl _,hc,fun l2 us2 H3 s3 hl2 u3 h3 => ?_⟩
    rw [dig_empty] at h3
    have s23:=s2.trans s3
    have hL3:=hL.up s23.tups
    obtain ⟨k1,k2⟩:=h3.dats2
    obtain ⟨k3,k4⟩:=hL3.dats2
    refine ⟨_,rfl,_,_,.lst u3 k1,.lst (s23 _ _ hl) k3,paList_shaped k2,paList_shaped k4,?_⟩
    rw [paEqv,decide_eq_true rfl]
    exact ⟨_,rfl,iteF ⟨_,rfl,q' v H3 s23 (hv.up s3.tups)⟩⟩
abbrev s_law_is_turned:Stmt:=top 45
theorem sc_law_is_turned:FnScope ["_law_found","_law_tree","_law_level","_law_last","_law_code","_law_colour","_law_x","_law_y","_law_wide"] ["_law_found","_law_tree","_law_level"] (defScope s_law_is_turned):=⟨rfl,rfl,rfl,by decide +kernel,rfl,by decide +kernel,by decide +kernel⟩
def sp_law_is_turned:Sp:=fun vs H Q _=>∃ (vf vt:V) (n:Nat) (t:Tr),vs=[vf,vt,.int (n:Int)]∧n≤40∧TrAt H vf (rear oL t)∧TrAt H vt t∧Good n t∧cnt t≤1460∧∀ H',Same H H'→Q (.bl true) H'
theorem ok_law_is_turned (T:Tx K mg) (q:Quiet CX) (F:FunD K "_law_is_turned" "_law_is_turned" s_law_is_turned f fd .none) (C__law_squares:Fok P w K mg base CX 41 "_law_squares" ["_law_tree","_law_code","_law_x","_law_y","_law_wide"] [] (sp_law_squares 40)) (C__law_colour_at:Fok P w K mg base CX 1 "_law_colour_at" ["_law_tree","_law_level","_law_x","_law_y"] [] sp_law_colour_at):FnOk P w K mg base CX 42 f fd ["_law_found","_law_tree","_law_level"] sp_law_is_turned:=by
  refine F.ok sc_law_is_turned (fun vs H Q E h => ?_) (fun cdv A outer s H vs Q E hr h => ?_)
  · obtain ⟨_,_,_,_,rfl,_⟩:=h
    rfl
  obtain ⟨vf,vt,n,t,rfl,hn,hf,ht,gt,hc,q'⟩:=h
  refine ⟨_,(pss_cons (ps_set (i:=3) sc_law_is_turned.nd rfl (Or.inl rfl) (pe_op op_sub (pe_op op_shl pe_int (pv 2)) pe_int)) (pss_cons (ps_for PassesOwn.never rfl (pi_list (pe_callF C__law_squares q hr (pa_cons (pv 1) (pa_cons pe_str (pa_cons pe_int (pa_cons pe_int (pa_cons (pe_op op_shl pe_int (pv 2)) pa_nil))))))) (pg_tup rfl (pgs_cons (pg_name (i:=4) sc_law_is_turned.nd rfl (Or.inl rfl)) (pgs_cons (pg_name (i:=5) sc_law_is_turned.nd rfl (Or.inl rfl)) (pgs_cons (pg_name (i:=6) sc_law_is_turned.nd rfl (Or.inl rfl)) (pgs_cons (pg_name (i:=7) sc_law_is_turned.nd rfl (Or.inl rfl)) (pgs_cons (pg_name (i:=8) sc_law_is_turned.nd rfl (Or.inl rfl)) pgs_nil)))))) (pss_one (ps_if (pt_cmpR op_ne (pe_callF C__law_colour_at q hr (pa_cons (pv 0) (pa_cons (pv 2) (pa_cons (pv 7) (pa_cons (pe_op op_sub (pv 3) (pv 6)) pa_nil))))) (pv 5) (nomark _)) (pss_one (ps_ret pe_bl)) pss_nil))) (pss_cons (ps_for PassesOwn.never rfl (pi_list (pe_callF C__law_squares q hr (pa_cons (pv 0) (pa_cons pe_str (pa_cons pe_int (pa_cons pe_int (pa_cons (pe_op op_shl pe_int (pv 2)) pa_nil))))))) (pg_tup rfl (pgs_cons (pg_name (i:=4) sc_law_is_turned.nd rfl (Or.inl rfl)) (pgs_cons (pg_name (i:=5) sc_law_is_turned.nd rfl (Or.inl rfl)) (pgs_cons (pg_name (i:=6) sc_law_is_turned.nd rfl (Or.inl rfl)) (pgs_cons (pg_name (i:=7) sc_law_is_turned.nd rfl (Or.inl rfl)) (pgs_cons (pg_name (i:=8) sc_law_is_turned.nd rfl (Or.inl rfl)) pgs_nil)))))) (pss_one (ps_if (pt_cmpR op_ne (pe_callF C__law_colour_at q hr (pa_cons (pv 1) (pa_cons (pv 2) (pa_cons (pe_op op_sub (pv 3) (pv 7)) (pa_cons (pv 6) pa_nil))))) (pv 5) (nomark _)) (pss_one (ps_ret pe_bl)) pss_nil))) (pss_one (ps_ret pe_bl))))),?_⟩
  have p2:=Nat.two_pow_pos n
  have eL:(1:Int) * 2 ^ ((n:Int)).toNat - 1=((2 ^ n - 1:Nat):Int):=by
    rw [Int.toNat_natCast,Int.one_mul,show ((2:Int) ^ n)=((2 ^ n:Nat):Int) by rw [Int.natCast_pow]; rfl]
    omega
  have eW:(1:Int) * 2 ^ ((n:Int)).toNat=((2 ^ n:Nat):Int):=by
    rw [Int.toNat_natCast,Int.one_mul,show ((2:Int) ^ n)=((2 ^ n:Nat):Int) by rw [Int.natCast_pow]; rfl]
  have dt:=gt.deep
  have dr:(rear oL t).deep≤n:=rear_deep dt
  have cr:cnt (rear oL t)≤1460:=by rw [show oL=od 0 from rfl,cnt_od]; exact hc
  refine ⟨_,rfl,_,_,rfl,rfl,⟨by omega,by omega,by decide⟩,_,_,rfl,rfl,?_⟩
  dsimp only
  rw [eL]
  have e0:("" : Str).length=0:=by decide +kernel
  refine ⟨_,rfl,_,rfl,_,_,rfl,rfl,⟨by omega,by omega,by decide⟩,vt,t,("" : Str),0,0,n,?_,ht,dt,hn,by decide,by rw [e0]; omega,hc,Nat.zero_mod _,Nat.zero_mod _,fun l xs H1 s1 hl u1 lx hxs => ?_⟩
  · show [vt,V.str "",V.int 0,V.int 0,V.int ((1:Int) * 2 ^ ((n:Int)).toNat)]=_
    rw [eW]
    rfl
  refine ⟨l,rfl,⟨_,SqL.of u1⟩,for_list (xs:=xs) (fun i σ H2=>Same H1 H2∧∃ o4 o5 o6 o7 o8:Option V,σ=[some vf,some vt,some (.int (n:Int)),some (.int ((2 ^ n - 1:Nat):Int)),o4,o5,o6,o7,o8]) ⟨Same.refl _,_,_,_,_,_,rfl⟩ (fun i σ H2 _ h=>SqL.of (h.1 _ _ u1)) ?_ ?_⟩
  · rintro i u σ H2 hu ⟨s2,o4,o5,o6,o7,o8,rfl⟩
    obtain ⟨p,c,k,x',y',wd,rfl,hp,⟨_,hx⟩,⟨_,hy⟩,ec⟩:=hxs u (List.mem_of_getElem? hu)
    rw [Nat.zero_add] at hx hy
    refine ⟨p,_,rfl,SqT.of (s2 _ _ hp),rfl,_,_,rfl,_,_,rfl,_,_,rfl,_,_,rfl,_,_,rfl,rfl,?_⟩
    refine ⟨_,rfl,_,rfl,_,rfl,_,rfl,_,rfl,_,_,rfl,rfl,vf,rear oL t,n,y',2 ^ n - 1 - x',?_,hf.up (s1.trans s2).tups,dr,?_⟩
    · show [vf,V.int (n:Int),V.int (y':Int),V.int (((2 ^ n - 1:Nat):Int) - (x':Int))]=_
      rw [show ((2 ^ n - 1:Nat):Int) - (x':Int)=((2 ^ n - 1 - x':Nat):Int) by omega]
    have key:colAt n (rear oL t) y' (2 ^ n - 1 - x')=colAt n t x' y':=col_there 0 dt hx hy
    rw [key,ec]
    exact ⟨_,rfl,rfl,_,rfl,iteNS rfl ⟨s2,_,_,_,_,_,rfl⟩⟩
  · rintro σ H2 ⟨s2,o4,o5,o6,o7,o8,rfl⟩
    have s12:=s1.trans s2
    refine ⟨_,rfl,_,rfl,_,_,rfl,rfl,⟨by omega,by omega,by decide⟩,vf,rear oL t,("" : Str),0,0,n,?_,hf.up s12.tups,dr,hn,by decide,by rw [e0]; omega,cr,Nat.zero_mod _,Nat.zero_mod _,fun l2 xs2 H3 s3 hl2 u3 lx2 hxs2 => ?_⟩
    · show [vf,V.str "",V.int 0,V.int 0,V.int ((1:Int) * 2 ^ ((n:Int)).toNat)]=_
      rw [eW]
      rfl
    refine ⟨l2,rfl,⟨_,SqL.of u3⟩,for_list (xs:=xs2) (fun i σ H4=>Same H3 H4∧∃ o4 o5 o6 o7 o8:Option V,σ=[some vf,some vt,some (.int (n:Int)),some (.int ((2 ^ n - 1:Nat):Int)),o4,o5,o6,o7,o8]) ⟨Same.refl _,_,_,_,_,_,rfl⟩ (fun i σ H4 _ h=>SqL.of (h.1 _ _ u3)) ?_ ?_⟩
    · rintro i u σ H4 hu ⟨s4,o4,o5,o6,o7,o8,rfl⟩
      obtain ⟨p,c,k,x',y',wd,rfl,hp,⟨_,hx⟩,⟨_,hy⟩,ec⟩:=hxs2 u (List.mem_of_getElem? hu)
      rw [Nat.zero_add] at hx hy
      refine ⟨p,_,rfl,SqT.of (s4 _ _ hp),rfl,_,_,rfl,_,_,rfl,_,_,rfl,_,_,rfl,_,_,rfl,rfl,?_⟩
      refine ⟨_,rfl,_,rfl,_,rfl,_,rfl,_,_,rfl,rfl,_,rfl,vt,t,n,2 ^ n - 1 - y',x',?_,ht.up (s12.trans (s3.trans s4)).tups,dt,?_⟩
      · show [vt,V.int (n:Int),V.int (((2 ^ n - 1:Nat):Int) - (y':Int)),V.int (x':Int)]=_
        rw [show ((2 ^ n - 1:Nat):Int) - (y':Int)=((2 ^ n - 1 - y':Nat):Int) by omega]
      have key:colAt n t (2 ^ n - 1 - y') x'=colAt n (rear oL t) x' y':=col_back 0 dt hx hy
      rw [key,ec]
      exact ⟨_,rfl,rfl,_,rfl,iteNS rfl ⟨s4,_,_,_,_,_,rfl⟩⟩
    · rintro σ H4 ⟨s4,o4,o5,o6,o7,o8,rfl⟩
      exact q' H4 (s12.trans (s3.trans s4))
end
end Qs


namespace Qs
open PySem L2
theorem norm_cnt:∀ t:Tr,cnt (norm t)≤cnt t
  | .col i=>Nat.le_refl _
  | .four a b c d=>by
    have h1:=norm_cnt a
    have h2:=norm_cnt b
    have h3:=norm_cnt c
    have h4:=norm_cnt d
    have:=cnt_gath (norm a) (norm b) (norm c) (norm d)
    show cnt (gath (norm a) (norm b) (norm c) (norm d))≤cnt a + cnt b + cnt c + cnt d
    omega

def HandV (H:Hp) (v:V) (n:Nat) (t u:Tr) (kvs:List (Key × V)) (kvt:List (List Key × V)):Prop:=∃ (h r0 r1 dk dt:Addr) (us vs:List V),v=.ref h∧H h=some (.lst [.ref r0,.ref r1,.ref dk,.ref dt])∧H r0=some (.lst us)∧PasAt H n us (lvs [] t)∧H r1=some (.lst vs)∧PasAt H n vs (lvs [] u)∧H dk=some (.dK kvs)∧H dt=some (.dT kvt)
theorem HandV.up {H H':Hp} {v:V} {n:Nat} {t u:Tr} {kvs:List (Key × V)} {kvt:List (List Key × V)} (h:HandV H v n t u kvs kvt) (s:Same H H'):HandV H' v n t u kvs kvt:=by
  obtain ⟨h,r0,r1,dk,dt,us,vs,e,h1,h2,h3,h4,h5,h6,h7⟩:=h
  exact ⟨h,r0,r1,dk,dt,us,vs,e,s _ _ h1,s _ _ h2,h3.up s.tups,s _ _ h4,h5.up s.tups,s _ _ h6,s _ _ h7⟩
def rowD (T:Tr):PyData:=.list (((lvs [] T).map paT).map paData)
theorem pas_dat {H:Hp} {n:Nat} {l:Addr} {us:List V} {T:Tr} (hl:H l=some (.lst us)) (h:PasAt H n us (lvs [] T)):Dat H (.ref l) (rowD T)∧SeqAt.shaped (rowD T)=true:=by
  obtain ⟨k1,k2⟩:=h.dats2
  exact ⟨.lst hl k1,paList_shaped k2⟩
theorem pa_depth:∀ A:List (Str × Int),PyData.depthAll (A.map paData)≤1
  | []=>Nat.zero_le _
  | q::A=>by
    have ih:=pa_depth A
    show max (max 0 (max 0 0) + 1) (PyData.depthAll (A.map paData))≤1
    omega
theorem row_depth (T:Tr):(rowD T).depth≤2:=by
  have:=pa_depth ((lvs [] T).map paT)
  show PyData.depthAll (((lvs [] T).map paT).map paData) + 1≤2
  omega
theorem lay_of {d:PyData} (h:SeqAt.shaped d=true):d.canLay0=true:=by
  unfold SeqAt.shaped at h
  exact (Bool.and_eq_true_iff.mp h).1
theorem shaped3 {A B C:Tr} (ha:SeqAt.shaped (rowD A)=true) (hb:SeqAt.shaped (rowD B)=true) (hc:SeqAt.shaped (rowD C)=true):SeqAt.shaped (.list [rowD A,rowD B,rowD C])=true:=by
  unfold SeqAt.shaped
  show (((rowD A).canLay0 && ((rowD B).canLay0 && ((rowD C).canLay0 && true))) && decide (max (rowD A).depth (max (rowD B).depth (max (rowD C).depth 0)) + 1≤64))=true
  have h1:=row_depth A
  have h2:=row_depth B
  have h3:=row_depth C
  rw [lay_of ha,lay_of hb,lay_of hc,decide_eq_true (by omega)]
  rfl

def Rows3 (H:Hp) (v:V) (n:Nat) (A B C:Tr):Prop:=∃ (l a b c:Addr) (ua ub uc:List V),v=.ref l∧H l=some (.lst [.ref a,.ref b,.ref c])∧H a=some (.lst ua)∧PasAt H n ua (lvs [] A)∧H b=some (.lst ub)∧PasAt H n ub (lvs [] B)∧H c=some (.lst uc)∧PasAt H n uc (lvs [] C)
theorem Rows3.up {H H':Hp} {v:V} {n:Nat} {A B C:Tr} (h:Rows3 H v n A B C) (s:Same H H'):Rows3 H' v n A B C:=by
  obtain ⟨l,a,b,c,ua,ub,uc,e,h1,h2,h3,h4,h5,h6,h7⟩:=h
  exact ⟨l,a,b,c,ua,ub,uc,e,s _ _ h1,s _ _ h2,h3.up s.tups,s _ _ h4,h5.up s.tups,s _ _ h6,h7.up s.tups⟩
theorem Rows3.dat {H:Hp} {v:V} {n:Nat} {A B C:Tr} (h:Rows3 H v n A B C):Dat H v (.list [rowD A,rowD B,rowD C])∧SeqAt.shaped (.list [rowD A,rowD B,rowD C])=true:=by
  obtain ⟨l,a,b,c,ua,ub,uc,rfl,h1,h2,h3,h4,h5,h6,h7⟩:=h
  obtain ⟨d1,s1⟩:=pas_dat h2 h3
  obtain ⟨d2,s2⟩:=pas_dat h4 h5
  obtain ⟨d3,s3⟩:=pas_dat h6 h7
  exact ⟨.lst h1 (.cons d1 (.cons d2 (.cons d3 .nil))),shaped3 s1 s2 s3⟩
theorem hand_eq {H:Hp} {v w:V} {n:Nat} {t u:Tr} {kvs:List (Key × V)} {kvt:List (List Key × V)} (h1:HandV H v n t u kvs kvt) (h2:HandV H w n t u kvs kvt) (ik:intKs kvs) (it:intTs kvt) {Q:VK} (q:Q (.bl false) H):rSameL false v w H Q:=by
  obtain ⟨a,r0,r1,dk,dt,us,vs,rfl,ha,g1,g2,g3,g4,g5,g6⟩:=h1
  obtain ⟨c,r0',r1',dk',dt',us',vs',rfl,hc,g1',g2',g3',g4',g5',g6'⟩:=h2
  refine ⟨a,c,_,_,rfl,rfl,ha,hc,rfl,fun i x y hx hy => ?_,q⟩
  rcases i with _ | _ | _ | _ | i
  · cases hx; cases hy
    exact .inl ⟨_,(pas_dat g1 g2).1,(pas_dat g1' g2').1,(pas_dat g1 g2).2⟩
  · cases hx; cases hy
    exact .inl ⟨_,(pas_dat g3 g4).1,(pas_dat g3' g4').1,(pas_dat g3 g4).2⟩
  · cases hx; cases hy
    exact .inr (.inl ⟨_,_,_,rfl,rfl,g5,g5',ik⟩)
  · cases hx; cases hy
    exact .inr (.inr ⟨_,_,_,rfl,rfl,g6,g6',it⟩)
  · cases hx
section
variable {P:Program} {w:World} {K:PySem.W.Frag} {mg:Str→Option Value} {base:Heap} {CX:CXT} {f:Addr} {fd:FuncData}
abbrev s_law_told_anew:Stmt:=top 46
theorem sc_law_told_anew:FnScope ["_law_handed","_law_due_here","_law_some","_law_told","_law_k","_law_again"] ["_law_handed","_law_due_here","_law_some"] (defScope s_law_told_anew):=⟨rfl,rfl,rfl,by decide +kernel,rfl,by decide +kernel,by decide +kernel⟩
def sp_law_told_anew:Sp:=fun vs H Q _=>∃ (vh vd vo:V) (n:Nat) (t u:Tr) (kvs:List (Key × V)) (kvt:List (List Key × V)),vs=[vh,vd,vo]∧HandV H vh n t u kvs kvt∧HandV H vd n t u kvs kvt∧Rows3 H vo n (blend (gTab key1 kvs) n [t]) (blend (gTab key2 kvt) n [t,u]) (rear oL t)∧Good n t∧Good n u∧n≤40∧cnt t≤1460∧cnt u≤1460∧Cols kvs∧Cols kvt∧intKs kvs∧intTs kvt ∧
  ∀ H',Same H H'→Q (.bl true) H'
theorem ok_law_told_anew (T:Tx K mg) (q:Quiet CX) (F:FunD K "_law_told_anew" "_law_told_anew" s_law_told_anew f fd .none) (C_row_mapped:Fok P w K mg base CX 3 "row_mapped" ["row","turned"] [] sp_row_mapped) (C_row_mixed:Fok P w K mg base CX 3 "row_mixed" ["row","other","table"] [] sp_row_mixed) (C_row_turned:Fok P w K mg base CX 1 "row_turned" ["row"] [] sp_row_turned):FnOk P w K mg base CX 4 f fd ["_law_handed","_law_due_here","_law_some"] sp_law_told_anew:=by
  refine F.ok sc_law_told_anew (fun vs H Q E h => ?_) (fun cdv A outer s H vs Q E hr h => ?_)
  · obtain ⟨_,_,_,_,_,_,_,_,rfl,_⟩:=h
    rfl
  obtain ⟨vh,vd,vo,n,t,u,kvs,kvt,rfl,hh,hd,ho,gt,gu,hn,ct,cu,ck,ckt,ik,it,q'⟩:=h
  refine ⟨_,(pss_cons (ps_set (i:=3) sc_law_told_anew.nd rfl (Or.inl rfl) (pe_lstx (pax_c (pe_callF C_row_mapped q hr (pa_cons (pe_ix ix_list (pv 0) pe_int (fun _ _=>rfl)) (pa_cons (pe_ix ix_list (pv 0) pe_int (fun _ _=>rfl)) pa_nil))) (pax_c (pe_callF C_row_mixed q hr (pa_cons (pe_ix ix_list (pv 0) pe_int (fun _ _=>rfl)) (pa_cons (pe_ix ix_list (pv 0) pe_int (fun _ _=>rfl)) (pa_cons (pe_ix ix_list (pv 0) pe_int (fun _ _=>rfl)) pa_nil)))) (pax_c (pe_callF C_row_turned q hr (pa_cons (pe_ix ix_list (pv 0) pe_int (fun _ _=>rfl)) pa_nil)) pax_nil))))) (pss_cons (ps_set (i:=3) sc_law_told_anew.nd rfl (Or.inl rfl) (pe_op op_cat (pv 3) (pe_lstx (pax_c (pe_callF C_row_mapped q hr (pa_cons (pe_ix ix_list (pv 0) pe_int (fun _ _=>rfl)) (pa_cons pe_dnewK pa_nil))) (pax_c (pe_callF C_row_mixed q hr (pa_cons (pe_ix ix_list (pv 0) pe_int (fun _ _=>rfl)) (pa_cons (pe_ix ix_list (pv 0) pe_int (fun _ _=>rfl)) (pa_cons pe_dnewT pa_nil)))) pax_nil))))) (pss_cons (ps_if (PW.pt (pw_or (pt_cmpR (op_neD hr) (pe_slice sl_list (pv 3) po_none (po_some pe_int)) (pv 2) (nomark _)) (pw_or (pt_cmpR (op_neD hr) (pe_ix ix_list (pv 3) pe_int (fun _ _=>rfl)) (pe_ix ix_list (pv 1) pe_int (fun _ _=>rfl)) (nomark _)) (pw_or1 (pt_cmpR (op_neD hr) (pe_ix ix_list (pv 3) pe_int (fun _ _=>rfl)) (pe_ix ix_list (pv 1) pe_int (fun _ _=>rfl)) (nomark _)))))) (pss_one (ps_ret pe_bl)) pss_nil) (pss_cons (ps_for PassesOwn.never rfl (pi_range1 rfl T.b_range (pa_cons pe_int pa_nil)) (pg_name (i:=4) sc_law_told_anew.nd rfl (Or.inl rfl)) (pss_cons (ps_expr (pe_bm PySem.F.plainAttrs_list PySem.F.slot_list_append PySem.F.type_list_append mt_append (pe_ix ix_list (pv 3) (pv 4) (fun _ _=>rfl)) (pa_cons (pe_tupx (pax_c pe_str (pax_c pe_int pax_nil))) pa_nil))) (pss_one (ps_expr (pe_bm0 PySem.F.plainAttrs_list PySem.F.slot_list_reverse PySem.F.type_list_reverse mt_reverse (pe_ix ix_list (pv 3) (pv 4) (fun _ _=>rfl))))))) (pss_cons (ps_if (pt_cmpR (op_neL hr) (pv 0) (pv 1) (nomark _)) (pss_one (ps_ret pe_bl)) pss_nil) (pss_cons (ps_set (i:=5) sc_law_told_anew.nd rfl (Or.inl rfl) (pe_lstx (pax_c (pe_callF C_row_mapped q hr (pa_cons (pe_ix ix_list (pv 0) pe_int (fun _ _=>rfl)) (pa_cons (pe_ix ix_list (pv 0) pe_int (fun _ _=>rfl)) pa_nil))) (pax_c (pe_callF C_row_mixed q hr (pa_cons (pe_ix ix_list (pv 0) pe_int (fun _ _=>rfl)) (pa_cons (pe_ix ix_list (pv 0) pe_int (fun _ _=>rfl)) (pa_cons (pe_ix ix_list (pv 0) pe_int (fun _ _=>rfl)) pa_nil)))) (pax_c (pe_callF C_row_turned q hr (pa_cons (pe_ix ix_list (pv 0) pe_int (fun _ _=>rfl)) pa_nil)) pax_nil))))) (pss_one (ps_ret (pe_cmpR (op_eqD hr) (pv 5) (pv 2) (nomark _)))))))))),?_⟩
  obtain ⟨h,r0,r1,dk,dt,us,vs,rfl,hhh,g1,g2,g3,g4,g5,g6⟩:=id hh
  refine ⟨_,rfl,h,_,_,.ref r0,rfl,rfl,SqL.of hhh,rfl,_,rfl,h,_,_,.ref dk,rfl,rfl,SqL.of hhh,rfl,r0,dk,us,t,n,kvs,rfl,g1,g2,gt,hn,by omega,g5,ck,fun l1 y1 H1 s1 n1 u1 p1 => ?_⟩
  refine ⟨_,rfl,h,_,_,.ref r0,rfl,rfl,SqL.of (s1 _ _ hhh),rfl,_,rfl,h,_,_,.ref r1,rfl,rfl,SqL.of (s1 _ _ hhh),rfl,_,rfl,h,_,_,.ref dt,rfl,rfl,SqL.of (s1 _ _ hhh),rfl,r0,r1,dt,us,vs,t,u,n,kvt,rfl,s1 _ _ g1,s1 _ _ g3,g2.up s1.tups,g4.up s1.tups,gt,gu,hn,by omega,by omega,s1 _ _ g6,ckt,fun l2 y2 H2 s2 n2 u2 p2 => ?_⟩
  have s12:=s1.trans s2
  refine ⟨_,rfl,h,_,_,.ref r0,rfl,rfl,SqL.of (s12 _ _ hhh),rfl,r0,us,t,n,rfl,s12 _ _ g1,g2.up s12.tups,gt,hn,by omega,fun l3 y3 H3 s3 n3 u3 p3 => ?_⟩
  have s13:=s12.trans s3
  refine ⟨(by show 3≤sizeLine; decide),fun la hla => ?_⟩
  have s4:=Same.new hla (.lst [.ref l1,.ref l2,.ref l3])
  have w4:upd H3 la (.lst [.ref l1,.ref l2,.ref l3]) la=some (.lst [.ref l1,.ref l2,.ref l3]):=upd_same
  generalize upd H3 la (.lst [.ref l1,.ref l2,.ref l3])=H4 at *
  have s04:=s13.trans s4
  refine ⟨_,rfl,_,rfl,h,_,_,.ref r0,rfl,rfl,SqL.of (s04 _ _ hhh),rfl,fun de hde => ?_⟩
  have s5:=Same.new hde (.dK [])
  have w5:upd H4 de (.dK []) de=some (.dK []):=upd_same
  generalize upd H4 de (.dK [])=H5 at *
  have s05:=s04.trans s5
  refine ⟨r0,de,us,t,n,[],rfl,s05 _ _ g1,g2.up s05.tups,gt,hn,by omega,w5,Cols.nil,fun l4 y4 H6 s6 n6 u6 p6 => ?_⟩
  rw [blend_tab0 key1 gt (by intro x hx; cases hx)] at p6
  have s06:=s05.trans s6
  refine ⟨_,rfl,h,_,_,.ref r0,rfl,rfl,SqL.of (s06 _ _ hhh),rfl,_,rfl,h,_,_,.ref r1,rfl,rfl,SqL.of (s06 _ _ hhh),rfl,fun df hdf => ?_⟩
  have s7:=Same.new hdf (.dT [])
  have w7:upd H6 df (.dT []) df=some (.dT []):=upd_same
  generalize upd H6 df (.dT [])=H7 at *
  have s07:=s06.trans s7
  refine ⟨r0,r1,df,us,vs,t,u,n,[],rfl,s07 _ _ g1,s07 _ _ g3,g2.up s07.tups,g4.up s07.tups,gt,gu,hn,by omega,by omega,w7,Cols.nil,fun l5 y5 H8 s8 n8 u8 p8 => ?_⟩
  rw [blend_tab0 key2 gt (by intro x hx; rw [List.mem_singleton.mp hx]; exact gu)] at p8
  have s08:=s07.trans s8
  refine ⟨(by show 2≤sizeLine; decide),fun lb hlb => ?_⟩
  have s9:=Same.new hlb (.lst [.ref l4,.ref l5])
  have w9:upd H8 lb (.lst [.ref l4,.ref l5]) lb=some (.lst [.ref l4,.ref l5]):=upd_same
  generalize upd H8 lb (.lst [.ref l4,.ref l5])=H9 at *
  have s09:=s08.trans s9
  have s49:=s5.trans (s6.trans (s7.trans (s8.trans s9)))
  refine ⟨la,lb,_,_,rfl,rfl,s49 _ _ w4,w9,(by show 5≤sizeLine; decide),fun lt hlt => ?_⟩
  have s10:=Same.new hlt (.lst ([V.ref l1,.ref l2,.ref l3]++[V.ref l4,.ref l5]))
  have w10:upd H9 lt (.lst ([V.ref l1,.ref l2,.ref l3]++[V.ref l4,.ref l5])) lt=some (.lst [V.ref l1,.ref l2,.ref l3,.ref l4,.ref l5]):=upd_same
  generalize upd H9 lt (.lst ([V.ref l1,.ref l2,.ref l3]++[V.ref l4,.ref l5]))=H10 at *
  have s0a:=s09.trans s10
  have f10:Same H3 H10:=s4.trans (s49.trans s10)
  refine ⟨_,rfl,3,rfl,lt,_,rfl,SqL.of w10,fun lc hlc => ?_⟩
  have s11:=Same.new hlc (.lst (cutV [V.ref l1,.ref l2,.ref l3,.ref l4,.ref l5] none (some 3)))
  have w11:upd H10 lc (.lst (cutV [V.ref l1,.ref l2,.ref l3,.ref l4,.ref l5] none (some 3))) lc=some (.lst [.ref l1,.ref l2,.ref l3]):=by rw [upd_same]; rfl
  generalize upd H10 lc (.lst (cutV [V.ref l1,.ref l2,.ref l3,.ref l4,.ref l5] none (some 3)))=H11 at *
  have s0b:=s0a.trans s11
  have f11:Same H3 H11:=f10.trans s11
  have k1:Rows3 H11 (.ref lc) n (blend (gTab key1 kvs) n [t]) (blend (gTab key2 kvt) n [t,u]) (rear oL t):=⟨lc,l1,l2,l3,y1,y2,y3,rfl,w11,f11 _ _ (s3 _ _ (s2 _ _ u1)),p1.up (s2.trans (s3.trans f11)).tups,f11 _ _ (s3 _ _ u2),p2.up (s3.trans f11).tups,f11 _ _ u3,p3.up f11.tups⟩
  obtain ⟨D1,S1⟩:=k1.dat
  obtain ⟨D2,_⟩:=(ho.up s0b).dat
  refine ⟨_,rfl,_,_,D1,D2,S1,S1,?_⟩
  rw [SeqAt.eqv_refl _ (SeqAt.canLay_of_shaped S1)]
  have lt11:=s11 _ _ w10
  have hd11:=hd.up s0b
  obtain ⟨hx,q0,q1,ek,et,xs,zs,rfl,e1,e2,e3,_⟩:=id hd11
  refine ⟨_,rfl,iteF ?_⟩
  have a4:H11 l4=some (.lst y4):=(s7.trans (s8.trans (s9.trans (s10.trans s11)))) _ _ u6
  have a5:H11 l5=some (.lst y5):=(s9.trans (s10.trans s11)) _ _ u8
  have b4:=pas_dat a4 (p6.up (s7.trans (s8.trans (s9.trans (s10.trans s11)))).tups)
  have b5:=pas_dat a5 (p8.up (s9.trans (s10.trans s11)).tups)
  have b0:=pas_dat e2 e3
  refine ⟨_,rfl,lt,_,_,.ref l4,rfl,rfl,SqL.of lt11,rfl,_,rfl,hx,_,_,.ref q0,rfl,rfl,SqL.of e1,rfl,_,_,b4.1,b0.1,b4.2,b0.2,?_⟩
  rw [SeqAt.eqv_refl _ (SeqAt.canLay_of_shaped b0.2)]
  refine ⟨_,rfl,iteF ?_⟩
  refine ⟨_,rfl,lt,_,_,.ref l5,rfl,rfl,SqL.of lt11,rfl,_,rfl,hx,_,_,.ref q0,rfl,rfl,SqL.of e1,rfl,_,_,b5.1,b0.1,b5.2,b0.2,?_⟩
  rw [SeqAt.eqv_refl _ (SeqAt.canLay_of_shaped b0.2)]
  refine ⟨_,rfl,iteF ?_⟩
  have fr:∀ (i:Nat) (v:V),[V.ref l1,.ref l2,.ref l3,.ref l4,.ref l5][i]? = some v→∃ (a:Addr) (ys:List V),v=.ref a∧H a=none∧a≠lt∧H11 a=some (.lst ys)∧ys.length≤9000:=fun i v hv=>by
    have b1:=p1.len
    have b2:=p2.len
    have b3:=p3.len
    have b6:=p6.len
    have b8:=p8.len
    rw [lvs_count] at b1 b2 b3 b6 b8
    have c1:cnt (blend (gTab key1 kvs) n [t])≤9000:=by rw [blend_one _ n t gt.deep]; exact Nat.le_trans (norm_cnt _) (by rw [map_cnt]; omega)
    have c2:cnt (blend (gTab key2 kvt) n [t,u])≤9000:=by rw [blend_zip _ n t u gt.deep gu.deep]; exact Nat.le_trans (norm_cnt _) (Nat.le_trans (zip_cnt' _ t u) (by omega))
    have c3:cnt (rear oL t)≤9000:=by rw [show oL=od 0 from rfl,cnt_od]; omega
    have x1:H9 l1=some (.lst y1):=(s2.trans (s3.trans (s4.trans s49))) _ _ u1
    have x2:H9 l2=some (.lst y2):=(s3.trans (s4.trans s49)) _ _ u2
    have x3:H9 l3=some (.lst y3):=(s4.trans s49) _ _ u3
    have x4:H9 l4=some (.lst y4):=(s7.trans (s8.trans s9)) _ _ u6
    have x5:H9 l5=some (.lst y5):=s9 _ _ u8
    have fin:=s10.trans s11
    rcases i with _ | _ | _ | _ | _ | i
    · exact ⟨l1,y1,(Option.some.inj hv).symm,n1,ne_of_none x1 hlt,fin _ _ x1,by omega⟩
    · exact ⟨l2,y2,(Option.some.inj hv).symm,s1.free n2,ne_of_none x2 hlt,fin _ _ x2,by omega⟩
    · exact ⟨l3,y3,(Option.some.inj hv).symm,s12.free n3,ne_of_none x3 hlt,fin _ _ x3,by omega⟩
    · exact ⟨l4,y4,(Option.some.inj hv).symm,s05.free n6,ne_of_none x4 hlt,fin _ _ x4,by omega⟩
    · exact ⟨l5,y5,(Option.some.inj hv).symm,s07.free n8,ne_of_none x5 hlt,fin _ _ x5,by omega⟩
    · cases hv
  have nlt:H lt=none:=s09.free hlt
  refine ⟨5,rfl,by decide,by decide,for_range (fun j σ H12=>Same H H12∧H12 lt=some (.lst [V.ref l1,.ref l2,.ref l3,.ref l4,.ref l5])∧(∀ (i:Nat) (v:V),[V.ref l1,.ref l2,.ref l3,.ref l4,.ref l5][i]? = some v→∃ (a:Addr) (ys:List V),v=.ref a∧H a=none∧a≠lt∧H12 a=some (.lst ys)∧ys.length≤9000 + j)∧∃ o4:Option V,σ=[some (.ref h),some (.ref hx),some vo,some (.ref lt),o4,none]) ⟨s0b,lt11,fr,none,rfl⟩ ?_ ?_⟩
  · rintro j σ H12 hj ⟨sm,ht,hf,o4,rfl⟩
    have hj5:j < 5:=hj
    rw [show (0:Int) + (j:Int)=(j:Int) from Int.zero_add _]
    obtain ⟨v,hv⟩:∃ v,[V.ref l1,.ref l2,.ref l3,.ref l4,.ref l5][j]? = some v:=⟨_,List.getElem?_eq_getElem (by show j < 5; exact hj5)⟩
    obtain ⟨a,ys,rfl,na,ne,ha,ly⟩:=hf j v hv
    refine ⟨_,rfl,_,rfl,lt,_,_,.ref a,rfl,rfl,SqL.of ht,atI_nat hv,.inl ⟨rfl,_,SqL.of ha⟩,(by show 2≤sizeLine; decide),fun pe hpe => ?_⟩
    have sp:=Same.new hpe (.tup [.str (Str.ofString ""),.int 0])
    generalize upd H12 pe (.tup [.str (Str.ofString ""),.int 0])=H13 at *
    refine ⟨a,ys,_,rfl,rfl,sp _ _ ha,big' (by omega),?_⟩
    have ha14:upd H13 a (.lst (ys++[.ref pe])) a=some (.lst (ys++[.ref pe])):=upd_same
    have ht14:upd H13 a (.lst (ys++[.ref pe])) lt=some (.lst [V.ref l1,.ref l2,.ref l3,.ref l4,.ref l5]):=by rw [upd_ne ne.symm]; exact sp _ _ ht
    refine ⟨_,rfl,_,rfl,lt,_,_,.ref a,rfl,rfl,SqL.of ht14,atI_nat hv,.inl ⟨rfl,_,SqL.of ha14⟩,a,_,rfl,rfl,ha14,?_⟩
    rw [upd_upd]
    refine ⟨Same.set (sm.trans sp) na _,by rw [upd_ne ne.symm]; exact sp _ _ ht,fun i v' hv' => ?_,_,rfl⟩
    obtain ⟨a',ys',e',na',ne',ha',ly'⟩:=hf i v' hv'
    by_cases e:a'=a
    · subst e
      refine ⟨a',_,e',na',ne',upd_same,?_⟩
      rw [List.length_reverse,List.length_append]
      show ys.length + 1≤9000 + (j + 1)
      omega
    · exact ⟨a',ys',e',na',ne',by rw [upd_ne e]; exact sp _ _ ha',by omega⟩
  · rintro σ H12 ⟨sm,ht,hf,o4,rfl⟩
    refine ⟨_,rfl,_,rfl,hand_eq (hh.up sm) (hd.up sm) ik it ⟨_,rfl,iteF ?_⟩⟩
    refine ⟨_,rfl,h,_,_,.ref r0,rfl,rfl,SqL.of (sm _ _ hhh),rfl,_,rfl,h,_,_,.ref dk,rfl,rfl,SqL.of (sm _ _ hhh),rfl,r0,dk,us,t,n,kvs,rfl,sm _ _ g1,g2.up sm.tups,gt,hn,by omega,sm _ _ g5,ck,fun m1 z1 I1 t1 _ v1 r1' => ?_⟩
    have sm1:=sm.trans t1
    refine ⟨_,rfl,h,_,_,.ref r0,rfl,rfl,SqL.of (sm1 _ _ hhh),rfl,_,rfl,h,_,_,.ref r1,rfl,rfl,SqL.of (sm1 _ _ hhh),rfl,_,rfl,h,_,_,.ref dt,rfl,rfl,SqL.of (sm1 _ _ hhh),rfl,r0,r1,dt,us,vs,t,u,n,kvt,rfl,sm1 _ _ g1,sm1 _ _ g3,g2.up sm1.tups,g4.up sm1.tups,gt,gu,hn,by omega,by omega,sm1 _ _ g6,ckt,fun m2 z2 I2 t2 _ v2 r2' => ?_⟩
    have sm2:=sm1.trans t2
    refine ⟨_,rfl,h,_,_,.ref r0,rfl,rfl,SqL.of (sm2 _ _ hhh),rfl,r0,us,t,n,rfl,sm2 _ _ g1,g2.up sm2.tups,gt,hn,by omega,fun m3 z3 I3 t3 _ v3 r3' => ?_⟩
    refine ⟨(by show 3≤sizeLine; decide),fun lz hlz => ?_⟩
    have t4:=Same.new hlz (.lst [.ref m1,.ref m2,.ref m3])
    have v4:upd I3 lz (.lst [.ref m1,.ref m2,.ref m3]) lz=some (.lst [.ref m1,.ref m2,.ref m3]):=upd_same
    generalize upd I3 lz (.lst [.ref m1,.ref m2,.ref m3])=I4 at *
    have sm4:=sm2.trans (t3.trans t4)
    have k2:Rows3 I4 (.ref lz) n (blend (gTab key1 kvs) n [t]) (blend (gTab key2 kvt) n [t,u]) (rear oL t):=⟨lz,m1,m2,m3,z1,z2,z3,rfl,v4,(t2.trans (t3.trans t4)) _ _ v1,r1'.up (t2.trans (t3.trans t4)).tups,(t3.trans t4) _ _ v2,r2'.up (t3.trans t4).tups,t4 _ _ v3,r3'.up t4.tups⟩
    obtain ⟨D3,S3⟩:=k2.dat
    obtain ⟨D4,_⟩:=(ho.up sm4).dat
    refine ⟨_,rfl,_,rfl,_,_,D3,D4,S3,S3,?_⟩
    rw [SeqAt.eqv_refl _ (SeqAt.canLay_of_shaped S3)]
    exact q' _ sm4
end
end Qs


namespace Qs
open PySem L2
def IntK (kvs:List (Key × V)):Prop:=∀ kv∈kvs,∃ i,kv.1=Sum.inl i
theorem IntK.put {kvs:List (Key × V)} (h:IntK kvs) (i:Int) (v:V):IntK (putK kvs (Sum.inl i) v):=by
  intro kv hkv
  unfold putK at hkv
  split at hkv
  · obtain ⟨z,hz,rfl⟩:=List.mem_map.mp hkv
    split
    · exact ⟨i,by assumption⟩
    · exact h z hz
  · rcases List.mem_append.mp hkv with hkv | hkv
    · exact h kv hkv
    · rw [List.mem_singleton.mp hkv]; exact ⟨i,rfl⟩
theorem Keys2.ints {kvs:List (List Key × V)} (h:Keys2 kvs) (c:Cols kvs):intTs kvs:=⟨fun kv m k hk=>by
  obtain ⟨a,b,_,_,e⟩:=h.2 kv m
  rw [e] at hk
  rcases List.mem_cons.mp hk with rfl | hk
  · exact ⟨_,rfl⟩
  · rw [List.mem_singleton.mp hk]; exact ⟨_,rfl⟩,flat_cols c⟩
theorem cm9 (b:Bool):CMul 9 (if b then 1 else 0):=.inl ⟨by decide,by decide⟩
section
variable {P:Program} {w:World} {K:PySem.W.Frag} {mg:Str→Option Value} {base:Heap} {CX:CXT} {f:Addr} {fd:FuncData}
abbrev s_law:Stmt:=top 47
theorem sc_law:FnScope ["_law_script","_law_level","_law_most","_law_one","_law_two","_law_rows","_law_turned","_law_table","_law_k","_law_cell","_law_pair","_law_handed","_law_some","_law_trees","_law_kept","_law_sheet"] ["_law_script"] (defScope s_law):=⟨rfl,rfl,rfl,by decide +kernel,rfl,by decide +kernel,by decide +kernel⟩
def sp_law (K:PySem.W.Frag) (Tb:List (Addr × Str)):Sp:=fun vs H Q _=>∃ (a:Addr) (ns:List Int),vs=[.ref a]∧SqL K H a (ns.map V.int)∧ns.length≤63∧Tabs Tb H∧∀ H',Q (.bl true) H'
theorem ok_law (T:Tx K mg) (q:Quiet CX) {Tb:List (Addr × Str)} (F:FunD K "law" "law" s_law f fd .none) (C__law_at:Fok P w K mg base CX 1 "_law_at" ["_law_script","_law_k"] [] (sp_law_at K)) (C__law_level_by:Fok P w K mg base CX 1 "_law_level_by" ["_law_cell"] [] sp_law_level_by)
    (C__law_tree_by:Fok P w K mg base CX 43 "_law_tree_by" ["_law_script","_law_first","_law_level","_law_many"] [] (sp_law_tree_by K)) (C__law_leaves:Fok P w K mg base CX 42 "_law_leaves" ["_law_tree","_law_code"] [] (sp_law_leaves 41)) (C__law_colour_by:Fok P w K mg base CX 2 "_law_colour_by" ["_law_script","_law_cell","_law_k"] [] (sp_law_colour_by K))
    (C_row_mapped:Fok P w K mg base CX 3 "row_mapped" ["row","turned"] [] sp_row_mapped) (C_row_mixed:Fok P w K mg base CX 3 "row_mixed" ["row","other","table"] [] sp_row_mixed) (C_row_turned:Fok P w K mg base CX 1 "row_turned" ["row"] [] sp_row_turned) (C__law_tree_of:Fok P w K mg base CX 43 "_law_tree_of" ["_law_row"] [] sp_law_tree_of)
    (C__law_agrees:Fok P w K mg base CX 43 "_law_agrees" ["_law_found","_law_trees","_law_rule"] [] (sp_law_agrees 41)) (C__law_is_turned:Fok P w K mg base CX 42 "_law_is_turned" ["_law_found","_law_tree","_law_level"] [] sp_law_is_turned) (C__law_told_anew:Fok P w K mg base CX 4 "_law_told_anew" ["_law_handed","_law_due_here","_law_some"] [] sp_law_told_anew)
    (C_leaves:Fok P w K mg base CX 43 "leaves" ["sheet"] [] sp_leaves) (C_mapped:Fok P w K mg base CX 45 "mapped" ["sheet","turned"] [] (sp_mapped Tb)) (C_mixed:Fok P w K mg base CX 45 "mixed" ["one","other","table"] [] (sp_mixed Tb)) (C_turned_left:Fok P w K mg base CX 42 "turned_left" ["sheet"] [] (sp_turn oL)):FnOk P w K mg base CX 46 f fd ["_law_script"] (sp_law K Tb):=by
  refine F.ok sc_law (fun vs H Q E h => ?_) (fun cdv A outer s H vs Q E hr h => ?_)
  · obtain ⟨_,_,rfl,_⟩:=h
    rfl
  obtain ⟨a,ns,rfl,hS,h63,hTb,q'⟩:=h
  refine ⟨_,(pss_cons (ps_set (i:=1) sc_law.nd rfl (Or.inl rfl) (pe_callF C__law_level_by q hr (pa_cons (pe_callF C__law_at q hr (pa_cons (pv 0) (pa_cons pe_int pa_nil))) pa_nil))) (pss_cons (ps_set (i:=2) sc_law.nd rfl (Or.inl rfl) (pe_op op_sub pe_int (pe_op op_mul pe_int (pe_callTy call_int1 rfl T.b_int bt_int (pa_cons (pe_cmpR op_gt (pv 1) pe_int (nomark _)) pa_nil))))) (pss_cons (ps_set (i:=3) sc_law.nd rfl (Or.inl rfl) (pe_callF C__law_tree_by q hr (pa_cons (pv 0) (pa_cons pe_int (pa_cons (pv 1) (pa_cons (pe_callB (call_min2 rfl) rfl T.b_min bb_min (pa_cons (pv 2) (pa_cons (pe_op op_mod (pe_callF C__law_at q hr (pa_cons (pv 0) (pa_cons pe_int pa_nil))) pe_int) pa_nil))) pa_nil)))))) (pss_cons (ps_set (i:=4) sc_law.nd rfl (Or.inl rfl) (pe_callF C__law_tree_by q hr (pa_cons (pv 0) (pa_cons pe_int (pa_cons (pv 1) (pa_cons (pe_callB (call_min2 rfl) rfl T.b_min bb_min (pa_cons (pv 2) (pa_cons (pe_op op_mod (pe_op op_fdivW (pe_callF C__law_at q hr (pa_cons (pv 0) (pa_cons pe_int pa_nil))) pe_int) pe_int) pa_nil))) pa_nil)))))) (pss_cons (ps_set (i:=5) sc_law.nd rfl (Or.inl rfl) (pe_lstx (pax_c (pe_callF C__law_leaves q hr (pa_cons (pv 3) (pa_cons pe_str pa_nil))) (pax_c (pe_callF C__law_leaves q hr (pa_cons (pv 4) (pa_cons pe_str pa_nil))) pax_nil)))) (pss_cons (ps_set (i:=6) sc_law.nd rfl (Or.inl rfl) pe_dnewK) (pss_cons (ps_set (i:=7) sc_law.nd rfl (Or.inl rfl) pe_dnewT) (pss_cons (ps_for PassesOwn.never rfl (pi_range1 rfl T.b_range (pa_cons (pe_op op_mod (pe_callF C__law_at q hr (pa_cons (pv 0) (pa_cons pe_int pa_nil))) pe_int) pa_nil)) (pg_name (i:=8) sc_law.nd rfl (Or.inl rfl)) (pss_cons (ps_set (i:=9) sc_law.nd rfl (Or.inl rfl) (pe_callF C__law_at q hr (pa_cons (pv 0) (pa_cons (pe_op op_add pe_int (pv 8)) pa_nil)))) (pss_cons (ps_dput hr.dic (pv 6) (pe_callF C__law_colour_by q hr (pa_cons (pv 0) (pa_cons (pv 9) (pa_cons (pe_op op_add pe_int (pv 8)) pa_nil)))) (pe_callF C__law_colour_by q hr (pa_cons (pv 0) (pa_cons (pv 9) (pa_cons (pe_op op_add pe_int (pv 8)) pa_nil)))) (swaps_of rfl)) (pss_cons (ps_set (i:=10) sc_law.nd rfl (Or.inl rfl) (pe_tupx (pax_c (pe_callF C__law_colour_by q hr (pa_cons (pv 0) (pa_cons (pv 9) (pa_cons (pe_op op_add pe_int (pv 8)) pa_nil)))) (pax_c (pe_callF C__law_colour_by q hr (pa_cons (pv 0) (pa_cons (pv 9) (pa_cons (pe_op op_add pe_int (pv 8)) pa_nil)))) pax_nil)))) (pss_one (ps_dput hr.dic (pv 7) (pv 10) (pe_callF C__law_colour_by q hr (pa_cons (pv 0) (pa_cons (pv 9) (pa_cons (pe_op op_add pe_int (pv 8)) pa_nil)))) (swaps_of rfl))))))) (pss_cons (ps_set (i:=11) sc_law.nd rfl (Or.inl rfl) (pe_lstx (pax_c (pe_callTy call_list_of rfl T.b_list bt_list (pa_cons (pe_ix ix_list (pv 5) pe_int (fun _ _=>rfl)) pa_nil)) (pax_c (pe_callTy call_list_of rfl T.b_list bt_list (pa_cons (pe_ix ix_list (pv 5) pe_int (fun _ _=>rfl)) pa_nil)) (pax_c (pe_callTy call_dictD rfl T.b_dict bt_dict (pa_cons (pv 6) pa_nil)) (pax_c (pe_callTy call_dictT rfl T.b_dict bt_dict (pa_cons (pv 7) pa_nil)) pax_nil)))))) (pss_cons (ps_set (i:=12) sc_law.nd rfl (Or.inl rfl) (pe_lstx (pax_c (pe_callF C_row_mapped q hr (pa_cons (pe_ix ix_list (pv 11) pe_int (fun _ _=>rfl)) (pa_cons (pe_ix ix_list (pv 11) pe_int (fun _ _=>rfl)) pa_nil))) (pax_c (pe_callF C_row_mixed q hr (pa_cons (pe_ix ix_list (pv 11) pe_int (fun _ _=>rfl)) (pa_cons (pe_ix ix_list (pv 11) pe_int (fun _ _=>rfl)) (pa_cons (pe_ix ix_list (pv 11) pe_int (fun _ _=>rfl)) pa_nil)))) (pax_c (pe_callF C_row_turned q hr (pa_cons (pe_ix ix_list (pv 11) pe_int (fun _ _=>rfl)) pa_nil)) pax_nil))))) (pss_cons (ps_if (pt_cmpR (op_neL hr) (pv 11) (pe_lstx (pax_c (pe_ix ix_list (pv 5) pe_int (fun _ _=>rfl)) (pax_c (pe_ix ix_list (pv 5) pe_int (fun _ _=>rfl)) (pax_c (pv 6) (pax_c (pv 7) pax_nil))))) (nomark _)) (pss_one (ps_ret pe_bl)) pss_nil) (pss_cons (ps_setC (i0:=13) (N':=["_law_row"]) [] [] [] 1 (by with_unfolding_all rfl) rfl capsOk_nil rfl rfl (by decide) rfl (by decide +kernel) rfl (by decide +kernel) rfl (pi_list (pv 12)) (fun C s0 H0 fp pins=>(pg_name (i:=0) (show (["_law_row"]:List Str).Nodup by decide +kernel) rfl (Or.inl rfl) (Or.inr rfl))) (fun C s0 H0 fp pins=>(pe_callF C__law_tree_of q hr (pa_cons (pv 0) pa_nil))) sc_law.nd rfl (Or.inl rfl)) (pss_cons (ps_if (PW.pt (pw_or (pt_cmpR (op_noneIn hr) pe_non (pv 13) (by with_unfolding_all rfl)) (pw_or1 (pt_not (pt_val (pe_callF C__law_agrees q hr (pa_cons (pe_ix ix_list (pv 13) pe_int (fun _ _=>rfl)) (pa_cons (pe_lstx (pax_c (pv 3) pax_nil)) (pa_cons (pv 6) pa_nil))))))))) (pss_one (ps_ret pe_bl)) pss_nil) (pss_cons (ps_if (PW.pt (pw_or (pt_not (pt_val (pe_callF C__law_agrees q hr (pa_cons (pe_ix ix_list (pv 13) pe_int (fun _ _=>rfl)) (pa_cons (pe_lstx (pax_c (pv 3) (pax_c (pv 4) pax_nil))) (pa_cons (pv 7) pa_nil)))))) (pw_or1 (pt_not (pt_val (pe_callF C__law_is_turned q hr (pa_cons (pe_ix ix_list (pv 13) pe_int (fun _ _=>rfl)) (pa_cons (pv 3) (pa_cons (pv 1) pa_nil))))))))) (pss_one (ps_ret pe_bl)) pss_nil) (pss_cons (ps_setC (i0:=14) (N':=["_law_row"]) [] [] [] 1 (by with_unfolding_all rfl) rfl capsOk_nil rfl rfl (by decide) rfl (by decide +kernel) rfl (by decide +kernel) rfl (pi_list (pv 12)) (fun C s0 H0 fp pins=>(pg_name (i:=0) (show (["_law_row"]:List Str).Nodup by decide +kernel) rfl (Or.inl rfl) (Or.inr rfl))) (fun C s0 H0 fp pins=>(pe_callTy (call_list_ofK (K:=K)) rfl T.b_list bt_list (pa_cons (pv 0) pa_nil))) sc_law.nd rfl (Or.inl rfl)) (pss_cons (ps_if (pt_not (pt_val (pe_callF C__law_told_anew q hr (pa_cons (pv 11) (pa_cons (pe_lstx (pax_c (pe_ix ix_list (pv 5) pe_int (fun _ _=>rfl)) (pax_c (pe_ix ix_list (pv 5) pe_int (fun _ _=>rfl)) (pax_c (pv 6) (pax_c (pv 7) pax_nil))))) (pa_cons (pv 14) pa_nil)))))) (pss_one (ps_ret pe_bl)) pss_nil) (pss_cons (ps_set (i:=12) sc_law.nd rfl (Or.inl rfl) (pv 14)) (pss_cons (ps_set (i:=15) sc_law.nd rfl (Or.inl rfl) (pe_tupx (pax_c (pv 1) (pax_c (pv 3) pax_nil)))) (pss_cons (ps_if (PW.pt (pw_or (pt_cmpR (op_neD hr) (pe_callF C_leaves q hr (pa_cons (pe_callF C_mapped q hr (pa_cons (pv 15) (pa_cons (pv 6) pa_nil))) pa_nil)) (pe_ix ix_list (pv 12) pe_int (fun _ _=>rfl)) (nomark _)) (pw_or1 (pt_cmpR (op_neD hr) (pe_callF C_leaves q hr (pa_cons (pe_callF C_mixed q hr (pa_cons (pv 15) (pa_cons (pe_tupx (pax_c (pv 1) (pax_c (pv 4) pax_nil))) (pa_cons (pv 7) pa_nil)))) pa_nil)) (pe_ix ix_list (pv 12) pe_int (fun _ _=>rfl)) (nomark _))))) (pss_one (ps_ret pe_bl)) pss_nil) (pss_one (ps_ret (pe_cmpR (op_eqD hr) (pe_callF C_leaves q hr (pa_cons (pe_callF C_turned_left q hr (pa_cons (pv 15) pa_nil)) pa_nil)) (pe_ix ix_list (pv 12) pe_int (fun _ _=>rfl)) (nomark _))))))))))))))))))))))),?_⟩
  refine ⟨_,rfl,a,ns,0,rfl,hS,h63,cell ns 0,rfl,fun n hn => ?_⟩
  refine ⟨_,rfl,_,_,rfl,rfl,.inr ⟨_,rfl,_,_,rfl,rfl,cm9 _,_,_,rfl,rfl,?_⟩⟩
  obtain ⟨mo,hmo,emo⟩:∃ mo:Nat,mo≤10∧(10:Int) - 9 * (if decide ((12:Int) < (n:Int))=true then 1 else 0)=(mo:Int):=by
    by_cases c:decide ((12:Int) < (n:Int))=true
    · rw [if_pos c]; exact ⟨1,by omega,by omega⟩
    · rw [if_neg c]; exact ⟨10,by omega,by omega⟩
  dsimp only
  rw [emo]
  have mn:∀ c:Int,0≤c→∃ m:Nat,m≤12∧(if c < (mo:Int) then c else (mo:Int))=(m:Int):=fun c h0=>by
    split
    · exact ⟨c.toNat,by omega,by omega⟩
    · exact ⟨mo,by omega,rfl⟩
  obtain ⟨many,hmany,em⟩:=mn (cell ns 2 % 11) (by omega)
  obtain ⟨many2,hmany2,em2⟩:=mn (cell ns 2 / 11 % 11) (by omega)
  refine ⟨_,rfl,_,rfl,_,rfl,_,rfl,a,ns,2,rfl,hS,h63,_,_,rfl,rfl,(by show (0:Int) < 11; decide),_,_,rfl,a,ns,4,n,many,(by show [V.ref a,V.int _,V.int _,V.int (if _ then _ else _)]=[V.ref a,V.int _,V.int _,V.int _]; rw [em]; rfl),hS,h63,by omega,hn,hmany,fun v t H0 s0 ht0 gt ct => ?_⟩
  have hS0:=s0.seq hS
  refine ⟨_,rfl,_,rfl,_,rfl,_,rfl,a,ns,2,rfl,hS0,h63,_,_,rfl,rfl,cdivW (by decide) (by decide),_,_,rfl,rfl,(by show (0:Int) < 11; decide),_,_,rfl,a,ns,14,n,many2,(by show [V.ref a,V.int _,V.int _,V.int (if _ then _ else _)]=[V.ref a,V.int _,V.int _,V.int _]; rw [em2]; rfl),hS0,h63,by omega,hn,hmany2,fun v2 u H1 s1' hu gu cu => ?_⟩
  have s1:=s0.trans s1'
  have ht:=ht0.up s1'.tups
  have dt:=gt.deep
  have du:=gu.deep
  have e0:("" : Str).length=0:=by decide +kernel
  refine ⟨_,rfl,v,t,("" : Str),n,n,rfl,ht,gt,empty_eq▸IsC.nil,by rw [e0]; omega,hn,by omega,Nat.le_refl _,by omega,fun r0 us H2 s2 n2 u2 p2 => ?_⟩
  refine ⟨_,rfl,v2,u,("" : Str),n,n,rfl,hu.up s2.tups,gu,empty_eq▸IsC.nil,by rw [e0]; omega,hn,by omega,Nat.le_refl _,by omega,fun r1 ws H3 s3 n3 u3 p3 => ?_⟩
  rw [dig_empty] at p2 p3
  refine ⟨(by show 2≤sizeLine; decide),fun lr hlr => ?_⟩
  have s4:=Same.new hlr (.lst [.ref r0,.ref r1])
  have u4:upd H3 lr (.lst [.ref r0,.ref r1]) lr=some (.lst [.ref r0,.ref r1]):=upd_same
  generalize upd H3 lr (.lst [.ref r0,.ref r1])=H4 at *
  have s04:=s1.trans (s2.trans (s3.trans s4))
  have ht4:=ht.up (s2.trans (s3.trans s4)).tups
  have hu4:=hu.up (s2.trans (s3.trans s4)).tups
  have r04:=(s3.trans s4) _ _ u2
  have r14:=s4 _ _ u3
  have q2:=p2.up (s3.trans s4).tups
  have q3:=p3.up s4.tups
  refine fun dk hdk => ?_
  have s5:=Same.new hdk (.dK [])
  have u5:upd H4 dk (.dK []) dk=some (.dK []):=upd_same
  generalize upd H4 dk (.dK [])=H5 at *
  refine fun dt' hdt => ?_
  have s6:=Same.new hdt (.dT [])
  have u6:upd H5 dt' (.dT []) dt'=some (.dT []):=upd_same
  have u56:=s6 _ _ u5
  generalize upd H5 dt' (.dT [])=H6 at *
  have s46:=s5.trans s6
  have ndt:H4 dt'=none:=s5.free hdt
  have nkt:dk≠dt':=fun e=>by rw [e,hdt] at u5; cases u5
  have hS4:=s04.seq hS
  have hS6:=s46.seq hS4
  obtain ⟨mk,hmk,emk⟩:∃ m:Nat,m≤8∧cell ns 3 % 9=(m:Int):=⟨(cell ns 3 % 9).toNat,by omega,by omega⟩
  refine ⟨_,rfl,a,ns,3,rfl,hS6,h63,_,_,rfl,rfl,(by show (0:Int) < 9; decide),?_⟩
  refine ⟨(mk:Int),(by show [V.int (cell ns 3 % 9)]=[V.int (mk:Int)]; rw [emk]),by omega,by omega,for_range (fun j σ H7=>Same H4 H7∧(∃ (kvs:List (Key × V)) (kvt:List (List Key × V)),H7 dk=some (.dK kvs)∧H7 dt'=some (.dT kvt)∧Cols kvs∧IntK kvs∧kvs.length≤j∧Cols kvt∧Keys2 kvt∧kvt.length≤j)∧∃ o8 o9 o10:Option V,σ=[some (.ref a),some (.int (n:Int)),some (.int (mo:Int)),some v,some v2,some (.ref lr),some (.ref dk),some (.ref dt'),o8,o9,o10,none,none,none,none,none])
    ⟨s46,⟨[],[],u56,u6,Cols.nil,(fun _ h=>by cases h),Nat.zero_le _,Cols.nil,Keys2.nil,Nat.zero_le _⟩,none,none,none,rfl⟩ ?_ ?_⟩
  · rintro j σ H7 hj ⟨s7,⟨kvs,kvt,d7,t7,ck,ik,lk,ct',kk,lt⟩,o8,o9,o10,rfl⟩
    have hj':j < mk:=by omega
    rw [show (0:Int) + (j:Int)=(j:Int) from Int.zero_add _]
    have hS7:=s7.seq hS4
    refine ⟨_,rfl,_,rfl,_,_,rfl,rfl,a,ns,24 + j,rfl,hS7,h63,?_⟩
    refine ⟨_,rfl,_,rfl,_,rfl,_,_,rfl,rfl,a,ns,cell ns (24 + j),600 + j,rfl,hS7,h63,by omega,fun i1 i10 i11 => ?_⟩
    refine ⟨_,rfl,_,rfl,_,rfl,_,rfl,_,_,rfl,rfl,a,ns,cell ns (24 + j),500 + j,rfl,hS7,h63,by omega,fun k1 k10 k11 => ?_⟩
    refine ⟨dk,_,rfl,DPut.k (k:=Sum.inl k1) d7 (big' (by omega)),?_⟩
    have s8:=Same.set s7 hdk (.dK (putK kvs (Sum.inl k1) (.int i1)))
    have d8:upd H7 dk (.dK (putK kvs (Sum.inl k1) (.int i1))) dk=some (.dK (putK kvs (Sum.inl k1) (.int i1))):=upd_same
    have t8:upd H7 dk (.dK (putK kvs (Sum.inl k1) (.int i1))) dt'=some (.dT kvt):=by rw [upd_ne nkt.symm]; exact t7
    generalize upd H7 dk (.dK (putK kvs (Sum.inl k1) (.int i1)))=H8 at *
    have hS8:=s8.seq hS4
    refine ⟨_,rfl,_,rfl,_,rfl,_,_,rfl,rfl,a,ns,cell ns (24 + j),700 + j,rfl,hS8,h63,by omega,fun k2 k20 k21 => ?_⟩
    refine ⟨_,rfl,_,rfl,_,rfl,_,_,rfl,rfl,a,ns,cell ns (24 + j),720 + j,rfl,hS8,h63,by omega,fun k3 k30 k31=>⟨(by show 2≤sizeLine; decide),fun pq hpq => ?_⟩⟩
    have s9:=Same.new hpq (.tup [.int k2,.int k3])
    have u9:upd H8 pq (.tup [.int k2,.int k3]) pq=some (.tup [.int k2,.int k3]):=upd_same
    generalize upd H8 pq (.tup [.int k2,.int k3])=H9 at *
    have s49:=s8.trans s9
    have hS9:=s49.seq hS4
    refine ⟨_,rfl,_,rfl,_,rfl,_,_,rfl,rfl,a,ns,cell ns (24 + j),740 + j,rfl,hS9,h63,by omega,fun i2 i20 i21 => ?_⟩
    obtain ⟨ka,eka⟩:∃ ka:Nat,k2=(ka:Int):=⟨k2.toNat,by omega⟩
    obtain ⟨kb,ekb⟩:∃ kb:Nat,k3=(kb:Int):=⟨k3.toNat,by omega⟩
    subst eka
    subst ekb
    refine ⟨_,rfl,_,rfl,dt',_,rfl,DPut.t (k:=[Sum.inl (ka:Int),Sum.inl (kb:Int)]) (s9 _ _ t8) u9 (big' (by omega)),?_⟩
    refine ⟨Same.set s49 ndt _,⟨_,_,by rw [upd_ne nkt]; exact s9 _ _ d8,upd_same,ck.put _ i10 i11,ik.put _ _,Nat.le_trans put_len (by omega),ct'.put _ i20 i21,kk.put (by omega) (by omega),Nat.le_trans put_len (by omega)⟩,_,_,_,rfl⟩
  · rintro σ H7 ⟨s7,⟨kvs,kvt,d7,t7,ck,ik,lk,ct',kk,lt⟩,o8,o9,o10,rfl⟩
    have ikv:intKs kvs:=⟨ik,flat_cols ck⟩
    have itv:intTs kvt:=kk.ints ct'
    refine ⟨_,rfl,lr,_,_,.ref r0,rfl,rfl,SqL.of (s7 _ _ u4),rfl,r0,us,rfl,.inl (SqL.of (s7 _ _ r04)),fun c0 hc0 => ?_⟩
    have s8:=Same.new hc0 (.lst us)
    have u8:upd H7 c0 (.lst us) c0=some (.lst us):=upd_same
    generalize upd H7 c0 (.lst us)=H8 at *
    have s48:=s7.trans s8
    refine ⟨_,rfl,lr,_,_,.ref r1,rfl,rfl,SqL.of (s48 _ _ u4),rfl,r1,ws,rfl,.inl (SqL.of (s48 _ _ r14)),fun c1 hc1 => ?_⟩
    have s9:=Same.new hc1 (.lst ws)
    have u9:upd H8 c1 (.lst ws) c1=some (.lst ws):=upd_same
    generalize upd H8 c1 (.lst ws)=H9 at *
    have s79:=s8.trans s9
    refine ⟨_,rfl,dk,kvs,rfl,s79 _ _ d7,fun c2 hc2 => ?_⟩
    have s10:=Same.new hc2 (.dK kvs)
    have u10:upd H9 c2 (.dK kvs) c2=some (.dK kvs):=upd_same
    generalize upd H9 c2 (.dK kvs)=H10 at *
    have s7a:=s79.trans s10
    refine ⟨_,rfl,dt',kvt,rfl,s7a _ _ t7,fun w=>kk.hash w,fun c3 hc3 => ?_⟩
    have s11:=Same.new hc3 (.dT kvt)
    have u11:upd H10 c3 (.dT kvt) c3=some (.dT kvt):=upd_same
    generalize upd H10 c3 (.dT kvt)=H11 at *
    refine ⟨(by show 4≤sizeLine; decide),fun lh hlh => ?_⟩
    have s12:=Same.new hlh (.lst [.ref c0,.ref c1,.ref c2,.ref c3])
    have u12:upd H11 lh (.lst [.ref c0,.ref c1,.ref c2,.ref c3]) lh=some (.lst [.ref c0,.ref c1,.ref c2,.ref c3]):=upd_same
    generalize upd H11 lh (.lst [.ref c0,.ref c1,.ref c2,.ref c3])=H12 at *
    have s7c:=s7a.trans (s11.trans s12)
    have s4c:=s7.trans s7c
    have hH:HandV H12 (.ref lh) n t u kvs kvt:=⟨lh,c0,c1,c2,c3,us,ws,rfl,u12,(s9.trans (s10.trans (s11.trans s12))) _ _ u8,q2.up s4c.tups,(s10.trans (s11.trans s12)) _ _ u9,q3.up s4c.tups,(s11.trans s12) _ _ u10,s12 _ _ u11⟩
    obtain ⟨_,_,_,_,_,_,_,e,k0,k1,k2,k3,k4,k5,k6⟩:=id hH
    cases e
    rw [u12] at k0
    cases k0
    refine ⟨_,rfl,lh,_,_,.ref c0,rfl,rfl,SqL.of u12,rfl,_,rfl,lh,_,_,.ref c2,rfl,rfl,SqL.of u12,rfl,c0,c2,_,t,n,kvs,rfl,k1,k2,gt,hn,by omega,k5,ck,fun l1 y1 I1 j1 n1 v1 w1 => ?_⟩
    refine ⟨_,rfl,lh,_,_,.ref c0,rfl,rfl,SqL.of (j1 _ _ u12),rfl,_,rfl,lh,_,_,.ref c1,rfl,rfl,SqL.of (j1 _ _ u12),rfl,_,rfl,lh,_,_,.ref c3,rfl,rfl,SqL.of (j1 _ _ u12),rfl,c0,c1,c3,_,_,t,u,n,kvt,rfl,j1 _ _ k1,j1 _ _ k3,k2.up j1.tups,k4.up j1.tups,gt,gu,hn,by omega,by omega,j1 _ _ k6,ct',fun l2 y2 I2 j2 n2 v2' w2 => ?_⟩
    have j12:=j1.trans j2
    refine ⟨_,rfl,lh,_,_,.ref c0,rfl,rfl,SqL.of (j12 _ _ u12),rfl,c0,_,t,n,rfl,j12 _ _ k1,k2.up j12.tups,gt,hn,by omega,fun l3 y3 I3 j3 n3 v3 w3 => ?_⟩
    refine ⟨(by show 3≤sizeLine; decide),fun lo hlo => ?_⟩
    have j4:=Same.new hlo (.lst [.ref l1,.ref l2,.ref l3])
    have v4:upd I3 lo (.lst [.ref l1,.ref l2,.ref l3]) lo=some (.lst [.ref l1,.ref l2,.ref l3]):=upd_same
    generalize upd I3 lo (.lst [.ref l1,.ref l2,.ref l3])=I4 at *
    have j04:=j12.trans (j3.trans j4)
    have x1:I4 l1=some (.lst y1):=(j2.trans (j3.trans j4)) _ _ v1
    have x2:I4 l2=some (.lst y2):=(j3.trans j4) _ _ v2'
    have x3:I4 l3=some (.lst y3):=j4 _ _ v3
    have z1:=w1.up (j2.trans (j3.trans j4)).tups
    have z2:=w2.up (j3.trans j4).tups
    have z3:=w3.up j4.tups
    have g44:=s4c.trans j04
    refine ⟨_,rfl,_,rfl,lr,_,_,.ref r0,rfl,rfl,SqL.of (g44 _ _ u4),rfl,_,rfl,lr,_,_,.ref r1,rfl,rfl,SqL.of (g44 _ _ u4),rfl,_,rfl,_,rfl,(by show 4≤sizeLine; decide),fun le hle => ?_⟩
    have j5:=Same.new hle (.lst [.ref r0,.ref r1,.ref dk,.ref dt'])
    have v5:upd I4 le (.lst [.ref r0,.ref r1,.ref dk,.ref dt']) le=some (.lst [.ref r0,.ref r1,.ref dk,.ref dt']):=upd_same
    generalize upd I4 le (.lst [.ref r0,.ref r1,.ref dk,.ref dt'])=I5 at *
    have j05:=j04.trans j5
    have g45:=g44.trans j5
    have g75:=s7c.trans j05
    have hE:HandV I5 (.ref le) n t u kvs kvt:=⟨le,r0,r1,dk,dt',us,ws,rfl,v5,g45 _ _ r04,q2.up g45.tups,g45 _ _ r14,q3.up g45.tups,g75 _ _ d7,g75 _ _ t7⟩
    refine hand_eq (hH.up j05) hE ikv itv ⟨_,rfl,iteF ?_⟩
    obtain ⟨TA,eA⟩:∃ X,X=blend (gTab key1 kvs) n [t]:=⟨_,rfl⟩
    obtain ⟨TB,eB⟩:∃ X,X=blend (gTab key2 kvt) n [t,u]:=⟨_,rfl⟩
    obtain ⟨TC,eC⟩:∃ X,X=rear oL t:=⟨_,rfl⟩
    have gA:Good n TA:=by rw [eA]; exact good_blend (fair_tab key1 ck) n [t] (by intro x hx; rw [List.mem_singleton.mp hx]; exact gt)
    have gB:Good n TB:=by
      rw [eB]
      refine good_blend (fair_tab key2 ct') n [t,u] fun x hx => ?_
      rcases List.mem_cons.mp hx with rfl | hx
      · exact gt
      · rw [List.mem_singleton.mp hx]; exact gu
    have gC:Good n TC:=by rw [eC]; exact good_rear ordL t n gt
    have cA:cnt TA≤3900:=by rw [eA,blend_one _ n t dt]; exact Nat.le_trans (norm_cnt _) (by rw [map_cnt]; omega)
    have cB:cnt TB≤3900:=by rw [eB,blend_zip _ n t u dt du]; exact Nat.le_trans (norm_cnt _) (Nat.le_trans (zip_cnt' _ t u) (by omega))
    have cC:cnt TC≤3900:=by rw [eC,show oL=od 0 from rfl,cnt_od]; omega
    rw [← eA] at z1
    rw [← eB] at z2
    rw [← eC] at z3
    have o5:=j5 _ _ v4
    have row:∀ {i:Nat} {x:V},[V.ref l1,.ref l2,.ref l3][i]? = some x→∃ (c:Addr) (zs:List V) (X:Tr),x=.ref c∧[y1,y2,y3][i]? = some zs∧[TA,TB,TC][i]? = some X∧I5 c=some (.lst zs)∧PasAt I5 n zs (lvs [] X)∧Good n X∧cnt X≤4000:=fun {i x} hx=>by
      rcases i with _ | _ | _ | i
      · exact ⟨l1,y1,TA,(Option.some.inj hx).symm,rfl,rfl,j5 _ _ x1,z1.up j5.tups,gA,by omega⟩
      · exact ⟨l2,y2,TB,(Option.some.inj hx).symm,rfl,rfl,j5 _ _ x2,z2.up j5.tups,gB,by omega⟩
      · exact ⟨l3,y3,TC,(Option.some.inj hx).symm,rfl,rfl,j5 _ _ x3,z3.up j5.tups,gC,by omega⟩
      · cases hx
    refine ⟨[],rfl,_,rfl,lo,rfl,⟨_,SqL.of o5⟩,compC_list [V.ref l1,.ref l2,.ref l3] (fun D (i:Nat) ys H'=>Same I5 H'∧H' D=some (.lst ys)∧ys.length=i∧∀ (k:Nat) (y:V),ys[k]? = some y→∃ X,[TA,TB,TC][k]? = some X∧TrAt H' y X) (by show 3≤sizeLine; decide) (fun D i ys H' h=>SqL.of (h.1 _ _ o5)) (fun D i ys H' h=>⟨h.2.1,Nat.le_of_eq h.2.2.1⟩) (fun D hD=>⟨Same.new hD _,upd_same,rfl,fun k y hy=>by simp at hy⟩) ?_ ?_ (fun _ _ _ _ _ k h=>k _ _ h) ?_⟩
    · rintro D i x ys H' hx hD ⟨c1',c2',c3',c4'⟩
      obtain ⟨c,zs,X,rfl,ezs,eX,hc,hp,gX,cX⟩:=row hx
      refine ⟨rfl,_,rfl,c,zs,X,n,rfl,c1' _ _ hc,hp.up c1'.tups,gX,hn,cX,fun vt H2' t2 hv => ?_⟩
      have uD:=t2 _ _ c2'
      have tl:=Tups.lst (ys:=ys++[vt]) uD
      refine ⟨uD,Same.set (c1'.trans t2) hD _,upd_same,by rw [List.length_append,c3']; rfl,fun k y hy => ?_⟩
      rcases Nat.lt_or_ge k ys.length with hk | hk
      · rw [List.getElem?_append_left hk] at hy
        obtain ⟨X',e1,e2⟩:=c4' k y hy
        exact ⟨X',e1,e2.up (t2.tups.trans tl)⟩
      · rw [List.getElem?_append_right hk] at hy
        have h0:k - ys.length=0:=by
          rcases h:k - ys.length with _ | m
          · rfl
          · rw [h] at hy; simp at hy
        rw [h0] at hy
        have ek:k=i:=by omega
        rw [← Option.some.inj hy,ek]
        exact ⟨X,eX,hv.up tl⟩
    rotate_left
    · rintro σ H' R R' k ⟨a1,e1,l',us',t',n',e2,h1,h2,h3,h4,h5,h6⟩
      exact ⟨a1,e1,l',us',t',n',e2,h1,h2,h3,h4,h5,fun v H2 s2 hv=>k _ _ (h6 v H2 s2 hv)⟩
    rintro D ys I6 hD ⟨j6,uD,lys,hys⟩
    have lys':ys.length=3:=lys
    obtain ⟨ta,tb,tc,rfl⟩:∃ ta tb tc,ys=[ta,tb,tc]:=by
      match ys,lys' with
      | [ta,tb,tc],_=>exact ⟨ta,tb,tc,rfl⟩
    obtain ⟨_,e,hta⟩:=hys 0 ta rfl
    cases e
    obtain ⟨_,e,htb⟩:=hys 1 tb rfl
    cases e
    obtain ⟨_,e,htc⟩:=hys 2 tc rfl
    cases e
    have nn:∀ X:Tr,PyData.eqv X.data .none=false:=fun X=>by cases X <;> rfl
    refine ⟨_,rfl,rfl,D,_,rfl,uD,?_,_,rfl,iteF ?_⟩
    · intro x hx
      simp only [List.mem_cons,List.not_mem_nil,or_false] at hx
      rcases hx with rfl | rfl | rfl
      · exact ⟨_,hta.dat,Tr.shaped (Nat.le_trans gA.deep (by omega)),nn _⟩
      · exact ⟨_,htb.dat,Tr.shaped (Nat.le_trans gB.deep (by omega)),nn _⟩
      · exact ⟨_,htc.dat,Tr.shaped (Nat.le_trans gC.deep (by omega)),nn _⟩
    have f46:=g45.trans j6
    have f76:=g75.trans j6
    have vtA:TrAt I6 ta (blend (gTab key1 kvs) n [t]):=eA▸hta
    have vtB:TrAt I6 tb (blend (gTab key2 kvt) n [t,u]):=eB▸htb
    have vtC:TrAt I6 tc (rear oL t):=eC▸htc
    refine ⟨_,rfl,D,_,_,ta,rfl,rfl,SqL.of uD,rfl,_,rfl,(by show 1≤sizeLine; decide),fun la hla => ?_⟩
    have j7:=Same.new hla (.lst [v])
    have v7:upd I6 la (.lst [v]) la=some (.lst [v]):=upd_same
    generalize upd I6 la (.lst [v])=I7 at *
    have f47:=f46.trans j7
    refine ⟨_,rfl,n,ta,la,[v],[t],.ref dk,gTab key1 kvs,rfl,by omega,vtA.up j7.tups,v7,⟨rfl,fun i x t' hx ht' => ?_⟩,(by simp),fun t' ht'=>by rw [List.mem_singleton.mp ht']; exact dt,hn,.inl ⟨dk,kvs,rfl,(f76.trans j7) _ _ d7,ck,rfl,rfl⟩,fun I8 j8=>⟨_,rfl,iteF ?_⟩⟩
    · rcases i with _ | i
      · rw [← Option.some.inj hx,← Option.some.inj ht']; exact ht4.up f47.tups
      · cases hx
    have j68:=j7.trans j8
    have f48:=f46.trans j68
    refine ⟨_,rfl,D,_,_,tb,rfl,rfl,SqL.of (j68 _ _ uD),rfl,_,rfl,_,rfl,(by show 2≤sizeLine; decide),fun lb hlb => ?_⟩
    have j9:=Same.new hlb (.lst [v,v2])
    have v9:upd I8 lb (.lst [v,v2]) lb=some (.lst [v,v2]):=upd_same
    generalize upd I8 lb (.lst [v,v2])=I9 at *
    have j69:=j68.trans j9
    have f49:=f46.trans j69
    refine ⟨_,rfl,n,tb,lb,[v,v2],[t,u],.ref dt',gTab key2 kvt,rfl,by omega,vtB.up j69.tups,v9,⟨rfl,fun i x t' hx ht' => ?_⟩,(by simp),fun t' ht' => ?_,hn,.inr ⟨dt',kvt,rfl,(f76.trans j69) _ _ t7,ct',rfl,rfl⟩,fun I10 j10=>⟨_,rfl,iteF ?_⟩⟩
    · rcases i with _ | _ | i
      · rw [← Option.some.inj hx,← Option.some.inj ht']; exact ht4.up f49.tups
      · rw [← Option.some.inj hx,← Option.some.inj ht']; exact hu4.up f49.tups
      · cases hx
    · rcases List.mem_cons.mp ht' with rfl | ht'
      · exact dt
      · rw [List.mem_singleton.mp ht']; exact du
    have j6a:=j69.trans j10
    have f4a:=f46.trans j6a
    refine ⟨_,rfl,D,_,_,tc,rfl,rfl,SqL.of (j6a _ _ uD),rfl,_,rfl,_,rfl,tc,v,n,t,rfl,hn,vtC.up j6a.tups,ht4.up f4a.tups,gt,by omega,fun I11 j11=>⟨_,rfl,iteF ?_⟩⟩
    have j6b:=j6a.trans j11
    have j5b:=j6.trans j6b
    have f4b:=f46.trans j6b
    have f7b:=f76.trans j6b
    have oB:=j5b _ _ o5
    refine ⟨[],rfl,_,rfl,lo,rfl,⟨_,SqL.of oB⟩,compC_list [V.ref l1,.ref l2,.ref l3] (fun D (i:Nat) ys H'=>Same I11 H'∧H' D=some (.lst ys)∧ys.length=i∧∀ (k:Nat) (y:V),ys[k]? = some y→∃ (c:Addr) (zs:List V) (X:Tr),y=.ref c∧c≠D∧[TA,TB,TC][k]? = some X∧H' c=some (.lst zs)∧PasAt H' n zs (lvs [] X)) (by show 3≤sizeLine; decide) (fun D i ys H' h=>SqL.of (h.1 _ _ oB)) (fun D i ys H' h=>⟨h.2.1,Nat.le_of_eq h.2.2.1⟩) (fun D hD=>⟨Same.new hD _,upd_same,rfl,fun k y hy=>by simp at hy⟩) ?_ ?_ (fun _ _ _ _ _ k h=>k _ _ h) ?_⟩
    · rintro D i x ys H' hx hD ⟨c1',c2',c3',c4'⟩
      obtain ⟨c,zs,X,rfl,ezs,eX,hc,hp,gX,cX⟩:=row hx
      refine ⟨rfl,_,rfl,c,zs,rfl,.inl (SqL.of ((j5b.trans c1') _ _ hc)),fun lc hlc => ?_⟩
      have t2:=Same.new hlc (.lst zs)
      have v2c:upd H' lc (.lst zs) lc=some (.lst zs):=upd_same
      generalize upd H' lc (.lst zs)=H2' at *
      have uD:=t2 _ _ c2'
      have tl:=Tups.lst (ys:=ys++[V.ref lc]) uD
      have nl:lc≠D:=fun e=>by rw [e,c2'] at hlc; cases hlc
      refine ⟨uD,Same.set (c1'.trans t2) hD _,upd_same,by rw [List.length_append,c3']; rfl,fun k y hy => ?_⟩
      rcases Nat.lt_or_ge k ys.length with hk | hk
      · rw [List.getElem?_append_left hk] at hy
        obtain ⟨c',zs',X',e0,e1,e2,e3,e4⟩:=c4' k y hy
        exact ⟨c',zs',X',e0,e1,e2,by rw [upd_ne e1]; exact t2 _ _ e3,e4.up (t2.tups.trans tl)⟩
      · rw [List.getElem?_append_right hk] at hy
        have h0:k - ys.length=0:=by
          rcases h:k - ys.length with _ | m
          · rfl
          · rw [h] at hy; simp at hy
        rw [h0] at hy
        have ek:k=i:=by omega
        rw [← Option.some.inj hy,ek]
        exact ⟨lc,zs,X,rfl,nl,eX,by rw [upd_ne nl]; exact v2c,hp.up ((j5b.trans (c1'.trans t2)).tups.trans tl)⟩
    rotate_left
    · rintro σ H' R R' k ⟨a1,e1,l',us',e2,h1,h2⟩
      exact ⟨a1,e1,l',us',e2,h1,fun l hl=>k _ _ (h2 l hl)⟩
    rintro D2 ys I12 hD2 ⟨j12',uD2,lys2,hys2⟩
    have lys2':ys.length=3:=lys2
    obtain ⟨xa,xb,xc,rfl⟩:∃ ta tb tc,ys=[ta,tb,tc]:=by
      match ys,lys2' with
      | [ta,tb,tc],_=>exact ⟨ta,tb,tc,rfl⟩
    obtain ⟨b1,zb1,_,rfl,_,e,hb1,pb1⟩:=hys2 0 xa rfl
    cases e
    obtain ⟨b2,zb2,_,rfl,_,e,hb2,pb2⟩:=hys2 1 xb rfl
    cases e
    obtain ⟨b3,zb3,_,rfl,_,e,hb3,pb3⟩:=hys2 2 xc rfl
    cases e
    have f4c:=f4b.trans j12'
    have f7c:=f7b.trans j12'
    refine ⟨_,rfl,_,rfl,lr,_,_,.ref r0,rfl,rfl,SqL.of (f4c _ _ u4),rfl,_,rfl,lr,_,_,.ref r1,rfl,rfl,SqL.of (f4c _ _ u4),rfl,_,rfl,_,rfl,(by show 4≤sizeLine; decide),fun lf hlf => ?_⟩
    have j13:=Same.new hlf (.lst [.ref r0,.ref r1,.ref dk,.ref dt'])
    have v13:upd I12 lf (.lst [.ref r0,.ref r1,.ref dk,.ref dt']) lf=some (.lst [.ref r0,.ref r1,.ref dk,.ref dt']):=upd_same
    generalize upd I12 lf (.lst [.ref r0,.ref r1,.ref dk,.ref dt'])=I13 at *
    have f4d:=f4c.trans j13
    have f7d:=f7c.trans j13
    have hF:HandV I13 (.ref lf) n t u kvs kvt:=⟨lf,r0,r1,dk,dt',us,ws,rfl,v13,f4d _ _ r04,q2.up f4d.tups,f4d _ _ r14,q3.up f4d.tups,f7d _ _ d7,f7d _ _ t7⟩
    have hR:Rows3 I13 (.ref D2) n (blend (gTab key1 kvs) n [t]) (blend (gTab key2 kvt) n [t,u]) (rear oL t):=by
      rw [← eA,← eB,← eC]
      exact ⟨D2,b1,b2,b3,zb1,zb2,zb3,rfl,j13 _ _ uD2,j13 _ _ hb1,pb1.up j13.tups,j13 _ _ hb2,pb2.up j13.tups,j13 _ _ hb3,pb3.up j13.tups⟩
    refine ⟨_,rfl,.ref lh,.ref lf,.ref D2,n,t,u,kvs,kvt,rfl,hH.up (j05.trans (j5b.trans (j12'.trans j13))),hF,hR,gt,gu,hn,by omega,by omega,ck,ct',ikv,itv,fun I14 j14=>⟨_,rfl,iteF ?_⟩⟩
    have j134:=j13.trans j14
    have f4e:=f4d.trans j14
    have f7e:=f7d.trans j14
    have yD:=j134 _ _ uD2
    have y1':=j134 _ _ hb1
    have y2':=j134 _ _ hb2
    have y3':=j134 _ _ hb3
    have p1':=pb1.up j134.tups
    have p2':=pb2.up j134.tups
    have p3':=pb3.up j134.tups
    refine ⟨_,rfl,_,rfl,_,rfl,(by show 2≤sizeLine; decide),fun sh hsh => ?_⟩
    have j15:=Same.new hsh (.tup [.int (n:Int),v])
    have v15:upd I14 sh (.tup [.int (n:Int),v]) sh=some (.tup [.int (n:Int),v]):=upd_same
    generalize upd I14 sh (.tup [.int (n:Int),v])=I15 at *
    have f4f:=f4e.trans j15
    have f7f:=f7e.trans j15
    have hsA:ShAt I15 (.ref sh) n t:=⟨sh,v,rfl,v15,ht4.up f4f.tups⟩
    have tb15:Tabs Tb I15:=(s04.trans f4f).tabs hTb
    refine ⟨_,rfl,_,rfl,.ref sh,dk,n,t,kvs,rfl,hsA,gt,hn,f7f _ _ d7,ck,tb15,fun vm I16 k16 tb16 hm => ?_⟩
    rw [← eA] at hm
    refine ⟨vm,TA,n,rfl,hm,gA,hn,by omega,fun lm um I17 j17 nlm wlm pm => ?_⟩
    have k157:=k16.trans (Same.toT (T:=Tb) j17)
    have tb17:=j17.tabs tb16
    have yD7:=k157.keep tb15 (j15 _ _ yD) (by intro ps z; cases z)
    have y17:=k157.keep tb15 (j15 _ _ y1') (by intro ps z; cases z)
    have p17:=p1'.up (j15.tups.trans (k157.tups tb15))
    obtain ⟨m1,m2⟩:=pas_dat wlm pm
    obtain ⟨m3,m4⟩:=pas_dat y17 p17
    refine ⟨_,rfl,D2,_,_,.ref b1,rfl,rfl,SqL.of yD7,rfl,_,_,m1,m3,m2,m4,?_⟩
    rw [SeqAt.eqv_refl _ (SeqAt.canLay_of_shaped m4)]
    refine ⟨_,rfl,iteF ?_⟩
    refine ⟨_,rfl,_,rfl,_,rfl,(by show 2≤sizeLine; decide),fun si hsi => ?_⟩
    have j18:=Same.new hsi (.tup [.int (n:Int),v2])
    have v18:upd I17 si (.tup [.int (n:Int),v2]) si=some (.tup [.int (n:Int),v2]):=upd_same
    generalize upd I17 si (.tup [.int (n:Int),v2])=I18 at *
    have k158:=k157.trans (Same.toT (T:=Tb) j18)
    have tb18:=j18.tabs tb17
    have hsB:ShAt I18 (.ref si) n u:=⟨si,v2,rfl,v18,hu4.up (f4f.tups.trans (k158.tups tb15))⟩
    refine ⟨_,rfl,.ref sh,.ref si,dt',n,t,u,kvt,rfl,hsA.up (k158.tups tb15),hsB,gt,gu,hn,k158.keep tb15 (f7f _ _ t7) (by intro ps z; cases z),ct',tb18,fun vx I19 k19 tb19 hx => ?_⟩
    rw [← eB] at hx
    refine ⟨vx,TB,n,rfl,hx,gB,hn,by omega,fun lx ux I20 j20 nlx wlx px => ?_⟩
    have k150:=(k158.trans k19).trans (Same.toT (T:=Tb) j20)
    have tb20:=j20.tabs tb19
    have yD0:=k150.keep tb15 (j15 _ _ yD) (by intro ps z; cases z)
    have y20:=k150.keep tb15 (j15 _ _ y2') (by intro ps z; cases z)
    have p20:=p2'.up (j15.tups.trans (k150.tups tb15))
    obtain ⟨m5,m6⟩:=pas_dat wlx px
    obtain ⟨m7,m8⟩:=pas_dat y20 p20
    refine ⟨_,rfl,D2,_,_,.ref b2,rfl,rfl,SqL.of yD0,rfl,_,_,m5,m7,m6,m8,?_⟩
    rw [SeqAt.eqv_refl _ (SeqAt.canLay_of_shaped m8)]
    refine ⟨_,rfl,iteF ?_⟩
    have hs0:ShAt I20 (.ref sh) (n:Int) t:=hsA.up (k150.tups tb15)
    refine ⟨_,rfl,.ref sh,(n:Int),t,rfl,hs0,by omega,fun vl I21 j21 hl => ?_⟩
    rw [← eC] at hl
    refine ⟨vl,TC,n,rfl,hl,gC,hn,by omega,fun ll ul I22 j22 nll wll pl => ?_⟩
    have j02:=j21.trans j22
    have k15c:=k150.trans (Same.toT (T:=Tb) j02)
    have yD2:=k15c.keep tb15 (j15 _ _ yD) (by intro ps z; cases z)
    have y22:=k15c.keep tb15 (j15 _ _ y3') (by intro ps z; cases z)
    have p22:=p3'.up (j15.tups.trans (k15c.tups tb15))
    obtain ⟨m9,m10⟩:=pas_dat wll pl
    obtain ⟨m11,m12⟩:=pas_dat y22 p22
    refine ⟨_,rfl,D2,_,_,.ref b3,rfl,rfl,SqL.of yD2,rfl,_,_,m9,m11,m10,m12,?_⟩
    rw [SeqAt.eqv_refl _ (SeqAt.canLay_of_shaped m12)]
    exact q' _
end
end Qs


namespace Qs
open PySem L2
theorem lenKS {us:List Value} {n:Nat} (h:us.length=n + 1):∃ a t,us=a::t∧t.length=n:=by
  cases us with
  | nil=>cases h
  | cons a t=>exact ⟨a,t,rfl,Nat.succ.inj h⟩
theorem lenK1 {us:List Value} (h:us.length=1):∃ a,us=[a]:=by
  obtain ⟨a,u0,e0,h⟩:=lenKS h
  have e:=List.eq_nil_of_length_eq_zero h
  subst e
  subst e0
  exact ⟨a,rfl⟩
theorem lenK2 {us:List Value} (h:us.length=2):∃ a b,us=[a,b]:=by
  obtain ⟨a,u0,e0,h⟩:=lenKS h
  obtain ⟨b,u1,e1,h⟩:=lenKS h
  have e:=List.eq_nil_of_length_eq_zero h
  subst e
  subst e1
  subst e0
  exact ⟨a,b,rfl⟩
theorem lenK3 {us:List Value} (h:us.length=3):∃ a b c,us=[a,b,c]:=by
  obtain ⟨a,u0,e0,h⟩:=lenKS h
  obtain ⟨b,u1,e1,h⟩:=lenKS h
  obtain ⟨c,u2,e2,h⟩:=lenKS h
  have e:=List.eq_nil_of_length_eq_zero h
  subst e
  subst e2
  subst e1
  subst e0
  exact ⟨a,b,c,rfl⟩
theorem lenK4 {us:List Value} (h:us.length=4):∃ a b c d,us=[a,b,c,d]:=by
  obtain ⟨a,u0,e0,h⟩:=lenKS h
  obtain ⟨b,u1,e1,h⟩:=lenKS h
  obtain ⟨c,u2,e2,h⟩:=lenKS h
  obtain ⟨d,u3,e3,h⟩:=lenKS h
  have e:=List.eq_nil_of_length_eq_zero h
  subst e
  subst e3
  subst e2
  subst e1
  subst e0
  exact ⟨a,b,c,d,rfl⟩
theorem lenK5 {us:List Value} (h:us.length=5):∃ a b c d e,us=[a,b,c,d,e]:=by
  obtain ⟨a,u0,e0,h⟩:=lenKS h
  obtain ⟨b,u1,e1,h⟩:=lenKS h
  obtain ⟨c,u2,e2,h⟩:=lenKS h
  obtain ⟨d,u3,e3,h⟩:=lenKS h
  obtain ⟨e,u4,e4,h⟩:=lenKS h
  have e:=List.eq_nil_of_length_eq_zero h
  subst e
  subst e4
  subst e3
  subst e2
  subst e1
  subst e0
  exact ⟨a,b,c,d,e,rfl⟩
theorem all_mk {l:PySem.W.OpenLaw} {w:World} {K:PySem.W.Frag} {h:Heap} {mg:Str→Option Value} {fa f0 f1 f2 f3 f4 f5 f6 f7 f8 f9 f10 f11 f12 f13 f14 f15 f16 f17 f18 f19 f20 f21 f22 f23 f24 f25 f26 f27 f28 f29 f30 f31 f32 f33 f34:Addr} (X:K.In h) (G:h.Ns mainGlobals mg) (hfa:mg "law" = some (.ref fa))
    {od0 an0 od1 an1 od2 an2 od3 an3 od4 an4 od5 an5 od6 an6 od7 an7 od8 an8 od9 an9 od10 an10 od11 an11 od12 an12 od13 an13 od14 an14 od15 an15 od16 an16 od17 an17 od18 an18 od19 an19 od20 an20 od21 an21 od22 an22 od23 an23 od24 an24 od25 an25 od26 an26 od27 an27 od28 an28 od29 an29 od30 an30 od31 an31 od32 an32 od33 an33 od34 an34:Option Addr} {sl0 sl1 sl2 sl3 sl4 sl5 sl6 sl7 sl8 sl9 sl10 sl11 sl12 sl13 sl14 sl15 sl16 sl17 sl18 sl19 sl20 sl21 sl22 sl23 sl24 sl25 sl26 sl27 sl28 sl29 sl30 sl31 sl32 sl33 sl34:Array (Option Value)} {oc0 kV0 dc0 pm0 cd0 ct0 oc1 kV1 dc1 pm1 cd1 ct1 oc2 kV2 dc2 pm2 cd2 ct2 oc3 kV3 dc3 pm3 cd3 ct3 oc4 kV4 dc4 pm4 cd4 ct4 oc5 kV5 dc5 pm5 cd5 ct5 oc6 kV6 dc6 pm6 cd6 ct6 oc7 kV7 dc7 pm7 cd7 ct7 oc8 kV8 dc8 pm8 cd8 ct8 oc9 kV9 dc9 pm9 cd9 ct9 oc10 kV10 dc10 pm10 cd10 ct10 oc11 kV11 dc11 pm11 cd11 ct11 oc12 kV12 dc12 pm12 cd12 ct12 oc13 kV13 dc13 pm13 cd13 ct13 oc14 kV14 dc14 pm14 cd14 ct14 oc15 kV15 dc15 pm15 cd15 ct15 oc16 kV16 dc16 pm16 cd16 ct16 oc17 kV17 dc17 pm17 cd17 ct17 oc18 kV18 dc18 pm18 cd18 ct18 oc19 kV19 dc19 pm19 cd19 ct19 oc20 kV20 dc20 pm20 cd20 ct20 oc21 kV21 dc21 pm21 cd21 ct21 oc22 kV22 dc22 pm22 cd22 ct22 oc23 kV23 dc23 pm23 cd23 ct23 oc24 kV24 dc24 pm24 cd24 ct24 oc25 kV25 dc25 pm25 cd25 ct25 oc26 kV26 dc26 pm26 cd26 ct26 oc27 kV27 dc27 pm27 cd27 ct27 oc28 kV28 dc28 pm28 cd28 ct28 oc29 kV29 dc29 pm29 cd29 ct29 oc30 kV30 dc30 pm30 cd30 ct30 oc31 kV31 dc31 pm31 cd31 ct31 oc32 kV32 dc32 pm32 cd32 ct32 oc33 kV33 dc33 pm33 cd33 ct33 oc34 kV34 dc34 pm34 cd34 ct34:Value}
    (a0:PySem.W.nsIn K mainGlobals "is_of_one_colour" = some (some (.ref f0))) (l0:K.lookup f0=some ⟨oc0,od0,.func (PySem.W.fnOf "is_of_one_colour" "is_of_one_colour" (defArgs s_is_of_one_colour) (defBody s_is_of_one_colour) (defScope s_is_of_one_colour) .none kV0 dc0 pm0 an0 cd0 ct0),sl0⟩) (c0:PySem.W.codeIn K cd0 "is_of_one_colour" = true) (k0:PySem.W.keepIn K (.ref f0)=true)
    (a1:PySem.W.nsIn K mainGlobals "gathered" = some (some (.ref f1))) (l1:K.lookup f1=some ⟨oc1,od1,.func (PySem.W.fnOf "gathered" "gathered" (defArgs s_gathered) (defBody s_gathered) (defScope s_gathered) .none kV1 dc1 pm1 an1 cd1 ct1),sl1⟩) (c1:PySem.W.codeIn K cd1 "gathered" = true) (k1:PySem.W.keepIn K (.ref f1)=true)
    (a2:PySem.W.nsIn K mainGlobals "parted" = some (some (.ref f2))) (l2:K.lookup f2=some ⟨oc2,od2,.func (PySem.W.fnOf "parted" "parted" (defArgs s_parted) (defBody s_parted) (defScope s_parted) .none kV2 dc2 pm2 an2 cd2 ct2),sl2⟩) (c2:PySem.W.codeIn K cd2 "parted" = true) (k2:PySem.W.keepIn K (.ref f2)=true)
    (a3:PySem.W.nsIn K mainGlobals "leaves_below" = some (some (.ref f3))) (l3:K.lookup f3=some ⟨oc3,od3,.func (PySem.W.fnOf "leaves_below" "leaves_below" (defArgs s_leaves_below) (defBody s_leaves_below) (defScope s_leaves_below) .none kV3 dc3 pm3 an3 cd3 ct3),sl3⟩) (c3:PySem.W.codeIn K cd3 "leaves_below" = true) (k3:PySem.W.keepIn K (.ref f3)=true)
    (a4:PySem.W.nsIn K mainGlobals "leaves" = some (some (.ref f4))) (l4:K.lookup f4=some ⟨oc4,od4,.func (PySem.W.fnOf "leaves" "leaves" (defArgs s_leaves) (defBody s_leaves) (defScope s_leaves) .none kV4 dc4 pm4 an4 cd4 ct4),sl4⟩) (c4:PySem.W.codeIn K cd4 "leaves" = true) (k4:PySem.W.keepIn K (.ref f4)=true)
    (a5:PySem.W.nsIn K mainGlobals "ends_in_four" = some (some (.ref f5))) (l5:K.lookup f5=some ⟨oc5,od5,.func (PySem.W.fnOf "ends_in_four" "ends_in_four" (defArgs s_ends_in_four) (defBody s_ends_in_four) (defScope s_ends_in_four) .none kV5 dc5 pm5 an5 cd5 ct5),sl5⟩) (c5:PySem.W.codeIn K cd5 "ends_in_four" = true) (k5:PySem.W.keepIn K (.ref f5)=true)
    (a6:PySem.W.nsIn K mainGlobals "settled" = some (some (.ref f6))) (l6:K.lookup f6=some ⟨oc6,od6,.func (PySem.W.fnOf "settled" "settled" (defArgs s_settled) (defBody s_settled) (defScope s_settled) .none kV6 dc6 pm6 an6 cd6 ct6),sl6⟩) (c6:PySem.W.codeIn K cd6 "settled" = true) (k6:PySem.W.keepIn K (.ref f6)=true)
    (a7:PySem.W.nsIn K mainGlobals "row_mapped" = some (some (.ref f7))) (l7:K.lookup f7=some ⟨oc7,od7,.func (PySem.W.fnOf "row_mapped" "row_mapped" (defArgs s_row_mapped) (defBody s_row_mapped) (defScope s_row_mapped) .none kV7 dc7 pm7 an7 cd7 ct7),sl7⟩) (c7:PySem.W.codeIn K cd7 "row_mapped" = true) (k7:PySem.W.keepIn K (.ref f7)=true)
    (a8:PySem.W.nsIn K mainGlobals "is_last_within" = some (some (.ref f8))) (l8:K.lookup f8=some ⟨oc8,od8,.func (PySem.W.fnOf "is_last_within" "is_last_within" (defArgs s_is_last_within) (defBody s_is_last_within) (defScope s_is_last_within) .none kV8 dc8 pm8 an8 cd8 ct8),sl8⟩) (c8:PySem.W.codeIn K cd8 "is_last_within" = true) (k8:PySem.W.keepIn K (.ref f8)=true)
    (a9:PySem.W.nsIn K mainGlobals "row_mixed" = some (some (.ref f9))) (l9:K.lookup f9=some ⟨oc9,od9,.func (PySem.W.fnOf "row_mixed" "row_mixed" (defArgs s_row_mixed) (defBody s_row_mixed) (defScope s_row_mixed) .none kV9 dc9 pm9 an9 cd9 ct9),sl9⟩) (c9:PySem.W.codeIn K cd9 "row_mixed" = true) (k9:PySem.W.keepIn K (.ref f9)=true)
    (a10:PySem.W.nsIn K mainGlobals "row_turned" = some (some (.ref f10))) (l10:K.lookup f10=some ⟨oc10,od10,.func (PySem.W.fnOf "row_turned" "row_turned" (defArgs s_row_turned) (defBody s_row_turned) (defScope s_row_turned) .none kV10 dc10 pm10 an10 cd10 ct10),sl10⟩) (c10:PySem.W.codeIn K cd10 "row_turned" = true) (k10:PySem.W.keepIn K (.ref f10)=true)
    (a11:PySem.W.nsIn K mainGlobals "need_one_level" = some (some (.ref f11))) (l11:K.lookup f11=some ⟨oc11,od11,.func (PySem.W.fnOf "need_one_level" "need_one_level" (defArgs s_need_one_level) (defBody s_need_one_level) (defScope s_need_one_level) .none kV11 dc11 pm11 an11 cd11 ct11),sl11⟩) (c11:PySem.W.codeIn K cd11 "need_one_level" = true) (k11:PySem.W.keepIn K (.ref f11)=true)
    (a12:PySem.W.nsIn K mainGlobals "blended" = some (some (.ref f12))) (l12:K.lookup f12=some ⟨oc12,od12,.func (PySem.W.fnOf "blended" "blended" (defArgs s_blended) (defBody s_blended) (defScope s_blended) .none kV12 dc12 pm12 an12 cd12 ct12),sl12⟩) (c12:PySem.W.codeIn K cd12 "blended" = true) (k12:PySem.W.keepIn K (.ref f12)=true)
    (a13:PySem.W.nsIn K mainGlobals "mapped" = some (some (.ref f13))) (l13:K.lookup f13=some ⟨oc13,od13,.func (PySem.W.fnOf "mapped" "mapped" (defArgs s_mapped) (defBody s_mapped) (defScope s_mapped) .none kV13 dc13 pm13 an13 cd13 ct13),sl13⟩) (c13:PySem.W.codeIn K cd13 "mapped" = true) (k13:PySem.W.keepIn K (.ref f13)=true)
    (a14:PySem.W.nsIn K mainGlobals "mixed" = some (some (.ref f14))) (l14:K.lookup f14=some ⟨oc14,od14,.func (PySem.W.fnOf "mixed" "mixed" (defArgs s_mixed) (defBody s_mixed) (defScope s_mixed) .none kV14 dc14 pm14 an14 cd14 ct14),sl14⟩) (c14:PySem.W.codeIn K cd14 "mixed" = true) (k14:PySem.W.keepIn K (.ref f14)=true)
    (a15:PySem.W.nsIn K mainGlobals "rearranged" = some (some (.ref f15))) (l15:K.lookup f15=some ⟨oc15,od15,.func (PySem.W.fnOf "rearranged" "rearranged" (defArgs s_rearranged) (defBody s_rearranged) (defScope s_rearranged) .none kV15 dc15 pm15 an15 cd15 ct15),sl15⟩) (c15:PySem.W.codeIn K cd15 "rearranged" = true) (k15:PySem.W.keepIn K (.ref f15)=true)
    (a16:PySem.W.nsIn K mainGlobals "turned_left" = some (some (.ref f16))) (l16:K.lookup f16=some ⟨oc16,od16,.func (PySem.W.fnOf "turned_left" "turned_left" (defArgs s_turned_left) (defBody s_turned_left) (defScope s_turned_left) .none kV16 dc16 pm16 an16 cd16 ct16),sl16⟩) (c16:PySem.W.codeIn K cd16 "turned_left" = true) (k16:PySem.W.keepIn K (.ref f16)=true)
    (a17:PySem.W.nsIn K mainGlobals "_law_at" = some (some (.ref f17))) (l17:K.lookup f17=some ⟨oc17,od17,.func (PySem.W.fnOf "_law_at" "_law_at" (defArgs s_law_at) (defBody s_law_at) (defScope s_law_at) .none kV17 dc17 pm17 an17 cd17 ct17),sl17⟩) (c17:PySem.W.codeIn K cd17 "_law_at" = true) (k17:PySem.W.keepIn K (.ref f17)=true)
    (a18:PySem.W.nsIn K mainGlobals "_law_mix" = some (some (.ref f18))) (l18:K.lookup f18=some ⟨oc18,od18,.func (PySem.W.fnOf "_law_mix" "_law_mix" (defArgs s_law_mix) (defBody s_law_mix) (defScope s_law_mix) .none kV18 dc18 pm18 an18 cd18 ct18),sl18⟩) (c18:PySem.W.codeIn K cd18 "_law_mix" = true) (k18:PySem.W.keepIn K (.ref f18)=true)
    (a19:PySem.W.nsIn K mainGlobals "_law_level_by" = some (some (.ref f19))) (l19:K.lookup f19=some ⟨oc19,od19,.func (PySem.W.fnOf "_law_level_by" "_law_level_by" (defArgs s_law_level_by) (defBody s_law_level_by) (defScope s_law_level_by) .none kV19 dc19 pm19 an19 cd19 ct19),sl19⟩) (c19:PySem.W.codeIn K cd19 "_law_level_by" = true) (k19:PySem.W.keepIn K (.ref f19)=true)
    (a20:PySem.W.nsIn K mainGlobals "_law_code_by" = some (some (.ref f20))) (l20:K.lookup f20=some ⟨oc20,od20,.func (PySem.W.fnOf "_law_code_by" "_law_code_by" (defArgs s_law_code_by) (defBody s_law_code_by) (defScope s_law_code_by) .none kV20 dc20 pm20 an20 cd20 ct20),sl20⟩) (c20:PySem.W.codeIn K cd20 "_law_code_by" = true) (k20:PySem.W.keepIn K (.ref f20)=true)
    (a21:PySem.W.nsIn K mainGlobals "_law_colour_by" = some (some (.ref f21))) (l21:K.lookup f21=some ⟨oc21,od21,.func (PySem.W.fnOf "_law_colour_by" "_law_colour_by" (defArgs s_law_colour_by) (defBody s_law_colour_by) (defScope s_law_colour_by) .none kV21 dc21 pm21 an21 cd21 ct21),sl21⟩) (c21:PySem.W.codeIn K cd21 "_law_colour_by" = true) (k21:PySem.W.keepIn K (.ref f21)=true)
    (a22:PySem.W.nsIn K mainGlobals "_law_four" = some (some (.ref f22))) (l22:K.lookup f22=some ⟨oc22,od22,.func (PySem.W.fnOf "_law_four" "_law_four" (defArgs s_law_four) (defBody s_law_four) (defScope s_law_four) .none kV22 dc22 pm22 an22 cd22 ct22),sl22⟩) (c22:PySem.W.codeIn K cd22 "_law_four" = true) (k22:PySem.W.keepIn K (.ref f22)=true)
    (a23:PySem.W.nsIn K mainGlobals "_law_painted" = some (some (.ref f23))) (l23:K.lookup f23=some ⟨oc23,od23,.func (PySem.W.fnOf "_law_painted" "_law_painted" (defArgs s_law_painted) (defBody s_law_painted) (defScope s_law_painted) .none kV23 dc23 pm23 an23 cd23 ct23),sl23⟩) (c23:PySem.W.codeIn K cd23 "_law_painted" = true) (k23:PySem.W.keepIn K (.ref f23)=true)
    (a24:PySem.W.nsIn K mainGlobals "_law_tree_by" = some (some (.ref f24))) (l24:K.lookup f24=some ⟨oc24,od24,.func (PySem.W.fnOf "_law_tree_by" "_law_tree_by" (defArgs s_law_tree_by) (defBody s_law_tree_by) (defScope s_law_tree_by) .none kV24 dc24 pm24 an24 cd24 ct24),sl24⟩) (c24:PySem.W.codeIn K cd24 "_law_tree_by" = true) (k24:PySem.W.keepIn K (.ref f24)=true)
    (a25:PySem.W.nsIn K mainGlobals "_law_quarter" = some (some (.ref f25))) (l25:K.lookup f25=some ⟨oc25,od25,.func (PySem.W.fnOf "_law_quarter" "_law_quarter" (defArgs s_law_quarter) (defBody s_law_quarter) (defScope s_law_quarter) .none kV25 dc25 pm25 an25 cd25 ct25),sl25⟩) (c25:PySem.W.codeIn K cd25 "_law_quarter" = true) (k25:PySem.W.keepIn K (.ref f25)=true)
    (a26:PySem.W.nsIn K mainGlobals "_law_due" = some (some (.ref f26))) (l26:K.lookup f26=some ⟨oc26,od26,.func (PySem.W.fnOf "_law_due" "_law_due" (defArgs s_law_due) (defBody s_law_due) (defScope s_law_due) .none kV26 dc26 pm26 an26 cd26 ct26),sl26⟩) (c26:PySem.W.codeIn K cd26 "_law_due" = true) (k26:PySem.W.keepIn K (.ref f26)=true)
    (a27:PySem.W.nsIn K mainGlobals "_law_agrees" = some (some (.ref f27))) (l27:K.lookup f27=some ⟨oc27,od27,.func (PySem.W.fnOf "_law_agrees" "_law_agrees" (defArgs s_law_agrees) (defBody s_law_agrees) (defScope s_law_agrees) .none kV27 dc27 pm27 an27 cd27 ct27),sl27⟩) (c27:PySem.W.codeIn K cd27 "_law_agrees" = true) (k27:PySem.W.keepIn K (.ref f27)=true)
    (a28:PySem.W.nsIn K mainGlobals "_law_leaves" = some (some (.ref f28))) (l28:K.lookup f28=some ⟨oc28,od28,.func (PySem.W.fnOf "_law_leaves" "_law_leaves" (defArgs s_law_leaves) (defBody s_law_leaves) (defScope s_law_leaves) .none kV28 dc28 pm28 an28 cd28 ct28),sl28⟩) (c28:PySem.W.codeIn K cd28 "_law_leaves" = true) (k28:PySem.W.keepIn K (.ref f28)=true)
    (a29:PySem.W.nsIn K mainGlobals "_law_colour_at" = some (some (.ref f29))) (l29:K.lookup f29=some ⟨oc29,od29,.func (PySem.W.fnOf "_law_colour_at" "_law_colour_at" (defArgs s_law_colour_at) (defBody s_law_colour_at) (defScope s_law_colour_at) .none kV29 dc29 pm29 an29 cd29 ct29),sl29⟩) (c29:PySem.W.codeIn K cd29 "_law_colour_at" = true) (k29:PySem.W.keepIn K (.ref f29)=true)
    (a30:PySem.W.nsIn K mainGlobals "_law_squares" = some (some (.ref f30))) (l30:K.lookup f30=some ⟨oc30,od30,.func (PySem.W.fnOf "_law_squares" "_law_squares" (defArgs s_law_squares) (defBody s_law_squares) (defScope s_law_squares) .none kV30 dc30 pm30 an30 cd30 ct30),sl30⟩) (c30:PySem.W.codeIn K cd30 "_law_squares" = true) (k30:PySem.W.keepIn K (.ref f30)=true)
    (a31:PySem.W.nsIn K mainGlobals "_law_tree_of" = some (some (.ref f31))) (l31:K.lookup f31=some ⟨oc31,od31,.func (PySem.W.fnOf "_law_tree_of" "_law_tree_of" (defArgs s_law_tree_of) (defBody s_law_tree_of) (defScope s_law_tree_of) .none kV31 dc31 pm31 an31 cd31 ct31),sl31⟩) (c31:PySem.W.codeIn K cd31 "_law_tree_of" = true) (k31:PySem.W.keepIn K (.ref f31)=true)
    (a32:PySem.W.nsIn K mainGlobals "_law_is_turned" = some (some (.ref f32))) (l32:K.lookup f32=some ⟨oc32,od32,.func (PySem.W.fnOf "_law_is_turned" "_law_is_turned" (defArgs s_law_is_turned) (defBody s_law_is_turned) (defScope s_law_is_turned) .none kV32 dc32 pm32 an32 cd32 ct32),sl32⟩) (c32:PySem.W.codeIn K cd32 "_law_is_turned" = true) (k32:PySem.W.keepIn K (.ref f32)=true)
    (a33:PySem.W.nsIn K mainGlobals "_law_told_anew" = some (some (.ref f33))) (l33:K.lookup f33=some ⟨oc33,od33,.func (PySem.W.fnOf "_law_told_anew" "_law_told_anew" (defArgs s_law_told_anew) (defBody s_law_told_anew) (defScope s_law_told_anew) .none kV33 dc33 pm33 an33 cd33 ct33),sl33⟩) (c33:PySem.W.codeIn K cd33 "_law_told_anew" = true) (k33:PySem.W.keepIn K (.ref f33)=true)
    (a34:PySem.W.nsIn K mainGlobals "law" = some (some (.ref f34))) (l34:K.lookup f34=some ⟨oc34,od34,.func (PySem.W.fnOf "law" "law" (defArgs s_law) (defBody s_law) (defScope s_law) .none kV34 dc34 pm34 an34 cd34 ct34),sl34⟩) (c34:PySem.W.codeIn K cd34 "law" = true) (k34:PySem.W.keepIn K (.ref f34)=true)
    (z0:PySem.W.nsIn K mainGlobals "isinstance" = some none)
    (z1:PySem.W.nsIn K mainGlobals "tuple" = some none)
    (z2:PySem.W.nsIn K mainGlobals "all" = some none)
    (z3:PySem.W.nsIn K mainGlobals "range" = some none)
    (z4:PySem.W.nsIn K mainGlobals "str" = some none)
    {zt5:Tok} (z5:PySem.W.nsIn K mainGlobals "QUARTERS" = some (some (.str "0123" zt5)))
    (z6:PySem.W.nsIn K mainGlobals "len" = some none)
    (z7:PySem.W.nsIn K mainGlobals "max" = some none)
    (z8:PySem.W.nsIn K mainGlobals "sorted" = some none)
    {zt9:Tok} (z9:PySem.W.nsIn K mainGlobals "TO_THE_LEFT" = some (some (.str "2031" zt9)))
    (z10:PySem.W.nsIn K mainGlobals "int" = some none)
    (z11:PySem.W.nsIn K mainGlobals "any" = some none)
    (z12:PySem.W.nsIn K mainGlobals "list" = some none)
    (z13:PySem.W.nsIn K mainGlobals "min" = some none)
    (z14:PySem.W.nsIn K mainGlobals "bool" = some none)
    (z15:PySem.W.nsIn K mainGlobals "dict" = some none)
    {ka0:Addr} {kd0:Option Addr} {kt00 kt01 kt02 kt03:Tok} {kn0:Nat} {ks0:Array (Option Value)} (y0:PySem.W.nsIn K mainGlobals "LEFT" = some (some (.ref ka0))) (y1:K.lookup ka0=some ⟨.type "tuple",kd0,.seq #[.int 1 kt00,.int 3 kt01,.int 0 kt02,.int 2 kt03] kn0,ks0⟩)
    {ts:List Addr} {tp13 tc13 tp14 tc14:Addr} {tl13 tl14:Value} {td13 td14:Option Addr} {tv13 tv14:Array Value} {ts13 ts14:Array (Option Value)}
    (ta13:cd13=.ref tc13) (tb13:K.lookup tc13=some ⟨tl13,td13,.fields tv13,ts13⟩) (te13:tv13[11]? = some (.ref tp13)) (tf13:PySem.W.codeHdIn K tc13 tp13=true) (n13:K.lookup tp13=none) (m13:tp13∈ts)
    (ta14:cd14=.ref tc14) (tb14:K.lookup tc14=some ⟨tl14,td14,.fields tv14,ts14⟩) (te14:tv14[11]? = some (.ref tp14)) (tf14:PySem.W.codeHdIn K tc14 tp14=true) (n14:K.lookup tp14=none) (m14:tp14∈ts)
    (nd:([tp13,tp14]:List Addr).Nodup)
    : ∃ (fd:FuncData) (Ps:List Addr) (sp:Sp),(∀ (s:Shared) (v:Value),BindsTo s fd ⟨[v],[]⟩ [("_law_script",v)])∧(∀ Pt∈Ps,Pt∈ts∧K.lookup Pt=none∧∃ c,PySem.W.CodeHd h c Pt) ∧
      (∀ base:Heap,K.In base→base.Ns mainGlobals mg→BMain mg base→FnOk l.prog w K mg base CX0 46 fa fd ["_law_script"] sp) ∧
      ∀ (H:Hp) (a:Addr) (ns:List Int),ns.length≤63→(∀ Pt∈Ps,H Pt=some (.tbl #[]))→SqL K H a (ns.map V.int)→sp [.ref a] H (fun v _=>v=.bl true) fun _ _ _=>False:=by
  have e:=hfa.symm.trans (PySem.W.mg_of X G a34)
  cases e
  have T:Tx K mg:=⟨PySem.W.mg_none_of X G z0,PySem.W.mg_none_of X G z1,PySem.W.mg_none_of X G z2,PySem.W.mg_none_of X G z3,PySem.W.mg_none_of X G z4,⟨_,PySem.W.mg_of X G z5⟩,PySem.W.mg_none_of X G z6,PySem.W.mg_none_of X G z7,PySem.W.mg_none_of X G z8,⟨_,PySem.W.mg_of X G z9⟩,PySem.W.mg_none_of X G z10,PySem.W.mg_none_of X G z11,PySem.W.mg_none_of X G z12,PySem.W.mg_none_of X G z13,PySem.W.mg_none_of X G z14,PySem.W.mg_none_of X G z15⟩
  have U:Ty K mg:=⟨⟨ka0,PySem.W.mg_of X G y0,_,_,_,y1,rfl,rfl,(by show 4≤sizeLine; decide),.cons ⟨_,rfl⟩ (.cons ⟨_,rfl⟩ (.cons ⟨_,rfl⟩ (.cons ⟨_,rfl⟩ .nil)))⟩⟩
  have F0:=funD_mk (st:=s_is_of_one_colour) l0 c0 k0
  have F1:=funD_mk (st:=s_gathered) l1 c1 k1
  have F2:=funD_mk (st:=s_parted) l2 c2 k2
  have F3:=funD_mk (st:=s_leaves_below) l3 c3 k3
  have F4:=funD_mk (st:=s_leaves) l4 c4 k4
  have F5:=funD_mk (st:=s_ends_in_four) l5 c5 k5
  have F6:=funD_mk (st:=s_settled) l6 c6 k6
  have F7:=funD_mk (st:=s_row_mapped) l7 c7 k7
  have F8:=funD_mk (st:=s_is_last_within) l8 c8 k8
  have F9:=funD_mk (st:=s_row_mixed) l9 c9 k9
  have F10:=funD_mk (st:=s_row_turned) l10 c10 k10
  have F11:=funD_mk (st:=s_need_one_level) l11 c11 k11
  have F12:=funD_mk (st:=s_blended) l12 c12 k12
  have F13:=funD_mk (st:=s_mapped) l13 c13 k13
  have F14:=funD_mk (st:=s_mixed) l14 c14 k14
  have F15:=funD_mk (st:=s_rearranged) l15 c15 k15
  have F16:=funD_mk (st:=s_turned_left) l16 c16 k16
  have F17:=funD_mk (st:=s_law_at) l17 c17 k17
  have F18:=funD_mk (st:=s_law_mix) l18 c18 k18
  have F19:=funD_mk (st:=s_law_level_by) l19 c19 k19
  have F20:=funD_mk (st:=s_law_code_by) l20 c20 k20
  have F21:=funD_mk (st:=s_law_colour_by) l21 c21 k21
  have F22:=funD_mk (st:=s_law_four) l22 c22 k22
  have F23:=funD_mk (st:=s_law_painted) l23 c23 k23
  have F24:=funD_mk (st:=s_law_tree_by) l24 c24 k24
  have F25:=funD_mk (st:=s_law_quarter) l25 c25 k25
  have F26:=funD_mk (st:=s_law_due) l26 c26 k26
  have F27:=funD_mk (st:=s_law_agrees) l27 c27 k27
  have F28:=funD_mk (st:=s_law_leaves) l28 c28 k28
  have F29:=funD_mk (st:=s_law_colour_at) l29 c29 k29
  have F30:=funD_mk (st:=s_law_squares) l30 c30 k30
  have F31:=funD_mk (st:=s_law_tree_of) l31 c31 k31
  have F32:=funD_mk (st:=s_law_is_turned) l32 c32 k32
  have F33:=funD_mk (st:=s_law_told_anew) l33 c33 k33
  have F34:=funD_mk (st:=s_law) l34 c34 k34
  have b0:=F0.binds (ps:=["parts"]) fun _ _ _ _ _ _ us hl=>by obtain ⟨a,rfl⟩:=lenK1 hl; exact rfl
  have b1:=F1.binds (ps:=["parts"]) fun _ _ _ _ _ _ us hl=>by obtain ⟨a,rfl⟩:=lenK1 hl; exact rfl
  have b2:=F2.binds (ps:=["tree"]) fun _ _ _ _ _ _ us hl=>by obtain ⟨a,rfl⟩:=lenK1 hl; exact rfl
  have b3:=F3.binds (ps:=["tree","code"]) fun _ _ _ _ _ _ us hl=>by obtain ⟨a,b,rfl⟩:=lenK2 hl; exact rfl
  have b4:=F4.binds (ps:=["sheet"]) fun _ _ _ _ _ _ us hl=>by obtain ⟨a,rfl⟩:=lenK1 hl; exact rfl
  have b5:=F5.binds (ps:=["row"]) fun _ _ _ _ _ _ us hl=>by obtain ⟨a,rfl⟩:=lenK1 hl; exact rfl
  have b6:=F6.binds (ps:=["cover"]) fun _ _ _ _ _ _ us hl=>by obtain ⟨a,rfl⟩:=lenK1 hl; exact rfl
  have b7:=F7.binds (ps:=["row","turned"]) fun _ _ _ _ _ _ us hl=>by obtain ⟨a,b,rfl⟩:=lenK2 hl; exact rfl
  have b8:=F8.binds (ps:=["code","other"]) fun _ _ _ _ _ _ us hl=>by obtain ⟨a,b,rfl⟩:=lenK2 hl; exact rfl
  have b9:=F9.binds (ps:=["row","other","table"]) fun _ _ _ _ _ _ us hl=>by obtain ⟨a,b,c,rfl⟩:=lenK3 hl; exact rfl
  have b10:=F10.binds (ps:=["row"]) fun _ _ _ _ _ _ us hl=>by obtain ⟨a,rfl⟩:=lenK1 hl; exact rfl
  have b11:=F11.binds (ps:=["sheets"]) fun _ _ _ _ _ _ us hl=>by obtain ⟨a,rfl⟩:=lenK1 hl; exact rfl
  have b12:=F12.binds (ps:=["trees","rule"]) fun _ _ _ _ _ _ us hl=>by obtain ⟨a,b,rfl⟩:=lenK2 hl; exact rfl
  have b13:=F13.binds (ps:=["sheet","turned"]) fun _ _ _ _ _ _ us hl=>by obtain ⟨a,b,rfl⟩:=lenK2 hl; exact rfl
  have b14:=F14.binds (ps:=["one","other","table"]) fun _ _ _ _ _ _ us hl=>by obtain ⟨a,b,c,rfl⟩:=lenK3 hl; exact rfl
  have b15:=F15.binds (ps:=["tree","order"]) fun _ _ _ _ _ _ us hl=>by obtain ⟨a,b,rfl⟩:=lenK2 hl; exact rfl
  have b16:=F16.binds (ps:=["sheet"]) fun _ _ _ _ _ _ us hl=>by obtain ⟨a,rfl⟩:=lenK1 hl; exact rfl
  have b17:=F17.binds (ps:=["_law_script","_law_k"]) fun _ _ _ _ _ _ us hl=>by obtain ⟨a,b,rfl⟩:=lenK2 hl; exact rfl
  have b18:=F18.binds (ps:=["_law_cell","_law_k"]) fun _ _ _ _ _ _ us hl=>by obtain ⟨a,b,rfl⟩:=lenK2 hl; exact rfl
  have b19:=F19.binds (ps:=["_law_cell"]) fun _ _ _ _ _ _ us hl=>by obtain ⟨a,rfl⟩:=lenK1 hl; exact rfl
  have b20:=F20.binds (ps:=["_law_cell","_law_k","_law_most"]) fun _ _ _ _ _ _ us hl=>by obtain ⟨a,b,c,rfl⟩:=lenK3 hl; exact rfl
  have b21:=F21.binds (ps:=["_law_script","_law_cell","_law_k"]) fun _ _ _ _ _ _ us hl=>by obtain ⟨a,b,c,rfl⟩:=lenK3 hl; exact rfl
  have b22:=F22.binds (ps:=["_law_tree"]) fun _ _ _ _ _ _ us hl=>by obtain ⟨a,rfl⟩:=lenK1 hl; exact rfl
  have b23:=F23.binds (ps:=["_law_tree","_law_code","_law_colour"]) fun _ _ _ _ _ _ us hl=>by obtain ⟨a,b,c,rfl⟩:=lenK3 hl; exact rfl
  have b24:=F24.binds (ps:=["_law_script","_law_first","_law_level","_law_many"]) fun _ _ _ _ _ _ us hl=>by obtain ⟨a,b,c,d,rfl⟩:=lenK4 hl; exact rfl
  have b25:=F25.binds (ps:=["_law_tree","_law_k"]) fun _ _ _ _ _ _ us hl=>by obtain ⟨a,b,rfl⟩:=lenK2 hl; exact rfl
  have b26:=F26.binds (ps:=["_law_rule","_law_colours"]) fun _ _ _ _ _ _ us hl=>by obtain ⟨a,b,rfl⟩:=lenK2 hl; exact rfl
  have b27:=F27.binds (ps:=["_law_found","_law_trees","_law_rule"]) fun _ _ _ _ _ _ us hl=>by obtain ⟨a,b,c,rfl⟩:=lenK3 hl; exact rfl
  have b28:=F28.binds (ps:=["_law_tree","_law_code"]) fun _ _ _ _ _ _ us hl=>by obtain ⟨a,b,rfl⟩:=lenK2 hl; exact rfl
  have b29:=F29.binds (ps:=["_law_tree","_law_level","_law_x","_law_y"]) fun _ _ _ _ _ _ us hl=>by obtain ⟨a,b,c,d,rfl⟩:=lenK4 hl; exact rfl
  have b30:=F30.binds (ps:=["_law_tree","_law_code","_law_x","_law_y","_law_wide"]) fun _ _ _ _ _ _ us hl=>by obtain ⟨a,b,c,d,e,rfl⟩:=lenK5 hl; exact rfl
  have b31:=F31.binds (ps:=["_law_row"]) fun _ _ _ _ _ _ us hl=>by obtain ⟨a,rfl⟩:=lenK1 hl; exact rfl
  have b32:=F32.binds (ps:=["_law_found","_law_tree","_law_level"]) fun _ _ _ _ _ _ us hl=>by obtain ⟨a,b,c,rfl⟩:=lenK3 hl; exact rfl
  have b33:=F33.binds (ps:=["_law_handed","_law_due_here","_law_some"]) fun _ _ _ _ _ _ us hl=>by obtain ⟨a,b,c,rfl⟩:=lenK3 hl; exact rfl
  have t13:=tabOf_mk ta13 tb13 te13 tf13
  have t14:=tabOf_mk ta14 tb14 te14 tf14
  have FT13:=funT_mk (st:=s_mapped) l13 c13 t13
  have FT14:=funT_mk (st:=s_mixed) l14 c14 t14
  obtain ⟨Tb,eTb⟩:∃ Tb:List (Addr × Str),Tb=[(tp13,qMapped),(tp14,qMixed)]:=⟨_,rfl⟩
  have hnd:(Tb.map (·.1)).Nodup:=by rw [eTb]; exact nd
  have hT_mapped:(tp13,qMapped)∈Tb:=by rw [eTb]; simp
  have hT_mixed:(tp14,qMixed)∈Tb:=by rw [eTb]; simp
  refine ⟨PySem.W.fnOf "law" "law" (defArgs s_law) (defBody s_law) (defScope s_law) .none kV34 dc34 pm34 an34 cd34 ct34,Tb.map (·.1),sp_law K Tb,fun s v=>.of_eq rfl,fun Pt hPt => ?_,fun base KXb _ hB => ?_,fun H a ns hl hO hS=>⟨a,ns,rfl,hS,hl,Tabs.start hO,fun _=>rfl⟩⟩
  · rw [eTb] at hPt
    rcases List.mem_cons.mp hPt with rfl | hPt
    · exact ⟨m13,n13,(tabOf_hd X t13).elim fun c h=>⟨c,h.2⟩⟩
    have hPt:=List.mem_singleton.mp hPt
    subst hPt
    exact ⟨m14,n14,(tabOf_hd X t14).elim fun c h=>⟨c,h.2⟩⟩
  have C_is_of_one_colour:Fok l.prog w K mg base CX0 1 "is_of_one_colour" ["parts"] [] (sp_is_one):=fok F0 (ok_is_of_one_colour T F0) b0 (PySem.W.mg_of X G a0)
  have C_gathered:Fok l.prog w K mg base CX0 2 "gathered" ["parts"] [] (sp_gathered):=fok F1 (ok_gathered T quiet0 F1 C_is_of_one_colour) b1 (PySem.W.mg_of X G a1)
  have C_parted:Fok l.prog w K mg base CX0 1 "parted" ["tree"] [] (sp_parted):=fok F2 (ok_parted T F2) b2 (PySem.W.mg_of X G a2)
  have C_leaves_below:Fok l.prog w K mg base CX0 42 "leaves_below" ["tree","code"] [] (sp_leaves_below 41):=fok F3 (ok_leaves_below T quiet0 F3 b3 (PySem.W.mg_of X G a3) 41) b3 (PySem.W.mg_of X G a3)
  have C_leaves:Fok l.prog w K mg base CX0 43 "leaves" ["sheet"] [] (sp_leaves):=fok F4 (ok_leaves T quiet0 F4 C_leaves_below) b4 (PySem.W.mg_of X G a4)
  have C_ends_in_four:Fok l.prog w K mg base CX0 1 "ends_in_four" ["row"] [] (sp_ends_in_four):=fok F5 (ok_ends_in_four T F5) b5 (PySem.W.mg_of X G a5)
  have C_settled:Fok l.prog w K mg base CX0 2 "settled" ["cover"] [] (sp_settled):=fok F6 (ok_settled T quiet0 F6 C_ends_in_four) b6 (PySem.W.mg_of X G a6)
  have C_row_mapped:Fok l.prog w K mg base CX0 3 "row_mapped" ["row","turned"] [] (sp_row_mapped):=fok F7 (ok_row_mapped T quiet0 F7 C_settled) b7 (PySem.W.mg_of X G a7)
  have C_is_last_within:Fok l.prog w K mg base CX0 1 "is_last_within" ["code","other"] [] (sp_is_last_within):=fok F8 (ok_is_last_within T F8) b8 (PySem.W.mg_of X G a8)
  have C_row_mixed:Fok l.prog w K mg base CX0 3 "row_mixed" ["row","other","table"] [] (sp_row_mixed):=fok F9 (ok_row_mixed T quiet0 F9 C_is_last_within C_settled) b9 (PySem.W.mg_of X G a9)
  have C_row_turned:Fok l.prog w K mg base CX0 1 "row_turned" ["row"] [] (sp_row_turned):=fok F10 (ok_row_turned T F10) b10 (PySem.W.mg_of X G a10)
  have C_need_one_level:Fok l.prog w K mg base CX0 1 "need_one_level" ["sheets"] [] (sp_one_level):=fok F11 (ok_need_one_level T F11) b11 (PySem.W.mg_of X G a11)
  have C_blended:BlOk l.prog w K mg base CX0:=⟨f12,_,b12,F12.kp,PySem.W.mg_of X G a12,fun Z fa c' o qual R g len RO=>ok_blended T quiet0 F12 C_parted C_gathered b12 (PySem.W.mg_of X G a12) RO 41⟩
  have C_mapped:Fok l.prog w K mg base CX0 45 "mapped" ["sheet","turned"] [] (sp_mapped Tb):=fok F13 (ok_mapped T quiet0 FT13 KXb hB hT_mapped hnd C_blended) b13 (PySem.W.mg_of X G a13)
  have C_mixed:Fok l.prog w K mg base CX0 45 "mixed" ["one","other","table"] [] (sp_mixed Tb):=fok F14 (ok_mixed T quiet0 FT14 KXb hB hT_mixed hnd C_need_one_level C_blended) b14 (PySem.W.mg_of X G a14)
  have C_rearranged:Fok l.prog w K mg base CX0 41 "rearranged" ["tree","order"] [] (sp_rearranged K 40):=fok F15 (ok_rearranged T quiet0 F15 b15 (PySem.W.mg_of X G a15) 40) b15 (PySem.W.mg_of X G a15)
  have C_turned_left:Fok l.prog w K mg base CX0 42 "turned_left" ["sheet"] [] (sp_turn oL):=fok F16 (ok_turned_left T U quiet0 F16 C_rearranged) b16 (PySem.W.mg_of X G a16)
  have C__law_at:Fok l.prog w K mg base CX0 1 "_law_at" ["_law_script","_law_k"] [] (sp_law_at K):=fok F17 (ok_law_at T F17) b17 (PySem.W.mg_of X G a17)
  have C__law_mix:Fok l.prog w K mg base CX0 1 "_law_mix" ["_law_cell","_law_k"] [] (sp_law_mix):=fok F18 (ok_law_mix T F18) b18 (PySem.W.mg_of X G a18)
  have C__law_level_by:Fok l.prog w K mg base CX0 1 "_law_level_by" ["_law_cell"] [] (sp_law_level_by):=fok F19 (ok_law_level_by T F19) b19 (PySem.W.mg_of X G a19)
  have C__law_code_by:Fok l.prog w K mg base CX0 2 "_law_code_by" ["_law_cell","_law_k","_law_most"] [] (sp_law_code_by):=fok F20 (ok_law_code_by T quiet0 F20 C__law_mix) b20 (PySem.W.mg_of X G a20)
  have C__law_colour_by:Fok l.prog w K mg base CX0 2 "_law_colour_by" ["_law_script","_law_cell","_law_k"] [] (sp_law_colour_by K):=fok F21 (ok_law_colour_by T quiet0 F21 C__law_mix C__law_at) b21 (PySem.W.mg_of X G a21)
  have C__law_four:Fok l.prog w K mg base CX0 1 "_law_four" ["_law_tree"] [] (sp_law_four):=fok F22 (ok_law_four T F22) b22 (PySem.W.mg_of X G a22)
  have C__law_painted:Fok l.prog w K mg base CX0 42 "_law_painted" ["_law_tree","_law_code","_law_colour"] [] (sp_law_painted 40):=fok F23 (ok_law_painted T quiet0 F23 C__law_four b23 (PySem.W.mg_of X G a23) 40) b23 (PySem.W.mg_of X G a23)
  have C__law_tree_by:Fok l.prog w K mg base CX0 43 "_law_tree_by" ["_law_script","_law_first","_law_level","_law_many"] [] (sp_law_tree_by K):=fok F24 (ok_law_tree_by T quiet0 F24 C__law_at C__law_mix C__law_code_by C__law_colour_by C__law_painted) b24 (PySem.W.mg_of X G a24)
  have C__law_quarter:Fok l.prog w K mg base CX0 1 "_law_quarter" ["_law_tree","_law_k"] [] (sp_law_quarter):=fok F25 (ok_law_quarter T F25) b25 (PySem.W.mg_of X G a25)
  have C__law_due:Fok l.prog w K mg base CX0 1 "_law_due" ["_law_rule","_law_colours"] [] (sp_law_due):=fok F26 (ok_law_due T F26) b26 (PySem.W.mg_of X G a26)
  have C__law_agrees:Fok l.prog w K mg base CX0 43 "_law_agrees" ["_law_found","_law_trees","_law_rule"] [] (sp_law_agrees 41):=fok F27 (ok_law_agrees T quiet0 F27 C__law_due C__law_quarter b27 (PySem.W.mg_of X G a27) 41) b27 (PySem.W.mg_of X G a27)
  have C__law_leaves:Fok l.prog w K mg base CX0 42 "_law_leaves" ["_law_tree","_law_code"] [] (sp_law_leaves 41):=fok F28 (ok_law_leaves T quiet0 F28 b28 (PySem.W.mg_of X G a28) 41) b28 (PySem.W.mg_of X G a28)
  have C__law_colour_at:Fok l.prog w K mg base CX0 1 "_law_colour_at" ["_law_tree","_law_level","_law_x","_law_y"] [] (sp_law_colour_at):=fok F29 (ok_law_colour_at T F29) b29 (PySem.W.mg_of X G a29)
  have C__law_squares:Fok l.prog w K mg base CX0 41 "_law_squares" ["_law_tree","_law_code","_law_x","_law_y","_law_wide"] [] (sp_law_squares 40):=fok F30 (ok_law_squares T quiet0 F30 b30 (PySem.W.mg_of X G a30) 40) b30 (PySem.W.mg_of X G a30)
  have C__law_tree_of:Fok l.prog w K mg base CX0 43 "_law_tree_of" ["_law_row"] [] (sp_law_tree_of):=fok F31 (ok_law_tree_of T quiet0 F31 C__law_painted C__law_leaves) b31 (PySem.W.mg_of X G a31)
  have C__law_is_turned:Fok l.prog w K mg base CX0 42 "_law_is_turned" ["_law_found","_law_tree","_law_level"] [] (sp_law_is_turned):=fok F32 (ok_law_is_turned T quiet0 F32 C__law_squares C__law_colour_at) b32 (PySem.W.mg_of X G a32)
  have C__law_told_anew:Fok l.prog w K mg base CX0 4 "_law_told_anew" ["_law_handed","_law_due_here","_law_some"] [] (sp_law_told_anew):=fok F33 (ok_law_told_anew T quiet0 F33 C_row_mapped C_row_mixed C_row_turned) b33 (PySem.W.mg_of X G a33)
  exact ok_law T quiet0 F34 C__law_at C__law_level_by C__law_tree_by C__law_leaves C__law_colour_by C_row_mapped C_row_mixed C_row_turned C__law_tree_of C__law_agrees C__law_is_turned C__law_told_anew C_leaves C_mapped C_mixed C_turned_left
theorem walk {l:PySem.W.OpenLaw} {q:Program} {loose:List Str} {XP:(Str→Option Value)→Heap→Prop} {YP:World→Heap→Prop} {d:DefRec} {K:Params→PySem.W.Frag} {ts:List Addr} (hn:l.most=some 63) (hdf:d.params.defaults=[])
    (hY:∀ (w:World) (h:Heap),YP w h→(K w.params).In h) (hT:∀ (w:World) (h:Heap),YP w h→∀ P∈ts,h.get? P=some (PySem.W.tabObj #[]))
    (F:∀ (w:World) (mg:Str→Option Value) (fa:Addr) (h:Heap),(K w.params).In h→h.Ns mainGlobals mg→mg d.name=some (.ref fa) →
      ∃ (fd:FuncData) (Ps:List Addr) (sp:Sp),(∀ (s:Shared) (u:Value),BindsTo s fd ⟨[u],[]⟩ [("_law_script",u)])∧(∀ Pt∈Ps,Pt∈ts∧(K w.params).lookup Pt=none∧∃ c,PySem.W.CodeHd h c Pt) ∧
        (∀ base:Heap,(K w.params).In base→base.Ns mainGlobals mg→BMain mg base→FnOk l.prog w (K w.params) mg base CX0 46 fa fd ["_law_script"] sp) ∧
        ∀ (H:Hp) (a:Addr) (ns:List Int),ns.length≤63→(∀ P∈Ps,H P=some (.tbl #[]))→SqL (K w.params) H a (ns.map V.int)→sp [.ref a] H (fun v _=>v=.bl true) fun _ _ _=>False) :
    PySem.W.WalkO q loose XP YP l.row.toRowW d [] (fun f vs=>PySem.call f vs) :=
  L2.walk_ofT (n:=63) (k:=46) (x := "_law_script") (CX:=fun w=>CX0) hn (by decide) hdf ⟨rfl,by decide,by decide⟩ hY hT F fun _ _ _ _ _ z=>z
end Qs
-- The head lays a twin equation for each constant of the run; those of the largest ones are most of its size and are not needed. A name that stands already is not laid anew.
def PySem.W.Fast.tw17068843219382608229:Nat:=0
def PySem.W.Fast.tw7074263949587080164:Nat:=0
def PySem.W.Fast.tw9527210224034548995:Nat:=0
def PySem.W.Fast.tw6854980488481277531:Nat:=0
def PySem.W.Fast.tw45976413235738266:Nat:=0
def PySem.W.Fast.tw372648928377668850:Nat:=0
def PySem.W.Fast.tw6467306539498200405:Nat:=0
def PySem.W.Fast.tw6715066869613210025:Nat:=0
def PySem.W.Fast.tw9644376938775127370:Nat:=0
def PySem.W.Fast.tw8655310186857093772:Nat:=0
def PySem.W.Fast.tw13318455919785785948:Nat:=0
def PySem.W.Fast.tw2004904620749064851:Nat:=0
def PySem.W.Fast.tw3367938484133568257:Nat:=0
def PySem.W.Fast.tw9996904291328089175:Nat:=0
def PySem.W.Fast.tw12002896081287646560:Nat:=0
def PySem.W.Fast.tw18281815786149282035:Nat:=0
def PySem.W.Fast.tw1313747731656567226:Nat:=0
def PySem.W.Fast.tw13560594266942090786:Nat:=0
def PySem.W.Fast.tw14274171330288842393:Nat:=0
def PySem.W.Fast.tw1988536318051662221:Nat:=0
def PySem.W.Fast.tw1158380537825008696:Nat:=0
def PySem.W.Fast.tw339934191407290256:Nat:=0
def PySem.W.Fast.tw1640842067436620882:Nat:=0
def PySem.W.Fast.tw546583394323639494:Nat:=0
def PySem.W.Fast.tw15994001249282553399:Nat:=0
def PySem.W.Fast.tw3515520021868350454:Nat:=0
def PySem.W.Fast.tw8420955324934790385:Nat:=0
def PySem.W.Fast.tw11942191165978689762:Nat:=0
def PySem.W.Fast.tw4343472508273085843:Nat:=0
def PySem.W.Fast.tw8674459804526590690:Nat:=0
def PySem.W.Fast.tw5359403375836067627:Nat:=0
def PySem.W.Fast.tw16040359566899642723:Nat:=0
def PySem.W.Fast.tw9062223974209269633:Nat:=0
def PySem.W.Fast.tw8693815569371209368:Nat:=0
def PySem.W.Fast.tw2620559258815816207:Nat:=0
def PySem.W.Fast.tw274038039848245867:Nat:=0
def PySem.W.Fast.tw12383090455330189781:Nat:=0
def PySem.W.Fast.tw12147002796649335498:Nat:=0
def PySem.W.Fast.tw14474286261574054133:Nat:=0
def PySem.W.Fast.tw17199860732614364746:Nat:=0
def PySem.W.Fast.tw371348159828280468:Nat:=0
def PySem.W.Fast.tw17787188006323439769:Nat:=0
def PySem.W.Fast.tw6218645023794449370:Nat:=0
def PySem.W.Fast.tw12472585678296870548:Nat:=0
def PySem.W.Fast.tw12158773626190472810:Nat:=0
def PySem.W.Fast.tw2348694730619253614:Nat:=0
def PySem.W.Fast.tw3329014171858388424:Nat:=0
def PySem.W.Fast.tw13775146093126316727:Nat:=0
def PySem.W.Fast.tw180340829746185020:Nat:=0
def PySem.W.Fast.tw3687167147863634072:Nat:=0
def PySem.W.Fast.tw3786767953018706173:Nat:=0
def PySem.W.Fast.tw6389689432750877171:Nat:=0
def PySem.W.Fast.tw13025508972582837000:Nat:=0
def PySem.W.Fast.tw9238868461662376784:Nat:=0
def PySem.W.Fast.tw10097669246987759310:Nat:=0
def PySem.W.Fast.tw8084632625124879013:Nat:=0
def PySem.W.Fast.tw3722072898149594851:Nat:=0
def PySem.W.Fast.tw1010015412665049400:Nat:=0
def PySem.W.Fast.tw16748091046625065109:Nat:=0
def PySem.W.Fast.tw814959184240914042:Nat:=0
def PySem.W.Fast.tw5349656119198333610:Nat:=0
def PySem.W.Fast.tw13029556916336348520:Nat:=0
def PySem.W.Fast.tw13207049150465021413:Nat:=0
open PySem PySem.W PyProof.Rows
set_option maxRecDepth 100000 in
set_option maxHeartbeats 0 in
theorem PySem.Challenge.cw_quartersheet_k34_rows_as_sheets_holds : PySem.Challenge.rw_quartersheet_k34_rows_as_sheets.Holds := by
  w_on; o_law; k_head; (case hw=>w_witness2)
  k_fill
  refine Qs.walk (l:=PySem.Challenge.rw_quartersheet_k34_rows_as_sheets) rfl rfl (fun w h Y=>PySem.W.km_in_of Y) (fun w h Y=>PySem.W.km_tabs_of Y) ?F
  case F =>
    intro w mg fa h KX G hmg
    refine' Qs.all_mk KX G hmg ?a0 ?l0 ?c0 ?k0 ?a1 ?l1 ?c1 ?k1 ?a2 ?l2 ?c2 ?k2 ?a3 ?l3 ?c3 ?k3 ?a4 ?l4 ?c4 ?k4 ?a5 ?l5 ?c5 ?k5 ?a6 ?l6 ?c6 ?k6 ?a7 ?l7 ?c7 ?k7 ?a8 ?l8 ?c8 ?k8 ?a9 ?l9 ?c9 ?k9 ?a10 ?l10 ?c10 ?k10 ?a11 ?l11 ?c11 ?k11 ?a12 ?l12 ?c12 ?k12 ?a13 ?l13 ?c13 ?k13 ?a14 ?l14 ?c14 ?k14 ?a15 ?l15 ?c15 ?k15 ?a16 ?l16 ?c16 ?k16 ?a17 ?l17 ?c17 ?k17 ?a18 ?l18 ?c18 ?k18 ?a19 ?l19 ?c19 ?k19 ?a20 ?l20 ?c20 ?k20 ?a21 ?l21 ?c21 ?k21 ?a22 ?l22 ?c22 ?k22 ?a23 ?l23 ?c23 ?k23 ?a24 ?l24 ?c24 ?k24 ?a25 ?l25 ?c25 ?k25 ?a26 ?l26 ?c26 ?k26 ?a27 ?l27 ?c27 ?k27 ?a28 ?l28 ?c28 ?k28 ?a29 ?l29 ?c29 ?k29 ?a30 ?l30 ?c30 ?k30 ?a31 ?l31 ?c31 ?k31 ?a32 ?l32 ?c32 ?k32 ?a33 ?l33 ?c33 ?k33 ?a34 ?l34 ?c34 ?k34 ?z0 ?z1 ?z2 ?z3 ?z4 ?z5 ?z6 ?z7 ?z8 ?z9 ?z10 ?z11 ?z12 ?z13 ?z14 ?z15 ?y0 ?y1 ?ta13 ?tb13 ?te13 ?tf13 ?n13 ?m13 ?ta14 ?tb14 ?te14 ?tf14 ?n14 ?m14 ?nd
    (case a0=>k_is)
    (case l0=>k_is)
    (case c0=>k_is)
    (case k0=>k_is)
    (case a1=>k_is)
    (case l1=>k_is)
    (case c1=>k_is)
    (case k1=>k_is)
    (case a2=>k_is)
    (case l2=>k_is)
    (case c2=>k_is)
    (case k2=>k_is)
    (case a3=>k_is)
    (case l3=>k_is)
    (case c3=>k_is)
    (case k3=>k_is)
    (case a4=>k_is)
    (case l4=>k_is)
    (case c4=>k_is)
    (case k4=>k_is)
    (case a5=>k_is)
    (case l5=>k_is)
    (case c5=>k_is)
    (case k5=>k_is)
    (case a6=>k_is)
    (case l6=>k_is)
    (case c6=>k_is)
    (case k6=>k_is)
    (case a7=>k_is)
    (case l7=>k_is)
    (case c7=>k_is)
    (case k7=>k_is)
    (case a8=>k_is)
    (case l8=>k_is)
    (case c8=>k_is)
    (case k8=>k_is)
    (case a9=>k_is)
    (case l9=>k_is)
    (case c9=>k_is)
    (case k9=>k_is)
    (case a10=>k_is)
    (case l10=>k_is)
    (case c10=>k_is)
    (case k10=>k_is)
    (case a11=>k_is)
    (case l11=>k_is)
    (case c11=>k_is)
    (case k11=>k_is)
    (case a12=>k_is)
    (case l12=>k_is)
    (case c12=>k_is)
    (case k12=>k_is)
    (case a13=>k_is)
    (case l13=>k_is)
    (case c13=>k_is)
    (case k13=>k_is)
    (case a14=>k_is)
    (case l14=>k_is)
    (case c14=>k_is)
    (case k14=>k_is)
    (case a15=>k_is)
    (case l15=>k_is)
    (case c15=>k_is)
    (case k15=>k_is)
    (case a16=>k_is)
    (case l16=>k_is)
    (case c16=>k_is)
    (case k16=>k_is)
    (case a17=>k_is)
    (case l17=>k_is)
    (case c17=>k_is)
    (case k17=>k_is)
    (case a18=>k_is)
    (case l18=>k_is)
    (case c18=>k_is)
    (case k18=>k_is)
    (case a19=>k_is)
    (case l19=>k_is)
    (case c19=>k_is)
    (case k19=>k_is)
    (case a20=>k_is)
    (case l20=>k_is)
    (case c20=>k_is)
    (case k20=>k_is)
    (case a21=>k_is)
    (case l21=>k_is)
    (case c21=>k_is)
    (case k21=>k_is)
    (case a22=>k_is)
    (case l22=>k_is)
    (case c22=>k_is)
    (case k22=>k_is)
    (case a23=>k_is)
    (case l23=>k_is)
    (case c23=>k_is)
    (case k23=>k_is)
    (case a24=>k_is)
    (case l24=>k_is)
    (case c24=>k_is)
    (case k24=>k_is)
    (case a25=>k_is)
    (case l25=>k_is)
    (case c25=>k_is)
    (case k25=>k_is)
    (case a26=>k_is)
    (case l26=>k_is)
    (case c26=>k_is)
    (case k26=>k_is)
    (case a27=>k_is)
    (case l27=>k_is)
    (case c27=>k_is)
    (case k27=>k_is)
    (case a28=>k_is)
    (case l28=>k_is)
    (case c28=>k_is)
    (case k28=>k_is)
    (case a29=>k_is)
    (case l29=>k_is)
    (case c29=>k_is)
    (case k29=>k_is)
    (case a30=>k_is)
    (case l30=>k_is)
    (case c30=>k_is)
    (case k30=>k_is)
    (case a31=>k_is)
    (case l31=>k_is)
    (case c31=>k_is)
    (case k31=>k_is)
    (case a32=>k_is)
    (case l32=>k_is)
    (case c32=>k_is)
    (case k32=>k_is)
    (case a33=>k_is)
    (case l33=>k_is)
    (case c33=>k_is)
    (case k33=>k_is)
    (case a34=>k_is)
    (case l34=>k_is)
    (case c34=>k_is)
    (case k34=>k_is)
    (case z0=>k_is)
    (case z1=>k_is)
    (case z2=>k_is)
    (case z3=>k_is)
    (case z4=>k_is)
    (case z5=>k_is)
    (case z6=>k_is)
    (case z7=>k_is)
    (case z8=>k_is)
    (case z9=>k_is)
    (case z10=>k_is)
    (case z11=>k_is)
    (case z12=>k_is)
    (case z13=>k_is)
    (case z14=>k_is)
    (case z15=>k_is)
    (case ta13=>exact rfl)
    (case tb13=>k_is)
    (case te13=>exact rfl)
    (case tf13=>kernel_rfl)
    (case n13=>kernel_rfl)
    (case m13=>decide)
    (case ta14=>exact rfl)
    (case tb14=>k_is)
    (case te14=>exact rfl)
    (case tf14=>kernel_rfl)
    (case n14=>kernel_rfl)
    (case m14=>decide)
    (case nd=>decide)
    (case y0=>k_is)
    (case y1=>k_is)


