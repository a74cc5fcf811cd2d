import PyProof.Rows.All
import Wide.All
import OpenK.AllK
import Wide.FinOn
import Lean
import PyProof.EqAt
import PyProof.EqKinds
import PyProof.TupleCall
import PySem.Challenge.RW_quartersheet_k74_finer_and_coarser
set_option Elab.async false
set_option linter.all false
set_option maxRecDepth 100000

namespace L2
open PySem PySem.Spec PyProof.Rows


abbrev Key:=Sum Int Str
def keyIs:Key→Value→Bool
  | .inl k,v=>Value.isInt k v
  | .inr x,v=>Value.isStrOf x v
def keyH (w:World):Key→Int
  | .inl k=>hashInt k
  | .inr x=>hashStr w x
theorem keyIs_shape:∀ {k:Key} {v:Value},keyIs k v=true→(∃ i t,k=Sum.inl i∧v=Value.int i t)∨(∃ x t,k=Sum.inr x∧v=Value.str x t)
  | .inl i,v,h=>by
    obtain ⟨t,e⟩:=Value.isInt_shape (k:=i) (v:=v) h
    exact .inl ⟨i,t,rfl,e⟩
  | .inr x,v,h=>by
    obtain ⟨t,e⟩:=Value.isStrOf_shape (x:=x) (v:=v) h
    exact .inr ⟨x,t,rfl,e⟩
theorem keyIs_int (i:Int) (t:Tok):keyIs (.inl i) (.int i t)=true:=by simp [keyIs,Value.isInt]
theorem keyIs_str (x:Str) (t:Tok):keyIs (.inr x) (.str x t)=true:=by simp [keyIs,Value.isStrOf]
theorem key_ll (a b:Int):decide ((Sum.inl a:Key)=Sum.inl b)=(a == b):=by
  by_cases e:a=b
  · subst e; simp
  · have h:¬ (Sum.inl a:Key)=Sum.inl b:=fun q=>e (Sum.inl.inj q)
    rw [decide_eq_false h]
    exact (beq_eq_false_iff_ne.mpr e).symm
theorem key_rr (a b:Str):decide ((Sum.inr a:Key)=Sum.inr b)=decide (a=b):=by
  by_cases e:a=b
  · subst e; simp
  · have h:¬ (Sum.inr a:Key)=Sum.inr b:=fun q=>e (Sum.inr.inj q)
    rw [decide_eq_false h,decide_eq_false e]
theorem key_lr (a:Int) (b:Str):decide ((Sum.inl a:Key)=Sum.inr b)=false:=decide_eq_false (fun q=>nomatch q)
theorem key_rl (a:Str) (b:Int):decide ((Sum.inr a:Key)=Sum.inl b)=false:=decide_eq_false (fun q=>nomatch q)

def mixKind (prog:Program) (w:World):PySem.KeyKind prog w Key where
  is:=keyIs
  hash:=keyH w
  inj:=fun v a b ha hb=>by
    rcases keyIs_shape ha with ⟨i,t,rfl,rfl⟩ | ⟨x,t,rfl,rfl⟩
    · rcases keyIs_shape hb with ⟨j,u,rfl,e⟩ | ⟨y,u,rfl,e⟩
      · injection e with e1 _; rw [e1]
      · exact nomatch e
    · rcases keyIs_shape hb with ⟨j,u,rfl,e⟩ | ⟨y,u,rfl,e⟩
      · exact nomatch e
      · injection e with e1 _; rw [e1]
  byValue:=fun k v h=>by
    rcases keyIs_shape h with ⟨i,t,rfl,rfl⟩ | ⟨x,t,rfl,rfl⟩ <;> rfl
  pyHash:=fun hv h=>by
    rcases keyIs_shape hv with ⟨i,t,rfl,rfl⟩ | ⟨x,t,rfl,rfl⟩
    · exact wpAny_pyHash_int h
    · exact wpAny_pyHash_str h
  eqBool:=fun hu hv h=>by
    rcases keyIs_shape hu with ⟨i,t,rfl,rfl⟩ | ⟨x,t,rfl,rfl⟩
    · rcases keyIs_shape hv with ⟨j,u,rfl,rfl⟩ | ⟨y,u,rfl,rfl⟩
      · rw [key_ll] at h; exact wpAny_eqBool_int h
      · rw [key_lr] at h; exact SeqAt.EqAt.int_str i t y u _ _ _ _ h
    · rcases keyIs_shape hv with ⟨j,u,rfl,rfl⟩ | ⟨y,u,rfl,rfl⟩
      · rw [key_rl] at h; exact SeqAt.EqAt.str_int x t j u _ _ _ _ h
      · rw [key_rr] at h; exact wpAny_eqBool_str h
  «strs» := fun k x t v h=>by
    rcases keyIs_shape h with ⟨i,u,rfl,e⟩ | ⟨y,u,rfl,e⟩
    · exact nomatch e
    · injection e with e1 _
      subst e1
      cases v <;> rfl

theorem mixKind_int (prog:Program) (w:World) (i:Int) (t:Tok):(mixKind prog w).is (.inl i) (.int i t)=true:=keyIs_int i t
theorem mixKind_str (prog:Program) (w:World) (x:Str) (t:Tok):(mixKind prog w).is (.inr x) (.str x t)=true:=keyIs_str x t
end L2

namespace L2
open PySem PySem.Spec PyProof.Rows


inductive V where
  | non | bl (b:Bool) | int (i:Int) | str (x:Str) | byt (b:Array UInt8) | flt (b:UInt64) | ref (a:Addr) | ty (n:String)
  deriving DecidableEq

def RelV:V→Value→Prop
  | .non,u=>u=Value.none
  | .bl b,u=>u=Value.bool b
  | .int i,u=>∃ t,u=Value.int i t
  | .str x,u=>∃ t,u=Value.str x t
  | .byt b,u=>∃ t,u=Value.bytes b t
  | .flt b,u=>∃ t,u=Value.float b t
  | .ref a,u=>u=Value.ref a
  | .ty n,u=>u=Value.type n

abbrev Vals:List V→List Value→Prop:=Paired RelV
theorem Vals.length {xs:List V} {us:List Value} (r:Vals xs us):xs.length=us.length:=Paired.length r
theorem Vals.get:∀ {xs:List V} {us:List Value} {i:Nat} {x:V},Vals xs us→xs[i]? = some x→∃ u,us[i]? = some u∧RelV x u
  | _,_,_,_,.nil,e=>by simp at e
  | _,_,0,_,.cons r _,e=>by simp at e; subst e; exact ⟨_,rfl,r⟩
  | _,_,i + 1,x,.cons _ t,e=>by
    obtain ⟨u,h1,h2⟩:=Vals.get (i:=i) (x:=x) t (by simpa using e)
    exact ⟨u,by simpa using h1,h2⟩
theorem Vals.set {x:V} {u:Value} (r:RelV x u):∀ {xs:List V} {us:List Value} (i:Nat),Vals xs us→Vals (xs.set i x) (us.set i u)
  | _,_,_,.nil=>.nil
  | _,_,0,.cons _ t=>.cons r t
  | _,_,i + 1,.cons q t=>.cons q (Vals.set r i t)
theorem Vals.append:∀ {xs ys:List V} {us ws:List Value},Vals xs us→Vals ys ws→Vals (xs++ys) (us++ws)
  | _,_,_,_,.nil,s=>s
  | _,_,_,_,.cons r t,s=>.cons r (Vals.append t s)
theorem Vals.take:∀ {xs:List V} {us:List Value} (n:Nat),Vals xs us→Vals (xs.take n) (us.take n)
  | _,_,0,_=>.nil
  | _,_,_ + 1,.nil=>.nil
  | _,_,n + 1,.cons r t=>.cons r (Vals.take n t)
theorem Vals.drop:∀ {xs:List V} {us:List Value} (n:Nat),Vals xs us→Vals (xs.drop n) (us.drop n)
  | _,_,0,r=>r
  | _,_,_ + 1,.nil=>.nil
  | _,_,n + 1,.cons _ t=>Vals.drop n t
def RelO:Option V→Option Value→Prop
  | some v,some u=>RelV v u
  | none,none=>True
  | _,_=>False
def KV {κ:Type}:List (κ × V)→List (κ × Value)→Prop:=Paired fun (p:κ × V) (q:κ × Value)=>p.1=q.1∧RelV p.2 q.2


def kV:Key→V
  | .inl i=>.int i
  | .inr x=>.str x


inductive HO where
  
  | lst (xs:List V)
  
  | tup (xs:List V)
  
  | dK (kvs:List (Key × V)) | dT (kvs:List (List Key × V))
  
  | set (S:Int→Bool) (n:Nat)
  
  | ins (C dx:Addr) (fs:List (Str × V))
  
  | own (x:Addr)
  
  | xd (fs:List (Str × V))
  
  | met (f x:Addr)
  
  | rng (lo hi:Int)
  
  | frz (o:Obj) (u:HO)
  
  | tbl (ps:Array Value)
  
  | ext (φ:Heap→Prop)

abbrev Hp:=Addr→Option HO
def upd (H:Hp) (a:Addr) (o:HO):Hp:=fun b=>if b=a then some o else H b
theorem upd_same {H:Hp} {a:Addr} {o:HO}:upd H a o a=some o:=by unfold upd; rw [if_pos rfl]
theorem upd_ne {H:Hp} {a b:Addr} {o:HO} (h:b≠a):upd H a o b=H b:=by unfold upd; rw [if_neg h]
theorem ne_of {H:Hp} {a b:Addr} {o u:HO} (h:H a=some o) (h':H b=some u) (d:o≠u):a≠b:=by
  intro e; subst e; rw [h] at h'; exact d (Option.some.inj h')
theorem ne_of_none {H:Hp} {a b:Addr} {o:HO} (h:H a=some o) (h':H b=none):a≠b:=by
  intro e; subst e; rw [h] at h'; cases h'

section
variable (P:Program) (w:World)
def ObjOk (H:Hp) (h:Heap) (a:Addr):HO→Prop
  | .lst xs=>xs.length≤sizeLine∧∃ (its:List Value) (n:Nat),Vals xs its∧h.get? a=some { cls:=.type "list",data:=.seq its.toArray n }
  | .tup xs=>xs.length≤sizeLine∧∃ its:List Value,Vals xs its∧IsTup h a its.toArray
  | .dK kvs=>kvs.length≤sizeLine∧(a == sysModules)=false∧∃ vs,KV kvs vs∧h.DictOf (mixKind P w) a vs
  | .dT kvs=>kvs.length≤sizeLine∧(a == sysModules)=false∧∃ xs:List (List Key × Addr × Value),
      Paired (fun (p:List Key × V) (q:List Key × Addr × Value)=>p.1=q.1∧H q.2.1=some (.tup (p.1.map kV))∧RelV p.2 q.2.2) kvs xs ∧
      ∃ o es ep,h.get? a=some o∧o.ExactDict∧o.data=.dict es ep∧es.toList=xs.map (entryOfKey (tupleKind (mixKind P w)))∧(xs.map (·.1)).Nodup
  | .set S n=>h.SetOf (intKind P w) a S n
  | .ins C dx fs=>H dx=some (.own a)∧fs.length≤1000∧dx≠a∧h.get? a=some (PySem.W.instObj C dx) ∧
      ∃ mA,h.Ns1 dx mA∧(∀ f,RelO (fs.lookup f) (mA f))∧PySem.Within mA (fs.map (·.1))
  | .own _=>∃ o,h.get? a=some o
  | .xd fs=>∃ mA,h.Ns1 a mA∧∀ f,RelO (fs.lookup f) (mA f)
  | .rng lo hi=>∃ t u v,h.get? a=some { cls:=.type "range",data:=.fields #[.int lo t,.int hi u,.int 1 v] }
  | .frz o u=>h.get? a=some o∧ObjOk H h a u
  | .tbl ps=>h.get? a=some { cls:=.none,data:=.fields ps }
  | .met f x=>h.get? a=some (PySem.W.methodObj (.ref f) (.ref x))
  | .ext φ=>φ h∧(∃ o,h.get? a=some o)∧∀ h1 h2:Heap,φ h1→(∀ o,h1.get? a=some o→h2.get? a=some o)→φ h2

def HOk (H:Hp) (h:Heap):Prop:=∀ a o,H a=some o→ObjOk P w H h a o
end

section
variable {P:Program} {w:World} {H H':Hp} {h h':Heap} {a:Addr} {o:HO}
theorem ObjOk.lt (x:ObjOk P w H h a o):a < h.objs.size:=by
  cases o with
  | lst xs=>obtain ⟨_,_,_,_,e⟩:=x; exact Heap.lt_size e
  | tup xs=>obtain ⟨_,_,_,p⟩:=x; exact p.lt
  | dK kvs=>obtain ⟨_,_,_,_,o,_,_,e,_⟩:=x; exact Heap.lt_size e
  | dT kvs=>obtain ⟨_,_,_,_,o,_,_,e,_⟩:=x; exact Heap.lt_size e
  | set S n=>obtain ⟨o,_,_,_,e,_⟩:=x; exact Heap.lt_size e
  | ins C dx fs=>obtain ⟨_,_,_,e,_⟩:=x; exact Heap.lt_size e
  | own y=>obtain ⟨_,e⟩:=x; exact Heap.lt_size e
  | xd fs=>obtain ⟨_,⟨_,_,_,e,_⟩,_⟩:=x; exact Heap.lt_size e
  | rng lo hi=>obtain ⟨_,_,_,e⟩:=x; exact Heap.lt_size e
  | frz ob u=>obtain ⟨e,_⟩:=x; exact Heap.lt_size e
  | tbl ps=>exact Heap.lt_size (show h.get? a=some _ from x)
  | met f y=>exact Heap.lt_size (show h.get? a=some _ from x)
  | ext φ=>obtain ⟨_,⟨_,e⟩,_⟩:=x; exact Heap.lt_size e
theorem Paired.mapP {α β:Type} {F G:α→β→Prop}:∀ {l₁:List α} {l₂:List β},Paired F l₁ l₂→(∀ a b,F a b→G a b)→Paired G l₁ l₂
  | _,_,.nil,_=>.nil
  | _,_,.cons r t,f=>.cons (f _ _ r) (Paired.mapP t f)
theorem ObjOk.stay (x:ObjOk P w H h a o) (k:∀ b u,(b=a∨H b=some (.own a))→h.get? b=some u→h'.get? b=some u)
    (ho:∀ b,H b=some (.own a)→H' b=some (.own a)) (ht:∀ b xs,H b=some (.tup xs)→H' b=some (.tup xs)):ObjOk P w H' h' a o:=by
  induction o with
  | lst xs=>obtain ⟨z,its,n,r,e⟩:=x; exact ⟨z,its,n,r,k _ _ (.inl rfl) e⟩
  | tup xs=>obtain ⟨z,its,r,ob,e,c⟩:=x; exact ⟨z,its,r,ob,k _ _ (.inl rfl) e,c⟩
  | dK kvs=>obtain ⟨z,y,vs,r,ob,es,ep,e,c⟩:=x; exact ⟨z,y,vs,r,ob,es,ep,k _ _ (.inl rfl) e,c⟩
  | dT kvs =>
    obtain ⟨z,y,xs,r,ob,es,ep,e,c⟩:=x
    exact ⟨z,y,xs,Paired.mapP r fun p q z=>⟨z.1,ht _ _ z.2.1,z.2.2⟩,ob,es,ep,k _ _ (.inl rfl) e,c⟩
  | set S n=>obtain ⟨ob,es,ep,t,e,c⟩:=x; exact ⟨ob,es,ep,t,k _ _ (.inl rfl) e,c⟩
  | ins C dx fs =>
    obtain ⟨d,z,ne,e,mA,⟨od,es,ep,e2,c⟩,r⟩:=x
    exact ⟨ho _ d,z,ne,k _ _ (.inl rfl) e,mA,⟨od,es,ep,k _ _ (.inr d) e2,c⟩,r⟩
  | own y=>obtain ⟨ob,e⟩:=x; exact ⟨ob,k _ _ (.inl rfl) e⟩
  | xd fs=>obtain ⟨mA,⟨od,es,ep,e,c⟩,r⟩:=x; exact ⟨mA,⟨od,es,ep,k _ _ (.inl rfl) e,c⟩,r⟩
  | rng lo hi=>obtain ⟨t,u,v,e⟩:=x; exact ⟨t,u,v,k _ _ (.inl rfl) e⟩
  | frz ob u ih=>obtain ⟨e,q⟩:=x; exact ⟨k _ _ (.inl rfl) e,ih q⟩
  | tbl ps =>
    have e:h.get? a=some { cls:=.none,data:=.fields ps }:=x
    show h'.get? a=some { cls:=.none,data:=.fields ps }
    exact k a _ (.inl rfl) e
  | met f y =>
    have e:h.get? a=some (PySem.W.methodObj (.ref f) (.ref y)):=x
    show h'.get? a=some (PySem.W.methodObj (.ref f) (.ref y))
    exact k a _ (.inl rfl) e
  | ext φ=>obtain ⟨p,⟨o,e⟩,st⟩:=x; exact ⟨st _ _ p fun o q=>k _ _ (.inl rfl) q,⟨o,k _ _ (.inl rfl) e⟩,st⟩
theorem HOk.lt (x:HOk P w H h) (e:H a=some o):a < h.objs.size:=(x a o e).lt
theorem HOk.fresh (x:HOk P w H h) (e:h.objs.size≤a):H a=none:=by
  cases q:H a with
  | none=>rfl
  | some u=>exact absurd (Nat.lt_of_lt_of_le (x.lt q) e) (Nat.lt_irrefl _)

theorem HOk.kept (x:HOk P w H h) (k:∀ b u,h.get? b=some u→h'.get? b=some u):HOk P w H h':=fun a o e =>
  (x a o e).stay (fun b u _ q=>k b u q) (fun _ q=>q) fun _ _ q=>q

theorem HOk.laid (x:HOk P w H h) (k:∀ b u,h.get? b=some u→h'.get? b=some u) (hp:h.objs.size≤a) (new:ObjOk P w (upd H a o) h' a o):HOk P w (upd H a o) h':=fun b u e=>by
  have hn:=x.fresh hp
  by_cases hb:b=a
  · subst hb; rw [upd_same] at e; cases e; exact new
  · rw [upd_ne hb] at e
    exact (x b u e).stay (fun c v _ q=>k c v q) (fun c q=>by rw [upd_ne (ne_of_none q hn)]; exact q) fun c xs q=>by rw [upd_ne (ne_of_none q hn)]; exact q
end


def Rd (H:Hp) (a:Addr) (u:HO):Prop:=H a=some u∨∃ o,H a=some (.frz o u)
theorem Rd.ok {P:Program} {w:World} {H:Hp} {h:Heap} {a:Addr} {u:HO} (r:Rd H a u) (x:HOk P w H h):ObjOk P w H h a u:=by
  rcases r with r | ⟨o,r⟩
  · exact x a u r
  · obtain ⟨_,q⟩:=x a _ r
    exact q

def Mut:Option HO→Prop
  | some (.lst _)=>True
  | some (.dK _)=>True
  | some (.dT _)=>True
  | some (.set _ _)=>True
  | some (.ins _ _ _)=>True
  | some (.ext _)=>True
  | _=>False
section
variable {P:Program} {w:World} {H:Hp} {h h':Heap} {x e:Addr} {o':HO}

theorem HOk.write (ok:HOk P w H h) (mu:Mut (H x)) (he:e=x∨H e=some (.own x)) (k:∀ b u,b≠e→h.get? b=some u→h'.get? b=some u) (heo:∃ u,h'.get? e=some u)
    (new:ObjOk P w (upd H x o') h' x o'):HOk P w (upd H x o') h':=fun b u q=>by
  have nown:∀ c y,H c=some (.own y)→c≠x:=fun c y r z=>by subst z; rw [r] at mu; exact mu
  have ntup:∀ c xs,H c=some (.tup xs)→c≠x:=fun c xs r z=>by subst z; rw [r] at mu; exact mu
  by_cases hb:b=x
  · subst hb; rw [upd_same] at q; cases q; exact new
  · rw [upd_ne hb] at q
    by_cases hbe:b=e
    · have q':H b=some (.own x):=by
        rcases he with z | z
        · exact absurd (hbe.trans z) hb
        · rw [hbe]; exact z
      rw [q] at q'; cases q'
      obtain ⟨v,hv⟩:=heo
      exact ⟨v,by rw [hbe]; exact hv⟩
    · refine (ok b u q).stay (fun c v hc r=>k c v ?_ r) (fun c r=>by rw [upd_ne (nown c b r)]; exact r) fun c xs r=>by rw [upd_ne (ntup c xs r)]; exact r
      rcases hc with rfl | hc
      · exact hbe
      · rintro rfl
        rcases he with z | z
        · exact nown c b hc z
        · rw [hc] at z; cases z; exact hb rfl
end


structure Un (fs ex:List Addr) (H H':Hp) (h h':Heap):Prop where
  keep:∀ b o,h.get? b=some o→H b=none→b∉fs→b∉ex→h'.get? b=some o
  slot:∀ b o,h.get? b=some o→H b=none→b∈fs→b∉ex→∃ sl,h'.get? b=some { o with slots:=sl }
  free:∀ b o,h.get? b=some o→H b=none→b∉ex→H' b=none
  there:∀ b o,h.get? b=some o→b∉ex→∃ o',h'.get? b=some o'
  tups:∀ b xs,H b=some (.tup xs)→H' b=some (.tup xs)
  frzs:∀ b o u,H b=some (.frz o u)→H' b=some (.frz o u)
  tbls:∀ b ps,H b=some (.tbl ps)→∃ more,H' b=some (.tbl (ps++more))
section
variable {fs fs' ex ex':List Addr} {H H1 H2:Hp} {h h1 h2 h':Heap} {a x e:Addr} {o:HO}
theorem Un.any (u:Un fs ex H H1 h h1) {b:Addr} {ob:Obj} (q:h.get? b=some ob) (n:H b=none) (hx:b∉ex):∃ sl,h1.get? b=some { ob with slots:=sl }:=by
  by_cases hb:b∈fs
  · exact u.slot b ob q n hb hx
  · exact ⟨ob.slots,u.keep b ob q n hb hx⟩
theorem Un.kept (k:∀ b u,h.get? b=some u→h'.get? b=some u):Un fs ex H H h h' :=
  ⟨fun b ob q _ _ _=>k b ob q,fun b ob q _ _ _=>⟨ob.slots,k b ob q⟩,fun _ _ _ n _=>n,fun b ob q _=>⟨ob,k b ob q⟩,fun _ _ q=>q,fun _ _ _ q=>q,fun _ ps q=>⟨#[],by rw [q]; simp⟩⟩
theorem Un.refl:Un fs ex H H h h:=Un.kept fun _ _ q=>q
theorem Un.laid (k:∀ b u,h.get? b=some u→h'.get? b=some u) (hp:h.objs.size≤a) (hn:H a=none):Un fs ex H (upd H a o) h h' where
  keep:=fun b u q _ _ _=>k b u q
  slot:=fun b u q _ _ _=>⟨u.slots,k b u q⟩
  free:=fun b u q n _=>by rw [upd_ne (Nat.ne_of_lt (Nat.lt_of_lt_of_le (Heap.lt_size q) hp))]; exact n
  there:=fun b u q _=>⟨u,k b u q⟩
  tups:=fun b xs q=>by rw [upd_ne (ne_of_none q hn)]; exact q
  frzs:=fun b u xs q=>by rw [upd_ne (ne_of_none q hn)]; exact q
  tbls:=fun b ps q=>⟨#[],by rw [upd_ne (ne_of_none q hn),q]; simp⟩
theorem Un.write (mu:Mut (H x)) (he:e=x∨H e=some (.own x)) (k:∀ b u,b≠e→h.get? b=some u→h'.get? b=some u) (heo:∃ u,h'.get? e=some u):Un fs ex H (upd H x o) h h':=by
  have hx:∀ b,H b=none→b≠x:=fun b n z=>by subst z; rw [n] at mu; exact mu
  have hb:∀ b,H b=none→b≠e:=fun b n z=>by
    subst z
    rcases he with r | r
    · exact hx b n r
    · rw [n] at r; cases r
  have hm:∀ b u,H b=some u→¬ Mut (some u)→b≠x:=fun b u q nm z=>by subst z; rw [q] at mu; exact nm mu
  refine ⟨fun b u q n _ _=>k b u (hb b n) q,fun b u q n _ _=>⟨u.slots,k b u (hb b n) q⟩,fun b u q n _=>by rw [upd_ne (hx b n)]; exact n,fun b u q _ => ?_,
    fun b xs q=>by rw [upd_ne (hm b _ q fun z=>z)]; exact q,fun b u xs q=>by rw [upd_ne (hm b _ q fun z=>z)]; exact q,fun b ps q=>⟨#[],by rw [upd_ne (hm b _ q fun z=>z),q]; simp⟩⟩
  by_cases hbe:b=e
  · subst hbe; exact heo
  · exact ⟨u,k b u hbe q⟩
end


def trk (h:Heap) (H:Hp):List Addr:=(List.range h.objs.size).filter fun a=>(H a).isSome
def hidT (h:Heap) (H:Hp):Heap:=PySem.W.hideAll h (trk h H)
theorem hidT_size (h:Heap) (H:Hp):(hidT h H).objs.size=h.objs.size:=PySem.W.hideAll_size _ _
theorem hidT_get {h:Heap} {H:Hp} {b:Addr} {o:Obj} (e:h.get? b=some o) (n:H b=none):(hidT h H).get? b=some o :=
  PySem.W.hideAll_get _ e fun hm=>by
    have q:(H b).isSome=true:=(List.mem_filter.mp hm).2
    rw [n] at q; simp at q
theorem of_hidT {h:Heap} {H:Hp} {b:Addr} {o:Obj} (e:(hidT h H).get? b=some o):h.get? b=some o∧H b=none:=by
  have e':h.get? b=some o:=PySem.W.of_hideAll (trk h H) e
  refine ⟨e',?_⟩
  cases q:H b with
  | none=>rfl
  | some x =>
    have hm:b∈trk h H:=List.mem_filter.mpr ⟨List.mem_range.mpr (Heap.lt_size e'),by simp [q]⟩
    have z:(hidT h H).get? b=none:=PySem.W.hideAll_none (trk h H) hm
    rw [z] at e; cases e


end L2

namespace L2
open PySem PySem.Spec PyProof.Rows


structure Mod (K:PySem.W.Frag) (mg:Str→Option Value) (base:Heap):Prop where
  kin:K.In base
  glob:base.Ns mainGlobals mg
  blt:∃ mb,base.Ns builtinsNs mb∧∀ x:Str,x ≠ "__name__" → mb x=bootBuiltins x
  nolimit:base.NoLimit


structure Cx where
  prog:Program
  w:World
  K:PySem.W.Frag
  mg:Str→Option Value
  base:Heap
  A:Around
  N:List Str
  s₀:Shared
  H₀:Hp
  env:Env
  outer:List Env
  stack:List Env
  ex:List Addr
  fn:Str→Bool
  calm:Bool
  pn:List (Addr × Obj)
  xe:Value→Shared→Prop

def frs (l:List Env):List Addr:=l.filterMap (·.frame)
abbrev Cx.fs (X:Cx):List Addr:=frs X.outer

def Vis (sc:Scope) (x:Str):Prop:=sc.names.lookup x=some .local∨sc.names.lookup x=some .cell∨sc.names.lookup x=some .free
def Loc (sc:Scope) (x:Str):Prop:=sc.names.lookup x=some .local∨sc.names.lookup x=some .cell
def Look (env:Env) (h:Heap) (m:Str→Option Value) (x:Str) (u:Value):Prop :=
  (env.kindOf x=some .local∧m x=some u)∨((env.kindOf x=some .cell∨env.kindOf x=some .free)∧∃ c,env.cells.lookup x=some c∧h.IsCell c (some u))

structure Cx.Ok (X:Cx):Prop where
  mod:Mod X.K X.mg X.base
  kind:X.env.scope.kind=.function
  glob:X.env.globals=mainGlobals
  blt:X.env.builtins=builtinsNs
  above:X.s₀.heap.objs.size≤X.env.locals
  inj:∀ x y c,X.env.cells.lookup x=some c→X.env.cells.lookup y=some c→x=y
  has:∀ x,(X.env.kindOf x=some .cell∨X.env.kindOf x=some .free)→∃ c,X.env.cells.lookup x=some c
  cab:∀ x c,X.fn x=true→X.env.cells.lookup x=some c→X.s₀.heap.objs.size≤c
  hd:X.calm=true→X.A.handled=none
  frames:X.A.frames=some X.stack
  stk:X.stack=X.outer∨(X.stack=X.env::X.outer∧X.env.frame=some X.env.locals)
  exf:∀ b∈X.ex,b≠X.env.locals∧∀ x c,X.env.cells.lookup x=some c→c≠b
  bs:∀ b o,X.base.get? b=some o→X.s₀.heap.get? b=some o∧X.H₀ b=none
  bsz:X.base.objs.size≤X.s₀.heap.objs.size
  noex:∀ b o,X.base.get? b=some o→b∉X.ex
  exfs:∀ b∈X.ex,b∉X.fs
  funs:X.s₀.heap.FunFrames X.base X.outer
  frf:∀ b∈X.fs,X.H₀ b=none

structure Inv (X:Cx) (pins:List (Addr × Obj)) (σ:List (Option V)) (H:Hp) (s:Shared):Prop where
  ok:X.Ok
  os:s.os=X.s₀.os
  bare:AllBare s.gens
  base:Un X.fs X.ex X.H₀ H X.s₀.heap s.heap
  loc:∃ m,s.heap.Ns X.env.locals m∧∀ (i:Nat) (x:Str) (v:V),X.N[i]? = some x→σ[i]? = some (some v)→Vis X.env.scope x→∃ u,RelV v u∧Look X.env s.heap m x u
  cell:∀ x c,X.env.cells.lookup x=some c→∃ v,s.heap.IsCell c v
  free:H X.env.locals=none
  freeC:∀ x c,X.env.cells.lookup x=some c→H c=none
  pin:∀ p∈X.pn++pins,s.heap.get? p.1=some p.2∧H p.1=none∧p.1≠X.env.locals∧p.1∉X.fs∧∀ v,p.2.data≠.cell v
  hok:HOk X.prog X.w H s.heap
  len:σ.length=X.N.length

section
variable {X:Cx} {pins:List (Addr × Obj)} {σ:List (Option V)} {H H':Hp} {s:Shared} {h':Heap}

theorem Cx.Ok.nofr (ok:X.Ok) {b:Addr} {o:Obj} (e:X.base.get? b=some o):b∉X.fs:=fun hb=>by
  have:=(ok.funs.mem hb).1
  rw [e] at this; cases this
theorem Inv.bs (I:Inv X pins σ H s):∀ b o,X.base.get? b=some o→s.heap.get? b=some o∧H b=none:=fun b o e =>
  ⟨I.base.keep b o (I.ok.bs b o e).1 (I.ok.bs b o e).2 (I.ok.nofr e) (I.ok.noex b o e),I.base.free b o (I.ok.bs b o e).1 (I.ok.bs b o e).2 (I.ok.noex b o e)⟩
theorem Inv.bk (I:Inv X pins σ H s):∀ b o,X.base.get? b=some o→s.heap.get? b=some o:=fun b o e=>(I.bs b o e).1
theorem Inv.mod (I:Inv X pins σ H s):Mod X.K X.mg X.base:=I.ok.mod
theorem Inv.kIn (I:Inv X pins σ H s):X.K.In s.heap:=I.ok.mod.kin.keeps I.bk
theorem Inv.nolimit (I:Inv X pins σ H s):s.heap.NoLimit:=I.ok.mod.nolimit.keeps I.bk

theorem Inv.lt (I:Inv X pins σ H s):X.env.locals < s.heap.objs.size:=let ⟨_,hn,_⟩:=I.loc; hn.lt
theorem Inv.sz (I:Inv X pins σ H s):X.s₀.heap.objs.size≤s.heap.objs.size:=Nat.le_trans I.ok.above (Nat.le_of_lt I.lt)
theorem Inv.nofs (I:Inv X pins σ H s) {a:Addr} (h:s.heap.objs.size≤a):a∉X.fs:=fun hb=>by
  obtain ⟨_,o,ho,_⟩:=I.ok.funs.mem hb
  exact absurd (Nat.lt_of_lt_of_le (Heap.lt_size ho) (Nat.le_trans I.sz h)) (Nat.lt_irrefl _)
theorem Inv.cne (I:Inv X pins σ H s):∀ x c,X.env.cells.lookup x=some c→c≠X.env.locals:=fun x c e z=>by
  obtain ⟨v,o,ho,hd⟩:=I.cell x c e
  obtain ⟨m,⟨o',es,ep,ho',hd',_⟩,_⟩:=I.loc
  rw [z,ho'] at ho; cases ho; rw [hd'] at hd; cases hd
theorem Inv.funs (I:Inv X pins σ H s):s.heap.FunFrames X.base X.outer:=by
  have all:∀ (l:List Env),(∀ b∈frs l,b∈X.fs)→X.s₀.heap.FunFrames X.base l→s.heap.FunFrames X.base l:=by
    intro l
    induction l with
    | nil=>intro _ _; trivial
    | cons env r ih =>
      intro hs hl
      obtain ⟨hk,⟨L,o,hf,hn,ho,hd⟩,hr⟩:=hl
      have hL:L∈X.fs:=hs L (by unfold frs; rw [List.filterMap_cons,hf]; exact List.mem_cons_self)
      obtain ⟨sl,e⟩:=I.base.slot L o ho (I.ok.frf L hL) hL fun z=>I.ok.exfs L z hL
      exact ⟨hk,⟨L,_,hf,hn,e,hd⟩,ih (fun b hb=>hs b (by unfold frs; rw [List.filterMap_cons,hf]; exact List.mem_cons_of_mem _ hb)) hr⟩
  exact all X.outer (fun _ hb=>hb) I.ok.funs


theorem Inv.stack (I:Inv X pins σ H s):s.heap.FunFrames X.base X.stack:=by
  rcases I.ok.stk with e | ⟨e,hf⟩
  · rw [e]; exact I.funs
  · rw [e]
    obtain ⟨m,hn,_⟩:=I.loc
    refine .cons (by rw [I.ok.kind]; decide) hf hn ?_ I.funs
    exact Heap.get?_none_of_le (Nat.le_trans I.ok.bsz I.ok.above)
theorem Inv.stkSub (I:Inv X pins σ H s):∀ b∈frs X.stack,b∈X.env.locals::X.fs:=fun b hb=>by
  rcases I.ok.stk with e | ⟨e,hf⟩
  · rw [e] at hb; exact List.mem_cons_of_mem _ hb
  · rw [e] at hb
    unfold frs at hb
    rw [List.filterMap_cons,hf] at hb
    exact hb
theorem Inv.stkFree (I:Inv X pins σ H s):∀ b∈frs X.stack,H b=none:=fun b hb=>by
  rcases List.mem_cons.mp (I.stkSub b hb) with e | hb
  · rw [e]; exact I.free
  · obtain ⟨_,o,ho,_⟩:=I.ok.funs.mem hb
    exact I.base.free b o ho (I.ok.frf b hb) fun z=>I.ok.exfs b z hb


theorem Inv.step {g':Array GenState} {t':Nat} {d':Drawn} {ch:List Addr} (I:Inv X pins σ H s)
    (hch:∀ b∈ch,(b∈X.ex∨X.s₀.heap.objs.size≤b)∧b≠X.env.locals∧(∀ x c,X.env.cells.lookup x=some c→c≠b)∧∀ p∈X.pn++pins,p.1≠b)
    (keep:∀ b o,b≠X.env.locals→b∉X.fs→b∉ch→s.heap.get? b=some o→H b=none→h'.get? b=some o)
    (slot:∀ b o,b≠X.env.locals→b∈X.fs→b∉ch→s.heap.get? b=some o→H b=none→∃ sl,h'.get? b=some { o with slots:=sl }) (free:∀ b o,b∉ch→s.heap.get? b=some o→H b=none→H' b=none)
    (there:∀ b o,b∉ch→s.heap.get? b=some o→∃ o',h'.get? b=some o')
    (tups:∀ b xs,H b=some (.tup xs)→H' b=some (.tup xs)) (frzs:∀ b o u,H b=some (.frz o u)→H' b=some (.frz o u)) (tbls:∀ b ps,H b=some (.tbl ps)→∃ more,H' b=some (.tbl (ps++more)))
    (ns:∀ m,s.heap.Ns X.env.locals m→h'.Ns X.env.locals m) (hok:HOk X.prog X.w H' h') (hg:AllBare g') :
    Inv X pins σ H' { s with heap:=h',gens:=g',drawn:=d',toks:=t' }:=by
  have neL:∀ b o,X.s₀.heap.get? b=some o→b≠X.env.locals:=fun b o e=>Nat.ne_of_lt (Nat.lt_of_lt_of_le (Heap.lt_size e) I.ok.above)
  have neC:∀ b o,X.s₀.heap.get? b=some o→b∉X.ex→b∉ch:=fun b o e hx hb=>by
    rcases (hch b hb).1 with z | z
    · exact hx z
    · exact absurd (Nat.lt_of_lt_of_le (Heap.lt_size e) z) (Nat.lt_irrefl _)
  have cellK:∀ x c,X.env.cells.lookup x=some c→∀ v,s.heap.IsCell c v→h'.IsCell c v:=fun x c e v ⟨o,ho,hd⟩=>by
    have nch:c∉ch:=fun z=>(hch c z).2.2.1 x c e rfl
    by_cases hc:c∈X.fs
    · obtain ⟨sl,q⟩:=slot c o (I.cne x c e) hc nch ho (I.freeC x c e)
      exact ⟨_,q,hd⟩
    · exact ⟨o,keep c o (I.cne x c e) hc nch ho (I.freeC x c e),hd⟩
  refine ⟨I.ok,I.os,hg,⟨fun b o e n hb hx => ?_,fun b o e n hb hx => ?_,fun b o e n hx => ?_,fun b o e hx => ?_,fun b xs e=>tups b xs (I.base.tups b xs e),fun b o xs e=>frzs b o xs (I.base.frzs b o xs e),fun b ps e => ?_⟩,?_,fun x c e => ?_,?_,fun x c e => ?_,fun p hp => ?_,hok,I.len⟩
  · exact keep b o (neL b o e) hb (neC b o e hx) (I.base.keep b o e n hb hx) (I.base.free b o e n hx)
  · obtain ⟨sl,e1⟩:=I.base.slot b o e n hb hx
    obtain ⟨sl',e2⟩:=slot b _ (neL b o e) hb (neC b o e hx) e1 (I.base.free b o e n hx)
    exact ⟨sl',e2⟩
  · obtain ⟨o',e1⟩:=I.base.there b o e hx
    exact free b o' (neC b o e hx) e1 (I.base.free b o e n hx)
  · obtain ⟨o',e1⟩:=I.base.there b o e hx
    exact there b o' (neC b o e hx) e1
  · obtain ⟨m1,e1⟩:=I.base.tbls b ps e
    obtain ⟨m2,e2⟩:=tbls b _ e1
    exact ⟨m1++m2,by rw [e2,Array.append_assoc]⟩
  · obtain ⟨m,hn,hl⟩:=I.loc
    refine ⟨m,ns m hn,fun i x v e1 e2 e3 => ?_⟩
    obtain ⟨u,r,l⟩:=hl i x v e1 e2 e3
    refine ⟨u,r,?_⟩
    rcases l with l | ⟨k,c,e,z⟩
    · exact .inl l
    · exact .inr ⟨k,c,e,cellK x c e _ z⟩
  · obtain ⟨v,z⟩:=I.cell x c e
    exact ⟨v,cellK x c e v z⟩
  · obtain ⟨m,⟨o,_,_,ho,_⟩,_⟩:=I.loc
    exact free _ o (fun z=>(hch _ z).2.1 rfl) ho I.free
  · obtain ⟨v,o,ho,hd⟩:=I.cell x c e
    exact free c o (fun z=>(hch c z).2.2.1 x c e rfl) ho (I.freeC x c e)
  · obtain ⟨e,n,ne,nf,d⟩:=I.pin p hp
    have nch:p.1∉ch:=fun z=>(hch p.1 z).2.2.2 p hp rfl
    exact ⟨keep p.1 p.2 ne nf nch e n,free p.1 p.2 nch e n,ne,nf,d⟩

theorem Inv.un {t':Nat} (I:Inv X pins σ H s) (u:Un X.fs [] H H' s.heap h') (hok:HOk X.prog X.w H' h'):Inv X pins σ H' { s with heap:=h',toks:=t' }:=by
  obtain ⟨m,⟨o,es,ep,ho,r⟩,_⟩:=id I.loc
  obtain ⟨sl,hL⟩:=u.any ho I.free (by simp)
  exact I.step (g':=s.gens) (d':=s.drawn) (ch:=[]) (fun _ z=>nomatch z) (fun b o _ hb _ e n=>u.keep b o e n hb (by simp)) (fun b o _ hb _ e n=>u.slot b o e n hb (by simp)) (fun b o _ e n=>u.free b o e n (by simp)) (fun b o _ e=>u.there b o e (by simp)) u.tups u.frzs u.tbls (fun m' hm=>by
    obtain ⟨o',es',ep',ho',r'⟩:=hm
    rw [ho] at ho'; cases ho'
    exact ⟨_,es',ep',hL,r'⟩) hok I.bare

theorem Inv.call {g':Array GenState} {t':Nat} {d':Drawn} {ch:List Addr} (I:Inv X pins σ H s) (u:Un (frs X.stack) ch H H' s.heap h') (hok:HOk X.prog X.w H' h') (hg:AllBare g')
    (hch:∀ b∈ch,(b∈X.ex∨X.s₀.heap.objs.size≤b)∧b≠X.env.locals∧(∀ x c,X.env.cells.lookup x=some c→c≠b)∧∀ p∈X.pn++pins,p.1≠b) :
    Inv X pins σ H' { s with heap:=h',gens:=g',drawn:=d',toks:=t' }:=by
  obtain ⟨m,⟨o,es,ep,ho,r⟩,_⟩:=id I.loc
  obtain ⟨sl,hL⟩:=u.any ho I.free fun z=>(hch _ z).2.1 rfl
  exact I.step (ch:=ch) hch (fun b o hL hb hc e n=>u.keep b o e n (fun z=>(List.mem_cons.mp (I.stkSub b z)).elim hL hb) hc) (fun b o _ _ hc e n=>u.any e n hc) (fun b o hc e n=>u.free b o e n hc) (fun b o hc e=>u.there b o e hc) u.tups u.frzs u.tbls (fun m' hm=>by
    obtain ⟨o',es',ep',ho',r'⟩:=hm
    rw [ho] at ho'; cases ho'
    exact ⟨_,es',ep',hL,r'⟩) hok hg

theorem Inv.turned {t':Nat} {it:Addr} (I:Inv X pins σ H s) (k:∀ b o,b≠it→s.heap.get? b=some o→h'.get? b=some o) (hn:H it=none) (hL:it≠X.env.locals)
    (h1:it∈X.ex∨X.s₀.heap.objs.size≤it) (h2:∀ x c,X.env.cells.lookup x=some c→c≠it) (h3:∀ p∈X.pn++pins,p.1≠it):Inv X pins σ H { s with heap:=h',toks:=t' }:=by
  have nit:∀ b u,H b=some u→b≠it:=fun b u e z=>by rw [z,hn] at e; cases e
  refine I.step (g':=s.gens) (d':=s.drawn) (ch:=[it]) (fun b hb => ?_) (fun b o _ _ hc e _=>k b o (fun z=>hc (by simp [z])) e) (fun b o _ _ hc e _=>⟨o.slots,k b o (fun z=>hc (by simp [z])) e⟩) (fun _ _ _ _ n=>n)
    (fun b o hc e=>⟨o,k b o (fun z=>hc (by simp [z])) e⟩) (fun _ _ e=>e) (fun _ _ _ e=>e) (fun b ps e=>⟨#[],by rw [e]; simp⟩) (fun m hm => ?_) (fun b u e => ?_) I.bare
  · have e:b=it:=by simpa using hb
    subst e
    exact ⟨h1,hL,h2,h3⟩
  · obtain ⟨o,es,ep,ho,r⟩:=hm
    exact ⟨o,es,ep,k _ o (Ne.symm hL) ho,r⟩
  · refine (I.hok b u e).stay (fun c v hc q=>k c v ?_ q) (fun _ q=>q) fun _ _ q=>q
    rcases hc with z | z
    · rw [z]; exact nit b u e
    · exact nit c _ z
theorem Inv.tok (I:Inv X pins σ H s) (t:Nat):Inv X pins σ H { s with toks:=t }:=I.un (h':=s.heap) (t':=t) Un.refl I.hok

theorem Inv.kept {t':Nat} (I:Inv X pins σ H s) (k:∀ b u,s.heap.get? b=some u→h'.get? b=some u):Inv X pins σ H { s with heap:=h',toks:=t' }:=I.un (Un.kept k) (I.hok.kept k)

theorem Inv.laid {a:Addr} {o:HO} {t':Nat} (I:Inv X pins σ H s) (k:∀ b u,s.heap.get? b=some u→h'.get? b=some u) (hp:s.heap.objs.size≤a) (new:ObjOk X.prog X.w (upd H a o) h' a o) :
    Inv X pins σ (upd H a o) { s with heap:=h',toks:=t' }:=I.un (Un.laid k hp (I.hok.fresh hp)) (I.hok.laid k hp new)

theorem Inv.write {x e:Addr} {o:HO} {t':Nat} (I:Inv X pins σ H s) (mu:Mut (H x)) (he:e=x∨H e=some (.own x)) (k:∀ b u,b≠e→s.heap.get? b=some u→h'.get? b=some u) (heo:∃ u,h'.get? e=some u)
    (new:ObjOk X.prog X.w (upd H x o) h' x o):Inv X pins σ (upd H x o) { s with heap:=h',toks:=t' }:=I.un (Un.write mu he k heo) (I.hok.write mu he k heo new)

theorem Inv.weak {σ':List (Option V)} (I:Inv X pins σ H s) (hl:σ'.length=σ.length) (w:∀ (i:Nat) v,σ'[i]? = some (some v)→σ[i]? = some (some v)):Inv X pins σ' H s :=
  ⟨I.ok,I.os,I.bare,I.base,let ⟨m,hn,hl'⟩:=I.loc; ⟨m,hn,fun i x v e1 e2 e3=>hl' i x v e1 (w i v e2) e3⟩,I.cell,I.free,I.freeC,I.pin,I.hok,hl.trans I.len⟩
theorem Inv.pins_of {pins':List (Addr × Obj)} (I:Inv X pins σ H s) (h:∀ p∈pins',s.heap.get? p.1=some p.2∧H p.1=none∧p.1≠X.env.locals∧p.1∉X.fs∧∀ v,p.2.data≠.cell v):Inv X pins' σ H s :=
  ⟨I.ok,I.os,I.bare,I.base,I.loc,I.cell,I.free,I.freeC,fun p hp=>(List.mem_append.mp hp).elim (fun z=>I.pin p (List.mem_append_left _ z)) (h p),I.hok,I.len⟩

theorem nodup_ix {N:List Str} (hN:N.Nodup) {i j:Nat} {x:Str} (a:N[i]? = some x) (b:N[j]? = some x):i=j:=by
  obtain ⟨h1,e1⟩:=List.getElem?_eq_some_iff.mp a
  obtain ⟨h2,e2⟩:=List.getElem?_eq_some_iff.mp b
  exact (List.getElem_inj hN).mp (e1.trans e2.symm)


theorem store_ok2 {M:Model} {A:Around} {E:Value→Shared→Prop} {i:Nat} {x:Str} {v:V} {u:Value} {Q:Unit→Shared→Prop} (I:Inv X pins σ H s) (hN:X.N.Nodup) (hi:X.N[i]? = some x) (hx:Loc X.env.scope x) (r:RelV v u)
    (h:∀ s',Inv X pins (σ.set i (some v)) H s'→(∃ a,Heap.SameBut a s.heap s'.heap∧(a=X.env.locals∨X.env.cells.lookup x=some a))→Q () s') (hf:X.fn x=true∨X.env.scope.names.lookup x=some .local:=by first | exact .inl rfl | exact .inr rfl | assumption):wpAny M A (storeName X.env x u) Q E s:=by
  obtain ⟨m,hn,hl⟩:=id I.loc
  have hcls:(X.env.scope.kind == .class || (X.env.scope.kind == .module && X.env.locals != X.env.globals))=false:=by rw [I.ok.kind]; rfl
  have hiσ:i < σ.length:=by rw [I.len]; exact (List.getElem?_eq_some_iff.mp hi).1
  have cne:=I.cne
  have tracked:∀ {a:Addr} {h':Heap},(∃ o,s.heap.get? a=some o∧H a=none)→Heap.SameBut a s.heap h'→HOk X.prog X.w H h':=fun {a h'} ha hs b ob e=>by
    obtain ⟨_,_,hfree⟩:=ha
    refine (I.hok b ob e).stay (fun c w' hc q=>(hs.2 c ?_).trans q) (fun _ q=>q) fun _ _ q=>q
    rintro rfl
    rcases hc with rfl | hc
    · rw [hfree] at e; cases e
    · rw [hfree] at hc; cases hc
  rcases hx with hk | hk
  · refine wpAny_storeName_local hk hn (fun h' hn' hs => ?_) hcls
    obtain ⟨oL,_,_,hoL,_⟩:=id hn
    refine h _ ⟨I.ok,I.os,I.bare,⟨fun b o e n hb hx => ?_,fun b o e n hb hx => ?_,I.base.free,fun b o e hx => ?_,I.base.tups,I.base.frzs,I.base.tbls⟩,⟨_,hn',fun j y v' e1 e2 e3 => ?_⟩,fun y c e => ?_,I.free,I.freeC,fun p hp => ?_,tracked ⟨oL,hoL,I.free⟩ hs,by simpa using I.len⟩ ⟨_,hs,.inl rfl⟩
    · exact (hs.2 b (Nat.ne_of_lt (Nat.lt_of_lt_of_le (Heap.lt_size e) I.ok.above))).trans (I.base.keep b o e n hb hx)
    · obtain ⟨sl,e1⟩:=I.base.slot b o e n hb hx
      exact ⟨sl,(hs.2 b (Nat.ne_of_lt (Nat.lt_of_lt_of_le (Heap.lt_size e) I.ok.above))).trans e1⟩
    · obtain ⟨o',e1⟩:=I.base.there b o e hx
      exact ⟨o',(hs.2 b (Nat.ne_of_lt (Nat.lt_of_lt_of_le (Heap.lt_size e) I.ok.above))).trans e1⟩
    · by_cases hj:j=i
      · subst hj
        rw [hi] at e1; cases e1
        rw [List.getElem?_set_self hiσ] at e2
        cases e2
        exact ⟨u,r,.inl ⟨hk,by simp⟩⟩
      · rw [List.getElem?_set_ne (Ne.symm hj)] at e2
        obtain ⟨u',r',q⟩:=hl j y v' e1 e2 e3
        refine ⟨u',r',?_⟩
        rcases q with ⟨k,e⟩ | ⟨k,c,e,z⟩
        · refine .inl ⟨k,?_⟩
          have:y≠x:=fun e=>hj (nodup_ix hN e1 (e▸hi))
          simp [this,e]
        · exact .inr ⟨k,c,e,z.sameBut hs (cne y c e)⟩
    · obtain ⟨w',z⟩:=I.cell y c e
      exact ⟨w',z.sameBut hs (cne y c e)⟩
    · obtain ⟨e,n,ne,nf,d⟩:=I.pin p hp
      exact ⟨(hs.2 p.1 ne).trans e,n,ne,nf,d⟩
  · have hfn:X.fn x=true:=by
      rcases hf with z | z
      · exact z
      · rw [z] at hk; cases hk
    obtain ⟨c,hc⟩:=I.ok.has x (.inl hk)
    obtain ⟨w',z⟩:=I.cell x c hc
    refine wpAny_storeName_cell I.ok.kind hk hc z (fun h' hc' hs => ?_)
    obtain ⟨oc,hoc,hocd⟩:=id z
    refine h { s with heap:=h' } ⟨I.ok,I.os,I.bare,⟨fun b o e n hb hx => ?_,fun b o e n hb hx => ?_,I.base.free,fun b o e hx => ?_,I.base.tups,I.base.frzs,I.base.tbls⟩,⟨m,hn.sameBut hs (Ne.symm (cne x c hc)),fun j y v' e1 e2 e3 => ?_⟩,fun y c' e => ?_,I.free,I.freeC,fun p hp => ?_,tracked ⟨oc,hoc,I.freeC x c hc⟩ hs,by simpa using I.len⟩ ⟨c,hs,.inr hc⟩
    · exact (hs.2 b (Nat.ne_of_lt (Nat.lt_of_lt_of_le (Heap.lt_size e) (I.ok.cab x c hfn hc)))).trans (I.base.keep b o e n hb hx)
    · obtain ⟨sl,e1⟩:=I.base.slot b o e n hb hx
      exact ⟨sl,(hs.2 b (Nat.ne_of_lt (Nat.lt_of_lt_of_le (Heap.lt_size e) (I.ok.cab x c hfn hc)))).trans e1⟩
    · obtain ⟨o',e1⟩:=I.base.there b o e hx
      exact ⟨o',(hs.2 b (Nat.ne_of_lt (Nat.lt_of_lt_of_le (Heap.lt_size e) (I.ok.cab x c hfn hc)))).trans e1⟩
    · by_cases hj:j=i
      · subst hj
        rw [hi] at e1; cases e1
        rw [List.getElem?_set_self hiσ] at e2
        cases e2
        exact ⟨u,r,.inr ⟨.inl hk,c,hc,hc'⟩⟩
      · rw [List.getElem?_set_ne (Ne.symm hj)] at e2
        obtain ⟨u',r',q⟩:=hl j y v' e1 e2 e3
        refine ⟨u',r',?_⟩
        rcases q with q | ⟨k,c',e,z'⟩
        · exact .inl q
        · refine .inr ⟨k,c',e,z'.sameBut hs ?_⟩
          rintro rfl
          exact hj (nodup_ix hN e1 (I.ok.inj _ _ _ e hc▸hi))
    · by_cases hcc:c'=c
      · subst hcc; exact ⟨_,hc'⟩
      · obtain ⟨w2,z2⟩:=I.cell y c' e
        exact ⟨w2,z2.sameBut hs hcc⟩
    · obtain ⟨e,n,ne,nf,d⟩:=I.pin p hp
      refine ⟨(hs.2 p.1 ?_).trans e,n,ne,nf,d⟩
      intro q
      rw [q,hoc] at e
      have q':oc=p.2:=Option.some.inj e
      exact d w' (by rw [← q']; exact hocd)
theorem store_ok {M:Model} {A:Around} {E:Value→Shared→Prop} {i:Nat} {x:Str} {v:V} {u:Value} {Q:Unit→Shared→Prop} (I:Inv X pins σ H s) (hN:X.N.Nodup) (hi:X.N[i]? = some x) (hx:Loc X.env.scope x) (r:RelV v u)
    (h:∀ s',Inv X pins (σ.set i (some v)) H s'→Q () s') (hf:X.fn x=true∨X.env.scope.names.lookup x=some .local:=by first | exact .inl rfl | exact .inr rfl | assumption):wpAny M A (storeName X.env x u) Q E s :=
  store_ok2 I hN hi hx r (fun s' I' _=>h s' I') hf

theorem Inv.call' {s':Shared} {ch:List Addr} (I:Inv X pins σ H s) (ho:s'.os=s.os) (u:Un (frs X.stack) ch H H' s.heap s'.heap) (hok:HOk X.prog X.w H' s'.heap) (hg:AllBare s'.gens)
    (hch:∀ b∈ch,(b∈X.ex∨X.s₀.heap.objs.size≤b)∧b≠X.env.locals∧(∀ x c,X.env.cells.lookup x=some c→c≠b)∧∀ p∈X.pn++pins,p.1≠b):Inv X pins σ H' s':=by
  obtain ⟨h',g',d',t',o'⟩:=s'
  have e:o'=s.os:=ho
  subst e
  exact I.call (g':=g') (t':=t') (d':=d') u hok hg hch
end



abbrev XK:=Value→Option Addr→Hp→Prop
abbrev St:=List (Option V)
abbrev VK:=V→Hp→Prop

abbrev TE:=St→Hp→VK→Prop
abbrev TT:=St→Hp→(Bool→Hp→Prop)→Prop
abbrev TA:=St→Hp→(List V→Hp→Prop)→Prop

structure Ends where
  nx:St→Hp→Prop
  rt:VK
  bk:St→Hp→Prop:=fun _ _=>False
  ct:St→Hp→Prop:=fun _ _=>False
abbrev TS:=Ends→St→Hp→Prop

def EP (X:Cx) (pins:List (Addr × Obj)) (σ:St) (Q:VK) (u:Value) (s':Shared):Prop:=∃ v H',Inv X pins σ H' s'∧RelV v u∧Q v H'
def TP (X:Cx) (pins:List (Addr × Obj)) (σ:St) (Q:Bool→Hp→Prop) (b:Bool) (s':Shared):Prop:=∃ H',Inv X pins σ H' s'∧Q b H'
def AP (X:Cx) (pins:List (Addr × Obj)) (σ:St) (Q:List V→Hp→Prop) (us:List Value) (s':Shared):Prop:=∃ vs H',Inv X pins σ H' s'∧Vals vs us∧Q vs H'
def SP (X:Cx) (pins:List (Addr × Obj)) (D:Ends) (f:Flow) (s':Shared):Prop :=
  match f with
  | .next=>∃ σ' H',Inv X pins σ' H' s'∧D.nx σ' H'
  | .brk=>∃ σ' H',Inv X pins σ' H' s'∧D.bk σ' H'
  | .cont=>∃ σ' H',Inv X pins σ' H' s'∧D.ct σ' H'
  | .ret u=>∃ v σ' H',Inv X pins σ' H' s'∧RelV v u∧D.rt v H'

def PE (X:Cx) (e:Expr) (t:TE):Prop :=
  ∀ (pins:List (Addr × Obj)) (s:Shared) (σ:St) (H:Hp) (Q:VK),Inv X pins σ H s→t σ H Q→wpAny (model X.prog X.w) X.A (eval e X.env) (EP X pins σ Q) X.xe s
def PT (X:Cx) (e:Expr) (t:TT):Prop :=
  ∀ (pins:List (Addr × Obj)) (s:Shared) (σ:St) (H:Hp) (Q:Bool→Hp→Prop),Inv X pins σ H s→t σ H Q→wpAny (model X.prog X.w) X.A (isTrue e X.env (eval e X.env)) (TP X pins σ Q) X.xe s

def PW (X:Cx) (e:Expr) (t:TT):Prop :=
  ∀ (whole:Sem Value) (pins:List (Addr × Obj)) (s:Shared) (σ:St) (H:Hp) (Q:Bool→Hp→Prop),Inv X pins σ H s→t σ H Q→wpAny (model X.prog X.w) X.A (isTrue e X.env whole) (TP X pins σ Q) X.xe s
theorem PW.pt {X:Cx} {e:Expr} {t:TT} (h:PW X e t):PT X e t:=h _

def PA (X:Cx) (es:List Expr) (t:TA):Prop :=
  ∀ (pos:Pos) (pins:List (Addr × Obj)) (s:Shared) (σ:St) (H:Hp) (Q:List V→Hp→Prop),Inv X pins σ H s→t σ H Q→wpAny (model X.prog X.w) X.A (spliced (backTo pos (starEach es X.env))) (AP X pins σ Q) X.xe s
def PS (X:Cx) (st:Stmt) (t:TS):Prop :=
  ∀ (pins:List (Addr × Obj)) (s:Shared) (σ:St) (H:Hp) (D:Ends),Inv X pins σ H s→t D σ H→wpAny (model X.prog X.w) X.A (exec st X.env) (SP X pins D) X.xe s
def PSs (X:Cx) (st:List Stmt) (t:TS):Prop :=
  ∀ (pins:List (Addr × Obj)) (s:Shared) (σ:St) (H:Hp) (D:Ends),Inv X pins σ H s→t D σ H→wpAny (model X.prog X.w) X.A (execs st X.env) (SP X pins D) X.xe s

theorem thn {α:Type} {t:Sem α} {Q Q':α→Shared→Prop} {M:Model} {A:Around} {E:Value→Shared→Prop} {s:Shared} (h:wpAny M A t Q E s) (hQ:∀ a s,Q a s→Q' a s):wpAny M A t Q' E s:=wpAny_mono h hQ fun _ _ x=>x
end L2

namespace L2
open PySem PySem.Spec PyProof.Rows
section
variable {X:Cx}


def tVar (i:Nat):TE:=fun σ H Q=>∃ v,σ[i]? = some (some v)∧Q v H
def tC (v:V):TE:=fun _ H Q=>Q v H
theorem pe_var {i:Nat} {x:Str} {pos:Pos} (hN:X.N[i]? = some x) (hv:Vis X.env.scope x) (hd:(x == ("__debug__" : Str))=false:=by decide) (hcd:(x == ("__classdict__" : Str))=false:=by decide):PE X (.Name x pos) (tVar i):=by
  intro pins s σ H Q I h
  obtain ⟨v,e,h⟩:=h
  obtain ⟨m,hn,hl⟩:=I.loc
  obtain ⟨u,r,l⟩:=hl i x v hN e hv
  have fin:EP X pins σ Q u s:=⟨v,H,I,r,h⟩
  rcases l with ⟨hk,hm⟩ | ⟨hk,c,hc,hcell⟩
  · exact wpAny_Name (wpAny_loadName_local I.ok.kind hk hn hm fin) hd
  · rcases hk with hk | hk
    · exact wpAny_Name (wpAny_loadName_cell I.ok.kind hk hc hcell fin) hd
    · exact wpAny_Name (wpAny_loadName_free I.ok.kind hk hc hcell fin hcd) hd
theorem pe_int {i j pos}:PE X (.Constant (.int i) j pos) (tC (.int i)):=fun _ _ _ H _ I h=>wpAny_Constant_int ⟨.int i,H,I.tok _,⟨_,rfl⟩,h⟩
theorem pe_bl {b j pos}:PE X (.Constant (.bool b) j pos) (tC (.bl b)):=fun _ _ _ H _ I h=>Constant_bool ⟨.bl b,H,I,rfl,h⟩
theorem pe_non {j pos}:PE X (.Constant .none j pos) (tC .non):=fun _ _ _ H _ I h=>Constant_none ⟨.non,H,I,rfl,h⟩
theorem pe_str {x j pos}:PE X (.Constant (.str x) j pos) (tC (.str x)):=fun _ _ _ H _ I h=>Calls.Constant_str ⟨.str x,H,I.tok _,⟨_,rfl⟩,h⟩


def Gl (X:Cx) (x:Str):Prop:=X.env.kindOf x=some .globalImplicit
theorem ld_glob {E:Value→Shared→Prop} {pins:List (Addr × Obj)} {s:Shared} {σ:St} {H:Hp} {x:Str} {u:Value} {pos:Pos} {Q:Value→Shared→Prop} (I:Inv X pins σ H s) (hg:Gl X x) (hm:X.mg x=some u) (h:Q u s)
    (hd:(x == ("__debug__" : Str))=false:=by decide):wpAny (model X.prog X.w) X.A (eval (.Name x pos) X.env) Q E s :=
  Calls.Name_function_global I.ok.kind hg (Calls.loadGlobal_global (by rw [I.ok.glob]; exact I.mod.glob.keeps I.bk) hm h) hd
theorem ld_blt {E:Value→Shared→Prop} {pins:List (Addr × Obj)} {s:Shared} {σ:St} {H:Hp} {x:Str} {u:Value} {pos:Pos} {Q:Value→Shared→Prop} (I:Inv X pins σ H s) (hg:Gl X x) (hm:X.mg x=none) (hv:bootBuiltins x=some u) (h:Q u s)
    (hn:x ≠ "__name__" := by decide) (hd:(x == ("__debug__" : Str))=false:=by decide):wpAny (model X.prog X.w) X.A (eval (.Name x pos) X.env) Q E s:=by
  obtain ⟨mb,h1,h2⟩:=I.mod.blt
  exact Calls.Name_function_global I.ok.kind hg (Calls.loadGlobal_builtin (by rw [I.ok.glob]; exact I.mod.glob.keeps I.bk) hm (by rw [I.ok.blt]; exact h1.keeps I.bk) ((h2 x hn).trans hv) h) hd

theorem pe_glob {x:Str} {v:V} {u:Value} {pos:Pos} (hg:Gl X x) (hm:X.mg x=some u) (r:RelV v u) (hd:(x == ("__debug__" : Str))=false:=by decide):PE X (.Name x pos) (tC v) :=
  fun _ _ _ H _ I h=>ld_glob I hg hm ⟨v,H,I,r,h⟩ hd
theorem pe_bltn {x:Str} {v:V} {u:Value} {pos:Pos} (hg:Gl X x) (hm:X.mg x=none) (hv:bootBuiltins x=some u) (r:RelV v u) (hn:x ≠ "__name__" := by decide) (hd:(x == ("__debug__" : Str))=false:=by decide):PE X (.Name x pos) (tC v) :=
  fun _ _ _ H _ I h=>ld_blt I hg hm hv ⟨v,H,I,r,h⟩ hn hd



variable {a b:Expr} {ta tb:TE} {pos:Pos}
def tB (t:TE):TT:=fun σ H Q=>t σ H fun x H1=>∃ c,x=.bl c∧Q c H1
theorem pt_val {e:Expr} {t:TE} (h:PE X e t) (he:∀ whole,isTrue e X.env whole=(do let v ← whole; standAt e.pos; holding [v] (truthy v)):=by intro _; rfl):PT X e (tB t):=by
  intro pins s σ H Q I hw
  refine isTrue_plain (thn (h pins s σ H _ I hw) fun v s1 ⟨x,H1,I1,r1,q1⟩ => ?_) (he _)
  obtain ⟨d,rfl,q⟩:=q1
  cases r1
  exact wpAny_truthy_bool ⟨H1,I1,q⟩


variable {tA tB':TT} {rest:List Expr}
def tOr (t u:TT):TT:=fun σ H Q=>t σ H fun c H1=>if c=true then Q true H1 else u σ H1 Q
def tNot (t:TT):TT:=fun σ H Q=>t σ H fun c H1=>Q (!c) H1
theorem pw_or1 (ha:PT X a tA):PW X (.BoolOp .Or [a] pos) tA:=by
  intro wh pins s σ H Q I h
  refine isTrue_or (thn (ha pins s σ H Q I h) fun c s1 e => ?_)
  cases c with
  | false=>exact isTrue_or_nil e
  | true=>exact e
theorem pw_or (ha:PT X a tA) (hb:PW X (.BoolOp .Or (b::rest) pos) tB'):PW X (.BoolOp .Or (a::b::rest) pos) (tOr tA tB'):=by
  intro wh pins s σ H Q I h
  refine isTrue_or (thn (ha pins s σ H _ I h) fun c s1 ⟨H1,I1,q1⟩ => ?_)
  cases c with
  | true=>exact ⟨H1,I1,q1⟩
  | false=>exact hb wh pins s1 σ H1 Q I1 q1
theorem pt_not (ha:PT X a tA):PT X (.UnaryOp .Not a pos) (tNot tA):=by
  intro pins s σ H Q I h
  exact isTrue_not (ha pins s σ H (fun c H1=>Q (!c) H1) I h)

def tAndV (ta tb:TE):TE:=fun σ H Q=>ta σ H fun x H1=>∃ c,x=.bl c∧if c=true then tb σ H1 Q else Q (.bl false) H1
def tNotV (ta:TE):TE:=fun σ H Q=>ta σ H fun x H1=>∃ c,x=.bl c∧Q (.bl (!c)) H1
theorem pe_one {op} {t:TE} (h:PE X a t):PE X (.BoolOp op [a] pos) t:=fun pins s σ H Q I hw=>BoolOp_one (h pins s σ H Q I hw)
theorem pe_and (ha:PE X a ta) (hb:PE X (.BoolOp .And (b::rest) pos) tb):PE X (.BoolOp .And (a::b::rest) pos) (tAndV ta tb):=by
  intro pins s σ H Q I h
  refine BoolOp_and (thn (ha pins s σ H _ I h) fun v s1 ⟨x,H1,I1,r1,q1⟩ => ?_)
  obtain ⟨c,rfl,q1⟩:=q1
  cases r1
  refine wpAny_truthy_bool ?_
  cases c with
  | true=>exact hb pins s1 σ H1 Q I1 q1
  | false=>exact ⟨.bl false,H1,I1,rfl,q1⟩
theorem pe_not (ha:PE X a ta):PE X (.UnaryOp .Not a pos) (tNotV ta):=by
  intro pins s σ H Q I h
  refine UnaryOp_ (thn (ha pins s σ H _ I h) fun v s1 ⟨x,H1,I1,r1,q1⟩ => ?_)
  obtain ⟨c,rfl,q1⟩:=q1
  cases r1
  exact not_of (wpAny_truthy_bool ⟨.bl (!c),H1,I1,rfl,q1⟩)

end
end L2

namespace L2
open PySem PySem.Spec PyProof.Rows


def SqL (K:PySem.W.Frag) (H:Hp) (a:Addr) (xs:List V):Prop :=
  Rd H a (.lst xs) ∨
    ∃ (o:Obj) (its:Array Value) (n:Nat),K.lookup a=some o∧o.cls=.type "list" ∧ o.dict=none∧o.data=.seq its n∧its.size≤sizeLine∧Vals xs its.toList
def SqT (K:PySem.W.Frag) (H:Hp) (a:Addr) (xs:List V):Prop :=
  Rd H a (.tup xs) ∨
    ∃ (o:Obj) (its:Array Value) (n:Nat),K.lookup a=some o∧o.cls=.type "tuple" ∧ o.data=.seq its n∧its.size≤sizeLine∧Vals xs its.toList
def absV:Value→Option V
  | .none=>some .non
  | .bool b=>some (.bl b)
  | .int i _=>some (.int i)
  | .str x _=>some (.str x)
  | .bytes b _=>some (.byt b)
  | .float b _=>some (.flt b)
  | .ref a=>some (.ref a)
  | .type n=>some (.ty n)
  | _=>none
theorem RelV.abs {x:V} {u:Value} (r:RelV x u):absV u=some x:=by
  cases x with
  | non=>cases r; rfl
  | bl _=>cases r; rfl
  | int _=>obtain ⟨t,rfl⟩:=r; rfl
  | str _=>obtain ⟨t,rfl⟩:=r; rfl
  | byt _=>obtain ⟨t,rfl⟩:=r; rfl
  | flt _=>obtain ⟨t,rfl⟩:=r; rfl
  | ref _=>cases r; rfl
  | ty _=>cases r; rfl
theorem RelV.inj {x y:V} {u:Value} (r:RelV x u) (q:RelV y u):x=y:=Option.some.inj (r.abs.symm.trans q.abs)
theorem Vals.inj:∀ {xs ys:List V} {us:List Value},Vals xs us→Vals ys us→xs=ys
  | _,_,_,.nil,.nil=>rfl
  | _,_,_,.cons r t,.cons r' t'=>by rw [r.inj r',Vals.inj t t']
section
variable {X:Cx} {pins:List (Addr × Obj)} {σ:St} {H:Hp} {s:Shared} {a:Addr} {xs ys:List V}
theorem SqL.of {K:PySem.W.Frag} (h:H a=some (.lst xs)):SqL K H a xs:=.inl (.inl h)
theorem SqT.of {K:PySem.W.Frag} (h:H a=some (.tup xs)):SqT K H a xs:=.inl (.inl h)
theorem Inv.list (I:Inv X pins σ H s) (h:SqL X.K H a xs):∃ its:List Value,Vals xs its∧PlainL s.heap a its.toArray∧xs.length≤sizeLine:=by
  rcases h with h | ⟨o,its,n,hk,hc,hd,hs,hz,r⟩
  · obtain ⟨z,its,n,r,e⟩:=h.ok I.hok
    exact ⟨its,r,⟨_,n,e,rfl,rfl,rfl⟩,z⟩
  · refine ⟨its.toList,r,⟨o,n,I.kIn a o hk,hc,hd,by simpa using hs⟩,?_⟩
    have e:=r.length
    simp only [Array.length_toList] at e
    omega
theorem Inv.tuple (I:Inv X pins σ H s) (h:SqT X.K H a xs):∃ its:List Value,Vals xs its∧IsTup s.heap a its.toArray∧xs.length≤sizeLine:=by
  rcases h with h | ⟨o,its,n,hk,hc,hs,hz,r⟩
  · obtain ⟨z,its,r,p⟩:=h.ok I.hok
    exact ⟨its,r,p,z⟩
  · refine ⟨its.toList,r,⟨o,I.kIn a o hk,hc,n,by simpa using hs⟩,?_⟩
    have e:=r.length
    simp only [Array.length_toList] at e
    omega
theorem Inv.list_inj (I:Inv X pins σ H s) (h:SqL X.K H a xs) (h':SqL X.K H a ys):xs=ys:=by
  obtain ⟨its,r,⟨o,n,e,_,_,d⟩,_⟩:=I.list h
  obtain ⟨its',r',⟨o',n',e',_,_,d'⟩,_⟩:=I.list h'
  rw [e] at e'; cases e'
  rw [d] at d'
  injection d' with d1 _
  have:its=its':=by simpa using congrArg Array.toList d1
  subst this
  exact r.inj r'
theorem Inv.tuple_inj (I:Inv X pins σ H s) (h:SqT X.K H a xs) (h':SqT X.K H a ys):xs=ys:=by
  obtain ⟨its,r,⟨o,e,_,n,d⟩,_⟩:=I.tuple h
  obtain ⟨its',r',⟨o',e',_,n',d'⟩,_⟩:=I.tuple h'
  rw [e] at e'; cases e'
  rw [d] at d'
  injection d' with d1 _
  have:its=its':=by simpa using congrArg Array.toList d1
  subst this
  exact r.inj r'
end


abbrev Cx.wish (X:Cx) (E:Value→Shared→Prop):Cx:={ X with xe:=E }

abbrev Cx.nox (X:Cx):Cx:=X.wish fun _ _=>False
theorem Cx.Ok.wish {X:Cx} (ok:X.Ok) (E:Value→Shared→Prop):(X.wish E).Ok :=
  ⟨ok.mod,ok.kind,ok.glob,ok.blt,ok.above,ok.inj,ok.has,ok.cab,ok.hd,ok.frames,ok.stk,ok.exf,ok.bs,ok.bsz,ok.noex,ok.exfs,ok.funs,ok.frf⟩
theorem Cx.Ok.unwish {X:Cx} {E:Value→Shared→Prop} (ok:(X.wish E).Ok):X.Ok :=
  ⟨ok.mod,ok.kind,ok.glob,ok.blt,ok.above,ok.inj,ok.has,ok.cab,ok.hd,ok.frames,ok.stk,ok.exf,ok.bs,ok.bsz,ok.noex,ok.exfs,ok.funs,ok.frf⟩
section
variable {X:Cx} {pins:List (Addr × Obj)} {σ:St} {H:Hp} {s:Shared} {E:Value→Shared→Prop}
theorem Inv.wish (I:Inv X pins σ H s) (E:Value→Shared→Prop):Inv (X.wish E) pins σ H s:=⟨I.ok.wish E,I.os,I.bare,I.base,I.loc,I.cell,I.free,I.freeC,I.pin,I.hok,I.len⟩
theorem Inv.unwish (I:Inv (X.wish E) pins σ H s):Inv X pins σ H s:=⟨I.ok.unwish,I.os,I.bare,I.base,I.loc,I.cell,I.free,I.freeC,I.pin,I.hok,I.len⟩
theorem SP.unwish {D:Ends} {f:Flow} {s':Shared} (h:SP (X.wish E) pins D f s'):SP X pins D f s':=by
  cases f with
  | next=>obtain ⟨σ',H',I,q⟩:=h; exact ⟨σ',H',I.unwish,q⟩
  | brk=>obtain ⟨σ',H',I,q⟩:=h; exact ⟨σ',H',I.unwish,q⟩
  | cont=>obtain ⟨σ',H',I,q⟩:=h; exact ⟨σ',H',I.unwish,q⟩
  | ret u=>obtain ⟨v,σ',H',I,r,q⟩:=h; exact ⟨v,σ',H',I.unwish,r,q⟩
theorem PSs.nox {st:List Stmt} {t:TS} (h:PSs X.nox st t):PSs X st t:=fun pins s σ H D I hw =>
  wpAny_mono (h pins s σ H D (I.wish _) hw) (fun _ _ q=>q.unwish) fun _ _ z=>False.elim z
end


section
variable {X:Cx} {st:Stmt} {rest:List Stmt} {t u:TS} {e:Expr} {te:TE} {pos:Pos}
def tNext:TS:=fun D σ H=>D.nx σ H
def tSeq (t u:TS):TS:=fun D σ H=>t { D with nx:=u D } σ H
theorem pss_nil:PSs X [] tNext:=fun _ _ σ H _ I h=>wpAny_execs_nil ⟨σ,H,I,h⟩
theorem pss_cons (h1:PS X st t) (h2:PSs X rest u):PSs X (st::rest) (tSeq t u):=by
  intro pins s σ H D I h
  refine wpAny_execs_cons (thn (h1 pins s σ H { D with nx:=u D } I h) fun f s1 q => ?_)
  cases f with
  | next =>
    obtain ⟨σ',H',I',q⟩:=q
    exact h2 pins s1 σ' H' D I' q
  | ret v=>exact q
  | brk=>exact q
  | cont=>exact q
theorem pss_one (h1:PS X st t):PSs X [st] t:=by
  intro pins s σ H D I h
  refine wpAny_execs_cons (thn (h1 pins s σ H D I h) fun f s1 q => ?_)
  cases f with
  | next=>exact wpAny_execs_nil q
  | ret v=>exact q
  | brk=>exact q
  | cont=>exact q
theorem Inv.quiet {pins:List (Addr × Obj)} {σ:St} {H:Hp} {s:Shared} (I:Inv X pins σ H s):interactive X.env=false:=by simp [interactive,I.ok.kind]

def tDrop (te:TE):TS:=fun D σ H=>te σ H fun _ H1=>D.nx σ H1
theorem ps_expr (he:PE X e te) (hs:swapsWith e none pos.line X.env=pure false:=by rfl):PS X (.Expr e pos) (tDrop te):=by
  intro pins s σ H D I h
  exact wpAny_Expr_any (thn (he pins s σ H _ I h) fun v s1 ⟨x,H1,I1,r1,q1⟩=>⟨σ,H1,I1,q1⟩) I.quiet hs
def tRet (te:TE):TS:=fun D σ H=>te σ H D.rt
theorem ps_ret (he:PE X e te):PS X (.Return (some e) pos) (tRet te):=by
  intro pins s σ H D I h
  exact wpAny_Return_some (thn (he pins s σ H _ I h) fun v s1 ⟨x,H1,I1,r1,q1⟩=>⟨x,σ,H1,I1,r1,q1⟩)
def tIfS (c:TT) (t u:TS):TS:=fun D σ H=>c σ H fun b H1=>if b=true then t D σ H1 else u D σ H1
theorem ps_if {c:Expr} {a b:List Stmt} {tc:TT} (hc:PT X c tc) (ha:PSs X a t) (hb:PSs X b u):PS X (.If c a b pos) (tIfS tc t u):=by
  intro pins s σ H D I h
  refine wpAny_If (thn (hc pins s σ H _ I h) fun d s1 ⟨H1,I1,q1⟩ => ?_)
  cases d with
  | true=>exact ha pins s1 σ H1 D I1 q1
  | false=>exact hb pins s1 σ H1 D I1 q1

end


abbrev TG:=V→St→Hp→(St→Hp→Prop)→Prop
abbrev TGs:=List V→St→Hp→(St→Hp→Prop)→Prop
def PG (X:Cx) (target:Expr) (t:TG):Prop :=
  ∀ (pins:List (Addr × Obj)) (s:Shared) (σ:St) (H:Hp) (v:V) (u:Value) (Q:St→Hp→Prop),Inv X pins σ H s→RelV v u→t v σ H Q →
    wpAny (model X.prog X.w) X.A (assign target X.env u) (fun _ s'=>∃ σ' H',Inv X pins σ' H' s'∧Q σ' H') X.xe s

def PGs (X:Cx) (ts:List Expr) (t:TGs):Prop :=
  ∀ (pins:List (Addr × Obj)) (s:Shared) (σ:St) (H:Hp) (vs:List V) (us:List Value) (Q:St→Hp→Prop),Inv X pins σ H s→Vals vs us→t vs σ H Q →
    wpAny (model X.prog X.w) X.A (assignInOrder ((assignEach ts X.env).map (·.2)) us) (fun _ s'=>∃ σ' H',Inv X pins σ' H' s'∧Q σ' H') X.xe s

abbrev TSet:=V→V→V→Hp→(Hp→Prop)→Prop
def PSet (X:Cx) (t:TSet):Prop :=
  ∀ (pins:List (Addr × Obj)) (s:Shared) (σ:St) (H:Hp) (o i v:V) (ov iv u:Value) (Q:Hp→Prop),Inv X pins σ H s→RelV o ov→RelV i iv→RelV v u→t o i v H Q →
    wpAny (model X.prog X.w) X.A (setItem ov iv u) (fun _ s'=>∃ H',Inv X pins σ H' s'∧Q H') X.xe s

section
variable {X:Cx} {pos:Pos}
def gName (i:Nat):TG:=fun v σ H Q=>Q (σ.set i (some v)) H
theorem pg_name {i:Nat} {x:Str} (hN:X.N.Nodup) (hi:X.N[i]? = some x) (hx:Loc X.env.scope x) (hf:X.fn x=true∨X.env.scope.names.lookup x=some .local:=by first | exact .inl rfl | exact .inr rfl | assumption):PG X (.Name x pos) (gName i):=by
  intro pins s σ H v u Q I r h
  exact wpAny_assign_Name (store_ok I hN hi hx r (fun s' I'=>⟨_,H,I',h⟩) hf)
def gNil:TGs:=fun vs σ H Q=>vs=[]∧Q σ H
def gCons (t:TG) (u:TGs):TGs:=fun vs σ H Q=>∃ v r,vs=v::r∧t v σ H fun σ' H'=>u r σ' H' Q
theorem pgs_nil:PGs X [] gNil:=by
  intro pins s σ H vs us Q I r h
  obtain ⟨e,h⟩:=h
  subst e
  cases r
  exact assignInOrder_nil ⟨σ,H,I,h⟩
theorem pgs_cons {e:Expr} {es:List Expr} {t:TG} {u:TGs} (h1:PG X e t) (h2:PGs X es u)
    (hs:(assignEach (e::es) X.env).map (·.2)=assign e X.env::(assignEach es X.env).map (·.2):=by rfl):PGs X (e::es) (gCons t u):=by
  intro pins s σ H vs us Q I r h
  obtain ⟨v,vr,e1,h⟩:=h
  subst e1
  cases r with
  | cons r rr =>
    rw [hs]
    refine assignInOrder_cons (thn (h1 pins s σ H _ _ _ I r h) fun _ s1 ⟨σ1,H1,I1,q1⟩ => ?_)
    exact h2 pins s1 σ1 H1 _ _ Q I1 rr q1

def gTup (K:PySem.W.Frag) (n:Nat) (t:TGs):TG:=fun v σ H Q=>∃ a xs,v=.ref a∧SqT K H a xs∧xs.length=n∧t xs σ H Q
theorem pg_tup {es:List Expr} {k:Nat} {t:TGs} {n:Nat} (hc:X.calm=true) (h:PGs X es t)
    (hn:(assignEach es X.env).length=n:=by rfl) (hst:(assignEach es X.env).findIdx? (·.1)=none:=by rfl):PG X (.Tuple es k pos) (gTup X.K n t):=by
  intro pins s σ H v u Q I r hw
  obtain ⟨a,xs,e1,hq,hl,hw⟩:=hw
  subst e1
  cases r
  obtain ⟨its,rv,ht,hz⟩:=I.tuple hq
  refine assign_Tuple_tuple (I.ok.hd hc) ht (by simp [hn,← hl,rv.length]) hst fun h' hx => ?_
  have I1:Inv X pins σ H { s with heap:=h' }:=I.kept (t':=s.toks) fun b o e=>hx b o (Nat.ne_of_lt (Heap.lt_size e)) e
  exact h pins _ σ H xs _ Q I1 (by simpa using rv) hw

def gSub (to ti:TE) (t:TSet):TG:=fun v σ H Q=>to σ H fun o H1=>ti σ H1 fun i H2=>t o i v H2 fun H3=>Q σ H3
theorem pg_sub {o i:Expr} {to ti:TE} {t:TSet} (ho:PE X o to) (hi:PE X i ti) (hs:PSet X t)
    (ha:∀ v,assign (.Subscript o i pos) X.env v=(do
      let ov ← holding [v] (eval o X.env)
      let iv ← holding [v,ov] (eval i X.env)
      standAt pos
      holding [v,ov,iv] (setItem ov iv v)
      release [v,ov,iv] []):=by intro _; rfl):PG X (.Subscript o i pos) (gSub to ti t):=by
  intro pins s σ H v u Q I r h
  rw [ha]
  refine wpAny_bind (wpAny_holding (thn (ho pins s σ H _ I h) fun ov s1 ⟨x,H1,I1,r1,q1⟩ => ?_))
  refine wpAny_bind (wpAny_holding (thn (hi pins s1 σ H1 _ I1 q1) fun iv s2 ⟨y,H2,I2,r2,q2⟩ => ?_))
  refine wpAny_bind (wpAny_standAt (wpAny_bind (wpAny_holding (thn (hs pins s2 σ H2 x y v ov iv u _ I2 r1 r2 r q2) fun _ s3 ⟨H3,I3,q3⟩ => ?_))))
  exact wpAny_release ⟨σ,H3,I3,q3⟩

def tAsg (te:TE) (g:TG):TS:=fun D σ H=>te σ H fun x H1=>g x σ H1 D.nx
theorem ps_asg {tg e:Expr} {te:TE} {g:TG} (he:PE X e te) (hg:PG X tg g) (hs:swapsWithSole [tg] e pos.line X.env=pure false:=by rfl) (hw:swappedStores [tg] e X.env=pure none:=by rfl)
    (h1:(assignEach [tg] X.env).map (·.2)=[assign tg X.env]:=by rfl):PS X (.Assign [tg] e pos) (tAsg te g):=by
  intro pins s σ H D I h
  refine wpAny_Assign_stores (thn (he pins s σ H _ I h) fun v s1 ⟨x,H1,I1,r1,q1⟩ => ?_) hs hw
  rw [h1]
  exact thn (hg pins s1 σ H1 x v _ I1 r1 q1) fun _ s2 q=>q

theorem ps_set {i:Nat} {x:Str} {e:Expr} {te:TE} {pos':Pos} (hN:X.N.Nodup) (hi:X.N[i]? = some x) (hx:Loc X.env.scope x) (he:PE X e te) (hs:swapsWith e (some (.Name x pos')) pos.line X.env=pure false:=by rfl) (hf:X.fn x=true∨X.env.scope.names.lookup x=some .local:=by first | exact .inl rfl | exact .inr rfl | assumption) :
    PS X (.Assign [.Name x pos'] e pos) (tAsg te (gName i)):=by
  intro pins s σ H D I h
  refine wpAny_Assign_Name (thn (he pins s σ H _ I h) fun v s1 ⟨y,H1,I1,r1,q1⟩ => ?_) hs
  exact store_ok I1 hN hi hx r1 (fun s2 I2=>⟨_,H1,I2,q1⟩) hf

end


section
variable {X:Cx} {pos:Pos}

end



structure It where
  go:Nat→Hp→Prop
  yld:Nat→Hp→V→Hp→Prop
  stop:Nat→Hp→Prop

def FpOk (X:Cx) (pins:List (Addr × Obj)) (H:Hp) (b:Addr):Prop :=
  H b=none∧b≠X.env.locals∧b∉X.fs∧(b∈X.ex∨X.s₀.heap.objs.size≤b)∧(∀ x c,X.env.cells.lookup x=some c→c≠b)∧∀ p∈X.pn++pins,p.1≠b
theorem Inv.fpOk {X:Cx} {pins:List (Addr × Obj)} {σ:St} {H H':Hp} {s:Shared} {b:Addr} (I:Inv X pins σ H s) (hb:s.heap.objs.size≤b) (hn:H' b=none):FpOk X pins H' b:=by
  refine ⟨hn,Nat.ne_of_gt (Nat.lt_of_lt_of_le I.lt hb),I.nofs hb,.inr (Nat.le_trans I.sz hb),fun x c e z => ?_,fun p hp z => ?_⟩
  · obtain ⟨v,q⟩:=I.cell x c e
    exact absurd (Nat.lt_of_lt_of_le q.lt (by rw [z]; exact hb)) (Nat.lt_irrefl _)
  · exact absurd (Nat.lt_of_lt_of_le (Heap.lt_size (I.pin p hp).1) (by rw [z]; exact hb)) (Nat.lt_irrefl _)
structure Turn (P:Program) (w:World) (K:PySem.W.Frag) (tg:Expr) (J:It) (fp:List Addr) (it:Addr) (tn:Nat→Heap→Prop):Prop where
  mem:it∈fp
  obj:∀ i h,tn i h→∀ b∈fp,∃ o,h.get? b=some o∧∀ v,o.data≠.cell v
  keep:∀ i h h',tn i h→(∀ b∈fp,∀ o,h.get? b=some o→h'.get? b=some o)→tn i h'
  item:∀ (X:Cx),X.prog=P→X.w=w→X.K=K→X.calm=true→∀ (i:Nat) (pins:List (Addr × Obj)) (s:Shared) (σ:St) (H:Hp) (E:Value→Shared→Prop),Inv X pins σ H s→(∀ b∈fp,FpOk X pins H b)→tn i s.heap→J.go i H →
    wpAny (model P w) X.A (pyNext (.ref it)) (fun r s1=>∃ u,r=some u ∧
      wpAny (model P w) X.A (letOwnedTupleGo tg (.ref it) u) (fun _ s2=>∃ x H',Inv X pins σ H' s2∧RelV x u∧J.yld i H x H'∧tn (i + 1) s2.heap∧∀ b∈fp,H' b=none) E s1) E s
  done:∀ (X:Cx),X.prog=P→X.w=w→X.K=K→X.calm=true→∀ (i:Nat) (pins:List (Addr × Obj)) (s:Shared) (σ:St) (H:Hp) (E:Value→Shared→Prop),Inv X pins σ H s→(∀ b∈fp,FpOk X pins H b)→tn i s.heap→J.stop i H →
    wpAny (model P w) X.A (pyNext (.ref it)) (fun r s1=>r=none∧Inv X pins σ H s1) E s
  self:∀ (A:Around) (i:Nat) (s:Shared) (Q:Value→Shared→Prop) (E:Value→Shared→Prop),tn i s.heap→Q (.ref it) s→wpAny (model P w) A (pyIter (.ref it)) Q E s
abbrev TI:=St→Hp→(It→Hp→Prop)→Prop

def PIE (X:Cx) (pins:List (Addr × Obj)) (σ:St) (tg:Expr) (R:It→Hp→Prop) (itv:Value) (s2:Shared):Prop :=
  ∃ (it:Addr) (fp:List Addr) (tn:Nat→Heap→Prop) (J:It) (H':Hp),itv=.ref it∧Inv X pins σ H' s2∧Turn X.prog X.w X.K tg J fp it tn∧tn 0 s2.heap∧(∀ b∈fp,FpOk X pins H' b)∧R J H'
def PI (X:Cx) (tg iter:Expr) (wi:TI):Prop :=
  ∀ (pins:List (Addr × Obj)) (s:Shared) (σ:St) (H:Hp) (R:It→Hp→Prop),Inv X pins σ H s→wi σ H R →
    wpAny (model X.prog X.w) X.A (eval iter X.env) (fun v s1=>wpAny (model X.prog X.w) X.A (pyIter v) (PIE X pins σ tg R) X.xe s1) X.xe s


theorem go_of {M:Model} {A:Around} {E:Value→Shared→Prop} {s:Shared} {tg:Expr} {it:Addr} {u:Value} {o:Obj} {n:String} {vs:Array Value} {Q:Unit→Shared→Prop} (ho:s.heap.get? it=some o) (hc:o.cls=.type n) (hd:o.data=.fields vs)
    (hn:["enumerate","zip","dict_itemiterator","dict_reverseitemiterator","odict_iterator","itertools.zip_longest","itertools.pairwise"].contains n=false) (hQ:Q () s):wpAny M A (letOwnedTupleGo tg (.ref it) u) Q E s:=by
  unfold letOwnedTupleGo
  cases tg <;> first
    | exact wpAny_pure hQ
    | (cases u <;> first
        | exact wpAny_pure hQ
        | (refine wpAny_bind (wpAny_load ho ?_)
           rw [hc,hd]
           show wpAny M A (if (["enumerate","zip","dict_itemiterator","dict_reverseitemiterator","odict_iterator","itertools.zip_longest","itertools.pairwise"].contains n && vs[0]? == some (rawInt _))=true then _ else _) Q E s
           rw [if_neg (by intro h; rw [hn,Bool.false_and] at h; cases h)]
           exact wpAny_pure hQ))


def Itl (K:PySem.W.Frag) (a:Addr):It :=
  ⟨fun i H=>∃ xs x,SqL K H a xs∧xs[i]? = some x,fun i H x H'=>H'=H∧∀ xs,SqL K H a xs→xs[i]? = some x,fun i H=>∃ xs,SqL K H a xs∧xs.length≤i⟩
def Itt (K:PySem.W.Frag) (a:Addr):It :=
  ⟨fun i H=>∃ xs x,SqT K H a xs∧xs[i]? = some x,fun i H x H'=>H'=H∧∀ xs,SqT K H a xs→xs[i]? = some x,fun i H=>∃ xs,SqT K H a xs∧xs.length≤i⟩

def Itr (lo:Int) (n:Nat):It:=⟨fun i _=>i < n,fun i H x H'=>H'=H∧x=.int (lo + i),fun i _=>n≤i⟩
theorem turn_list {P:Program} {w:World} {K:PySem.W.Frag} {tg:Expr} (a it:Addr):Turn P w K tg (Itl K a) [it] it (fun i h=>h.IsListIter it a i) where
  mem:=by simp
  obj:=fun i h st b hb=>by
    have e:b=it:=by simpa using hb
    subst e
    obtain ⟨o,e,c,d⟩:=st
    exact ⟨o,e,fun v z=>by rw [d] at z; cases z⟩
  keep:=fun i h h' st k=>st.at fun o e=>k it (by simp) o e
  item:=by
    intro X hP hw hK hc i pins s σ H E I hf st hg
    subst hP hw hK
    obtain ⟨xs,x,hq,hx⟩:=hg
    obtain ⟨its,rv,p,hz⟩:=I.list hq
    obtain ⟨u,hu,ru⟩:=rv.get hx
    obtain ⟨f0,f1,f2,f3,f4,f5⟩:=hf it (by simp)
    refine wpAny_pyNext_list_item st p.isList (x:=u) (by simpa using hu) fun h' st' sb => ?_
    have I1:Inv X pins σ H { s with heap:=h' }:=I.turned (t':=s.toks) (fun b o hb e=>(sb.2 b hb).trans e) f0 f1 f3 f4 f5
    obtain ⟨o,e,c,d⟩:=id st'
    exact ⟨u,rfl,go_of (s:={ s with heap:=h' }) e c d (by decide) ⟨x,H,I1,ru,⟨rfl,fun ys hy=>by rw [I.list_inj hy hq]; exact hx⟩,st',fun b hb=>(hf b hb).1⟩⟩
  done:=by
    intro X hP hw hK hc i pins s σ H E I hf st hg
    subst hP hw hK
    obtain ⟨xs,hq,hx⟩:=hg
    obtain ⟨its,rv,p,hz⟩:=I.list hq
    obtain ⟨f0,f1,f2,f3,f4,f5⟩:=hf it (by simp)
    have hl:=rv.length
    exact wpAny_pyNext_list_end (I.ok.hd hc) st p.isList (by simp; omega) fun h' eb=>⟨rfl,I.turned (t':=s.toks) (fun b o hb e=>eb b o hb e) f0 f1 f3 f4 f5⟩
  self:=fun _ _ _ _ _ st h=>wpAny_pyIter_listiter st h
theorem turn_tuple {P:Program} {w:World} {K:PySem.W.Frag} {tg:Expr} (a it:Addr):Turn P w K tg (Itt K a) [it] it (fun i h=>h.IsTupleIter it a i) where
  mem:=by simp
  obj:=fun i h st b hb=>by
    have e:b=it:=by simpa using hb
    subst e
    obtain ⟨o,e,c,d⟩:=st
    exact ⟨o,e,fun v z=>by rw [d] at z; cases z⟩
  keep:=fun i h h' st k=>st.at fun o e=>k it (by simp) o e
  item:=by
    intro X hP hw hK hc i pins s σ H E I hf st hg
    subst hP hw hK
    obtain ⟨xs,x,hq,hx⟩:=hg
    obtain ⟨its,rv,p,hz⟩:=I.tuple hq
    obtain ⟨u,hu,ru⟩:=rv.get hx
    obtain ⟨f0,f1,f2,f3,f4,f5⟩:=hf it (by simp)
    refine wpAny_pyNext_tuple_item st (show s.heap.IsTuple a its.toArray from p) (x:=u) (by simpa using hu) fun h' st' sb => ?_
    have I1:Inv X pins σ H { s with heap:=h' }:=I.turned (t':=s.toks) (fun b o hb e=>(sb.2 b hb).trans e) f0 f1 f3 f4 f5
    obtain ⟨o,e,c,d⟩:=id st'
    exact ⟨u,rfl,go_of (s:={ s with heap:=h' }) e c d (by decide) ⟨x,H,I1,ru,⟨rfl,fun ys hy=>by rw [I.tuple_inj hy hq]; exact hx⟩,st',fun b hb=>(hf b hb).1⟩⟩
  done:=by
    intro X hP hw hK hc i pins s σ H E I hf st hg
    subst hP hw hK
    obtain ⟨xs,hq,hx⟩:=hg
    obtain ⟨its,rv,p,hz⟩:=I.tuple hq
    obtain ⟨f0,f1,f2,f3,f4,f5⟩:=hf it (by simp)
    have hl:=rv.length
    exact wpAny_pyNext_tuple_end (I.ok.hd hc) st (show s.heap.IsTuple a its.toArray from p) (by simp; omega) fun h' eb=>⟨rfl,I.turned (t':=s.toks) (fun b o hb e=>eb b o hb e) f0 f1 f3 f4 f5⟩
  self:=fun _ _ _ _ _ st h=>wpAny_pyIter_tupleiter st h
theorem turn_range {P:Program} {w:World} {K:PySem.W.Frag} {tg:Expr} (it:Addr) (lo:Int) (n:Nat):Turn P w K tg (Itr lo n) [it] it (fun i h=>IsRangeIter h it (lo + (i:Nat) * 1) ((n:Int) - (i:Nat)) 1) where
  mem:=by simp
  obj:=fun i h st b hb=>by
    have e:b=it:=by simpa using hb
    subst e
    exact ⟨_,st,fun v z=>by
      have z':Data.fields _=Data.cell v:=z
      cases z'⟩
  keep:=fun i h h' st k=>k it (by simp) _ st
  item:=by
    intro X hP hw hK hc i pins s σ H E I hf st hg
    subst hP hw hK
    obtain ⟨f0,f1,f2,f3,f4,f5⟩:=hf it (by simp)
    have W:=Walks.range (prog:=X.prog) (w:=X.w) (I.ok.hd hc) it lo 1 n
    refine W.item i s _ _ hg st fun v h' tk hv st' kk => ?_
    obtain ⟨t,rfl⟩:=hv
    have I1:Inv X pins σ H { s with heap:=h',toks:=tk }:=I.turned (fun b o hb e=>kk b o (by simpa using hb) e) f0 f1 f3 f4 f5
    refine ⟨_,rfl,go_of (s:={ s with heap:=h',toks:=tk }) (n := "range_iterator") st' rfl rfl (by decide) ⟨.int (lo + i),H,I1,⟨t,?_⟩,⟨rfl,rfl⟩,st',fun b hb=>(hf b hb).1⟩⟩
    rw [Int.mul_one]
  done:=by
    intro X hP hw hK hc i pins s σ H E I hf st hg
    subst hP hw hK
    obtain ⟨f0,f1,f2,f3,f4,f5⟩:=hf it (by simp)
    exact wpAny_pyNext_range_end (I.ok.hd hc) st (by have:n≤i:=hg; omega) fun h' eb=>⟨rfl,I.turned (t':=s.toks) (fun b o hb e=>eb b o hb e) f0 f1 f3 f4 f5⟩
  self:=fun _ _ _ _ _ st h=>wpAny_pyIter_rangeiter st h
end L2

namespace L2
open PySem PySem.Spec PyProof.Rows
section
variable {X:Cx} {tg:Expr}
def iList (K:PySem.W.Frag) (tl:TE):TI:=fun σ H R=>tl σ H fun x H1=>∃ a,x=.ref a∧(∃ xs,SqL K H1 a xs)∧R (Itl K a) H1
def iTup (K:PySem.W.Frag) (tl:TE):TI:=fun σ H R=>tl σ H fun x H1=>∃ a,x=.ref a∧(∃ xs,SqT K H1 a xs)∧R (Itt K a) H1
theorem pi_list {l:Expr} {tl:TE} (hl:PE X l tl):PI X tg l (iList X.K tl):=by
  intro pins s σ H R I h
  refine thn (hl pins s σ H _ I h) fun v s1 ⟨x,H1,I1,r1,q1⟩ => ?_
  obtain ⟨a,e,⟨xs,hq⟩,q⟩:=q1
  subst e
  cases r1
  obtain ⟨its,rv,p,hz⟩:=I1.list hq
  refine wpAny_pyIter_list p.isList ?_
  refine ⟨s1.heap.objs.size,[s1.heap.objs.size],_,_,H1,rfl,I1.kept (t':=s1.toks) fun b o e=>Heap.get?_push_of_some _ e,turn_list a _,⟨_,Heap.get?_push_size _ rfl,rfl,rfl⟩,fun b hb => ?_,q⟩
  have e:b=s1.heap.objs.size:=by simpa using hb
  subst e
  exact I1.fpOk (Nat.le_refl _) (I1.hok.fresh (Nat.le_refl _))
theorem pi_tup {l:Expr} {tl:TE} (hl:PE X l tl):PI X tg l (iTup X.K tl):=by
  intro pins s σ H R I h
  refine thn (hl pins s σ H _ I h) fun v s1 ⟨x,H1,I1,r1,q1⟩ => ?_
  obtain ⟨a,e,⟨xs,hq⟩,q⟩:=q1
  subst e
  cases r1
  obtain ⟨its,rv,p,hz⟩:=I1.tuple hq
  refine wpAny_pyIter_tuple (show s1.heap.IsTuple a its.toArray from p) ?_
  refine ⟨s1.heap.objs.size,[s1.heap.objs.size],_,_,H1,rfl,I1.kept (t':=s1.toks) fun b o e=>Heap.get?_push_of_some _ e,turn_tuple a _,⟨_,Heap.get?_push_size _ rfl,rfl,rfl⟩,fun b hb => ?_,q⟩
  have e:b=s1.heap.objs.size:=by simpa using hb
  subst e
  exact I1.fpOk (Nat.le_refl _) (I1.hok.fresh (Nat.le_refl _))

theorem range_it {pins:List (Addr × Obj)} {σ:St} {H:Hp} {s:Shared} {R:It→Hp→Prop} {E:Value→Shared→Prop} {lo hi:Int} {t u v:Tok} {tk:Nat} (I:Inv X pins σ H s) (h1:-(2 ^ 62)≤lo) (h2:lo < 2 ^ 62) (h3:-(2 ^ 62)≤hi) (h4:hi < 2 ^ 62)
    (q:R (Itr lo (hi - lo).toNat) H):wpAny (model X.prog X.w) X.A (pyIter (.ref s.heap.objs.size)) (PIE X pins σ tg R) E { s with heap:=s.heap.push { cls:=.type "range",data:=.fields #[.int lo t,.int hi u,.int 1 v] },toks:=tk }:=by
  refine wpAny_pyIter_range (IsRange.new ..) (small_one h1 h2 h3 h4) ?_
  have I1:Inv X pins σ H { s with heap:=s.heap.push { cls:=.type "range",data:=.fields #[.int lo t,.int hi u,.int 1 v] },toks:=tk }:=I.kept fun b o e=>Heap.get?_push_of_some _ e
  refine ⟨(s.heap.push { cls:=.type "range",data:=.fields #[.int lo t,.int hi u,.int 1 v] }).objs.size,[(s.heap.push { cls:=.type "range",data:=.fields #[.int lo t,.int hi u,.int 1 v] }).objs.size],_,_,H,rfl,
    I1.kept (t':=tk) fun b o e=>Heap.get?_push_of_some _ e,turn_range _ lo (hi - lo).toNat,?_,fun b hb => ?_,q⟩
  · have e1:lo + ((0:Nat):Int) * 1=lo:=by simp
    have e2:(((hi - lo).toNat:Nat):Int) - ((0:Nat):Int)=Builtin.Range.rangeSize lo hi 1:=by rw [rangeSize_one]; split <;> omega
    show IsRangeIter _ _ (lo + ((0:Nat):Int) * 1) ((((hi - lo).toNat:Nat):Int) - ((0:Nat):Int)) 1
    rw [e1,e2]
    exact Heap.get?_push_size _ rfl
  · have e:b=(s.heap.push { cls:=.type "range",data:=.fields #[.int lo t,.int hi u,.int 1 v] }).objs.size:=by simpa using hb
    subst e
    exact I1.fpOk (Nat.le_refl _) (I1.hok.fresh (Nat.le_refl _))
def iRng1 (ta:TA):TI:=fun σ H R=>ta σ H fun vs H1=>∃ j:Int,vs=[.int j]∧-(2 ^ 62)≤j∧j < 2 ^ 62∧R (Itr 0 j.toNat) H1
theorem pi_range1 {a:Expr} {ta:TA} {p pos:Pos} (hg:Gl X "range") (hm:X.mg "range" = none) (ha:PA X [a] ta) (hs:starEach [a] X.env=[(false,eval a X.env)]:=by rfl):PI X tg (.Call (.Name "range" p) [a] [] pos) (iRng1 ta):=by
  intro pins s σ H R I h
  refine Call_ (ld_blt I hg hm boot_range (PyProof.Rows.callWith_type1 (thn (ha pos pins s σ H _ I h) fun us s1 ⟨vs,H1,I1,r1,q1⟩ => ?_) hs rfl))
  obtain ⟨j,e,q1,q2,q⟩:=q1
  subst e
  cases r1 with
  | cons r rr =>
    cases rr
    obtain ⟨t,rfl⟩:=r
    exact call_range_1 (range_it I1 (by omega) (by omega) q1 q2 (by simpa using q))
def tFor (wi:TI) (g:TG) (tb:TS):TS:=fun D σ H=>wi σ H fun J H1=>∃ W:Nat→Nat→St→Hp→Prop,(∃ m,W 0 m σ H1)∧∀ i m σ H,W i m σ H →
  (J.stop i H∧D.nx σ H)∨(J.go i H∧∃ N:St→Hp→Prop,(∀ σ' H',N σ' H'→∃ m',m' < m∧W (i + 1) m' σ' H')∧∀ x H',J.yld i H x H'→g x σ H' fun σ2 H2=>tb { D with nx:=N,ct:=N,bk:=D.nx } σ2 H2)

def pinsAt (fp:List Addr) (h:Heap):List (Addr × Obj):=fp.filterMap fun b=>(h.get? b).map fun o=>(b,o)
theorem mem_pinsAt {fp:List Addr} {h:Heap} {b:Addr} {o:Obj} (hb:b∈fp) (e:h.get? b=some o):(b,o)∈pinsAt fp h:=List.mem_filterMap.mpr ⟨b,hb,by rw [e]; rfl⟩
theorem of_pinsAt {fp:List Addr} {h:Heap} {p:Addr × Obj} (hp:p∈pinsAt fp h):p.1∈fp∧h.get? p.1=some p.2:=by
  obtain ⟨b,hb,e⟩:=List.mem_filterMap.mp hp
  cases q:h.get? b with
  | none=>rw [q] at e; cases e
  | some o =>
    rw [q] at e
    have e':(b,o)=p:=Option.some.inj e
    subst e'
    exact ⟨hb,q⟩
theorem Inv.pinned {pins:List (Addr × Obj)} {σ:St} {H:Hp} {s:Shared} {fp:List Addr} (I:Inv X pins σ H s) (hf:∀ b∈fp,FpOk X pins H b) (ho:∀ b∈fp,∃ o,s.heap.get? b=some o∧∀ v,o.data≠.cell v):Inv X (pins++pinsAt fp s.heap) σ H s :=
  I.pins_of fun p hp=>(List.mem_append.mp hp).elim (fun z=>I.pin p (List.mem_append_right _ z)) fun z=>by
    obtain ⟨hb,e⟩:=of_pinsAt z
    obtain ⟨f0,f1,f2,_⟩:=hf p.1 hb
    obtain ⟨o,e',d⟩:=ho p.1 hb
    rw [e] at e'; cases e'
    exact ⟨e,f0,f1,f2,d⟩
theorem Inv.unpinned {pins pl:List (Addr × Obj)} {σ:St} {H:Hp} {s:Shared} (I:Inv X (pins++pl) σ H s):Inv X pins σ H s:=I.pins_of fun p hp=>I.pin p (List.mem_append_right _ (List.mem_append_left _ hp))
theorem ps_for {iter:Expr} {body:List Stmt} {wi:TI} {g:TG} {tb:TS} {pos:Pos} (hp:PassesOwn (model X.prog X.w) X.A X.env X.xe) (hc:X.calm=true) (hi:PI X tg iter wi) (hg:PG X tg g) (hb:PSs X body tb)
    (hs:∀ x,foldedSetIterable iter X.env x=pure x:=by intro _; rfl):PS X (.For tg iter body [] pos) (tFor wi g tb):=by
  intro pins s σ H D I h
  refine wpAny_For (thn (hi pins s σ H _ I h) fun v s1 h1=>thn h1 fun itv s2 h2 => ?_) hs
  obtain ⟨it,fp,tn,J,H2,e,I2,T,st2,f2,W,⟨m0,w0⟩,turn⟩:=h2
  subst e
  -- what stays true of the iterator's objects through the loop
  have stat:∀ {H':Hp},(∀ b∈fp,H' b=none)→∀ b∈fp,FpOk X pins H' b:=fun hn b hb=>⟨hn b hb,(f2 b hb).2⟩
  refine codeAny_forLoop_any (fun n s'=>∃ i σ' H',Inv X pins σ' H' s'∧tn i s'.heap∧(∀ b∈fp,H' b=none)∧W i n σ' H') ?_ m0 ⟨0,σ,H2,I2,st2,fun b hb=>(f2 b hb).1,w0⟩
  rintro n s3 ⟨i,σ3,H3,I3,st3,fr3,w3⟩
  rcases turn i n σ3 H3 w3 with ⟨stop,qn⟩ | ⟨go,N,hN,step⟩
  · refine wpAny_passesOwn hp (thn (T.done X rfl rfl rfl hc i pins s3 σ3 H3 X.xe I3 (stat fr3) st3 stop) fun r s4 ⟨hr,I4⟩ => ?_)
    subst hr
    exact wpAny_execs_nil ⟨σ3,H3,I4,qn⟩
  · refine wpAny_passesOwn hp (thn (T.item X rfl rfl rfl hc i pins s3 σ3 H3 X.xe I3 (stat fr3) st3 go) fun r s4 ⟨u,hr,h4⟩ => ?_)
    subst hr
    refine wpAny_passesOwn hp (thn h4 fun _ s5 ⟨x,H5,I5,r5,y5,st5,fr5⟩ => ?_)
    have I5':=I5.pinned (stat fr5) (T.obj _ _ st5)
    refine wpAny_passesOwn hp (thn (hg _ s5 σ3 H5 x u _ I5' r5 (step x H5 y5)) fun _ s6 ⟨σ6,H6,I6,q6⟩ => ?_)
    refine wpAny_passesOwn hp (thn (hb _ s6 σ6 H6 _ I6 q6) fun f s7 q7 => ?_)
    have again:∀ {σ7:St} {H7:Hp},Inv X (pins++pinsAt fp s5.heap) σ7 H7 s7→N σ7 H7→∃ m,m < n∧∃ i σ' H',Inv X pins σ' H' s7∧tn i s7.heap∧(∀ b∈fp,H' b=none)∧W i m σ' H':=fun {σ7 H7} I7 n7=>by
      obtain ⟨m',hm,w7⟩:=hN σ7 H7 n7
      refine ⟨m',hm,i + 1,σ7,H7,I7.unpinned,T.keep _ _ _ st5 fun b hb o e=>(I7.pin (b,o) (List.mem_append_right _ (List.mem_append_right _ (mem_pinsAt hb e)))).1,fun b hb => ?_,w7⟩
      obtain ⟨o,e,d⟩:=T.obj _ _ st5 b hb
      exact (I7.pin (b,o) (List.mem_append_right _ (List.mem_append_right _ (mem_pinsAt hb e)))).2.1
    cases f with
    | next=>obtain ⟨σ7,H7,I7,n7⟩:=q7; exact again I7 n7
    | cont=>obtain ⟨σ7,H7,I7,n7⟩:=q7; exact again I7 n7
    | brk=>obtain ⟨σ7,H7,I7,q7⟩:=q7; exact ⟨σ7,H7,I7.unpinned,q7⟩
    | ret v=>obtain ⟨x7,σ7,H7,I7,r7,q7⟩:=q7; exact ⟨x7,σ7,H7,I7.unpinned,r7,q7⟩
end



theorem for_list {K:PySem.W.Frag} {a:Addr} {xs:List V} {g:TG} {tb:TS} {D:Ends} {σ:St} {H:Hp} (Pv:Nat→St→Hp→Prop) (h0:Pv 0 σ H) (hl:∀ i σ H,i≤xs.length→Pv i σ H→SqL K H a xs)
    (hs:∀ i x σ H,xs[i]? = some x→Pv i σ H→g x σ H fun σ2 H2=>tb { D with nx:=Pv (i + 1),ct:=Pv (i + 1),bk:=D.nx } σ2 H2) (hd:∀ σ H,Pv xs.length σ H→D.nx σ H) :
    ∃ W:Nat→Nat→St→Hp→Prop,(∃ m,W 0 m σ H)∧∀ i m σ H,W i m σ H →
      ((Itl K a).stop i H∧D.nx σ H)∨((Itl K a).go i H∧∃ N:St→Hp→Prop,(∀ σ' H',N σ' H'→∃ m',m' < m∧W (i + 1) m' σ' H')∧∀ x H',(Itl K a).yld i H x H'→g x σ H' fun σ2 H2=>tb { D with nx:=N,ct:=N,bk:=D.nx } σ2 H2):=by
  refine ⟨fun i m σ H=>m=xs.length - i∧i≤xs.length∧Pv i σ H,⟨xs.length,by simp,Nat.zero_le _,h0⟩,?_⟩
  rintro i m σ H ⟨rfl,hi,p⟩
  have q:=hl i σ H hi p
  by_cases hlt:i < xs.length
  · refine .inr ⟨⟨xs,xs[i],q,by simp [hlt]⟩,Pv (i + 1),fun σ' H' p'=>⟨xs.length - (i + 1),by omega,rfl,hlt,p'⟩,fun x H' y => ?_⟩
    obtain ⟨e,y⟩:=y
    subst e
    exact hs i x σ _ (y xs q) p
  · have e:i=xs.length:=by omega
    subst e
    exact .inl ⟨⟨xs,q,Nat.le_refl _⟩,hd σ H p⟩
theorem for_tup {K:PySem.W.Frag} {a:Addr} {xs:List V} {g:TG} {tb:TS} {D:Ends} {σ:St} {H:Hp} (Pv:Nat→St→Hp→Prop) (h0:Pv 0 σ H) (hl:∀ i σ H,i≤xs.length→Pv i σ H→SqT K H a xs)
    (hs:∀ i x σ H,xs[i]? = some x→Pv i σ H→g x σ H fun σ2 H2=>tb { D with nx:=Pv (i + 1),ct:=Pv (i + 1),bk:=D.nx } σ2 H2) (hd:∀ σ H,Pv xs.length σ H→D.nx σ H) :
    ∃ W:Nat→Nat→St→Hp→Prop,(∃ m,W 0 m σ H)∧∀ i m σ H,W i m σ H →
      ((Itt K a).stop i H∧D.nx σ H)∨((Itt K a).go i H∧∃ N:St→Hp→Prop,(∀ σ' H',N σ' H'→∃ m',m' < m∧W (i + 1) m' σ' H')∧∀ x H',(Itt K a).yld i H x H'→g x σ H' fun σ2 H2=>tb { D with nx:=N,ct:=N,bk:=D.nx } σ2 H2):=by
  refine ⟨fun i m σ H=>m=xs.length - i∧i≤xs.length∧Pv i σ H,⟨xs.length,by simp,Nat.zero_le _,h0⟩,?_⟩
  rintro i m σ H ⟨rfl,hi,p⟩
  have q:=hl i σ H hi p
  by_cases hlt:i < xs.length
  · refine .inr ⟨⟨xs,xs[i],q,by simp [hlt]⟩,Pv (i + 1),fun σ' H' p'=>⟨xs.length - (i + 1),by omega,rfl,hlt,p'⟩,fun x H' y => ?_⟩
    obtain ⟨e,y⟩:=y
    subst e
    exact hs i x σ _ (y xs q) p
  · have e:i=xs.length:=by omega
    subst e
    exact .inl ⟨⟨xs,q,Nat.le_refl _⟩,hd σ H p⟩
theorem for_range {lo:Int} {n:Nat} {g:TG} {tb:TS} {D:Ends} {σ:St} {H:Hp} (Pv:Nat→St→Hp→Prop) (h0:Pv 0 σ H)
    (hs:∀ i σ H,i < n→Pv i σ H→g (.int (lo + i)) σ H fun σ2 H2=>tb { D with nx:=Pv (i + 1),ct:=Pv (i + 1),bk:=D.nx } σ2 H2) (hd:∀ σ H,Pv n σ H→D.nx σ H) :
    ∃ W:Nat→Nat→St→Hp→Prop,(∃ m,W 0 m σ H)∧∀ i m σ H,W i m σ H →
      ((Itr lo n).stop i H∧D.nx σ H)∨((Itr lo n).go i H∧∃ N:St→Hp→Prop,(∀ σ' H',N σ' H'→∃ m',m' < m∧W (i + 1) m' σ' H')∧∀ x H',(Itr lo n).yld i H x H'→g x σ H' fun σ2 H2=>tb { D with nx:=N,ct:=N,bk:=D.nx } σ2 H2):=by
  refine ⟨fun i m σ H=>m=n - i∧i≤n∧Pv i σ H,⟨n,by simp,Nat.zero_le _,h0⟩,?_⟩
  rintro i m σ H ⟨rfl,hi,p⟩
  by_cases hlt:i < n
  · refine .inr ⟨hlt,Pv (i + 1),fun σ' H' p'=>⟨n - (i + 1),by omega,rfl,hlt,p'⟩,fun x H' y => ?_⟩
    obtain ⟨e,y⟩:=y
    subst e y
    exact hs i σ _ hlt p
  · have e:i=n:=by omega
    subst e
    exact .inl ⟨Nat.le_refl _,hd σ H p⟩

end L2

namespace L2
open PySem PySem.Spec PyProof.Rows

abbrev R2:=V→V→Hp→VK→Prop

def OpR (X:Cx) (f:Value→Value→Sem Value) (r:R2):Prop :=
  ∀ (pins:List (Addr × Obj)) (s:Shared) (σ:St) (H:Hp) (x y:V) (v u:Value) (Q:VK),Inv X pins σ H s→RelV x v→RelV y u→r x y H Q →
    wpAny (model X.prog X.w) X.A (f v u) (EP X pins σ Q) X.xe s

def UnR (X:Cx) (f:Value→Sem Value) (r:V→Hp→VK→Prop):Prop :=
  ∀ (pins:List (Addr × Obj)) (s:Shared) (σ:St) (H:Hp) (x:V) (v:Value) (Q:VK),Inv X pins σ H s→RelV x v→r x H Q →
    wpAny (model X.prog X.w) X.A (f v) (EP X pins σ Q) X.xe s

def CallR (X:Cx) (f:Value) (r:List V→Hp→VK→Prop):Prop :=
  ∀ (pins:List (Addr × Obj)) (s:Shared) (σ:St) (H:Hp) (xs:List V) (us:List Value) (Q:VK),Inv X pins σ H s→Vals xs us→r xs H Q →
    wpAny (model X.prog X.w) X.A (call f us) (EP X pins σ Q) X.xe s

def tOp (r:R2) (ta tb:TE):TE:=fun σ H Q=>ta σ H fun x H1=>tb σ H1 fun y H2=>r x y H2 Q
def tUn (r:V→Hp→VK→Prop) (ta:TE):TE:=fun σ H Q=>ta σ H fun x H1=>r x H1 Q

def rI (C:Int→Int→Prop) (g:Int→Int→V):R2:=fun x y H Q=>∃ i j,x=.int i∧y=.int j∧C i j∧Q (g i j) H
def rI0 (g:Int→Int→V):R2:=fun x y H Q=>∃ i j,x=.int i∧y=.int j∧Q (g i j) H
def rU (g:Int→V):V→Hp→VK→Prop:=fun x H Q=>∃ i,x=.int i∧Q (g i) H

section
variable {X:Cx} {a b c:Expr} {ta tb tc:TE} {pos:Pos}

theorem binT (ha:PE X a ta) (hb:PE X b tb) {pins:List (Addr × Obj)} {s:Shared} {σ:St} {H:Hp} {R:V→V→Hp→Prop} (I:Inv X pins σ H s)
    (h:ta σ H fun x H1=>tb σ H1 fun y H2=>R x y H2) {Q:Value→Shared→Prop} {f:Value→Value→Sem Value}
    (hf:∀ v u s2 x y H2,Inv X pins σ H2 s2→RelV x v→RelV y u→R x y H2→wpAny (model X.prog X.w) X.A (f v u) Q X.xe s2) :
    wpAny (model X.prog X.w) X.A (eval a X.env) (fun v s₁=>wpAny (model X.prog X.w) X.A (eval b X.env) (fun u s₂=>wpAny (model X.prog X.w) X.A (f v u) Q X.xe s₂) X.xe s₁) X.xe s:=by
  refine thn (ha pins s σ H _ I h) fun v s1 ⟨x,H1,I1,r1,q1⟩ => ?_
  refine thn (hb pins s1 σ H1 _ I1 q1) fun u s2 ⟨y,H2,I2,r2,q2⟩ => ?_
  exact hf v u s2 x y H2 I2 r1 r2 q2

theorem pe_op {op:Operator} {r:R2} (ho:OpR X (binaryOp op) r) (ha:PE X a ta) (hb:PE X b tb):PE X (.BinOp a op b pos) (tOp r ta tb):=by
  intro pins s σ H Q I h
  exact wpAny_BinOp (binT ha hb I h fun v u s2 x y H2 I2 rx ry q=>ho pins s2 σ H2 x y v u Q I2 rx ry q)
theorem pe_un {op:UnaryOp} {r:V→Hp→VK→Prop} (ho:UnR X (unaryOp op) r) (ha:PE X a ta):PE X (.UnaryOp op a pos) (tUn r ta):=by
  intro pins s σ H Q I h
  exact UnaryOp_ (thn (ha pins s σ H _ I h) fun v s1 ⟨x,H1,I1,r1,q1⟩=>ho pins s1 σ H1 x v Q I1 r1 q1)

theorem opI {f:Value→Value→Sem Value} {C:Int→Int→Prop} {g:Int→Int→Int}
    (rule:∀ (i j:Int) (t u:Tok) (s:Shared) (Q:Value→Shared→Prop) (E:Value→Shared→Prop),C i j→Q (.int (g i j) s.toks) { s with toks:=s.toks + 1 }→wpAny (model X.prog X.w) X.A (f (.int i t) (.int j u)) Q E s) :
    OpR X f (rI C fun i j=>.int (g i j)):=by
  intro pins s σ H x y v u Q I rx ry h
  obtain ⟨i,j,rfl,rfl,hc,q⟩:=h
  obtain ⟨t,rfl⟩:=rx
  obtain ⟨t',rfl⟩:=ry
  exact rule i j t t' s _ _ hc ⟨.int (g i j),H,I.tok _,⟨_,rfl⟩,q⟩
theorem opI0 {f:Value→Value→Sem Value} {g:Int→Int→Int}
    (rule:∀ (i j:Int) (t u:Tok) (s:Shared) (Q:Value→Shared→Prop) (E:Value→Shared→Prop),Q (.int (g i j) s.toks) { s with toks:=s.toks + 1 }→wpAny (model X.prog X.w) X.A (f (.int i t) (.int j u)) Q E s) :
    OpR X f (rI0 fun i j=>.int (g i j)):=by
  intro pins s σ H x y v u Q I rx ry h
  obtain ⟨i,j,rfl,rfl,q⟩:=h
  obtain ⟨t,rfl⟩:=rx
  obtain ⟨t',rfl⟩:=ry
  exact rule i j t t' s _ _ ⟨.int (g i j),H,I.tok _,⟨_,rfl⟩,q⟩
theorem opB0 {f:Value→Value→Sem Value} {g:Int→Int→Bool}
    (rule:∀ (i j:Int) (t u:Tok) (s:Shared) (Q:Value→Shared→Prop) (E:Value→Shared→Prop),Q (.bool (g i j)) s→wpAny (model X.prog X.w) X.A (f (.int i t) (.int j u)) Q E s) :
    OpR X f (rI0 fun i j=>.bl (g i j)):=by
  intro pins s σ H x y v u Q I rx ry h
  obtain ⟨i,j,rfl,rfl,q⟩:=h
  obtain ⟨t,rfl⟩:=rx
  obtain ⟨t',rfl⟩:=ry
  exact rule i j t t' s _ _ ⟨.bl (g i j),H,I,rfl,q⟩

def CPow (i j:Int):Prop:=0≤j∧j≤1000000∧i.natAbs < 2 ^ 64
def CMul (i j:Int):Prop:=(-(2 ^ 64) < i∧i < 2 ^ 64)∨(-(2 ^ 64) < j∧j < 2 ^ 64)
theorem CMul.ok {i j:Int} (h:CMul i j):IntMulOk i j:=by
  rcases h with ⟨h1,h2⟩ | ⟨h1,h2⟩
  · exact .of_left (intBits_le_64 h1 h2)
  · exact .of_right (intBits_le_64 h1 h2)
theorem op_add:OpR X (binaryOp .Add) (rI0 fun i j=>.int (i + j)):=opI0 fun _ _ _ _ _ _ _ q=>add_int q
theorem op_sub:OpR X (binaryOp .Sub) (rI0 fun i j=>.int (i - j)):=opI0 fun _ _ _ _ _ _ _ q=>sub_int q
theorem op_mul:OpR X (binaryOp .Mult) (rI CMul fun i j=>.int (i * j)):=opI fun _ _ _ _ _ _ _ hc q=>mul_int q hc.ok

theorem op_mod:OpR X (binaryOp .Mod) (rI (fun _ j=>0 < j) fun i j=>.int (i % j)):=opI fun i j _ _ _ _ _ hc q=>by
  have h1:(0:Int) < j:=hc
  exact mod_int' (by omega) (by rw [Int.fmod_eq_emod_of_nonneg i (by omega)]; exact q)
theorem op_pow:OpR X (binaryOp .Pow) (rI CPow fun i j=>.int (i ^ j.toNat)):=opI fun _ _ _ _ _ _ _ hc q=>pow_int_small hc.1 hc.2.1 hc.2.2 q
theorem op_shl:OpR X (binaryOp .LShift) (rI CPow fun i j=>.int (i * 2 ^ j.toNat)):=opI fun _ _ _ _ _ _ _ hc q=>lshift_int_small hc.1 hc.2.1 hc.2.2 q
theorem unI {f:Value→Sem Value} {g:Int→Int}
    (rule:∀ (i:Int) (t:Tok) (s:Shared) (Q:Value→Shared→Prop) (E:Value→Shared→Prop),Q (.int (g i) s.toks) { s with toks:=s.toks + 1 }→wpAny (model X.prog X.w) X.A (f (.int i t)) Q E s) :
    UnR X f (rU fun i=>.int (g i)):=by
  intro pins s σ H x v Q I rx h
  obtain ⟨i,rfl,q⟩:=h
  obtain ⟨t,rfl⟩:=rx
  exact rule i t s _ _ ⟨.int (g i),H,I.tok _,⟨_,rfl⟩,q⟩
theorem un_neg:UnR X (unaryOp .USub) (rU fun i=>.int (-i)):=unI fun _ _ _ _ _ q=>neg_int q
end



def scal:V→V→Bool
  | .non,.non=>true | .non,.int _=>true | .int _,.non=>true | .non,.bl _=>true | .bl _,.non=>true | .non,.str _=>true | .str _,.non=>true
  | .int _,.int _=>true | .bl _,.bl _=>true | .str _,.str _=>true | .byt _,.byt _=>true
  | .int _,.str _=>true | .str _,.int _=>true | .bl _,.str _=>true | .str _,.bl _=>true
  | _,_=>false
def rEq:R2:=fun x y H Q=>scal x y=true∧Q (.bl (decide (x=y))) H
def rNe:R2:=fun x y H Q=>scal x y=true∧Q (.bl (!decide (x=y))) H

theorem dec_int {i j:Int}:decide (V.int i=V.int j)=(i == j):=by
  rw [Bool.eq_iff_iff]
  simp
theorem dec_bl {i j:Bool}:decide (V.bl i=V.bl j)=(i == j):=by
  rw [Bool.eq_iff_iff]
  simp
theorem dec_str {i j:Str}:decide (V.str i=V.str j)=(i == j):=by
  rw [Bool.eq_iff_iff]
  simp
theorem dec_byt {i j:Array UInt8}:decide (V.byt i=V.byt j)=(i.toList == j.toList):=by
  rw [Bool.eq_iff_iff]
  cases i
  cases j
  simp

section
variable {X:Cx} {a b c:Expr} {ta tb tc:TE} {pos:Pos}
theorem fin_bl {pins:List (Addr × Obj)} {σ:St} {H:Hp} {s:Shared} {Q:VK} {k k':Bool} (I:Inv X pins σ H s) (q:Q (.bl k) H) (e:k=k'):EP X pins σ Q (.bool k') s:=by
  subst e
  exact ⟨.bl k,H,I,rfl,q⟩
theorem op_eq:OpR X (compareOp .Eq) rEq:=by
  intro pins s σ H x y v u Q I rx ry h
  obtain ⟨hs,q⟩:=h
  cases x with
  | non =>
    cases rx
    cases y with
    | non=>cases ry; exact PySem.EqNone.eq_none_none (fin_bl I q (by simp))
    | bl j=>cases ry; exact PySem.EqNone.eq_none_bool (fin_bl I q (by simp))
    | int j=>obtain ⟨t',rfl⟩:=ry; exact PySem.EqNone.eq_none_int (fin_bl I q (by simp))
    | str j=>obtain ⟨t',rfl⟩:=ry; exact PySem.EqNone.eq_none_str (fin_bl I q (by simp))
    | _=>exact absurd (show false=true from hs) Bool.false_ne_true
  | bl i =>
    cases rx
    cases y with
    | non=>cases ry; exact PySem.EqNone.eq_bool_none (fin_bl I q (by simp))
    | bl j=>cases ry; exact eq_bool (fin_bl I q dec_bl)
    | str j=>obtain ⟨t',rfl⟩:=ry; exact PySem.EqMixed.eq_bool_str (fin_bl I q (by simp))
    | _=>exact absurd (show false=true from hs) Bool.false_ne_true
  | int i =>
    obtain ⟨t,rfl⟩:=rx
    cases y with
    | non=>cases ry; exact PySem.EqNone.eq_int_none (fin_bl I q (by simp))
    | int j=>obtain ⟨t',rfl⟩:=ry; exact eq_int (fin_bl I q dec_int)
    | str j=>obtain ⟨t',rfl⟩:=ry; exact PySem.EqMixed.eq_int_str (fin_bl I q (by simp))
    | _=>exact absurd (show false=true from hs) Bool.false_ne_true
  | str i =>
    obtain ⟨t,rfl⟩:=rx
    cases y with
    | non=>cases ry; exact PySem.EqNone.eq_str_none (fin_bl I q (by simp))
    | bl j=>cases ry; exact PySem.EqMixed.eq_str_bool (fin_bl I q (by simp))
    | int j=>obtain ⟨t',rfl⟩:=ry; exact PySem.EqMixed.eq_str_int (fin_bl I q (by simp))
    | str j=>obtain ⟨t',rfl⟩:=ry; exact eq_str (fin_bl I q dec_str)
    | _=>exact absurd (show false=true from hs) Bool.false_ne_true
  | byt i =>
    obtain ⟨t,rfl⟩:=rx
    cases y with
    | byt j=>obtain ⟨t',rfl⟩:=ry; exact PySem.W.eq_bytes (fin_bl I q dec_byt)
    | _=>exact absurd (show false=true from hs) Bool.false_ne_true
  | _=>cases y <;> exact absurd (show false=true from hs) Bool.false_ne_true
theorem op_ne:OpR X (compareOp .NotEq) rNe:=by
  intro pins s σ H x y v u Q I rx ry h
  obtain ⟨hs,q⟩:=h
  cases x with
  | non =>
    cases rx
    cases y with
    | non=>cases ry; exact PySem.EqNone.ne_none_none (fin_bl I q (by simp))
    | bl j=>cases ry; exact PySem.EqNone.ne_none_bool (fin_bl I q (by simp))
    | int j=>obtain ⟨t',rfl⟩:=ry; exact PySem.EqNone.ne_none_int (fin_bl I q (by simp))
    | str j=>obtain ⟨t',rfl⟩:=ry; exact PySem.EqNone.ne_none_str (fin_bl I q (by simp))
    | _=>exact absurd (show false=true from hs) Bool.false_ne_true
  | bl i =>
    cases rx
    cases y with
    | non=>cases ry; exact PySem.EqNone.ne_bool_none (fin_bl I q (by simp))
    | bl j=>cases ry; exact ne_bool (fin_bl I q (congrArg not dec_bl))
    | str j=>obtain ⟨t',rfl⟩:=ry; exact PySem.EqMixed.ne_bool_str (fin_bl I q (by simp))
    | _=>exact absurd (show false=true from hs) Bool.false_ne_true
  | int i =>
    obtain ⟨t,rfl⟩:=rx
    cases y with
    | non=>cases ry; exact PySem.EqNone.ne_int_none (fin_bl I q (by simp))
    | int j=>obtain ⟨t',rfl⟩:=ry; exact ne_int (fin_bl I q (congrArg not dec_int))
    | str j=>obtain ⟨t',rfl⟩:=ry; exact PySem.EqMixed.ne_int_str (fin_bl I q (by simp))
    | _=>exact absurd (show false=true from hs) Bool.false_ne_true
  | str i =>
    obtain ⟨t,rfl⟩:=rx
    cases y with
    | non=>cases ry; exact PySem.EqNone.ne_str_none (fin_bl I q (by simp))
    | bl j=>cases ry; exact PySem.EqMixed.ne_str_bool (fin_bl I q (by simp))
    | int j=>obtain ⟨t',rfl⟩:=ry; exact PySem.EqMixed.ne_str_int (fin_bl I q (by simp))
    | str j=>obtain ⟨t',rfl⟩:=ry; exact ne_str (fin_bl I q (congrArg not dec_str))
    | _=>exact absurd (show false=true from hs) Bool.false_ne_true
  | byt i =>
    obtain ⟨t,rfl⟩:=rx
    cases y with
    | byt j=>obtain ⟨t',rfl⟩:=ry; exact PySem.W.ne_bytes (fin_bl I q (congrArg not dec_byt))
    | _=>exact absurd (show false=true from hs) Bool.false_ne_true
  | _=>cases y <;> exact absurd (show false=true from hs) Bool.false_ne_true

theorem op_lt:OpR X (compareOp .Lt) (rI0 fun i j=>.bl (decide (i < j))):=opB0 fun _ _ _ _ _ _ _ q=>lt_int q
theorem op_le:OpR X (compareOp .LtE) (rI0 fun i j=>.bl (decide (i≤j))):=opB0 fun _ _ _ _ _ _ _ q=>le_int q
theorem op_gt:OpR X (compareOp .Gt) (rI0 fun i j=>.bl (decide (j < i))):=opB0 fun _ _ _ _ _ _ _ q=>gt_int q
theorem nomark (b:Expr) {op:CmpOp} (h:op≠.In:=by decide) (h2:op≠.NotIn:=by decide):behindInMarks op b=false:=by
  have e1:(op == CmpOp.In)=false:=by cases op <;> first | rfl | exact absurd rfl h
  have e2:(op == CmpOp.NotIn)=false:=by cases op <;> first | rfl | exact absurd rfl h2
  cases b <;> simp [behindInMarks,e1,e2]

theorem pe_cmpR {op:CmpOp} {r:R2} (ho:OpR X (compareOp op) r) (ha:PE X a ta) (hb:PE X b tb) (hm:behindInMarks op b=false):PE X (.Compare a [op] [b] pos) (tOp r ta tb):=by
  intro pins s σ H Q I h
  exact wpAny_Compare1 (binT ha hb I h fun v u s2 x y H2 I2 rx ry q=>ho pins s2 σ H2 x y v u Q I2 rx ry q) hm

def tTest (t:TE):TT:=fun σ H Q=>t σ H fun x H'=>∃ k,x=.bl k∧Q k H'
theorem pt_cmpR {op:CmpOp} {r:R2} (ho:OpR X (compareOp op) r) (ha:PE X a ta) (hb:PE X b tb) (hm:behindInMarks op b=false):PT X (.Compare a [op] [b] pos) (tTest (tOp r ta tb)):=by
  intro pins s σ H Q I h
  refine wpAny_isTrue_Compare1 (thn (ha pins s σ H _ I h) fun v s1 ⟨x,H1,I1,r1,q1⟩=>thn (hb pins s1 σ H1 _ I1 q1) fun u s2 ⟨y,H2,I2,r2,q2⟩ =>
    thn (ho pins s2 σ H2 x y v u _ I2 r1 r2 q2) fun c s3 ⟨z,H3,I3,r3,k,e,q3⟩ => ?_) hm
  subst e
  cases r3
  exact wpAny_truthy_bool ⟨H3,I3,q3⟩

def tChain (r r':R2) (ta tb tc:TE):TE:=fun σ H Q=>ta σ H fun x H1=>tb σ H1 fun y H2=>r x y H2 fun z H3=>∃ k,z=.bl k ∧
  (if k=true then tc σ H3 fun w' H4=>r' y w' H4 Q else Q (.bl false) H3)
theorem pt_chain {op op':CmpOp} {r r':R2} (ho:OpR X (compareOp op) r) (ho':OpR X (compareOp op') r') (ha:PE X a ta) (hb:PE X b tb) (hc:PE X c tc)
    (hm:lastMarks [op,op'] [b,c]=false:=by with_unfolding_all rfl):PT X (.Compare a [op,op'] [b,c] pos) (tTest (tChain r r' ta tb tc)):=by
  intro pins s σ H Q I h
  refine isTrue_chain (thn (ha pins s σ H _ I h) fun v s1 ⟨x,H1,I1,r1,q1⟩=>test_link (thn (hb pins s1 σ H1 _ I1 q1) fun u s2 ⟨y,H2,I2,r2,q2⟩ =>
    thn (ho pins s2 σ H2 x y v u _ I2 r1 r2 q2) fun d s3 ⟨z,H3,I3,r3,k,e,q3⟩ => ?_)) hm
  subst e
  cases r3
  refine wpAny_truthy_bool ?_
  cases k with
  | false =>
    obtain ⟨k',e',q'⟩:=q3
    cases e'
    exact ite_ff ⟨H3,I3,q'⟩
  | true =>
    refine ite_tt (test_last (thn (hc pins s3 σ H3 _ I3 q3) fun w' s4 ⟨z',H4,I4,r4,q4⟩=>thn (ho' pins s4 σ H4 y z' u w' _ I4 r2 r4 q4) fun d' s5 ⟨z2,H5,I5,r5,k2,e2,q5⟩ => ?_))
    subst e2
    cases r5
    exact wpAny_truthy_bool ⟨H5,I5,q5⟩



theorem line63:(sizeLine:Nat) < 2 ^ 63:=by rw [sizeLine_eq]; decide
theorem op_add_str:OpR X (binaryOp .Add) (fun x y H Q=>∃ i j,x=.str i∧y=.str j∧i.length + j.length≤sizeLine∧Q (.str (i++j)) H):=by
  intro pins s σ H x y v u Q I rx ry h
  obtain ⟨i,j,rfl,rfl,hz,q⟩:=h
  obtain ⟨t,rfl⟩:=rx
  obtain ⟨t',rfl⟩:=ry
  exact add_str (fun t' tk=>⟨.str (i++j),H,I.tok _,⟨_,rfl⟩,q⟩) hz
theorem vals1 {x:V} {us:List Value} (r:Vals [x] us):∃ u,us=[u]∧RelV x u:=by
  cases r with
  | cons r1 r2=>cases r2; exact ⟨_,rfl,r1⟩
theorem vals2 {x y:V} {us:List Value} (r:Vals [x,y] us):∃ u w',us=[u,w']∧RelV x u∧RelV y w':=by
  cases r with
  | cons r1 r2 =>
    cases r2 with
    | cons r3 r4=>cases r4; exact ⟨_,_,rfl,r1,r3⟩
theorem call_str_int:CallR X (.type "str") (fun xs H Q=>∃ i,xs=[.int i]∧i.natAbs.log2 < 1920∧Q (.str (toString i)) H):=by
  intro pins s σ H xs us Q I r h
  obtain ⟨i,rfl,hz,q⟩:=h
  obtain ⟨u,rfl,t,rfl⟩:=vals1 r
  exact PySem.P.str_of_int hz ⟨.str _,H,I.tok _,⟨_,rfl⟩,q⟩
def LenV (K:PySem.W.Frag) (x:V) (H:Hp) (n:Nat):Prop :=
  match x with
  | .str y=>y.length≤sizeLine∧n=y.length
  | .byt y=>y.size≤sizeLine∧n=y.size
  | .ref p=>(∃ xs,SqL K H p xs∧n=xs.length)∨∃ xs,SqT K H p xs∧n=xs.length
  | _=>False
theorem call_len:CallR X (.builtin "len") (fun xs H Q=>∃ x n,xs=[x]∧LenV X.K x H n∧Q (.int n) H):=by
  intro pins s σ H xs us Q I r h
  obtain ⟨x,n,rfl,e,q⟩:=h
  obtain ⟨u,rfl,rx⟩:=vals1 r
  have hl:=line63
  have hs:sizeLine=16777216:=sizeLine_eq
  cases x with
  | str y =>
    obtain ⟨t,rfl⟩:=rx
    obtain ⟨hy,e'⟩:y.length≤sizeLine∧n=y.length:=e
    subst e'
    exact len_str (by omega) ⟨.int _,H,I.tok _,⟨_,rfl⟩,q⟩
  | byt y =>
    obtain ⟨t,rfl⟩:=rx
    obtain ⟨hy,e'⟩:y.size≤sizeLine∧n=y.size:=e
    subst e'
    exact PySem.W.len_bytes (by omega) ⟨.int _,H,I.tok _,⟨_,rfl⟩,q⟩
  | ref p =>
    cases rx
    have e':(∃ xs,SqL X.K H p xs∧n=xs.length)∨∃ xs,SqT X.K H p xs∧n=xs.length:=e
    rcases e' with ⟨xs,hx,e'⟩ | ⟨xs,hx,e'⟩
    · subst e'
      obtain ⟨its,r',pl,hz⟩:=I.list hx
      have hlen:=r'.length
      exact Calls.call_len_list pl.isList (by simp only [List.size_toArray]; omega) ⟨.int xs.length,H,I.tok _,⟨_,by simp only [List.size_toArray]; rw [hlen]⟩,q⟩
    · subst e'
      obtain ⟨its,r',pl,hz⟩:=I.tuple hx
      have hlen:=r'.length
      exact len_tuple pl (by simp only [List.size_toArray]; omega) ⟨.int xs.length,H,I.tok _,⟨_,by simp only [List.size_toArray]; rw [hlen]⟩,q⟩
  | _=>exact (show False from e).elim

end
end L2

namespace L2
open PySem PySem.Spec PyProof.Rows


structure ObjM (h:Heap) (x dx C:Addr) (mA:Str→Option Value):Prop where
  obj:h.get? x=some (PySem.W.instObj C dx)
  ns:h.Ns1 dx mA
  ne:dx≠x

theorem lookIn_ns {h:Heap} {dx:Addr} {mA:Str→Option Value} (n:h.Ns1 dx mA):∃ od,h.get? dx=some od∧∀ name,PySem.W.lookIn name od=some (mA name):=by
  obtain ⟨o,es,ep,ho,hd,hk,_,hm⟩:=n
  refine ⟨o,ho,fun name => ?_⟩
  have e:=hm name
  unfold nsFind findBy at e
  rw [← Array.find?_toList] at e
  unfold PySem.W.lookIn
  rw [hd]
  dsimp only
  split
  · rename_i y q
    rw [q] at e
    exact congrArg some e
  · rename_i q
    rw [q] at e
    have a:es.toList.any (·.refKey)=false:=by
      rw [List.any_eq_false]
      intro y hy
      obtain ⟨z,t,hkey⟩:=hk y (Array.mem_toList_iff.mp hy)
      simp [DictEntry.refKey,hkey]
    have a':¬ es.toList.any (·.refKey)=true:=by rw [a]; exact Bool.false_ne_true
    rw [if_neg a']
    exact congrArg some e

theorem ObjM.look {h:Heap} {x dx C:Addr} {mA:Str→Option Value} (I:ObjM h x dx C mA):∃ od,PySem.W.InstAt h x (PySem.W.instObj C dx) C (some od)∧∀ name,PySem.W.lookIn name od=some (mA name) :=
  let ⟨od,ho,hl⟩:=lookIn_ns I.ns
  ⟨od,⟨I.obj,rfl,rfl,ho⟩,hl⟩

section
variable {prog:Program} {w:World} {A:Around} {E:Value→Shared→Prop} {s:Shared} {K:PySem.W.Frag} {x dx C f:Addr} {mA:Str→Option Value} {name:Str} {v:Value}

end


section
variable {P:Program} {w:World} {H H':Hp} {h h':Heap} {a C dx:Addr} {fs fs':List (Str × V)}
theorem ins_get (hok:HOk P w H h) (e:H a=some (.ins C dx fs)):∃ mA,ObjM h a dx C mA∧(∀ f,RelO (fs.lookup f) (mA f))∧PySem.Within mA (fs.map (·.1))∧fs.length≤1000∧H dx=some (.own a):=by
  obtain ⟨d,z,ne,ob,mA,n,r,q⟩:=(show ObjOk P w H h a (.ins C dx fs) from hok a _ e)
  exact ⟨mA,⟨ob,n,ne⟩,r,q,z,d⟩
end


structure Cls (K:PySem.W.Frag) (C:Addr):Prop where
  pg:PySem.W.plainGet K C Str.empty=true
  hd:PySem.W.hasDictIn K C=true
  po:PySem.W.plainOver K C=true
  sa:PySem.W.findIn K (.ref C) "__setattr__" = some (some (.builtin "object.__setattr__"))
theorem Cls.get {K:PySem.W.Frag} {C:Addr} (c:Cls K C) (f:Str):PySem.W.plainGet K C f=true:=c.pg

section
variable {X:Cx} {pins:List (Addr × Obj)} {σ:St} {H:Hp} {s:Shared} {a C dx:Addr} {fs:List (Str × V)} {f:Str} {v:V} {A:Around} {E:Value→Shared→Prop}

end



section
variable {X:Cx} {o e value:Expr} {f:Str} {pos pos' tpos:Pos} {ta tv:TE}
end


section
variable {X:Cx} {pins:List (Addr × Obj)} {σ:St} {H:Hp} {s:Shared} {A:Around} {E:Value→Shared→Prop} {Q:Value→Shared→Prop} {c:Value} {b:Bool}

inductive TyOf (K:PySem.W.Frag) (H:Hp):V→Value→Prop where
  | non:TyOf K H .non (.type "NoneType")
  | bl (x:Bool):TyOf K H (.bl x) (.type "bool")
  | int (i:Int):TyOf K H (.int i) (.type "int")
  | str (x:Str):TyOf K H (.str x) (.type "str")
  | flt (x:UInt64):TyOf K H (.flt x) (.type "float")
  | lst {a:Addr} {xs:List V} (e:H a=some (.lst xs)):TyOf K H (.ref a) (.type "list")
  | frz {a:Addr} {o:Obj} {xs:List V} (e:H a=some (.frz o (.lst xs))):TyOf K H (.ref a) (.type "list")
  | tup {a:Addr} {xs:List V} (e:H a=some (.tup xs)):TyOf K H (.ref a) (.type "tuple")
  | dK {a:Addr} {kvs:List (Key × V)} (e:H a=some (.dK kvs)):TyOf K H (.ref a) (.type "dict")
  | dT {a:Addr} {kvs:List (List Key × V)} (e:H a=some (.dT kvs)):TyOf K H (.ref a) (.type "dict")
  | ins {a C dx:Addr} {fs:List (Str × V)} (e:H a=some (.ins C dx fs)) (cl:Cls K C) (ha:PySem.W.findIn K (.ref C) "__class__" = some (some (.builtin "object.__class__")))
      (hn:PySem.W.specialIn K (.builtin "object.__class__") "__get__" = some (some (.builtin "getset_descriptor.__get__"))) (htk:PySem.W.takesIn K (.builtin "object.__class__")=some true)
      (hm:PySem.W.mroIn K C (.type "object")=some true):TyOf K H (.ref a) (.ref C)

theorem isinst_ok {x:V} {u t:Value} (I:Inv X pins σ H s) (rx:RelV x u) (ty:TyOf X.K H x t) (e:PySem.W.kitOne X.K t c=some b) (h:∀ tk,Q (.bool b) { s with toks:=tk }) :
    wpAny (model X.prog X.w) A (call (.builtin "isinstance") [u,c]) Q E s:=by
  cases ty with
  | non=>cases (show u=Value.none from rx); exact PySem.W.kia_one PySem.W.kitx_none I.kIn True.intro e (fun z=>nomatch z) h
  | bl y=>cases (show u=Value.bool y from rx); exact PySem.W.kia_one PySem.W.kitx_bool I.kIn True.intro e (fun z=>nomatch z) h
  | int i=>obtain ⟨t,q⟩:=(show ∃ t,u=Value.int i t from rx); cases q; exact PySem.W.kia_one PySem.W.kitx_int I.kIn True.intro e (fun z=>nomatch z) h
  | str y=>obtain ⟨t,q⟩:=(show ∃ t,u=Value.str y t from rx); cases q; exact PySem.W.kia_one PySem.W.kitx_str I.kIn True.intro e (fun z=>nomatch z) h
  | flt y=>obtain ⟨t,q⟩:=(show ∃ t,u=Value.float y t from rx); cases q; exact PySem.W.kia_one PySem.W.kitx_float I.kIn True.intro e (fun z=>nomatch z) h
  | @lst a xs ea =>
    cases (show u=Value.ref a from rx)
    obtain ⟨_,_,n,_,h1⟩:=(show ObjOk X.prog X.w H s.heap a (.lst xs) from I.hok a _ ea)
    exact PySem.W.kia_one PySem.W.kitx_list I.kIn ⟨_,h1,rfl⟩ e (fun z=>nomatch z) h
  | @frz a ob xs ea =>
    cases (show u=Value.ref a from rx)
    obtain ⟨_,_,_,n,_,h1⟩:=(show ObjOk X.prog X.w H s.heap a (.frz ob (.lst xs)) from I.hok a _ ea)
    exact PySem.W.kia_one PySem.W.kitx_list I.kIn ⟨_,h1,rfl⟩ e (fun z=>nomatch z) h
  | @tup a xs ea =>
    cases (show u=Value.ref a from rx)
    obtain ⟨_,_,_,p⟩:=(show ObjOk X.prog X.w H s.heap a (.tup xs) from I.hok a _ ea)
    obtain ⟨o,h1,h2,_⟩:=p
    exact PySem.W.kia_one PySem.W.kitx_tuple I.kIn ⟨o,h1,h2⟩ e (fun z=>nomatch z) h
  | @dK a kvs ea =>
    cases (show u=Value.ref a from rx)
    obtain ⟨_,_,vs,_,p⟩:=(show ObjOk X.prog X.w H s.heap a (.dK kvs) from I.hok a _ ea)
    obtain ⟨o,es,ep,h1,h2,_⟩:=p
    exact PySem.W.kia_one PySem.W.kitx_dict I.kIn ⟨o,h1,h2.1⟩ e (fun z=>nomatch z) h
  | @dT a kvs ea =>
    cases (show u=Value.ref a from rx)
    obtain ⟨_,_,xs,_,o,es,ep,h1,h2,_⟩:=(show ObjOk X.prog X.w H s.heap a (.dT kvs) from I.hok a _ ea)
    exact PySem.W.kia_one PySem.W.kitx_dict I.kIn ⟨o,h1,h2.1⟩ e (fun z=>nomatch z) h
  | @ins a C dx fs ea cl ha hn htk hm =>
    cases (show u=Value.ref a from rx)
    obtain ⟨mA,O,_⟩:=ins_get I.hok ea
    obtain ⟨od,J,_⟩:=O.look
    exact PySem.W.kia_one (PySem.W.kitx_own (cl.get _) cl.hd ha hn htk hm) I.kIn J e (fun z=>nomatch z) h
end
end L2

namespace L2
open PySem PySem.Spec PyProof.Rows


structure Room (k:Nat) (A:Around):Prop where
  hd:A.handled=none
  dp:A.depth + 3 * k + 5 < recursionLimit
  un:A.units + 16 * k + 200 < cLine
theorem Room.mono {j k:Nat} {A:Around} (r:Room k A) (h:j≤k):Room j A:=⟨r.hd,by have:=r.dp; omega,by have:=r.un; omega⟩
theorem Room.deeper {k:Nat} {A:Around} (r:Room (k + 1) A) (env:Env):Room k (A.deeper env) :=
  ⟨r.hd,by have:=r.dp; show A.depth + 1 + 3 * k + 5 < _; omega,by have:=r.un; show A.units + 3 + 16 * k + 200 < _; omega⟩
theorem Room.in1 {k:Nat} {A:Around} (r:Room (k + 1) A):Room k A.in1 :=
  ⟨r.hd,by have:=r.dp; show A.depth + 3 * k + 5 < _; omega,by have:=r.un; show A.units + 1 + 16 * k + 200 < _; omega⟩
theorem Room.depth {k:Nat} {A:Around} (r:Room k A):A.depth < recursionLimit:=by have:=r.dp; omega
theorem Room.units {k:Nat} {A:Around} (r:Room k A):A.units + 64 < cLine:=by have:=r.un; omega
def tNil:TA:=fun _ H Q=>Q [] H
def tCons (ta:TE) (tr:TA):TA:=fun σ H Q=>ta σ H fun x H1=>tr σ H1 fun xs H2=>Q (x::xs) H2
section
variable {X:Cx} {e:Expr} {es:List Expr} {te:TE} {t:TA} {pos:Pos}
theorem pa_nil:PA X [] tNil:=fun _ _ _ _ H Q I h=>Calls.spliced_nil ⟨[],H,I,.nil,h⟩
theorem pa_cons (ha:PE X e te) (hr:PA X es t) (hs:starEach (e::es) X.env=(false,eval e X.env)::starEach es X.env:=by rfl):PA X (e::es) (tCons te t):=by
  intro pos pins s σ H Q I h
  rw [hs]
  show wpAny _ _ (spliced ((false,eval e X.env)::backTo pos (starEach es X.env))) _ _ s
  refine Calls.spliced_cons (thn (ha pins s σ H _ I h) fun u s1 ⟨x,H1,I1,r1,q1⟩ => ?_)
  exact thn (hr pos pins s1 σ H1 _ I1 q1) fun us s2 ⟨xs,H2,I2,r2,q2⟩=>⟨x::xs,H2,I2,.cons r1 r2,q2⟩


def tTup (t:TA):TE:=fun σ H Q=>t σ H fun xs H1=>xs.length≤sizeLine∧∀ p,H1 p=none→Q (.ref p) (upd H1 p (.tup xs))
def tLst (t:TA):TE:=fun σ H Q=>t σ H fun xs H1=>xs.length≤sizeLine∧∀ p,H1 p=none→Q (.ref p) (upd H1 p (.lst xs))
theorem pe_tup {x1} (h:PA X es t):PE X (.Tuple es x1 pos) (tTup t):=by
  intro pins s σ H Q I hq
  refine wpAny_Tuple_spliced (thn (h pos pins s σ H _ I hq) fun us s1 ⟨xs,H1,I1,r,z,q⟩=>⟨by rw [← r.length]; exact z,?_⟩)
  have hf:H1 s1.heap.objs.size=none:=I1.hok.fresh (Nat.le_refl _)
  refine ⟨.ref s1.heap.objs.size,upd H1 s1.heap.objs.size (.tup xs),I1.laid (t':=s1.toks) (fun b u e=>Heap.get?_push_of_some _ e) (Nat.le_refl _) ?_,rfl,q _ hf⟩
  exact ⟨z,us,r,⟨_,Heap.get?_push_size _ rfl,rfl,_,rfl⟩⟩
theorem pe_lst (h:PA X es t):PE X (.List es pos) (tLst t):=by
  intro pins s σ H Q I hq
  refine wpAny_List_spliced (thn (h pos pins s σ H _ I hq) fun us s1 ⟨xs,H1,I1,r,z,q⟩=>⟨by rw [← r.length]; exact z,?_⟩)
  have hf:H1 s1.heap.objs.size=none:=I1.hok.fresh (Nat.le_refl _)
  refine ⟨.ref s1.heap.objs.size,upd H1 s1.heap.objs.size (.lst xs),I1.laid (t':=s1.toks) (fun b u e=>Heap.get?_push_of_some _ e) (Nat.le_refl _) ?_,rfl,q _ hf⟩
  exact ⟨z,us,0,r,Heap.get?_push_size _ rfl⟩
end



abbrev Sp:=List V→Hp→VK→XK→Prop

abbrev CXT:=List Env→Hp→Shared→XK→Value→Shared→Prop


structure Env0 (P:Program) (w:World) (K:PySem.W.Frag) (mg:Str→Option Value) (base:Heap) (A:Around) (outer:List Env) (s:Shared) (H:Hp):Prop where
  frames:A.frames=some outer
  mod:Mod K mg base
  bs:∀ b o,base.get? b=some o→s.heap.get? b=some o∧H b=none
  bsz:base.objs.size≤s.heap.objs.size
  funs:s.heap.FunFrames base outer
  frf:∀ b∈frs outer,H b=none
  hok:HOk P w H s.heap
  bare:AllBare s.gens

def CE (outer:List Env) (P:Program) (w:World) (H:Hp) (s:Shared) (Q:VK) (u:Value) (s':Shared):Prop :=
  ∃ v H',s'.os=s.os∧AllBare s'.gens∧Un (frs outer) [] H H' s.heap s'.heap∧HOk P w H' s'.heap∧RelV v u∧Q v H'
def CR (CX:CXT) (outer:List Env) (P:Program) (w:World) (H:Hp) (s:Shared) (Q:VK) (E:XK) (r:Result) (s':Shared):Prop :=
  match r with
  | .ok (.ret u)=>CE outer P w H s Q u s'
  | .ok _=>False
  | .error e=>CX outer H s E e s'
structure FnOk (P:Program) (w:World) (K:PySem.W.Frag) (mg:Str→Option Value) (base:Heap) (CX:CXT) (k:Nat) (f:Addr) (fd:FuncData) (ps:List Str) (sp:Sp):Prop where
  len:∀ vs H Q E,sp vs H Q E→vs.length=ps.length
  run:∀ (A:Around) (outer:List Env) (s:Shared) (H:Hp) (args:Args) (us:List Value) (vs:List V) (Q:VK) (E:XK),Room k A→Env0 P w K mg base A outer s H→BindsTo s fd args (ps.zip us)→Vals vs us→sp vs H Q E →
    codeAny (model P w) A (.call (.ref f) args) (CR CX outer P w H s Q E) s
section
variable {X:Cx} {pins:List (Addr × Obj)} {σ:St} {H:Hp} {s s':Shared}

theorem Inv.env0 (I:Inv X pins σ H s):Env0 X.prog X.w X.K X.mg X.base X.A X.stack s H :=
  ⟨I.ok.frames,I.ok.mod,I.bs,Nat.le_trans I.ok.bsz I.sz,I.stack,I.stkFree,I.hok,I.bare⟩

theorem Inv.after {Q:VK} {u:Value} (I:Inv X pins σ H s) (h:CE X.stack X.prog X.w H s Q u s'):EP X pins σ Q u s':=by
  obtain ⟨v,H',os,bare,un,hok,r,q⟩:=h
  obtain ⟨hh,g,d,t,os'⟩:=s'
  obtain rfl:os'=s.os:=os
  exact ⟨v,H',I.call (h':=hh) (g':=g) (d':=d) (t':=t) (ch:=[]) un hok bare (fun b z=>absurd z (by simp)),r,q⟩
end



def tCall (sp:Sp) (dvs:List V) (E:XK) (t:TA):TE:=fun σ H Q=>t σ H fun vs H1=>sp (vs++dvs) H1 Q E

def Binds (K:PySem.W.Frag) (fd:FuncData) (ps:List Str) (ds:List Value):Prop :=
  ∀ (s:Shared) (us:List Value),K.In s.heap→(us++ds).length=ps.length→BindsTo s fd ⟨us,[]⟩ (ps.zip (us++ds))

theorem Binds.all {K:PySem.W.Frag} {fd:FuncData} {ps:List Str} (h:∀ us:List Value,us.length=ps.length→bindArgs fd ⟨us,[]⟩=pure (ps.zip us)):Binds K fd ps []:=fun s us _ hl=>by
  rw [List.append_nil] at hl ⊢
  exact .of_eq (h us hl)


def Passes (CX:CXT) (X:Cx) (E:XK):Prop:=∀ (pins:List (Addr × Obj)) (σ:St) (H:Hp) (s:Shared) (e:Value) (s':Shared),Inv X pins σ H s→CX X.stack H s E e s'→X.xe e s'

section
variable {X:Cx} {CX:CXT} {k:Nat} {f C:Addr} {fd:FuncData} {ps:List Str} {sp:Sp} {dvs:List V} {ds:List Value} {E:XK} {x m:Str} {p pos apos:Pos} {e o:Expr} {es:List Expr} {ta:TE} {t:TA}


theorem run_fn {pins:List (Addr × Obj)} {σ:St} {H:Hp} {s:Shared} {Q:VK} {us:List Value} {vs:List V} (F:FnOk X.prog X.w X.K X.mg X.base CX k f fd ps sp) (hr:Room k X.A) (hb:Binds X.K fd ps ds) (hd:Vals dvs ds) (hx:Passes CX X E)
    (I:Inv X pins σ H s) (r:Vals vs us) (h:sp (vs++dvs) H Q E):wpAny (model X.prog X.w) X.A (call (.ref f) us) (EP X pins σ Q) X.xe s:=by
  have r2:Vals (vs++dvs) (us++ds):=r.append hd
  have hl:(us++ds).length=ps.length:=by rw [← r2.length]; exact F.len _ _ _ _ h
  refine wpAny_call (codeAny_mono (F.run X.A X.stack s H ⟨us,[]⟩ (us++ds) (vs++dvs) Q E hr I.env0 (hb s us I.kIn hl) r2 h) fun r s' hq => ?_)
  cases r with
  | error e=>exact hx pins σ H s e s' I hq
  | ok fl =>
    cases fl with
    | ret u=>exact I.after hq
    | next=>exact False.elim hq
    | brk=>exact False.elim hq
    | cont=>exact False.elim hq

theorem pe_call (F:FnOk X.prog X.w X.K X.mg X.base CX k f fd ps sp) (hr:Room k X.A) (hg:Gl X x) (hm:X.mg x=some (.ref f)) (hk:PySem.W.keepIn X.K (.ref f)=true) (hb:Binds X.K fd ps ds) (hd:Vals dvs ds) (hx:Passes CX X E)
    (ha:PA X (e::es) t) (hdb:(x == ("__debug__" : Str))=false:=by decide) (he:starEach (e::es) X.env=(false,eval e X.env)::starEach es X.env:=by rfl) (hpl:(backTo pos (starEach es X.env)).any (·.1)=false:=by rfl) :
    PE X (.Call (.Name x p) (e::es) [] pos) (tCall sp dvs E t):=by
  intro pins s σ H Q I h
  refine wpAny_Call_Name_kw (ld_glob I hg hm ?_ hdb)
  refine PySem.W.callWith_K (h₀:=X.base) I.ok.mod.kin hk (thn (ha pos pins s σ H _ I h) fun us s1 ⟨vs,H1,I1,r,q⟩=>⟨I1.kIn,?_⟩) he hpl
  exact run_fn F hr hb hd hx I1 r q
end



section
variable {X:Cx} {CX:CXT} {k:Nat} {f C:Addr} {fd:FuncData} {ps ks:List Str} {sp:Sp} {E:XK} {x m:Str} {p pos apos kpos:Pos} {e o:Expr} {es:List Expr} {kws:List Keyword} {te ta:TE} {t tk:TA} {nm:Option Str}
variable {g:List Value→List Value→List Value} {gV:List V→List V→List V}
end



structure FnScope (N P:List Str) (sc:Scope):Prop where
  kind:sc.kind=.function
  co:sc.isCoroutine=false
  gen:sc.isGenerator=false
  nd:N.Nodup
  pre:N.take P.length=P
  par:∀ x∈P,sc.names.lookup x=some .local∨sc.names.lookup x=some .cell
  nofree:∀ y∈sc.names,y.2≠.free

theorem bindL_out {kindOf:Str→Option NameKind} {x:Str}:∀ {binds:List (Str × Value)} {m:Str→Option Value},(∀ v,(x,v)∉binds)→bindL kindOf binds m x=m x
  | [],_,_=>rfl
  | (n,v)::r,m,h=>by
    unfold bindL
    rw [bindL_out fun w hw=>h w (List.mem_cons_of_mem _ hw)]
    split
    · have:x≠n:=by rintro rfl; exact h v List.mem_cons_self
      simp [this]
    · rfl
theorem bindC_out {kindOf:Str→Option NameKind} {x:Str}:∀ {binds:List (Str × Value)} {m:Str→Option Value},(∀ v,(x,v)∉binds)→bindC kindOf binds m x=m x
  | [],_,_=>rfl
  | (n,v)::r,m,h=>by
    unfold bindC
    rw [bindC_out fun w hw=>h w (List.mem_cons_of_mem _ hw)]
    split
    · rfl
    · have:x≠n:=by rintro rfl; exact h v List.mem_cons_self
      simp [this]
theorem bindL_get {kindOf:Str→Option NameKind} {x:Str} {v:Value}:∀ {P:List Str} {vs:List Value} {i:Nat} {m:Str→Option Value},P.Nodup→P[i]? = some x→vs[i]? = some v→kindOf x=some .local →
    bindL kindOf (P.zip vs) m x=some v
  | [],_,_,_,_,h,_,_=>by simp at h
  | _::_,[],_,_,_,_,h,_=>by simp at h
  | p::P,w::vs,0,m,nd,h1,h2,hk=>by
    simp at h1 h2; subst h1; subst h2
    show bindL kindOf ((p,w)::P.zip vs) m p=_
    unfold bindL
    rw [bindL_out fun v hv=>(List.nodup_cons.mp nd).1 (List.of_mem_zip hv).1,if_pos hk]
    simp
  | p::P,w::vs,i + 1,m,nd,h1,h2,hk=>by
    show bindL kindOf ((p,w)::P.zip vs) m x=_
    unfold bindL
    exact bindL_get (i:=i) (List.nodup_cons.mp nd).2 (by simpa using h1) (by simpa using h2) hk
theorem bindC_get {kindOf:Str→Option NameKind} {x:Str} {v:Value}:∀ {P:List Str} {vs:List Value} {i:Nat} {m:Str→Option Value},P.Nodup→P[i]? = some x→vs[i]? = some v→kindOf x≠some .local →
    bindC kindOf (P.zip vs) m x=some v
  | [],_,_,_,_,h,_,_=>by simp at h
  | _::_,[],_,_,_,_,h,_=>by simp at h
  | p::P,w::vs,0,m,nd,h1,h2,hk=>by
    simp at h1 h2; subst h1; subst h2
    show bindC kindOf ((p,w)::P.zip vs) m p=_
    unfold bindC
    rw [bindC_out fun v hv=>(List.nodup_cons.mp nd).1 (List.of_mem_zip hv).1,if_neg hk]
    simp
  | p::P,w::vs,i + 1,m,nd,h1,h2,hk=>by
    show bindC kindOf ((p,w)::P.zip vs) m x=_
    unfold bindC
    exact bindC_get (i:=i) (List.nodup_cons.mp nd).2 (by simpa using h1) (by simpa using h2) hk


def start (N:List Str) (vs:List V):St:=vs.map some++List.replicate (N.length - vs.length) none


def cxOf (CX:CXT) (P:Program) (w:World) (K:PySem.W.Frag) (mg:Str→Option Value) (base:Heap) (N:List Str) (qual:Str) (scope:Scope) (f:Addr) (cd:Value) (A:Around) (outer:List Env) (s:Shared) (H:Hp) (E:XK):Cx where
  prog:=P
  w:=w
  K:=K
  mg:=mg
  base:=base
  A:=A.deeper (envOfC qual scope s.heap.objs.size f cd)
  N:=N
  s₀:=s
  H₀:=H
  env:=envOfC qual scope s.heap.objs.size f cd
  outer:=outer
  stack:=envOfC qual scope s.heap.objs.size f cd::outer
  ex:=[]
  calm:=true
  fn:=fun _=>true
  pn:=[]
  xe:=fun e s'=>wpAny (model P w) (A.deeper (envOfC qual scope s.heap.objs.size f cd)) (leaving (envOfC qual scope s.heap.objs.size f cd) e) (fun _ s''=>CX outer H s E e s'') (fun e' s''=>CX outer H s E e' s'') s'

theorem cell_has {sc:Scope} {n:Nat} {x:Str} (h:sc.names.lookup x=some .cell):∃ c,(cellsFrom n sc.names []).lookup x=some c:=by
  have q:=PySem.W.cellsFrom_some sc.names n [] (.inl h)
  exact Option.isSome_iff_exists.mp q

theorem inv_start {CX:CXT} {P:Program} {w:World} {K:PySem.W.Frag} {mg:Str→Option Value} {base:Heap} {N ps:List Str} {qual:Str} {scope:Scope} {f:Addr} {cd:Value} {A:Around} {outer:List Env} {s s1:Shared} {H:Hp} {E:XK} {us:List Value} {vs:List V}
    (S:FnScope N ps scope) (hd:A.handled=none) (e0:Env0 P w K mg base A outer s H) (hl:vs.length=ps.length) (r:Vals vs us)
    (x:InCallC s s.heap.objs.size (bindL (envOfC qual scope s.heap.objs.size f cd).kindOf (ps.zip us) fun _=>none) (cellsFrom (s.heap.objs.size + 1) scope.names []) (bindC (envOfC qual scope s.heap.objs.size f cd).kindOf (ps.zip us) fun _=>none) s1) :
    Inv (cxOf CX P w K mg base N qual scope f cd A outer s H E) [] (start N vs) H s1:=by
  have hpl:ps.length≤N.length:=by have:=congrArg List.length S.pre; rw [List.length_take] at this; omega
  obtain ⟨h1,tk,rfl,hk⟩:=x.done
  have noA:∀ b:Addr,b∉(cxOf CX P w K mg base N qual scope f cd A outer s H E).ex:=fun b z=>absurd (show b∈([]:List Addr) from z) (by simp)
  refine ⟨⟨e0.mod,S.kind,rfl,rfl,Nat.le_refl _,fun y z c h1 h2 => ?_,fun y hy => ?_,fun y c _ h => ?_,fun _=>hd,Around.frames_deeper e0.frames,.inr ⟨rfl,rfl⟩,fun b z=>absurd z (noA b),e0.bs,e0.bsz,fun b _ _=>noA b,fun b z=>absurd z (noA b),e0.funs,e0.frf⟩,
    rfl,e0.bare,Un.kept hk,⟨_,x.toInCall.ns,fun i y v h1 h2 h3 => ?_⟩,fun y c h=>⟨_,x.cell y c h⟩,e0.hok.fresh (Nat.le_refl _),fun y c h => ?_,fun p hp=>absurd (show p∈([]:List (Addr × Obj)) from hp) (by simp),e0.hok.kept hk,?_⟩
  · exact name_of_addr x.apart (PySem.mem_of_lookup h1) (PySem.mem_of_lookup h2)
  · have hy:scope.names.lookup y=some .cell∨scope.names.lookup y=some .free:=hy
    rcases hy with hy | hy
    · exact cell_has hy
    · exact absurd rfl (S.nofree _ (PySem.mem_of_lookup hy))
  · exact Nat.le_of_lt (x.above y c (PySem.mem_of_lookup h))
  · have hi:i < vs.length:=by
      unfold start at h2
      by_cases hi:i < vs.length
      · exact hi
      · rw [List.getElem?_append_right (by simpa using hi)] at h2
        rw [List.getElem?_replicate] at h2
        split at h2 <;> cases h2
    have ha:vs[i]? = some v:=by
      unfold start at h2
      rw [List.getElem?_append_left (by simpa using hi),List.getElem?_map] at h2
      cases e:vs[i]? with
      | none=>rw [e] at h2; cases h2
      | some a=>rw [e] at h2; cases h2; rfl
    obtain ⟨u,hu,rv⟩:=r.get ha
    have hp:ps[i]? = some y:=by
      rw [← S.pre,List.getElem?_take_of_lt (by omega)]; exact h1
    have ndP:ps.Nodup:=by rw [← S.pre]; exact S.nd.sublist (List.take_sublist _ _)
    refine ⟨u,rv,?_⟩
    rcases S.par y (List.mem_of_getElem? hp) with k | k
    · exact .inl ⟨k,bindL_get ndP hp hu k⟩
    · obtain ⟨c,e⟩:=cell_has (n:=s.heap.objs.size + 1) k
      refine .inr ⟨.inl k,c,e,?_⟩
      have q:=x.cell y c e
      rw [bindC_get ndP hp hu (by show scope.names.lookup y≠_; rw [k]; decide)] at q
      exact q
  · exact e0.hok.fresh (Nat.le_of_lt (x.above y c (PySem.mem_of_lookup h)))
  · unfold start
    show _=N.length
    rw [List.length_append,List.length_map,List.length_replicate]
    omega


theorem fn_of {CX:CXT} {P:Program} {w:World} {K:PySem.W.Frag} {mg:Str→Option Value} {base:Heap} {k:Nat} {f:Addr} {name qual:Str} {params:Arguments} {body:List Stmt} {scope:Scope} {dV kV doc pm cdv ct oc:Value} {an od:Option Addr}
    {osl:Array (Option Value)} {N ps:List Str} {sp:Sp} (lk:K.lookup f=some ⟨oc,od,.func (PySem.W.fnOf name qual params body scope dV kV doc pm an cdv ct),osl⟩) (hcd:PySem.W.codeIn K cdv qual=true) (S:FnScope N ps scope)
    (len:∀ vs H Q E,sp vs H Q E→vs.length=ps.length)
    (hbody:∀ (A:Around) (outer:List Env) (s:Shared) (H:Hp) (vs:List V) (Q:VK) (E:XK),Room k (A.deeper (envOfC qual scope s.heap.objs.size f cdv))→sp vs H Q E →
      ∃ t,PSs (cxOf CX P w K mg base N qual scope f cdv A outer s H E) body t∧t { nx:=fun _ H'=>Q .non H',rt:=Q } (start N vs) H) :
    FnOk P w K mg base CX (k + 1) f (PySem.W.fnOf name qual params body scope dV kV doc pm an cdv ct) ps sp:=by
  refine ⟨len,fun A outer s H args us vs Q E hr e0 hb r hsp => ?_⟩
  have hl:=len _ _ _ _ hsp
  have KX:K.In s.heap:=e0.mod.kin.keeps fun b o e=>(e0.bs b o e).1
  have lim:s.heap.NoLimit:=e0.mod.nolimit.keeps fun b o e=>(e0.bs b o e).1
  have hkind:∀ y∈ps.zip us,scope.names.lookup y.1=some .local∨(scope.names.lookup y.1=some .cell∧((cellsFrom (s.heap.objs.size + 1) scope.names []).lookup y.1).isSome=true):=fun ⟨n,v⟩ hy=>by
    rcases S.par n (List.of_mem_zip hy).1 with q | q
    · exact .inl q
    · exact .inr ⟨q,PySem.W.cellsFrom_some _ _ _ (.inl q)⟩
  refine codeAny_call_function hr.depth (KX _ _ lk) rfl S.co S.gen rfl (PySem.W.codeRec_of KX hcd) (hb _ _ _ _ ?_)
  refine wpAny_newFunctionEnv_cells S.kind hkind fun env he s1 x => ?_
  subst he
  refine ⟨lim.keeps x.toInCall.keep,codeAny_func ?_⟩
  obtain ⟨t,ht,hq⟩:=hbody A outer s H vs Q E (hr.deeper _) hsp
  have I:Inv (cxOf CX P w K mg base N qual scope f cdv A outer s H E) [] (start N vs) H s1:=inv_start S hr.hd e0 hl r x
  refine wpAny_mono (ht [] s1 (start N vs) H _ I hq) (fun fl s' hs => ?_) fun e s' hs=>hs
  have fin:∀ {σ':St} {H':Hp} {v:V} {u:Value},Inv (cxOf CX P w K mg base N qual scope f cdv A outer s H E) [] σ' H' s'→RelV v u→Q v H'→CE outer P w H s Q u s' :=
    fun {σ' H' v u} J rv q=>⟨v,H',J.os,J.bare,J.base,J.hok,rv,q⟩
  cases fl with
  | ret u =>
    obtain ⟨v,σ',H',J,rv,q⟩:=hs
    exact fin J rv q
  | next =>
    obtain ⟨σ',H',J,q⟩:=hs
    exact fin (v:=V.non) (u:=Value.none) J rfl q
  | brk =>
    obtain ⟨_,_,_,q⟩:=hs
    exact False.elim q
  | cont =>
    obtain ⟨_,_,_,q⟩:=hs
    exact False.elim q
end L2

namespace L2
open PySem PySem.Spec PyProof.Rows
section
variable {X:Cx} {x:Str} {p pos:Pos} {e:Expr} {es:List Expr} {t:TA} {id T:String} {r:List V→Hp→VK→Prop}

def tCB (r:List V→Hp→VK→Prop) (t:TA):TE:=fun σ H Q=>t σ H fun vs H1=>r vs H1 Q

theorem pe_callB (hc:CallR X (.builtin id) r) (hg:Gl X x) (hm:X.mg x=none) (hv:bootBuiltins x=some (.builtin id)) (ha:PA X (e::es) t) (hn:x ≠ "__name__" := by decide) (hdb:(x == ("__debug__" : Str))=false:=by decide)
    (he:starEach (e::es) X.env=(false,eval e X.env)::starEach es X.env:=by rfl) (hpl:(backTo pos (starEach es X.env)).any (·.1)=false:=by rfl):PE X (.Call (.Name x p) (e::es) [] pos) (tCB r t):=by
  intro pins s σ H Q I h
  refine wpAny_Call_Name_kw (ld_blt I hg hm hv ?_ hn hdb)
  exact PyProof.Rows.callWith_builtin1 (thn (ha pos pins s σ H _ I h) fun us s1 ⟨vs,H1,I1,r1,q1⟩=>hc pins s1 σ H1 vs us Q I1 r1 q1) he hpl

theorem pe_callTy (hc:CallR X (.type T) r) (hg:Gl X x) (hm:X.mg x=none) (hv:bootBuiltins x=some (.type T)) (ha:PA X (e::es) t) (hn:x ≠ "__name__" := by decide) (hdb:(x == ("__debug__" : Str))=false:=by decide)
    (he:starEach (e::es) X.env=(false,eval e X.env)::starEach es X.env:=by rfl) (hpl:(backTo pos (starEach es X.env)).any (·.1)=false:=by rfl):PE X (.Call (.Name x p) (e::es) [] pos) (tCB r t):=by
  intro pins s σ H Q I h
  refine wpAny_Call_Name_kw (ld_blt I hg hm hv ?_ hn hdb)
  exact PyProof.Rows.callWith_type1 (thn (ha pos pins s σ H _ I h) fun us s1 ⟨vs,H1,I1,r1,q1⟩=>hc pins s1 σ H1 vs us Q I1 r1 q1) he hpl

end
end L2

namespace HT
open PySem PyProof.Rows


section
open PySem.SeqAt
open PySem.AutoSeq1 (wpAny_loadPart')
open PySem.MeetsSeq PySem.MeetsSeq2 PySem.MeetsSeq3

end

section
variable {prog:Program} {w:World} {A:Around} {E:Value→Shared→Prop} {s:Shared}

def sIx (n d:Nat):Option Int→Nat
  | none=>d
  | some v=>if v < 0 then (v + (n:Int)).toNat else min v.toNat n
end
end HT

namespace L2
open PySem PySem.Spec PyProof.Rows


abbrev TO:=St→Hp→(Option Int→Hp→Prop)→Prop

def PO (X:Cx) (e:Option Expr) (t:TO):Prop :=
  ∀ (pins:List (Addr × Obj)) (s:Shared) (σ:St) (H:Hp) (Q:Option Int→Hp→Prop),Inv X pins σ H s→t σ H Q →
    wpAny (model X.prog X.w) X.A (evalPart e X.env) (fun u s'=>∃ o H',Inv X pins σ H' s'∧IsPart u o∧Q o H') X.xe s
def tNoPart:TO:=fun _ H Q=>Q none H
def tPart (t:TE):TO:=fun σ H Q=>t σ H fun x H1=>∃ i,x=.int i∧Q (some i) H1

section
variable {X:Cx} {e:Expr} {te:TE} {lo hi:Option Expr} {tl th:TO} {pos p2:Pos}

theorem po_none:PO X none tNoPart:=by
  intro pins s σ H Q I h
  rw [evalPart_none]
  exact wpAny_pure ⟨none,H,I,.none,h⟩
theorem po_some (h:PE X e te):PO X (some e) (tPart te):=by
  intro pins s σ H Q I hw
  rw [evalPart_some]
  refine thn (h pins s σ H _ I hw) fun u s1 ⟨x,H1,I1,r1,q1⟩ => ?_
  obtain ⟨i,rfl,q⟩:=q1
  obtain ⟨t,rfl⟩:=r1
  exact ⟨some i,H1,I1,.int i t,q⟩


def SlR (X:Cx) (r:V→Option Int→Option Int→Hp→VK→Prop):Prop :=
  ∀ (pins:List (Addr × Obj)) (s:Shared) (σ:St) (H:Hp) (x:V) (v vl vu:Value) (lo hi:Option Int) (sl:Addr) (Q:VK),Inv X pins σ H s→RelV x v→s.heap.IsSliceOf sl vl vu .none→IsPart vl lo→IsPart vu hi→r x lo hi H Q →
    ∃ T id,typeLookup (.type T) "__getitem__" = pure (some (.builtin id))∧s.TypeIs v T∧wpAny (model X.prog X.w) X.A (getItem v (.ref sl)) (EP X pins σ Q) X.xe s
def tSl (r:V→Option Int→Option Int→Hp→VK→Prop) (te:TE) (tl th:TO):TE:=fun σ H Q=>te σ H fun x H1=>tl σ H1 fun l H2=>th σ H2 fun u H3=>r x l u H3 Q

theorem pe_slice {r:V→Option Int→Option Int→Hp→VK→Prop} (hr:SlR X r) (he:PE X e te) (hl:PO X lo tl) (hu:PO X hi th):PE X (.Subscript e (.Slice lo hi none p2) pos) (tSl r te tl th):=by
  intro pins s σ H Q I h
  refine Subscript_ (thn (he pins s σ H _ I h) fun v s1 ⟨x,H1,I1,r1,q1⟩ => ?_)
  refine wpAny_Slice (thn (hl pins s1 σ H1 _ I1 q1) fun vl s2 ⟨l,H2,I2,pl,q2⟩=>thn (hu pins s2 σ H2 _ I2 q2) fun vu s3 ⟨u,H3,I3,pu,q3⟩ => ?_)
  rw [evalPart_none]
  refine wpAny_pure ?_
  have I4:Inv X pins σ H3 { s3 with heap:=s3.heap.push { cls:=.type "slice",data:=.fields #[vl,vu,.none] } }:=I3.kept (t':=s3.toks) fun b ob q=>Heap.get?_push_of_some _ q
  obtain ⟨T,id,hT,ht,hg⟩:=hr pins { s3 with heap:=s3.heap.push { cls:=.type "slice",data:=.fields #[vl,vu,.none] } } σ H3 x v vl vu l u s3.heap.objs.size Q I4 r1 (Heap.IsSliceOf.new ..) pl pu q3
  show wpAny (model X.prog X.w) X.A (subscriptTail e (.Slice lo hi none p2) v (.ref s3.heap.objs.size)) (EP X pins σ Q) X.xe { s3 with heap:=s3.heap.push { cls:=.type "slice",data:=.fields #[vl,vu,.none] } }
  exact tail_any (ops:=[.ref s3.heap.objs.size,v]) ht hT hg (by with_unfolding_all rfl)


def cutV (xs:List V) (lo hi:Option Int):List V:=(xs.drop (HT.sIx xs.length 0 lo)).take (HT.sIx xs.length xs.length hi - HT.sIx xs.length 0 lo)
theorem cutV_length (xs:List V) (lo hi:Option Int):(cutV xs lo hi).length≤xs.length:=by
  unfold cutV
  rw [List.length_take,List.length_drop]
  omega

end
end L2

namespace L2
open PySem PySem.Spec PyProof.Rows



def ixN (n:Nat) (i:Int):Option Nat:=if 0≤i then (if i < n then some i.toNat else none) else if -(n:Int)≤i then some (i + n).toNat else none
def atI {α:Type} (xs:List α) (i:Int):Option α:=(ixN xs.length i).bind fun j=>xs[j]?
theorem ixN_seq {n:Nat} {i:Int} {j:Nat} (h:ixN n i=some j):seqIndex? i n=some j∧j < n∧-(n:Int)≤i∧i < n:=by
  unfold ixN at h
  by_cases h0:0≤i
  · rw [if_pos h0] at h
    by_cases h1:i < n
    · rw [if_pos h1] at h
      have e:i.toNat=j:=Option.some.inj h
      exact ⟨by rw [seqIndex_of h0 h1,e],by omega,by omega,h1⟩
    · rw [if_neg h1] at h; cases h
  · rw [if_neg h0] at h
    by_cases h1:-(n:Int)≤i
    · rw [if_pos h1] at h
      have e:(i + n).toNat=j:=Option.some.inj h
      exact ⟨by rw [seqIndex_neg (by omega) h1,e],by omega,h1,by omega⟩
    · rw [if_neg h1] at h; cases h
theorem atI_get {α:Type} {xs:List α} {i:Int} {v:α} (h:atI xs i=some v):∃ j,seqIndex? i xs.length=some j∧xs[j]? = some v∧j < xs.length∧-(xs.length:Int)≤i∧i < xs.length:=by
  unfold atI at h
  cases e:ixN xs.length i with
  | none=>rw [e] at h; cases h
  | some j =>
    rw [e] at h
    obtain ⟨h1,h2,h3,h4⟩:=ixN_seq e
    exact ⟨j,h1,h,h2,h3,h4⟩
theorem atI_nat {α:Type} {xs:List α} {j:Nat} {v:α} (h:xs[j]? = some v):atI xs (j:Int)=some v:=by
  have hj:j < xs.length:=(List.getElem?_eq_some_iff.mp h).1
  have e:ixN xs.length (j:Int)=some j:=by
    unfold ixN
    rw [if_pos (by omega),if_pos (by omega)]; simp
  unfold atI; rw [e]; exact h
def PlainIx (b:Expr):Prop:=∀ o i,subscripted b false o i=operate [o,i] (getItem o i)

def IxR (X:Cx) (r:R2):Prop :=
  ∀ (value slice:Expr) (pins:List (Addr × Obj)) (s:Shared) (σ:St) (H:Hp) (x y:V) (v u:Value) (Q:VK),Inv X pins σ H s→RelV x v→RelV y u→r x y H Q →
    subscripted slice false v u=operate [v,u] (getItem v u)→wpAny (model X.prog X.w) X.A (subscriptTail value slice v u) (EP X pins σ Q) X.xe s

def MtR (X:Cx) (id:String) (r:V→List V→Hp→VK→Prop):Prop :=
  ∀ (pins:List (Addr × Obj)) (s:Shared) (σ:St) (H:Hp) (x:V) (xs:List V) (v:Value) (us:List Value) (Q:VK),Inv X pins σ H s→RelV x v→Vals xs us→r x xs H Q →
    wpAny (model X.prog X.w) X.A (call (.builtin id) (v::us)) (EP X pins σ Q) X.xe s
section
variable {X:Cx} {a b:Expr} {ta tb:TE} {pos:Pos}
theorem pe_ix {r:R2} (hr:IxR X r) (ha:PE X a ta) (hb:PE X b tb) (hs:PlainIx b):PE X (.Subscript a b pos) (tOp r ta tb):=by
  intro pins s σ H Q I h
  exact Subscript_ (binT ha hb I h fun v u s2 x y H2 I2 rx ry q=>hr a b pins s2 σ H2 x y v u Q I2 rx ry q (hs _ _))

def rIxL (K:PySem.W.Frag):R2:=fun x y H Q=>∃ p xs i v,x=.ref p∧y=.int i∧SqL K H p xs∧atI xs i=some v∧Q v H
def rIxT (K:PySem.W.Frag):R2:=fun x y H Q=>∃ p xs i v,x=.ref p∧y=.int i∧SqT K H p xs∧atI xs i=some v∧Q v H
def rIxS:R2:=fun x y H Q=>∃ z i c,x=.str z∧y=.int i∧z.length≤sizeLine∧atI z.cps.toList i=some c∧Q (.str ⟨#[c]⟩) H
theorem ix_list:IxR X (rIxL X.K):=by
  intro value slice pins s σ H x y v u Q I rx ry h hs
  obtain ⟨p,xs,i,z,rfl,rfl,hq,he,q⟩:=h
  cases rx
  obtain ⟨t,rfl⟩:=ry
  obtain ⟨its,r,pl,hz⟩:=I.list hq
  obtain ⟨j,h1,h2,h3,h4,h5⟩:=atI_get he
  obtain ⟨w,ew,rw'⟩:=r.get h2
  have hl:=r.length
  have hn:=line63
  have fin:EP X pins σ Q w s:=⟨z,H,I,rw',q⟩
  by_cases h0:0≤i
  · have hj:i.toNat=j:=by
      rw [seqIndex_of h0 h5] at h1
      exact Option.some.inj h1
    exact item_listR pl.isList h0 (by omega) (by rw [hj]; simpa using ew) fin hs
  · have hj:(i + (its.toArray.size:Int)).toNat=j:=by
      rw [seqIndex_neg (by omega) h4] at h1
      rw [List.size_toArray,← hl]
      exact Option.some.inj h1
    exact subscriptTail_builtinR (x:=w) pl.isList.typeIs slot_list_getitem.lookup
      (wpAny_getItem_list_neg (Q:=fun r s'=>r=w∧EP X pins σ Q r s') pl.isList (by omega) (by rw [List.size_toArray] <;> omega) (by omega) (by rw [hj]; simpa using ew) ⟨rfl,fin⟩) hs
theorem ix_tup:IxR X (rIxT X.K):=by
  intro value slice pins s σ H x y v u Q I rx ry h hs
  obtain ⟨p,xs,i,z,rfl,rfl,hq,he,q⟩:=h
  cases rx
  obtain ⟨t,rfl⟩:=ry
  obtain ⟨its,r,pl,hz⟩:=I.tuple hq
  obtain ⟨j,h1,h2,h3,h4,h5⟩:=atI_get he
  obtain ⟨w,ew,rw'⟩:=r.get h2
  have hl:=r.length
  have hn:=line63
  have fin:EP X pins σ Q w s:=⟨z,H,I,rw',q⟩
  exact subscriptTail_builtinR (x:=w) pl.typeIs slot_tuple_getitem.lookup
    (getItem_tuple (j:=j) (Q:=fun r s'=>r=w∧EP X pins σ Q r s') pl (by omega) (by omega) (by rw [List.size_toArray,← hl]; exact h1) (by simpa using ew) ⟨rfl,fin⟩) hs
theorem ix_str:IxR X rIxS:=by
  intro value slice pins s σ H x y v u Q I rx ry h hs
  obtain ⟨z,i,c,rfl,rfl,hz,he,q⟩:=h
  obtain ⟨t,rfl⟩:=rx
  obtain ⟨t',rfl⟩:=ry
  obtain ⟨j,h1,h2,h3,h4,h5⟩:=atI_get he
  have hl:z.cps.toList.length=z.length:=by simp [Str.length]
  rw [hl] at h1 h4 h5
  have hn:=line63
  exact tail_any (typeIs_str s z t) slot_str_getitem.lookup (getItem_str (c:=c) (by
    have e1:decide (i < -(2 ^ 63:Int))=false:=decide_eq_false (by omega)
    have e2:decide (i ≥ 2 ^ 63)=false:=decide_eq_false (by omega)
    rw [e1,e2,Bool.or_false]) (by rw [h1]; simpa using h2) ⟨.str ⟨#[c]⟩,H,I.tok _,⟨_,rfl⟩,q⟩) hs

theorem mapSeq_set (its:List Value) (n j:Nat) (u:Value):Obj.mapSeq (·.setIfInBounds j u) { cls:=.type "list",data:=.seq its.toArray n }={ cls:=.type "list",data:=.seq (its.set j u).toArray n }:=by
  simp [Obj.mapSeq]
theorem Inv.lst {pins:List (Addr × Obj)} {σ:St} {H:Hp} {s:Shared} {p:Addr} {xs:List V} (I:Inv X pins σ H s) (h:H p=some (.lst xs)) :
    ∃ (its:List Value) (n:Nat),Vals xs its∧s.heap.get? p=some { cls:=.type "list",data:=.seq its.toArray n }∧xs.length≤sizeLine:=by
  obtain ⟨z,its,n,r,e⟩:=I.hok p _ h
  exact ⟨its,n,r,e,z⟩

theorem Inv.lstUpd {pins:List (Addr × Obj)} {σ:St} {H:Hp} {s:Shared} {p:Addr} {xs ys:List V} {its its':List Value} {n n':Nat} {f:Obj→Obj} (I:Inv X pins σ H s) (h:H p=some (.lst xs))
    (ho:s.heap.get? p=some { cls:=.type "list",data:=.seq its.toArray n }) (hf:f { cls:=.type "list",data:=.seq its.toArray n }={ cls:=.type "list",data:=.seq its'.toArray n' }) (r:Vals ys its') (hz:ys.length≤sizeLine) (t:Nat) :
    Inv X pins σ (upd H p (.lst ys)) { s with heap:=s.heap.update p f,toks:=t }:=by
  have e:(s.heap.update p f).get? p=some { cls:=.type "list",data:=.seq its'.toArray n' }:=by
    rw [Heap.get?_update_self f ho (by rw [hf] <;> rfl),hf]
  refine I.write (x:=p) (e:=p) (by rw [h]; trivial) (.inl rfl) (fun b u hb q=>(Heap.get?_update_other _ _ (Ne.symm hb)).trans q) ⟨_,e⟩ ?_
  exact ⟨hz,its',n',r,e⟩
def rSetL:V→V→V→Hp→(Hp→Prop)→Prop:=fun o i v H Q=>∃ p xs k j,o=.ref p∧i=.int k∧H p=some (.lst xs)∧ixN xs.length k=some j∧Q (upd H p (.lst (xs.set j v)))
theorem set_list:PSet X rSetL:=by
  intro pins s σ H o i v ov iv u Q I ro ri rv h
  obtain ⟨p,xs,k,j,rfl,rfl,hp,hj,q⟩:=h
  cases ro
  obtain ⟨t,rfl⟩:=ri
  obtain ⟨its,n,r,ho,hz⟩:=I.lst hp
  obtain ⟨h1,h2,h3,h4⟩:=ixN_seq hj
  have hl:=r.length
  have hn:=line63
  have I':Inv X pins σ (upd H p (.lst (xs.set j v))) { s with heap:=s.heap.update p (Obj.mapSeq (·.setIfInBounds j u)) } :=
    I.lstUpd hp ho (mapSeq_set its n j u) (r.set rv j) (by rw [List.length_set]; exact hz) s.toks
  by_cases h0:0≤k
  · have hk:k.toNat=j:=by
      rw [seqIndex_of h0 h4] at h1
      exact Option.some.inj h1
    exact PySem.W.ki_setAt ho h0 (by omega) (by rw [List.size_toArray,← hl]; exact h4) (by rw [hk]; exact ⟨_,I',q⟩)
  · have hk:(k + (its.toArray.size:Int)).toNat=j:=by
      rw [seqIndex_neg (by omega) h3] at h1
      rw [List.size_toArray,← hl]
      exact Option.some.inj h1
    exact PySem.W.ki_setBack ho (by omega) (by rw [List.size_toArray,← hl]; exact h3) (by omega) (by rw [hk]; exact ⟨_,I',q⟩)


theorem slice_bounds (lo hi:Option Int) (n:Nat):(sliceBounds lo hi none n).1=((HT.sIx n 0 lo:Nat):Int)∧(sliceBounds lo hi none n).2.1=((HT.sIx n n hi:Nat):Int)∧(sliceBounds lo hi none n).2.2=1:=by
  refine ⟨?_,?_,rfl⟩
  · cases lo with
    | none=>simp [sliceBounds,HT.sIx]
    | some i =>
      simp only [sliceBounds,HT.sIx,Option.getD_none,show (1:Int) > 0 by decide,if_true]
      by_cases h:i < 0
      · simp only [h,if_true] <;> omega
      · simp only [h,if_false] <;> omega
  · cases hi with
    | none=>simp [sliceBounds,HT.sIx]
    | some i =>
      simp only [sliceBounds,HT.sIx,Option.getD_none,show (1:Int) > 0 by decide,if_true]
      by_cases h:i < 0
      · simp only [h,if_true] <;> omega
      · simp only [h,if_false] <;> omega
theorem slicePick_cut (its:List Value) (lo hi:Option Int):slicePick its.toArray lo hi none=((its.drop (HT.sIx its.length 0 lo)).take (HT.sIx its.length its.length hi - HT.sIx its.length 0 lo)).toArray:=by
  obtain ⟨h1,h2,h3⟩:=slice_bounds lo hi its.toArray.size
  unfold slicePick
  rw [h1,h2,h3]
  simp only [sliceRange_one,pick_run,List.size_toArray] <;> rfl

def rSlL (K:PySem.W.Frag):V→Option Int→Option Int→Hp→VK→Prop:=fun x lo hi H Q=>∃ a xs,x=.ref a∧SqL K H a xs∧∀ p,H p=none→Q (.ref p) (upd H p (.lst (cutV xs lo hi)))
theorem sl_list:SlR X (rSlL X.K):=by
  intro pins s σ H x v vl vu lo hi sl Q I rx hs pl pu h
  obtain ⟨a,xs,rfl,hx,q⟩:=h
  cases rx
  obtain ⟨its,r,ht,hz⟩:=I.list hx
  have hlen:=r.length
  refine ⟨"list",_,slot_list_getitem.lookup,ht.isList.typeIs,?_⟩
  refine wpAny_getItem_list_slice ht.isList hs pl pu .none (by simp) ?_ (by rw [List.size_toArray] <;> omega)
  rw [slicePick_cut,← hlen]
  refine ⟨.ref s.heap.objs.size,_,I.laid (t':=s.toks) (o:=.lst (cutV xs lo hi)) (fun b ob q=>Heap.get?_push_of_some _ q) (Nat.le_refl _) ?_,rfl,q _ (I.hok.fresh (Nat.le_refl _))⟩
  exact ⟨Nat.le_trans (cutV_length xs lo hi) hz,_,0,(r.drop (HT.sIx xs.length 0 lo)).take (HT.sIx xs.length xs.length hi - HT.sIx xs.length 0 lo),Heap.get?_push_size _ rfl⟩


theorem call_list_of:CallR X (.type "list") (fun xs H Q=>∃ p ys,xs=[.ref p]∧(SqL X.K H p ys∨SqT X.K H p ys)∧∀ l,H l=none→Q (.ref l) (upd H l (.lst ys))):=by
  intro pins s σ H xs us Q I r h
  obtain ⟨p,ys,rfl,hq,q⟩:=h
  obtain ⟨u,rfl,rx⟩:=vals1 r
  cases rx
  have fin:∀ (its:List Value),Vals ys its→ys.length≤sizeLine→∀ (h':Heap) (c':Nat),(∀ b o',s.heap.get? b=some o'→h'.get? b=some o') →
      h'.get? s.heap.objs.size=some { cls:=.type "list",dict:=none,data:=.seq its.toArray c',slots := #[] }→EP X pins σ Q (.ref s.heap.objs.size) { s with heap:=h' }:=fun its r' hz h' c' kp e =>
    ⟨.ref s.heap.objs.size,_,I.laid (t':=s.toks) kp (Nat.le_refl _) (show ObjOk X.prog X.w _ h' _ (.lst ys) from ⟨hz,its,c',r',e⟩),rfl,q _ (I.hok.fresh (Nat.le_refl _))⟩
  rcases hq with hq | hq
  · obtain ⟨its,r',pl,hz⟩:=I.list hq
    have hlen:=r'.length
    obtain ⟨o,ho,hc,n,hd⟩:=pl.isList
    exact call_list_seq p (.inl rfl) ho hc hd (fun h' c' kp e=>fin its r' hz h' c' kp e) (by simp only [List.size_toArray] <;> omega)
  · obtain ⟨its,r',pl,hz⟩:=I.tuple hq
    have hlen:=r'.length
    obtain ⟨o,ho,hc,n,hd⟩:=pl
    exact call_list_seq p (.inr rfl) ho hc hd (fun h' c' kp e=>fin its r' hz h' c' kp e) (by simp only [List.size_toArray] <;> omega)
theorem call_tuple_of:CallR X (.type "tuple") (fun xs H Q=>∃ p ys,xs=[.ref p]∧((SqL X.K H p ys∧∀ l,H l=none→Q (.ref l) (upd H l (.tup ys)))∨(SqT X.K H p ys∧Q (.ref p) H))):=by
  intro pins s σ H xs us Q I r h
  obtain ⟨p,ys,rfl,h⟩:=h
  obtain ⟨u,rfl,rx⟩:=vals1 r
  cases rx
  rcases h with ⟨hq,q⟩ | ⟨hq,q⟩
  · obtain ⟨its,r',pl,hz⟩:=I.list hq
    have hlen:=r'.length
    refine call_tuple_list pl.isList (fun h' kp => ?_) (by simp only [List.size_toArray] <;> omega)
    have I1:Inv X pins σ H { s with heap:=h' }:=I.kept (t':=s.toks) kp
    have I2:Inv X pins σ (upd H h'.objs.size (.tup ys)) { s with heap:=h'.push { cls:=.type "tuple",data:=.seq its.toArray } } :=
      I1.laid (t':=s.toks) (fun b o e=>Heap.get?_push_of_some _ e) (Nat.le_refl _) (show ObjOk X.prog X.w _ _ _ (.tup ys) from ⟨hz,its,r',IsTup.new _ _⟩)
    exact ⟨.ref h'.objs.size,_,I2,rfl,q _ (I1.hok.fresh (Nat.le_refl _))⟩
  · obtain ⟨its,r',pl,hz⟩:=I.tuple hq
    exact call_tuple_same pl ⟨.ref p,H,I,rfl,q⟩



def tyV (K:PySem.W.Frag) (T:String) (x:V) (H:Hp):Prop:=match x with
  | .str _=>T = "str"
  | .int _=>T = "int"
  | .ref p=>(T = "list" ∧ ∃ xs,SqL K H p xs)∨(T = "tuple" ∧ ∃ o,K.lookup p=some o∧o.cls=.type "tuple" ∧ o.dict=none) ∨
      (T = "dict" ∧ ((∃ kvs,H p=some (.dK kvs))∨∃ kvs,H p=some (.dT kvs)))∨(T = "set" ∧ ∃ S n,H p=some (.set S n))
  | _=>False
theorem tyV_is {pins:List (Addr × Obj)} {σ:St} {H:Hp} {s:Shared} {T:String} {x:V} {v:Value} (I:Inv X pins σ H s) (r:RelV x v) (ty:tyV X.K T x H) :
    s.TypeIs v T∧∀ a,v=.ref a→∃ ob,s.heap.get? a=some ob∧ob.dict=none:=by
  cases x with
  | str z =>
    obtain ⟨t,rfl⟩:=r
    cases (show T = "str" from ty)
    exact ⟨typeIs_str s z t,fun _ e=>nomatch e⟩
  | int i =>
    obtain ⟨t,rfl⟩:=r
    cases (show T = "int" from ty)
    exact ⟨typeIs_int s i t,fun _ e=>nomatch e⟩
  | ref p =>
    cases r
    rcases ty with ⟨rfl,xs,hq⟩ | ⟨rfl,o,hk,hc,hd⟩ | ⟨rfl,hk⟩ | ⟨rfl,S,n,hk⟩
    · obtain ⟨its,_,pl,_⟩:=I.list hq
      refine ⟨pl.isList.typeIs,fun a e => ?_⟩
      cases e
      obtain ⟨o,n,e,c,hd,_⟩:=pl
      exact ⟨o,e,hd⟩
    · refine ⟨⟨o,I.kIn p o hk,hc⟩,fun a e => ?_⟩
      cases e
      exact ⟨o,I.kIn _ o hk,hd⟩
    · have z:∃ o,s.heap.get? p=some o∧o.ExactDict:=by
        rcases hk with ⟨kvs,hk⟩ | ⟨kvs,hk⟩
        · obtain ⟨_,_,_,_,o,_,_,e,ex,_⟩:=I.hok p _ hk
          exact ⟨o,e,ex⟩
        · obtain ⟨_,_,_,_,o,_,_,e,ex,_⟩:=I.hok p _ hk
          exact ⟨o,e,ex⟩
      obtain ⟨o,e,ex⟩:=z
      refine ⟨⟨o,e,ex.1⟩,fun a e2 => ?_⟩
      cases e2
      exact ⟨o,e,ex.2.1⟩
    · obtain ⟨o,_,_,_,e,ex,_⟩:=I.hok p _ hk
      refine ⟨⟨o,e,ex.1⟩,fun a e2 => ?_⟩
      cases e2
      exact ⟨o,e,ex.2.1⟩
  | _=>exact False.elim ty
def tBM (K:PySem.W.Frag) (T:String) (r:V→List V→Hp→VK→Prop) (to:TE) (t:TA):TE:=fun σ H Q=>to σ H fun x H1=>tyV K T x H1∧t σ H1 fun xs H2=>r x xs H2 Q
variable {o e:Expr} {es:List Expr} {to:TE} {t:TA} {name:Str} {apos cpos:Pos} {T id:String} {r:V→List V→Hp→VK→Prop}
theorem pe_bm (pa:PlainAttrs T) (slot:Slot T name id) (hty:typeOf (.builtin id)=pure (.type "method_descriptor")) (hm:MtR X id r) (ho:PE X o to) (ha:PA X (e::es) t)
    (hbase:attributeBase o name X.env (eval o X.env)=eval o X.env:=by rfl)
    (hfew:((backTo cpos (starEach (e::es) X.env)).all (fun x => !x.1) && (backToKw cpos (keywordEach [] X.env)).all (fun x=>x.1.isSome)
      && decide ((e::es).length + ([]:List Keyword).length + (if ([]:List Keyword).isEmpty then 0 else 1) < 30))=true:=by rfl)
    (hline:(apos.endLine == cpos.line)=true:=by rfl) (hs:starEach (e::es) X.env=(false,eval e X.env)::starEach es X.env:=by rfl) (hplain:(backTo cpos (starEach es X.env)).any (·.1)=false:=by rfl) :
    PE X (.Call (.Attribute o name apos) (e::es) [] cpos) (tBM X.K T r to t):=by
  intro pins s σ H Q I h
  refine wpAny_Call_method_late hbase hfew hline rfl (thn (ho pins s σ H _ I h) fun v s1 ⟨x,H1,I1,r1,ty,q1⟩ => ?_)
  obtain ⟨h1,h2⟩:=tyV_is I1 r1 ty
  refine ⟨T,id,pa,slot,hty,h1,h2,?_⟩
  have hA:=ha cpos pins s1 σ H1 _ I1 q1
  rw [hs] at hA ⊢
  refine Calls.callWith_builtin (by show (false || (backTo cpos (starEach es X.env)).any (·.1))=false; rw [hplain] <;> rfl) (Calls.evalArgs_plain ?_)
  exact thn hA fun us s2 ⟨vs,H2,I2,r2,q2⟩=>hm pins s2 σ H2 x vs v us Q I2 r1 r2 q2

end
end L2

namespace L2
open PySem PySem.Spec PyProof.Rows

def MtM (X:Cx) (id:String) (r:V→List V→Hp→VK→Prop):Prop :=
  ∀ (pins:List (Addr × Obj)) (s:Shared) (σ:St) (H:Hp) (x:V) (xs:List V) (v:Value) (us:List Value) (Q:VK),Inv X pins σ H s→RelV x v→Vals xs us→r x xs H Q →
    wpAny (model X.prog X.w) X.A (call (.builtin id) (v::us)) (EP X pins σ Q) X.xe s


theorem Vals.one:∀ {x:V} {us:List Value},Vals [x] us→∃ u,us=[u]∧RelV x u
  | _,_,.cons r .nil=>⟨_,rfl,r⟩
section
variable {X:Cx} {pins:List (Addr × Obj)} {σ:St} {H:Hp} {s:Shared} {l b:Addr} {xs ys zs:List V}


theorem Inv.lset {its its':List Value} {n:Nat} {f:Array Value→Array Value} {t':Nat} (I:Inv X pins σ H s) (hH:H l=some (.lst xs))
    (e:s.heap.get? l=some { cls:=.type "list",data:=.seq its.toArray n }) (hf:f its.toArray=its'.toArray) (hv:Vals ys its') (hz:ys.length≤sizeLine) :
    Inv X pins σ (upd H l (.lst ys)) { s with heap:=s.heap.update l (Obj.mapSeq f),toks:=t' }:=by
  have q:=PySem.IsL.update e f
  rw [hf] at q
  refine I.write (x:=l) (e:=l) (by rw [hH]; exact trivial) (.inl rfl) (fun b' u hb hu=>(Heap.get?_update_other s.heap (Obj.mapSeq f) (Ne.symm hb)).trans hu) ⟨_,q⟩ ?_
  exact ⟨hz,its',_,hv,q⟩
theorem Inv.lnew {its:List Value} {t':Nat} (I:Inv X pins σ H s) (hv:Vals ys its) (hz:ys.length≤sizeLine) :
    Inv X pins σ (upd H s.heap.objs.size (.lst ys)) { s with heap:=s.heap.push { cls:=.type "list",data:=.seq its.toArray },toks:=t' } :=
  I.laid (fun _ _ q=>Heap.get?_push_of_some _ q) (Nat.le_refl _) ⟨hz,its,0,hv,Heap.get?_push_size _ rfl⟩
theorem Inv.fresh (I:Inv X pins σ H s):H s.heap.objs.size=none:=I.hok.fresh (Nat.le_refl _)
theorem Inv.lstM (I:Inv X pins σ H s) (hH:H l=some (.lst xs)):xs.length≤sizeLine∧∃ (its:List Value) (n:Nat),Vals xs its∧xs.length=its.length∧s.heap.get? l=some { cls:=.type "list",data:=.seq its.toArray n }:=by
  obtain ⟨z,its,n,r,e⟩:=I.hok l _ hH
  exact ⟨z,its,n,r,r.length,e⟩

theorem notLongL {n:Nat} (h:n≤sizeLine):Builtin.List.listTooLong n=false:=by
  unfold Builtin.List.listTooLong
  exact decide_eq_false (by omega)
end

section
variable {X:Cx}


def rAppend:V→List V→Hp→VK→Prop:=fun x vs H Q=>∃ l xs y,x=.ref l∧vs=[y]∧H l=some (.lst xs)∧xs.length < sizeLine∧Q .non (upd H l (.lst (xs++[y])))
theorem mt_append:MtM X "list.append" rAppend:=by
  intro pins s σ H x vs v us Q I rx rv h
  obtain ⟨l,xs,y,rfl,rfl,hH,hz,q⟩:=h
  cases rx
  obtain ⟨u,rfl,ru⟩:=rv.one
  obtain ⟨z,its,n,r,hl,e⟩:=I.lstM hH
  refine call_meets F.slot_list_append ⟨_,e,rfl⟩ F.entry_list_append (F.args_list_append_2 _ _) (PySem.list_append l its.toArray n u (by rw [List.size_toArray]; omega)) ⟨e,?_⟩
  refine ⟨.non,_,I.lset (its':=its++[u]) hH e (by simp) (r.append (.cons ru .nil)) ?_,rfl,q⟩
  rw [List.length_append,List.length_singleton]
  omega

def rExtend:V→List V→Hp→VK→Prop:=fun x vs H Q=>∃ l b xs zs,x=.ref l∧vs=[.ref b]∧H l=some (.lst xs)∧H b=some (.lst zs)∧xs.length + zs.length≤sizeLine∧Q .non (upd H l (.lst (xs++zs)))
theorem mt_extend:MtM X "list.extend" rExtend:=by
  intro pins s σ H x vs v us Q I rx rv h
  obtain ⟨l,b,xs,zs,rfl,rfl,hH,hB,hz,q⟩:=h
  cases rx
  obtain ⟨u,rfl,ru⟩:=rv.one
  cases ru
  obtain ⟨z,its,n,r,hl,e⟩:=I.lstM hH
  obtain ⟨z2,its2,n2,r2,hl2,e2⟩:=I.lstM hB
  have hsz:its.toArray.size + its2.toArray.size≤sizeLine:=by rw [List.size_toArray,List.size_toArray]; omega
  have hlong:¬ (!its.toArray.isEmpty && Builtin.List.listTooLong (its.toArray.size + its2.toArray.size))=true:=by
    rw [notLongL hsz,Bool.and_false]
    exact Bool.false_ne_true
  refine call_meets F.slot_list_extend ⟨_,e,rfl⟩ F.entry_list_extend (F.args_list_extend_2 _ _)
    (AutoSeq1.list_extend_list_list_0 l its.toArray n b its2.toArray n2 hlong (by rw [List.size_toArray]; omega) (by omega)) ⟨e,e2,?_⟩
  refine ⟨.non,_,I.lset (its':=its++its2) hH e (by simp) (r.append r2) ?_,rfl,q⟩
  rw [List.length_append]
  omega

def rCat:R2:=fun x y H Q=>∃ l b xs zs,x=.ref l∧y=.ref b∧H l=some (.lst xs)∧H b=some (.lst zs)∧xs.length + zs.length≤sizeLine∧∀ p,H p=none→Q (.ref p) (upd H p (.lst (xs++zs)))
theorem op_cat:OpR X (binaryOp .Add) rCat:=by
  intro pins s σ H x y v u Q I rx ry h
  obtain ⟨l,b,xs,zs,rfl,rfl,hH,hB,hz,q⟩:=h
  cases rx
  cases ry
  obtain ⟨z,its,n,r,hl,e⟩:=I.lstM hH
  obtain ⟨z2,its2,n2,r2,hl2,e2⟩:=I.lstM hB
  refine PySem.P.add_list e e2 ?_ (by rw [List.size_toArray,List.size_toArray]; omega)
  have ea:its.toArray++its2.toArray=(its++its2).toArray:=by simp
  rw [ea]
  exact ⟨.ref _,_,I.lnew (t':=s.toks) (r.append r2) (by rw [List.length_append]; omega),rfl,q _ I.fresh⟩

end


section
variable {prog:Program} {w:World} {A:Around} {E:Value→Shared→Prop} {s:Shared}
set_option maxRecDepth 100000 in

end

section
variable {X:Cx}

end
end L2

namespace Att
open PySem PySem.W PySem.Calls PyProof.Rows


theorem ints_of_wellAll {P:Params} {h:Heap}:∀ (ns:List Int) (vs:List Value),WellAll P h vs (ns.map WData.int)→IntsAre vs ns:=by
  intro ns
  induction ns with
  | nil =>
    intro vs w
    rw [List.map_nil] at w
    cases w
    exact .nil
  | cons n ns ih =>
    intro vs w
    rw [List.map_cons] at w
    cases w with
    | cons a b =>
      cases a
      exact .cons _ _ (ih _ b)

theorem script_of {l:OpenLaw} {n:Nat} (hn:l.most=some n) {P:Params} {h:Heap} {args:List WData} {vals:List Value}
    (hpre:l.row.toRowW.claim.pre args=true) (hwl:WellAll P h vals args) :
    ∃ a vs ns,vals=[Value.ref a]∧args=[WData.list (ns.map WData.int)]∧h.get? a=some { cls:=.type "list",data:=.seq vs.toArray }∧IntsAre vs ns∧ns.length≤n:=by
  have hsh:WShape.hasAll [] args [.list .int]=true:=(pre_splitW hpre).1
  have hc:l.pre.holds [] { args:=args }=true:=(pre_splitW hpre).2
  obtain ⟨d,r,rfl,h1,h2⟩:=hasAllW_cons hsh
  obtain rfl:=hasAllW_nil h2
  obtain ⟨xs,rfl,h3⟩:=hasW_list h1
  obtain ⟨ns,rfl⟩:=items_int h3
  have hlen:ns.length≤n:=by
    unfold OpenLaw.pre at hc
    have h4:(WTm.not (.lt (.lit (.int (n:Int))) (.len (.arg 0)))).holds [] { args:=[.list (ns.map .int)] }=true:=by
      have h4:=(holds_andW hc).1
      rw [hn] at h4
      exact h4
    have h5:=condW_of h4 (w_not (w_lt w_lit (w_len_list (w_arg rfl))))
    rw [List.length_map] at h5
    refine Nat.le_of_not_lt fun q => ?_
    have q':(n:Int) < ((ns.length:Nat):Int):=by omega
    first
      | (rw [decide_eq_true q'] at h5; exact absurd h5 (by decide))
      | (simp at h5; omega)
  cases hwl with
  | cons w1 w2 =>
    cases w2
    cases w1 with
    | list ho hall=>exact ⟨_,_,ns,rfl,rfl,ho,ints_of_wellAll ns _ hall,hlen⟩

theorem post_true (l:OpenLaw) (args:List WData):l.row.toRowW.claim.post args (.bool true) args=true :=
  postW_of (r:=l.row.toRowW) (X:=(true == true))
    (show WShape.has [] (.bool true) .bool=true by first | rfl | decide | simp [WShape.has,WShape.arms,WShape.armsAll])
    (show (WTm.eq .res (.lit (.bool true))).value [] { args:=args,res:=some (.bool true),after:=args }=some (.bool (true == true)) from w_eq_bool (w_res rfl) w_lit) rfl


theorem attach_call {l:OpenLaw} {n:Nat} {q:Program} {loose:List Str} {XP:(Str→Option Value)→Heap→Prop} {YP:World→Heap→Prop} {d:DefRec}
    (hn:l.most=some n) (hdf:d.params.defaults=[])
    (call:∀ (w:World) (s₀ s₁:Shared) (mg mb:Str→Option Value) (fa:Addr) (o:Obj) (pm cd doc:Value) (a:Addr) (vs:List Value) (ns:List Int),
      Ground q loose [] XP w s₀ mg mb s₁.heap→YP w s₁.heap →
      s₁.heap.get? fa=some o→o.data=.func (docDef d.name d.params d.body d.scope pm cd doc)→s₁.heap.CodeRec cd d.name→mg d.name=some (.ref fa) →
      s₁.heap.get? a=some { cls:=.type "list",data:=.seq vs.toArray }→IntsAre vs ns→ns.length≤n→s₁.gens = #[] →
      codeAny (model l.prog w) callerA (.call (.ref fa) ⟨[.ref a],[]⟩) (fun r s'=>r=.ok (.ret (.bool true))∧OldK s₁.heap s'.heap∧s'.os=s₁.os∧AllBare s'.gens) s₁) :
    WalkO q loose XP YP l.row.toRowW d [] (fun f vs=>PySem.call f vs):=by
  intro w s₀ s₁ mg mb G Y fa o pm cd doc dV kV ho hd hcd hD hmg hg args vals as hpre hlay hrd hwl hlo
  obtain rfl:dV=.none:=Dflts.none hD hdf
  obtain rfl:kV=.none:=Dflts.noKw hD
  obtain ⟨a,vs,ns,rfl,rfl,hobj,hints,hlen⟩:=script_of hn hpre hwl
  refine enter_call (codeAny_mono (call w s₀ s₁ mg mb fa o pm cd doc a vs ns G Y ho (fd_plain hd) hcd hmg hobj hints hlen hg) fun r s' hq => ?_)
  obtain ⟨rfl,h2,h3,h4⟩:=hq
  exact ⟨.inl ⟨.bool true,.bool true,[],rfl,fun _=>rfl,.bool true,post_true l _,fun _=>⟨List.Pairwise.nil,fun _ hm=>(nomatch hm)⟩⟩,h2,h3,h4⟩


section
variable {prog:Program} {w:World} {A:Around} {E:Value→Shared→Prop} {s:Shared} {K:Frag}


end
end Att

namespace L2
open PySem PySem.Spec PyProof.Rows

theorem vals_ints:∀ {vs:List Value} {ns:List Int},IntsAre vs ns→Vals (ns.map V.int) vs
  | _,_,.nil=>.nil
  | _,_,.cons n t h=>.cons ⟨t,rfl⟩ (vals_ints h)


end L2

namespace L2
open PySem PySem.Spec PyProof.Rows

end L2




namespace L2
open PySem PySem.Spec PyProof.Rows



def defArgs (s:Stmt):Arguments:=match s with
  | .FunctionDef _ a _ _ _ _ _ _ _ _=>a
  | _=>{ posonlyargs:=[],args:=[],vararg:=none,kwonlyargs:=[],kw_defaults:=[],kwarg:=none,defaults:=[] }
def defBody (s:Stmt):List Stmt:=match s with
  | .FunctionDef _ _ b _ _ _ _ _ _ _=>b
  | _=>[]
def defScope (s:Stmt):Scope:=match s with
  | .FunctionDef _ _ _ _ _ _ sc _ _ _=>sc
  | _=>{ kind:=.function,names:=[],isGenerator:=false,isCoroutine:=false }


abbrev E0:XK:=fun _ _ _=>False
section
variable {P:Program} {w:World} {K:PySem.W.Frag} {mg:Str→Option Value} {base:Heap}

end
theorem small1000 {n:Nat} (h:n≤1000):n < sizeLine:=Nat.lt_of_le_of_lt h (by decide)


section
variable {X:Cx}
theorem pv (i:Nat) {x:Str} {pos:Pos} (hN:X.N[i]? = some x:=by rfl) (hv:Vis X.env.scope x:=by first | exact Or.inl rfl | exact Or.inr (Or.inl rfl) | exact Or.inr (Or.inr rfl)) (hd:(x == ("__debug__" : Str))=false:=by decide)
    (hcd:(x == ("__classdict__" : Str))=false:=by decide):PE X (.Name x pos) (tVar i):=pe_var hN hv hd hcd
end


theorem iteF {A B:Prop} (h:B):if false=true then A else B:=by
  rw [if_neg Bool.false_ne_true]
  exact h
theorem iteT {A B:Prop} (h:A):if true=true then A else B:=by
  rw [if_pos rfl]
  exact h
theorem ite2 {c A B:Prop} [Decidable c] (h1:c→A) (h2:¬ c→B):if c then A else B:=by
  by_cases h:c
  · rw [if_pos h]
    exact h1 h
  · rw [if_neg h]
    exact h2 h
theorem iteNS {c A B:Prop} [Decidable c] (hc:c) (h:B):if (!decide c)=true then A else B:=by
  rw [decide_eq_true hc]
  exact iteF h



def Same (H H':Hp):Prop:=∀ b o,H b=some o→H' b=some o
theorem Same.refl (H:Hp):Same H H:=fun _ _ h=>h
theorem Same.trans {H H1 H2:Hp} (a:Same H H1) (b:Same H1 H2):Same H H2:=fun c o h=>b c o (a c o h)
theorem Same.seq {K:PySem.W.Frag} {H H':Hp} {a:Addr} {xs:List V} (e:Same H H') (h:SqL K H a xs):SqL K H' a xs:=by
  rcases h with (h | ⟨o,h⟩) | h
  · exact .inl (.inl (e _ _ h))
  · exact .inl (.inr ⟨o,e _ _ h⟩)
  · exact .inr h

end L2
namespace L2
open PySem PySem.Spec PyProof.Rows


section
variable {κ:Type} [DecidableEq κ]
def valV (kvs:List (κ × V)) (k:κ):Option V:=(kvs.find? fun kv=>decide (kv.1=k)).map (·.2)

def putK (kvs:List (κ × V)) (k:κ) (v:V):List (κ × V) :=
  if (kvs.any fun kv=>decide (kv.1=k))=true then kvs.map (fun kv=>if kv.1=k then (kv.1,v) else kv) else kvs++[(k,v)]
theorem valV_pos {p:κ × V} {r:List (κ × V)} {k:κ} (e:p.1=k):valV (p::r) k=some p.2:=by simp [valV,List.find?_cons,e]
theorem valV_neg {p:κ × V} {r:List (κ × V)} {k:κ} (e:¬ p.1=k):valV (p::r) k=valV r k:=by simp [valV,List.find?_cons,e]
theorem valV_any (k:κ):∀ kvs:List (κ × V),(kvs.any fun kv=>decide (kv.1=k))=(valV kvs k).isSome
  | []=>rfl
  | p::r=>by
    rw [List.any_cons]
    by_cases e:p.1=k
    · simp only [valV_pos e,decide_eq_true e,Bool.true_or,Option.isSome_some]
    · rw [valV_neg e,decide_eq_false e,Bool.false_or]; exact valV_any k r
theorem length_putK (kvs:List (κ × V)) (k:κ) (v:V):(putK kvs k v).length≤kvs.length + 1:=by
  unfold putK
  split
  · rw [List.length_map]; omega
  · rw [List.length_append,List.length_cons,List.length_nil]; omega
theorem RelO.isSome_eq {o:Option V} {u:Option Value} (r:RelO o u):o.isSome=u.isSome:=by
  cases o with
  | none=>cases u with
    | none=>rfl
    | some _=>exact (show False from r).elim
  | some _=>cases u with
    | none=>exact (show False from r).elim
    | some _=>rfl
theorem RelO.getD {o:Option V} {u:Option Value} {d:V} {d':Value} (r:RelO o u) (rd:RelV d d'):RelV (o.getD d) (u.getD d'):=by
  cases o with
  | none=>cases u with
    | none=>exact rd
    | some _=>exact (show False from r).elim
  | some _=>cases u with
    | none=>exact (show False from r).elim
    | some _=>exact r


theorem KV.val {kvs:List (κ × V)} {vs:List (κ × Value)} (r:KV kvs vs) (k:κ):RelO (valV kvs k) (valueAt vs k):=by
  unfold KV at r
  induction r with
  | nil=>exact True.intro
  | @cons p q ps qs h t ih =>
    obtain ⟨h1,h2⟩:=h
    by_cases e:p.1=k
    · have e':q.1=k:=h1.symm.trans e
      have b:valueAt (q::qs) k=some q.2:=by simp [valueAt,List.find?_cons,e']
      rw [valV_pos e,b]; exact h2
    · have e':¬ q.1=k:=fun z=>e (h1.trans z)
      have b:valueAt (q::qs) k=valueAt qs k:=by simp [valueAt,List.find?_cons,e']
      rw [valV_neg e,b]; exact ih
theorem KV.any {kvs:List (κ × V)} {vs:List (κ × Value)} (r:KV kvs vs) (k:κ):(kvs.any fun kv=>decide (kv.1=k))=vs.any fun kv=>decide (kv.1=k):=by
  unfold KV at r
  induction r with
  | nil=>rfl
  | cons h t ih=>rw [List.any_cons,List.any_cons,ih,h.1]
theorem KV.repl {kvs:List (κ × V)} {vs:List (κ × Value)} (r:KV kvs vs) (k:κ) {y:V} {u:Value} (ry:RelV y u) :
    KV (kvs.map fun kv=>if kv.1=k then (kv.1,y) else kv) (vs.map fun kv=>if kv.1=k then (kv.1,u) else kv):=by
  unfold KV at r ⊢
  induction r with
  | nil=>exact .nil
  | @cons p q ps qs h t ih =>
    rw [List.map_cons,List.map_cons]
    refine .cons ?_ ih
    obtain ⟨h1,h2⟩:=h
    by_cases e:p.1=k
    · rw [if_pos e,if_pos (h1.symm.trans e)]; exact ⟨h1,ry⟩
    · rw [if_neg e,if_neg (fun z=>e (h1.trans z))]; exact ⟨h1,h2⟩
theorem KV.put {kvs:List (κ × V)} {vs:List (κ × Value)} (r:KV kvs vs) (k:κ) {y:V} {u:Value} (ry:RelV y u):KV (putK kvs k y) (stored vs k u):=by
  unfold putK stored
  rw [r.any k]
  by_cases e:(vs.any fun kv=>decide (kv.1=k))=true
  · rw [if_pos e,if_pos e]; exact r.repl k ry
  · rw [if_neg e,if_neg e]; exact Paired.snoc r ⟨rfl,ry⟩
theorem KV.length {kvs:List (κ × V)} {vs:List (κ × Value)} (r:KV kvs vs):kvs.length=vs.length:=Paired.length r
end



theorem kV_is {P:Program} {w:World} {k:Key} {u:Value} (r:RelV (kV k) u):(mixKind P w).is k u=true:=by
  cases k with
  | inl i=>obtain ⟨t,e⟩:=(show ∃ t,u=Value.int i t from r); subst e; exact mixKind_int P w i t
  | inr x=>obtain ⟨t,e⟩:=(show ∃ t,u=Value.str x t from r); subst e; exact mixKind_str P w x t
theorem items_are {P:Program} {w:World}:∀ {ks:List Key} {us:List Value},Vals (ks.map kV) us→ItemsAre (mixKind P w) ks us
  | [],_,r=>by rw [List.map_nil] at r; cases r; exact .nil
  | k::ks,_,r=>by
    rw [List.map_cons] at r
    cases r with
    | cons h t=>exact .cons (kV_is h) (items_are t)


abbrev KT (H:Hp):List (List Key × V)→List (List Key × Addr × Value)→Prop:=Paired fun p q=>p.1=q.1∧H q.2.1=some (.tup (p.1.map kV))∧RelV p.2 q.2.2
theorem KT.val {H:Hp} {kvs:List (List Key × V)} {xs:List (List Key × Addr × Value)} (r:KT H kvs xs) (k:List Key):RelO (valV kvs k) ((atKey xs k).map (·.2)):=by
  induction r with
  | nil=>exact True.intro
  | @cons p q ps qs h t ih =>
    obtain ⟨h1,_,h2⟩:=h
    by_cases e:p.1=k
    · have e':q.1=k:=h1.symm.trans e
      have b:atKey (q::qs) k=some q.2:=by simp [atKey,List.find?_cons,e']
      rw [valV_pos e,b]; exact h2
    · have e':¬ q.1=k:=fun z=>e (h1.trans z)
      have b:atKey (q::qs) k=atKey qs k:=by simp [atKey,List.find?_cons,e']
      rw [valV_neg e,b]; exact ih
theorem KT.repl {H:Hp} {kvs:List (List Key × V)} {xs:List (List Key × Addr × Value)} (r:KT H kvs xs) (k:List Key) {y:V} {u:Value} (ry:RelV y u) :
    KT H (kvs.map fun kv=>if kv.1=k then (kv.1,y) else kv) (xs.map (putAt k u)):=by
  induction r with
  | nil=>exact .nil
  | @cons p q ps qs h t ih =>
    rw [List.map_cons,List.map_cons]
    refine .cons ?_ ih
    obtain ⟨h1,h2,h3⟩:=h
    unfold putAt
    by_cases e:p.1=k
    · rw [if_pos e,if_pos (h1.symm.trans e)]; exact ⟨h1,h2,ry⟩
    · rw [if_neg e,if_neg (fun z=>e (h1.trans z))]; exact ⟨h1,h2,h3⟩
theorem KT.put {H:Hp} {kvs:List (List Key × V)} {xs:List (List Key × Addr × Value)} (r:KT H kvs xs) (k:List Key) {b:Addr} {y:V} {u:Value} (hb:H b=some (.tup (k.map kV))) (ry:RelV y u) :
    KT H (putK kvs k y) (storedH xs k b u):=by
  have e:(kvs.any fun kv=>decide (kv.1=k))=(atKey xs k).isSome:=by
    rw [valV_any,(r.val k).isSome_eq,Option.isSome_map]
  unfold putK storedH
  rw [e]
  by_cases q:(atKey xs k).isSome=true
  · rw [if_pos q,if_pos q]; exact r.repl k ry
  · rw [if_neg q,if_neg q]; exact Paired.snoc r ⟨rfl,hb,ry⟩
theorem KT.keeps {H H':Hp} {kvs:List (List Key × V)} {xs:List (List Key × Addr × Value)} (r:KT H kvs xs) (ht:∀ b ys,H b=some (.tup ys)→H' b=some (.tup ys)):KT H' kvs xs :=
  Paired.mapP r fun _ _ z=>⟨z.1,ht _ _ z.2.1,z.2.2⟩

section
variable {P:Program} {w:World} {H:Hp} {h:Heap} {a:Addr}
theorem rd_of {u:HO} (ok:HOk P w H h) (e:Rd H a u):ObjOk P w H h a u:=e.ok ok
theorem dk_rd {kvs:List (Key × V)} (ok:HOk P w H h) (e:Rd H a (.dK kvs)):kvs.length≤sizeLine∧(a == sysModules)=false∧∃ vs,KV kvs vs∧h.DictOf (mixKind P w) a vs :=
  show ObjOk P w H h a (.dK kvs) from rd_of ok e
theorem dk_of {kvs:List (Key × V)} (ok:HOk P w H h) (e:H a=some (.dK kvs)):kvs.length≤sizeLine∧(a == sysModules)=false∧∃ vs,KV kvs vs∧h.DictOf (mixKind P w) a vs:=dk_rd ok (.inl e)

theorem key_of {ks:List Key} (ok:HOk P w H h) (e:H a=some (.tup (ks.map kV))):(tupleKind (mixKind P w)).is h ks a:=by
  obtain ⟨_,its,r,o,h1,h2,n,h3⟩:=(show ObjOk P w H h a (.tup (ks.map kV)) from ok a _ e)
  exact ⟨o,its.toArray,n,h1,h2,h3,by simpa using items_are r⟩
theorem dt_rd {kvs:List (List Key × V)} (ok:HOk P w H h) (e:Rd H a (.dT kvs)):kvs.length≤sizeLine∧(a == sysModules)=false ∧
    ∃ xs,KT H kvs xs∧h.DictOfH (tupleKind (mixKind P w)) a xs:=by
  obtain ⟨z,y,xs,r,o,es,ep,h1,h2,h3,h4,h5⟩:=(show ObjOk P w H h a (.dT kvs) from rd_of ok e)
  refine ⟨z,y,xs,r,o,es,ep,h1,h2,h3,h4,fun x hx => ?_,h5⟩
  have all:∀ {l:List (List Key × V)} {m:List (List Key × Addr × Value)},KT H l m→∀ x∈m,(tupleKind (mixKind P w)).is h x.1 x.2.1:=by
    intro l m q
    induction q with
    | nil=>intro x hx; exact nomatch hx
    | @cons p q ps qs hq t ih =>
      intro x hx
      rcases List.mem_cons.mp hx with e | hx
      · subst e
        exact key_of ok (by rw [← hq.1]; exact hq.2.1)
      · exact ih x hx
  exact all r x hx
theorem dt_of {kvs:List (List Key × V)} (ok:HOk P w H h) (e:H a=some (.dT kvs)):kvs.length≤sizeLine∧(a == sysModules)=false ∧
    ∃ xs,KT H kvs xs∧h.DictOfH (tupleKind (mixKind P w)) a xs:=dt_rd ok (.inl e)
end


def DGet (H:Hp) (a:Addr) (y:V) (r:Option V):Prop :=
  (∃ kvs k,Rd H a (.dK kvs)∧y=kV k∧r=valV kvs k)∨∃ kvs k b,Rd H a (.dT kvs)∧y=.ref b∧H b=some (.tup (k.map kV))∧r=valV kvs k

def DPut (H:Hp) (a:Addr) (y v:V) (H':Hp):Prop :=
  (∃ kvs k,H a=some (.dK kvs)∧y=kV k∧kvs.length < sizeLine∧H'=upd H a (.dK (putK kvs k v))) ∨
  ∃ kvs k b,H a=some (.dT kvs)∧y=.ref b∧H b=some (.tup (k.map kV))∧kvs.length < sizeLine∧H'=upd H a (.dT (putK kvs k v))
theorem DGet.k {H:Hp} {a:Addr} {kvs:List (Key × V)} {k:Key} (e:H a=some (.dK kvs)):DGet H a (kV k) (valV kvs k):=.inl ⟨kvs,k,.inl e,rfl,rfl⟩
theorem DPut.k {H:Hp} {a:Addr} {kvs:List (Key × V)} {k:Key} {v:V} (e:H a=some (.dK kvs)) (hl:kvs.length < sizeLine):DPut H a (kV k) v (upd H a (.dK (putK kvs k v))):=.inl ⟨kvs,k,e,rfl,hl,rfl⟩
section
variable {X:Cx} {pins:List (Addr × Obj)} {σ:St} {H:Hp} {s:Shared} {a:Addr} {y v:V} {u r:Value} {o:Option V} {A:Around} {E:Value→Shared→Prop}

theorem Inv.big (I:Inv X pins σ H s):sysModules < s.heap.objs.size:=by
  have h:mainGlobals < s.heap.objs.size:=(I.mod.glob.keeps I.bk).lt
  exact Nat.lt_trans (by decide) h


theorem d_write {h':Heap} {t':Nat} {ob:HO} (I:Inv X pins σ H s) (mu:Mut (H a)) (hs:Heap.SameBut a s.heap h') (he:∃ q,h'.get? a=some q) (new:ObjOk X.prog X.w (upd H a ob) h' a ob) :
    Inv X pins σ (upd H a ob) { s with heap:=h',toks:=t' } :=
  I.write (x:=a) (e:=a) mu (.inl rfl) (fun b q hb z=>(hs.2 b hb).trans z) he new
theorem dk_new {P:Program} {w:World} {H':Hp} {h':Heap} {kvs:List (Key × V)} {vs:List (Key × Value)} (z:kvs.length≤sizeLine) (hd:(a == sysModules)=false) (rel:KV kvs vs) (dd:h'.DictOf (mixKind P w) a vs) :
    ObjOk P w H' h' a (.dK kvs):=⟨z,hd,vs,rel,dd⟩

theorem d_setItem {H':Hp} {Q:Unit→Shared→Prop} (hu:A.units + 1 < cLine) (I:Inv X pins σ H s) (g:DPut H a y v H') (ry:RelV y u) (rv:RelV v r) (h:∀ s',Inv X pins σ H' s'→Q () s') :
    wpAny (model X.prog X.w) A (setItem (.ref a) u r) Q E s:=by
  rcases g with ⟨kvs,k,e,ey,l,eH⟩ | ⟨kvs,k,b,e,ey,eb,l,eH⟩
  · subst ey eH
    obtain ⟨z,hd,vs,rel,dd⟩:=dk_of I.hok e
    have hz:vs.length≤sizeLine:=by rw [← rel.length]; exact z
    have hl:(putK kvs k v).length≤sizeLine:=by have:=length_putK kvs k v; omega
    refine wpAny_setItem_pairs (hsz:=hz) (kV_is ry) dd fun h' dd' hs=>h _ ?_
    have he:∃ q,h'.get? a=some q:=let ⟨q,_,_,hq,_⟩:=dd'; ⟨q,hq⟩
    exact d_write I (by rw [e]; exact True.intro) hs he (dk_new hl hd (rel.put k rv) dd')
  · subst ey eH
    cases (show u=Value.ref b from ry)
    obtain ⟨z,hd,xs,rel,dd⟩:=dt_of I.hok e
    have hz:xs.length≤sizeLine:=by rw [← Paired.length rel]; exact z
    have hl:(putK kvs k v).length≤sizeLine:=by have:=length_putK kvs k v; omega
    refine wpAny_setItem_heap (hsz:=hz) (tupleKind_room_in1 hu) (key_of I.hok eb) dd fun h' dd' hs=>h _ ?_
    obtain ⟨q,es,ep,hq,h2,h3,h4,_,h5⟩:=dd'
    refine d_write I (by rw [e]; exact True.intro) hs ⟨q,hq⟩ ⟨hl,hd,_,(rel.put k eb rv).keeps fun c ys ec => ?_,q,es,ep,hq,h2,h3,h4,h5⟩
    rw [upd_ne (ne_of ec e (fun z=>nomatch z))]
    exact ec
end

section
variable {X:Cx} {pins:List (Addr × Obj)} {σ:St} {H:Hp} {s:Shared} {a:Addr} {kvs:List (Key × V)} {k:Key} {u:Value} {A:Around} {E:Value→Shared→Prop}

end




def sDPut (td ty tv:TE):TS:=fun D σ H=>tv σ H fun v H1=>td σ H1 fun x H2=>ty σ H2 fun y H3=>∃ a H4,x=.ref a∧DPut H3 a y v H4∧D.nx σ H4

section
variable {X:Cx} {o i e value:Expr} {pos pos' tpos:Pos} {td ty tv:TE}
theorem ps_dput (hu:X.A.units + 1 < cLine) (ho:PE X o td) (hi:PE X i ty) (hv:PE X value tv) (hs:swapsWith value (some (.Subscript o i pos')) pos.line X.env=pure false) :
    PS X (.Assign [.Subscript o i pos'] value pos) (sDPut td ty tv):=by
  intro pins s σ H D I h
  refine wpAny_Assign_Subscript (thn (hv pins s σ H _ I h) fun r s1 ⟨v,H1,I1,rv,q1⟩=>thn (ho pins s1 σ H1 _ I1 q1) fun u s2 ⟨x,H2,I2,rx,q2⟩=>thn (hi pins s2 σ H2 _ I2 q2) fun iv s3 ⟨y,H3,I3,ry,a,H4,ex,g,q3⟩ => ?_) hs
  subst ex
  obtain rfl:u=Value.ref a:=rx
  exact d_setItem hu I3 g ry rv fun s4 I4=>⟨σ,H4,I4,q3⟩
end



theorem dk_empty {P:Program} {w:World} {H:Hp} (h:Heap) (hb:sysModules < h.objs.size):ObjOk P w H (h.push { cls:=.type "dict",data:=.dict #[] }) h.objs.size (.dK []) :=
  ⟨Nat.zero_le _,beq_eq_false_iff_ne.mpr (Ne.symm (Nat.ne_of_lt hb)),[],.nil,Heap.DictOf.new h⟩
def tDNewK:TE:=fun _ H Q=>∀ p,H p=none→Q (.ref p) (upd H p (.dK []))
section
variable {X:Cx} {pos:Pos}
theorem pe_dnewK:PE X (.Dict [] [] pos) tDNewK:=fun pins s σ H Q I h =>
  wpAny_Dict_empty ⟨.ref s.heap.objs.size,_,I.laid (a:=s.heap.objs.size) (o:=.dK []) (t':=s.toks) (fun _ _ q=>Heap.get?_push_of_some _ q) (Nat.le_refl _) (dk_empty s.heap I.big),rfl,h _ (I.hok.fresh (Nat.le_refl _))⟩
end


structure M2 (X:Cx) (o:Expr) (m:Str) (apos:Pos) (e f:Expr) (cpos:Pos):Prop where
  base:attributeBase o m X.env (eval o X.env)=eval o X.env
  few:((backTo cpos (starEach [e,f] X.env)).all (fun x => !x.1) && (backToKw cpos (keywordEach [] X.env)).all (fun x=>x.1.isSome)
    && decide (([e,f]:List Expr).length + ([]:List Keyword).length + (if ([]:List Keyword).isEmpty then 0 else 1) < 30))=true
  line:(apos.endLine == cpos.line)=true
  trees:backTo cpos (starEach [e,f] X.env)=[(false,eval e X.env),(false,eval f X.env)]


def IsD (H:Hp) (a:Addr):Prop:=(∃ kvs,Rd H a (.dK kvs))∨∃ kvs,Rd H a (.dT kvs)
theorem isD_at {X:Cx} {pins:List (Addr × Obj)} {σ:St} {H:Hp} {s:Shared} {a:Addr} (I:Inv X pins σ H s) (d:IsD H a) :
    s.TypeIs (.ref a) "dict" ∧ (∀ b,Value.ref a=.ref b→∃ ob,s.heap.get? b=some ob∧ob.dict=none)∧(a == sysModules)=false:=by
  rcases d with ⟨kvs,e⟩ | ⟨kvs,e⟩
  · obtain ⟨_,hd,vs,_,dd⟩:=dk_rd I.hok e
    refine ⟨dd.typeIs,fun b q => ?_,hd⟩
    cases q
    obtain ⟨ob,_,_,h1,h2,_⟩:=dd
    exact ⟨ob,h1,h2.2.1⟩
  · obtain ⟨_,hd,xs,_,dd⟩:=dt_rd I.hok e
    refine ⟨dd.typeIs,fun b q => ?_,hd⟩
    cases q
    obtain ⟨ob,_,_,h1,h2,_⟩:=dd
    exact ⟨ob,h1,h2.2.1⟩

section
variable {X:Cx} {pins:List (Addr × Obj)} {σ:St} {H:Hp} {s:Shared} {a:Addr} {y d:V} {u r:Value} {o:Option V} {A:Around} {E:Value→Shared→Prop}

theorem d_get2 {Q:Value→Shared→Prop} (hu:A.units + 1 < cLine) (I:Inv X pins σ H s) (g:DGet H a y o) (ry:RelV y u) (rd:RelV d r) (h:∀ w' s',Inv X pins σ H s'→RelV (o.getD d) w'→Q w' s') :
    wpAny (model X.prog X.w) A (call (.builtin "dict.get") [.ref a,u,r]) Q E s:=by
  rcases g with ⟨kvs,k,e,ey,l⟩ | ⟨kvs,k,b,e,ey,eb,l⟩
  · subst ey
    obtain ⟨z,hd,vs,rel,dd⟩:=dk_rd I.hok e
    refine call_meetsIn PySem.F.slot_dict_get dd.typeIs PySem.F.entry_dict_get (PySem.F.args_dict_get_3 _ _ _) (meets_dict_get_default (mixKind X.prog X.w) a (kV_is ry) hd r) ⟨_,dd.mapOf,h _ _ (I.tok _) ?_⟩
    rw [l]
    exact (rel.val k).getD rd
  · subst ey
    cases (show u=Value.ref b from ry)
    obtain ⟨z,hd,xs,rel,dd⟩:=dt_rd I.hok e
    refine call_meetsIn PySem.F.slot_dict_get dd.typeIs PySem.F.entry_dict_get (PySem.F.args_dict_get_3 _ _ _) (meetsH_dict_get_default (tupleKind (mixKind X.prog X.w)) a b hd r) ⟨tupleKind_room_in1 hu,k,xs,key_of I.hok eb,dd,h _ _ (I.tok _) ?_⟩
    rw [l]
    exact (rel.val k).getD rd
end

def tDGet2 (td ty tx:TE):TE:=fun σ H Q=>td σ H fun x H1=>∃ a,x=.ref a∧IsD H1 a∧ty σ H1 fun y H2=>tx σ H2 fun z H3=>∃ o,DGet H3 a y o∧Q (o.getD z) H3

section
variable {X:Cx} {o e f:Expr} {apos cpos:Pos} {td ty tx:TE}
theorem pe_dget2 (hu:X.A.units + 1 < cLine) (ho:PE X o td) (he:PE X e ty) (hf:PE X f tx) (m:M2 X o "get" apos e f cpos):PE X (.Call (.Attribute o "get" apos) [e,f] [] cpos) (tDGet2 td ty tx):=by
  intro pins s σ H Q I h
  refine wpAny_Call_method m.base m.few m.line PySem.F.plainAttrs_dict PySem.F.slot_dict_get PySem.F.type_dict_get (thn (ho pins s σ H _ I h) fun u s1 ⟨x,H1,I1,rx,a,ex,d,q1⟩ => ?_)
  subst ex
  obtain rfl:u=Value.ref a:=rx
  obtain ⟨t1,t2,_⟩:=isD_at I1 d
  refine ⟨t1,t2,?_⟩
  rw [m.trees]
  refine Calls.callWith_builtin rfl (Calls.evalArgs_plain (Calls.spliced_cons (thn (he pins s1 σ H1 _ I1 q1) fun iv s2 ⟨y,H2,I2,ry,q2⟩ =>
    Calls.spliced_cons (thn (hf pins s2 σ H2 _ I2 q2) fun fv s3 ⟨z,H3,I3,rz,ov,g,q3⟩=>Calls.spliced_nil ?_))))
  exact d_get2 hu I3 g ry rz fun w' s4 I4 rw'=>⟨_,H3,I4,rw',q3⟩
end


section
variable {X:Cx} {pins:List (Addr × Obj)} {σ:St} {H:Hp} {s:Shared} {a:Addr} {kvs:List (Key × V)} {A:Around} {E:Value→Shared→Prop}
end


section
variable {X:Cx} {pins:List (Addr × Obj)} {σ:St} {H:Hp} {s:Shared} {a:Addr} {y:V} {u:Value} {A:Around} {E:Value→Shared→Prop}

end
end L2
namespace L2
open PySem PySem.Spec PyProof.Rows
section
variable {κ:Type} [DecidableEq κ]
end
end L2

set_option maxHeartbeats 4000000
namespace L2
open PySem PySem.Spec PyProof.Rows


section
variable {X:Cx} {tg:Expr}

def sgn (z:Str) (i:Nat):Str:=⟨#[z.cps.getD i 0]⟩
end


section
variable {X:Cx}
theorem call_int_str:CallR X (.type "int") (fun xs H Q=>∃ z n,xs=[.str z]∧PySem.intText? z=some n∧z.length≤640∧Q (.int n) H):=by
  intro pins s σ H xs us Q I r h
  obtain ⟨z,n,rfl,hn,hl,q⟩:=h
  obtain ⟨u,rfl,t,rfl⟩:=vals1 r
  exact PySem.W.KIN.call_text hn hl ⟨.int n,H,I.tok _,⟨_,rfl⟩,q⟩
def rSlS:V→Option Int→Option Int→Hp→VK→Prop:=fun x lo hi H Q=>∃ z,x=.str z∧z.length≤sizeLine∧Q (.str (Txt.slice z lo hi)) H
theorem sl_str:SlR X rSlS:=by
  intro pins s σ H x v vl vu lo hi sl Q I rx hs pl pu h
  obtain ⟨z,rfl,hz,q⟩:=h
  obtain ⟨t,rfl⟩:=rx
  refine ⟨"str",_,F.slot_str_getitem.lookup,typeIs_str _ _ _,?_⟩
  obtain ⟨o,e1,e2,e3⟩:=hs
  have fin:∀ (z':Str) (t':Tok) (k:Nat),z'=Txt.slice z lo hi→EP X pins σ Q (.str z' t') { s with toks:=k }:=fun z' t' k e=>by
    subst e
    exact ⟨.str _,H,I.tok _,⟨_,rfl⟩,q⟩
  cases pl with
  | none =>
    cases pu with
    | none=>exact wpAny_getItem_str_slice (l:=none) (u:=none) (st:=none) ⟨o,e1,e2,e3⟩ rfl (post_val_or_str ⟨Nat.le_trans (Txt.slice_le z _ _) hz,fun t' k=>fin _ t' k rfl⟩)
    | int j uj=>exact wpAny_getItem_str_slice (l:=none) (u:=some (j,uj)) (st:=none) ⟨o,e1,e2,e3⟩ rfl (post_val_or_str ⟨Nat.le_trans (Txt.slice_le z _ _) hz,fun t' k=>fin _ t' k rfl⟩)
  | int i ui =>
    cases pu with
    | none=>exact wpAny_getItem_str_slice (l:=some (i,ui)) (u:=none) (st:=none) ⟨o,e1,e2,e3⟩ rfl (post_val_or_str ⟨Nat.le_trans (Txt.slice_le z _ _) hz,fun t' k=>fin _ t' k rfl⟩)
    | int j uj=>exact wpAny_getItem_str_slice (l:=some (i,ui)) (u:=some (j,uj)) (st:=none) ⟨o,e1,e2,e3⟩ rfl (post_val_or_str ⟨Nat.le_trans (Txt.slice_le z _ _) hz,fun t' k=>fin _ t' k rfl⟩)


def rIsiT (K:PySem.W.Frag) (T:String):List V→Hp→VK→Prop:=fun xs H Q=>∃ x t b,xs=[x,.ty T]∧TyOf K H x t∧PySem.W.kitOne K t (.type T)=some b∧Q (.bl b) H
theorem call_isiT (T:String):CallR X (.builtin "isinstance") (rIsiT X.K T):=by
  intro pins s σ H xs us Q I r h
  obtain ⟨x,t,b,rfl,ty,hk,q⟩:=h
  obtain ⟨u,c,rfl,rx,rc⟩:=vals2 r
  cases (show c=.type T from rc)
  exact isinst_ok I rx ty hk fun tk=>⟨.bl b,H,I.tok _,rfl,q⟩
end
end L2

namespace L2
open PySem PySem.Spec PyProof.Rows


section
variable {prog:Program} {w:World} {A:Around} {R:Result→Shared→Prop} {s:Shared}
theorem compLoop_go {elt target iter:Expr} {scope:Scope} {pos:Pos} {it acc:Value} {env:Env} (I:Nat→Shared→Prop)
    (turn:∀ n s,I n s→wpAny (model prog w) A (pyNext it) (fun r s1=>match r with
      | none=>R (.ok .next) s1
      | some v=>wpAny (model prog w) A (letOwnedTupleGo target it v) (fun _ s2=>wpAny (model prog w) A (assign target env v) (fun _ s3 =>
          wpAny (model prog w) A (eval elt env) (fun x s4 =>
            wpAny (model prog w) A (call (.builtin "list.append") [acc,x]) (fun _ s5=>∃ m,m < n∧I m s5) (notedBy (model prog w) A env fun e s'=>R (.error e) s') s4) (notedBy (model prog w) A env fun e s'=>R (.error e) s') s3)
          (notedBy (model prog w) A env fun e s'=>R (.error e) s') s2) (notedBy (model prog w) A env fun e s'=>R (.error e) s') s1) (notedBy (model prog w) A env fun e s'=>R (.error e) s') s)
    (n:Nat) (h:I n s) :
    codeAny (model prog w) A (.compLoop (.ListComp elt [⟨target,iter,[],0⟩] scope pos) 0 it acc env) R s:=by
  refine codeAny_loop rfl I (fun n s hI => ?_) n h
  show wpAny _ A ((compTurn (.ListComp elt [⟨target,iter,[],0⟩] scope pos) 0 it acc env).onRaise (fun x=>do noteFrame x env; theTreesLotGoes x)) _ _ s
  refine wpAny_noted ?_
  rw [compTurn_list]
  refine wpAny_bind (wpAny_standAt (wpAny_bind (wpAny_mono (turn n s hI) (fun r s1 h1 => ?_) fun _ _ h'=>h')))
  cases r with
  | none=>exact wpAny_pure h1
  | some v =>
    refine wpAny_bind (wpAny_mono h1 (fun _ s2 h2=>wpAny_bind (wpAny_mono h2 (fun _ s3 h3 => ?_) fun _ _ h'=>h')) fun _ _ h'=>h')
    refine wpAny_bind (wpAny_tests_nil ?_)
    exact wpAny_bind (wpAny_bind (wpAny_mono h3 (fun x s4 h4=>wpAny_bind (wpAny_mono h4 (fun _ s5 h5=>wpAny_pure (wpAny_pure ⟨rfl,h5⟩)) fun _ _ h'=>h')) fun _ _ h'=>h'))
end

section
variable {X:Cx} {elt tg iter:Expr} {scope:Scope} {pos:Pos} {N':List Str} {wi:TI} {g:TG} {te:TE}
theorem HOk.but {P:Program} {w:World} {H:Hp} {h h':Heap} {C:Addr} (x:HOk P w H h) (n:H C=none) (k:∀ b u,b≠C→h.get? b=some u→h'.get? b=some u):HOk P w H h':=fun a o e =>
  (x a o e).stay (fun b u hb q=>k b u (by
    rcases hb with z | z
    · rw [z]; intro z2; rw [z2,n] at e; cases e
    · intro z2; rw [z2,n] at z; cases z) q) (fun _ q=>q) fun _ _ q=>q
end

section
variable {X:Cx}
theorem boolsAre_of:∀ {bs:List Bool} {us:List Value},Vals (bs.map V.bl) us→LSm.BoolsAre us bs
  | [],us,r=>by rw [List.map_nil] at r; cases r; exact .nil
  | b::bs,us,r=>by
    rw [List.map_cons] at r
    cases r with
    | cons r1 r2 =>
      cases (show _=Value.bool b from r1)
      exact .cons b (boolsAre_of r2)
theorem call_all (hc:X.calm=true):CallR X (.builtin "all") (fun xs H Q=>∃ (a:Addr) (bs:List Bool),xs=[.ref a]∧SqL X.K H a (bs.map V.bl)∧Q (.bl (bs.all id)) H):=by
  intro pins s σ H xs us Q I r h
  obtain ⟨a,bs,rfl,hS,q⟩:=h
  obtain ⟨u,rfl,ru⟩:=vals1 r
  cases ru
  obtain ⟨its,rv,pl,_⟩:=I.list hS
  have hb:=boolsAre_of rv
  have hlt:a < s.heap.objs.size:=by obtain ⟨_,e,_⟩:=pl.isList; exact Heap.lt_size e
  refine call_all_walk (wpAny_pyIter_list pl.isList ?_)
  refine ⟨s.heap.objs.size,[s.heap.objs.size,a],[s.heap.objs.size],its.toArray.size,_,_,fun i=>(bs[i]?).getD true,rfl,Walks.list (A:=X.A.in1) (I.ok.hd hc) _ a (Nat.ne_of_lt hlt) its.toArray,
    ⟨⟨_,Heap.get?_push_size _ rfl,rfl,rfl⟩,pl.isList.push _⟩,fun i v s' Q' E' hP hQ => ?_,fun h' tk hk => ?_⟩
  · obtain ⟨b,e,rfl⟩:=hb.get i v (by simpa using hP)
    simp only [e,Option.getD_some] at hQ
    exact wpAny_truthy_bool hQ
  · have e:((List.range its.toArray.size).all fun i=>(bs[i]?).getD true)=bs.all id:=by
      rw [List.size_toArray,hb.length]; exact LSm.range_all bs
    rw [e]
    exact ⟨.bl _,H,I.kept (LSm.kept_iter hk),rfl,q⟩


end
end L2

namespace L2
open PySem PySem.Spec PyProof.Rows



def Quiet (CX:CXT):Prop:=∀ outer H s e s',CX outer H s E0 e s'→False
theorem passQ {CX:CXT} {X:Cx} (q:Quiet CX):Passes CX X E0:=fun _ _ _ _ _ _ _ h=>(q _ _ _ _ _ h).elim
structure Fok (P:Program) (w:World) (K:PySem.W.Frag) (mg:Str→Option Value) (base:Heap) (CX:CXT) (j:Nat) (x:Str) (ps:List Str) (dvs:List V) (sp:Sp):Prop where
  ex:∃ f fd ds,FnOk P w K mg base CX j f fd ps sp∧Binds K fd ps ds∧Vals dvs ds∧PySem.W.keepIn K (.ref f)=true∧mg x=some (.ref f)
section
variable {X:Cx} {CX:CXT} {j k:Nat} {ps:List Str} {sp:Sp} {dvs:List V} {E:XK} {x:Str} {p pos:Pos} {e:Expr} {es:List Expr} {t:TA}

theorem pe_callX (F:Fok X.prog X.w X.K X.mg X.base CX j x ps dvs sp) (hr:Room k X.A) (hx:Passes CX X E) (ha:PA X (e::es) t) (hj:j≤k:=by decide) (hg:Gl X x:=by rfl)
    (hdb:(x == ("__debug__" : Str))=false:=by decide) (he:starEach (e::es) X.env=(false,eval e X.env)::starEach es X.env:=by rfl) (hpl:(backTo pos (starEach es X.env)).any (·.1)=false:=by rfl) :
    PE X (.Call (.Name x p) (e::es) [] pos) (tCall sp dvs E t):=by
  obtain ⟨f,fd,ds,G,b,v,kp,m⟩:=F.ex
  exact pe_call G (hr.mono hj) hg m kp b v hx ha hdb he hpl
theorem pe_callF (F:Fok X.prog X.w X.K X.mg X.base CX j x ps dvs sp) (q:Quiet CX) (hr:Room k X.A) (ha:PA X (e::es) t) (hj:j≤k:=by decide) (hg:Gl X x:=by rfl)
    (hdb:(x == ("__debug__" : Str))=false:=by decide) (he:starEach (e::es) X.env=(false,eval e X.env)::starEach es X.env:=by rfl) (hpl:(backTo pos (starEach es X.env)).any (·.1)=false:=by rfl) :
    PE X (.Call (.Name x p) (e::es) [] pos) (tCall sp dvs E0 t):=pe_callX F hr (passQ q) ha hj hg hdb he hpl
end
section
variable {P:Program} {w:World} {K:PySem.W.Frag} {mg:Str→Option Value} {base:Heap}

structure FunD (K:PySem.W.Frag) (x qual:Str) (st:Stmt) (f:Addr) (fd:FuncData) (dV:Value):Prop where
  ex:∃ (oc:Value) (od:Option Addr) (kV doc pm:Value) (an:Option Addr) (cdv ct:Value) (osl:Array (Option Value)),
    fd=PySem.W.fnOf x qual (defArgs st) (defBody st) (defScope st) dV kV doc pm an cdv ct∧K.lookup f=some ⟨oc,od,.func fd,osl⟩∧PySem.W.codeIn K cdv qual=true
  kp:PySem.W.keepIn K (.ref f)=true
theorem funD_mk {x qual:Str} {st:Stmt} {f:Addr} {oc:Value} {od an:Option Addr} {osl:Array (Option Value)} {dV kV doc pm cdv ct:Value} (l:K.lookup f=some ⟨oc,od,.func (PySem.W.fnOf x qual (defArgs st) (defBody st) (defScope st) dV kV doc pm an cdv ct),osl⟩)
    (c:PySem.W.codeIn K cdv qual=true) (k:PySem.W.keepIn K (.ref f)=true):FunD K x qual st f (PySem.W.fnOf x qual (defArgs st) (defBody st) (defScope st) dV kV doc pm an cdv ct) dV:=⟨⟨oc,od,kV,doc,pm,an,cdv,ct,osl,rfl,l,c⟩,k⟩

theorem FunD.ok {x qual:Str} {st:Stmt} {f:Addr} {fd:FuncData} {dV:Value} {N ps:List Str} {k:Nat} {sp:Sp} {CX:CXT} (F:FunD K x qual st f fd dV) (S:FnScope N ps (defScope st)) (len:∀ vs H Q E,sp vs H Q E→vs.length=ps.length)
    (hbody:∀ (cdv:Value) (A:Around) (outer:List Env) (s:Shared) (H:Hp) (vs:List V) (Q:VK) (E:XK),Room k (A.deeper (envOfC qual (defScope st) s.heap.objs.size f cdv))→sp vs H Q E →
      ∃ t,PSs (cxOf CX P w K mg base N qual (defScope st) f cdv A outer s H E).nox (defBody st) t∧t { nx:=fun _ H'=>Q .non H',rt:=Q } (start N vs) H):FnOk P w K mg base CX (k + 1) f fd ps sp:=by
  obtain ⟨oc,od,kV,doc,pm,an,cdv,ct,osl,rfl,lk,hcd⟩:=F.ex
  refine fn_of lk hcd S len fun A outer s H vs Q E hr hsp => ?_
  obtain ⟨t,h,q⟩:=hbody cdv A outer s H vs Q E hr hsp
  exact ⟨t,h.nox,q⟩

theorem FunD.okX {x qual:Str} {st:Stmt} {f:Addr} {fd:FuncData} {dV:Value} {N ps:List Str} {k:Nat} {sp:Sp} {CX:CXT} (F:FunD K x qual st f fd dV) (S:FnScope N ps (defScope st)) (len:∀ vs H Q E,sp vs H Q E→vs.length=ps.length)
    (hbody:∀ (cdv:Value) (A:Around) (outer:List Env) (s:Shared) (H:Hp) (vs:List V) (Q:VK) (E:XK),Room k (A.deeper (envOfC qual (defScope st) s.heap.objs.size f cdv))→sp vs H Q E →
      ∃ t,PSs (cxOf CX P w K mg base N qual (defScope st) f cdv A outer s H E) (defBody st) t∧t { nx:=fun _ H'=>Q .non H',rt:=Q } (start N vs) H):FnOk P w K mg base CX (k + 1) f fd ps sp:=by
  obtain ⟨oc,od,kV,doc,pm,an,cdv,ct,osl,rfl,lk,hcd⟩:=F.ex
  exact fn_of lk hcd S len fun A outer s H vs Q E hr hsp=>hbody cdv A outer s H vs Q E hr hsp

theorem FunD.binds {x qual:Str} {st:Stmt} {f:Addr} {fd:FuncData} {dV:Value} {ps:List Str} (F:FunD K x qual st f fd dV)
    (h:∀ (kV doc pm:Value) (an:Option Addr) (cdv ct:Value) (us:List Value),us.length=ps.length→bindArgs (PySem.W.fnOf x qual (defArgs st) (defBody st) (defScope st) dV kV doc pm an cdv ct) ⟨us,[]⟩=pure (ps.zip us)):Binds K fd ps []:=by
  obtain ⟨oc,od,kV,doc,pm,an,cdv,ct,osl,rfl,lk,hcd⟩:=F.ex
  exact .all (h kV doc pm an cdv ct)

theorem fok {CX:CXT} {j:Nat} {x qual:Str} {st:Stmt} {f:Addr} {fd:FuncData} {dV:Value} {ps:List Str} {sp:Sp} (F:FunD K x qual st f fd dV) (G:FnOk P w K mg base CX j f fd ps sp) (b:Binds K fd ps []) (m:mg x=some (.ref f)) :
    Fok P w K mg base CX j x ps [] sp:=⟨f,fd,[],G,b,.nil,F.kp,m⟩

end


section
variable {X:Cx}
def CDivW (i j:Int):Prop:=0 < j∧j < 2 ^ 1000
theorem op_fdivW:OpR X (binaryOp .FloorDiv) (rI CDivW fun i j=>.int (i / j)):=opI fun i j _ _ _ _ _ hc q=>by
  have h1:(0:Int) < j:=hc.1
  have h2:j < 2 ^ 1000:=hc.2
  refine floordiv_int (by omega) (by rw [Int.fdiv_eq_ediv_of_nonneg i (by omega)]; exact q) (.inl (PyProof.noPylong_of_log2 ?_))
  have e:j.natAbs.log2 < 1000:=by
    refine (Nat.log2_lt (by omega)).mpr ?_
    have e2:((j.natAbs:Nat):Int)=j:=by omega
    have e3:((2 ^ 1000:Nat):Int)=(2:Int) ^ 1000:=by rw [Int.natCast_pow]; rfl
    omega
  omega
theorem cdivW {i j:Int} (h0:0 < j) (h1:j < 1000000000000000000000000):CDivW i j:=⟨h0,Int.lt_trans h1 (by decide +kernel)⟩
end
theorem bt_int:bootBuiltins "int" = some (.type "int"):=by decide +kernel
theorem bt_str:bootBuiltins "str" = some (.type "str"):=by decide +kernel
theorem bt_bool:bootBuiltins "bool" = some (.type "bool"):=by decide +kernel
theorem bt_list:bootBuiltins "list" = some (.type "list"):=by decide +kernel
theorem bt_tuple:bootBuiltins "tuple" = some (.type "tuple"):=by decide +kernel
theorem bb_isinstance:bootBuiltins "isinstance" = some (.builtin "isinstance"):=by decide +kernel
theorem bb_max:bootBuiltins "max" = some (.builtin "max"):=by decide +kernel
theorem bb_all:bootBuiltins "all" = some (.builtin "all"):=by decide +kernel
theorem bb_len:bootBuiltins "len" = some (.builtin "len"):=by decide +kernel
section
variable {K:PySem.W.Frag}
theorem kit_ii:PySem.W.kitOne K (.type "int") (.type "int")=some true:=by kernel_rfl
theorem kit_ib:PySem.W.kitOne K (.type "int") (.type "bool")=some false:=by kernel_rfl
theorem kit_si:PySem.W.kitOne K (.type "str") (.type "int")=some false:=by kernel_rfl
theorem kit_bi:PySem.W.kitOne K (.type "bool") (.type "int")=some true:=by kernel_rfl
theorem kit_bb:PySem.W.kitOne K (.type "bool") (.type "bool")=some true:=by kernel_rfl
theorem kit_tt:PySem.W.kitOne K (.type "tuple") (.type "tuple")=some true:=by kernel_rfl
theorem kit_ni:PySem.W.kitOne K (.type "NoneType") (.type "int")=some false:=by kernel_rfl
end
end L2

namespace L2
open PySem PySem.Spec PyProof.Rows


inductive SK where
  | l | t
def SK.it:SK→Heap→Addr→Addr→Nat→Prop
  | .l,h,b,a,i=>h.IsListIter b a i
  | .t,h,b,a,i=>h.IsTupleIter b a i
def SK.sq:SK→Heap→Addr→Array Value→Prop
  | .l,h,a,xs=>h.IsList a xs
  | .t,h,a,xs=>h.IsTuple a xs
def SK.ob:SK→Addr→Obj
  | .l,a=>{ cls:=.type "list_iterator",data:=.fields #[.ref a,.int 0 0] }
  | .t,a=>{ cls:=.type "tuple_iterator",data:=.fields #[.ref a,.int 0 0] }
theorem SK.it_at {k:SK} {h h':Heap} {b a:Addr} {i:Nat} (x:k.it h b a i) (e:∀ o,h.get? b=some o→h'.get? b=some o):k.it h' b a i:=by
  cases k
  · exact Heap.IsListIter.at x e
  · obtain ⟨o,ho,r⟩:=x
    exact ⟨o,e o ho,r⟩
theorem SK.sq_at {k:SK} {h h':Heap} {a:Addr} {xs:Array Value} (x:k.sq h a xs) (e:∀ o,h.get? a=some o→h'.get? a=some o):k.sq h' a xs:=by
  cases k
  · exact Heap.IsList.at x e
  · exact Heap.IsTuple.at x e
theorem SK.it_ob {k:SK} {h:Heap} {b a:Addr} {i:Nat} (x:k.it h b a i):∃ o,h.get? b=some o∧∃ vs,o.data=.fields vs:=by
  cases k
  · obtain ⟨o,ho,_,d⟩:=x; exact ⟨o,ho,_,d⟩
  · obtain ⟨o,ho,_,d⟩:=x; exact ⟨o,ho,_,d⟩
theorem SK.sq_lt {k:SK} {h:Heap} {a:Addr} {xs:Array Value} (x:k.sq h a xs):a < h.objs.size:=by
  cases k
  · obtain ⟨o,ho,_⟩:=x; exact Heap.lt_size ho
  · obtain ⟨o,ho,_⟩:=x; exact Heap.lt_size ho
section
variable {prog:Program} {w:World} {A:Around} {E:Value→Shared→Prop} {s:Shared}
theorem nextOf_tuple_item {it t:Addr} {i:Nat} {items} {x:Value} {Q:Value→Shared→Prop} (hit:s.heap.IsTupleIter it t i) (ht:s.heap.IsTuple t items) (hx:items[i]? = some x)
    (hQ:∀ h',h'.IsTupleIter it t (i + 1)→Heap.SameBut it s.heap h'→Q x { s with heap:=h' }):wpAny (model prog w) A (Builtin.SmallTypes.nextOf (.ref it)) Q E s:=by
  obtain ⟨o,ho,hc,hd⟩:=id hit
  obtain ⟨ol,hol,_,nl,hdl⟩:=ht
  unfold Builtin.SmallTypes.nextOf
  refine wpAny_bind (wpAny_callSpecial?_slot (name:=Str.ofString "__next__") hit.typeIs slot_tupleiter_next (wpAny_call_entry slot_tupleiter_next hit.typeIs entry_tupleiter_next ?_ (args_tupleiter_next _)))
  show wpAny _ _ (field (.ref it) 0 >>= _) _ _ s
  refine wpAny_bind (wpAny_field ho hd (x:=.ref t) rfl ?_)
  show wpAny _ _ (if (Value.ref t == Value.none)=true then _ else _) _ _ s
  rw [if_neg (show ¬ ((Value.ref t == Value.none)=true) from Bool.false_ne_true)]
  show wpAny _ _ (field (.ref it) 1 >>= _) _ _ s
  refine wpAny_bind (wpAny_field ho hd (x:=.int i 0) rfl ?_)
  show wpAny _ _ (seqItems? (.ref t) >>= _) _ _ s
  refine wpAny_bind (wpAny_seqItems hol hdl ?_)
  simp only [Int.toNat_natCast,hx]
  refine wpAny_bind (wpAny_setField ho hd (by simp) (wpAny_pure ⟨x,rfl,wpAny_pure (hQ _ ?_ (Heap.SameBut.update ..))⟩))
  exact ⟨_,Heap.get?_update_self _ ho (Obj.isFreed_of_fields (Obj.data_mapFields hd _)),(Obj.cls_mapFields ..).trans hc,by
    rw [Obj.data_mapFields hd]; simp [rawInt]⟩
theorem nextOf_tuple_end {it t:Addr} {i:Nat} {items} {Q:Value→Shared→Prop} (hh:A.handled=none) (hit:s.heap.IsTupleIter it t i) (ht:s.heap.IsTuple t items) (hx:items[i]? = none)
    (hE:∀ h' e,Heap.ExtBut it s.heap h'→(∃ o,h'.get? e=some o∧o.cls=.type "StopIteration")→E (.ref e) { s with heap:=h' }):wpAny (model prog w) A (Builtin.SmallTypes.nextOf (.ref it)) Q E s:=by
  obtain ⟨o,ho,hc,hd⟩:=id hit
  obtain ⟨ol,hol,_,nl,hdl⟩:=ht
  unfold Builtin.SmallTypes.nextOf
  refine wpAny_bind (wpAny_callSpecial?_slot (name:=Str.ofString "__next__") hit.typeIs slot_tupleiter_next (wpAny_call_entry slot_tupleiter_next hit.typeIs entry_tupleiter_next ?_ (args_tupleiter_next _)))
  show wpAny _ _ (field (.ref it) 0 >>= _) _ _ s
  refine wpAny_bind (wpAny_field ho hd (x:=.ref t) rfl ?_)
  show wpAny _ _ (if (Value.ref t == Value.none)=true then _ else _) _ _ s
  rw [if_neg (show ¬ ((Value.ref t == Value.none)=true) from Bool.false_ne_true)]
  show wpAny _ _ (field (.ref it) 1 >>= _) _ _ s
  refine wpAny_bind (wpAny_field ho hd (x:=.int i 0) rfl ?_)
  show wpAny _ _ (seqItems? (.ref t) >>= _) _ _ s
  refine wpAny_bind (wpAny_seqItems hol hdl ?_)
  simp only [Int.toNat_natCast,hx]
  refine wpAny_bind (wpAny_rule (wpAny_bind (wpAny_setField ho hd (by simp) ?_)))
  show wpAny _ _ (newExc (.type "StopIteration") [] >>= _) _ _ _
  refine wpAny_bind ?_
  simp only [newExc,newTuple]
  refine wpAny_bind (wpAny_newObj_type ?_ (by size_fits))
  refine wpAny_bind (m:=firstArgMember _ _) (wpAny_of_eq (a:=Value.none) (by first | rfl | (simp only [firstArgMember]; rfl)) ?_)
  refine wpAny_newObj_type ?_ (by size_fits)
  simp only [raiseNew]
  refine wpAny_bind (wpAny_handled ?_)
  first | rw [show A.in1.handled=none from hh] | rw [hh]
  refine wpAny_bind (wpAny_pure (wpAny_throw ?_))
  exact hE _ _ (((Heap.SameBut.update ..).extBut.push _).push _) ⟨_,Heap.get?_push_size _ rfl,rfl⟩
theorem SK.next {k:SK} {it a:Addr} {i:Nat} {xs:Array Value} {x:Value} {Q:Value→Shared→Prop} (hit:k.it s.heap it a i) (hs:k.sq s.heap a xs) (hx:xs[i]? = some x)
    (hQ:∀ h',k.it h' it a (i + 1)→Heap.SameBut it s.heap h'→Q x { s with heap:=h' }):wpAny (model prog w) A (Builtin.SmallTypes.nextOf (.ref it)) Q E s:=by
  cases k
  · exact wpAny_nextOf_list_item hit hs hx hQ
  · exact nextOf_tuple_item hit hs hx hQ
theorem SK.stop {k:SK} {it a:Addr} {i:Nat} {xs:Array Value} {Q:Value→Shared→Prop} (hh:A.handled=none) (hit:k.it s.heap it a i) (hs:k.sq s.heap a xs) (hx:xs[i]? = none)
    (hE:∀ h' e,Heap.ExtBut it s.heap h'→(∃ o,h'.get? e=some o∧o.cls=.type "StopIteration")→E (.ref e) { s with heap:=h' }):wpAny (model prog w) A (Builtin.SmallTypes.nextOf (.ref it)) Q E s:=by
  cases k
  · exact wpAny_nextOf_list_end hh hit hs hx hE
  · exact nextOf_tuple_end hh hit hs hx hE
theorem SK.iter {k:SK} {a:Addr} {xs:Array Value} {Q:Value→Shared→Prop} (hs:k.sq s.heap a xs) (hQ:Q (.ref s.heap.objs.size) { s with heap:=s.heap.push (k.ob a) }):wpAny (model prog w) A (pyIter (.ref a)) Q E s:=by
  cases k
  · exact wpAny_pyIter_list hs hQ
  · exact wpAny_pyIter_tuple hs hQ
theorem SK.it_new {k:SK} {h:Heap} {a:Addr}:k.it (h.push (k.ob a)) h.objs.size a 0:=by
  cases k
  · exact ⟨_,Heap.get?_push_size _ rfl,rfl,rfl⟩
  · exact ⟨_,Heap.get?_push_size _ rfl,rfl,rfl⟩


structure ZAp (z TI TO i1 i2:Addr):Prop where
  TIz:TI≠z
  TOz:TO≠z
  i1z:i1≠z
  i2z:i2≠z
  TITO:TI≠TO
  TIi1:TI≠i1
  TIi2:TI≠i2
  TOi1:TO≠i1
  TOi2:TO≠i2
  i12:i1≠i2

structure Off (z TO i1 i2 a:Addr):Prop where
  z:a≠z
  TO:a≠TO
  i1:a≠i1
  i2:a≠i2

def Kp (z TO i1 i2:Addr) (h h':Heap):Prop:=∀ c o,Off z TO i1 i2 c→h.get? c=some o→h'.get? c=some o

theorem zip_item {k1 k2:SK} {z TI TO i1 i2 l1 l2:Addr} {n:Nat} {xs ys:Array Value} {x y a b:Value} {Q:Option Value→Shared→Prop} (D:ZAp z TI TO i1 i2) (o1:Off z TO i1 i2 l1) (o2:Off z TO i1 i2 l2)
    (hz:IsZip s.heap z TI TO .none) (hTI:IsPair s.heap TI (.ref i1) (.ref i2)) (hTO:IsPair s.heap TO a b) (h1:k1.it s.heap i1 l1 n) (h2:k2.it s.heap i2 l2 n) (s1:k1.sq s.heap l1 xs) (s2:k2.sq s.heap l2 ys)
    (hx:xs[n]? = some x) (hy:ys[n]? = some y)
    (hQ:∀ h',IsZip h' z TI TO (rawInt s.heap.objs.size)→IsPair h' TI (.ref i1) (.ref i2)→IsPair h' TO x y→k1.it h' i1 l1 (n + 1)→k2.it h' i2 l2 (n + 1)→IsPair h' s.heap.objs.size x y→Kp z TO i1 i2 s.heap h'→Q (some (.ref s.heap.objs.size)) { s with heap:=h' }) :
    wpAny (model prog w) A (pyNext (.ref z)) Q E s:=by
  have hT:s.TypeIs (.ref z) "zip" := ⟨_,hz,rfl⟩
  unfold pyNext
  refine wpAny_bind (wpAny_attempt (wpAny_callSpecial?_slot (name:=Str.ofString "__next__") hT F.slot_zip_next (wpAny_call_entry F.slot_zip_next hT F.entry_zip_next ?_ (F.args_zip_next_1 _))))
  show wpAny _ _ (field (.ref z) 2 >>= _) _ _ _
  refine wpAny_bind (wpAny_field hz rfl (x:=.bool false) rfl ?_)
  show wpAny _ _ (field (.ref z) 3 >>= _) _ _ _
  refine wpAny_bind (wpAny_field hz rfl (x:=.ref TI) rfl ?_)
  refine wpAny_bind (wpAny_seqItems hTI rfl ?_)
  show wpAny _ _ (Builtin.SmallTypes.ownedTupleIsFree (.ref z) >>= _) _ _ _
  refine wpAny_bind ?_
  unfold Builtin.SmallTypes.ownedTupleIsFree
  refine wpAny_bind (wpAny_field hz rfl (x:=.none) rfl (wpAny_pure ?_))
  simp only [if_true]
  refine wpAny_bind (wpAny_rule ?_)
  refine wpAny_bind (wpAny_field hz rfl (x:=.ref TO) rfl ?_)
  refine wpAny_bind (wpAny_setField_rec hz (by simp) fun g1 z1 b1 => ?_)
  replace z1:IsZip g1 z TI TO .ellipsis:=z1
  refine wpAny_bind ?_
  simp only [List.zipIdx_cons,List.zipIdx_nil,List.forIn_cons,List.forIn_nil]
  refine wpAny_bind (wpAny_bind (wpAny_onRaise ?_))
  show wpAny _ _ (Builtin.SmallTypes.nextOf (.ref i1) >>= _) _ _ _
  refine wpAny_bind (SK.next (SK.it_at h1 fun o e=>b1.extBut _ _ D.i1z e) (SK.sq_at s1 fun o e=>b1.extBut _ _ o1.z e) hx fun g2 j1 b2=>wpAny_pure ?_)
  have t2:IsPair g2 TO a b:=b2.extBut _ _ D.TOi1 (b1.extBut _ _ D.TOz hTO)
  refine wpAny_bind (wpAny_seqItems t2 rfl ?_)
  refine wpAny_bind (wpAny_updateSeq_pair t2 fun g3 t3 b3 => ?_)
  replace t3:IsPair g3 TO x b:=t3
  refine wpAny_bind (wpAny_letGo (wpAny_pure ?_))
  refine wpAny_bind (wpAny_bind (wpAny_onRaise ?_))
  show wpAny _ _ (Builtin.SmallTypes.nextOf (.ref i2) >>= _) _ _ _
  refine wpAny_bind (SK.next (SK.it_at h2 fun o e=>b3.extBut _ _ D.TOi2.symm (b2.extBut _ _ D.i12.symm (b1.extBut _ _ D.i2z e))) (SK.sq_at s2 fun o e=>b3.extBut _ _ o2.TO (b2.extBut _ _ o2.i1 (b1.extBut _ _ o2.z e))) hy fun g4 j2 b4=>wpAny_pure ?_)
  have t4:IsPair g4 TO x b:=b4.extBut _ _ D.TOi2 t3
  refine wpAny_bind (wpAny_seqItems t4 rfl ?_)
  refine wpAny_bind (wpAny_updateSeq_pair t4 fun g5 t5 b5 => ?_)
  replace t5:IsPair g5 TO x y:=t5
  refine wpAny_bind (wpAny_letGo (wpAny_pure (wpAny_pure ?_)))
  refine wpAny_bind (wpAny_seqItems t5 rfl ?_)
  refine wpAny_bind (wpAny_newTuple ?_)
  have sz:g5.objs.size=s.heap.objs.size:=by rw [b5.1,b4.1,b3.1,b2.1,b1.1]
  have z5:IsZip g5 z TI TO .ellipsis:=b5.extBut _ _ D.TOz.symm (b4.extBut _ _ D.i2z.symm (b3.extBut _ _ D.TOz.symm (b2.extBut _ _ D.i1z.symm z1)))
  have kp:Kp z TO i1 i2 s.heap g5:=fun c o f e=>b5.extBut _ _ f.TO (b4.extBut _ _ f.i2 (b3.extBut _ _ f.TO (b2.extBut _ _ f.i1 (b1.extBut _ _ f.z e))))
  have zlt:z < g5.objs.size:=Heap.lt_size z5
  show wpAny _ _ (Builtin.SmallTypes.ownedTupleHandOut (.ref z) (.ref g5.objs.size) >>= _) _ _ _
  refine wpAny_bind ?_
  unfold Builtin.SmallTypes.ownedTupleHandOut
  have z6:IsZip (g5.push { cls:=.type "tuple",data:=.seq #[x,y] }) z TI TO .ellipsis:=Heap.get?_push_of_some _ z5
  refine wpAny_bind (wpAny_setField_rec z6 (by simp) fun g7 z7 b7 => ?_)
  replace z7:IsZip g7 z TI TO (rawInt g5.objs.size):=z7
  refine wpAny_setField_rec z7 (by simp) fun g8 z8 b8 => ?_
  replace z8:IsZip g8 z TI TO (rawInt g5.objs.size):=z8
  have up:∀ c o,c≠z→g5.get? c=some o→g8.get? c=some o:=fun c o c1 e=>b8.extBut _ _ c1 (b7.extBut _ _ c1 (Heap.get?_push_of_some _ e))
  have t8:IsPair g8 g5.objs.size x y:=b8.extBut _ _ (Nat.ne_of_gt zlt) (b7.extBut _ _ (Nat.ne_of_gt zlt) (Heap.get?_push_size _ rfl))
  rw [sz] at z8 t8
  refine wpAny_pure ⟨_,rfl,?_⟩
  show wpAny _ _ (pure (some (Value.ref g5.objs.size))) _ _ _
  rw [sz]
  exact wpAny_pure (hQ g8 z8 (up _ _ D.TIz (b5.extBut _ _ D.TITO (b4.extBut _ _ D.TIi2 (b3.extBut _ _ D.TITO (b2.extBut _ _ D.TIi1 (b1.extBut _ _ D.TIz hTI)))))) (up _ _ D.TOz t5)
    (SK.it_at j1 fun o e=>up _ _ D.i1z (b5.extBut _ _ D.TOi1.symm (b4.extBut _ _ D.i12 (b3.extBut _ _ D.TOi1.symm e)))) (SK.it_at j2 fun o e=>up _ _ D.i2z (b5.extBut _ _ D.TOi2.symm e)) t8 fun c o f e=>up c o f.z (kp c o f e))
theorem zip_stop {k1 k2:SK} {z TI TO i1 i2 l1 l2:Addr} {n:Nat} {xs ys:Array Value} {a b:Value} {Q:Option Value→Shared→Prop} (hh:A.handled=none) (D:ZAp z TI TO i1 i2) (o1:Off z TO i1 i2 l1) (o2:Off z TO i1 i2 l2)
    (hz:IsZip s.heap z TI TO .none) (hTI:IsPair s.heap TI (.ref i1) (.ref i2)) (hTO:IsPair s.heap TO a b) (h1:k1.it s.heap i1 l1 n) (h2:k2.it s.heap i2 l2 n) (s1:k1.sq s.heap l1 xs) (s2:k2.sq s.heap l2 ys)
    (hend:xs[n]? = none∨ys[n]? = none) (hQ:∀ h',Kp z TO i1 i2 s.heap h'→Q none { s with heap:=h' }):wpAny (model prog w) A (pyNext (.ref z)) Q E s:=by
  have hT:s.TypeIs (.ref z) "zip" := ⟨_,hz,rfl⟩
  have fin:∀ h' e,Kp z TO i1 i2 s.heap h'→(∃ o,h'.get? e=some o∧o.cls=.type "StopIteration")→wpAny (model prog w) A (do if ← isInstance (.ref e) (.type "StopIteration") then pure none else throw (.ref e)) Q E { s with heap:=h' }:=fun h' e kp he=>by
    obtain ⟨o,ho,hc⟩:=he
    exact wpAny_bind (wpAny_isInstance (T := "StopIteration") (b:=true) ⟨o,ho,hc⟩ isSubtype_stop (wpAny_pure (hQ _ kp)))
  unfold pyNext
  refine wpAny_bind (wpAny_attempt (wpAny_callSpecial?_slot (name:=Str.ofString "__next__") hT F.slot_zip_next (wpAny_call_entry F.slot_zip_next hT F.entry_zip_next ?_ (F.args_zip_next_1 _))))
  show wpAny _ _ (field (.ref z) 2 >>= _) _ _ _
  refine wpAny_bind (wpAny_field hz rfl (x:=.bool false) rfl ?_)
  show wpAny _ _ (field (.ref z) 3 >>= _) _ _ _
  refine wpAny_bind (wpAny_field hz rfl (x:=.ref TI) rfl ?_)
  refine wpAny_bind (wpAny_seqItems hTI rfl ?_)
  show wpAny _ _ (Builtin.SmallTypes.ownedTupleIsFree (.ref z) >>= _) _ _ _
  refine wpAny_bind ?_
  unfold Builtin.SmallTypes.ownedTupleIsFree
  refine wpAny_bind (wpAny_field hz rfl (x:=.none) rfl (wpAny_pure ?_))
  simp only [if_true]
  refine wpAny_bind (wpAny_rule ?_)
  refine wpAny_bind (wpAny_field hz rfl (x:=.ref TO) rfl ?_)
  refine wpAny_bind (wpAny_setField_rec hz (by simp) fun g1 z1 b1 => ?_)
  replace z1:IsZip g1 z TI TO .ellipsis:=z1
  refine wpAny_bind ?_
  simp only [List.zipIdx_cons,List.zipIdx_nil,List.forIn_cons,List.forIn_nil]
  refine wpAny_bind (wpAny_bind (wpAny_onRaise ?_))
  show wpAny _ _ (Builtin.SmallTypes.nextOf (.ref i1) >>= _) _ _ _
  have hit1:=SK.it_at h1 fun o e=>b1.extBut _ _ D.i1z e
  have sq1:=SK.sq_at s1 fun o e=>b1.extBut _ _ o1.z e
  cases hx:xs[n]? with
  | none =>
    refine wpAny_bind (SK.stop hh hit1 sq1 hx fun g2 e b2 he => ?_)
    obtain ⟨oe,hoe,hce⟩:=he
    have z2:IsZip g2 z TI TO .ellipsis:=b2 _ _ D.i1z.symm z1
    have hez:e≠z:=fun q=>by subst q; rw [z2] at hoe; cases hoe; simp at hce
    refine wpAny_setField_rec z2 (by simp) fun g3 _ b3=>fin g3 e (fun c o f q=>b3.extBut _ _ f.z (b2 _ _ f.i1 (b1.extBut _ _ f.z q))) ⟨oe,b3.extBut _ _ hez hoe,hce⟩
  | some x =>
    have hy:ys[n]? = none:=by rcases hend with q | q; rw [hx] at q; cases q; exact q
    refine wpAny_bind (SK.next hit1 sq1 hx fun g2 j1 b2=>wpAny_pure ?_)
    have t2:IsPair g2 TO a b:=b2.extBut _ _ D.TOi1 (b1.extBut _ _ D.TOz hTO)
    refine wpAny_bind (wpAny_seqItems t2 rfl ?_)
    refine wpAny_bind (wpAny_updateSeq_pair t2 fun g3 t3 b3 => ?_)
    refine wpAny_bind (wpAny_letGo (wpAny_pure ?_))
    refine wpAny_bind (wpAny_bind (wpAny_onRaise ?_))
    show wpAny _ _ (Builtin.SmallTypes.nextOf (.ref i2) >>= _) _ _ _
    refine wpAny_bind (SK.stop hh (SK.it_at h2 fun o e=>b3.extBut _ _ D.TOi2.symm (b2.extBut _ _ D.i12.symm (b1.extBut _ _ D.i2z e))) (SK.sq_at s2 fun o e=>b3.extBut _ _ o2.TO (b2.extBut _ _ o2.i1 (b1.extBut _ _ o2.z e))) hy fun g4 e b4 he => ?_)
    obtain ⟨oe,hoe,hce⟩:=he
    have z4:IsZip g4 z TI TO .ellipsis:=b4 _ _ D.i2z.symm (b3.extBut _ _ D.TOz.symm (b2.extBut _ _ D.i1z.symm z1))
    have hez:e≠z:=fun q=>by subst q; rw [z4] at hoe; cases hoe; simp at hce
    refine wpAny_setField_rec z4 (by simp) fun g5 _ b5=>fin g5 e (fun c o f q=>b5.extBut _ _ f.z (b4 _ _ f.i2 (b3.extBut _ _ f.TO (b2.extBut _ _ f.i1 (b1.extBut _ _ f.z q))))) ⟨oe,b5.extBut _ _ hez hoe,hce⟩
end
end L2

namespace L2
open PySem PySem.Spec PyProof.Rows

def zH1 (k1:SK) (h:Heap) (l1:Addr):Heap:=h.push (k1.ob l1)
def zH2 (k1 k2:SK) (h:Heap) (l1 l2:Addr):Heap:=(zH1 k1 h l1).push (k2.ob l2)
def zH3 (k1 k2:SK) (h:Heap) (l1 l2:Addr):Heap:=(zH2 k1 k2 h l1 l2).push { cls:=.type "tuple",data:=.seq #[.ref h.objs.size,.ref (zH1 k1 h l1).objs.size] }
def zH4 (k1 k2:SK) (h:Heap) (l1 l2:Addr):Heap:=(zH3 k1 k2 h l1 l2).push { cls:=.type "tuple",data:=.seq #[.none,.none] }
def zH5 (k1 k2:SK) (h:Heap) (l1 l2:Addr):Heap:=(zH4 k1 k2 h l1 l2).push { cls:=.type "zip",data:=.fields #[.none,.bool false,.bool false,.ref (zH2 k1 k2 h l1 l2).objs.size,.ref (zH3 k1 k2 h l1 l2).objs.size] }
theorem meets_zip (k1 k2:SK) (l1 l2:Addr) (xs ys:Array Value) :
    Meets (Builtin.«zip.__new__» ⟨[.type "zip",.ref l1,.ref l2],[]⟩) (fun _ R s=>k1.sq s.heap l1 xs∧k2.sq s.heap l2 ys ∧
      R (.ok (.ret (.ref (zH4 k1 k2 s.heap l1 l2).objs.size))) { s with heap:=zH5 k1 k2 s.heap l1 l2 }) :=
  .of_wp fun prog w A R s h=>by
    obtain ⟨hp,g,d,tk,os⟩:=s; obtain ⟨hl1,hl2,h⟩:=h
    have hsub:=sub_zip
    have hL1:k1.sq (Shared.heap ⟨hp,g,d,tk,os⟩) l1 xs:=hl1
    have hL2:k2.sq (Shared.heap ⟨hp.push (k1.ob l1),g,d,tk,os⟩) l2 ys:=SK.sq_at hl2 fun o e=>Heap.get?_push_of_some _ e
    wp_walk using SK.iter hL1,SK.iter hL2
    exact ⟨_,rfl,h⟩
end L2

namespace L2
open PySem PySem.Spec PyProof.Rows
section
variable {prog:Program} {w:World} {A:Around} {E:Value→Shared→Prop} {s:Shared}
theorem call_zip {k1 k2:SK} {l1 l2:Addr} {xs ys:Array Value} {Q:Value→Shared→Prop} (hl1:k1.sq s.heap l1 xs) (hl2:k2.sq s.heap l2 ys)
    (h:∀ h',IsZip h' (s.heap.objs.size + 4) (s.heap.objs.size + 2) (s.heap.objs.size + 3) .none→IsPair h' (s.heap.objs.size + 2) (.ref s.heap.objs.size) (.ref (s.heap.objs.size + 1)) →
      IsPair h' (s.heap.objs.size + 3) .none .none→k1.it h' s.heap.objs.size l1 0→k2.it h' (s.heap.objs.size + 1) l2 0 →
      (∀ c o,s.heap.get? c=some o→h'.get? c=some o)→Q (.ref (s.heap.objs.size + 4)) { s with heap:=h' }) :
    wpAny (model prog w) A (call (.type "zip") [.ref l1,.ref l2]) Q E s:=by
  refine callType_new F.called_zip (by decide) (F.typeCall_zip_2 _ _) (F.newCall_zip_2 _ _) (fun obj=>F.args_object_init_3 obj _ _) F.entry_zip_new
    (meets_zip k1 k2 l1 l2 xs ys) ⟨hl1,hl2,?_⟩
  have z1:(zH1 k1 s.heap l1).objs.size=s.heap.objs.size + 1:=Heap.size_push ..
  have z2:(zH2 k1 k2 s.heap l1 l2).objs.size=s.heap.objs.size + 2:=by unfold zH2; rw [Heap.size_push,z1]
  have z3:(zH3 k1 k2 s.heap l1 l2).objs.size=s.heap.objs.size + 3:=by unfold zH3; rw [Heap.size_push,z2]
  have z4:(zH4 k1 k2 s.heap l1 l2).objs.size=s.heap.objs.size + 4:=by unfold zH4; rw [Heap.size_push,z3]
  have u1:∀ b o,(zH1 k1 s.heap l1).get? b=some o→(zH5 k1 k2 s.heap l1 l2).get? b=some o:=fun b o e =>
    Heap.get?_push_of_some _ (Heap.get?_push_of_some _ (Heap.get?_push_of_some _ (Heap.get?_push_of_some _ e)))
  have u2:∀ b o,(zH2 k1 k2 s.heap l1 l2).get? b=some o→(zH5 k1 k2 s.heap l1 l2).get? b=some o:=fun b o e =>
    Heap.get?_push_of_some _ (Heap.get?_push_of_some _ (Heap.get?_push_of_some _ e))
  have g5:IsZip (zH5 k1 k2 s.heap l1 l2) (zH4 k1 k2 s.heap l1 l2).objs.size (zH2 k1 k2 s.heap l1 l2).objs.size (zH3 k1 k2 s.heap l1 l2).objs.size .none:=Heap.get?_push_size _ rfl
  have g4:IsPair (zH5 k1 k2 s.heap l1 l2) (zH3 k1 k2 s.heap l1 l2).objs.size .none .none:=Heap.get?_push_of_some _ (Heap.get?_push_size _ rfl)
  have g3:IsPair (zH5 k1 k2 s.heap l1 l2) (zH2 k1 k2 s.heap l1 l2).objs.size (.ref s.heap.objs.size) (.ref (zH1 k1 s.heap l1).objs.size):=Heap.get?_push_of_some _ (Heap.get?_push_of_some _ (Heap.get?_push_size _ rfl))
  have j1:k1.it (zH5 k1 k2 s.heap l1 l2) s.heap.objs.size l1 0:=SK.it_at SK.it_new fun o e=>u1 _ o e
  have j2:k2.it (zH5 k1 k2 s.heap l1 l2) (zH1 k1 s.heap l1).objs.size l2 0:=SK.it_at SK.it_new fun o e=>u2 _ o e
  rw [z4,z2,z3] at g5
  rw [z3] at g4
  rw [z2,z1] at g3
  rw [z1] at j2
  show _∧_
  rw [z4]
  exact ⟨⟨_,g5,rfl⟩,h _ g5 g3 g4 j1 j2 fun c o x=>u1 _ _ (Heap.get?_push_of_some _ x)⟩
end

def SK.Sq:SK→PySem.W.Frag→Hp→Addr→List V→Prop
  | .l=>SqL
  | .t=>SqT
def Itz (K:PySem.W.Frag) (k1 k2:SK) (l1 l2:Addr):It :=
  ⟨fun i H=>∃ xs ys x y,k1.Sq K H l1 xs∧k2.Sq K H l2 ys∧xs[i]? = some x∧ys[i]? = some y,
   fun i H v H'=>∃ p x y,H p=none∧v=.ref p∧H'=upd H p (.tup [x,y])∧(∀ xs,k1.Sq K H l1 xs→xs[i]? = some x)∧∀ ys,k2.Sq K H l2 ys→ys[i]? = some y,
   fun i H=>∃ xs ys,k1.Sq K H l1 xs∧k2.Sq K H l2 ys∧(xs.length≤i∨ys.length≤i)⟩
section
variable {X:Cx} {pins:List (Addr × Obj)} {σ:St} {H:Hp} {s:Shared} {h':Heap}
theorem SK.read {k:SK} {a:Addr} {xs:List V} (I:Inv X pins σ H s) (h:k.Sq X.K H a xs):∃ its:List Value,Vals xs its∧k.sq s.heap a its.toArray:=by
  cases k
  · obtain ⟨its,r,p,_⟩:=I.list h
    exact ⟨its,r,p.isList⟩
  · obtain ⟨its,r,p,_⟩:=I.tuple h
    exact ⟨its,r,p⟩
theorem SK.inj {k:SK} {a:Addr} {xs ys:List V} (I:Inv X pins σ H s) (h:k.Sq X.K H a xs) (h':k.Sq X.K H a ys):xs=ys:=by
  cases k
  · exact I.list_inj h h'
  · exact I.tuple_inj h h'

theorem Inv.turnedL {t':Nat} {L:List Addr} (I:Inv X pins σ H s) (k:∀ b o,b∉L→s.heap.get? b=some o→h'.get? b=some o) (f:∀ b∈L,FpOk X pins H b):Inv X pins σ H { s with heap:=h',toks:=t' }:=by
  have nit:∀ b u,H b=some u→b∉L:=fun b u e z=>by rw [(f b z).1] at e; cases e
  refine I.step (g':=s.gens) (d':=s.drawn) (ch:=L) (fun b hb => ?_) (fun b o _ _ hc e _=>k b o hc e) (fun b o _ _ hc e _=>⟨o.slots,k b o hc e⟩) (fun _ _ _ _ n=>n)
    (fun b o hc e=>⟨o,k b o hc e⟩) (fun _ _ e=>e) (fun _ _ _ e=>e) (fun b ps e=>⟨#[],by rw [e]; simp⟩) (fun m hm => ?_) (fun b u e => ?_) I.bare
  · obtain ⟨f0,f1,f2,f3,f4,f5⟩:=f b hb
    exact ⟨f3,f1,f4,f5⟩
  · obtain ⟨o,es,ep,ho,r⟩:=hm
    exact ⟨o,es,ep,k _ o (fun z=>(f _ z).2.1 rfl) ho,r⟩
  · refine (I.hok b u e).stay (fun c v hc q=>k c v ?_ q) (fun _ q=>q) fun _ _ q=>q
    rcases hc with z | z
    · rw [z]; exact nit b u e
    · exact nit c _ z
theorem off_of {z TO i1 i2 b:Addr} (h:b∉[z,TO,i1,i2]):Off z TO i1 i2 b:=⟨fun e=>h (by simp [e]),fun e=>h (by simp [e]),fun e=>h (by simp [e]),fun e=>h (by simp [e])⟩
theorem zap_new (m:Nat):ZAp (m + 4) (m + 2) (m + 3) m (m + 1) :=
  ⟨(by show ¬ (_:Nat)=_; omega),(by show ¬ (_:Nat)=_; omega),(by show ¬ (_:Nat)=_; omega),(by show ¬ (_:Nat)=_; omega),(by show ¬ (_:Nat)=_; omega),(by show ¬ (_:Nat)=_; omega),(by show ¬ (_:Nat)=_; omega),(by show ¬ (_:Nat)=_; omega),(by show ¬ (_:Nat)=_; omega),(by show ¬ (_:Nat)=_; omega)⟩
theorem off_new {m a:Nat} (h:a < m):Off (m + 4) (m + 3) m (m + 1) a:=⟨(by show ¬ (_:Nat)=_; omega),(by show ¬ (_:Nat)=_; omega),(by show ¬ (_:Nat)=_; omega),(by show ¬ (_:Nat)=_; omega)⟩
theorem turn_zip {P:Program} {w:World} {K:PySem.W.Frag} {elts:List Expr} {kk:Nat} {tp:Pos} {k1 k2:SK} {z TI TO i1 i2 l1 l2:Addr} (D:ZAp z TI TO i1 i2) (o1:Off z TO i1 i2 l1) (o2:Off z TO i1 i2 l2) :
    Turn P w K (.Tuple elts kk tp) (Itz K k1 k2 l1 l2) [z,TI,TO,i1,i2] z
      (fun i h=>IsZip h z TI TO .none∧IsPair h TI (.ref i1) (.ref i2)∧(∃ a b,IsPair h TO a b)∧k1.it h i1 l1 i∧k2.it h i2 l2 i) where
  mem:=by simp
  obj:=fun i h st b hb=>by
    obtain ⟨hz,hTI,⟨a,c,hTO⟩,h1,h2⟩:=st
    have fi:∀ {k:SK} {b a:Addr} {i:Nat},k.it h b a i→∃ o,h.get? b=some o∧∀ v,o.data≠.cell v:=fun x=>by
      obtain ⟨o,ho,vs,d⟩:=SK.it_ob x
      exact ⟨o,ho,fun v q=>by rw [d] at q; cases q⟩
    simp only [List.mem_cons,List.not_mem_nil,or_false] at hb
    rcases hb with rfl | rfl | rfl | rfl | rfl
    · exact ⟨_,hz,fun v q=>by cases q⟩
    · exact ⟨_,hTI,fun v q=>by cases q⟩
    · exact ⟨_,hTO,fun v q=>by cases q⟩
    · exact fi h1
    · exact fi h2
  keep:=fun i h h' st k=>by
    obtain ⟨hz,hTI,⟨a,c,hTO⟩,h1,h2⟩:=st
    exact ⟨k _ (by simp) _ hz,k _ (by simp) _ hTI,⟨a,c,k _ (by simp) _ hTO⟩,SK.it_at h1 fun o e=>k _ (by simp) o e,SK.it_at h2 fun o e=>k _ (by simp) o e⟩
  item:=by
    intro X hP hw hK hc i pins s σ H E I hf st hg
    subst hP hw hK
    obtain ⟨hz,hTI,⟨a,c,hTO⟩,h1,h2⟩:=st
    obtain ⟨xs,ys,x,y,q1,q2,hx,hy⟩:=hg
    obtain ⟨u1,r1,s1⟩:=SK.read I q1
    obtain ⟨u2,r2,s2⟩:=SK.read I q2
    obtain ⟨x',hx',rx⟩:=r1.get hx
    obtain ⟨y',hy',ry⟩:=r2.get hy
    refine zip_item D o1 o2 hz hTI hTO h1 h2 s1 s2 (x:=x') (y:=y') (by simpa using hx') (by simpa using hy') fun g z' ti' to' j1 j2 tp' kp=>⟨_,rfl,?_⟩
    have lt:∀ {b:Addr} {o:Obj},s.heap.get? b=some o→s.heap.objs.size≠b:=fun e=>Nat.ne_of_gt (Heap.lt_size e)
    have hn:H s.heap.objs.size=none:=I.hok.fresh (Nat.le_refl _)
    refine wpAny_letOwnedTupleGo_zip z' fun g' z'' sb => ?_
    have I1:Inv X pins σ (upd H s.heap.objs.size (.tup [x,y])) { s with heap:=s.heap.push { cls:=.type "tuple",data:=.seq #[x',y'] } } :=
      I.laid (t':=s.toks) (fun b u e=>Heap.get?_push_of_some _ e) (Nat.le_refl _) ⟨(by show 2≤sizeLine; decide),[x',y'],.cons rx (.cons ry .nil),⟨_,Heap.get?_push_size _ rfl,rfl,_,rfl⟩⟩
    have fp':∀ b∈[z,TI,TO,i1,i2],s.heap.objs.size≠b∧upd H s.heap.objs.size (.tup [x,y]) b=none:=fun b hb=>by
      have e:s.heap.objs.size≠b:=by
        simp only [List.mem_cons,List.not_mem_nil,or_false] at hb
        rcases hb with rfl | rfl | rfl | rfl | rfl
        · exact lt hz
        · exact lt hTI
        · exact lt hTO
        · obtain ⟨o,ho,_⟩:=SK.it_ob h1; exact lt ho
        · obtain ⟨o,ho,_⟩:=SK.it_ob h2; exact lt ho
      exact ⟨e,by rw [upd_ne (Ne.symm e)]; exact (hf b hb).1⟩
    have sub:∀ b∈[z,TO,i1,i2],b∈[z,TI,TO,i1,i2]:=fun b hb=>by
      simp only [List.mem_cons,List.not_mem_nil,or_false] at hb ⊢
      rcases hb with h | h | h | h <;> simp [h]
    have I2:Inv X pins σ (upd H s.heap.objs.size (.tup [x,y])) { s with heap:=g' }:=by
      refine Inv.turnedL (s:={ s with heap:=s.heap.push { cls:=.type "tuple",data:=.seq #[x',y'] } }) (h':=g') (t':=s.toks) (L:=[z,TO,i1,i2]) I1 (fun b o hb e => ?_) fun b hb => ?_
      · have ob:=off_of hb
        rcases Heap.get?_push_cases e with ⟨e1,e2⟩ | e1
        · subst e1 e2
          exact sb.extBut _ _ ob.z tp'
        · exact sb.extBut _ _ ob.z (kp b o ob e1)
      · obtain ⟨f0,f1,f2,f3,f4,f5⟩:=hf b (sub b hb)
        exact ⟨(fp' b (sub b hb)).2,f1,f2,f3,f4,f5⟩
    refine ⟨.ref s.heap.objs.size,_,I2,rfl,⟨_,x,y,hn,rfl,rfl,fun zs hq => ?_,fun zs hq => ?_⟩,⟨z'',sb.extBut _ _ D.TIz ti',⟨_,_,sb.extBut _ _ D.TOz to'⟩,SK.it_at j1 fun o e=>sb.extBut _ _ D.i1z e,SK.it_at j2 fun o e=>sb.extBut _ _ D.i2z e⟩,fun b hb=>(fp' b hb).2⟩
    · rw [SK.inj I hq q1]; exact hx
    · rw [SK.inj I hq q2]; exact hy
  done:=by
    intro X hP hw hK hc i pins s σ H E I hf st hg
    subst hP hw hK
    obtain ⟨hz,hTI,⟨a,c,hTO⟩,h1,h2⟩:=st
    obtain ⟨xs,ys,q1,q2,he⟩:=hg
    obtain ⟨u1,r1,s1⟩:=SK.read I q1
    obtain ⟨u2,r2,s2⟩:=SK.read I q2
    have e1:=r1.length
    have e2:=r2.length
    refine zip_stop (I.ok.hd hc) D o1 o2 hz hTI hTO h1 h2 s1 s2 (he.imp (fun q => ?_) fun q => ?_) fun g kp=>⟨rfl,I.turnedL (t':=s.toks) (L:=[z,TO,i1,i2]) (fun b o hb e=>kp b o (off_of hb) e) fun b hb=>hf b ?_⟩
    · simp; omega
    · simp; omega
    · simp only [List.mem_cons,List.not_mem_nil,or_false] at hb ⊢
      rcases hb with h | h | h | h <;> simp [h]
  self:=fun _ _ _ _ _ st h=>wpAny_pyIter_zip st.1 h
end
section
variable {X:Cx}
theorem bt_zip:bootBuiltins "zip" = some (.type "zip"):=by first | rfl | kernel_rfl | decide +kernel
def iZip (K:PySem.W.Frag) (ta:TA):TI:=fun σ H R=>ta σ H fun vs H1=>∃ (l1 l2:Addr) (k1 k2:SK),vs=[.ref l1,.ref l2]∧(∃ xs,k1.Sq K H1 l1 xs)∧(∃ ys,k2.Sq K H1 l2 ys)∧R (Itz K k1 k2 l1 l2) H1
theorem pi_zip {a b:Expr} {ta:TA} {p pos:Pos} {elts:List Expr} {kk:Nat} {tp:Pos} (hg:Gl X "zip") (hm:X.mg "zip" = none) (ha:PA X [a,b] ta)
    (hs:starEach [a,b] X.env=(false,eval a X.env)::starEach [b] X.env:=by rfl) (hpl:(backTo pos (starEach [b] X.env)).any (·.1)=false:=by rfl) :
    PI X (.Tuple elts kk tp) (.Call (.Name "zip" p) [a,b] [] pos) (iZip X.K ta):=by
  intro pins s σ H R I h
  refine Call_ (ld_blt I hg hm bt_zip (PyProof.Rows.callWith_type1 (thn (ha pos pins s σ H _ I h) fun us s1 ⟨vs,H1,I1,r1,q1⟩ => ?_) hs hpl))
  obtain ⟨l1,l2,k1,k2,e,⟨xs,q1⟩,⟨ys,q2⟩,q⟩:=q1
  subst e
  cases r1 with
  | cons r rr =>
    cases rr with
    | cons r' rr =>
      cases rr
      cases r
      cases r'
      obtain ⟨u1,_,s1'⟩:=SK.read I1 q1
      obtain ⟨u2,_,s2'⟩:=SK.read I1 q2
      have a1:=SK.sq_lt s1'
      have a2:=SK.sq_lt s2'
      refine call_zip s1' s2' fun g hz hTI hTO j1 j2 kp=>wpAny_pyIter_zip hz ?_
      refine ⟨_,[s1.heap.objs.size + 4,s1.heap.objs.size + 2,s1.heap.objs.size + 3,s1.heap.objs.size,s1.heap.objs.size + 1],_,_,H1,rfl,I1.kept (t':=s1.toks) kp,
        turn_zip (k1:=k1) (k2:=k2) (l1:=l1) (l2:=l2) (zap_new _) (off_new a1) (off_new a2),
        ⟨hz,hTI,⟨_,_,hTO⟩,j1,j2⟩,fun b hb => ?_,q⟩
      have hb':s1.heap.objs.size≤b:=by
        simp only [List.mem_cons,List.not_mem_nil,or_false] at hb
        rcases hb with h | h | h | h | h
        · rw [h]; exact Nat.le_add_right _ _
        · rw [h]; exact Nat.le_add_right _ _
        · rw [h]; exact Nat.le_add_right _ _
        · rw [h]; exact Nat.le_refl _
        · rw [h]; exact Nat.le_add_right _ _
      exact I1.fpOk hb' (I1.hok.fresh hb')
end
theorem for_zip {K:PySem.W.Frag} {k1 k2:SK} {l1 l2:Addr} {xs ys:List V} {g:TG} {tb:TS} {D:Ends} {σ:St} {H:Hp} (Pv:Nat→St→Hp→Prop) (h0:Pv 0 σ H) (hl:∀ i σ H,Pv i σ H→k1.Sq K H l1 xs∧k2.Sq K H l2 ys)
    (hs:∀ i x y p σ H,xs[i]? = some x→ys[i]? = some y→Pv i σ H→H p=none→g (.ref p) σ (upd H p (.tup [x,y])) fun σ2 H2=>tb { D with nx:=Pv (i + 1),ct:=Pv (i + 1),bk:=D.nx } σ2 H2)
    (hd:∀ σ H,Pv (min xs.length ys.length) σ H→D.nx σ H) :
    ∃ W:Nat→Nat→St→Hp→Prop,(∃ m,W 0 m σ H)∧∀ i m σ H,W i m σ H →
      ((Itz K k1 k2 l1 l2).stop i H∧D.nx σ H)∨((Itz K k1 k2 l1 l2).go i H∧∃ N:St→Hp→Prop,(∀ σ' H',N σ' H'→∃ m',m' < m∧W (i + 1) m' σ' H')∧∀ x H',(Itz K k1 k2 l1 l2).yld i H x H'→g x σ H' fun σ2 H2=>tb { D with nx:=N,ct:=N,bk:=D.nx } σ2 H2):=by
  refine ⟨fun i m σ H=>m=min xs.length ys.length - i∧i≤min xs.length ys.length∧Pv i σ H,⟨min xs.length ys.length,by simp,Nat.zero_le _,h0⟩,?_⟩
  rintro i m σ H ⟨rfl,hi,p⟩
  obtain ⟨q1,q2⟩:=hl i σ H p
  by_cases hlt:i < min xs.length ys.length
  · have a1:i < xs.length:=by omega
    have a2:i < ys.length:=by omega
    refine .inr ⟨⟨xs,ys,xs[i],ys[i],q1,q2,by simp [a1],by simp [a2]⟩,Pv (i + 1),fun σ' H' p'=>⟨min xs.length ys.length - (i + 1),by omega,rfl,hlt,p'⟩,fun v H' y => ?_⟩
    obtain ⟨a,x,y,hn,rfl,rfl,e1,e2⟩:=y
    exact hs i x y a σ H (e1 xs q1) (e2 ys q2) p hn
  · have e:i=min xs.length ys.length:=by omega
    subst e
    exact .inl ⟨⟨xs,ys,q1,q2,by omega⟩,hd σ H p⟩
end L2

namespace L2
open PySem PySem.Spec PyProof.Rows


end L2

namespace L2
open PySem PySem.Spec PyProof.Rows

end L2

namespace L2
open PySem PySem.Spec PyProof.Rows


theorem ObjOk.there {P:Program} {w:World} {H:Hp} {h:Heap} {a:Addr} {o:HO} (x:ObjOk P w H h a o):∃ u,h.get? a=some u:=by
  cases o with
  | lst xs=>obtain ⟨_,_,_,_,e⟩:=x; exact ⟨_,e⟩
  | tup xs=>obtain ⟨_,_,_,o,e,_⟩:=x; exact ⟨_,e⟩
  | dK kvs=>obtain ⟨_,_,_,_,o,_,_,e,_⟩:=x; exact ⟨_,e⟩
  | dT kvs=>obtain ⟨_,_,_,_,o,_,_,e,_⟩:=x; exact ⟨_,e⟩
  | set S n=>obtain ⟨o,_,_,_,e,_⟩:=x; exact ⟨_,e⟩
  | ins C dx fs=>obtain ⟨_,_,_,e,_⟩:=x; exact ⟨_,e⟩
  | own y=>exact x
  | xd fs=>obtain ⟨_,⟨_,_,_,e,_⟩,_⟩:=x; exact ⟨_,e⟩
  | rng lo hi=>obtain ⟨_,_,_,e⟩:=x; exact ⟨_,e⟩
  | frz ob u=>obtain ⟨e,_⟩:=x; exact ⟨_,e⟩
  | tbl ps=>exact ⟨_,(show h.get? a=some _ from x)⟩
  | met f y=>exact ⟨_,(show h.get? a=some _ from x)⟩
  | ext φ=>obtain ⟨_,e,_⟩:=x; exact e
theorem HOk.not {P:Program} {w:World} {H:Hp} {h:Heap} {a:Addr} (x:HOk P w H h) (e:h.get? a=none):H a=none:=by
  cases q:H a with
  | none=>rfl
  | some o =>
    obtain ⟨u,z⟩:=(x a o q).there
    rw [e] at z; cases z

structure Fly (h0:Heap) (H:Hp) (h:Heap) (e:Addr) (cls:Value):Prop where
  ex:∃ oe vs a0 T oT ts,h.get? e=some oe∧(oe.cls=cls∧vs[0]? = some a0)∧oe.data=.fields vs∧vs[1]? = some (.ref T)∧(h0.get? T=none∧H T=none)∧T≠e∧h.get? T=some oT∧oT.data=.fields ts∧ts[3]? = some .none
  new:h0.get? e=none
  un:H e=none
def CXe (P:Program) (w:World):CXT:=fun outer H s E ev s'=>∃ e cls H',ev=.ref e∧s'.os=s.os∧AllBare s'.gens∧Un (frs outer) [] H H' s.heap s'.heap∧HOk P w H' s'.heap∧Fly s.heap H' s'.heap e cls∧E cls none H'
theorem quietE {P:Program} {w:World}:Quiet (CXe P w):=fun _ _ _ _ _ ⟨_,_,_,_,_,_,_,_,_,h⟩=>h

theorem rebase {h b b':Heap}:∀ {l:List Env},h.FunFrames b l→(∀ a∈frs l,b'.get? a=none)→h.FunFrames b' l
  | [],_,_=>trivial
  | env::r,⟨hk,⟨L,o,hf,hn,ho,hd⟩,hr⟩,k=>by
    have e:frs (env::r)=L::frs r:=by unfold frs; rw [List.filterMap_cons,hf]
    rw [e] at k
    exact ⟨hk,⟨L,o,hf,k L List.mem_cons_self,ho,hd⟩,rebase hr fun a ha=>k a (List.mem_cons_of_mem _ ha)⟩

abbrev less (h:Heap) (l:List Addr):Heap:=PySem.W.hideAll h l
theorem less_stays (h:Heap) (l:List Addr):(less h l).StaysIn h:=fun _ _ e=>PySem.W.of_hideAll l e

section
variable {P:Program} {w:World} {H H':Hp} {h h' h'' bs:Heap} {l:List Env} {hid:List Addr}

theorem un_upto (u:Un (frs l) [] H H' h h') (ok:HOk P w H' h') (fr:h'.FunFrames bs l) (fre:∀ b∈frs l,H' b=none) (hh:∀ b∈hid,h.get? b=none∧H' b=none)
    (st:(less h' (hid++frs l)).StaysIn h'') (up:h'.UpToSlots h''):Un (frs l) [] H H' h h''∧HOk P w H' h'':=by
  have kp:∀ b o,h'.get? b=some o→b∉hid→b∉frs l→h''.get? b=some o:=fun b o e n1 n2=>st b o (PySem.W.hideAll_get _ e fun z=>(List.mem_append.mp z).elim n1 n2)
  have nh:∀ b o,h.get? b=some o→b∉hid:=fun b o e z=>by rw [(hh b z).1] at e; cases e
  have fs:∀ b o,h'.get? b=some o→b∈frs l→∃ sl,h''.get? b=some { o with slots:=sl }:=fun b o e hb=>by
    obtain ⟨_,o',e',nf⟩:=fr.mem hb
    rw [e] at e'; cases e'
    exact up b o e nf
  refine ⟨⟨fun b o e n hb hx=>kp b o (u.keep b o e n hb hx) (nh b o e) hb,fun b o e n hb hx => ?_,u.free,fun b o e hx => ?_,u.tups,u.frzs,u.tbls⟩,fun a o e => ?_⟩
  · obtain ⟨sl,e1⟩:=u.slot b o e n hb hx
    obtain ⟨sl',e2⟩:=fs b _ e1 hb
    exact ⟨sl',e2⟩
  · obtain ⟨o',e1⟩:=u.there b o e hx
    by_cases hb:b∈frs l
    · obtain ⟨sl',e2⟩:=fs b _ e1 hb
      exact ⟨_,e2⟩
    · exact ⟨o',kp b o' e1 (nh b o e) hb⟩
  · refine (ok a o e).stay (fun b v hb q => ?_) (fun _ q=>q) fun _ _ q=>q
    have tr:∃ v,H' b=some v:=by
      rcases hb with z | z
      · exact ⟨o,z▸e⟩
      · exact ⟨_,z⟩
    obtain ⟨v',tr⟩:=tr
    refine kp b v q (fun z => ?_) fun z => ?_
    · rw [(hh b z).2] at tr; cases tr
    · rw [fre b z] at tr; cases tr

theorem entry_new (u:Un (frs l) [] H H' h h') (ok:HOk P w H' h') (fr:h'.FunFrames bs l) (hh:∀ b∈hid,h.get? b=none∧H' b=none) (up:h'.UpToSlots h'') {T:Addr} {oT:Obj} {ts:Array Value}
    (e:h''.get? T=some oT) (d:oT.data=.fields ts) (n:(less h' (hid++frs l)).get? T=none):h.get? T=none∧H' T=none:=by
  have nf:T∉frs l:=fun z=>by
    obtain ⟨_,o',e',nf⟩:=fr.mem z
    obtain ⟨sl,q⟩:=up T o' e' nf
    rw [e] at q
    cases q
    exact nf ts d
  by_cases hb:T∈hid
  · exact hh T hb
  · have z:h'.get? T=none:=by
      cases q:h'.get? T with
      | none=>rfl
      | some o =>
        have z:(less h' (hid++frs l)).get? T=some o:=PySem.W.hideAll_get _ q fun z=>(List.mem_append.mp z).elim hb nf
        rw [n] at z; cases z
    refine ⟨?_,ok.not z⟩
    cases q:h.get? T with
    | none=>rfl
    | some o =>
      obtain ⟨o',q'⟩:=u.there T o q (by simp)
      rw [z] at q'; cases q'
end
theorem back {fs:List Addr} {H H':Hp} {h h':Heap} (u:Un fs [] H H' h h') {a:Addr} (e:h'.get? a=none):h.get? a=none:=by
  cases q:h.get? a with
  | none=>rfl
  | some o =>
    obtain ⟨o',q'⟩:=u.there a o q (by simp)
    rw [e] at q'; cases q'


section
variable {P:Program} {w:World} {K:PySem.W.Frag} {mg:Str→Option Value} {base:Heap} {N:List Str} {qual:Str} {scope:Scope} {f:Addr} {cd:Value} {A:Around} {outer:List Env} {s0:Shared} {H0:Hp} {E:XK}

theorem leave_made {pins:List (Addr × Obj)} {σ:St} {H:Hp} {s:Shared} {h':Heap} {e:Addr} {cls:Value} {args:List Value} (I:Inv (cxOf (CXe P w) P w K mg base N qual scope f cd A outer s0 H0 E) pins σ H s)
    (hx:Heap.MadeExcOf s.heap h' e cls args) (q:E cls none H):(cxOf (CXe P w) P w K mg base N qual scope f cd A outer s0 H0 E).xe (.ref e) { s with heap:=h' }:=by
  have fr:s.heap.FunFrames _ (cxOf (CXe P w) P w K mg base N qual scope f cd A outer s0 H0 E).stack:=I.stack
  have kin:=I.stkFree
  refine wpAny_leaves_madeW (base:=less s.heap ([]++frs (cxOf (CXe P w) P w K mg base N qual scope f cd A outer s0 H0 E).stack)) (h:=s.heap) (L:=s0.heap.objs.size) I.ok.frames rfl (less_stays _ _)
    (rebase fr fun a ha=>PySem.W.hideAll_none _ (List.mem_append_right _ ha)) hx fun h'' t x1 x2 x3 x4 => ?_
  have up:s.heap.UpToSlots h'':=(Heap.UpToSlots.of_keeps hx.keeps).trans x4
  obtain ⟨y1,y2,y3,oe,vs,T,oT,ts,z1,z2,z3,z4,z5,z6,z7,z8,z9⟩:=x1
  obtain ⟨u,ok⟩:=un_upto (H:=H) (hid:=[]) Un.refl I.hok fr kin (fun b z=>by cases z) y1 up
  have J:=I.call' (s':={ s with heap:=h'' }) (ch:=[]) rfl u ok I.bare (fun b z=>by cases z)
  obtain ⟨n1,n2⟩:=entry_new (H:=H) (hid:=[]) Un.refl I.hok fr (fun b z=>by cases z) up z7 z8 z5
  exact ⟨e,cls,H,rfl,J.os,J.bare,J.base,ok,⟨⟨oe,vs,_,T,oT,ts,z1,z2,z3,z4,⟨back I.base n1,n2⟩,z6,z7,z8,z9⟩,back I.base hx.new,I.hok.not hx.new⟩,q⟩

theorem leave_on {pins:List (Addr × Obj)} {σ:St} {H:Hp} {s s':Shared} {e:Value} (I:Inv (cxOf (CXe P w) P w K mg base N qual scope f cd A outer s0 H0 E) pins σ H s)
    (c:CXe P w (cxOf (CXe P w) P w K mg base N qual scope f cd A outer s0 H0 E).stack H s E e s'):(cxOf (CXe P w) P w K mg base N qual scope f cd A outer s0 H0 E).xe e s':=by
  obtain ⟨ea,cls,H',rfl,c1,c2,c3,c4,⟨⟨oe,vs,a0,T,oT,ts,f1,f2,f3,f4,f5,f6,f7,f8,f9⟩,fn,fu⟩,q⟩:=c
  have J:=I.call' (s':=s') (ch:=[]) c1 c3 c4 c2 (fun b z=>by cases z)
  have fr:s'.heap.FunFrames _ (cxOf (CXe P w) P w K mg base N qual scope f cd A outer s0 H0 E).stack:=J.stack
  have hh:∀ b∈[ea,T],s.heap.get? b=none∧H' b=none:=fun b hb=>by
    rcases List.mem_cons.mp hb with rfl | hb
    · exact ⟨fn,fu⟩
    · rcases List.mem_cons.mp hb with rfl | hb
      · exact f5
      · cases hb
  refine wpAny_leaves_onW (base:=less s'.heap ([ea,T]++frs (cxOf (CXe P w) P w K mg base N qual scope f cd A outer s0 H0 E).stack)) (L:=s0.heap.objs.size) (cls:=cls) (a0:=a0) I.ok.frames rfl
    ⟨less_stays _ _,PySem.W.hideAll_none _ (by simp),rebase fr fun a ha=>PySem.W.hideAll_none _ (List.mem_append_right _ ha),oe,vs,T,oT,ts,f1,f2,f3,f4,PySem.W.hideAll_none _ (by simp),f6,f7,f8,f9⟩ fun h'' x1 x4 => ?_
  obtain ⟨y1,y2,y3,oe',vs',T',oT',ts',z1,z2,z3,z4,z5,z6,z7,z8,z9⟩:=x1
  obtain ⟨u,ok⟩:=un_upto c3 c4 fr J.stkFree hh y1 x4
  have J':=I.call' (s':={ s' with heap:=h'' }) (ch:=[]) c1 u ok c2 (fun b z=>by cases z)
  obtain ⟨n1,n2⟩:=entry_new c3 c4 fr hh x4 z7 z8 z5
  exact ⟨ea,cls,H',rfl,J'.os,J'.bare,J'.base,ok,⟨⟨oe',vs',_,T',oT',ts',z1,z2,z3,z4,⟨back I.base n1,n2⟩,z6,z7,z8,z9⟩,back I.base fn,fu⟩,q⟩
theorem passE:Passes (CXe P w) (cxOf (CXe P w) P w K mg base N qual scope f cd A outer s0 H0 E) E:=fun _ _ _ _ _ _ I c=>leave_on I c
end
end L2

namespace L2
open PySem PySem.Spec PyProof.Rows


abbrev bmV:List Value:=[.type "ValueError",.type "Exception",.type "BaseException",.type "object"]
structure OwnX (K:PySem.W.Frag) (mg:Str→Option Value) (x:Str) (C:Addr):Prop where
  m:mg x=some (.ref C)
  ok:PySem.W.excIn K C bmV "ValueError.__new__" = true
theorem own_obj {K:PySem.W.Frag} {h:Heap} {C:Addr} {bmB:List Value} {newId:String} (X:K.In h) (q:PySem.W.excIn K C bmB newId=true) :
    ∃ bm N nm qn bs hd sn sub ab col dd k0 k1 k2 k3 k5 mN,h.get? C=some (excClassObj nm qn C N bs bm hd sn sub ab col dd k0 k1 k2 k3 k5 newId)∧h.Ns N mN∧mN "__init__" = none∧OwnTail h bmB bm:=by
  unfold PySem.W.excIn at q
  split at q
  · rename_i dct cdt slo hob
    split at q
    · rename_i C2 bmx j0 j1 j2 j3 nw j5 hmr hsl
      simp only [Bool.and_eq_true,beq_iff_eq,Bool.not_eq_true'] at q
      obtain ⟨⟨⟨⟨⟨q1,q2⟩,q3⟩,q4⟩,q5⟩,q6⟩:=q
      subst q1 q2
      obtain ⟨nm,bs,mro,ns,qn,hd,sn,sub,ab,col,del⟩:=cdt
      dsimp only at hmr q3 q5 q6
      subst hmr q3
      have es:slo = #[j0,j1,j2,j3,some (.builtin nw),j5]:=by
        obtain ⟨l⟩:=slo
        simp only at hsl
        rw [hsl]
      subst es
      exact ⟨bmx,ns,nm,qn,bs,hd,sn,sub,ab,col,dct,j0,j1,j2,j3,j5,_,X _ _ hob,.of_isNs (PySem.W.isNs_of_in X q5),PySem.W.nsMap_none_of_in X q5 q6,PySem.W.tail_of_in X q4⟩
    · cases q
  · cases q

def Raises (X:Cx) (E:XK):Prop:=∀ (pins:List (Addr × Obj)) (σ:St) (H:Hp) (s:Shared) (h':Heap) (e:Addr) (cls:Value) (args:List Value),Inv X pins σ H s→Heap.MadeExcOf s.heap h' e cls args→E cls none H→X.xe (.ref e) { s with heap:=h' }
theorem raisesE {P:Program} {w:World} {K:PySem.W.Frag} {mg:Str→Option Value} {base:Heap} {N:List Str} {qual:Str} {scope:Scope} {f:Addr} {cd:Value} {A:Around} {outer:List Env} {s0:Shared} {H0:Hp} {E:XK} :
    Raises (cxOf (CXe P w) P w K mg base N qual scope f cd A outer s0 H0 E) E:=fun _ _ _ _ _ _ _ _ I hx q=>leave_made I hx q
def tRaise (te:TE) (cls:Value) (E:XK):TS:=fun _ σ H=>te σ H fun _ H1=>E cls none H1
section
variable {X:Cx}
theorem ps_raise {x:Str} {C:Addr} {np cpos pos:Pos} {e:Expr} {te:TE} {E:XK} (o:OwnX X.K X.mg x C) (hE:Raises X E) (ha:PE X e te) (hc:X.calm=true:=by rfl) (hg:Gl X x:=by rfl) (hd:(x == ("__debug__" : Str))=false:=by decide)
    (he:starEach [e] X.env=(false,eval e X.env)::starEach [] X.env:=by rfl):PS X (.Raise (some (.Call (.Name x np) [e] [] cpos)) none pos) (tRaise te (.ref C) E):=by
  intro pins s σ H D I h
  obtain ⟨bm,N,nm,qn,bs,hdt,sn,sub,ab,col,dd,k0,k1,k2,k3,k5,mN,hC,hN,hni,T⟩:=own_obj I.mod.kin o.ok
  refine wpAny_Raise_call_subT (C:=C) (nm:=nm) (q:=qn) (N:=N) (bs:=bs) (bm:=bm) (hdct:=hdt) (sn:=sn) (sub:=sub) (ab:=ab) (col:=col) (dd:=dd) (k0:=k0) (k1:=k1) (k2:=k2) (k3:=k3) (k5:=k5) (mN:=mN)
    F.excBase_ValueError (T.hasType F.excBase_ValueError.hasBase) (I.ok.hd hc) (by rw [he]; rfl) hni (ld_glob I hg o.m ⟨rfl,?_⟩ hd)
  have ha':=pa_cons ha pa_nil he cpos pins s σ H (fun vs H1=>vs.length=1∧E (.ref C) none H1) I (by
    refine (?_:tCons te tNil σ H _)
    exact (show te σ H _ from by
      have e1:(fun x H1=>tNil σ H1 fun xs H2=>(x::xs).length=1∧E (Value.ref C) none H2)=fun (_:V) H1=>E (Value.ref C) none H1:=by
        funext x H1; simp [tNil]
      rw [e1]; exact h))
  rw [he] at ha' ⊢
  refine Calls.evalArgs_plain (wpAny_mono ha' (fun us s2 z => ?_) fun _ _ y=>y)
  obtain ⟨vs,H1,I2,r,hl,q⟩:=z
  refine ⟨rfl,by rw [← r.length,hl]; decide,I2.bk _ _ hC,hN.keeps I2.bk,T.keeps I2.bk,fun h' e hm=>hE pins σ H1 s2 h' e _ us I2 hm q⟩
end


def ExcIs (e:Addr) (cls:Value) (h:Heap):Prop:=∃ o vs,h.get? e=some o∧o.cls=cls∧o.data=.fields vs
structure ExcC (K:PySem.W.Frag) (C:Addr):Prop where
  ga:PySem.W.findIn K (.ref C) "__getattribute__" = some (some (.builtin "BaseException.__getattribute__"))
  gt:PySem.W.findIn K (.ref C) "__getattr__" = some none
  ca:PySem.W.findIn K (.ref C) "__class__" = some (some (.builtin "object.__class__"))
  m1:PySem.W.subIn K (.ref C) (.type "object")=some true
  m2:PySem.W.subIn K (.ref C) (.type "BaseException")=some true
  cl:(PySem.W.clsIn K C).isSome=true
section
variable {prog:Program} {w:World} {A:Around} {E:Value→Shared→Prop} {h:Heap} {g:Array GenState} {d:Drawn} {t:Nat} {os:OsState} {a C:Addr} {o:Obj} {vs:Array Value}
theorem xcls_get {R:Result→Shared→Prop} (hx:h.get? a=some o) (hc:o.cls=.ref C) (S:PySem.W.Looks (model prog w) h (isSubtype (.ref C) (.type "object")) true) (hq:R (.ok (.ret (.ref C))) ⟨h,g,d,t,os⟩) :
    codeAny (model prog w) A (.call (.builtin "getset_descriptor.__get__") ⟨[.builtin "object.__class__",.ref a,.ref C],[]⟩) R ⟨h,g,d,t,os⟩:=by
  have hT5:(⟨h,g,d,t,os⟩:Shared).TypeIs (.builtin "object.__class__") "getset_descriptor" := F.typeOf_object_class
  have S':PySem.W.Looks (model prog w) h (isSubtype (.ref C) (.type (".".intercalate ("object.__class__".cutAt '.').dropLast))) true:=by rw [F.owner_object_class]; exact S
  refine codeAny_call_builtin F.slot_gs_get.plain F.entry_gs_get (F.slot_gs_get.check _ _ _ _ _ _ _ _ hT5 (F.args_gs_get _ _ _) ?_)
  repeat (any_goals (first | assumption | (with_reducible refine wpAny_loadPart_at hx ?_; rw [hc]) | with_reducible refine S'.at ?_ | wp_step))
  refine ⟨Code.quiet_builtin _ (by decide +kernel),codeAny_builtin F.entry_object_class ?_⟩
  repeat (any_goals (first | assumption | (with_reducible refine wpAny_loadPart_at hx ?_; rw [hc]) | wp_step))
theorem xcls_entry {tk:Tok} {Q:Fin→Shared→Prop} (hx:h.get? a=some o) (hc:o.cls=.ref C) (S:PySem.W.Looks (model prog w) h (isSubtype (.ref C) (.type "object")) true)
    (L:PySem.W.Looks (model prog w) h (typeLookup (.ref C) "__class__") (some (.builtin "object.__class__"))) (hq:Q (.done (.ret (.ref C))) ⟨h,g,d,t,os⟩) :
    wpAny (model prog w) A (Builtin.«object.__getattribute__» ⟨[.ref a,.str "__class__" tk],[]⟩) Q E ⟨h,g,d,t,os⟩:=by
  have hT5:(⟨h,g,d,t,os⟩:Shared).TypeIs (.builtin "object.__class__") "getset_descriptor" := F.typeOf_object_class
  have f5:=F.typeOf_object_class
  have f6:=F.slot_gs_get.lookup
  have f7:=F.slot_gs_set.lookup
  repeat (any_goals (first | assumption | (with_reducible refine wpAny_loadPart_at hx ?_; rw [hc]) | with_reducible refine L.at ?_ | wp_step))
  refine xcls_get hx hc S ?_
  repeat (any_goals (first | assumption | wp_step))
theorem xcls_check {M:Model} {nv:Value} {Q:Unit→Shared→Prop} (hx:h.get? a=some o) (hc:o.cls=.ref C) (S:PySem.W.Looks M h (isSubtype (.ref C) (.type "BaseException")) true) (hq:Q () ⟨h,g,d,t,os⟩) :
    wpAny M A (checkBuiltinCall "BaseException.__getattribute__" ⟨[.ref a,nv],[]⟩) Q E ⟨h,g,d,t,os⟩:=by
  have hk:builtinKind "BaseException.__getattribute__" = some .slot:=by decide +kernel
  have hs:splitId "BaseException.__getattribute__" = some ("BaseException","__getattribute__"):=by decide +kernel
  have ha:=F.args_bexc_ga (.ref a) nv
  simp only [checkBuiltinCall,hk,hs]
  refine wpAny_bind ?_
  unfold isInstance
  repeat (first | (with_reducible refine wpAny_loadPart_at hx ?_; rw [hc]) | with_reducible refine S.at ?_ | wp_step)
  exact hq
theorem xcls_by {tk:Tok} {Q:Value→Shared→Prop} (hx:h.get? a=some o) (hc:o.cls=.ref C) (S:PySem.W.Looks (model prog w) h (isSubtype (.ref C) (.type "object")) true) (S2:PySem.W.Looks (model prog w) h (isSubtype (.ref C) (.type "BaseException")) true)
    (L:PySem.W.Looks (model prog w) h (typeLookup (.ref C) "__class__") (some (.builtin "object.__class__"))) (L1:PySem.W.Looks (model prog w) h (typeLookup (.ref C) "__getattribute__") (some (.builtin "BaseException.__getattribute__")))
    (L2:PySem.W.Looks (model prog w) h (typeLookup (.ref C) "__getattr__") none) (sl:Slot "ValueError" "__getattribute__" "BaseException.__getattribute__") (hq:Q (.ref C) ⟨h,g,d,t,os⟩):wpAny (model prog w) A (getAttrBy (.ref a) (.str "__class__" tk) false) Q E ⟨h,g,d,t,os⟩:=by
  have f3:=sl.bind (.ref a)
  have hx2:(Value.builtin "BaseException.__getattribute__" == Value.builtin "object.__getattribute__")=false:=by decide +kernel
  have hx1:(onTheHeap (Value.ref C) && Value.builtin "BaseException.__getattribute__" == Value.builtin "object.__getattribute__")=false:=by rw [hx2]; rfl
  repeat (any_goals (first | assumption | (with_reducible refine wpAny_loadPart_at hx ?_; rw [hc]) | with_reducible refine L1.at ?_ | with_reducible refine L2.at ?_ | wp_step))
  refine codeAny_call_builtin sl.plain F.entry_bexc_ga (xcls_check hx hc S2 (xcls_entry hx hc S L ?_))
  repeat (any_goals (first | assumption | wp_step))
theorem xcls_attr {Q:Option Value→Shared→Prop} (hx:h.get? a=some o) (hc:o.cls=.ref C) (S:PySem.W.Looks (model prog w) h (isSubtype (.ref C) (.type "object")) true) (S2:PySem.W.Looks (model prog w) h (isSubtype (.ref C) (.type "BaseException")) true)
    (L:PySem.W.Looks (model prog w) h (typeLookup (.ref C) "__class__") (some (.builtin "object.__class__"))) (L1:PySem.W.Looks (model prog w) h (typeLookup (.ref C) "__getattribute__") (some (.builtin "BaseException.__getattribute__")))
    (L2:PySem.W.Looks (model prog w) h (typeLookup (.ref C) "__getattr__") none) (sl:Slot "ValueError" "__getattribute__" "BaseException.__getattribute__") (hq:Q (some (.ref C)) ⟨h,g,d,t + 1,os⟩):wpAny (model prog w) A (getAttr? (.ref a) "__class__") Q E ⟨h,g,d,t,os⟩:=by
  unfold getAttr? getAttrBy?
  repeat (any_goals (first | assumption | with_reducible apply xcls_by hx hc S S2 L L1 L2 sl | wp_step))
end
end L2

namespace L2
open PySem PySem.Spec PyProof.Rows
theorem kitx_exc {K:PySem.W.Frag} {e C:Addr} (c:ExcC K C) (sl:Slot "ValueError" "__getattribute__" "BaseException.__getattribute__"):PySem.W.KitX K (.ref e) (.ref C) (ExcIs e (.ref C)) where
  ty:=fun M h _ p=>by
    obtain ⟨o,vs,h1,h2,_⟩:=p
    exact h2▸(PySem.W.Looks.ld h1).andThen .now
  it:=fun M h X _=>by
    have z:=c.cl
    unfold PySem.W.clsIn at z
    split at z
    · rename_i c' d' cd' sl' ho
      intro A' Q' E' s' k q
      unfold isType loadHead
      exact wpAny_bind (wpAny_loadPart (k _ _ (X _ _ ho)) (wpAny_pure q))
    · cases z
  ne:=fun h tp dd its n sl X htp=>by
    have z:=c.cl
    refine Bool.eq_false_iff.mpr fun q => ?_
    have e:C=tp:=Value.ref.inj (beq_iff_eq.mp q)
    subst e
    unfold PySem.W.clsIn at z
    split at z
    · rename_i c' d' cd' sl' ho
      have y:=(X _ _ ho).symm.trans htp
      cases y
    · cases z
  ca:=fun {prog w A E Q s} X p k=>by
    obtain ⟨o,vs,h1,h2,_⟩:=p
    obtain ⟨hh,g,d,t,os⟩:=s
    exact xcls_attr h1 h2 (PySem.W.looks_subIn X c.m1) (PySem.W.looks_subIn X c.m2) (PySem.W.looks_findIn X c.ca) (PySem.W.looks_findIn X c.ga) (PySem.W.looks_findIn X c.gt) sl k
section
variable {X:Cx}

def rIsxT (K:PySem.W.Frag) (T:String):List V→Hp→VK→Prop:=fun xs H Q=>∃ e C b,xs=[.ref e,.ty T]∧H e=some (.ext (ExcIs e (.ref C)))∧ExcC K C∧PySem.W.kitOne K (.ref C) (.type T)=some b∧Q (.bl b) H
def rIsxC (K:PySem.W.Frag):List V→Hp→VK→Prop:=fun xs H Q=>∃ e C D b,xs=[.ref e,.ref D]∧H e=some (.ext (ExcIs e (.ref C)))∧ExcC K C∧PySem.W.kitOne K (.ref C) (.ref D)=some b∧Q (.bl b) H
theorem call_isxT {K:PySem.W.Frag} (T:String) (hK:X.K=K:=by rfl):CallR X (.builtin "isinstance") (rIsxT K T):=by
  subst hK
  intro pins s σ H xs us Q I r h
  obtain ⟨e,C,b,rfl,he,c,hk,q⟩:=h
  obtain ⟨u,c',rfl,rx,rc⟩:=vals2 r
  cases (show c'=.type T from rc)
  cases (show u=.ref e from rx)
  exact PySem.W.kia_one (kitx_exc c F.attr_ValueError.ga) I.kIn (I.hok e _ he).1 hk (fun z=>nomatch z) fun tk=>⟨.bl b,H,I.tok _,rfl,q⟩
theorem call_isxC {K:PySem.W.Frag} (hK:X.K=K:=by rfl):CallR X (.builtin "isinstance") (rIsxC K):=by
  subst hK
  intro pins s σ H xs us Q I r h
  obtain ⟨e,C,D,b,rfl,he,c,hk,q⟩:=h
  obtain ⟨u,c',rfl,rx,rc⟩:=vals2 r
  cases (show c'=.ref D from rc)
  cases (show u=.ref e from rx)
  exact PySem.W.kia_one (kitx_exc c F.attr_ValueError.ga) I.kIn (I.hok e _ he).1 hk (fun z=>nomatch z) fun tk=>⟨.bl b,H,I.tok _,rfl,q⟩
end


abbrev Xs (X:Cx) (e:Addr):Cx:={ X with A:=X.A.mark (some (.ref e)),calm:=false,xe:=fun _ _=>False }
abbrev Xb (X:Cx) (W:Value→Shared→Prop) (pn:List (Addr × Obj)):Cx:={ X with xe:=W,pn:=pn }
section
variable {X:Cx} {pins:List (Addr × Obj)} {σ:St} {H:Hp} {s:Shared}
theorem Inv.toXs (I:Inv X pins σ H s) (e:Addr):Inv (Xs X e) pins σ H s :=
  ⟨⟨I.ok.mod,I.ok.kind,I.ok.glob,I.ok.blt,I.ok.above,I.ok.inj,I.ok.has,I.ok.cab,(fun z=>nomatch z),I.ok.frames,I.ok.stk,I.ok.exf,I.ok.bs,I.ok.bsz,I.ok.noex,I.ok.exfs,I.ok.funs,I.ok.frf⟩,I.os,I.bare,I.base,I.loc,I.cell,I.free,I.freeC,I.pin,I.hok,I.len⟩
theorem Inv.ofXs {e:Addr} (I:Inv (Xs X e) pins σ H s) (ok:X.Ok):Inv X pins σ H s:=⟨ok,I.os,I.bare,I.base,I.loc,I.cell,I.free,I.freeC,I.pin,I.hok,I.len⟩
theorem Inv.toXb (I:Inv X pins σ H s) (W:Value→Shared→Prop):Inv (Xb X W (X.pn++pins)) [] σ H s :=
  ⟨⟨I.ok.mod,I.ok.kind,I.ok.glob,I.ok.blt,I.ok.above,I.ok.inj,I.ok.has,I.ok.cab,I.ok.hd,I.ok.frames,I.ok.stk,I.ok.exf,I.ok.bs,I.ok.bsz,I.ok.noex,I.ok.exfs,I.ok.funs,I.ok.frf⟩,I.os,I.bare,I.base,I.loc,I.cell,I.free,I.freeC,fun p hp=>I.pin p (by simpa using hp),I.hok,I.len⟩
theorem Inv.ofXb {W:Value→Shared→Prop} {pins':List (Addr × Obj)} (ok:X.Ok) (I:Inv (Xb X W (X.pn++pins)) pins' σ H s):Inv X pins σ H s :=
  ⟨ok,I.os,I.bare,I.base,I.loc,I.cell,I.free,I.freeC,fun p hp=>I.pin p (List.mem_append_left _ hp),I.hok,I.len⟩
theorem SP.ofXb {W:Value→Shared→Prop} {pins':List (Addr × Obj)} {D:Ends} {f:Flow} (ok:X.Ok) (h:SP (Xb X W (X.pn++pins)) pins' D f s):SP X pins D f s:=by
  cases f with
  | next=>obtain ⟨σ',H',I,q⟩:=h; exact ⟨σ',H',I.ofXb ok,q⟩
  | brk=>obtain ⟨σ',H',I,q⟩:=h; exact ⟨σ',H',I.ofXb ok,q⟩
  | cont=>obtain ⟨σ',H',I,q⟩:=h; exact ⟨σ',H',I.ofXb ok,q⟩
  | ret u=>obtain ⟨v,σ',H',I,r,q⟩:=h; exact ⟨v,σ',H',I.ofXb ok,r,q⟩

theorem Inv.track {a:Addr} {o:HO} (I:Inv X pins σ H s) (new:X.s₀.heap.get? a=none) (hx:H a=none) (h1:a≠X.env.locals) (h2:∀ x c,X.env.cells.lookup x=some c→c≠a) (h3:∀ p∈X.pn++pins,p.1≠a)
    (ok:ObjOk X.prog X.w (upd H a o) s.heap a o):Inv X pins σ (upd H a o) s:=by
  refine ⟨I.ok,I.os,I.bare,⟨I.base.keep,I.base.slot,fun b u e n hb => ?_,I.base.there,fun b xs e => ?_,fun b u v e => ?_,fun b ps e => ?_⟩,I.loc,I.cell,?_,fun x c e => ?_,fun p hp => ?_,fun b u e => ?_,I.len⟩
  · have ne:b≠a:=fun z=>by rw [z,new] at e; cases e
    rw [upd_ne ne]; exact I.base.free b u e n hb
  · have z:=I.base.tups b xs e
    rw [upd_ne (ne_of_none z hx)]; exact z
  · have z:=I.base.frzs b u v e
    rw [upd_ne (ne_of_none z hx)]; exact z
  · obtain ⟨more,z⟩:=I.base.tbls b ps e
    exact ⟨more,by rw [upd_ne (ne_of_none z hx)]; exact z⟩
  · rw [upd_ne (Ne.symm h1)]; exact I.free
  · rw [upd_ne (h2 x c e)]; exact I.freeC x c e
  · obtain ⟨a1,a2,a3⟩:=I.pin p hp
    exact ⟨a1,by rw [upd_ne (h3 p hp)]; exact a2,a3⟩
  · by_cases hb:b=a
    · subst hb; rw [upd_same] at e; cases e; exact ok
    · rw [upd_ne hb] at e
      exact (I.hok b u e).stay (fun _ _ _ q=>q) (fun c q=>by rw [upd_ne (ne_of_none q hx)]; exact q) fun c xs q=>by rw [upd_ne (ne_of_none q hx)]; exact q

theorem Inv.nameless {h':Heap} {m':Str→Option Value} {t':Nat} (I:Inv X pins σ H s) (hn:h'.Ns X.env.locals m') (hs:Heap.SameBut X.env.locals s.heap h') :
    Inv X pins (List.replicate X.N.length none) H { s with heap:=h',toks:=t' }:=by
  have neL:∀ b o,X.s₀.heap.get? b=some o→b≠X.env.locals:=fun b o e=>Nat.ne_of_lt (Nat.lt_of_lt_of_le (Heap.lt_size e) I.ok.above)
  refine ⟨I.ok,I.os,I.bare,⟨fun b o e n hb hx => ?_,fun b o e n hb hx => ?_,I.base.free,fun b o e hx => ?_,I.base.tups,I.base.frzs,I.base.tbls⟩,⟨m',hn,fun i x v e1 e2 e3 => ?_⟩,fun x c e => ?_,I.free,I.freeC,fun p hp => ?_,fun b u e => ?_,by simp⟩
  · exact (hs.2 b (neL b o e)).trans (I.base.keep b o e n hb hx)
  · obtain ⟨sl,e1⟩:=I.base.slot b o e n hb hx
    exact ⟨sl,(hs.2 b (neL b o e)).trans e1⟩
  · obtain ⟨o',e1⟩:=I.base.there b o e hx
    exact ⟨o',(hs.2 b (neL b o e)).trans e1⟩
  · rw [List.getElem?_replicate] at e2
    split at e2 <;> cases e2
  · obtain ⟨v,z⟩:=I.cell x c e
    exact ⟨v,z.sameBut hs (I.cne x c e)⟩
  · obtain ⟨a1,a2,a3,a4⟩:=I.pin p hp
    exact ⟨(hs.2 p.1 a3).trans a1,a2,a3,a4⟩
  · refine (I.hok b u e).stay (fun c v hc q=>(hs.2 c ?_).trans q) (fun _ q=>q) fun _ _ q=>q
    rintro rfl
    rcases hc with rfl | hc
    · rw [I.free] at e; cases e
    · rw [I.free] at hc; cases hc
end
end L2

namespace L2
open PySem PySem.Spec PyProof.Rows
abbrev retOnly (D:Ends):Ends:={ nx:=fun _ _=>False,rt:=D.rt }
def tTry (K:PySem.W.Frag) (C:Value) (i:Nat) (tb:(Value→St→Hp→Prop)→TS) (ts:TS):TS:=fun D σ H =>
  tb (fun cls σ' H'=>PySem.W.exmOne K cls C=some true∧∀ e,H' e=none→ts (retOnly D) (σ'.set i (some (.ref e))) (upd H' e (.ext (ExcIs e cls)))) D σ H

def PassT (X:Cx) (W:Value→Shared→Prop) (pn:List (Addr × Obj)) (R:Value→St→Hp→Prop):Prop :=
  ∀ (pins:List (Addr × Obj)) (σ:St) (H:Hp) (s:Shared) (e:Value) (s':Shared),Inv (Xb X W pn) pins σ H s→CXe X.prog X.w X.stack H s (fun cls _ H'=>R cls σ H') e s'→W e s'
section
variable {X:Cx}
theorem ps_try {body suite:List Stmt} {b₀:Stmt} {cx n:Str} {np hp pos:Pos} {i:Nat} {C:Value} {tb:(Value→St→Hp→Prop)→TS} {ts:TS} (hnd:X.N.Nodup) (hi:X.N[i]? = some n) (hl:X.env.kindOf n=some .local)
    (hex:X.ex=[]) (hst:X.stack=X.env::X.outer) (hf:X.env.frame=some X.env.locals) (hm:X.mg cx=some C) (hg:Gl X cx) (hd:(cx == ("__debug__" : Str))=false)
    (hb:∀ W pn R,PassT X W pn R→PSs (Xb X W pn) body (tb R)) (hs:∀ e,PSs (Xs X e) (b₀::suite) ts) :
    PS X (.Try body [.ExceptHandler (some (.Name cx np)) (some n) (b₀::suite) hp] [] [] pos) (tTry X.K C i tb ts):=by
  intro pins s σ H D I h
  refine wpAny_Try_except ?_
  have key:=hb (fun e s₁=>wpAny (model X.prog X.w) X.A (noteFrame e X.env) (fun _ s₂=>wpAny (model X.prog X.w) X.A (setFlight e none) (fun _ s₃ =>
      wpAny (model X.prog X.w) X.A (handleBy e X.env [.ExceptHandler (some (.Name cx np)) (some n) (b₀::suite) hp]) (SP X pins D) X.xe s₃) X.xe s₂) X.xe s₁) (X.pn++pins) _ (?_) [] s σ H D (I.toXb _) h
  · refine wpAny_mono key (fun f s₁ q => ?_) fun _ _ z=>z
    have q':=q.ofXb I.ok
    cases f with
    | next=>exact wpAny_execs_nil q'
    | brk=>exact q'
    | cont=>exact q'
    | ret u=>exact q'
  · intro pins' σ' H1 s1 e s' I' c
    have I1:Inv X pins σ' H1 s1:=I'.ofXb I.ok
    obtain ⟨ea,cls,H',rfl,c1,c2,c3,c4,⟨⟨oe,vs,a0,T,oT,ts',f1,f2,f3,f4,f5,f6,f7,f8,f9⟩,fn,fu⟩,hx,q⟩:=c
    have J:=I1.call' (s':=s') (ch:=[]) c1 c3 c4 c2 (fun b z=>by cases z)
    have fr:s'.heap.FunFrames _ X.stack:=J.stack
    have fr':=fr
    rw [hst] at fr'
    have hh:∀ b∈[ea,T],s1.heap.get? b=none∧H' b=none:=fun b hb=>by
      rcases List.mem_cons.mp hb with rfl | hb
      · exact ⟨fn,fu⟩
      · rcases List.mem_cons.mp hb with rfl | hb
        · exact f5
        · cases hb
    have hfr:X.A.frames=some (X.env::X.outer):=by rw [← hst]; exact I.ok.frames
    have stp:∀ h'':Heap,(less s'.heap ([ea,T]++frs X.stack)).StaysIn h''→s'.heap.UpToSlots h''→Inv X pins σ' H' { s' with heap:=h'' }:=fun h'' y1 y2=>by
      obtain ⟨u,ok⟩:=un_upto c3 c4 fr J.stkFree hh y1 y2
      exact I1.call' (s':={ s' with heap:=h'' }) (ch:=[]) c1 u ok c2 (fun b z=>by cases z)
    refine wpAny_looks_onW (base:=less s'.heap ([ea,T]++frs X.stack)) (L:=X.env.locals) (cls:=cls) (a0:=a0) hfr hf
      ⟨less_stays _ _,PySem.W.hideAll_none _ (by simp),rebase fr' fun a ha=>PySem.W.hideAll_none _ (List.mem_append_right _ (by rw [hst]; exact ha)),oe,vs,T,oT,ts',f1,f2,f3,f4,PySem.W.hideAll_none _ (by simp),f6,f7,f8,f9⟩ fun h1 g1 up1 => ?_
    refine wpAny_landsW g1 fun h2 g2 up2 => ?_
    have up12:=up1.trans up2
    have J2:=stp h2 g2.1 up12
    have Js:=J2.toXs ea
    refine wpAny_handleBy_cons (codeAny_handlers_test (ld_glob (X:=Xs X ea) Js hg hm ?_ hd)) (by intro z; cases z)
    have LT:PySem.W.Looks (model X.prog X.w) h2 (typeOf (.ref ea)) cls:=by
      obtain ⟨_,_,_,oe2,vs2,T2,oT2,ts2,z1,z2,_⟩:=g2
      exact z2.1▸(PySem.W.Looks.ld z1).andThen .now
    refine (PySem.W.exm_one (K:=X.K) J2.kIn LT hx).here ?_
    refine codeAny_handlers_suite_as (lands_againW g2 fun h3 g3 up3 => ?_)
    have J3:=stp h3 g3.1 (up12.trans up3)
    obtain ⟨_,_,_,oe3,vs3,T3,oT3,ts3,z1,z2,z3,_⟩:=g3
    have old:∀ b o,s1.heap.get? b=some o→b≠ea:=fun b o e z=>by rw [z,fn] at e; cases e
    have b0:Un X.fs [] X.H₀ H1 X.s₀.heap s1.heap:=by
      have z:=I1.base
      rw [hex] at z
      exact z
    have J4:Inv X pins σ' (upd H' ea (.ext (ExcIs ea cls))) { s' with heap:=h3 }:=by
      refine J3.track (back b0 fn) fu ?_ (fun x c e => ?_) (fun p hp' => ?_) ⟨⟨oe3,vs3,z1,z2.1,z3⟩,⟨oe3,z1⟩,fun h1 h2 ⟨o,v,a1,a2,a3⟩ k=>⟨o,v,k o a1,a2,a3⟩⟩
      · obtain ⟨m,⟨o,_,_,ho,_⟩,_⟩:=I1.loc
        exact Ne.symm (old _ o ho)
      · obtain ⟨v,o,ho,_⟩:=I1.cell x c e
        exact old c o ho
      · exact old _ _ (I1.pin p hp').1
    refine store_ok (X:=Xs X ea) (J4.toXs ea) hnd hi (.inl hl) (v:=.ref ea) rfl (fun s5 J5 => ?_) (.inr hl)
    refine wpAny_mono (hs ea pins s5 _ _ _ J5 (q ea fu)) (fun f s6 z => ?_) fun _ _ z=>False.elim z
    cases f with
    | next=>obtain ⟨_,_,_,z⟩:=z; exact False.elim z
    | brk=>obtain ⟨_,_,_,z⟩:=z; exact False.elim z
    | cont=>obtain ⟨_,_,_,z⟩:=z; exact False.elim z
    | ret u =>
      obtain ⟨v,σ6,H6,J6,r6,q6⟩:=z
      have J6':=J6.ofXs I.ok
      obtain ⟨m,hn,_⟩:=J6'.loc
      refine wpAny_nameGoes hl hn (by rw [I.ok.kind]; rfl) fun h7 m7 hn7 sb => ?_
      exact ⟨v,_,H6,J6'.nameless hn7 sb,r6,q6⟩

end
end L2

namespace L2
open PySem PySem.Spec PyProof.Rows

section
variable {prog:Program} {w:World} {A:Around} {E:Value→Shared→Prop} {s:Shared} {x:Str} {t:Tok}
end
section
variable {X:Cx} {tg:Expr}
end
end L2

namespace L2
open PySem PySem.Spec PyProof.Rows

def clo (env:Env) (xs:List Str):List (Str × Addr):=xs.map fun x=>(x,(env.cells.lookup x).getD 0)
def CapsOk (env:Env) (scope:Scope) (xs caps:List Str):Prop:=∀ x∈caps,env.kindOf x=some .cell∧(relabel scope env).names.lookup x=some .cell∧x∈xs
theorem capsOk_nil {env:Env} {scope:Scope} {xs:List Str}:CapsOk env scope xs []:=fun _ h=>by cases h
theorem capsOk_cons {env:Env} {scope:Scope} {xs:List Str} {x:Str} {r:List Str} (h1:env.kindOf x=some .cell) (h2:(relabel scope env).names.lookup x=some .cell) (h3:x∈xs) (h:CapsOk env scope xs r):CapsOk env scope xs (x::r):=fun y hy=>by
  rcases List.mem_cons.mp hy with rfl | hy
  · exact ⟨h1,h2,h3⟩
  · exact h y hy
theorem clo_of {env:Env} {x:Str} {c:Addr}:∀ {xs:List Str},x∈xs→env.cells.lookup x=some c→(clo env xs).lookup x=some c
  | [],h,_=>by cases h
  | y::r,h,e=>by
    unfold clo
    rw [List.map_cons,List.lookup_cons]
    by_cases z:x=y
    · subst z; simp [e]
    · have zb:(x == y)=false:=by simpa using z
      rw [zb]
      rcases List.mem_cons.mp h with q | q
      · exact absurd q z
      · exact clo_of q e
theorem clo_has {env:Env} {x:Str}:∀ {xs:List Str},x∈xs→∃ c,(clo env xs).lookup x=some c
  | [],h=>by cases h
  | y::r,h=>by
    unfold clo
    rw [List.map_cons,List.lookup_cons]
    by_cases z:x=y
    · subst z; exact ⟨_,by simp; rfl⟩
    · have zb:(x == y)=false:=by simpa using z
      rw [zb]
      rcases List.mem_cons.mp h with q | q
      · exact absurd q z
      · exact clo_has q
theorem clo_sub {env:Env} {x:Str} {c:Addr} {xs:List Str} (hin:(xs.all fun x=>(env.cells.lookup x).isSome)=true) (e:(clo env xs).lookup x=some c):env.cells.lookup x=some c:=by
  induction xs with
  | nil=>cases e
  | cons y r ih =>
    unfold clo at e
    rw [List.map_cons,List.lookup_cons] at e
    rw [List.all_cons,Bool.and_eq_true] at hin
    by_cases z:x=y
    · subst z
      obtain ⟨a,ha⟩:=Option.isSome_iff_exists.mp hin.1
      rw [ha] at e ⊢
      simpa using e
    · have zb:(x == y)=false:=by simpa using z
      rw [zb] at e
      exact ih hin.2 e
theorem caps_len {σ:St} {vs:List V} {is:List Nat} {N N' caps:List Str} {k:Nat} (hvs:is.map (fun i=>σ[i]?)=vs.map fun v=>some (some v)) (his:is.map (N[·]?)=caps.map some) (hN:N'.drop k=caps) (hk:k≤N'.length) :
    (List.replicate k (none:Option V)++vs.map some).length=N'.length:=by
  have h1:=congrArg List.length hvs
  have h2:=congrArg List.length his
  have h3:=congrArg List.length hN
  simp only [List.length_map,List.length_drop,List.length_append,List.length_replicate] at *
  omega
theorem caps_at {σ:St} {vs:List V} {is:List Nat} {N N' caps:List Str} {k i:Nat} {x:Str} {v:V} (hvs:is.map (fun i=>σ[i]?)=vs.map fun v=>some (some v)) (his:is.map (N[·]?)=caps.map some) (hN:N'.drop k=caps)
    (e1:N'[i]? = some x) (e2:(List.replicate k (none:Option V)++vs.map some)[i]? = some (some v)):∃ j:Nat,N[j]? = some x∧x∈caps∧σ[j]? = some (some v):=by
  have hik:k≤i:=by
    by_cases h:k≤i
    · exact h
    · rw [List.getElem?_append_left (by simpa using h),List.getElem?_replicate] at e2
      split at e2 <;> cases e2
  rw [List.getElem?_append_right (by simpa using hik),List.length_replicate] at e2
  have e1':caps[i - k]? = some x:=by rw [← hN,List.getElem?_drop,Nat.add_sub_cancel' hik]; exact e1
  have ev:vs[i - k]? = some v:=by
    rw [List.getElem?_map] at e2
    cases z:vs[i - k]? with
    | none=>rw [z] at e2; cases e2
    | some a=>rw [z] at e2; cases e2; rfl
  have q1:=congrArg (·[i - k]?) hvs
  have q2:=congrArg (·[i - k]?) his
  simp only [List.getElem?_map,ev,e1',Option.map_some] at q1 q2
  cases z:is[i - k]? with
  | none=>rw [z] at q1; cases q1
  | some j =>
    rw [z] at q1 q2
    exact ⟨j,Option.some.inj q2,List.mem_of_getElem? e1',Option.some.inj q1⟩
theorem caps_keep {σ:St} {vs:List V} {k:Nat} (h:σ.drop k=vs.map some) (i:Nat) (v:V) (e:(List.replicate k (none:Option V)++vs.map some)[i]? = some (some v)):σ[i]? = some (some v):=by
  have hik:k≤i:=by
    by_cases h:k≤i
    · exact h
    · rw [List.getElem?_append_left (by simpa using h),List.getElem?_replicate] at e
      split at e <;> cases e
  rw [List.getElem?_append_right (by simpa using hik),List.length_replicate,← h,List.getElem?_drop,Nat.add_sub_cancel' hik] at e
  exact e
theorem all_of {names:List (Str × NameKind)} {xs:List Str} (h:(names.all fun y => !(y.2 == .cell || y.2 == .free) || xs.contains y.1)=true):∀ y∈names,(y.2=.cell∨y.2=.free)→y.1∈xs:=fun y hy hk=>by
  have z:=List.all_eq_true.mp h y hy
  rcases hk with e | e
  · rw [e] at z
    exact List.contains_iff_mem.mp (by simpa using z)
  · rw [e] at z
    exact List.contains_iff_mem.mp (by simpa using z)
def cxCompC (X:Cx) (N':List Str) (scope:Scope) (xs:List Str) (C:Addr) (s0:Shared) (H0:Hp) (fp:List Addr) (pins:List (Addr × Obj)):Cx where
  prog:=X.prog
  w:=X.w
  K:=X.K
  mg:=X.mg
  base:=X.base
  A:=X.A
  N:=N'
  s₀:=s0
  H₀:=H0
  env:=compEnvC scope (clo X.env xs) C X.env
  outer:=X.stack
  stack:=X.stack
  ex:=fp
  fn:=fun _=>false
  calm:=X.calm
  pn:=X.pn++pins
  xe:=fun _ _=>False

def compKC (σ0:St) (k:Nat) (cs:St) (g:TG) (te:TE) (Q:VK):It→Hp→Prop:=fun J H1=>∀ D,H1 D=none→∃ W:Nat→Nat→List V→Hp→Prop,(∃ m,W 0 m [] (upd H1 D (.lst []))) ∧
  ∀ i m ys H2,W i m ys H2→H2 D=some (.lst ys)∧((J.stop i H2∧Q (.ref D) H2)∨(J.go i H2∧ys.length < sizeLine ∧
    ∀ x H',J.yld i H2 x H'→g x σ0 H' fun σ2 H3=>σ2.drop k=cs∧te σ2 H3 fun y H4=>H4 D=some (.lst ys)∧∃ m',m' < m∧W (i + 1) m' (ys++[y]) (upd H4 D (.lst (ys++[y])))))
def tCompC (is:List Nat) (k:Nat) (wi:TI) (g:TG) (te:TE):TE:=fun σ H Q=>∃ vs:List V,is.map (fun i=>σ[i]?)=vs.map (fun v=>some (some v))∧wi σ H (compKC (List.replicate k none++vs.map some) k (vs.map some) g te Q)
section
variable {X:Cx} {elt tg iter cnd:Expr} {scope:Scope} {pos:Pos} {N':List Str} {wi:TI} {g:TG} {te:TE} {tt:TT}
theorem pe_compC (xs caps:List Str) (is:List Nat) (k:Nat) (hclos:closureFor scope X.env=pure (clo X.env xs)) (hin:(xs.all fun x=>(X.env.cells.lookup x).isSome)=true) (hcap:CapsOk X.env scope xs caps) (his:is.map (X.N[·]?)=caps.map some) (hN:N'.drop k=caps) (hk:k≤N'.length)
    (hallB:((relabel scope X.env).names.all fun y => !(y.2 == .cell || y.2 == .free) || xs.contains y.1)=true) (hcell:∀ y∈scope.names,y.2≠.cell) (hkind:scope.kind=.function) (hnames:∀ y∈scope.names,y.2=.local→scope.names.lookup y.1=some .local)
    (hcalm:X.calm=true) (hi:PI X tg iter wi) (hg:∀ C s0 H0 fp pins,PG (cxCompC X N' scope xs C s0 H0 fp pins) tg g) (he:∀ C s0 H0 fp pins,PE (cxCompC X N' scope xs C s0 H0 fp pins) elt te)
    (hs:∀ x,foldedSetIterable iter X.env x=pure x:=by intro _; rfl):PE X (.ListComp elt [⟨tg,iter,[],0⟩] scope pos) (tCompC is k wi g te):=by
  intro pins s σ H Q I h
  have hall:=all_of hallB
  obtain ⟨vs,hvs,h⟩:=h
  rw [eval_ListComp]
  refine wpAny_comprehension_free (use:=none) rfl hs hclos hkind hnames (thn (hi pins s σ H _ I h) fun v s1 h1=>thn h1 fun itv s2 h2 => ?_)
  obtain ⟨it,fp,tn,J,H2,e,I2,T,st2,f2,hW⟩:=h2
  subst e
  refine wpAny_newObj_type (wpAny_newFunctionEnv hcell (by intro y hy; simp at hy) (fun h₁ hns₁ hsb₁ => ?_) hkind)
  dsimp only at hns₁ hsb₁ ⊢
  generalize hH2:s2.heap.push { cls:=.type "list",dict:=none,data:=.seq ([]:List Value).toArray }=P2 at hns₁ hsb₁ ⊢
  have hC:P2.objs.size=s2.heap.objs.size + 1:=by rw [← hH2,Heap.size_push]
  have below:∀ b,b < s2.heap.objs.size→b≠P2.objs.size∧b≠s2.heap.objs.size:=fun b hb=>⟨by rw [hC]; exact Nat.ne_of_lt (Nat.lt_succ_of_lt hb),Nat.ne_of_lt hb⟩
  have hDC:s2.heap.objs.size≠P2.objs.size:=by rw [hC]; exact Nat.ne_of_lt (Nat.lt_succ_self _)
  have old:∀ b o,s2.heap.get? b=some o→h₁.get? b=some o:=fun b o e=>hsb₁.extBut b o (below b (Heap.lt_size e)).1 (Heap.get?_push_of_some _ (hH2▸Heap.get?_push_of_some _ e))
  have hD:h₁.get? s2.heap.objs.size=some { cls:=.type "list",dict:=none,data:=.seq ([]:List Value).toArray }:=hsb₁.extBut _ _ hDC (Heap.get?_push_of_some _ (hH2▸Heap.get?_push_size _ rfl))
  have frD:H2 s2.heap.objs.size=none:=I2.hok.fresh (Nat.le_refl _)
  have frC:H2 P2.objs.size=none:=I2.hok.fresh (by rw [hC]; exact Nat.le_succ _)
  have hfp:∀ b∈fp,b < s2.heap.objs.size:=fun b hb=>by
    obtain ⟨o,e,_⟩:=T.obj _ _ st2 b hb
    exact Heap.lt_size e
  have nst:∀ b,b≠X.env.locals→b∉X.fs→b∉frs X.stack:=fun b n1 n2 z=>by
    rcases List.mem_cons.mp (I2.stkSub b z) with e | e
    · exact n1 e
    · exact n2 e
  obtain ⟨W,⟨m0,w0⟩,turn⟩:=hW s2.heap.objs.size frD
  have csub:∀ (x:Str) (c:Addr),(clo X.env xs).lookup x=some c→X.env.cells.lookup x=some c:=fun x c e=>clo_sub hin e
  have cold:∀ (x:Str) (c:Addr),(clo X.env xs).lookup x=some c→∃ v,s2.heap.IsCell c v:=fun x c e=>I2.cell x c (csub x c e)
  have clt:∀ (x:Str) (c:Addr),(clo X.env xs).lookup x=some c→c < s2.heap.objs.size:=fun x c e=>by
    obtain ⟨v,o,ho,_⟩:=cold x c e
    exact Heap.lt_size ho
  have ok':(cxCompC X N' scope xs P2.objs.size s2 H2 fp pins).Ok:=by
    refine ⟨I2.ok.mod,hkind,I2.ok.glob,I2.ok.blt,?_,fun x y c e e'=>I2.ok.inj x y c (csub x c e) (csub y c e'),fun x hx => ?_,(fun x c z _=>by cases z),I2.ok.hd,I2.ok.frames,.inl rfl,fun b hb=>⟨(below b (hfp b hb)).1,fun x c e=>(f2 b hb).2.2.2.2.1 x c (csub x c e)⟩,I2.bs,Nat.le_trans I2.ok.bsz I2.sz,fun b o e hb => ?_,fun b hb=>nst b (f2 b hb).2.1 (f2 b hb).2.2.1,I2.stack,I2.stkFree⟩
    · show s2.heap.objs.size≤P2.objs.size
      rw [hC]; exact Nat.le_succ _
    · have hx':(relabel scope X.env).names.lookup x=some .cell∨(relabel scope X.env).names.lookup x=some .free:=hx
      rcases hx' with z | z
      · exact clo_has (hall _ (PySem.mem_of_lookup z) (.inl rfl))
      · exact clo_has (hall _ (PySem.mem_of_lookup z) (.inr rfl))
    · rcases (f2 b hb).2.2.2.1 with z | z
      · exact I2.ok.noex b o e z
      · exact absurd (Nat.lt_of_lt_of_le (Heap.lt_size (I2.ok.bs b o e).1) z) (Nat.lt_irrefl _)
  have I':Inv (cxCompC X N' scope xs P2.objs.size s2 H2 fp pins) [] (List.replicate k none++vs.map some) (upd H2 s2.heap.objs.size (.lst [])) { s2 with heap:=h₁,toks:=s2.toks + ([]:List (Str × Value)).length }:=by
    refine ⟨ok',rfl,I2.bare,Un.laid old (Nat.le_refl _) frD,⟨_,hns₁,fun i x v e1 e2 e3 => ?_⟩,fun x c e => ?_,?_,fun x c e => ?_,fun p hp => ?_,I2.hok.laid old (Nat.le_refl _) ⟨by simp,[],0,.nil,hD⟩,?_⟩
    · obtain ⟨j,ej,hj1,hj2⟩:=caps_at hvs his hN e1 e2
      obtain ⟨hc1,hc2,hc3⟩:=hcap x hj1
      obtain ⟨m,hn,hl⟩:=I2.loc
      obtain ⟨u,r,l⟩:=hl j x v ej hj2 (.inr (.inl hc1))
      refine ⟨u,r,.inr ⟨.inl hc2,?_⟩⟩
      rcases l with ⟨z,_⟩ | ⟨_,c,ec,⟨o,ho,hd⟩⟩
      · rw [show X.env.kindOf x=some .cell from hc1] at z; cases z
      · exact ⟨c,clo_of hc3 ec,o,old _ _ ho,hd⟩
    · obtain ⟨v,o,ho,hd⟩:=cold x c e
      exact ⟨v,o,old _ _ ho,hd⟩
    · show upd H2 s2.heap.objs.size (.lst []) P2.objs.size=none
      rw [upd_ne (Ne.symm hDC)]; exact frC
    · show upd H2 s2.heap.objs.size (.lst []) c=none
      rw [upd_ne (below _ (clt x c e)).2]; exact I2.freeC x c (csub x c e)
    · have hp':p∈X.pn++pins:=by
        rcases List.mem_append.mp hp with z | z
        · exact z
        · cases z
      obtain ⟨a1,a2,a3,a4,a5⟩:=I2.pin p hp'
      refine ⟨old _ _ a1,?_,(below _ (Heap.lt_size a1)).1,nst _ a3 a4,a5⟩
      rw [upd_ne (below _ (Heap.lt_size a1)).2]; exact a2
    · show (List.replicate k none++vs.map some).length=N'.length
      exact caps_len hvs his hN hk
  have stat:∀ {H':Hp},(∀ b∈fp,H' b=none)→∀ b∈fp,FpOk (cxCompC X N' scope xs P2.objs.size s2 H2 fp pins) [] H' b:=fun {H'} hn b hb =>
    ⟨hn b hb,(below b (hfp b hb)).1,nst b (f2 b hb).2.1 (f2 b hb).2.2.1,.inl hb,fun x c e=>(f2 b hb).2.2.2.2.1 x c (csub x c e),fun p hp=>(f2 b hb).2.2.2.2.2 p (by
      rcases List.mem_append.mp hp with z | z
      · exact z
      · cases z)⟩
  have fin:∀ (ys:List V) (σ':St) (H':Hp) (s':Shared),Inv (cxCompC X N' scope xs P2.objs.size s2 H2 fp pins) [] σ' H' s'→Q (.ref s2.heap.objs.size) H' →
      ∃ m,s'.heap.Ns P2.objs.size m∧∀ h',Heap.SameBut P2.objs.size s'.heap h'→EP X pins σ Q (.ref s2.heap.objs.size) { s' with heap:=h' }:=by
    intro ys σ' H' s' J1 q
    obtain ⟨m,hm,_⟩:=id J1.loc
    refine ⟨m,hm,fun h' sb=>⟨.ref s2.heap.objs.size,H',?_,rfl,q⟩⟩
    have ne:∀ b o,s2.heap.get? b=some o→b≠P2.objs.size:=fun b o e=>(below b (Heap.lt_size e)).1
    refine I2.call' (s':={ s' with heap:=h' }) (ch:=fp) J1.os ⟨fun b o e n hb hx => ?_,fun b o e n hb hx => ?_,fun b o e n hx=>J1.base.free b o e n hx,fun b o e hx => ?_,J1.base.tups,J1.base.frzs,J1.base.tbls⟩ (J1.hok.but J1.free fun b u hb q=>(sb.2 b hb).trans q) J1.bare fun b hb=>⟨(f2 b hb).2.2.2.1,(f2 b hb).2.1,(f2 b hb).2.2.2.2.1,(f2 b hb).2.2.2.2.2⟩
    · exact (sb.2 b (ne b o e)).trans (J1.base.keep b o e n hb hx)
    · obtain ⟨sl,z⟩:=J1.base.slot b o e n hb hx
      exact ⟨sl,(sb.2 b (ne b o e)).trans z⟩
    · obtain ⟨o',z⟩:=J1.base.there b o e hx
      exact ⟨o',(sb.2 b (ne b o e)).trans z⟩
  have loop:codeAny (model X.prog X.w) X.A (.compLoop (.ListComp elt [⟨tg,iter,[],0⟩] scope pos) 0 (.ref it) (.ref s2.heap.objs.size) (compEnvC scope (clo X.env xs) P2.objs.size X.env))
      (compPost (model X.prog X.w) X.A X.xe none (EP X pins σ Q) (.ref s2.heap.objs.size) P2.objs.size)
      { s2 with heap:=h₁,toks:=s2.toks + ([]:List (Str × Value)).length }:=by
    refine compLoop_go (fun n s'=>∃ i ys σ' H',σ'.drop k=vs.map some∧Inv (cxCompC X N' scope xs P2.objs.size s2 H2 fp pins) [] σ' H' s'∧tn i s'.heap∧(∀ b∈fp,H' b=none)∧W i n ys H') ?_ m0
      ⟨0,[],List.replicate k none++vs.map some,_,by simp,I',T.keep _ _ _ st2 (fun b hb o e=>old b o e),fun b hb=>by rw [upd_ne (below b (hfp b hb)).2]; exact (f2 b hb).1,w0⟩
    rintro n s3 ⟨i,ys,σ3,H3,hd3,J3,st3,fr3,w3⟩
    obtain ⟨hl,q3⟩:=turn i n ys H3 w3
    rcases q3 with ⟨stop,q⟩ | ⟨go,hlt,step⟩
    · refine thn (T.done (cxCompC X N' scope xs P2.objs.size s2 H2 fp pins) rfl rfl rfl hcalm i [] s3 σ3 H3 _ J3 (stat fr3) st3 stop) fun r s4 ⟨hr,J4⟩ => ?_
      subst hr
      exact fin ys σ3 H3 s4 J4 q
    · refine thn (T.item (cxCompC X N' scope xs P2.objs.size s2 H2 fp pins) rfl rfl rfl hcalm i [] s3 σ3 H3 _ J3 (stat fr3) st3 go) fun r s4 ⟨u,hr,h4⟩ => ?_
      subst hr
      refine thn h4 fun _ s5 ⟨x,H5,J5,r5,y5,st5,fr5⟩ => ?_
      have J5':=J5.pinned (stat fr5) (T.obj _ _ st5)
      have J6:Inv (cxCompC X N' scope xs P2.objs.size s2 H2 fp pins) ([]++pinsAt fp s5.heap) (List.replicate k none++vs.map some) H5 s5:=J5'.weak (by rw [J5'.len]; exact caps_len hvs his hN hk) (caps_keep hd3)
      refine wpAny_mono (hg _ _ _ _ _ _ s5 _ H5 x u _ J6 r5 (step x H5 y5)) (fun _ s6 ⟨σ6,H6,J7,hd6,q6⟩ => ?_) fun _ _ z=>False.elim z
      refine wpAny_mono (he _ _ _ _ _ _ s6 σ6 H6 _ J7 q6) (fun yv s7 ⟨y,H7,J8,r7,q7⟩ => ?_) fun _ _ z=>False.elim z
      obtain ⟨hl7,m',hm',w7⟩:=q7
      refine wpAny_mono (mt_append (X:=cxCompC X N' scope xs P2.objs.size s2 H2 fp pins) _ s7 σ6 H7 (.ref s2.heap.objs.size) [y] (.ref s2.heap.objs.size) [yv] (fun v H8=>H8=upd H7 s2.heap.objs.size (.lst (ys++[y]))) J8 rfl (.cons r7 .nil) ⟨_,ys,y,rfl,rfl,hl7,hlt,rfl⟩) (fun _ s8 ⟨v8,H8,J9,r8,e8⟩ => ?_) fun _ _ z=>False.elim z
      subst e8
      have pk:∀ b∈fp,∀ o,s5.heap.get? b=some o→s8.heap.get? b=some o∧upd H7 s2.heap.objs.size (.lst (ys++[y])) b=none:=fun b hb o e =>
        let z:=J9.pin (b,o) (List.mem_append_right _ (List.mem_append_right _ (mem_pinsAt hb e)))
        ⟨z.1,z.2.1⟩
      refine ⟨m',hm',i + 1,ys++[y],σ6,_,hd6,J9.unpinned,T.keep _ _ _ st5 fun b hb o e=>(pk b hb o e).1,fun b hb => ?_,w7⟩
      obtain ⟨o,e,_⟩:=T.obj _ _ st5 b hb
      exact (pk b hb o e).2
  exact codeAny_compStart_list loop (T.self X.A 0 { s2 with heap:=h₁,toks:=s2.toks + ([]:List (Str × Value)).length } _ _ (T.keep _ _ _ st2 fun b hb o e=>old b o e) loop)
end
end L2

namespace L2
open PySem PySem.Spec PyProof.Rows

section
variable {X:Cx}
end
mutual
inductive Dat (H:Hp):V→PyData→Prop
  | non:Dat H .non .none
  | bl (b:Bool):Dat H (.bl b) (.bool b)
  | int (i:Int):Dat H (.int i) (.int i)
  | str (x:Str):Dat H (.str x) (.str x)
  | lst {a:Addr} {xs:List V} {ds:List PyData}:H a=some (.lst xs)→Dats H xs ds→Dat H (.ref a) (.list ds)
  | tup {a:Addr} {xs:List V} {ds:List PyData}:H a=some (.tup xs)→Dats H xs ds→Dat H (.ref a) (.tuple ds)
inductive Dats (H:Hp):List V→List PyData→Prop
  | nil:Dats H [] []
  | cons {x:V} {xs:List V} {d:PyData} {ds:List PyData}:Dat H x d→Dats H xs ds→Dats H (x::xs) (d::ds)
end
section
variable {P:Program} {w:World} {H:Hp} {h:Heap}
mutual
theorem Dat.reads (ok:HOk P w H h):∀ {x:V} {d:PyData} {u:Value},Dat H x d→RelV x u→∃ as,Reads h u d as
  | _,_,u,.non,r=>by cases (show u=Value.none from r); exact ⟨_,.none⟩
  | _,_,u,.bl b,r=>by cases (show u=Value.bool b from r); exact ⟨_,.bool b⟩
  | _,_,u,.int i,r=>by obtain ⟨t,rfl⟩:=r; exact ⟨_,.int i t⟩
  | _,_,u,.str x,r=>by obtain ⟨t,rfl⟩:=r; exact ⟨_,.str x t⟩
  | _,_,u,.lst (a:=a) e q,r=>by
    cases (show u=Value.ref a from r)
    obtain ⟨_,its,n,rv,g⟩:=ok a _ e
    obtain ⟨as,rs⟩:=Dats.reads ok q rv
    exact ⟨_,.list g rfl rfl rs⟩
  | _,_,u,.tup (a:=a) e q,r=>by
    cases (show u=Value.ref a from r)
    obtain ⟨_,its,rv,o,g,c,n,dd⟩:=ok a _ e
    obtain ⟨as,rs⟩:=Dats.reads ok q rv
    exact ⟨_,.tuple g c dd rs⟩
theorem Dats.reads (ok:HOk P w H h):∀ {xs:List V} {ds:List PyData} {us:List Value},Dats H xs ds→Vals xs us→∃ as,ReadsAll h us ds as
  | _,_,_,.nil,.nil=>⟨_,.nil⟩
  | _,_,_,.cons p q,.cons r s=>by
    obtain ⟨as,x⟩:=Dat.reads ok p r
    obtain ⟨bs,y⟩:=Dats.reads ok q s
    exact ⟨_,.cons x y⟩
end
end
def rEqD (neg:Bool):R2:=fun x y H Q=>∃ d1 d2,Dat H x d1∧Dat H y d2∧SeqAt.shaped d1=true∧SeqAt.shaped d2=true∧Q (.bl (if neg then !PyData.eqv d1 d2 else PyData.eqv d1 d2)) H
section
variable {X:Cx}
theorem op_eqD {k:Nat} (hr:Room k X.A):OpR X (compareOp .Eq) (rEqD false):=by
  intro pins s σ H x y v u Q I rx ry h
  obtain ⟨d1,d2,p,q,s1,s2,h⟩:=h
  obtain ⟨as,r1⟩:=p.reads I.hok rx
  obtain ⟨bs,r2⟩:=q.reads I.hok ry
  exact eq_dataH r1 r2 s1 s2 hr.units ⟨.bl _,H,I,rfl,h⟩
theorem op_neD {k:Nat} (hr:Room k X.A):OpR X (compareOp .NotEq) (rEqD true):=by
  intro pins s σ H x y v u Q I rx ry h
  obtain ⟨d1,d2,p,q,s1,s2,h⟩:=h
  obtain ⟨as,r1⟩:=p.reads I.hok rx
  obtain ⟨bs,r2⟩:=q.reads I.hok ry
  exact ne_dataH r1 r2 s1 s2 hr.units ⟨.bl _,H,I,rfl,h⟩
end
end L2

namespace L2
open PySem PySem.Spec PyProof.Rows
section
variable {X:Cx}
end
section
variable {X:Cx} {K:PySem.W.Frag}

end

section
variable {K:PySem.W.Frag} {σ0 cs:St} {k:Nat} {g:TG} {te:TE} {tt:TT} {H1:Hp} {Q:VK}
theorem compC_by {J:It} (n:Nat) (gv:Nat→V→Prop) (Pv:Addr→Nat→List V→Hp→Prop) (hn:n≤sizeLine)
    (hgo:∀ D i ys H,i < n→Pv D i ys H→J.go i H) (hst:∀ D ys H,Pv D n ys H→J.stop n H) (hy:∀ D i ys H x H',i < n→Pv D i ys H→J.yld i H x H'→H'=H∧gv i x)
    (hl:∀ D i ys H,Pv D i ys H→H D=some (.lst ys)∧ys.length≤i) (h0:∀ D,H1 D=none→Pv D 0 [] (upd H1 D (.lst [])))
    (hs:∀ D i x ys H,i < n→gv i x→H1 D=none→Pv D i ys H→g x σ0 H fun σ2 H3=>σ2.drop k=cs∧te σ2 H3 fun y H4=>H4 D=some (.lst ys)∧Pv D (i + 1) (ys++[y]) (upd H4 D (.lst (ys++[y]))))
    (hd:∀ D ys H,H1 D=none→Pv D n ys H→Q (.ref D) H) (mono:∀ x σ H (R R':St→Hp→Prop),(∀ σ' H',R σ' H'→R' σ' H')→g x σ H R→g x σ H R')
    (mono2:∀ σ H (R R':VK),(∀ v H',R v H'→R' v H')→te σ H R→te σ H R'):compKC σ0 k cs g te Q J H1:=by
  intro D hD
  refine ⟨fun i m ys H=>m=n - i∧i≤n∧Pv D i ys H,⟨n,rfl,Nat.zero_le _,h0 D hD⟩,?_⟩
  rintro i m ys H ⟨rfl,hi,p⟩
  obtain ⟨e1,e2⟩:=hl D i ys H p
  refine ⟨e1,?_⟩
  by_cases hlt:i < n
  · refine .inr ⟨hgo D i ys H hlt p,by omega,fun x H' y => ?_⟩
    obtain ⟨rfl,hx⟩:=hy D i ys H x H' hlt p y
    refine mono _ _ _ _ _ (fun σ2 H3 ⟨z1,z2⟩=>⟨z1,mono2 _ _ _ _ (fun v H4 ⟨z3,z4⟩=>⟨z3,n - (i + 1),by omega,rfl,hlt,z4⟩) z2⟩) (hs D i x ys H' hlt hx hD p)
  · have e:i=n:=by omega
    subst e
    exact .inl ⟨hst D ys H p,hd D ys H hD p⟩
theorem compC_list {a:Addr} (xs:List V) (Pv:Addr→Nat→List V→Hp→Prop) (hn:xs.length≤sizeLine) (hq:∀ D i ys H,Pv D i ys H→SqL K H a xs)
    (hl:∀ D i ys H,Pv D i ys H→H D=some (.lst ys)∧ys.length≤i) (h0:∀ D,H1 D=none→Pv D 0 [] (upd H1 D (.lst [])))
    (hs:∀ D i x ys H,xs[i]? = some x→H1 D=none→Pv D i ys H→g x σ0 H fun σ2 H3=>σ2.drop k=cs∧te σ2 H3 fun y H4=>H4 D=some (.lst ys)∧Pv D (i + 1) (ys++[y]) (upd H4 D (.lst (ys++[y]))))
    (hd:∀ D ys H,H1 D=none→Pv D xs.length ys H→Q (.ref D) H) (mono:∀ x σ H (R R':St→Hp→Prop),(∀ σ' H',R σ' H'→R' σ' H')→g x σ H R→g x σ H R')
    (mono2:∀ σ H (R R':VK),(∀ v H',R v H'→R' v H')→te σ H R→te σ H R'):compKC σ0 k cs g te Q (Itl K a) H1 :=
  compC_by xs.length (fun i x=>xs[i]? = some x) Pv hn (fun D i ys H hi p=>⟨xs,xs[i],hq D i ys H p,by simp [hi]⟩) (fun D ys H p=>⟨xs,hq D _ ys H p,Nat.le_refl _⟩)
    (fun D i ys H x H' hi p y=>⟨y.1,y.2 xs (hq D i ys H p)⟩) hl h0 (fun D i x ys H hi hx hD p=>hs D i x ys H hx hD p) hd mono mono2
theorem compC_tup {a:Addr} (xs:List V) (Pv:Addr→Nat→List V→Hp→Prop) (hn:xs.length≤sizeLine) (hq:∀ D i ys H,Pv D i ys H→SqT K H a xs)
    (hl:∀ D i ys H,Pv D i ys H→H D=some (.lst ys)∧ys.length≤i) (h0:∀ D,H1 D=none→Pv D 0 [] (upd H1 D (.lst [])))
    (hs:∀ D i x ys H,xs[i]? = some x→H1 D=none→Pv D i ys H→g x σ0 H fun σ2 H3=>σ2.drop k=cs∧te σ2 H3 fun y H4=>H4 D=some (.lst ys)∧Pv D (i + 1) (ys++[y]) (upd H4 D (.lst (ys++[y]))))
    (hd:∀ D ys H,H1 D=none→Pv D xs.length ys H→Q (.ref D) H) (mono:∀ x σ H (R R':St→Hp→Prop),(∀ σ' H',R σ' H'→R' σ' H')→g x σ H R→g x σ H R')
    (mono2:∀ σ H (R R':VK),(∀ v H',R v H'→R' v H')→te σ H R→te σ H R'):compKC σ0 k cs g te Q (Itt K a) H1 :=
  compC_by xs.length (fun i x=>xs[i]? = some x) Pv hn (fun D i ys H hi p=>⟨xs,xs[i],hq D i ys H p,by simp [hi]⟩) (fun D ys H p=>⟨xs,hq D _ ys H p,Nat.le_refl _⟩)
    (fun D i ys H x H' hi p y=>⟨y.1,y.2 xs (hq D i ys H p)⟩) hl h0 (fun D i x ys H hi hx hD p=>hs D i x ys H hx hD p) hd mono mono2
end
inductive Tr where
  | col (i:Int)
  | four (a b c d:Tr)
deriving DecidableEq
def Tr.data:Tr→PyData
  | .col i=>.int i
  | .four a b c d=>.tuple [a.data,b.data,c.data,d.data]
def Tr.deep:Tr→Nat
  | .col _=>0
  | .four a b c d=>max a.deep (max b.deep (max c.deep d.deep)) + 1
def Tr.isCol:Tr→Bool
  | .col _=>true
  | .four ..=>false
inductive TrAt (H:Hp):V→Tr→Prop
  | col (i:Int):TrAt H (.int i) (.col i)
  | four {p:Addr} {a b c d:V} {ta tb tc td:Tr}:H p=some (.tup [a,b,c,d])→TrAt H a ta→TrAt H b tb→TrAt H c tc→TrAt H d td→TrAt H (.ref p) (.four ta tb tc td)

def Tups (H H':Hp):Prop:=∀ b xs,H b=some (.tup xs)→H' b=some (.tup xs)
theorem Same.tups {H H':Hp} (s:Same H H'):Tups H H':=fun b xs e=>s b _ e
theorem Tups.trans {H H' H'':Hp} (s:Tups H H') (t:Tups H' H''):Tups H H'':=fun b xs e=>t b xs (s b xs e)
theorem Tups.lst {H:Hp} {l:Addr} {xs ys:List V} (e:H l=some (.lst xs)):Tups H (upd H l (.lst ys)):=fun b zs q=>by
  rw [upd_ne (ne_of q e (by intro z; cases z))]; exact q
theorem TrAt.up {H H':Hp} (s:Tups H H'):∀ {v:V} {t:Tr},TrAt H v t→TrAt H' v t
  | _,_,.col i=>.col i
  | _,_,.four e a b c d=>.four (s _ _ e) (TrAt.up s a) (TrAt.up s b) (TrAt.up s c) (TrAt.up s d)
theorem TrAt.dat {H:Hp}:∀ {v:V} {t:Tr},TrAt H v t→Dat H v t.data
  | _,_,.col i=>.int i
  | _,_,.four e a b c d=>.tup e (.cons a.dat (.cons b.dat (.cons c.dat (.cons d.dat .nil))))
theorem Tr.eqv:∀ t u:Tr,PyData.eqv t.data u.data=decide (t=u)
  | .col i,.col j=>by
    show (i == j)=_
    by_cases h:i=j <;> simp [h]
  | .col i,.four ..=>by
    show false=_
    simp
  | .four ..,.col j=>by
    show false=_
    simp
  | .four a b c d,.four a' b' c' d'=>by
    show (PyData.eqv a.data a'.data && (PyData.eqv b.data b'.data && (PyData.eqv c.data c'.data && (PyData.eqv d.data d'.data && true))))=_
    rw [Tr.eqv a a',Tr.eqv b b',Tr.eqv c c',Tr.eqv d d']
    by_cases h1:a=a' <;> by_cases h2:b=b' <;> by_cases h3:c=c' <;> by_cases h4:d=d' <;> simp [h1,h2,h3,h4]
theorem Tr.lay:∀ t:Tr,t.data.canLay0=true
  | .col i=>rfl
  | .four a b c d=>by
    show (a.data.canLay0 && (b.data.canLay0 && (c.data.canLay0 && (d.data.canLay0 && true))))=true
    rw [Tr.lay a,Tr.lay b,Tr.lay c,Tr.lay d]; rfl
theorem Tr.depth:∀ t:Tr,t.data.depth=t.deep
  | .col i=>rfl
  | .four a b c d=>by
    show max a.data.depth (max b.data.depth (max c.data.depth (max d.data.depth 0))) + 1=_
    rw [Tr.depth a,Tr.depth b,Tr.depth c,Tr.depth d,Nat.max_zero]; rfl
theorem Tr.shaped {t:Tr} (h:t.deep≤64):SeqAt.shaped t.data=true:=by
  unfold SeqAt.shaped
  rw [Tr.lay,Tr.depth,decide_eq_true h]; rfl
theorem TrAt.ty {K:PySem.W.Frag} {H:Hp} {v:V} {t:Tr} (h:TrAt H v t):TyOf K H v (if t.isCol then .type "int" else .type "tuple"):=by
  cases h with
  | col i=>exact .int i
  | four e=>exact .tup e
end L2

namespace L2
open PySem PySem.Spec PyProof.Rows

section
variable {X:Cx} {elt tg iter cnd:Expr} {scope:Scope} {pos:Pos} {N':List Str} {wi:TI} {g:TG} {te:TE} {tt:TT}
end
end L2

namespace L2
open PySem PySem.Spec PyProof.Rows
section
variable {X:Cx}
end
end L2

namespace L2
open PySem PySem.Spec PyProof.Rows
section
variable {X:Cx} {pos:Pos}

end
end L2

namespace L2
open PySem PySem.Spec PyProof.Rows

def tCut (t:TS):TS:=fun D σ H=>∃ Pv:St→Hp→Prop,t { D with nx:=Pv } σ H∧∀ σ' H',Pv σ' H'→D.nx σ' H'
section
variable {X:Cx} {st:Stmt} {t:TS}
theorem ps_cut (h:PS X st t):PS X st (tCut t):=by
  intro pins s σ H D I ⟨Pv,h1,h2⟩
  refine thn (h pins s σ H { D with nx:=Pv } I h1) fun f s1 q => ?_
  cases f with
  | next =>
    obtain ⟨σ',H',I',q⟩:=q
    exact ⟨σ',H',I',h2 _ _ q⟩
  | ret v=>exact q
  | brk=>exact q
  | cont=>exact q
end
end L2

namespace L2
open PySem PySem.Spec PyProof.Rows
section
variable {prog:Program} {w:World} {A:Around} {E:Value→Shared→Prop} {s:Shared}

end
section
variable {prog:Program} {w:World} {A:Around} {E:Value→Shared→Prop} {s:Shared}
end
section
variable {X:Cx} {tg:Expr}
end
end L2

namespace L2
open PySem PySem.Spec PyProof.Rows
section
variable {K:PySem.W.Frag} {σ0 cs:St} {k:Nat} {g:TG} {te:TE} {tt:TT} {H1:Hp} {Q:VK}
end
section
variable {X:Cx} {K:PySem.W.Frag} {o e:Expr} {es:List Expr} {to:TE} {t:TA} {name:Str} {apos cpos:Pos} {T id:String} {r:V→List V→Hp→VK→Prop}
end
end L2

namespace L2
open PySem PySem.Spec PySem.Calls PyProof.Rows
section
variable {X:Cx}
end
section
variable {K:PySem.W.Frag} {σ0 cs:St} {k:Nat} {g:TG} {te:TE} {tt:TT} {H1:Hp} {Q:VK}
end
end L2

namespace L2
open PySem PySem.Spec PySem.Calls PyProof.Rows
section
variable {X:Cx} {K:PySem.W.Frag}
end
end L2

namespace L2
open PySem PySem.Spec PySem.Calls PyProof.Rows

section
variable {P:Program} {w:World} {K:PySem.W.Frag} {mg:Str→Option Value} {base:Heap}
end
section
variable {X:Cx} {CX:CXT} {j k:Nat} {ps:List Str} {sp:Sp} {x:Str} {p pos:Pos} {e:Expr} {es:List Expr} {t:TA}
end
end L2


namespace Qs
open PySem L2
theorem len_eq (z:Str):z.length=z.cps.toList.length:=by
  show z.cps.size=z.cps.toList.length
  rw [Array.length_toList]

def IsC (z:Str):Prop:=∀ c∈z.cps.toList,48≤c∧c≤51
def dig (z:Str):List Nat:=z.cps.toList.map (· - 48)
theorem dig_len (z:Str):(dig z).length=z.length:=by simp [dig,len_eq]
theorem sgn_in {z:Str} {i:Nat} (hz:IsC z) (h:i < z.length):48≤z.cps.getD i 0∧z.cps.getD i 0≤51:=by
  have h':i < z.cps.size:=h
  refine hz _ ?_
  have e:z.cps.getD i 0=z.cps[i]:=by simp [Array.getD_eq_getD_getElem?,h']
  rw [e]
  exact Array.getElem_mem_toList h'

def one (d:Nat):Str:=⟨#[48 + d]⟩
theorem sgn_one {z:Str} {i:Nat} (hz:IsC z) (h:i < z.length):∃ d,d < 4∧sgn z i=one d∧z.cps.getD i 0 - 48=d:=by
  obtain ⟨h1,h2⟩:=sgn_in hz h
  refine ⟨z.cps.getD i 0 - 48,by omega,?_,rfl⟩
  unfold sgn one
  have e:48 + (z.cps.getD i 0 - 48)=z.cps.getD i 0:=by omega
  rw [e]
theorem four {P:Nat→Prop} (h0:P 0) (h1:P 1) (h2:P 2) (h3:P 3) {d:Nat} (h:d < 4):P d:=by
  rcases d with _ | _ | _ | _ | d
  · exact h0
  · exact h1
  · exact h2
  · exact h3
  · omega
theorem int_one {d:Nat} (h:d < 4):PySem.intText? (one d)=some (d:Int) :=
  four (P:=fun d=>PySem.intText? (one d)=some (d:Int)) (by decide +kernel) (by decide +kernel) (by decide +kernel) (by decide +kernel) h
theorem IsC.nil:IsC ⟨#[]⟩:=fun c h=>by simp at h
theorem IsC.app {a b:Str} (ha:IsC a) (hb:IsC b):IsC (a++b):=fun c h=>by
  have e:(a++b).cps.toList=a.cps.toList++b.cps.toList:=by
    show (a.cps++b.cps).toList=_
    simp
  rw [e] at h
  rcases List.mem_append.mp h with h | h
  · exact ha c h
  · exact hb c h
theorem IsC.one {d:Nat} (h:d < 4):IsC (one d):=fun c hc=>by
  have e:c=48 + d:=by simpa [Qs.one] using hc
  omega
end Qs

namespace L2
open PySem PySem.Spec PyProof.Rows
section
variable {X:Cx}
theorem pe_gint {x:Str} {i:Int} {pos:Pos} (h:∃ t,X.mg x=some (.int i t)) (hg:Gl X x:=by rfl) (hd:(x == ("__debug__" : Str))=false:=by decide):PE X (.Name x pos) (tC (.int i)):=by
  obtain ⟨t,h⟩:=h
  exact pe_glob hg h ⟨t,rfl⟩ hd
end
section
variable {X:Cx}
theorem pe_bty {x:Str} {n:String} {pos:Pos} (hm:X.mg x=none) (hv:bootBuiltins x=some (.type n)) (hg:Gl X x:=by rfl) (hn:x ≠ "__name__" := by decide) (hd:(x == ("__debug__" : Str))=false:=by decide):PE X (.Name x pos) (tC (.ty n)) :=
  pe_bltn hg hm hv rfl hn hd
end

theorem Same.new {H:Hp} {p:Addr} (h:H p=none) (o:HO):Same H (upd H p o):=fun b u q=>by rw [upd_ne (ne_of_none q h)]; exact q
theorem Same.set {H:Hp} {H':Hp} {p:Addr} (h:Same H H') (hp:H p=none) (o:HO):Same H (upd H' p o):=fun b u q=>by rw [upd_ne (ne_of_none q hp)]; exact h b u q
theorem small {n:Nat} (h:n≤1000):n≤sizeLine:=Nat.le_of_lt (small1000 h)
end L2

namespace L2
open PySem PySem.Spec PyProof.Rows
def notStar:PySem.Expr→Bool
  | .Starred _ _=>false
  | _=>true
theorem star_of {e:PySem.Expr} {es:List PySem.Expr} {env:Env} (h:notStar e=true):starEach (e::es) env=(false,eval e env)::starEach es env:=by
  cases e <;> first | rfl | (cases h)
theorem pa_c {X:Cx} {e:PySem.Expr} {es:List PySem.Expr} {te:TE} {t:TA} (ha:PE X e te) (hr:PA X es t) (h:notStar e=true:=by rfl):PA X (e::es) (tCons te t):=pa_cons ha hr (star_of h)
end L2
namespace L2
open PySem PySem.Spec PyProof.Rows
end L2
namespace L2
open PySem PySem.Spec PyProof.Rows

structure PAx (X:Cx) (es:List PySem.Expr) (t:TA):Prop where
  h:PA X es t
section
variable {X:Cx} {e:PySem.Expr} {es:List PySem.Expr} {te:TE} {t:TA} {pos:Pos}
theorem pax_nil:PAx X [] tNil:=⟨pa_nil⟩
theorem pax_c (ha:PE X e te) (hr:PAx X es t) (h:notStar e=true:=by rfl):PAx X (e::es) (tCons te t):=⟨pa_c ha hr.h h⟩
theorem pe_tupx {x1} (h:PAx X es t):PE X (.Tuple es x1 pos) (tTup t):=pe_tup h.h
theorem pe_lstx (h:PAx X es t):PE X (.List es pos) (tLst t):=pe_lst h.h
end
end L2

namespace L2
open PySem PySem.Spec PySem.Calls PyProof.Rows

section
variable {X:Cx}
end
def notComp:PySem.Expr→Bool
  | .ListComp _ _ _ _=>false
  | .SetComp _ _ _ _=>false
  | .DictComp _ _ _ _ _=>false
  | _=>true
theorem swaps_of {e:PySem.Expr} {t:Option PySem.Expr} {l:Nat} {env:Env} (h:notComp e=true):swapsWith e t l env=pure false:=by
  cases e <;> first | rfl | (cases h)

structure PEx (X:Cx) (e:PySem.Expr) (t:TE):Prop where
  h:PE X e t
structure PSx (X:Cx) (st:Stmt) (t:TS):Prop where
  h:PS X st t
structure PSsx (X:Cx) (st:List Stmt) (t:TS):Prop where
  h:PSs X st t
section
variable {X:Cx} {st:Stmt} {rest:List Stmt} {t u:TS}
theorem pssx_one (h:PSx X st t):PSsx X [st] t:=⟨pss_one h.h⟩
theorem pssx_cons (h1:PSx X st t) (h2:PSsx X rest u):PSsx X (st::rest) (tSeq t u):=⟨pss_cons h1.h h2.h⟩
theorem pex_lst {es:List PySem.Expr} {ta:TA} {pos:Pos} (h:PAx X es ta):PEx X (.List es pos) (tLst ta):=⟨pe_lst h.h⟩
end
section
variable {P:Program} {w:World} {K:PySem.W.Frag} {mg:Str→Option Value} {base:Heap}
theorem FunD.oks {x qual:Str} {st:Stmt} {f:Addr} {fd:FuncData} {dV:Value} {N ps:List Str} {k:Nat} {sp:Sp} {CX:CXT} (F:FunD K x qual st f fd dV) (S:FnScope N ps (defScope st)) (len:∀ vs H Q E,sp vs H Q E→vs.length=ps.length)
    (hbody:∀ (cdv:Value) (A:Around) (outer:List Env) (s:Shared) (H:Hp) (vs:List V) (Q:VK) (E:XK),Room k (A.deeper (envOfC qual (defScope st) s.heap.objs.size f cdv))→sp vs H Q E →
      ∃ t,PSsx (cxOf CX P w K mg base N qual (defScope st) f cdv A outer s H E).nox (defBody st) t∧t { nx:=fun _ H'=>Q .non H',rt:=Q } (start N vs) H):FnOk P w K mg base CX (k + 1) f fd ps sp :=
  F.ok S len fun cdv A outer s H vs Q E hr h=>by
    obtain ⟨t,h1,h2⟩:=hbody cdv A outer s H vs Q E hr h
    exact ⟨t,h1.h,h2⟩
end
end L2

namespace L2
open PySem PySem.Spec PySem.Calls PyProof.Rows
section
variable {X:Cx}

end

namespace HT
section
variable {prog:Program} {w:World} {A:Around} {E:Value→Shared→Prop} {s:Shared}
end
end HT
section
variable {X:Cx}
end

section
variable {X:Cx}
theorem pax_cx {e:PySem.Expr} {es:List PySem.Expr} {te:TE} {t:TA} (ha:PEx X e te) (hr:PAx X es t) (h:notStar e=true:=by rfl):PAx X (e::es) (tCons te t):=pax_c ha.h hr h
end
end L2

namespace L2
open PySem PySem.Spec PySem.Calls PyProof.Rows
section
variable {K:PySem.W.Frag} {σ0 cs:St} {k:Nat} {g:TG} {te:TE} {H1:Hp} {Q:VK}

end
section
variable {X:Cx}

end
end L2

namespace L2
open PySem PySem.Spec PySem.Calls PyProof.Rows

section
variable {prog:Program} {w:World} {A:Around} {E:Value→Shared→Prop} {s:Shared}
end


section
variable {X:Cx} {pins:List (Addr × Obj)} {σ:St}
end
end L2

namespace L2
open PySem PySem.Spec PySem.Calls PyProof.Rows PySem.W


def Pw {α:Type} (n:Nat) (b:Nat→Nat→Bool):KasT α→(α→Prop)→Prop
  | .ret a,Q=>Q a
  | .ask i j k,Q=>i < n∧j < n∧i≠j∧Pw n b (k (b i j)) Q
theorem Pw.bind {α β:Type} {n:Nat} {b:Nat→Nat→Bool} {f:α→KasT β} {Q:β→Prop}:∀ {t:KasT α},Pw n b t (fun a=>Pw n b (f a) Q)→Pw n b (t.bind f) Q
  | .ret _,h=>h
  | .ask _ _ k,h=>⟨h.1,h.2.1,h.2.2.1,Pw.bind (t:=k _) h.2.2.2⟩
theorem Pw.wp {α:Type} {n:Nat} {b:Nat→Nat→Bool} {cmp:Nat→Nat→(Bool→Shared→Prop)→Shared→Prop} {s:Shared} (hc:∀ i j C,i < n→j < n→i≠j→C (b i j) s→cmp i j C s) {Q:α→Prop} {R:α→Shared→Prop} (hR:∀ a,Q a→R a s) :
    ∀ {t:KasT α},Pw n b t Q→t.kasWp cmp R s
  | .ret _,h=>hR _ h
  | .ask i j k,h=>hc i j _ h.1 h.2.1 h.2.2.1 (Pw.wp hc hR (t:=k _) h.2.2.2)
section
variable {N:Nat} {f:Nat→Int}

structure Ord (N:Nat) (p:Array Nat):Prop where
  perm:p.toList.Perm (List.range N)
theorem Ord.size {p:Array Nat} (h:Ord N p):p.size=N:=by
  have:=h.perm.length_eq
  simpa using this
theorem Ord.lt {p:Array Nat} (h:Ord N p) {i:Nat} (hi:i < N):p.getD i 0 < N:=by
  have hs:=h.size
  have h1:i < p.size:=by omega
  have e:p.getD i 0=p[i]:=by simp [Array.getD,h1]
  have:p[i]∈List.range N:=h.perm.mem_iff.mp (by simp)
  rw [e]; exact List.mem_range.mp this
theorem Ord.inj {p:Array Nat} (h:Ord N p) {i j:Nat} (hi:i < N) (hj:j < N) (e:p.getD i 0=p.getD j 0):i=j:=by
  have hs:=h.size
  have h1:i < p.size:=by omega
  have h2:j < p.size:=by omega
  have nd:p.toList.Nodup:=h.perm.nodup_iff.mpr List.nodup_range
  have e1:p.getD i 0=p.toList[i]'(by simpa using h1):=by simp [Array.getD,h1]
  have e2:p.getD j 0=p.toList[j]'(by simpa using h2):=by simp [Array.getD,h2]
  rw [e1,e2] at e
  exact (List.getElem_inj nd).mp e

def gAt (f:Nat→Int) (p:Array Nat) (i:Nat):Int:=f (p.getD i 0)
def Up (f:Nat→Int) (p:Array Nat) (m:Nat):Prop:=∀ i j,i < j→j < m→gAt f p i < gAt f p j
def Dn (f:Nat→Int) (p:Array Nat) (m:Nat):Prop:=∀ i j,i < j→j < m→gAt f p j < gAt f p i
def Inj (N:Nat) (f:Nat→Int):Prop:=∀ i j,i < N→j < N→f i=f j→i=j
theorem gne {p:Array Nat} (hf:Inj N f) (h:Ord N p) {i j:Nat} (hi:i < N) (hj:j < N) (ne:i≠j):gAt f p i≠gAt f p j:=fun e=>ne (h.inj hi hj (hf _ _ (h.lt hi) (h.lt hj) e))
abbrev lb (f:Nat→Int):Nat→Nat→Bool:=fun i j=>decide (f i < f j)
theorem Up.more {p:Array Nat} {m:Nat} (h:Up f p m) (h1:1≤m) (hm:gAt f p (m - 1) < gAt f p m):Up f p (m + 1):=fun i j hij hj=>by
  rcases Nat.lt_or_ge j m with q | q
  · exact h i j hij q
  · have:j=m:=by omega
    subst this
    rcases Nat.lt_or_ge i (j - 1) with q2 | q2
    · exact Int.lt_trans (h i (j - 1) q2 (by omega)) hm
    · have:i=j - 1:=by omega
      rw [this]; exact hm
theorem Dn.more {p:Array Nat} {m:Nat} (h:Dn f p m) (h1:1≤m) (hm:gAt f p m < gAt f p (m - 1)):Dn f p (m + 1):=fun i j hij hj=>by
  rcases Nat.lt_or_ge j m with q | q
  · exact h i j hij q
  · have:j=m:=by omega
    subst this
    rcases Nat.lt_or_ge i (j - 1) with q2 | q2
    · exact Int.lt_trans hm (h i (j - 1) q2 (by omega))
    · have:i=j - 1:=by omega
      rw [this]; exact hm
theorem getD_of {p q:Array Nat} {i j:Nat} (h:p[i]? = q[j]?):p.getD i 0=q.getD j 0:=by
  simp only [Array.getD_eq_getD_getElem?,h]
theorem Ord.rev {p:Array Nat} (h:Ord N p) (i j:Nat):Ord N (kas_rev p i j):=⟨(Array.perm_iff_toList_perm.mp (mirror_perm p i j _)).trans h.perm⟩
theorem Ord.bub {p:Array Nat} (h:Ord N p) (i j:Nat):Ord N (bubble p i j):=⟨(Array.perm_iff_toList_perm.mp (bubble_perm p i j)).trans h.perm⟩
theorem g_rev {p:Array Nat} (h:Ord N p) {m i:Nat} (hm:m≤N):gAt f (kas_rev p 0 m) i=if i < m then gAt f p (m - 1 - i) else gAt f p i:=by
  have e:=getElem?_mirror_all (xs:=p) (i:=0) (j:=m) (by rw [h.size]; exact hm) i
  unfold gAt kas_rev
  by_cases q:i < m
  · rw [if_pos ⟨Nat.zero_le _,q⟩] at e
    rw [if_pos q,getD_of e]
    congr 2
    omega
  · rw [if_neg (by omega)] at e
    rw [if_neg q,getD_of e]
theorem Dn.rev {p:Array Nat} (h:Ord N p) {m:Nat} (hm:m≤N) (d:Dn f p m):Up f (kas_rev p 0 m) m:=fun i j hij hj=>by
  rw [g_rev h hm,g_rev h hm,if_pos (by omega),if_pos hj]
  exact d _ _ (by omega) (by omega)
theorem pw_asc (hf:Inj N f) {p:Array Nat} (hp:Ord N p):∀ (k m:Nat) {Q:Nat→Prop},1≤m→m + k=N→Up f p m→(∀ r,m≤r→r≤N→Up f p r→(r=N∨gAt f p r < gAt f p (r - 1))→Q r)→Pw N (lb f) (kas_asc p k m) Q
  | 0,m,Q,h1,h2,u,q=>q m (Nat.le_refl _) (by omega) u (.inl (by omega))
  | k + 1,m,Q,h1,h2,u,q=>by
    refine ⟨hp.lt (by omega),hp.lt (by omega),fun e=>absurd (hp.inj (by omega) (by omega) e) (by omega),?_⟩
    show Pw N (lb f) (if decide (gAt f p m < gAt f p (m - 1))=true then .ret m else kas_asc p k (m + 1)) Q
    by_cases c:gAt f p m < gAt f p (m - 1)
    · rw [if_pos (decide_eq_true c)]
      exact q m (Nat.le_refl _) (by omega) u (.inr c)
    · rw [if_neg (by simp [c])]
      have ne:=gne hf hp (i:=m) (j:=m - 1) (by omega) (by omega) (by omega)
      exact pw_asc hf hp k (m + 1) (by omega) (by omega) (u.more h1 (by omega)) fun r a b c d=>q r (by omega) b c d
theorem pw_desc (hf:Inj N f) {p:Array Nat} (hp:Ord N p):∀ (k m:Nat) {Q:Array Nat × Nat × Nat→Prop},1≤m→m + k=N→Dn f p m→(∀ r,m≤r→r≤N→Dn f p r→Q (p,r,0))→Pw N (lb f) (kas_desc k p m 0) Q
  | 0,m,Q,h1,h2,u,q=>q m (Nat.le_refl _) (by omega) u
  | k + 1,m,Q,h1,h2,u,q=>by
    refine ⟨hp.lt (by omega),hp.lt (by omega),fun e=>absurd (hp.inj (by omega) (by omega) e) (by omega),?_⟩
    show Pw N (lb f) (if decide (gAt f p m < gAt f p (m - 1))=true then (if 0 > 0 then kas_desc k (kas_rev p (m - (0 + 1)) m) (m + 1) 0 else kas_desc k p (m + 1) 0) else _) Q
    by_cases c:gAt f p m < gAt f p (m - 1)
    · rw [if_pos (decide_eq_true c),if_neg (Nat.lt_irrefl 0)]
      exact pw_desc hf hp k (m + 1) (by omega) (by omega) (u.more h1 c) fun r a b c=>q r (by omega) b c
    · rw [if_neg (by simp [c])]
      refine ⟨hp.lt (by omega),hp.lt (by omega),fun e=>absurd (hp.inj (by omega) (by omega) e) (by omega),?_⟩
      have ne:=gne hf hp (i:=m) (j:=m - 1) (by omega) (by omega) (by omega)
      have c2:gAt f p (m - 1) < gAt f p m:=by omega
      show Pw N (lb f) (if decide (gAt f p (m - 1) < gAt f p m)=true then .ret (p,m,0) else _) Q
      rw [if_pos (decide_eq_true c2)]
      exact q m (Nat.le_refl _) (by omega) u
theorem pw_count (hf:Inj N f) {p:Array Nat} (hp:Ord N p) (hN:2≤N) {Q:Nat × Array Nat→Prop} (q:∀ r p',1≤r→r≤N→Ord N p'→Up f p' r→Q (r,p')):Pw N (lb f) (kas_count N p) Q:=by
  unfold kas_count
  refine Pw.bind (pw_asc hf hp (N - 1) 1 (Nat.le_refl _) (by omega) (fun i j a b=>by omega) fun r h1 h2 u w => ?_)
  by_cases e:r=N
  · rw [if_pos (by simp [e])]
    exact q r p h1 h2 hp u
  · rw [if_neg (by simp [e])]
    have w':gAt f p r < gAt f p (r - 1):=by rcases w with w | w; exact absurd w e; exact w
    by_cases e2:r > 1
    · rw [if_pos e2]
      refine ⟨hp.lt (by omega),hp.lt (by omega),fun e=>absurd (hp.inj (by omega) (by omega) e) (by omega),?_⟩
      have c:gAt f p 0 < gAt f p (r - 1):=u 0 (r - 1) (by omega) (by omega)
      show Pw N (lb f) (if decide (gAt f p 0 < gAt f p (r - 1))=true then .ret (r,p) else _) Q
      rw [if_pos (decide_eq_true c)]
      exact q r p h1 h2 hp u
    · rw [if_neg e2]
      have er:r=1:=by omega
      subst er
      unfold kas_descPart
      refine Pw.bind (pw_desc hf hp (N - (1 + 1)) (1 + 1) (by omega) (by omega) (fun i j a b => ?_) fun m m1 m2 d => ?_)
      · have a1:i=0:=by omega
        have a2:j=1:=by omega
        subst a1; subst a2; exact w'
      · show Pw N (lb f) (if 0 > 0 then _ else kas_tail3 m N p) Q
        rw [if_neg (Nat.lt_irrefl 0)]
        unfold kas_tail3
        exact Pw.bind (pw_asc hf (hp.rev 0 m) (N - m) m (by omega) (by omega) (Dn.rev hp m2 d) fun r' a1 a2 a3 _=>q r' _ (by omega) a2 (hp.rev 0 m) a3)
theorem pw_place (hf:Inj N f) {p:Array Nat} (hp:Ord N p) {k:Nat} (hk:k < N):∀ (n l r:Nat) {Q:Nat→Prop},l≤r→r≤k→r - l≤n→(∀ i,i < l→gAt f p i < gAt f p k)→(∀ i,r≤i→i < k→gAt f p k < gAt f p i) →
    Up f p k→(∀ l',l'≤k→(∀ i,i < l'→gAt f p i < gAt f p k)→(∀ i,l'≤i→i < k→gAt f p k < gAt f p i)→Q l')→Pw N (lb f) (kas_place p k n l r) Q
  | 0,l,r,Q,h1,h2,h3,lo,hi,u,q=>q l (by omega) lo (fun i a b=>hi i (by omega) b)
  | n + 1,l,r,Q,h1,h2,h3,lo,hi,u,q=>by
    unfold kas_place
    by_cases e:l ≥ r
    · rw [if_pos e]
      exact q l (by omega) lo (fun i a b=>hi i (by omega) b)
    · rw [if_neg e]
      refine ⟨hp.lt hk,hp.lt (by omega),fun e=>absurd (hp.inj hk (by omega) e) (by omega),?_⟩
      show Pw N (lb f) (if decide (gAt f p k < gAt f p ((l + r) / 2))=true then _ else _) Q
      have m1:l≤(l + r) / 2:=by omega
      have m2:(l + r) / 2 < r:=by omega
      generalize (l + r) / 2=c at *
      have ne:=gne hf hp (i:=k) (j:=c) hk (by omega) (by omega)
      by_cases w:gAt f p k < gAt f p c
      · rw [if_pos (decide_eq_true w)]
        refine pw_place hf hp hk n l c m1 (by omega) (by omega) lo (fun i a b => ?_) u q
        rcases Nat.lt_or_ge c i with x | x
        · exact Int.lt_trans w (u c i x b)
        · have:i=c:=by omega
          rw [this]; exact w
      · rw [if_neg (by simp [w])]
        have w':gAt f p c < gAt f p k:=by omega
        refine pw_place hf hp hk n (c + 1) r (by omega) h2 (by omega) (fun i a => ?_) hi u q
        rcases Nat.lt_or_ge i c with x | x
        · exact Int.lt_trans (u i c x (by omega)) w'
        · have:i=c:=by omega
          rw [this]; exact w'
theorem g_bub {p:Array Nat} (h:Ord N p) {k l i:Nat} (hk:k < N) (hl:l≤k):gAt f (bubble p k (k - l)) i=if i=l then gAt f p k else if l < i∧i≤k then gAt f p (i - 1) else gAt f p i:=by
  have e:=getElem?_bubble (xs:=p) (src:=k) (by rw [h.size]; exact hk) (k - l) (by omega) i
  rw [show k - (k - l)=l by omega] at e
  unfold gAt
  by_cases q:i=l
  · rw [if_pos q] at e ⊢
    rw [getD_of e]
  · rw [if_neg q] at e ⊢
    by_cases q2:l < i∧i≤k
    · rw [if_pos q2] at e ⊢
      rw [getD_of e]
    · rw [if_neg q2] at e ⊢
      rw [getD_of e]
theorem pw_bin (hf:Inj N f):∀ (n k:Nat) {p:Array Nat} {Q:Array Nat→Prop},Ord N p→k + n=N→Up f p k→(∀ p',Ord N p'→Up f p' N→Q p')→Pw N (lb f) (kas_bin n p k) Q
  | 0,k,p,Q,hp,h,u,q=>q p hp (by rw [← h]; exact u)
  | n + 1,k,p,Q,hp,h,u,q=>by
    refine Pw.bind (pw_place hf hp (by omega) k 0 k (Nat.zero_le _) (Nat.le_refl _) (by omega) (fun i a=>by omega) (fun i a b=>by omega) u fun l l1 lo hi => ?_)
    refine pw_bin hf n (k + 1) (hp.bub k (k - l)) (by omega) (fun i j hij hj => ?_) q
    have hk:k < N:=by omega
    rw [g_bub hp hk l1,g_bub hp hk l1]
    by_cases a1:i=l
    · rw [if_pos a1,if_neg (by omega),if_pos (by omega)]
      exact hi (j - 1) (by omega) (by omega)
    · rw [if_neg a1]
      by_cases a2:l < i∧i≤k
      · rw [if_pos a2,if_neg (by omega),if_pos (by omega)]
        exact u _ _ (by omega) (by omega)
      · rw [if_neg a2]
        by_cases b1:j=l
        · rw [if_pos b1]
          exact lo i (by omega)
        · rw [if_neg b1]
          by_cases b2:l < j∧j≤k
          · rw [if_pos b2]
            by_cases c:i=j - 1
            · omega
            · exact u i (j - 1) (by omega) (by omega)
          · rw [if_neg b2]
            exact u i j hij (by omega)
theorem pw_sort (hf:Inj N f) (hN:2≤N) {Q:Array Nat→Prop} (q:∀ p',Ord N p'→Up f p' N→Q p'):Pw N (lb f) (kas_sort N) Q:=by
  unfold kas_sort
  refine Pw.bind (pw_count hf (p:=List.toArray (List.range N)) ⟨List.Perm.refl _⟩ hN fun r p' h1 h2 hp u => ?_)
  show Pw N (lb f) (if r < N then kas_bin (N - max r 1) p' (max r 1) else .ret p') Q
  by_cases e:r < N
  · rw [if_pos e,show max r 1=r by omega]
    exact pw_bin hf (N - r) r hp (by omega) u q
  · rw [if_neg e]
    have:r=N:=by omega
    subst this
    exact q p' hp u
end
end L2

namespace L2
open PySem PySem.Spec PySem.Calls PyProof.Rows PySem.W

section
variable {prog:Program} {w:World} {A:Around} {E:Value→Shared→Prop} {s:Shared}

structure Srt (prog:Program) (w:World) (vs:List Value) (f:Nat→Int) (κ:SortKind) (s:Shared):Prop where
  few:vs.length < 64
  inj:Inj vs.length f
  kind:∀ (A:Around),2≤vs.length→∀ Q:SortKind→Shared→Prop,Q κ s→wpAny (model prog w) A (keyKind' vs.toArray) Q (fun _ _=>False) s
  less:∀ (A:Around) (i j:Nat) (C:Bool→Shared→Prop),i < vs.length→j < vs.length→i≠j→C (lb f i j) s→wpAny (model prog w) A (keyLt' κ (vs.getD i .none) (vs.getD j .none)) C (fun _ _=>False) s
abbrev outOf (vs:List Value) (p:Array Nat):List Value:=p.toList.map fun i=>vs.getD i .none
theorem list_sort_by {a:Addr} {vs:List Value} {n:Nat} {f:Nat→Int} {κ:SortKind} {P:PySem.Fin→Shared→Prop} (ho:s.heap.get? a=some (seqObj "list" vs.toArray n))
    (hs:∀ h',(∀ b o,b≠a→s.heap.get? b=some o→h'.get? b=some o)→Srt prog w vs f κ { s with heap:=h' })
    (h:∀ p,Ord vs.length p→Up f p vs.length→P (.done (.ret .none)) { s with heap:=sortedHeap s.heap a vs (outOf vs p).toArray }) :
    wpAny (model prog w) A (Builtin.«list.sort» ⟨[.ref a],[]⟩) P E s:=by
  have ha:a < s.heap.objs.size:=Heap.lt_size ho
  have h64:vs.length < 64:=(hs s.heap fun _ _ _ e=>e).few
  have sz:vs.length≤sizeLine:=by rw [sizeLine_eq]; omega
  rw [list_sort_plain]
  refine wpAny_bind (listItems_at ho rfl ?_)
  refine wpAny_bind (listUpdate_at ho rfl ?_ (by rw [List.size_toArray]; omega) (Nat.zero_le _))
  obtain ⟨e1,ho1⟩:∃ e1,(s.heap.update a (Obj.mapSeq fun _=>(#[]:Array Value))).get? a=some (seqObj "list" #[] e1):=⟨_,get?_update_seq ho fun _ => #[]⟩
  refine wpAny_bind (seqEpoch_at ho1 rfl ?_)
  refine wpAny_bind (wpAny_newTuple ?_ (by show vs.length≤_; exact sz))
  refine wpAny_bind (wpAny_newList ?_ (Nat.zero_le _))
  refine wpAny_holding ?_
  show wpAny (model prog w) A _ P E { s with heap:=((s.heap.update a (Obj.mapSeq fun _=>(#[]:Array Value))).push (seqObj "tuple" vs.toArray 0)).push (seqObj "list" #[] 0) }
  dsimp only
  have ho6:(((s.heap.update a (Obj.mapSeq fun _=>(#[]:Array Value))).push (seqObj "tuple" vs.toArray 0)).push (seqObj "list" #[] 0)).get? a=some (seqObj "list" #[] e1):=Heap.get?_push_of_some _ (Heap.get?_push_of_some _ ho1)
  have kp:∀ b o,b≠a→s.heap.get? b=some o→(((s.heap.update a (Obj.mapSeq fun _=>(#[]:Array Value))).push (seqObj "tuple" vs.toArray 0)).push (seqObj "list" #[] 0)).get? b=some o:=fun b o hb e =>
    Heap.get?_push_of_some _ (Heap.get?_push_of_some _ ((Heap.get?_update_other _ _ (Ne.symm hb)).trans e))
  have S:=hs _ kp
  by_cases h2:vs.toArray.size < 2
  · rw [if_pos h2,if_pos h2]
    refine wpAny_bind (wpAny_pure ?_)
    rw [StateT.run_pure]
    refine wpAny_bind (wpAny_pure ?_)
    dsimp only
    refine wpAny_bind (seqEpoch_at ho6 rfl ?_)
    have ez:(vs.toArray.zip vs.toArray).map (·.2)=(outOf vs (List.range vs.length).toArray).toArray:=by
      apply Array.ext
      · simp
      · intro i x y
        simp at x y
        simp [x]
    refine wpAny_bind (listUpdate_at ho6 rfl ?_ (hsz2:=by rw [Array.size_map,Array.size_zip]; simp; omega))
    simp only [bne_self_eq_false,Bool.false_eq_true,if_false]
    refine wpAny_pure ?_
    have:=h (List.range vs.length).toArray ⟨List.Perm.refl _⟩ (fun i j a b=>by rw [List.size_toArray] at h2; omega)
    show P _ { s with heap:=Heap.update _ a (Obj.mapSeq fun _=>(vs.toArray.zip vs.toArray).map (·.2)) }
    rw [ez]
    exact this
  · rw [if_neg h2,if_neg h2]
    have h2':2≤vs.length:=by rw [List.size_toArray] at h2; omega
    refine wpAny_bind (wpAny_mono (S.kind A h2' (fun κ' s'=>κ'=κ∧s'=_) ⟨rfl,rfl⟩) (fun κ' s' hk => ?_) fun _ _ x=>x.elim)
    obtain ⟨rfl,rfl⟩:=hk
    refine wpAny_bind (wpAny_mono (kat_run (Q:=fun st' s'=>∃ p:Array Nat,p.size=vs.length∧arrOf st'=p.map (kas_item (vs.toArray.zip vs.toArray))∧failedOf st'=none∧Ord vs.length p∧Up f p vs.length ∧
        s'={ s with heap:=((s.heap.update a (Obj.mapSeq fun _=>(#[]:Array Value))).push (seqObj "tuple" vs.toArray 0)).push (seqObj "list" #[] 0) })
      (G:=fun p s'=>Ord vs.length p∧Up f p vs.length∧s'={ s with heap:=((s.heap.update a (Obj.mapSeq fun _=>(#[]:Array Value))).push (seqObj "tuple" vs.toArray 0)).push (seqObj "list" #[] 0) })
      (ks:=vs) rfl h2' h64 (fun p' st' s' a1 a2 a3 a4=>⟨p',a1,a2,a3,a4⟩)
      (Pw.wp (n:=vs.length) (b:=lb f) (fun i j C a1 a2 a3 a4=>S.less A i j C a1 a2 a3 a4) (Q:=fun p=>Ord vs.length p∧Up f p vs.length) (fun p hp=>⟨hp.1,hp.2,rfl⟩) (pw_sort S.inj h2' fun p' a1 a2=>⟨a1,a2⟩))) ?_ fun _ _ e=>e)
    rintro ⟨⟨⟩,st'⟩ s' ⟨p,hp,har,hfl,o,u,rfl⟩
    dsimp only
    refine wpAny_bind (seqEpoch_at ho6 rfl ?_)
    have hout:=kat_snds (ks:=vs) rfl har
    rw [hout]
    refine wpAny_bind (listUpdate_at ho6 rfl ?_ (Nat.zero_le _) (by rw [List.size_toArray,List.length_map,Array.length_toList,hp]; omega))
    rw [hfl]
    simp only [bne_self_eq_false,Bool.false_eq_true,if_false]
    exact wpAny_pure (h p o u)
theorem sorted_by {r:Addr} {Q:Value→Shared→Prop} (hcol:wpAny (model prog w) A.in1 (collect (.ref r)) (fun vs s1=>∃ (f:Nat→Int) (κ:SortKind),(∀ h',(∀ b o,s1.heap.get? b=some o→h'.get? b=some o)→Srt prog w vs f κ { s1 with heap:=h' }) ∧
      ∀ p,Ord vs.length p→Up f p vs.length→Q (.ref s1.heap.objs.size) { s1 with heap:=sortedHeap (s1.heap.push (seqObj "list" vs.toArray 0)) s1.heap.objs.size vs (outOf vs p).toArray }) E s) :
    wpAny (model prog w) A (call (.builtin "sorted") [.ref r]) Q E s:=by
  refine Calls.call_function_entry kind_sorted plain_sorted entry_sorted (args_sorted1 _) ?_
  unfold Builtin.«sorted»
  refine wpAny_bind (m:=checkCount "sorted" 1 1 _) (wpAny_pure ?_)
  refine wpAny_bind (wpAny_mono hcol (fun vs s1 ⟨f,κ,hS,hq⟩ => ?_) fun _ _ e=>e)
  have h64:vs.length < 64:=(hS s1.heap fun _ _ e=>e).few
  refine wpAny_bind (wpAny_newList ?_ (by rw [sizeLine_eq]; omega))
  have hoL:(s1.heap.push (seqObj "list" vs.toArray 0)).get? s1.heap.objs.size=some (seqObj "list" vs.toArray 0):=Heap.get?_push_size _ rfl
  show wpAny _ _ _ _ _ { s1 with heap:=s1.heap.push (seqObj "list" vs.toArray 0) }
  refine wpAny_bind (wpAny_holding (wpAny_call_entry slot_list_sort ⟨_,hoL,rfl⟩ entry_list_sort (list_sort_by (f:=f) (κ:=κ) hoL (fun h' kp=>hS h' fun b o e => ?_) fun p o u=>⟨_,rfl,?_⟩) (args_list_sort _)))
  · exact kp b o (Nat.ne_of_lt (Heap.lt_size e)) (Heap.get?_push_of_some _ e)
  · exact wpAny_pure ⟨_,rfl,hq p o u⟩

theorem srt_tups {as:List Addr} {ks:List Int} (hn:as.length < 64) (hl:as.length=ks.length) (nd:ks.Nodup)
    (ht:∀ (j:Nat) (a:Addr),as[j]? = some a→∃ (k:Int) (t:Tok) (x:Value),ks[j]? = some k∧s.heap.get? a=some { cls:=.type "tuple",data:=.seq #[.int k t,x] }) :
    Srt prog w (as.map Value.ref) (fun i=>ks.getD i 0) (tuples' (Value.type "int" != Value.type "tuple")) s:=by
  refine ⟨by simpa using hn,fun i j hi hj e => ?_,fun A h2 Q q => ?_,fun A i j C hi hj ne q => ?_⟩
  · rw [List.length_map,hl] at hi hj
    simp only [List.getD_eq_getElem?_getD,List.getElem?_eq_getElem hi,List.getElem?_eq_getElem hj,Option.getD_some] at e
    exact (List.getElem_inj nd).mp e
  · have kt:∀ (as:List Addr) (ks:List Int),as.length=ks.length→(∀ (j:Nat) (a:Addr),as[j]? = some a→∃ (k:Int) (t:Tok) (x:Value),ks[j]? = some k∧s.heap.get? a=some { cls:=.type "tuple",data:=.seq #[.int k t,x] }) →
        ∃ fs:List Value,KatTups s.heap (as.map Value.ref) fs∧fs.length=as.length∧∀ v∈fs,∃ (k:Int) (t:Tok),v=.int k t:=by
      intro as
      induction as with
      | nil=>intro ks _ _; exact ⟨[],KatTups.nil,rfl,fun v hv=>nomatch hv⟩
      | cons a as ih =>
        intro ks hl ht
        cases ks with
        | nil=>simp at hl
        | cons k ks =>
          obtain ⟨k',t,x,e1,e2⟩:=ht 0 a rfl
          obtain ⟨fs,f1,f2,f3⟩:=ih ks (by simpa using hl) (fun j a' hj=>by
            obtain ⟨k2,t2,x2,g1,g2⟩:=ht (j + 1) a' (by simpa using hj)
            exact ⟨k2,t2,x2,by simpa using g1,g2⟩)
          refine ⟨.int k' t::fs,KatTups.cons e2 rfl rfl rfl f1,by simp [f2],fun v hv => ?_⟩
          rcases List.mem_cons.mp hv with rfl | hv
          · exact ⟨k',t,rfl⟩
          · exact f3 v hv
    obtain ⟨fs,f1,f2,f3⟩:=kt as ks hl ht
    refine kat_kind (T:=.type "int") f1 (by rw [f2]; rw [List.length_map] at h2; omega) (fun v hv => ?_) (by decide) q
    obtain ⟨k,t,rfl⟩:=f3 v hv
    exact Looks.now
  · rw [List.length_map] at hi hj
    obtain ⟨k1,t1,x1,e1,g1⟩:=ht i as[i] (List.getElem?_eq_getElem hi)
    obtain ⟨k2,t2,x2,e2,g2⟩:=ht j as[j] (List.getElem?_eq_getElem hj)
    have v1:(as.map Value.ref).getD i Value.none=Value.ref as[i]:=by simp [hi]
    have v2:(as.map Value.ref).getD j Value.none=Value.ref as[j]:=by simp [hj]
    rw [v1,v2]
    have kne:¬ k1=k2:=fun e=>by
      subst e
      obtain ⟨a1,b1⟩:=List.getElem?_eq_some_iff.mp e1
      obtain ⟨a2,b2⟩:=List.getElem?_eq_some_iff.mp e2
      exact ne ((List.getElem_inj nd).mp (b1.trans b2.symm))
    refine kat_lt g1 rfl g2 rfl (kat_cons (wpAny_eqBool_int ?_))
    rw [show (k1 == k2)=false from beq_eq_false_iff_ne.mpr kne]
    refine kat_no ?_
    show wpAny _ _ (oneLt' true _ _) _ _ _
    refine oneLt_int ?_
    have f1:ks.getD i 0=k1:=by simp [List.getD_eq_getElem?_getD,e1]
    have f2:ks.getD j 0=k2:=by simp [List.getD_eq_getElem?_getD,e2]
    have:lb (fun i=>ks.getD i 0) i j=decide (k1 < k2):=by simp only [lb,f1,f2]
    rw [← this]
    exact q

end
theorem map_range_getD {α:Type} (es:List α) (d:α):(List.range es.length).map (fun i=>es.getD i d)=es:=by
  apply List.ext_getElem
  · simp
  · intro i h1 h2
    simp [h2]
theorem perm_out {α:Type} (es:List α) (d:α) {N:Nat} {p:Array Nat} (hN:N=es.length) (o:Ord N p):(p.toList.map fun i=>es.getD i d).Perm es:=by
  have h:=o.perm.map (fun i=>es.getD i d)
  rw [hN,map_range_getD] at h
  exact h
theorem up_out {N:Nat} {f:Nat→Int} {p:Array Nat} (o:Ord N p) (u:Up f p N):(p.toList.map f).Pairwise (· < ·):=by
  rw [List.pairwise_iff_getElem]
  intro i j h1 h2 hij
  rw [List.length_map,Array.length_toList,o.size] at h1 h2
  have hs:=o.size
  have:=u i j hij h2
  have e1:p.getD i 0=p[i]'(by omega):=by simp [Array.getD,hs,h1]
  have e2:p.getD j 0=p[j]'(by omega):=by simp [Array.getD,hs,h2]
  unfold gAt at this
  rw [e1,e2] at this
  simpa using this
end L2

namespace L2
open PySem PySem.Spec PySem.Calls PyProof.Rows PySem.W

theorem bt_sorted:bootBuiltins "sorted" = some (.builtin "sorted"):=by decide +kernel
section
variable {X:Cx} {pins:List (Addr × Obj)} {σ:St} {H H':Hp} {s:Shared} {h':Heap}

theorem Inv.laids {t':Nat} (I:Inv X pins σ H s) (k:∀ b u,s.heap.get? b=some u→h'.get? b=some u) (sm:Same H H')
    (new:∀ b u,H' b=some u→H b=none→s.heap.objs.size≤b∧ObjOk X.prog X.w H' h' b u):Inv X pins σ H' { s with heap:=h',toks:=t' }:=by
  refine I.un ⟨fun b u q _ _ _=>k b u q,fun b u q _ _ _=>⟨u.slots,k b u q⟩,fun b u q n _ => ?_,fun b u q _=>⟨u,k b u q⟩,fun b xs q=>sm _ _ q,fun b u xs q=>sm _ _ q,fun b ps q=>⟨#[],by rw [sm _ _ q]; simp⟩⟩ fun b u e => ?_
  · cases e:H' b with
    | none=>rfl
    | some u'=>exact absurd (Nat.lt_of_lt_of_le (Heap.lt_size q) (new b u' e n).1) (Nat.lt_irrefl _)
  · cases q:H b with
    | none=>exact (new b u e q).2
    | some u' =>
      have:=sm _ _ q
      rw [e] at this
      cases this
      exact (I.hok b u q).stay (fun c v _ q=>k c v q) (fun c q=>sm _ _ q) fun c xs q=>sm _ _ q
theorem sortedHeap_keep {h:Heap} {vs:List Value} {out:Array Value} {b:Addr} {o:Obj} (e:h.get? b=some o):(sortedHeap (h.push (seqObj "list" vs.toArray 0)) h.objs.size vs out).get? b=some o:=by
  rw [sortedHeap_old (Nat.ne_of_lt (Heap.lt_size e)) (by rw [size_push']; exact Nat.lt_succ_of_lt (Heap.lt_size e))]
  exact Heap.get?_push_of_some _ e
theorem sortedHeap_is {h:Heap} {vs:List Value} {out:Array Value}:∃ n,(sortedHeap (h.push (seqObj "list" vs.toArray 0)) h.objs.size vs out).get? h.objs.size=some (seqObj "list" out n) :=
  sortedHeap_at (n:=0) (Heap.get?_push_size _ rfl)

abbrev ents (es:List (Int × V)):List (Key × V):=es.map fun e=>(Sum.inl e.1,e.2)
theorem kv_ents:∀ {es:List (Int × V)} {vs:List (Key × Value)},KV (ents es) vs→es.length=vs.length∧∀ (j:Nat) (k:Key) (x:Value),vs[j]? = some (k,x)→∃ (i:Int) (v:V),es[j]? = some (i,v)∧k=Sum.inl i∧RelV v x
  | [],vs,h=>by cases h; exact ⟨rfl,fun j k x e=>by simp at e⟩
  | e::es,vs,h=>by
    cases h with
    | cons r t =>
      obtain ⟨h1,h2⟩:=kv_ents (es:=es) t
      refine ⟨by simp [h1],fun j k x q => ?_⟩
      cases j with
      | zero =>
        simp at q
        refine ⟨e.1,e.2,rfl,?_,?_⟩
        · exact ((show (Sum.inl e.1:Key)=_ from r.1).trans (congrArg Prod.fst q)).symm
        · have:=r.2
          rw [q] at this
          exact this
      | succ j =>
        obtain ⟨i,v,a1,a2,a3⟩:=h2 j k x (by simpa using q)
        exact ⟨i,v,by simpa using a1,a2,a3⟩
theorem nodup_ents {es:List (Int × V)} {vs:List (Key × Value)} (h:KV (ents es) vs) (nd:(vs.map (·.1)).Nodup):(es.map (·.1)).Nodup:=by
  obtain ⟨hl,hk⟩:=kv_ents h
  rw [List.nodup_iff_pairwise_ne,List.pairwise_iff_getElem] at nd ⊢
  intro i j h1 h2 hij e
  simp only [List.length_map] at h1 h2
  have a1:=hk i (vs[i]'(by omega)).1 (vs[i]'(by omega)).2 (by rw [List.getElem?_eq_getElem (by omega)])
  have a2:=hk j (vs[j]'(by omega)).1 (vs[j]'(by omega)).2 (by rw [List.getElem?_eq_getElem (by omega)])
  obtain ⟨k1,v1,b1,c1,_⟩:=a1
  obtain ⟨k2,v2,b2,c2,_⟩:=a2
  refine nd i j (by simpa using (by omega:i < vs.length)) (by simpa using (by omega:j < vs.length)) hij ?_
  simp only [List.getElem_map]
  rw [c1,c2]
  simp only [List.getElem_map] at e
  obtain ⟨_,d1⟩:=List.getElem?_eq_some_iff.mp b1
  obtain ⟨_,d2⟩:=List.getElem?_eq_some_iff.mp b2
  rw [d1,d2] at e
  have e':k1=k2:=e
  rw [e']

def EU (H1 H:Hp) (us:List V) (es:List (Int × V)):Prop:=us.length=es.length∧∀ (j:Nat) (u:V),us[j]? = some u→∃ (a:Addr) (e:Int × V),u=.ref a∧es[j]? = some e∧H1 a=none∧H a=some (.tup [.int e.1,e.2])
def tSortI (td:TE):TE:=fun σ H Q=>td σ H fun x H1=>∃ (a:Addr) (es:List (Int × V)),x=.ref a∧H1 a=some (.dK (ents es))∧es.length < 64 ∧
  ∀ (S:Addr) (H':Hp) (us:List V) (es':List (Int × V)),Same H1 H'→H1 S=none→H' S=some (.lst us)→es'.Perm es→(es'.map (·.1)).Pairwise (· < ·)→EU H1 H' us es'→Q (.ref S) H'
theorem vals_map {α:Type} {f:α→V} {g:α→Value}:∀ {l:List α},(∀ i∈l,RelV (f i) (g i))→Vals (l.map f) (l.map g)
  | [],_=>.nil
  | i::l,h=>.cons (h i (by simp)) (vals_map fun j hj=>h j (by simp [hj]))
theorem look_mem {α:Type} {b:Addr} {e:α}:∀ {as:List Addr} {es:List α},(as.zip es).lookup b=some e→∃ j:Nat,as[j]? = some b∧es[j]? = some e
  | [],_,h=>by simp at h
  | _::_,[],h=>by simp at h
  | a::as,x::es,h=>by
    rw [List.zip_cons_cons,List.lookup_cons] at h
    cases q:b == a with
    | true =>
      rw [q] at h
      have:b=a:=by simpa using q
      exact ⟨0,by simp [this],by simpa using h⟩
    | false =>
      rw [q] at h
      obtain ⟨j,h1,h2⟩:=look_mem h
      exact ⟨j + 1,by simpa using h1,by simpa using h2⟩
theorem look_at {α:Type} {b:Addr} {e:α}:∀ {as:List Addr} {es:List α} {j:Nat},as.Pairwise (· < ·)→as[j]? = some b→es[j]? = some e→(as.zip es).lookup b=some e
  | [],_,_,_,h,_=>by simp at h
  | _::_,[],_,_,_,h=>by simp at h
  | a::as,x::es,0,_,h1,h2=>by
    simp at h1 h2
    subst h1
    subst h2
    simp [List.lookup_cons]
  | a::as,x::es,j + 1,pw,h1,h2=>by
    have pw':=List.pairwise_cons.mp pw
    have h1':as[j]? = some b:=by simpa using h1
    have hb:a < b:=pw'.1 b (List.mem_iff_getElem?.mpr ⟨j,h1'⟩)
    have:(b == a)=false:=beq_eq_false_iff_ne.mpr (Nat.ne_of_gt hb)
    rw [List.zip_cons_cons,List.lookup_cons,this]
    exact look_at pw'.2 h1' (by simpa using h2)
theorem dict_at {a:Addr} {es:List (Int × V)} (I:Inv X pins σ H s) (e:H a=some (.dK (ents es))) :
    (a == sysModules)=false∧∃ vs ep,KV (ents es) vs∧s.heap.DictAt (mixKind X.prog X.w) a vs ep:=by
  obtain ⟨_,hd,vs,kv,dd⟩:=dk_of I.hok e
  obtain ⟨ep,q⟩:=dd.dictAt
  exact ⟨hd,vs,ep,kv,q⟩
theorem pe_sortI {o:Expr} {td:TE} {p apos pos pos2:Pos} (hc:X.calm=true) (hg:Gl X "sorted") (hm:X.mg "sorted" = none) (ho:PE X o td)
    (hbase:attributeBase o "items" X.env (eval o X.env)=eval o X.env:=by rfl) (hline:(apos.endLine == pos2.line)=true:=by rfl)
    (hs1:starEach [Expr.Call (.Attribute o "items" apos) [] [] pos2] X.env=[(false,eval (Expr.Call (.Attribute o "items" apos) [] [] pos2) X.env)]:=by rfl) :
    PE X (.Call (.Name "sorted" p) [.Call (.Attribute o "items" apos) [] [] pos2] [] pos) (tSortI td):=by
  intro pins s σ H Q I h
  refine wpAny_Call_Name_kw (ld_blt I hg hm bt_sorted ?_)
  refine PyProof.Rows.callWith_builtin1 ?_ hs1 rfl
  rw [hs1]
  show wpAny _ _ (spliced [(false,eval (Expr.Call (.Attribute o "items" apos) [] [] pos2) X.env)]) _ _ s
  refine Calls.spliced_cons ?_
  refine wpAny_Call_method0_late hbase hline (thn (ho pins s σ H _ I h) fun u s1 ⟨x,H1,I1,rx,a,es,ex,ea,hn,q⟩ => ?_)
  subst ex
  obtain rfl:u=Value.ref a:=rx
  obtain ⟨t1,t2,hd⟩:=isD_at I1 (.inl ⟨_,.inl ea⟩)
  refine ⟨_,_,PySem.F.plainAttrs_dict,PySem.F.slot_dict_items,PySem.F.type_dict_items,t1,t2,Calls.callWith_builtin rfl (PySem.evalArgs_none ?_)⟩
  obtain ⟨_,vs,ep,kv,dat⟩:=dict_at I1 ea
  obtain ⟨hl,hk⟩:=kv_ents kv
  have nd:=nodup_ents kv dat.nodup
  refine call_meetsIn PySem.F.slot_dict_items dat.dictOf.typeIs PySem.F.entry_dict_items (PySem.F.args_dict_items_1 _) (meets_dict_items (mixKind X.prog X.w) a hd) ⟨⟨vs,dat.dictOf⟩,?_⟩
  refine Calls.spliced_nil ?_
  refine sorted_by ?_
  have I2:Inv X pins σ H1 { s1 with heap:=s1.heap.push { cls:=.type "dict_items",data:=.fields #[.ref a] } }:=I1.kept (t':=s1.toks) fun b o e=>Heap.get?_push_of_some _ e
  have dat2:(s1.heap.push { cls:=.type "dict_items",data:=.fields #[.ref a] }).DictAt (mixKind X.prog X.w) a vs ep:=dat.push _
  have vw:(s1.heap.push { cls:=.type "dict_items",data:=.fields #[.ref a] }).IsItemsView s1.heap.objs.size a:=⟨_,Heap.get?_push_size _ rfl,rfl,rfl⟩
  generalize eg:s1.heap.push { cls:=.type "dict_items",data:=.fields #[.ref a] }=g at *
  have hh:X.A.handled=none:=I1.ok.hd hc
  have sl:vs.length≤sizeLine:=by rw [sizeLine_eq]; omega
  refine kdx_collect (s:={ s1 with heap:=g }) (knd:=mixKind X.prog X.w) (kvs:=vs) (ep:=ep) (d:=a) (show X.A.in1.handled=none from hh) vw dat2 sl fun h' tk as kp la G => ?_
  dsimp only at kp G ⊢
  have al:as.length=(es.map (·.1)).length:=by rw [List.length_map,hl,la]
  have at':∀ (j:Nat) (b:Addr),as[j]? = some b→∃ (k:Int) (t:Tok) (v:V) (x:Value),es[j]? = some (k,v)∧RelV v x∧h'.get? b=some { cls:=.type "tuple",data:=.seq #[.int k t,x] }:=fun j b hj=>by
    obtain ⟨key,k,x,e1,e2,e3⟩:=G.pairs j b hj
    obtain ⟨i,v0,f1,f2,f3⟩:=hk j k x e1
    subst f2
    rcases keyIs_shape (k:=Sum.inl i) (v:=key) e2 with ⟨i',t,z1,z2⟩ | ⟨y,t,z1,z2⟩
    · cases z1
      subst z2
      exact ⟨i,t,v0,x,f1,f3,e3⟩
    · cases z1
  have al64:as.length < 64:=by rw [al,List.length_map]; exact hn
  refine ⟨fun i=>(es.map (·.1)).getD i 0,_,fun h2 kp2=>srt_tups al64 al nd fun j b hj => ?_,fun p op up => ?_⟩
  · obtain ⟨k,t,v,x,f1,f2,f3⟩:=at' j b hj
    exact ⟨k,t,x,by simp [f1],kp2 _ _ f3⟩
  · rw [List.length_map] at op up
    obtain ⟨n2,hS⟩:=sortedHeap_is (h:=h') (vs:=as.map Value.ref) (out:=(outOf (as.map Value.ref) p).toArray)
    have kp3:∀ b o,h'.get? b=some o→(sortedHeap (h'.push (seqObj "list" (as.map Value.ref).toArray 0)) h'.objs.size (as.map Value.ref) (outOf (as.map Value.ref) p).toArray).get? b=some o:=fun b o e=>sortedHeap_keep e
    generalize (sortedHeap (h'.push (seqObj "list" (as.map Value.ref).toArray 0)) h'.objs.size (as.map Value.ref) (outOf (as.map Value.ref) p).toArray)=h3 at *
    have gl:g.objs.size≤h'.objs.size:=by
      obtain ⟨ov,hov,_⟩:=id vw
      have:=Heap.lt_size (kp _ _ hov)
      rw [← eg,size_push']
      exact this
    let H2:Hp:=fun b=>match (as.zip es).lookup b with | some e=>some (.tup [.int e.1,e.2]) | none=>H1 b
    have up2:∀ (j:Nat) (b:Addr) (e:Int × V),as[j]? = some b→es[j]? = some e→H2 b=some (.tup [.int e.1,e.2]):=fun j b e a1 a2=>by
      show (match (as.zip es).lookup b with | some e=>some (HO.tup [.int e.1,e.2]) | none=>H1 b)=_
      rw [look_at G.rise a1 a2]
    have ab:∀ (j:Nat) (b:Addr),as[j]? = some b→g.objs.size < b∧b < h'.objs.size:=fun j b a1=>⟨G.above b (List.mem_iff_getElem?.mpr ⟨j,a1⟩),G.there (List.mem_iff_getElem?.mpr ⟨j,a1⟩)⟩
    have lo:∀ b o,H1 b=some o→H2 b=some o∧b < g.objs.size:=fun b o e=>by
      have hb:b < g.objs.size:=I2.hok.lt e
      refine ⟨?_,hb⟩
      show (match (as.zip es).lookup b with | some e=>some (HO.tup [.int e.1,e.2]) | none=>H1 b)=_
      cases q:(as.zip es).lookup b with
      | none=>exact e
      | some x =>
        obtain ⟨j,a1,_⟩:=look_mem q
        exact absurd (Nat.lt_trans hb (ab j b a1).1) (Nat.lt_irrefl _)
    have sm:Same H1 (upd H2 h'.objs.size (.lst (p.toList.map fun i=>V.ref (as.getD i 0)))):=fun b o e=>by
      rw [upd_ne (Nat.ne_of_lt (Nat.lt_of_lt_of_le (lo b o e).2 gl))]
      exact (lo b o e).1
    have fr:H1 h'.objs.size=none:=I2.hok.fresh gl
    have pm:=perm_out es (0,V.non) (by rw [al,List.length_map]) op
    have pwd:((p.toList.map fun i=>es.getD i (0,V.non)).map (·.1)).Pairwise (· < ·):=by
      have z:=up_out op up
      have e:((p.toList.map fun i=>es.getD i (0,V.non)).map (·.1))=p.toList.map fun i=>(es.map (·.1)).getD i 0:=by
        rw [List.map_map]
        refine List.map_congr_left fun i _ => ?_
        show (es.getD i (0,V.non)).1=(es.map (·.1)).getD i 0
        simp only [List.getD_eq_getElem?_getD,List.getElem?_map]
        cases es[i]? <;> rfl
      rw [e]
      exact z
    have mem:∀ i∈p.toList,i < as.length:=fun i hi=>List.mem_range.mp (op.perm.mem_iff.mp hi)
    have el:as.length=es.length:=by rw [al,List.length_map]
    refine ⟨.ref h'.objs.size,_,I2.laids (t':=tk) (fun b o e=>kp3 b o (kp b o e)) sm (fun b u e1 e2 => ?_),rfl,q _ _ _ _ sm fr upd_same pm pwd ⟨by simp,fun j u hj => ?_⟩⟩
    · by_cases hb:b=h'.objs.size
      · subst hb
        rw [upd_same] at e1
        cases e1
        refine ⟨gl,?_,outOf (as.map Value.ref) p,n2,vals_map fun i hi => ?_,hS⟩
        · rw [List.length_map,Array.length_toList,op.size,sizeLine_eq]; omega
        · have:=mem i hi
          show (as.map Value.ref).getD i .none=Value.ref (as.getD i 0)
          simp [this]
      · rw [upd_ne hb] at e1
        have e1':(match (as.zip es).lookup b with | some e=>some (HO.tup [.int e.1,e.2]) | none=>H1 b)=some u:=e1
        cases w:(as.zip es).lookup b with
        | none=>rw [w] at e1'; rw [e2] at e1'; cases e1'
        | some x =>
          rw [w] at e1'
          cases e1'
          obtain ⟨j,a1,a2⟩:=look_mem w
          obtain ⟨k,t,v,y,f1,f2,f3⟩:=at' j b a1
          rw [f1] at a2
          cases a2
          exact ⟨Nat.le_of_lt (ab j b a1).1,by rw [sizeLine_eq]; exact Nat.le_of_ble_eq_true rfl,[.int k t,y],.cons ⟨t,rfl⟩ (.cons f2 .nil),_,kp3 _ _ f3,rfl,0,rfl⟩
    · rw [List.getElem?_map] at hj
      cases w:p.toList[j]? with
      | none=>rw [w] at hj; simp at hj
      | some i =>
        rw [w] at hj
        have hi:=mem i (List.mem_iff_getElem?.mpr ⟨j,w⟩)
        have hi2:i < es.length:=by omega
        have g1:as.getD i 0=as[i]:=by simp [hi]
        have u1:u=V.ref as[i]:=by
          have:V.ref (as.getD i 0)=u:=by simpa using hj
          rw [← this,g1]
        have ia:=ab i as[i] (List.getElem?_eq_getElem hi)
        refine ⟨as[i],es[i],u1,?_,I2.hok.fresh (Nat.le_of_lt ia.1),?_⟩
        · rw [List.getElem?_map,w]
          simp [hi2]
        · rw [upd_ne (Nat.ne_of_lt ia.2)]
          exact up2 i _ _ (List.getElem?_eq_getElem hi) (List.getElem?_eq_getElem hi2)
end
end L2

namespace L2
open PySem PySem.Spec PySem.Calls PyProof.Rows

section
variable {X:Cx}
theorem Room.dic {k:Nat} {A:Around} (r:Room k A):A.units + 1 < PySem.cLine:=by have:=r.un; omega
end
end L2

namespace L2
open PySem PySem.Spec PySem.Calls PyProof.Rows PySem.W

def Zs (Z:List (Addr × Obj)) (outer:List Env) (s:Shared) (H:Hp):Prop:=∀ q∈Z,s.heap.get? q.1=some q.2∧H q.1=none∧q.1∉frs outer

structure FnOkZ (Z:List (Addr × Obj)) (P:Program) (w:World) (K:PySem.W.Frag) (mg:Str→Option Value) (base:Heap) (CX:CXT) (k:Nat) (f:Addr) (fd:FuncData) (ps:List Str) (sp:Sp):Prop where
  len:∀ vs H Q E,sp vs H Q E→vs.length=ps.length
  run:∀ (A:Around) (outer:List Env) (s:Shared) (H:Hp) (args:Args) (us:List Value) (vs:List V) (Q:VK) (E:XK),Room k A→Env0 P w K mg base A outer s H→Zs Z outer s H→BindsTo s fd args (ps.zip us)→Vals vs us→sp vs H Q E →
    codeAny (model P w) A (.call (.ref f) args) (CR CX outer P w H s Q E) s
section
variable {X:Cx} {pins:List (Addr × Obj)} {σ:St} {H:Hp} {s:Shared} {Z:List (Addr × Obj)}
theorem Inv.zs (I:Inv X pins σ H s) (hz:Zs Z X.outer X.s₀ X.H₀) (hx:X.ex=[]):Zs Z X.stack s H:=fun q hq=>by
  obtain ⟨h1,h2,h3⟩:=hz q hq
  have nx:q.1∉X.ex:=by rw [hx]; simp
  refine ⟨I.base.keep _ _ h1 h2 h3 nx,I.base.free _ _ h1 h2 nx,fun z => ?_⟩
  rcases I.ok.stk with e | ⟨e,ef⟩
  · rw [e] at z; exact h3 z
  · rw [e] at z
    have z':q.1=X.env.locals∨q.1∈frs X.outer:=by
      have:frs (X.env::X.outer)=X.env.locals::frs X.outer:=by unfold frs; rw [List.filterMap_cons,ef]
      rw [this] at z
      exact List.mem_cons.mp z
    rcases z' with z' | z'
    · have:=Nat.lt_of_lt_of_le (Heap.lt_size h1) I.ok.above
      rw [z'] at this
      exact Nat.lt_irrefl _ this
    · exact h3 z'
end

theorem fnZ_of {Z:List (Addr × Obj)} {CX:CXT} {P:Program} {w:World} {K:PySem.W.Frag} {mg:Str→Option Value} {base:Heap} {k:Nat} {f:Addr} {name qual:Str} {params:Arguments} {body:List Stmt} {scope:Scope} {dV kV doc pm cdv ct oc:Value} {an od:Option Addr}
    {osl:Array (Option Value)} {N ps:List Str} {sp:Sp} (lk:K.lookup f=some ⟨oc,od,.func (PySem.W.fnOf name qual params body scope dV kV doc pm an cdv ct),osl⟩) (hcd:PySem.W.codeIn K cdv qual=true) (S:FnScope N ps scope)
    (len:∀ vs H Q E,sp vs H Q E→vs.length=ps.length)
    (hbody:∀ (A:Around) (outer:List Env) (s:Shared) (H:Hp) (vs:List V) (Q:VK) (E:XK),Room k (A.deeper (envOfC qual scope s.heap.objs.size f cdv))→Zs Z outer s H→sp vs H Q E →
      ∃ t,PSs (cxOf CX P w K mg base N qual scope f cdv A outer s H E) body t∧t { nx:=fun _ H'=>Q .non H',rt:=Q } (start N vs) H) :
    FnOkZ Z P w K mg base CX (k + 1) f (PySem.W.fnOf name qual params body scope dV kV doc pm an cdv ct) ps sp:=by
  refine ⟨len,fun A outer s H args us vs Q E hr e0 hz hb r hsp => ?_⟩
  have hl:=len _ _ _ _ hsp
  have KX:K.In s.heap:=e0.mod.kin.keeps fun b o e=>(e0.bs b o e).1
  have lim:s.heap.NoLimit:=e0.mod.nolimit.keeps fun b o e=>(e0.bs b o e).1
  have hkind:∀ y∈ps.zip us,scope.names.lookup y.1=some .local∨(scope.names.lookup y.1=some .cell∧((cellsFrom (s.heap.objs.size + 1) scope.names []).lookup y.1).isSome=true):=fun ⟨n,v⟩ hy=>by
    rcases S.par n (List.of_mem_zip hy).1 with q | q
    · exact .inl q
    · exact .inr ⟨q,PySem.W.cellsFrom_some _ _ _ (.inl q)⟩
  refine codeAny_call_function hr.depth (KX _ _ lk) rfl S.co S.gen rfl (PySem.W.codeRec_of KX hcd) (hb _ _ _ _ ?_)
  refine wpAny_newFunctionEnv_cells S.kind hkind fun env he s1 x => ?_
  subst he
  refine ⟨lim.keeps x.toInCall.keep,codeAny_func ?_⟩
  obtain ⟨t,ht,hq⟩:=hbody A outer s H vs Q E (hr.deeper _) hz hsp
  have I:Inv (cxOf CX P w K mg base N qual scope f cdv A outer s H E) [] (start N vs) H s1:=inv_start S hr.hd e0 hl r x
  refine wpAny_mono (ht [] s1 (start N vs) H _ I hq) (fun fl s' hs => ?_) fun e s' hs=>hs
  have fin:∀ {σ':St} {H':Hp} {v:V} {u:Value},Inv (cxOf CX P w K mg base N qual scope f cdv A outer s H E) [] σ' H' s'→RelV v u→Q v H'→CE outer P w H s Q u s' :=
    fun {σ' H' v u} J rv q=>⟨v,H',J.os,J.bare,J.base,J.hok,rv,q⟩
  cases fl with
  | ret u =>
    obtain ⟨v,σ',H',J,rv,q⟩:=hs
    exact fin J rv q
  | next =>
    obtain ⟨σ',H',J,q⟩:=hs
    exact fin (v:=V.non) (u:=Value.none) J rfl q
  | brk =>
    obtain ⟨_,_,_,q⟩:=hs
    exact False.elim q
  | cont =>
    obtain ⟨_,_,_,q⟩:=hs
    exact False.elim q
section
variable {P:Program} {w:World} {K:PySem.W.Frag} {mg:Str→Option Value} {base:Heap} {Z:List (Addr × Obj)}
theorem FunD.okZ {x qual:Str} {st:Stmt} {f:Addr} {fd:FuncData} {dV:Value} {N ps:List Str} {k:Nat} {sp:Sp} {CX:CXT} (F:FunD K x qual st f fd dV) (S:FnScope N ps (defScope st)) (len:∀ vs H Q E,sp vs H Q E→vs.length=ps.length)
    (hbody:∀ (cdv:Value) (A:Around) (outer:List Env) (s:Shared) (H:Hp) (vs:List V) (Q:VK) (E:XK),Room k (A.deeper (envOfC qual (defScope st) s.heap.objs.size f cdv))→Zs Z outer s H→sp vs H Q E →
      ∃ t,PSs (cxOf CX P w K mg base N qual (defScope st) f cdv A outer s H E).nox (defBody st) t∧t { nx:=fun _ H'=>Q .non H',rt:=Q } (start N vs) H):FnOkZ Z P w K mg base CX (k + 1) f fd ps sp:=by
  obtain ⟨oc,od,kV,doc,pm,an,cdv,ct,osl,rfl,lk,hcd⟩:=F.ex
  refine fnZ_of lk hcd S len fun A outer s H vs Q E hr hz hsp => ?_
  obtain ⟨t,h,q⟩:=hbody cdv A outer s H vs Q E hr hz hsp
  exact ⟨t,h.nox,q⟩
end

def FokZ (Z:List (Addr × Obj)) (P:Program) (w:World) (K:PySem.W.Frag) (mg:Str→Option Value) (base:Heap) (CX:CXT) (k:Nat) (x:Str) (ps:List Str) (sp:Sp):Prop :=
  ∃ f fd,FnOkZ Z P w K mg base CX k f fd ps sp∧Binds K fd ps []∧PySem.W.keepIn K (.ref f)=true∧mg x=some (.ref f)
section
variable {X:Cx} {CX:CXT} {k j:Nat} {f:Addr} {fd:FuncData} {ps:List Str} {sp:Sp} {x:Str} {p pos:Pos} {e:Expr} {es:List Expr} {t:TA} {Z:List (Addr × Obj)}
theorem run_fnZ {pins:List (Addr × Obj)} {σ:St} {H:Hp} {s:Shared} {Q:VK} {us:List Value} {vs:List V} {E:XK} (F:FnOkZ Z X.prog X.w X.K X.mg X.base CX k f fd ps sp) (hr:Room k X.A) (hb:BindsTo s fd ⟨us,[]⟩ (ps.zip us)) (hx:Passes CX X E)
    (I:Inv X pins σ H s) (hz:Zs Z X.stack s H) (r:Vals vs us) (h:sp vs H Q E):wpAny (model X.prog X.w) X.A (call (.ref f) us) (EP X pins σ Q) X.xe s:=by
  refine wpAny_call (codeAny_mono (F.run X.A X.stack s H ⟨us,[]⟩ us vs Q E hr I.env0 hz hb r h) fun r s' hq => ?_)
  cases r with
  | error e=>exact hx pins σ H s e s' I hq
  | ok fl =>
    cases fl with
    | ret u=>exact I.after hq
    | next=>exact False.elim hq
    | brk=>exact False.elim hq
    | cont=>exact False.elim hq
end

def cxLam (CX:CXT) (P:Program) (w:World) (K:PySem.W.Frag) (mg:Str→Option Value) (base:Heap) (N:List Str) (qual:Str) (scope:Scope) (f:Addr) (cd:Value) (cl:List (Str × Addr)) (A:Around) (outer:List Env) (s:Shared) (H:Hp) (E:XK):Cx where
  prog:=P
  w:=w
  K:=K
  mg:=mg
  base:=base
  A:=A.deeper (envX qual scope s.heap.objs.size f cd cl)
  N:=N
  s₀:=s
  H₀:=H
  env:=envX qual scope s.heap.objs.size f cd cl
  outer:=outer
  stack:=envX qual scope s.heap.objs.size f cd cl::outer
  ex:=[]
  calm:=true
  fn:=fun _=>false
  pn:=[]
  xe:=fun e s'=>wpAny (model P w) (A.deeper (envX qual scope s.heap.objs.size f cd cl)) (leaving (envX qual scope s.heap.objs.size f cd cl) e) (fun _ s''=>CX outer H s E e s'') (fun e' s''=>CX outer H s E e' s'') s'

structure LamScope (ps caps:List Str) (scope:Scope):Prop where
  kind:scope.kind=.function
  gen:scope.isGenerator=false
  co:scope.isCoroutine=false
  nd:ps.Nodup
  loc:∀ x∈ps,scope.names.lookup x=some .local
  nocell:∀ y∈scope.names,y.2≠.cell
  free:∀ y∈scope.names,y.2=.free→y.1∈caps
  caps:∀ x∈caps,scope.names.lookup x=some .free
theorem zip_rev_lookup:∀ {ps:List Str} {us:List Value} {i:Nat} {x:Str} {u:Value},ps.Nodup→ps[i]? = some x→us[i]? = some u→((ps.zip us).reverse.lookup x)=some u
  | [],_,_,_,_,_,h,_=>by simp at h
  | _::_,[],_,_,_,_,_,h=>by simp at h
  | p::ps,w::us,i,x,u,nd,h1,h2=>by
    have nd':=List.nodup_cons.mp nd
    rw [List.zip_cons_cons,List.reverse_cons,List.lookup_append]
    rcases i with _ | i
    · have e1:p=x:=by simpa using h1
      have e2:w=u:=by simpa using h2
      subst e1
      subst e2
      have n:(ps.zip us).reverse.lookup p=none:=by
        rw [List.lookup_eq_none_iff]
        intro y hy
        have hy':=List.mem_reverse.mp hy
        have:=(List.of_mem_zip hy').1
        simp only [bne_iff_ne,ne_eq,beq_eq_false_iff_ne]
        first | (intro z; exact nd'.1 (z▸this)) | (intro z; rw [z] at nd'; exact nd'.1 this)
      rw [n]
      simp
    · rw [zip_rev_lookup nd'.2 (by simpa using h1) (by simpa using h2)]
      rfl
theorem inv_lam {CX:CXT} {P:Program} {w:World} {K:PySem.W.Frag} {mg:Str→Option Value} {base:Heap} {ps caps:List Str} {qual:Str} {scope:Scope} {f:Addr} {cd:Value} {cl:List (Str × Addr)} {A:Around} {outer:List Env} {s:Shared} {H:Hp} {E:XK} {us:List Value} {vs ws:List V} {h':Heap} {tk:Nat}
    (S:LamScope ps caps scope) (hd:A.handled=none) (e0:Env0 P w K mg base A outer s H) (hl:vs.length=ps.length) (r:Vals vs us) (hw:ws.length=caps.length)
    (apart:∀ x y c,cl.lookup x=some c→cl.lookup y=some c→x=y) (hcl:∀ (i:Nat) (x:Str),caps[i]? = some x→∃ c u v,cl.lookup x=some c∧ws[i]? = some v∧RelV v u∧s.heap.IsCell c (some u))
    (hcells:∀ x c,cl.lookup x=some c→(∃ v,s.heap.IsCell c v)∧H c=none)
    (hns:h'.Ns s.heap.objs.size (fun x=>(ps.zip us).reverse.lookup x)) (hk:∀ b o,s.heap.get? b=some o→h'.get? b=some o) :
    Inv (cxLam CX P w K mg base (ps++caps) qual scope f cd cl A outer s H E) [] (vs.map some++ws.map some) H { s with heap:=h',toks:=tk }:=by
  have noA:∀ b:Addr,b∉(cxLam CX P w K mg base (ps++caps) qual scope f cd cl A outer s H E).ex:=fun b z=>absurd (show b∈([]:List Addr) from z) (by simp)
  refine ⟨⟨e0.mod,S.kind,rfl,rfl,Nat.le_refl _,fun y z c h1 h2=>apart y z c h1 h2,fun y hy => ?_,fun y c hf _=>absurd (show false=true from hf) (by decide),fun _=>hd,Around.frames_deeper e0.frames,.inr ⟨rfl,rfl⟩,fun b z=>absurd z (noA b),e0.bs,e0.bsz,fun b _ _=>noA b,fun b z=>absurd z (noA b),e0.funs,e0.frf⟩,
    rfl,e0.bare,Un.kept hk,⟨_,hns,fun i y v h1 h2 h3 => ?_⟩,fun y c h => ?_,e0.hok.fresh (Nat.le_refl _),fun y c h=>(hcells y c h).2,fun p hp=>absurd (show p∈([]:List (Addr × Obj)) from hp) (by simp),e0.hok.kept hk,?_⟩
  · have hy:scope.names.lookup y=some .cell∨scope.names.lookup y=some .free:=hy
    rcases hy with hy | hy
    · exact absurd rfl (S.nocell _ (PySem.mem_of_lookup hy))
    · have hm:=S.free _ (PySem.mem_of_lookup hy) rfl
      obtain ⟨i,hi⟩:=List.getElem?_of_mem hm
      obtain ⟨c,_,_,e,_⟩:=hcl i y hi
      exact ⟨c,e⟩
  · by_cases hi:i < vs.length
    · rw [List.getElem?_append_left (by simpa using hi),List.getElem?_map] at h2
      have ha:vs[i]? = some v:=by
        cases e:vs[i]? with
        | none=>rw [e] at h2; cases h2
        | some a=>rw [e] at h2; cases h2; rfl
      obtain ⟨u,hu,rv⟩:=r.get ha
      have hp:ps[i]? = some y:=by
        have h1':(ps++caps)[i]? = some y:=h1
        rw [List.getElem?_append_left (by omega)] at h1'
        exact h1'
      exact ⟨u,rv,.inl ⟨S.loc y (List.mem_of_getElem? hp),zip_rev_lookup S.nd hp hu⟩⟩
    · have h1':(ps++caps)[i]? = some y:=h1
      rw [List.getElem?_append_right (by omega)] at h1'
      rw [List.getElem?_append_right (by simpa using hi),List.length_map,List.getElem?_map] at h2
      obtain ⟨c,u,v',e1,e2,e3,e4⟩:=hcl _ y h1'
      rw [hl,e2] at h2
      cases h2
      exact ⟨u,e3,.inr ⟨.inr (S.caps y (List.mem_of_getElem? h1')),c,e1,e4.keeps hk⟩⟩
  · obtain ⟨⟨v,hv⟩,_⟩:=hcells y c h
    exact ⟨v,hv.keeps hk⟩
  · show _=(ps++caps).length
    rw [List.length_append,List.length_map,List.length_map,List.length_append,hl,hw]


def codeE (c:Addr) (qual:Str):HO:=.ext fun h=>h.CodeRec (.ref c) qual

def isE (a:Addr) (o:Obj):HO:=.ext fun h=>h.get? a=some o
theorem isE_ok {P:Program} {w:World} {H:Hp} {h:Heap} {a:Addr} {o:Obj} (e:h.get? a=some o):ObjOk P w H h a (isE a o):=⟨e,⟨o,e⟩,fun _ _ e1 k=>k _ e1⟩
theorem codeE_ok {P:Program} {w:World} {H:Hp} {h:Heap} {c:Addr} {qual:Str} (e:h.CodeRec (.ref c) qual):ObjOk P w H h c (codeE c qual):=by
  refine ⟨e,?_,fun h1 h2 e1 k => ?_⟩
  · obtain ⟨_,o,vs,t,z,ho,_⟩:=e
    cases z
    exact ⟨o,ho⟩
  · obtain ⟨_,o,vs,t,z,ho,r⟩:=e1
    cases z
    exact ⟨c,o,vs,t,rfl,k _ ho,r⟩

structure CellsZ (Z:List (Addr × Obj)) (cl:List (Str × Addr)) (caps:List Str) (ws:List V):Prop where
  hw:ws.length=caps.length
  apart:∀ x y c,cl.lookup x=some c→cl.lookup y=some c→x=y
  hcl:∀ (i:Nat) (x:Str),caps[i]? = some x→∃ c u v o,cl.lookup x=some c∧ws[i]? = some v∧RelV v u∧(c,o)∈Z∧o.data=.cell (some u)
  hall:∀ x c,cl.lookup x=some c→∃ o v,(c,o)∈Z∧o.data=.cell v

theorem lam_of {Z:List (Addr × Obj)} {CX:CXT} {P:Program} {w:World} {K:PySem.W.Frag} {mg:Str→Option Value} {base:Heap} {k:Nat} {fa c':Addr} {name qual:Str} {params:Arguments} {body:Expr} {scope:Scope} {cl:List (Str × Addr)} {pm ctv:Value} {ps caps:List Str} {ws:List V} {sp:Sp}
    (S:LamScope ps caps scope) (C:CellsZ Z cl caps ws)
    (len:∀ vs H Q E,sp vs H Q E→vs.length=ps.length) (hcode:∀ vs H Q E,sp vs H Q E→H c'=some (codeE c' qual)∧H fa=some (isE fa (kla_obj name qual params body scope cl pm c' ctv)))
    (hbody:∀ (A:Around) (outer:List Env) (s:Shared) (H:Hp) (vs:List V) (Q:VK) (E:XK),Room k (A.deeper (envX qual scope s.heap.objs.size fa (.ref c') cl))→Zs Z outer s H→sp vs H Q E →
      ∃ t,PE (cxLam CX P w K mg base (ps++caps) qual scope fa (.ref c') cl A outer s H E) body t∧t (vs.map some++ws.map some) H Q) :
    FnOkZ Z P w K mg base CX (k + 1) fa (kla_fn name qual params body scope cl pm (.ref c') ctv) ps sp:=by
  refine ⟨len,fun A outer s H args us vs Q E hr e0 hz hb r hsp => ?_⟩
  have hl:=len _ _ _ _ hsp
  have lim:s.heap.NoLimit:=e0.mod.nolimit.keeps fun b o e=>(e0.bs b o e).1
  have cr:s.heap.CodeRec (.ref c') qual:=(e0.hok c' _ (hcode _ _ _ _ hsp).1).1
  have ho:s.heap.get? fa=some (kla_obj name qual params body scope cl pm c' ctv):=(e0.hok fa _ (hcode _ _ _ _ hsp).2).1
  refine kla_callFunE hr.depth ho rfl S.co S.gen rfl cr (hb _ _ _ _ ?_)
  refine wpAny_newFunctionEnv S.nocell (fun y hy => ?_) (fun h' hns hsb=>⟨lim.fresh _ hsb,?_⟩) S.kind
  · exact S.loc y.1 (List.of_mem_zip (a:=y.1) (b:=y.2) hy).1
  have hk:∀ b o,s.heap.get? b=some o→h'.get? b=some o:=fun b o e=>hsb.extBut b o (Nat.ne_of_lt (Heap.lt_size e)) (Heap.get?_push_of_some _ e)
  refine kla_codeExpr ?_
  obtain ⟨t,ht,hq⟩:=hbody A outer s H vs Q E (hr.deeper _) hz hsp
  have I:=inv_lam (CX:=CX) (E:=E) (qual:=qual) (f:=fa) (cd:=.ref c') (tk:=s.toks + (ps.zip us).length) S hr.hd e0 hl r C.hw C.apart (fun i x hx=>by
    obtain ⟨c,u,v,o,h1,h2,h3,h4,h5⟩:=C.hcl i x hx
    exact ⟨c,u,v,h1,h2,h3,o,(hz _ h4).1,h5⟩) (fun x c e=>by
    obtain ⟨o,v,h1,h2⟩:=C.hall x c e
    exact ⟨⟨v,o,(hz _ h1).1,h2⟩,(hz _ h1).2.1⟩) hns hk
  refine wpAny_mono (ht [] _ _ H _ I hq) (fun u s' hs => ?_) fun e s' hs=>hs
  obtain ⟨v,H',J,rv,q⟩:=hs
  exact ⟨v,H',J.os,J.bare,J.base,J.hok,rv,q⟩
section
variable {X:Cx} {CX:CXT} {k j:Nat} {f:Addr} {fd:FuncData} {ps:List Str} {sp:Sp} {x:Str} {p pos:Pos} {e:Expr} {es:List Expr} {t:TA} {Z:List (Addr × Obj)}

def tCallL (is:List Nat) (W:List V→Prop) (sp:List V→Sp) (t:TA):TE:=fun σ H Q=>∃ ws:List V,is.map (fun i=>σ[i]?)=ws.map (fun v=>some (some v))∧W ws∧t σ H fun vs H1=>sp ws vs H1 Q E0
theorem mem_clo {env:Env} {y:Str × Addr}:∀ {xs:List Str},y∈clo env xs→y.1∈xs∧y.2=(env.cells.lookup y.1).getD 0:=fun {xs} h=>by
  unfold clo at h
  obtain ⟨x,hx,rfl⟩:=List.mem_map.mp h
  exact ⟨hx,rfl⟩
theorem capsL_nil {env:Env} {xs:List Str}:∀ x∈([]:List Str),(env.kindOf x=some .cell∧Vis env.scope x)∧x∈xs:=fun _ h=>by cases h
theorem capsL_cons {env:Env} {xs:List Str} {x:Str} {r:List Str} (h1:env.kindOf x=some .cell) (h2:Vis env.scope x) (h3:x∈xs) (h:∀ y∈r,(env.kindOf y=some .cell∧Vis env.scope y)∧y∈xs):∀ y∈x::r,(env.kindOf y=some .cell∧Vis env.scope y)∧y∈xs:=fun y hy=>by
  rcases List.mem_cons.mp hy with rfl | hy
  · exact ⟨⟨h1,h2⟩,h3⟩
  · exact h y hy
theorem cells_of {pins:List (Addr × Obj)} {σ:St} {H:Hp} {s:Shared} {xs caps:List Str} {is:List Nat} {ws:List V} (I:Inv X pins σ H s) (hin:(xs.all fun x=>(X.env.cells.lookup x).isSome)=true) (hfn:∀ x,X.fn x=true)
    (hcap:∀ x∈caps,(X.env.kindOf x=some .cell∧Vis X.env.scope x)∧x∈xs) (his:is.map (X.N[·]?)=caps.map some) (hws:is.map (fun i=>σ[i]?)=ws.map (fun v=>some (some v))) :
    ∃ Z,CellsZ Z (clo X.env xs) caps ws∧Zs Z X.stack s H:=by
  have hlook:∀ x c,(clo X.env xs).lookup x=some c→X.env.cells.lookup x=some c:=fun x c e=>clo_sub hin e
  refine ⟨(clo X.env xs).filterMap fun q=>(s.heap.get? q.2).map fun o=>(q.2,o),⟨?_,fun x y c e1 e2=>I.ok.inj x y c (hlook x c e1) (hlook y c e2),fun i x hx => ?_,fun x c e => ?_⟩,fun q hq => ?_⟩
  · have h1:=congrArg List.length his
    have h2:=congrArg List.length hws
    simp only [List.length_map] at h1 h2
    omega
  · obtain ⟨⟨hk,hv⟩,hm⟩:=hcap x (List.mem_of_getElem? hx)
    have q1:=congrArg (·[i]?) his
    have q2:=congrArg (·[i]?) hws
    simp only [List.getElem?_map,hx,Option.map_some] at q1 q2
    cases z:is[i]? with
    | none=>rw [z] at q1; cases q1
    | some n =>
      rw [z] at q1 q2
      have q1':X.N[n]? = some x:=Option.some.inj q1
      cases z2:ws[i]? with
      | none=>rw [z2] at q2; cases q2
      | some v =>
        rw [z2] at q2
        have q2':σ[n]? = some (some v):=Option.some.inj q2
        obtain ⟨m,hn,hl⟩:=I.loc
        obtain ⟨u,rv,l⟩:=hl n x v q1' q2' hv
        rcases l with ⟨kl,_⟩ | ⟨_,c,e,o,ho,hd⟩
        · rw [hk] at kl; cases kl
        · refine ⟨c,u,v,o,clo_of hm e,rfl,rv,List.mem_filterMap.mpr ⟨(x,c),?_,by simp [ho]⟩,hd⟩
          exact PySem.mem_of_lookup (clo_of hm e)
  · obtain ⟨v,o,ho,hd⟩:=I.cell x c (hlook x c e)
    exact ⟨o,v,List.mem_filterMap.mpr ⟨(x,c),PySem.mem_of_lookup e,by simp [ho]⟩,hd⟩
  · obtain ⟨y,hy,e⟩:=List.mem_filterMap.mp hq
    obtain ⟨o,ho,e'⟩:=Option.map_eq_some_iff.mp e
    subst e'
    obtain ⟨m1,m2⟩:=mem_clo hy
    have is:=List.all_eq_true.mp hin _ m1
    obtain ⟨c,hc⟩:=Option.isSome_iff_exists.mp is
    rw [hc] at m2
    have m2':y.2=c:=m2
    rw [m2'] at ho ⊢
    refine ⟨ho,I.freeC _ _ hc,fun z => ?_⟩
    rcases List.mem_cons.mp (I.stkSub _ z) with z | z
    · exact I.cne _ _ hc z
    · obtain ⟨_,o',ho',_⟩:=I.ok.funs.mem z
      exact absurd (Nat.lt_of_lt_of_le (Heap.lt_size ho') (I.ok.cab _ _ (hfn _) hc)) (Nat.lt_irrefl _)
theorem pe_callL (xs caps:List Str) (is:List Nat) {W:List V→Prop} {sp:List V→Sp} (F:∀ Z ws,W ws→CellsZ Z (clo X.env xs) caps ws→FokZ Z X.prog X.w X.K X.mg X.base CX j x ps (sp ws)) (q:Quiet CX) (hr:Room k X.A) (hin:(xs.all fun x=>(X.env.cells.lookup x).isSome)=true)
    (hcap:∀ x∈caps,(X.env.kindOf x=some .cell∧Vis X.env.scope x)∧x∈xs) (his:is.map (X.N[·]?)=caps.map some) (ha:PA X (e::es) t) (hj:j≤k:=by decide) (hfn:∀ x,X.fn x=true:=by intro _; rfl) (hg:Gl X x:=by rfl)
    (hdb:(x == ("__debug__" : Str))=false:=by decide) (he:starEach (e::es) X.env=(false,eval e X.env)::starEach es X.env:=by rfl) (hpl:(backTo pos (starEach es X.env)).any (·.1)=false:=by rfl) :
    PE X (.Call (.Name x p) (e::es) [] pos) (tCallL is W sp t):=by
  intro pins s σ H Q I h
  obtain ⟨ws,hws,hW,h⟩:=h
  obtain ⟨Z0,cz0,zs0⟩:=cells_of I hin hfn hcap his hws
  obtain ⟨f,fd,G0,hb,hk,hm⟩:=F Z0 ws hW cz0
  refine wpAny_Call_Name_kw (ld_glob I hg hm ?_ hdb)
  refine PySem.W.callWith_K (h₀:=X.base) I.ok.mod.kin hk (thn (ha pos pins s σ H _ I h) fun us s1 ⟨vs,H1,I1,r,q1⟩=>⟨I1.kIn,?_⟩) he hpl
  obtain ⟨Z,cz,zs⟩:=cells_of I1 hin hfn hcap his hws
  obtain ⟨f',fd',G,hb2,hk2,hm2⟩:=F Z ws hW cz
  have ef:f'=f:=by rw [hm2] at hm; cases hm; rfl
  subst ef
  have q2:sp ws vs H1 Q E0:=q1
  have hl:(us++[]).length=ps.length:=by rw [List.append_nil,← r.length]; exact G.len _ _ _ _ q2
  have hb':=hb2 s1 us I1.kIn hl
  rw [List.append_nil] at hb'
  exact run_fnZ G (hr.mono hj) hb' (passQ q) I1 zs r q2
end

def TabOk (H:Hp) (P:Addr) (qual:Str):Prop:=∃ ps:Array Value,H P=some (.tbl ps)∧TriplesOk ps.toList∧∀ pos cv,codeAmong pos ps.toList=some cv→∃ c',cv=.ref c'∧H c'=some (codeE c' qual)
def Tabs (T:List (Addr × Str)) (H:Hp):Prop:=∀ q∈T,TabOk H q.1 q.2

def SameT (T:List (Addr × Str)) (H H':Hp):Prop:=∀ b o,H b=some o→b∉T.map (·.1)→H' b=some o
theorem Same.toT {T:List (Addr × Str)} {H H':Hp} (s:Same H H'):SameT T H H':=fun b o e _=>s b o e
theorem SameT.refl {T:List (Addr × Str)} (H:Hp):SameT T H H:=fun _ _ h _=>h
theorem SameT.trans {T:List (Addr × Str)} {H H1 H2:Hp} (a:SameT T H H1) (b:SameT T H1 H2):SameT T H H2:=fun c o h n=>b c o (a c o h n) n
theorem Same.tabs {T:List (Addr × Str)} {H H':Hp} (s:Same H H') (t:Tabs T H):Tabs T H':=fun q hq=>by
  obtain ⟨ps,h1,h2,h3⟩:=t q hq
  refine ⟨ps,s _ _ h1,h2,fun pos cv e => ?_⟩
  obtain ⟨c',e1,e2⟩:=h3 pos cv e
  exact ⟨c',e1,s _ _ e2⟩

theorem Tabs.apart {T:List (Addr × Str)} {H:Hp} {b:Addr} {o:HO} (t:Tabs T H) (e:H b=some o) (n:∀ ps,o≠.tbl ps):b∉T.map (·.1):=fun hm=>by
  obtain ⟨q,hq,rfl⟩:=List.mem_map.mp hm
  obtain ⟨ps,h1,_⟩:=t q hq
  rw [e] at h1
  cases h1
  exact n ps rfl
theorem SameT.keep {T:List (Addr × Str)} {H H':Hp} {b:Addr} {o:HO} (s:SameT T H H') (t:Tabs T H) (e:H b=some o) (n:∀ ps,o≠.tbl ps):H' b=some o:=s b o e (t.apart e n)
theorem codeAmong_more {pos pos':Pos} {c cv:Value} (l:List Value) (h:TriplesOk l) (e:codeAmong pos (l++[rawInt pos'.line,rawInt pos'.col,c])=some cv):codeAmong pos l=some cv∨cv=c:=by
  fun_induction TriplesOk l with
  | case1 =>
    simp only [List.nil_append,rawInt,codeAmong] at e
    split at e
    · exact .inr (Option.some.inj e).symm
    · cases e
  | case2 a t b u x rest ih =>
    simp only [List.cons_append,codeAmong] at e ⊢
    split at e
    · rename_i hc
      rw [if_pos hc]
      exact .inl e
    · rename_i hc
      rw [if_neg hc]
      exact ih h e
  | case3 l h1 h2=>exact h.elim

def BMain (mg:Str→Option Value) (h:Heap):Prop:=∃ bm ob,mg "__builtins__" = some (.ref bm)∧bm≠builtinsNs∧h.get? bm=some ob∧ob.cls=.type "module" ∧ ob.dict=some builtinsNs∧ob.data=.plain

def tLam (T:List (Addr × Str)) (qual:Str) (mk:Addr→Value→Obj):TE:=fun _ H Q=>Tabs T H∧∀ fa c' ctv H',H fa=none→H' fa=some (isE fa (mk c' ctv))→H' c'=some (codeE c' qual)→Tabs T H'→SameT T H H'→Q (.ref fa) H'
section
variable {X:Cx}
theorem pe_lam {params:Arguments} {body:Expr} {scope:Scope} {pos:Pos} {T:List (Addr × Str)} {c P:Addr} {qual:Str} (xs:List Str) (hB:BMain X.mg X.base) (hC:CodeHd X.base c P) (hcode:X.env.code=.ref c) (hT:(P,qual)∈T) (hnd:(T.map (·.1)).Nodup) (hq:X.env.qual ++ "<lambda>" = qual)
    (hclos:closureFor scope X.env=pure (clo X.env xs)) (hdef:defaultsOf params X.env=([],[]):=by rfl) :
    PE X (.Lambda params body scope pos) (tLam T qual fun c' ctv=>kla_obj "<lambda>" qual params body scope (clo X.env xs) ((X.mg "__name__").getD .none) c' ctv):=by
  intro pins s σ H Q I h
  obtain ⟨hTab,h⟩:=h
  obtain ⟨ps,hP,ht,hall⟩:=hTab (P,qual) hT
  have hPh:s.heap.get? P=some (tabObj ps):=I.hok P _ hP
  have hgs:s.heap.Ns mainGlobals X.mg:=I.ok.mod.glob.keeps I.bk
  have hgP:mainGlobals≠P:=fun q=>by
    obtain ⟨o,es,ep,e,hd,_⟩:=hgs
    rw [q,hPh] at e; cases e; cases hd
  obtain ⟨bm,ob,b1,b2,b3,b4,b5,b6⟩:=hB
  have b3':=I.bk _ _ b3
  have hbP:bm≠P:=fun q=>by
    rw [q,hPh] at b3'; cases b3'; cases b4
  have hbG:bm≠mainGlobals:=fun q=>by
    obtain ⟨o,es,ep,e,hd,_⟩:=hgs
    rw [q,e] at b3'; cases b3'; rw [hd] at b6; cases b6
  have hbt:s.heap.BuiltinsAt X.mg P:=⟨bm,ob,b1,b2,hbG,hbP,b3',b4,b5,b6⟩
  refine kla_eval hdef ?_
  rw [hq]
  cases hf:codeAmong pos ps.toList with
  | none =>
    refine kla_makeFunction hclos I.ok.glob hgs hcode (hC.keeps I.bk) hPh ht hf hgP hbt fun c' ctv h' tk hx hge hlt hrec htb => ?_
    generalize hob:kla_obj "<lambda>" qual params body scope (clo X.env xs) ((X.mg "__name__").getD .none) c' ctv=ob'
    have hPs:P < s.heap.objs.size:=Heap.lt_size hPh
    have hcP:c'≠P:=Nat.ne_of_gt (Nat.lt_of_lt_of_le hPs hge)
    have hfs:s.heap.objs.size≤h'.objs.size:=Nat.le_of_lt (Nat.lt_of_le_of_lt hge hlt)
    have hfP:h'.objs.size≠P:=Nat.ne_of_gt (Nat.lt_of_lt_of_le hPs hfs)
    have hfc:h'.objs.size≠c':=Nat.ne_of_gt hlt
    have nfa:H h'.objs.size=none:=I.hok.fresh hfs
    have nc:H c'=none:=I.hok.fresh hge
    have old:∀ b o,b≠P→s.heap.get? b=some o→(h'.push ob').get? b=some o:=fun b o hb e=>Heap.get?_push_of_some _ (hx b o hb e)
    let H':Hp:=upd (upd (upd H P (.tbl (ps ++ #[rawInt pos.line,rawInt pos.col,.ref c']))) c' (codeE c' qual)) h'.objs.size (isE h'.objs.size ob')
    have e1:H' h'.objs.size=some (isE h'.objs.size ob'):=upd_same
    have e2:H' c'=some (codeE c' qual):=by show upd _ _ _ _=_; rw [upd_ne (Ne.symm hfc),upd_same]
    have e3:H' P=some (.tbl (ps ++ #[rawInt pos.line,rawInt pos.col,.ref c'])):=by show upd _ _ _ _=_; rw [upd_ne (Ne.symm hfP),upd_ne (Ne.symm hcP),upd_same]
    have e4:∀ b,b≠P→b≠c'→b≠h'.objs.size→H' b=H b:=fun b n1 n2 n3=>by show upd _ _ _ _=_; rw [upd_ne n3,upd_ne n2,upd_ne n1]
    have e5:∀ b o,H b=some o→b≠P→H' b=some o:=fun b o e n=>by rw [e4 b n (ne_of_none e nc) (ne_of_none e nfa)]; exact e
    have hrec':(h'.push ob').CodeRec (.ref c') qual:=by
      obtain ⟨c₂,o₂,vs₂,t₂,z,g₂,r₂⟩:=hrec
      exact ⟨c₂,o₂,vs₂,t₂,z,Heap.get?_push_of_some _ g₂,r₂⟩
    have obf:ob'.isFreed=false:=by rw [← hob]; rfl
    have J:Inv X pins σ H' { s with heap:=h'.push ob',toks:=tk }:=by
      refine I.un ⟨fun b u q n _ _=>old b u (fun z=>by rw [z,hP] at n; cases n) q,fun b u q n _ _=>⟨u.slots,old b u (fun z=>by rw [z,hP] at n; cases n) q⟩,fun b u q n _ => ?_,fun b u q _ => ?_,fun b xs q=>e5 b _ q (fun z=>by rw [z,hP] at q; cases q),fun b u xs q=>e5 b _ q (fun z=>by rw [z,hP] at q; cases q),fun b qs q => ?_⟩ fun b u q => ?_
      · have hb:=Heap.lt_size q
        rw [e4 b (fun z=>by rw [z,hP] at n; cases n) (Nat.ne_of_lt (Nat.lt_of_lt_of_le hb hge)) (Nat.ne_of_lt (Nat.lt_of_lt_of_le hb hfs))]
        exact n
      · by_cases hb:b=P
        · rw [hb]; exact ⟨_,Heap.get?_push_of_some _ htb⟩
        · exact ⟨u,old b u hb q⟩
      · by_cases hb:b=P
        · rw [hb,hP] at q; cases q
          exact ⟨_,by rw [hb]; exact e3⟩
        · exact ⟨#[],by rw [e5 b _ q hb]; simp⟩
      · by_cases h1:b=h'.objs.size
        · subst h1
          rw [e1] at q; cases q
          exact isE_ok (Heap.get?_push_size _ obf)
        · by_cases h2:b=c'
          · subst h2
            rw [e2] at q; cases q
            exact codeE_ok hrec'
          · by_cases h3:b=P
            · subst h3
              rw [e3] at q; cases q
              exact Heap.get?_push_of_some _ htb
            · rw [e4 b h3 h2 h1] at q
              refine (I.hok b u q).stay (fun d v hd r=>old d v ?_ r) (fun d r=>e5 d _ r fun z=>by rw [z,hP] at r; cases r) fun d xs r=>e5 d _ r fun z=>by rw [z,hP] at r; cases r
              rcases hd with rfl | hd
              · exact h3
              · intro z; rw [z,hP] at hd; cases hd
    refine ⟨.ref h'.objs.size,H',J,rfl,h _ c' ctv H' nfa (by dsimp only; rw [hob]; exact e1) e2 (fun q hq => ?_) fun b o e n=>e5 b o e fun z=>n (by rw [z]; exact List.mem_map.mpr ⟨_,hT,rfl⟩)⟩
    by_cases hqP:q.1=P
    · have hq2:q=(P,qual):=by
        have:∀ (l:List (Addr × Str)),(l.map (·.1)).Nodup→q∈l→(P,qual)∈l→q.1=P→q=(P,qual):=by
          intro l
          induction l with
          | nil=>intro _ h; cases h
          | cons y r ih =>
            intro nd h1 h2 h3
            rw [List.map_cons,List.nodup_cons] at nd
            rcases List.mem_cons.mp h1 with z1 | z1
            · rcases List.mem_cons.mp h2 with z2 | z2
              · exact z1.trans z2.symm
              · exact absurd (List.mem_map.mpr ⟨_,z2,by rw [← z1]; exact h3.symm⟩) nd.1
            · rcases List.mem_cons.mp h2 with z2 | z2
              · exact absurd (List.mem_map.mpr ⟨_,z1,by rw [← z2]; exact h3⟩) nd.1
              · exact ih nd.2 z1 z2 h3
        exact this T hnd hq hT hqP
      subst hq2
      refine ⟨_,e3,?_,fun pos' cv e => ?_⟩
      · rw [Array.toList_append]; exact TriplesOk_snoc _ _ _ _ ht
      · rw [Array.toList_append] at e
        rcases codeAmong_more _ ht e with e | e
        · obtain ⟨d,z1,z2⟩:=hall _ _ e
          exact ⟨d,z1,e5 d _ z2 fun z=>by rw [z,hP] at z2; cases z2⟩
        · exact ⟨c',e,e2⟩
    · obtain ⟨qs,g1,g2,g3⟩:=hTab q hq
      refine ⟨qs,e5 _ _ g1 hqP,g2,fun pos' cv e => ?_⟩
      obtain ⟨d,z1,z2⟩:=g3 _ _ e
      exact ⟨d,z1,e5 d _ z2 fun z=>by rw [z,hP] at z2; cases z2⟩
  | some cv =>
    obtain ⟨c',rfl,hc'⟩:=hall _ _ hf
    refine kla_makeFunctionHit hclos I.ok.glob hgs hcode (hC.keeps I.bk) hPh ht hf hbt fun ctv h' tk hk hsz => ?_
    show EP X pins σ Q (.ref h'.objs.size) { s with heap:=h'.push (kla_obj "<lambda>" qual params body scope (clo X.env xs) ((X.mg "__name__").getD .none) c' ctv),toks:=tk }
    generalize hob:kla_obj "<lambda>" qual params body scope (clo X.env xs) ((X.mg "__name__").getD .none) c' ctv=ob'
    have obf:ob'.isFreed=false:=by rw [← hob]; rfl
    have nfa:H h'.objs.size=none:=I.hok.fresh hsz
    have sm:Same H (upd H h'.objs.size (isE h'.objs.size ob')):=fun b o e=>by rw [upd_ne (ne_of_none e nfa)]; exact e
    refine ⟨.ref h'.objs.size,_,I.laid (a:=h'.objs.size) (o:=isE h'.objs.size ob') (h':=h'.push ob') (t':=tk) (fun b u e=>Heap.get?_push_of_some _ (hk b u e)) hsz (isE_ok (Heap.get?_push_size _ obf)),rfl,h _ c' ctv _ nfa (by dsimp only; rw [hob]; exact upd_same) (sm _ _ hc') (sm.tabs hTab) sm.toT⟩
end


theorem law_callT {P:Program} {w:World} {K:PySem.W.Frag} {mg mb:Str→Option Value} {CX:CXT} {k:Nat} {fa a:Addr} {fd:FuncData} {x:Str} {sp:Sp} {s₁:Shared} {vs:List Value} {ns:List Int} {Ps:List Addr}
    (KX:K.In s₁.heap) (hns:s₁.heap.Ns mainGlobals mg) (hb:s₁.heap.Ns builtinsNs mb) (hbb:∀ x:Str,x ≠ "__name__" → mb x=bootBuiltins x) (hlim:s₁.heap.NoLimit) (hg:s₁.gens = #[])
    (ha:s₁.heap.get? a=some { cls:=.type "list",data:=.seq vs.toArray }) (hi:IntsAre vs ns) (hl:ns.length≤sizeLine) (hr:Room k callerA)
    (hbm:BMain mg s₁.heap) (hPs:∀ P∈Ps,s₁.heap.get? P=some (tabObj #[])∧K.lookup P=none∧∃ c,CodeHd s₁.heap c P)
    (F:∀ base:Heap,K.In base→base.Ns mainGlobals mg→BMain mg base→FnOk P w K mg base CX k fa fd [x] sp) (hbind:∀ (s:Shared) (u:Value),BindsTo s fd ⟨[u],[]⟩ [(x,u)])
    (hsp:∀ H:Hp,(∀ P∈Ps,H P=some (.tbl #[]))→SqL K H a (ns.map V.int)→sp [.ref a] H (fun v _=>v=.bl true) fun _ _ _=>False)
    (hCX:∀ H e s',CX [] H s₁ (fun _ _ _=>False) e s'→False) :
    codeAny (model P w) callerA (.call (.ref fa) ⟨[.ref a],[]⟩) (fun r s'=>r=.ok (.ret (.bool true))∧OldK s₁.heap s'.heap∧s'.os=s₁.os∧AllBare s'.gens) s₁:=by
  have rv:=vals_ints hi
  have lenV:=hi.length
  have naP:a∉Ps:=fun z=>by
    have:=(hPs a z).1
    rw [ha] at this; cases this
  have core:∀ H:Hp,(∀ b,H b=none∨(b∈Ps∧H b=some (.tbl #[]))∨∃ o xs,H b=some (.frz o (.lst xs)))→(∀ P∈Ps,H P=some (.tbl #[]))→SqL K H a (ns.map V.int)→HOk P w H s₁.heap→(∀ b,H b≠none→b∈Ps∨b=a)→(H a≠none→K.lookup a=none) →
      codeAny (model P w) callerA (.call (.ref fa) ⟨[.ref a],[]⟩) (fun r s'=>r=.ok (.ret (.bool true))∧OldK s₁.heap s'.heap∧s'.os=s₁.os∧AllBare s'.gens) s₁:=by
    intro H hO hT hS hok hA hK
    have base_of:∀ {b:Addr} {o:Obj},s₁.heap.get? b=some o→H b=none→(hidT s₁.heap H).get? b=some o:=fun e n=>hidT_get e n
    have noA:∀ {b:Addr} {o:Obj},s₁.heap.get? b=some o→(∀ qs,o.data≠.fields qs)→(∀ qs n,o.data≠.seq qs n)→H b=none:=fun {b o} e d1 d2=>by
      cases q:H b with
      | none=>rfl
      | some u =>
        rcases hA b (by rw [q]; simp) with e' | e'
        · rw [(hPs b e').1] at e; cases e
          exact absurd rfl (d1 #[])
        · subst e'
          rw [ha] at e; cases e
          exact absurd rfl (d2 _ _)
    have nsK:∀ {b:Addr} {m:Str→Option Value},s₁.heap.Ns b m→(hidT s₁.heap H).Ns b m:=fun {b m} ⟨o,es,ep,e,d,r⟩=>⟨o,es,ep,base_of e (noA e (fun qs z=>by rw [d] at z; cases z) (fun qs n z=>by rw [d] at z; cases z)),d,r⟩
    have hKb:K.In (hidT s₁.heap H):=fun b o e=>base_of (KX b o e) (by
      cases q:H b with
      | none=>rfl
      | some u =>
        rcases hA b (by rw [q]; simp) with e' | e'
        · rw [(hPs b e').2.1] at e; cases e
        · subst e'
          rw [hK (by rw [q]; simp)] at e; cases e)
    have hM:Mod K mg (hidT s₁.heap H):=⟨hKb,nsK hns,⟨mb,nsK hb,hbb⟩,let ⟨mc,h1,h2⟩:=hlim; ⟨mc,nsK h1,h2⟩⟩
    have hBM:BMain mg (hidT s₁.heap H):=by
      obtain ⟨bm,ob,b1,b2,b3,b4,b5,b6⟩:=hbm
      exact ⟨bm,ob,b1,b2,base_of b3 (noA b3 (fun qs z=>by rw [b6] at z; cases z) (fun qs n z=>by rw [b6] at z; cases z)),b4,b5,b6⟩
    have e0:Env0 P w K mg (hidT s₁.heap H) callerA [] s₁ H:=⟨rfl,hM,fun b o e=>of_hidT e,Nat.le_of_eq (hidT_size _ _),trivial,fun b hb=>absurd (show b∈([]:List Addr) from hb) (by simp),hok,.of_eq hg⟩
    refine codeAny_mono ((F _ hKb (nsK hns) hBM).run callerA [] s₁ H ⟨[.ref a],[]⟩ [.ref a] [.ref a] _ _ hr e0 (hbind s₁ (.ref a)) (.cons rfl .nil) (hsp H hT hS)) fun r s' h => ?_
    cases r with
    | error e=>exact (hCX H e s' h).elim
    | ok fl =>
      cases fl with
      | next=>exact False.elim h
      | brk=>exact False.elim h
      | cont=>exact False.elim h
      | ret u =>
        obtain ⟨v,H',os,bare,un,hok',r',q⟩:=h
        have q':v=.bl true:=q
        subst q'
        obtain rfl:u=Value.bool true:=r'
        have nofs:∀ b:Addr,b∉frs []:=fun b z=>absurd (show b∈([]:List Addr) from z) (by simp)
        refine ⟨rfl,⟨fun b o e => ?_,fun b o e=>un.there b o e (by simp)⟩,os,bare⟩
        rcases hO b with q | ⟨hbP,q⟩ | ⟨ob,xs,z⟩
        · exact .inl (un.keep b o e q (nofs b) (by simp))
        · obtain ⟨h1,h2,c,h3⟩:=hPs b hbP
          rw [h1] at e; cases e
          obtain ⟨more,hm⟩:=un.tbls b _ q
          exact .inr (.inl ⟨(h3.tab h1).isCodeTable,rfl,#[],more,rfl,hok' b _ hm⟩)
        · have z2:=un.frzs b ob _ z
          obtain ⟨e1,_⟩:=hok b _ z
          obtain ⟨e2,_⟩:=hok' b _ z2
          rw [e] at e1; cases e1
          exact .inl e2
  cases hk:K.lookup a with
  | some o =>
    have e:=KX a o hk
    rw [ha] at e
    cases e
    refine core (fun b=>if b∈Ps then some (.tbl #[]) else none) (fun b => ?_) (fun P hP=>if_pos hP) (.inr ⟨_,vs.toArray,_,hk,rfl,rfl,rfl,by rw [List.size_toArray,lenV]; exact hl,by simpa using rv⟩) (fun b u z => ?_) (fun b z => ?_) fun z=>absurd (if_neg naP) z
    · by_cases hb:b∈Ps
      · exact .inr (.inl ⟨hb,if_pos hb⟩)
      · exact .inl (if_neg hb)
    · by_cases hb:b∈Ps
      · have z':=(if_pos hb).symm.trans z
        cases z'
        exact (hPs b hb).1
      · have z':=(if_neg hb).symm.trans z
        cases z'
    · by_cases hb:b∈Ps
      · exact .inl hb
      · exact absurd (if_neg hb) z
  | none =>
    refine core (fun b=>if b∈Ps then some (.tbl #[]) else if b=a then some (.frz { cls:=.type "list",data:=.seq vs.toArray } (.lst (ns.map V.int))) else none) (fun b => ?_) (fun P hP=>if_pos hP) (.inl (.inr ⟨{ cls:=.type "list",data:=.seq vs.toArray },(if_neg naP).trans (if_pos rfl)⟩)) (fun b u z => ?_) (fun b z => ?_) fun _=>hk
    · by_cases hb:b∈Ps
      · exact .inr (.inl ⟨hb,if_pos hb⟩)
      · by_cases hb2:b=a
        · exact .inr (.inr ⟨_,_,(if_neg hb).trans (if_pos hb2)⟩)
        · exact .inl ((if_neg hb).trans (if_neg hb2))
    · by_cases hb:b∈Ps
      · have z':=(if_pos hb).symm.trans z
        cases z'
        exact (hPs b hb).1
      · have z:=(if_neg hb).symm.trans z
        by_cases hb2:b=a
        · have z':=(if_pos hb2).symm.trans z
          cases z'
          subst hb2
          exact ⟨ha,by rw [List.length_map]; exact hl,vs,_,rv,ha⟩
        · have z':=(if_neg hb2).symm.trans z
          cases z'
    · by_cases hb:b∈Ps
      · exact .inl hb
      · by_cases hb2:b=a
        · exact .inr hb2
        · exact absurd ((if_neg hb).trans (if_neg hb2)) z

def tabOf (K:PySem.W.Frag) (cd:Value):Option Addr:=match cd with
  | .ref c=>(match K.lookup c with
    | some ⟨_,_,.fields vs,_⟩=>(match (vs[11]? : Option Value) with
      | some (.ref P)=>if codeHdIn K c P=true then some P else none
      | _=>none)
    | _=>none)
  | _=>none
theorem tabOf_hd {K:PySem.W.Frag} {cd:Value} {P:Addr} {h:Heap} (X:K.In h) (e:tabOf K cd=some P):∃ c,cd=.ref c∧CodeHd h c P:=by
  unfold tabOf at e
  split at e
  · rename_i c
    split at e
    · split at e
      · split at e
        · rename_i hc
          cases e
          exact ⟨c,rfl,codeHd_of_K X hc⟩
        · cases e
      · cases e
    · cases e
  · cases e
theorem tabOf_mk {K:PySem.W.Frag} {cd:Value} {c P:Addr} {cl:Value} {od:Option Addr} {vs:Array Value} {sl:Array (Option Value)} (ec:cd=.ref c) (l:K.lookup c=some ⟨cl,od,.fields vs,sl⟩) (e:vs[11]? = some (.ref P)) (h:codeHdIn K c P=true):tabOf K cd=some P:=by
  subst ec
  unfold tabOf
  simp only [l,e,h,if_true]
theorem walk_ofT {l:PySem.W.OpenLaw} {n k:Nat} {q:Program} {loose:List Str} {XP:(Str→Option Value)→Heap→Prop} {YP:World→Heap→Prop} {d:DefRec} {K:Params→PySem.W.Frag} {CX:World→CXT} {x:Str} {ts:List Addr}
    (hn:l.most=some n) (hn2:n≤sizeLine) (hdf:d.params.defaults=[]) (hr:Room k callerA)
    (hY:∀ (w:World) (h:Heap),YP w h→(K w.params).In h) (hT:∀ (w:World) (h:Heap),YP w h→∀ P∈ts,h.get? P=some (tabObj #[]))
    (F:∀ (w:World) (mg:Str→Option Value) (fa:Addr) (h:Heap),(K w.params).In h→h.Ns mainGlobals mg→mg d.name=some (.ref fa) →
      ∃ (fd:FuncData) (Ps:List Addr) (sp:Sp),(∀ (s:Shared) (u:Value),BindsTo s fd ⟨[u],[]⟩ [(x,u)])∧(∀ P∈Ps,P∈ts∧(K w.params).lookup P=none∧∃ c,CodeHd h c P) ∧
        (∀ base:Heap,(K w.params).In base→base.Ns mainGlobals mg→BMain mg base→FnOk l.prog w (K w.params) mg base (CX w) k fa fd [x] sp) ∧
        ∀ (H:Hp) (a:Addr) (ns:List Int),ns.length≤n→(∀ P∈Ps,H P=some (.tbl #[]))→SqL (K w.params) H a (ns.map V.int)→sp [.ref a] H (fun v _=>v=.bl true) fun _ _ _=>False)
    (hCX:∀ (w:World) (H:Hp) (s:Shared) (e:Value) (s':Shared),CX w [] H s (fun _ _ _=>False) e s'→False) :
    PySem.W.WalkO q loose XP YP l.row.toRowW d [] (fun f vs=>PySem.call f vs):=by
  refine Att.attach_call hn hdf fun w s₀ s₁ mg mb fa o pm cd doc a vs ns G Y ho hd hcd hmg hobj hints hlen hg => ?_
  have KX:=hY w _ Y
  obtain ⟨fd,Ps,sp,hb,hP,hF,hsp⟩:=F w mg fa _ KX G.T.g hmg
  exact law_callT (Ps:=Ps) KX G.T.g G.T.b G.T.builtins G.T.nolimit hg hobj hints (Nat.le_trans hlen hn2) hr G.T.bmain (fun P h=>⟨hT w _ Y P (hP P h).1,(hP P h).2.1,(hP P h).2.2⟩) hF hb (fun H hO hS=>hsp H a ns hlen hO hS) fun H e s'=>hCX w H s₁ e s'

theorem FnOkZ.ex {ι:Type} {Z:List (Addr × Obj)} {P:Program} {w:World} {K:PySem.W.Frag} {mg:Str→Option Value} {base:Heap} {CX:CXT} {k:Nat} {f:Addr} {fd:FuncData} {ps:List Str} {sp:ι→Sp} (F:∀ i,FnOkZ Z P w K mg base CX k f fd ps (sp i)) :
    FnOkZ Z P w K mg base CX k f fd ps fun vs H Q E=>∃ i,sp i vs H Q E :=
  ⟨fun vs H Q E ⟨i,h⟩=>(F i).len vs H Q E h,fun A outer s H args us vs Q E hr e0 hz hb hv ⟨i,h⟩=>(F i).run A outer s H args us vs Q E hr e0 hz hb hv h⟩
section
variable {P:Program} {w:World} {K:PySem.W.Frag} {mg:Str→Option Value} {base:Heap} {Z:List (Addr × Obj)}
structure FunT (K:PySem.W.Frag) (x qual:Str) (st:Stmt) (f:Addr) (fd:FuncData) (dV:Value) (P:Addr):Prop where
  ex:∃ (oc:Value) (od:Option Addr) (kV doc pm:Value) (an:Option Addr) (cdv ct:Value) (osl:Array (Option Value)),
    fd=PySem.W.fnOf x qual (defArgs st) (defBody st) (defScope st) dV kV doc pm an cdv ct∧K.lookup f=some ⟨oc,od,.func fd,osl⟩∧PySem.W.codeIn K cdv qual=true∧tabOf K cdv=some P
theorem funT_mk {x qual:Str} {st:Stmt} {f Pt:Addr} {oc:Value} {od an:Option Addr} {osl:Array (Option Value)} {dV kV doc pm cdv ct:Value} (l:K.lookup f=some ⟨oc,od,.func (PySem.W.fnOf x qual (defArgs st) (defBody st) (defScope st) dV kV doc pm an cdv ct),osl⟩)
    (c:PySem.W.codeIn K cdv qual=true) (t:tabOf K cdv=some Pt):FunT K x qual st f (PySem.W.fnOf x qual (defArgs st) (defBody st) (defScope st) dV kV doc pm an cdv ct) dV Pt:=⟨⟨oc,od,kV,doc,pm,an,cdv,ct,osl,rfl,l,c,t⟩⟩
theorem FunT.ok {x qual:Str} {st:Stmt} {f Pt:Addr} {fd:FuncData} {dV:Value} {N ps:List Str} {k:Nat} {sp:Sp} {CX:CXT} (F:FunT K x qual st f fd dV Pt) (KX:K.In base) (S:FnScope N ps (defScope st)) (len:∀ vs H Q E,sp vs H Q E→vs.length=ps.length)
    (hbody:∀ (c:Addr) (A:Around) (outer:List Env) (s:Shared) (H:Hp) (vs:List V) (Q:VK) (E:XK),CodeHd base c Pt→Room k (A.deeper (envOfC qual (defScope st) s.heap.objs.size f (.ref c)))→sp vs H Q E →
      ∃ t,PSs (cxOf CX P w K mg base N qual (defScope st) f (.ref c) A outer s H E).nox (defBody st) t∧t { nx:=fun _ H'=>Q .non H',rt:=Q } (start N vs) H):FnOk P w K mg base CX (k + 1) f fd ps sp:=by
  obtain ⟨oc,od,kV,doc,pm,an,cdv,ct,osl,rfl,lk,hcd,ht⟩:=F.ex
  obtain ⟨c,rfl,hc⟩:=tabOf_hd KX ht
  refine fn_of lk hcd S len fun A outer s H vs Q E hr hsp => ?_
  obtain ⟨t,h,q⟩:=hbody c A outer s H vs Q E hc hr hsp
  exact ⟨t,h.nox,q⟩
end
theorem SameT.tups {T:List (Addr × Str)} {H H':Hp} (s:SameT T H H') (t:Tabs T H):Tups H H':=fun b xs e=>s.keep t e (by intro ps z; cases z)
theorem Tabs.start {T:List (Addr × Str)} {H:Hp} (h:∀ P∈T.map (·.1),H P=some (.tbl #[])):Tabs T H:=fun q hq =>
  ⟨#[],h _ (List.mem_map.mpr ⟨_,hq,rfl⟩),trivial,fun pos cv e=>by cases e⟩

end L2

namespace L2
open PySem PySem.Spec PySem.Calls PyProof.Rows PySem.W
section
variable {X:Cx} {K:PySem.W.Frag}

end
end L2

namespace L2
open PySem PySem.Spec PySem.Calls PyProof.Rows PySem.W

section
variable {prog:Program} {w:World} {A:Around} {E:Value→Shared→Prop} {s:Shared}
end
section
variable {X:Cx}
end
end L2

namespace Tim
open PySem PyProof.Rows

section
variable {prog:Program} {w:World} {A:Around} {E:Value→Shared→Prop} {s:Shared} {a₀:Array Keyed} {κ:SortKind} {key:Keyed→Int}

end
end Tim

namespace Tim
open PySem PyProof.Rows
section
variable {prog:Program} {w:World} {A:Around} {E:Value→Shared→Prop} {s:Shared} {a₀:Array Keyed} {κ:SortKind} {key:Keyed→Int}
end
end Tim

namespace Tim
open PySem PyProof.Rows
section
variable {prog:Program} {w:World} {A:Around} {E:Value→Shared→Prop} {s:Shared} {a₀:Array Keyed} {κ:SortKind} {key:Keyed→Int}
end
end Tim

namespace Tim
open PySem PyProof.Rows
section
variable {prog:Program} {w:World} {A:Around} {E:Value→Shared→Prop} {s:Shared} {a₀:Array Keyed} {κ:SortKind} {key:Keyed→Int}

end
end Tim

namespace Tim
open PySem PyProof.Rows
section
variable {prog:Program} {w:World} {A:Around} {E:Value→Shared→Prop} {s:Shared} {a₀:Array Keyed} {κ:SortKind} {key:Keyed→Int}

end
end Tim

namespace Tim
open PySem PyProof.Rows
section
variable {prog:Program} {w:World} {A:Around} {E:Value→Shared→Prop} {s:Shared} {a₀:Array Keyed} {κ:SortKind} {key:Keyed→Int}
end
end Tim

namespace Tim
open PySem PyProof.Rows
section
variable {prog:Program} {w:World} {A:Around} {E:Value→Shared→Prop} {s:Shared} {a₀:Array Keyed} {κ:SortKind} {key:Keyed→Int}
end
end Tim

namespace Tim
open PySem PyProof.Rows
section
variable {prog:Program} {w:World} {A:Around} {E:Value→Shared→Prop} {s:Shared} {a₀:Array Keyed} {κ:SortKind} {key:Keyed→Int}
end
end Tim

namespace L2
open PySem PySem.Spec PySem.Calls PyProof.Rows PySem.W

section
variable {prog:Program} {w:World} {A:Around} {E:Value→Shared→Prop} {s:Shared} {α:Type} {lt:α→α→Bool} {kf:Value→α}
end

section
variable {prog:Program} {w:World} {s:Shared}
end
section
variable {X:Cx}
end
end L2

namespace L2
open PySem PySem.Spec PySem.Calls PyProof.Rows PySem.W


section
variable {prog:Program} {w:World} {A:Around} {s:Shared}
end
section
variable {X:Cx}
end
end L2

namespace L2
open PySem PySem.Spec PySem.Calls PyProof.Rows PySem.W

section
variable {X:Cx} {e lo st:Expr} {te:TE} {tl ts:TO} {p2 pos:Pos}
end
end L2

namespace L2
open PySem PySem.Spec PySem.Calls PyProof.Rows PySem.W

section
variable {prog:Program} {w:World} {A:Around} {E:Value→Shared→Prop} {s:Shared} {a:Addr} {o:Obj} {xs:Array Value} {k:Nat}
end
section
variable {prog:Program} {w:World} {A:Around} {E:Value→Shared→Prop} {s:Shared}
end

section
variable {X:Cx}
end

section
variable {X:Cx}
end
end L2

namespace L2
open PySem PySem.Spec PySem.Calls PyProof.Rows PySem.W

section
variable {P:Program} {w:World} {K:PySem.W.Frag} {mg:Str→Option Value} {base:Heap} {N:List Str} {qual:Str} {scope:Scope} {f:Addr} {cd:Value} {cl:List (Str × Addr)} {A:Around} {outer:List Env} {s0:Shared} {H0:Hp} {E:XK}
theorem leave_onL {pins:List (Addr × Obj)} {σ:St} {H:Hp} {s s':Shared} {e:Value} (I:Inv (cxLam (CXe P w) P w K mg base N qual scope f cd cl A outer s0 H0 E) pins σ H s)
    (c:CXe P w (cxLam (CXe P w) P w K mg base N qual scope f cd cl A outer s0 H0 E).stack H s E e s'):(cxLam (CXe P w) P w K mg base N qual scope f cd cl A outer s0 H0 E).xe e s':=by
  obtain ⟨ea,cls,H',rfl,c1,c2,c3,c4,⟨⟨oe,vs,a0,T,oT,ts,f1,f2,f3,f4,f5,f6,f7,f8,f9⟩,fn,fu⟩,q⟩:=c
  have J:=I.call' (s':=s') (ch:=[]) c1 c3 c4 c2 (fun b z=>by cases z)
  have fr:s'.heap.FunFrames _ (cxLam (CXe P w) P w K mg base N qual scope f cd cl A outer s0 H0 E).stack:=J.stack
  have hh:∀ b∈[ea,T],s.heap.get? b=none∧H' b=none:=fun b hb=>by
    rcases List.mem_cons.mp hb with rfl | hb
    · exact ⟨fn,fu⟩
    · rcases List.mem_cons.mp hb with rfl | hb
      · exact f5
      · cases hb
  refine wpAny_leaves_onW (base:=less s'.heap ([ea,T]++frs (cxLam (CXe P w) P w K mg base N qual scope f cd cl A outer s0 H0 E).stack)) (L:=s0.heap.objs.size) (cls:=cls) (a0:=a0) I.ok.frames rfl
    ⟨less_stays _ _,PySem.W.hideAll_none _ (by simp),rebase fr fun a ha=>PySem.W.hideAll_none _ (List.mem_append_right _ ha),oe,vs,T,oT,ts,f1,f2,f3,f4,PySem.W.hideAll_none _ (by simp),f6,f7,f8,f9⟩ fun h'' x1 x4 => ?_
  obtain ⟨y1,y2,y3,oe',vs',T',oT',ts',z1,z2,z3,z4,z5,z6,z7,z8,z9⟩:=x1
  obtain ⟨u,ok⟩:=un_upto c3 c4 fr J.stkFree hh y1 x4
  have J':=I.call' (s':={ s' with heap:=h'' }) (ch:=[]) c1 u ok c2 (fun b z=>by cases z)
  obtain ⟨n1,n2⟩:=entry_new c3 c4 fr hh x4 z7 z8 z5
  exact ⟨ea,cls,H',rfl,J'.os,J'.bare,J'.base,ok,⟨⟨oe',vs',_,T',oT',ts',z1,z2,z3,z4,⟨back I.base n1,n2⟩,z6,z7,z8,z9⟩,back I.base fn,fu⟩,q⟩
theorem passL:Passes (CXe P w) (cxLam (CXe P w) P w K mg base N qual scope f cd cl A outer s0 H0 E) E:=fun _ _ _ _ _ _ I c=>leave_onL I c
end

def tCallVS (i:Nat) (fa:Addr) (o:Obj) (sp:Sp) (R:Value→St→Hp→Prop):TE:=fun σ H Q=>σ[i]? = some (some (.ref fa))∧H fa=some (isE fa o)∧sp [] H Q (fun cls _ H'=>R cls σ H')
section
variable {X:Cx}
theorem pe_callVS {W:Value→Shared→Prop} {pn:List (Addr × Obj)} {R:Value→St→Hp→Prop} {Z:List (Addr × Obj)} {j k i:Nat} {x:Str} {fa:Addr} {o:Obj} {fd:FuncData} {sp:Sp} {p pos:Pos}
    (G:FnOkZ Z X.prog X.w X.K X.mg X.base (CXe X.prog X.w) j fa fd [] sp) (hd:o.data=.func fd) (hb:bindArgs fd ⟨[],[]⟩=pure []) (hz:Zs Z X.outer X.s₀ X.H₀) (hr:Room k X.A) (pt:PassT X W pn R) (hj:j≤k:=by decide) (hex:X.ex=[]:=by rfl)
    (hN:X.N[i]? = some x:=by rfl) (hv:Vis X.env.scope x:=by first | exact Or.inl rfl | exact Or.inr (Or.inl rfl) | exact Or.inr (Or.inr rfl))
    (hdb:(x == ("__debug__" : Str))=false:=by decide) (hcd:(x == ("__classdict__" : Str))=false:=by decide) :
    PE (Xb X W pn) (.Call (.Name x p) [] [] pos) (tCallVS i fa o sp R):=by
  intro pins s σ H Q I h
  obtain ⟨hi,hfa,h⟩:=h
  refine wpAny_Call_Name_kw ?_
  have pv:=pe_var (X:=Xb X W pn) (pos:=p) hN hv hdb hcd pins s σ H (fun v H'=>v=.ref fa∧H'=H) I ⟨_,hi,rfl,rfl⟩
  refine thn pv fun u s1 ⟨v,H1,I1,r1,e1,e2⟩ => ?_
  subst e1
  subst e2
  cases r1
  refine callWith_function (o:=o) (fd:=fd) (PyProof.Rows.evalArgs_none ⟨⟨(I1.hok fa _ hfa).1,hd⟩,?_⟩)
  have zs:Zs Z X.stack s1 _:=I1.zs hz hex
  refine wpAny_call (codeAny_mono (G.run X.A X.stack s1 _ ⟨[],[]⟩ [] [] Q _ (hr.mono hj) I1.env0 zs (.of_eq hb) .nil h) fun r s' hq => ?_)
  cases r with
  | error e=>exact pt pins σ _ s1 e s' I1 hq
  | ok fl =>
    cases fl with
    | ret u=>exact I1.after hq
    | next=>exact False.elim hq
    | brk=>exact False.elim hq
    | cont=>exact False.elim hq
end

def sp_deed (fa c':Addr) (o:Obj) (qual:Str) (R:Hp→Prop) (cls:Value):Sp:=fun vs H _ E=>vs=[]∧H c'=some (codeE c' qual)∧H fa=some (isE fa o)∧R H∧∀ H',Same H H'→E cls none H'

def sp_ref (fa c':Addr) (o:Obj) (qual:Str) (R:Hp→Prop) (zs:List V):Sp:=fun vs H Q _=>vs=.ref fa::zs∧H c'=some (codeE c' qual)∧H fa=some (isE fa o)∧R H∧∀ H',Same H H'→Q (.bl true) H'

structure RefOk (P:Program) (w:World) (K:PySem.W.Frag) (mg:Str→Option Value) (base:Heap) (kd kr:Nat) (x:Str) (ps:List Str) (Kd:Value→List V→Prop):Prop where
  ex:∃ f fd,Binds K fd ps []∧PySem.W.keepIn K (.ref f)=true∧mg x=some (.ref f)∧∀ (Z:List (Addr × Obj)) (fa c':Addr) (o:Obj) (qual:Str) (R:Hp→Prop) (cls:Value) (zs:List V) (fdl:FuncData),
    o.data=.func fdl→bindArgs fdl ⟨[],[]⟩=pure []→FnOkZ Z P w K mg base (CXe P w) kd fa fdl [] (sp_deed fa c' o qual R cls)→Kd cls zs→FnOkZ Z P w K mg base (CXe P w) kr f fd ps (sp_ref fa c' o qual R zs)

def tDeed (T:List (Addr × Str)) (is:List Nat) (Kd:Value→List V→Prop) (tb:XK→TE) (te:TA):TE:=fun σ H Q=>∃ (ws:List V) (cls:Value),is.map (fun i=>σ[i]?)=ws.map (fun v=>some (some v))∧Tabs T H ∧
  ∀ H1,SameT T H H1→Tabs T H1→te σ H1 fun zs H2=>H2=H1∧Kd cls zs∧(∀ (E:XK) (Q':VK),(∀ H',Same H1 H'→E cls none H')→tb E (ws.map some) H1 Q')∧∀ H',SameT T H H'→Tabs T H'→Q (.bl true) H'
section
variable {X:Cx}
theorem pe_deed {params:Arguments} {body:Expr} {scope:Scope} {lpos p pos:Pos} {T:List (Addr × Str)} {c Pt:Addr} {qual x:Str} {es:List Expr} {te:TA} {tb:XK→TE} {Kd:Value→List V→Prop} {ps:List Str} {kl j k:Nat} (xs caps:List Str) (is:List Nat)
    (RO:RefOk X.prog X.w X.K X.mg X.base (kl + 1) j x ps Kd) (hr:Room k X.A) (hin:(xs.all fun x=>(X.env.cells.lookup x).isSome)=true)
    (hcap:∀ x∈caps,(X.env.kindOf x=some .cell∧Vis X.env.scope x)∧x∈xs) (his:is.map (X.N[·]?)=caps.map some) (hB:BMain X.mg X.base) (hC:CodeHd X.base c Pt) (hcode:X.env.code=.ref c) (hT:(Pt,qual)∈T) (hnd:(T.map (·.1)).Nodup) (hq:X.env.qual ++ "<lambda>" = qual)
    (hclos:closureFor scope X.env=pure (clo X.env xs)) (S:LamScope [] caps scope) (hpar:∀ pm c' ctv,bindArgs (kla_fn "<lambda>" qual params body scope (clo X.env xs) pm (.ref c') ctv) ⟨[],[]⟩=pure [])
    (hb:∀ (fa c':Addr) (A:Around) (outer:List Env) (s:Shared) (H:Hp) (E:XK),Room kl (A.deeper (envX qual scope s.heap.objs.size fa (.ref c') (clo X.env xs))) →
      PE (cxLam (CXe X.prog X.w) X.prog X.w X.K X.mg X.base caps qual scope fa (.ref c') (clo X.env xs) A outer s H E) body (tb E))
    (h2:PA X es te) (hm:∀ σ H Q Q',(∀ v H,Q v H→Q' v H)→te σ H Q→te σ H Q')
    (hj:j≤k:=by decide) (hfn:∀ x,X.fn x=true:=by intro _; rfl) (hg:Gl X x:=by rfl) (hdb:(x == ("__debug__" : Str))=false:=by decide)
    (hdef:defaultsOf params X.env=([],[]):=by rfl)
    (he:starEach (.Lambda params body scope lpos::es) X.env=(false,eval (.Lambda params body scope lpos) X.env)::starEach es X.env:=by rfl) (hpl:(backTo pos (starEach es X.env)).any (·.1)=false:=by rfl) :
    PE X (.Call (.Name x p) (.Lambda params body scope lpos::es) [] pos) (tDeed T is Kd tb te):=by
  let mk:Addr→Value→Obj:=fun c' ctv=>kla_obj "<lambda>" qual params body scope (clo X.env xs) ((X.mg "__name__").getD .none) c' ctv
  let R:List V→Value→Hp→Prop:=fun ws cls H=>∀ (E:XK) (Q':VK),(∀ H',Same H H'→E cls none H')→tb E (ws.map some) H Q'
  let ι:Type:={ i:Addr × Addr × Value × Value × List V // Kd i.2.2.2.1 i.2.2.2.2 }
  let sp:List V→Sp:=fun ws vs H Q E=>∃ i:ι,sp_ref i.1.1 i.1.2.1 (mk i.1.2.1 i.1.2.2.1) qual (R ws i.1.2.2.2.1) i.1.2.2.2.2 vs H Q E
  have FL:∀ Z ws,True→CellsZ Z (clo X.env xs) caps ws→FokZ Z X.prog X.w X.K X.mg X.base (CXe X.prog X.w) j x ps (sp ws):=by
    intro Z ws _ cz
    obtain ⟨f,fd,b,kp,m,G⟩:=RO.ex
    refine ⟨f,fd,FnOkZ.ex (ι:=ι) fun i => ?_,b,kp,m⟩
    refine G Z i.1.1 i.1.2.1 (mk i.1.2.1 i.1.2.2.1) qual (R ws i.1.2.2.2.1) i.1.2.2.2.1 i.1.2.2.2.2 _ rfl (hpar _ _ _) ?_ i.2
    refine lam_of (k:=kl) S cz (fun vs H Q E h => ?_) (fun vs H Q E h => ?_) fun A outer s H vs Q E hr hz h => ?_
    · obtain ⟨rfl,_⟩:=h
      rfl
    · obtain ⟨_,h1,h2,_⟩:=h
      exact ⟨h1,h2⟩
    · obtain ⟨rfl,h1,h2,hR,hE⟩:=h
      exact ⟨tb E,hb _ _ _ _ _ _ _ hr,hR E Q hE⟩
  have base:=pe_callL (p:=p) (pos:=pos) xs caps is (W:=fun _=>True) (sp:=sp) FL quietE hr hin hcap his (pa_cons (pe_lam (pos:=lpos) xs hB hC hcode hT hnd hq hclos hdef) h2 he) hj hfn hg hdb he hpl
  intro pins s σ H Q I h
  obtain ⟨ws,cls,hws,hTb,h⟩:=h
  refine base pins s σ H Q I ⟨ws,hws,trivial,hTb,fun fa c' ctv H1 nfa e1 e2 tb1 st1 => ?_⟩
  refine hm _ _ _ _ (fun zs H2 hz => ?_) (h H1 st1 tb1)
  obtain ⟨rfl,kd,hR,hQ⟩:=hz
  exact ⟨⟨(fa,c',ctv,cls,zs),kd⟩,rfl,e2,e1,hR,fun H' s'=>hQ H' (st1.trans s'.toT) (s'.tabs tb1)⟩
end
end L2

namespace L2
open PySem PySem.Spec PySem.Calls PyProof.Rows

section
variable {X:Cx} {st:Stmt} {rest:List Stmt} {t u:TS} {pos:Pos} {e a b:PySem.Expr} {te ta tb:TE}
theorem psx_ret (h:PEx X e te):PSx X (.Return (some e) pos) (tRet te):=⟨ps_ret h.h⟩
theorem pex_ix {r:R2} (hr:IxR X r) (ha:PEx X a ta) (hb:PE X b tb) (hs:PlainIx b):PEx X (.Subscript a b pos) (tOp r ta tb):=⟨pe_ix hr ha.h hb hs⟩
end
section
variable {P:Program} {w:World} {K:PySem.W.Frag} {mg:Str→Option Value} {base:Heap}
end
end L2

namespace L2
open PySem PySem.Spec PySem.Calls PyProof.Rows

section
variable {X:Cx} {tg:Expr}
end

section
variable {X:Cx}
end
end L2

namespace L2
open PySem PySem.Spec PySem.Calls PyProof.Rows PySem.W

section
variable {prog:Program} {w:World} {A:Around} {E:Value→Shared→Prop} {s:Shared}
end
section
variable {X:Cx}
end

section
variable {prog:Program} {w:World} {A:Around} {E:Value→Shared→Prop} {s:Shared}
end
section
variable {prog:Program} {w:World} {A:Around} {E:Value→Shared→Prop} {s:Shared}
end
section
variable {X:Cx}

end
section
variable {X:Cx} {K:PySem.W.Frag}

end
end L2

namespace L2
open PySem PySem.Spec PySem.Calls PyProof.Rows PySem.W

section
variable {prog:Program} {w:World} {K:Type} [DecidableEq K] {knd:HeapKind prog w K} {A:Around} {E:Value→Shared→Prop} {s:Shared} {d b:Addr} {k:K} {ps:List (K × Addr × Value)}
end
section
variable {X:Cx} {o e f:Expr} {apos cpos:Pos} {td ty tx:TE}
end

section
open PySem.SeqAt
open PySem.AutoSeq1 (wpAny_loadPart')
open PySem.MeetsSeq PySem.MeetsSeq2 PySem.MeetsSeq3
end
section
variable {X:Cx}
end
end L2

namespace L2
open PySem PySem.Spec PySem.Calls PyProof.Rows PySem.W

section
variable {X:Cx} {tg:Expr}
end
section
variable {σ0 cs:St} {k:Nat} {g:TG} {te:TE} {tt:TT} {H1:Hp} {Q:VK}
end
end L2

namespace L2
open PySem PySem.Spec PySem.Calls PyProof.Rows PySem.W

section
variable {prog:Program} {w:World} {A:Around} {E:Value→Shared→Prop} {s:Shared} {α:Type} {lt:α→α→Bool}
end
section
variable {X:Cx}
end
end L2

namespace L2
open PySem PySem.Spec PySem.Calls PyProof.Rows PySem.W

theorem ns_one {h:Heap} {a:Addr} {m m':Str→Option Value} (x:h.Ns a m) (y:h.Ns a m'):m=m':=(Heap.Ns.eq_nsMap x).trans (Heap.Ns.eq_nsMap y).symm
section
variable {X:Cx}
theorem Inv.keptL {pins:List (Addr × Obj)} {σ:St} {H:Hp} {s:Shared} {h':Heap} {t':Nat} {m:Str→Option Value} (I:Inv X pins σ H s) (hm:s.heap.Ns X.env.locals m) (hn:h'.Ns X.env.locals m)
    (k:∀ b o,b≠X.env.locals→s.heap.get? b=some o→h'.get? b=some o):Inv X pins σ H { s with heap:=h',toks:=t' }:=by
  have ne:∀ {b:Addr} {o:HO},H b=some o→b≠X.env.locals:=fun {b o} e z=>by rw [z,I.free] at e; cases e
  refine I.step (g':=s.gens) (d':=s.drawn) (ch:=[]) (fun _ z=>nomatch z) (fun b o h1 _ _ e _=>k b o h1 e) (fun b o h1 _ _ e _=>⟨o.slots,k b o h1 e⟩) (fun b o _ e n=>n) (fun b o _ e => ?_) (fun b xs e=>e) (fun b o u e=>e) (fun b ps e=>⟨#[],by rw [e]; simp⟩) (fun m' h=>ns_one hm h▸hn) ?_ I.bare
  · by_cases z:b=X.env.locals
    · obtain ⟨o',_,_,e',_⟩:=hn
      exact ⟨o',z▸e'⟩
    · exact ⟨o,k b o z e⟩
  · intro a o e
    refine (I.hok a o e).stay (fun b u hb q=>k b u ?_ q) (fun _ q=>q) fun _ _ q=>q
    rcases hb with rfl | hb
    · exact ne e
    · exact ne hb
end
section
variable {prog:Program} {w:World} {A:Around} {E:Value→Shared→Prop} {s:Shared}
theorem item_call {fa a c':Addr} {name qual:Str} {params:Arguments} {scope:Scope} {x:Str} {p1 p2 p3:Pos} {j2:Nat} {cl:List (Str × Addr)} {pm ctv:Value} {z:Value} {k:Int} {t:Tok} (S:LamScope [x] [] scope) (hd:A.depth < recursionLimit)
    (ho:s.heap.get? fa=some (kla_obj name qual params (.Subscript (.Name x p1) (.Constant (.int 1) j2 p2) p3) scope cl pm c' ctv)) (cr:s.heap.CodeRec (.ref c') qual) (lim:s.heap.NoLimit)
    (hb:bindArgs (kla_fn name qual params (.Subscript (.Name x p1) (.Constant (.int 1) j2 p2) p3) scope cl pm (.ref c') ctv) ⟨[.ref a],[]⟩=pure [(x,.ref a)]) (ht:IsTup s.heap a #[z,.int k t]) (hx:(x == ("__debug__" : Str))=false)
    (hs:∀ o i,subscripted (.Constant (.int 1) j2 p2) false o i=operate [o,i] (getItem o i)) :
    wpAny (model prog w) A (call (.ref fa) [.ref a]) (fun u s'=>∃ h' tk',s'={ s with heap:=h',toks:=tk' }∧u=.int k t∧∀ b o,s.heap.get? b=some o→h'.get? b=some o) E s:=by
  refine wpAny_call (kla_callFunE hd ho rfl S.co S.gen rfl cr ((BindsTo.of_eq hb) _ _ _ _ ?_))
  refine wpAny_newFunctionEnv S.nocell (fun y hy => ?_) (fun h' hns hsb=>⟨lim.fresh _ hsb,?_⟩) S.kind
  · have e:y.1=x:=by rw [List.mem_singleton.mp hy]
    rw [e]
    exact S.loc x List.mem_cons_self
  have hk:∀ b o,s.heap.get? b=some o→h'.get? b=some o:=fun b o e=>hsb.extBut b o (Nat.ne_of_lt (Heap.lt_size e)) (Heap.get?_push_of_some _ e)
  have ht':IsTup h' a #[z,.int k t]:=by
    obtain ⟨o,e,r⟩:=ht
    exact ⟨o,hk _ _ e,r⟩
  refine kla_codeExpr ?_
  refine Subscript_ (wpAny_Name (wpAny_loadName_local S.kind (S.loc x List.mem_cons_self) hns (v:=.ref a) ?_ ?_) hx)
  · show List.lookup x [(x,Value.ref a)]=_
    simp
  refine wpAny_Constant_int ?_
  exact subscriptTail_builtinR (x:=.int k t) ht'.typeIs slot_tuple_getitem.lookup (getItem_tuple (j:=1) (x:=.int k t) (Q:=fun r s'=>r=.int k t∧_) ht' (by decide) (by decide) rfl rfl ⟨rfl,_,_,rfl,rfl,hk⟩) (hs _ _)
end

def tMaxK (T:List (Addr × Str)) (t:TA):TE:=fun σ H Q=>t σ H fun vs H1=>∃ (l:Addr) (xs:List V) (ks:List Int),vs=[.ref l]∧H1 l=some (.lst xs)∧0 < xs.length∧(∀ (i:Nat) (u:V),xs[i]? = some u→∃ (a:Addr) (z:V) (k:Int),u=.ref a∧H1 a=some (.tup [z,.int k])∧ks[i]? = some k)∧Tabs T H1 ∧
  ∀ (i:Nat) (u:V) (k:Int) (H':Hp),SameT T H1 H'→Tabs T H'→xs[i]? = some u→ks[i]? = some k→(∀ (j:Nat) (k':Int),j < xs.length→ks[j]? = some k'→k'≤k∧(j < i→k' < k))→Q u H'
section
variable {X:Cx}
theorem not_tab {T:List (Addr × Str)} {H:Hp} {b:Addr} {o:HO} (hT:Tabs T H) (e:H b=some o) (h:∀ ps,o≠.tbl ps):b∉T.map (·.1):=fun hb=>by
  obtain ⟨q,hq,rfl⟩:=List.mem_map.mp hb
  obtain ⟨ps,h1,_⟩:=hT q hq
  rw [e] at h1
  exact h ps (Option.some.inj h1)
theorem pe_maxK {params:Arguments} {scope:Scope} {lpos kp p pos p1 p2 p3:Pos} {j2:Nat} {x:Str} {e:Expr} {te:TA} {T:List (Addr × Str)} {c Pt:Addr} {qual:Str} {k:Nat} (hr:Room (k + 2) X.A) (hM:X.mg "max" = none) (hB:BMain X.mg X.base) (hC:CodeHd X.base c Pt) (hcode:X.env.code=.ref c) (hT:(Pt,qual)∈T) (hnd:(T.map (·.1)).Nodup) (hq:X.env.qual ++ "<lambda>" = qual)
    (S:LamScope [x] [] scope) (he:PA X [e] te) (hc:X.calm=true:=by rfl) (hx:(x == ("__debug__" : Str))=false:=by decide) (hg:Gl X "max" := by rfl) (hclos:closureFor scope X.env=pure (clo X.env []):=by rfl) (hdef:defaultsOf params X.env=([],[]):=by rfl)
    (hb:∀ (cl:List (Str × Addr)) (pm ctv:Value) (c' a:Addr),bindArgs (kla_fn "<lambda>" qual params (.Subscript (.Name x p1) (.Constant (.int 1) j2 p2) p3) scope cl pm (.ref c') ctv) ⟨[.ref a],[]⟩=pure [(x,.ref a)]:=by intros; rfl)
    (hs:∀ o i,subscripted (.Constant (.int 1) j2 p2) false o i=operate [o,i] (getItem o i):=by intros; rfl) (hbt:backTo pos (starEach [e] X.env)=(false,eval e X.env)::backTo pos (starEach [] X.env):=by rfl) (hpn:(backTo pos (starEach [e] X.env)).any (·.1)=false:=by rfl) :
    PE X (.Call (.Name "max" p) [e] [⟨some "key",.Lambda params (.Subscript (.Name x p1) (.Constant (.int 1) j2 p2) p3) scope lpos,kp⟩] pos) (tMaxK T te):=by
  intro pins s σ H Q I h
  refine wpAny_Call_Name_kw (ld_blt I hg hM bb_max ?_)
  refine callWith_kw (thn (he pos pins s σ H _ I h) fun us s1 ⟨vs,H1,I1,r,l,xs,ks,e1,hl,hne,hk,hTb,q⟩ => ?_) hbt hpn
  subst e1
  obtain ⟨u,rfl,ru⟩:=vals1 r
  cases ru
  refine kws_cons (thn (pe_lam (pos:=lpos) [] hB hC hcode hT hnd hq hclos hdef pins s1 σ H1 (fun v H2=>∃ fa c' ctv,v=.ref fa∧H2 fa=some (isE fa (kla_obj "<lambda>" qual params (.Subscript (.Name x p1) (.Constant (.int 1) j2 p2) p3) scope (clo X.env []) ((X.mg "__name__").getD .none) c' ctv))∧H2 c'=some (codeE c' qual)∧Tabs T H2∧SameT T H1 H2) I1 ⟨hTb,fun fa c' ctv H' _ h1 h2 h3 h4=>⟨fa,c',ctv,rfl,h1,h2,h3,h4⟩⟩) fun u2 s2 ⟨v2,H2,I2,r2,fa,c',ctv,e2,hfa,hc',hTb2,sT⟩=>kws_nil ?_)
  subst e2
  cases r2
  show wpAny _ _ (call (.builtin "max") [.ref l] [(Str.ofString "key",.ref fa)]) _ _ _
  have hl2:H2 l=some (.lst xs):=sT _ _ hl (not_tab hTb hl fun _ z=>by cases z)
  obtain ⟨its,rv,pl,hz⟩:=I2.list (SqL.of (K:=X.K) hl2)
  obtain ⟨m,hm,hloc⟩:=id I2.loc
  have hlen:=rv.length
  let news:List (Addr × Obj):=(List.range s2.heap.objs.size).filterMap fun b=>if b=X.env.locals then none else (s2.heap.get? b).map fun o=>(b,o)
  have hin:∀ {b o},b≠X.env.locals→s2.heap.get? b=some o→(b,o)∈news:=fun {b o} hb e =>
    List.mem_filterMap.mpr ⟨b,List.mem_range.mpr (Heap.lt_size e),by rw [if_neg hb,e]; rfl⟩
  have hof:∀ p∈news,s2.heap.get? p.1=some p.2∧p.1≠X.env.locals:=fun p hp=>by
    obtain ⟨b,_,e⟩:=List.mem_filterMap.mp hp
    by_cases z:b=X.env.locals
    · rw [if_pos z] at e; cases e
    · rw [if_neg z] at e
      obtain ⟨o,e3,rfl⟩:=Option.map_eq_some_iff.mp e
      exact ⟨e3,z⟩
  have ne:∀ {b:Addr} {o:HO},H2 b=some o→b≠X.env.locals:=fun {b o} e z=>by rw [z,I2.free] at e; cases e
  have keepN:∀ {h:Heap} {own:List (Addr × Obj)},News ({}:Heap) X.env.locals h (news++own)→∀ b o,b≠X.env.locals→s2.heap.get? b=some o→h.get? b=some o:=fun N b o hb e=>(N (b,o) (List.mem_append_left _ (hin hb e))).1
  have none0:∀ b,({}:Heap).get? b=none:=fun b=>Heap.get?_none_of_le (Nat.zero_le _)
  have inv:∀ {h:Heap} {tk:Nat} {own:List (Addr × Obj)},Fr ({}:Heap) X.env.locals h m→News ({}:Heap) X.env.locals h (news++own)→Inv X pins σ H2 { s2 with heap:=h,toks:=tk }:=fun F N=>I2.keptL hm F.ns (keepN N)
  have at_:∀ (i:Nat) (v:Value),its[i]? = some v→∃ u,xs[i]? = some u∧∃ a z k,u=V.ref a∧H1 a=some (.tup [z,.int k])∧ks[i]? = some k∧v=.ref a:=fun i v hv=>by
    have hi:=(List.getElem?_eq_some_iff.mp hv).1
    obtain ⟨u,hu⟩:∃ u,xs[i]? = some u:=⟨xs[i]'(by omega),List.getElem?_eq_getElem _⟩
    obtain ⟨a,z,k2,e3,ha,hk2⟩:=hk i u hu
    obtain ⟨w2,hw,rw2⟩:=rv.get hu
    rw [hv] at hw
    cases hw
    subst e3
    exact ⟨_,hu,a,z,k2,rfl,ha,hk2,rw2⟩
  refine kmk_max (h₀:={}) (L:=X.env.locals) (m:=m) (news:=news) (vs:=its) (fun i=>ks.getD i 0) (I2.ok.hd hc) ⟨hm,fun b o e=>(by rw [none0] at e; cases e),Nat.zero_le _⟩ (fun p hp=>⟨(hof p hp).1,(hof p hp).2,none0 _⟩) (fun h F N => ?_) (by omega) (fun i v hv h tk own F N => ?_) (fun i v h' tk' hv hbest F N => ?_)
  · obtain ⟨o,eo,r3⟩:=pl.isList
    exact ⟨o,(N (l,o) (hin (ne hl2) eo)).1,r3⟩
  · obtain ⟨u,hu,a,z,k2,e3,ha,hk2,e4⟩:=at_ i v hv
    subst e4
    have ha2:H2 a=some (.tup [z,.int k2]):=sT _ _ ha (not_tab hTb ha fun _ z=>by cases z)
    obtain ⟨its2,rv2,pl2,_⟩:=I2.tuple (SqT.of (K:=X.K) ha2)
    obtain ⟨w1,w2,rfl,_,t2,rfl⟩:=vals2 rv2
    have I3:=inv (tk:=tk) F N
    have gk:=keepN N
    have cr:h.CodeRec (.ref c') qual:=by
      obtain ⟨c₂,o₂,vs₂,t₂,z₂,g₂,r₂⟩:=(I2.hok c' _ hc').1
      cases z₂
      exact ⟨c',o₂,vs₂,t₂,rfl,gk _ _ (ne hc') g₂,r₂⟩
    have ht:IsTup h a #[w1,.int k2 t2]:=by
      obtain ⟨o,e,r3⟩:=pl2
      exact ⟨o,gk _ _ (ne ha2) e,r3⟩
    refine thn (item_call (s:={ s2 with heap:=h,toks:=tk }) (z:=w1) (k:=k2) (t:=t2) S (hr.in1.depth) (gk _ _ (ne hfa) (I2.hok fa _ hfa).1) cr I3.nolimit (hb _ _ _ _ _) ht hx hs) fun u3 s3 ⟨h3,tk3,e5,e6,k3⟩ => ?_
    subst e5
    subst e6
    refine ⟨h3,tk3,t2,rfl,?_,⟨?_,fun b o e=>(by rw [none0] at e; cases e),Nat.zero_le _⟩,fun p hp=>⟨k3 _ _ (N p hp).1,(N p hp).2⟩⟩
    · rw [List.getD_eq_getElem?_getD,hk2]
      rfl
    · obtain ⟨o,es,ep,e,r3⟩:=F.ns
      exact ⟨o,es,ep,k3 _ _ e,r3⟩
  · obtain ⟨u,hu,a,z,k2,e3,ha,hk2,e4⟩:=at_ i v hv
    have I3:=inv (tk:=tk') (own:=[]) F (by rw [List.append_nil]; exact N)
    refine ⟨u,H2,I3,?_,q i u k2 H2 sT hTb2 hu hk2 fun j k' hj hk' => ?_⟩
    · rw [e3,e4]; rfl
    · have hb2:=hbest j (by omega)
      rw [List.getD_eq_getElem?_getD,List.getD_eq_getElem?_getD,hk2,hk'] at hb2
      have b1:k2 ≥ k':=hb2.1
      exact ⟨b1,fun h=>hb2.2 h⟩
end
end L2

namespace Qs
open PySem L2

def top (i:Nat):Stmt:=PySem.Challenge.pw_quartersheet_k74_finer_and_coarser.main.body.getD i (.Pass ⟨0,0,0,0⟩)

structure Tx (K:PySem.W.Frag) (mg:Str→Option Value):Prop where
  b_isinstance:mg "isinstance" = none
  b_int:mg "int" = none
  b_bool:mg "bool" = none
  b_range:mg "range" = none
  b_tuple:mg "tuple" = none
  b_all:mg "all" = none
  b_str:mg "str" = none
  b_sorted:mg "sorted" = none
  b_len:mg "len" = none
  c_MOST:∃ t,mg "MOST" = some (.int 40 t)
  b_max:mg "max" = none
  b_list:mg "list" = none
  b_zip:mg "zip" = none
  b_ValueError:mg "ValueError" = none
end Qs
namespace Qs
open PySem L2

theorem str_ext {a b:Str} (h:a.cps.toList=b.cps.toList):a=b:=by
  obtain ⟨a⟩:=a
  obtain ⟨b⟩:=b
  have h':a.toList=b.toList:=h
  have e:a=b:=Array.toList_inj.mp h'
  rw [e]
theorem empty_eq:("" : Str)=⟨#[]⟩:=by decide +kernel
theorem app_len (a b:Str):(a++b).length=a.length + b.length:=by
  show (a.cps++b.cps).size=_
  rw [Array.size_append]; rfl
end Qs
namespace Qs
open PySem L2

def oneB (a b c d:Tr):Bool:=a.isCol && (decide (a=a) && (decide (b=a) && (decide (c=a) && (decide (d=a) && true))))
def gath (a b c d:Tr):Tr:=if oneB a b c d then a else .four a b c d
def q0:Tr→Tr | .col i=>.col i | .four a _ _ _=>a
def q1:Tr→Tr | .col i=>.col i | .four _ b _ _=>b
def q2:Tr→Tr | .col i=>.col i | .four _ _ c _=>c
def q3:Tr→Tr | .col i=>.col i | .four _ _ _ d=>d
theorem oneB_iff {a b c d:Tr}:oneB a b c d=true↔a.isCol=true∧b=a∧c=a∧d=a:=by
  unfold oneB
  simp only [Bool.and_eq_true,decide_eq_true_eq,and_true,true_and]
theorem gath_deep {a b c d:Tr} {n:Nat} (ha:a.deep≤n) (hb:b.deep≤n) (hc:c.deep≤n) (hd:d.deep≤n):(gath a b c d).deep≤n + 1:=by
  unfold gath
  split
  · omega
  · show max a.deep (max b.deep (max c.deep d.deep)) + 1≤n + 1
    omega

def ShAt (H:Hp) (v:V) (n:Int) (t:Tr):Prop:=∃ p x,v=.ref p∧H p=some (.tup [.int n,x])∧TrAt H x t
theorem kit_it {K:PySem.W.Frag}:PySem.W.kitOne K (.type "int") (.type "tuple")=some false:=by kernel_rfl

def qk (t:Tr):Nat→Tr
  | 0=>q0 t
  | 1=>q1 t
  | 2=>q2 t
  | _=>q3 t
def put4 (t:Tr) (d:Nat) (x:Tr):Tr:=gath (if d=0 then x else q0 t) (if d=1 then x else q1 t) (if d=2 then x else q2 t) (if d=3 then x else q3 t)
def plant (t:Tr):List Nat→Tr→Tr
  | [],o=>o
  | d::ds,o=>put4 t d (plant (qk t d) ds o)
theorem qk_deep {t:Tr} {n d:Nat} (h:t.deep≤n + 1):(qk t d).deep≤n:=by
  cases t with
  | col i=>rcases d with _ | _ | _ | d <;> exact Nat.zero_le _
  | four a b c e =>
    have h':max a.deep (max b.deep (max c.deep e.deep)) + 1≤n + 1:=h
    rcases d with _ | _ | _ | d
    · show a.deep≤n; omega
    · show b.deep≤n; omega
    · show c.deep≤n; omega
    · show e.deep≤n; omega
theorem qk_deep' {t:Tr} {n d:Nat} (h:t.deep≤n):(qk t d).deep≤n:=by
  rcases n with _ | n
  · cases t with
    | col i=>rcases d with _ | _ | _ | d <;> exact Nat.zero_le _
    | four a b c e=>exact absurd h (by show ¬ _ + 1≤0; omega)
  · exact Nat.le_succ_of_le (qk_deep h)
theorem put4_deep {t x:Tr} {n d:Nat} (h:t.deep≤n + 1) (hx:x.deep≤n):(put4 t d x).deep≤n + 1:=by
  unfold put4
  have h0:=qk_deep (d:=0) h
  have h1:=qk_deep (d:=1) h
  have h2:=qk_deep (d:=2) h
  have h3:=qk_deep (d:=3) h
  refine gath_deep ?_ ?_ ?_ ?_ <;> split <;> assumption
def Good:Nat→Tr→Prop
  | _,.col i=>0≤i∧i≤35
  | 0,.four ..=>False
  | n + 1,.four a b c d=>Good n a∧Good n b∧Good n c∧Good n d∧oneB a b c d=false
theorem Good.deep:∀ {n:Nat} {t:Tr},Good n t→t.deep≤n
  | _,.col i,_=>Nat.zero_le _
  | 0,.four ..,h=>h.elim
  | n + 1,.four a b c d,⟨ha,hb,hc,hd,_⟩=>by
    have:=ha.deep
    have:=hb.deep
    have:=hc.deep
    have:=hd.deep
    show max a.deep (max b.deep (max c.deep d.deep)) + 1≤n + 1
    omega
theorem Good.col {n:Nat} {i:Int} (h:0≤i∧i≤35):Good n (.col i):=by cases n <;> exact h
theorem Good.q {n:Nat} {t:Tr} (h:Good (n + 1) t) (k:Nat):Good n (qk t k):=by
  cases t with
  | col i =>
    have z:Good n (.col i):=Good.col h
    rcases k with _ | _ | _ | k <;> exact z
  | four a b c d =>
    obtain ⟨ha,hb,hc,hd,_⟩:=h
    rcases k with _ | _ | _ | k
    · exact ha
    · exact hb
    · exact hc
    · exact hd
theorem Good.up {n:Nat} {t:Tr} (h:Good n t):Good (n + 1) t:=by
  induction t generalizing n with
  | col i=>exact Good.col (by cases n <;> exact h)
  | four a b c d ia ib ic id =>
    cases n with
    | zero=>exact h.elim
    | succ n =>
      obtain ⟨ha,hb,hc,hd,ho⟩:=h
      exact ⟨ia ha,ib hb,ic hc,id hd,ho⟩
theorem good_gath {n:Nat} {a b c d:Tr} (ha:Good n a) (hb:Good n b) (hc:Good n c) (hd:Good n d):Good (n + 1) (gath a b c d):=by
  unfold gath
  split
  · exact ha.up
  · rename_i h
    exact ⟨ha,hb,hc,hd,by simpa using h⟩
theorem good_put4 {n d:Nat} {t x:Tr} (h:Good (n + 1) t) (hx:Good n x):Good (n + 1) (put4 t d x):=by
  unfold put4
  have h0:=h.q 0
  have h1:=h.q 1
  have h2:=h.q 2
  have h3:=h.q 3
  refine good_gath ?_ ?_ ?_ ?_ <;> split <;> assumption
theorem good_plant:∀ {n:Nat} {ds:List Nat} {t o:Tr},ds.length≤n→Good n t→Good (n - ds.length) o→Good n (plant t ds o)
  | n,[],t,o,_,_,h=>h
  | 0,d::ds,t,o,hl,_,_=>by simp at hl
  | n + 1,d::ds,t,o,hl,ht,ho=>by
    have hl':ds.length≤n:=by simpa using hl
    refine good_put4 ht (good_plant hl' (ht.q d) ?_)
    have e:n + 1 - (d::ds).length=n - ds.length:=by simp
    rw [e] at ho
    exact ho
theorem plant_deep:∀ (ds:List Nat) (n:Nat) (t o:Tr),t.deep≤n→o.deep + ds.length≤n→(plant t ds o).deep≤n
  | [],n,t,o,_,h=>by show o.deep≤n; simpa using h
  | d::ds,0,t,o,_,h=>by simp at h
  | d::ds,n + 1,t,o,ht,ho=>by
    have ho':o.deep + ds.length≤n:=by simp at ho; omega
    exact put4_deep ht (plant_deep ds n (qk t d) o (qk_deep ht) ho')
section
variable {P:Program} {w:World} {K:PySem.W.Frag} {mg:Str→Option Value} {base:Heap} {CX:CXT} {f:Addr} {fd:FuncData}
theorem at4 {α:Type} {a b c d x:α} {i:Nat} (h:[a,b,c,d][i]? = some x):(i=0∧x=a)∨(i=1∧x=b)∨(i=2∧x=c)∨(i=3∧x=d):=by
  rcases i with _ | _ | _ | _ | i
  · exact .inl ⟨rfl,(Option.some.inj h).symm⟩
  · exact .inr (.inl ⟨rfl,(Option.some.inj h).symm⟩)
  · exact .inr (.inr (.inl ⟨rfl,(Option.some.inj h).symm⟩))
  · exact .inr (.inr (.inr ⟨rfl,(Option.some.inj h).symm⟩))
  · simp at h
theorem str_eq_nil {z:Str}:(z=("" : Str))↔z.length=0:=by
  constructor
  · rintro rfl; decide +kernel
  · intro h
    apply str_ext
    have e:z.cps.toList=[]:=List.eq_nil_of_length_eq_zero (by rw [← len_eq]; exact h)
    rw [e]; decide +kernel

def rst (z:Str):Str:=⟨(z.cps.toList.drop 1).toArray⟩
theorem slice_rst {z:Str} (h:0 < z.length):Txt.slice z (some 1) none=rst z:=by
  have e:=PyProof.Rows.slice_closes_from (x:=z) (i:=1) ⟨by decide,by rw [← len_eq]; omega⟩
  rw [beq_iff_eq] at e
  rw [e]
  unfold rst
  congr 2
  show (z.cps.toList.drop 1).take ((z.cps.toList.length:Int) - 1).toNat=_
  rw [List.take_of_length_le]
  rw [List.length_drop,← len_eq]; omega
theorem rst_len (z:Str):(rst z).length=z.length - 1:=by rw [len_eq,len_eq]; simp [rst]
theorem rst_isC {z:Str} (h:IsC z):IsC (rst z):=fun c hc=>h c (by
  have hc':c∈z.cps.toList.drop 1:=by simpa [rst] using hc
  exact List.mem_of_mem_drop hc')
theorem at_zero {z:Str} (h:0 < z.length):atI z.cps.toList 0=some (z.cps.getD 0 0):=by
  have hs:0 < z.cps.size:=h
  refine atI_nat (j:=0) ?_
  simp [Array.getD_eq_getD_getElem?,hs]
theorem Same.none {H H':Hp} {l:Addr} (s:Same H H') (h:H' l=none):H l=none:=by
  cases q:H l with
  | none=>rfl
  | some o=>rw [s _ _ q] at h; cases h
theorem fokF {x qual:Str} {st:Stmt} {dV:Value} {ps:List Str} (F:FunD K x qual st f fd dV) (b:Binds K fd ps []) (m:mg x=some (.ref f)):Fok P w K mg base CX 0 x ps [] (fun _ _ _ _=>False) :=
  ⟨f,fd,[],⟨fun _ _ _ _ h=>h.elim,fun _ _ _ _ _ _ _ _ _ _ _ _ _ h=>h.elim⟩,b,.nil,F.kp,m⟩
theorem dig_empty:dig ("" : Str)=[]:=by decide +kernel
theorem dig_rst {z:Str} (h:0 < z.length):dig z=(z.cps.getD 0 0 - 48)::dig (rst z):=by
  have hs:0 < z.cps.size:=h
  have hl:0 < z.cps.toList.length:=by simpa using hs
  have e:z.cps.toList=z.cps.getD 0 0::z.cps.toList.drop 1:=by
    have e1:=List.drop_eq_getElem_cons (l:=z.cps.toList) (i:=0) hl
    rw [List.drop_zero] at e1
    have e2:z.cps.getD 0 0=z.cps.toList[0]:=by simp [Array.getD_eq_getD_getElem?,hs]
    rw [e2]; exact e1
  unfold dig rst
  conv=>lhs; rw [e]
  rfl
end
end Qs
namespace Qs
open PySem L2
def cnt:Tr→Nat
  | .col _=>1
  | .four a b c d=>cnt a + cnt b + cnt c + cnt d
theorem cnt_pos:∀ t,1≤cnt t
  | .col _=>Nat.le_refl 1
  | .four a b c d=>by
    have:=cnt_pos a
    show 1≤cnt a + cnt b + cnt c + cnt d
    omega
theorem cnt_gath (a b c d:Tr):cnt (gath a b c d)≤cnt a + cnt b + cnt c + cnt d:=by
  unfold gath
  split
  · omega
  · exact Nat.le_refl _
theorem cnt_q {t:Tr}:cnt (q0 t) + cnt (q1 t) + cnt (q2 t) + cnt (q3 t)≤cnt t + 3:=by
  cases t with
  | col i=>show 1 + 1 + 1 + 1≤1 + 3; decide
  | four a b c d=>show cnt a + cnt b + cnt c + cnt d≤cnt a + cnt b + cnt c + cnt d + 3; omega
theorem cnt_put4 {t x:Tr} {d:Nat} (hd:d < 4):cnt (put4 t d x) + cnt (qk t d)≤cnt t + 3 + cnt x:=by
  unfold put4
  have h:=cnt_gath (if d=0 then x else q0 t) (if d=1 then x else q1 t) (if d=2 then x else q2 t) (if d=3 then x else q3 t)
  have h2:=cnt_q (t:=t)
  generalize gath (if d=0 then x else q0 t) (if d=1 then x else q1 t) (if d=2 then x else q2 t) (if d=3 then x else q3 t)=g at *
  rcases d with _ | _ | _ | _ | d
  · have h':cnt g≤cnt x + cnt (q1 t) + cnt (q2 t) + cnt (q3 t):=h
    show cnt g + cnt (q0 t)≤_
    omega
  · have h':cnt g≤cnt (q0 t) + cnt x + cnt (q2 t) + cnt (q3 t):=h
    show cnt g + cnt (q1 t)≤_
    omega
  · have h':cnt g≤cnt (q0 t) + cnt (q1 t) + cnt x + cnt (q3 t):=h
    show cnt g + cnt (q2 t)≤_
    omega
  · have h':cnt g≤cnt (q0 t) + cnt (q1 t) + cnt (q2 t) + cnt x:=h
    show cnt g + cnt (q3 t)≤_
    omega
  · omega
theorem cnt_plant:∀ (ds:List Nat) (t o:Tr),(∀ d∈ds,d < 4)→cnt (plant t ds o)≤cnt t + 3 * ds.length + cnt o
  | [],t,o,_=>by show cnt o≤_; omega
  | d::ds,t,o,h=>by
    have h1:=cnt_put4 (t:=t) (x:=plant (qk t d) ds o) (h d List.mem_cons_self)
    have h2:=cnt_plant ds (qk t d) o fun x hx=>h x (List.mem_cons_of_mem _ hx)
    show cnt (put4 t d (plant (qk t d) ds o))≤_
    rw [List.length_cons]
    omega
theorem four_of (m:Int):∃ d:Nat,d < 4∧m % 4=(d:Int):=⟨(m % 4).toNat,by omega,by omega⟩
theorem dig_lt {z:Str} (hz:IsC z):∀ d∈dig z,d < 4:=fun d h=>by
  obtain ⟨c,hc,rfl⟩:=List.mem_map.mp h
  have:=hz c hc
  omega
def pk4 (a b c d:Tr):Nat→Tr
  | 0=>a
  | 1=>b
  | 2=>c
  | _=>d

def lvs:List Nat→Tr→List (List Nat × Int)
  | z,.col i=>[(z,i)]
  | z,.four a b c d=>lvs (z++[0]) a++(lvs (z++[1]) b++(lvs (z++[2]) c++lvs (z++[3]) d))
theorem lvs_count:∀ (t:Tr) (z:List Nat),(lvs z t).length=cnt t
  | .col _,_=>rfl
  | .four a b c d,z=>by
    show (lvs (z++[0]) a++(lvs (z++[1]) b++(lvs (z++[2]) c++lvs (z++[3]) d))).length=cnt a + cnt b + cnt c + cnt d
    rw [List.length_append,List.length_append,List.length_append,lvs_count a,lvs_count b,lvs_count c,lvs_count d]; omega

theorem gath_no {a b c d:Tr} (h:oneB a b c d=false):gath a b c d=.four a b c d:=by
  unfold gath; rw [if_neg (by rw [h]; decide)]
def tget (T:List (Int × Int)) (c:Int):Int:=((T.find? fun e=>decide (e.1=c)).map (·.2)).getD 0
def tput (T:List (Int × Int)) (c w:Int):List (Int × Int):=if (T.any fun e=>decide (e.1=c))=true then T.map (fun e=>if e.1=c then (e.1,w) else e) else T++[(c,w)]
def tadd (T:List (Int × Int)) (c v:Int):List (Int × Int):=tput T c (tget T c + v)
def tally (n:Nat) (L:List (List Nat × Int)):List (Int × Int):=L.foldl (fun T q=>tadd T q.2 ((4 ^ (n - q.1.length):Nat):Int)) []
def eV (T:List (Int × Int)):List (Int × V):=T.map fun e=>(e.1,V.int e.2)
theorem find_eV (c:Int):∀ T:List (Int × Int),valV (ents (eV T)) (Sum.inl c:Key)=(T.find? fun e=>decide (e.1=c)).map fun e=>V.int e.2
  | []=>rfl
  | e::T=>by
    show valV ((Sum.inl e.1,V.int e.2)::ents (eV T)) (Sum.inl c:Key)=_
    by_cases h:e.1=c
    · rw [valV_pos (by show (Sum.inl e.1:Key)=_; rw [h]),List.find?_cons,decide_eq_true h]
      rfl
    · rw [valV_neg (fun q=>h (Sum.inl.inj q)),List.find?_cons,decide_eq_false h]
      exact find_eV c T
theorem any_eV (c:Int) (T:List (Int × Int)):((ents (eV T)).any fun kv=>decide (kv.1=(Sum.inl c:Key)))=T.any fun e=>decide (e.1=c):=by
  unfold ents eV
  rw [List.any_map,List.any_map]
  refine congrArg (T.any ·) (funext fun e => ?_)
  show decide ((Sum.inl e.1:Key)=Sum.inl c)=decide (e.1=c)
  by_cases h:e.1=c
  · rw [h]; simp
  · rw [decide_eq_false h,decide_eq_false fun q=>h (Sum.inl.inj q)]
theorem put_eV (T:List (Int × Int)) (c w:Int):putK (ents (eV T)) (Sum.inl c:Key) (V.int w)=ents (eV (tput T c w)):=by
  unfold putK tput
  rw [any_eV]
  by_cases h:(T.any fun e=>decide (e.1=c))=true
  · rw [if_pos h,if_pos h]
    unfold ents eV
    rw [List.map_map,List.map_map,List.map_map,List.map_map]
    refine List.map_congr_left fun e _ => ?_
    show (if (Sum.inl e.1:Key)=Sum.inl c then ((Sum.inl e.1:Key),V.int w) else (Sum.inl e.1,V.int e.2))=((Sum.inl (if e.1=c then (e.1,w) else e).1:Key),V.int (if e.1=c then (e.1,w) else e).2)
    by_cases q:e.1=c
    · rw [if_pos (by rw [q]),if_pos q]
    · rw [if_neg (fun z=>q (Sum.inl.inj z)),if_neg q]
  · rw [if_neg h,if_neg h]
    simp [ents,eV]
theorem get_eV (T:List (Int × Int)) (c:Int):(valV (ents (eV T)) (Sum.inl c:Key)).getD (V.int 0)=V.int (tget T c):=by
  rw [find_eV]
  unfold tget
  cases T.find? fun e=>decide (e.1=c) <;> rfl
theorem any_mem {T:List (Int × Int)} {c:Int}:(T.any fun e=>decide (e.1=c))=true↔c∈T.map (·.1):=by
  simp only [List.any_eq_true,decide_eq_true_eq,List.mem_map]
theorem keys_put (T:List (Int × Int)) (c w:Int):(tput T c w).map (·.1)=if c∈T.map (·.1) then T.map (·.1) else T.map (·.1)++[c]:=by
  unfold tput
  by_cases h:c∈T.map (·.1)
  · rw [if_pos (any_mem.mpr h),if_pos h,List.map_map]
    refine List.map_congr_left fun e _ => ?_
    show (if e.1=c then (e.1,w) else e).1=e.1
    split <;> rfl
  · rw [if_neg (fun q=>h (any_mem.mp q)),if_neg h]
    simp
theorem nodup_put {T:List (Int × Int)} (c w:Int) (h:(T.map (·.1)).Nodup):((tput T c w).map (·.1)).Nodup:=by
  rw [keys_put]
  by_cases q:c∈T.map (·.1)
  · rw [if_pos q]; exact h
  · rw [if_neg q,List.nodup_append]
    exact ⟨h,by simp,fun a ha b hb=>by rw [List.mem_singleton.mp hb]; exact fun e=>q (e▸ha)⟩
theorem get_miss {c:Int} {T:List (Int × Int)} (h:¬ c∈T.map (·.1)):tget T c=0:=by
  unfold tget
  have:(T.find? fun e=>decide (e.1=c))=none:=List.find?_eq_none.mpr fun e he q=>h (List.mem_map.mpr ⟨e,he,of_decide_eq_true q⟩)
  rw [this]; rfl
structure TalOk (T:List (Int × Int)):Prop where
  nd:(T.map (·.1)).Nodup
  rg:∀ c∈T.map (·.1),0≤c∧c≤35
theorem TalOk.nil:TalOk []:=⟨by simp,fun c h=>by simp at h⟩
theorem TalOk.add {T:List (Int × Int)} (h:TalOk T) {c:Int} (v:Int) (hc:0≤c∧c≤35):TalOk (tadd T c v):=by
  refine ⟨nodup_put c _ h.nd,fun x hx => ?_⟩
  unfold tadd at hx
  rw [keys_put] at hx
  by_cases q:c∈T.map (·.1)
  · rw [if_pos q] at hx; exact h.rg x hx
  · rw [if_neg q] at hx
    rcases List.mem_append.mp hx with z | z
    · exact h.rg x z
    · rw [List.mem_singleton.mp z]; exact hc
theorem TalOk.len {T:List (Int × Int)} (h:TalOk T):T.length≤36:=by
  have nd:((T.map (·.1)).map Int.toNat).Nodup:=by
    refine List.pairwise_map.mpr (List.Pairwise.imp_of_mem (fun {a b} ha hb hab q=>hab ?_) h.nd)
    have:=h.rg a ha
    have:=h.rg b hb
    omega
  have:=List.Nodup.length_le_of_subset (l₂:=List.range 36) nd fun x hx=>by
    obtain ⟨c,hc,rfl⟩:=List.mem_map.mp hx
    have:=h.rg c hc
    exact List.mem_range.mpr (by omega)
  simpa using this
theorem tally_snoc (n:Nat) (L:List (List Nat × Int)) (q:List Nat × Int):tally n (L++[q])=tadd (tally n L) q.2 ((4 ^ (n - q.1.length):Nat):Int):=by
  unfold tally
  rw [List.foldl_append]
  rfl
theorem tally_take (n:Nat) {L:List (List Nat × Int)} {i:Nat} {q:List Nat × Int} (h:L[i]? = some q):tally n (L.take (i + 1))=tadd (tally n (L.take i)) q.2 ((4 ^ (n - q.1.length):Nat):Int):=by
  rw [List.take_add_one,h]
  exact tally_snoc n _ q
theorem tally_ok (n:Nat) {L:List (List Nat × Int)} (h:∀ q∈L,0≤q.2∧q.2≤35):∀ i,TalOk (tally n (L.take i))
  | 0=>by rw [List.take_zero]; exact TalOk.nil
  | i + 1=>by
    cases e:L[i]? with
    | none =>
      have:L.length≤i:=List.getElem?_eq_none_iff.mp e
      have e2:L.take (i + 1)=L.take i:=by rw [List.take_of_length_le (by omega),List.take_of_length_le this]
      rw [e2]; exact tally_ok n h i
    | some q =>
      rw [tally_take n e]
      exact (tally_ok n h i).add _ (h q (List.mem_iff_getElem?.mpr ⟨i,e⟩))
theorem tget_mem {T:List (Int × Int)} (nd:(T.map (·.1)).Nodup) {e:Int × Int} (h:e∈T):(T.find? fun x=>decide (x.1=e.1))=some e:=by
  induction T with
  | nil=>simp at h
  | cons a T ih =>
    have nd':=List.nodup_cons.mp nd
    rw [List.find?_cons]
    by_cases q:a.1=e.1
    · rw [decide_eq_true q]
      rcases List.mem_cons.mp h with z | z
      · rw [z]
      · exact absurd (List.mem_map.mpr ⟨e,z,q.symm⟩) nd'.1
    · rw [decide_eq_false q]
      rcases List.mem_cons.mp h with z | z
      · exact absurd (by rw [z]) q
      · exact ih nd'.2 z
def addT:Nat→Tr→List (Int × Int)→List (Int × Int)
  | n,.col i,T=>tadd T i ((4 ^ n:Nat):Int)
  | n,.four a b c d,T=>addT (n - 1) d (addT (n - 1) c (addT (n - 1) b (addT (n - 1) a T)))
theorem addT_fold:∀ (t:Tr) (n:Nat) (z:List Nat) (N:Nat) (T:List (Int × Int)),Good n t→N=n + z.length→(lvs z t).foldl (fun T q=>tadd T q.2 ((4 ^ (N - q.1.length):Nat):Int)) T=addT n t T
  | .col i,n,z,N,T,_,e=>by
    show tadd T i ((4 ^ (N - z.length):Nat):Int)=tadd T i ((4 ^ n:Nat):Int)
    rw [show N - z.length=n by omega]
  | .four a b c d,0,z,N,T,g,e=>g.elim
  | .four a b c d,n + 1,z,N,T,⟨ga,gb,gc,gd,_⟩,e=>by
    have l:∀ k:Nat,N=n + (z++[k]).length:=fun k=>by rw [List.length_append]; show N=n + (z.length + 1); omega
    show (lvs (z++[0]) a++(lvs (z++[1]) b++(lvs (z++[2]) c++lvs (z++[3]) d))).foldl _ T=_
    rw [List.foldl_append,List.foldl_append,List.foldl_append,addT_fold a n _ N T ga (l 0),addT_fold b n _ N _ gb (l 1),addT_fold c n _ N _ gc (l 2),addT_fold d n _ N _ gd (l 3)]
    rfl
theorem tally_addT {n:Nat} {t:Tr} (g:Good n t):tally n (lvs [] t)=addT n t []:=addT_fold t n [] n [] g rfl
def PosT (T:List (Int × Int)):Prop:=∀ e∈T,0 < e.2
theorem PosT.get {T:List (Int × Int)} (h:PosT T) (c:Int):0≤tget T c:=by
  unfold tget
  cases e:T.find? fun e=>decide (e.1=c) with
  | none=>exact Int.le_refl 0
  | some q=>exact Int.le_of_lt (h q (List.mem_of_find?_eq_some e))
theorem PosT.add {T:List (Int × Int)} (h:PosT T) (c:Int) {v:Int} (hv:0 < v):PosT (tadd T c v):=by
  have hg:=h.get c
  unfold tadd tput
  by_cases q:(T.any fun e=>decide (e.1=c))=true
  · rw [if_pos q]
    intro e he
    obtain ⟨e',he',rfl⟩:=List.mem_map.mp he
    by_cases z:e'.1=c
    · rw [if_pos z]; show 0 < tget T c + v; omega
    · rw [if_neg z]; exact h e' he'
  · rw [if_neg q]
    intro e he
    rcases List.mem_append.mp he with z | z
    · exact h e z
    · rw [List.mem_singleton.mp z]; show 0 < tget T c + v; omega
theorem four_pos (n:Nat):(0:Int) < ((4 ^ n:Nat):Int):=by
  have:=Nat.pow_pos (n:=n) (show 0 < 4 by decide)
  omega
theorem addT_pos:∀ (t:Tr) (n:Nat) {T:List (Int × Int)},PosT T→PosT (addT n t T)
  | .col i,n,T,h=>h.add i (four_pos n)
  | .four a b c d,n,T,h=>addT_pos d _ (addT_pos c _ (addT_pos b _ (addT_pos a _ h)))
theorem tadd_has (T:List (Int × Int)) (c v:Int):c∈(tadd T c v).map (·.1):=by
  unfold tadd
  rw [keys_put]
  split
  · assumption
  · simp
theorem addT_some:∀ (t:Tr) (n:Nat) (T:List (Int × Int)),addT n t T≠[]
  | .col i,n,T=>fun e=>by
    have:=tadd_has T i ((4 ^ n:Nat):Int)
    have e':tadd T i ((4 ^ n:Nat):Int)=[]:=e
    rw [e'] at this
    cases this
  | .four a b c d,n,T=>addT_some d (n - 1) _
theorem addT_ok:∀ (t:Tr) (n m:Nat) {T:List (Int × Int)},Good m t→TalOk T→TalOk (addT n t T)
  | .col i,n,m,T,g,h=>h.add _ (by cases m <;> exact g)
  | .four a b c d,n,0,T,g,h=>g.elim
  | .four a b c d,n,m + 1,T,⟨ga,gb,gc,gd,_⟩,h=>addT_ok d _ m gd (addT_ok c _ m gc (addT_ok b _ m gb (addT_ok a _ m ga h)))
def stepM (T:List (Int × Int)) (b:Int) (c:Nat):Int:=if tget T b < tget T (c:Int) then (c:Int) else b
def mostN (T:List (Int × Int)) (k:Nat):Int:=(List.range k).foldl (stepM T) 36
theorem mostN_succ (T:List (Int × Int)) (k:Nat):mostN T (k + 1)=stepM T (mostN T k) k:=by
  unfold mostN
  rw [List.range_succ,List.foldl_append]
  rfl
def mostT (T:List (Int × Int)):Int:=mostN T 36
theorem mostN_eq {T:List (Int × Int)} {M:Nat} (hmax:∀ c,tget T c≤tget T (M:Int)) (hlt:∀ c:Int,c < M→tget T c < tget T (M:Int)) (h36:tget T 36 < tget T (M:Int)):∀ k:Nat,(M < k→mostN T k=(M:Int))∧(k≤M→tget T (mostN T k) < tget T (M:Int))
  | 0=>⟨fun h=>absurd h (Nat.not_lt_zero _),fun _=>h36⟩
  | k + 1=>by
    obtain ⟨i1,i2⟩:=mostN_eq hmax hlt h36 k
    rw [mostN_succ]
    unfold stepM
    refine ⟨fun h => ?_,fun h => ?_⟩
    · by_cases e:M=k
      · subst e
        rw [if_pos (i2 (Nat.le_refl _))]
      · rw [i1 (by omega),if_neg]
        have:=hmax (k:Int)
        omega
    · have j2:=i2 (by omega)
      split
      · exact hlt _ (by omega)
      · exact j2
theorem mostT_eq {T:List (Int × Int)} {M:Int} (h0:0≤M) (h35:M≤35) (hmax:∀ c,tget T c≤tget T M) (hlt:∀ c,c < M→tget T c < tget T M) (h36:tget T 36 < tget T M):mostT T=M:=by
  obtain ⟨m,rfl⟩:∃ m:Nat,M=(m:Int):=⟨M.toNat,by omega⟩
  exact (mostN_eq hmax hlt h36 36).1 (by omega)
theorem mostN_rg (T:List (Int × Int)):∀ k:Nat,(mostN T k=36∨∃ m:Nat,m < k∧mostN T k=(m:Int))∧∀ c:Nat,c < k→tget T (c:Int)≤tget T (mostN T k)
  | 0=>⟨.inl rfl,fun c h=>absurd h (Nat.not_lt_zero _)⟩
  | k + 1=>by
    obtain ⟨i1,i2⟩:=mostN_rg T k
    rw [mostN_succ]
    unfold stepM
    by_cases h:tget T (mostN T k) < tget T (k:Int)
    · rw [if_pos h]
      refine ⟨.inr ⟨k,Nat.lt_succ_self _,rfl⟩,fun c hc => ?_⟩
      by_cases e:c=k
      · rw [e]; exact Int.le_refl _
      · have:=i2 c (by omega)
        omega
    · rw [if_neg h]
      refine ⟨?_,fun c hc => ?_⟩
      · rcases i1 with e | ⟨m,h1,h2⟩
        · exact .inl e
        · exact .inr ⟨m,by omega,h2⟩
      · by_cases e:c=k
        · rw [e]; omega
        · exact i2 c (by omega)
theorem tget_at {T:List (Int × Int)} (nd:(T.map (·.1)).Nodup) {e:Int × Int} (h:e∈T):tget T e.1=e.2:=by
  unfold tget
  rw [tget_mem nd h]
  rfl
theorem mostT_rg {T:List (Int × Int)} (ok:TalOk T) (ps:PosT T) (ne:T≠[]):0≤mostT T∧mostT T≤35:=by
  obtain ⟨i1,i2⟩:=mostN_rg T 36
  rcases i1 with e | ⟨m,h1,h2⟩
  · exfalso
    obtain ⟨q,r,rfl⟩:∃ q r,T=q::r:=by
      cases T with
      | nil=>exact absurd rfl ne
      | cons q r=>exact ⟨q,r,rfl⟩
    have hq:=ok.rg q.1 (List.mem_map.mpr ⟨q,List.mem_cons_self,rfl⟩)
    have p1:=ps q List.mem_cons_self
    have g1:=tget_at ok.nd (e:=q) List.mem_cons_self
    have g2:tget (q::r) 36=0:=get_miss fun h=>by
      have:=ok.rg 36 h
      omega
    have:=i2 q.1.toNat (by omega)
    rw [e,g2,show ((q.1.toNat:Nat):Int)=q.1 by omega,g1] at this
    omega
  · unfold mostT
    rw [h2]
    omega

theorem most_of {T es:List (Int × Int)} (ok:TalOk T) (ps:PosT T) (p:es.Perm T) (pw:(es.map (·.1)).Pairwise (· < ·)) {i:Nat} {e:Int × Int} (hi:es[i]? = some e) (hb:∀ (j:Nat) (x:Int × Int),es[j]? = some x→x.2≤e.2∧(j < i→x.2 < e.2)):mostT T=e.1:=by
  have he:e∈T:=p.mem_iff.mp (List.mem_of_getElem? hi)
  have pe:=ps e he
  have ge:=tget_at ok.nd he
  obtain ⟨r1,r2⟩:=ok.rg e.1 (List.mem_map.mpr ⟨e,he,rfl⟩)
  have key:∀ c:Int,tget T c≤e.2∧(c < e.1→tget T c < e.2):=fun c=>by
    by_cases h:c∈T.map (·.1)
    · obtain ⟨x,hx,rfl⟩:=List.mem_map.mp h
      rw [tget_at ok.nd hx]
      obtain ⟨j,hj⟩:=List.getElem?_of_mem (p.mem_iff.mpr hx)
      obtain ⟨b1,b2⟩:=hb j x hj
      refine ⟨b1,fun hlt=>b2 ?_⟩
      rcases Nat.lt_trichotomy j i with l | l | l
      · exact l
      · rw [l,hi] at hj
        cases hj
        exact absurd hlt (Int.lt_irrefl _)
      · have hj':=(List.getElem?_eq_some_iff.mp hj)
        have hi':=(List.getElem?_eq_some_iff.mp hi)
        have:=List.pairwise_iff_getElem.mp pw i j (by rw [List.length_map]; exact hi'.1) (by rw [List.length_map]; exact hj'.1) l
        rw [List.getElem_map,List.getElem_map,hi'.2,hj'.2] at this
        omega
    · rw [get_miss h]
      exact ⟨by omega,fun _=>pe⟩
  refine mostT_eq r1 r2 (fun c => ?_) (fun c h => ?_) ?_
  · rw [ge]; exact (key c).1
  · rw [ge]; exact (key c).2 h
  · rw [ge,get_miss fun h=>by have:=ok.rg 36 h; omega]
    exact pe
def coarse:Tr→Nat→Nat→Tr
  | .col i,_,_=>.col i
  | .four a b c d,l,k=>if l=k then .col (mostT (addT l (.four a b c d) [])) else gath (coarse a (l - 1) k) (coarse b (l - 1) k) (coarse c (l - 1) k) (coarse d (l - 1) k)
theorem coarse_good:∀ (t:Tr) (l k:Nat),Good l t→k≤l→Good (l - k) (coarse t l k)
  | .col i,l,k,g,h=>by
    have g':0≤i∧i≤35:=by cases l <;> exact g
    show Good (l - k) (.col i)
    cases l - k <;> exact g'
  | .four a b c d,0,k,g,h=>g.elim
  | .four a b c d,l + 1,k,g,h=>by
    show Good (l + 1 - k) (if l + 1=k then _ else _)
    by_cases e:l + 1=k
    · rw [if_pos e]
      have:=mostT_rg (addT_ok _ (l + 1) (l + 1) g TalOk.nil) (addT_pos (.four a b c d) (l + 1) (T:=[]) (fun e h=>by cases h)) (addT_some _ _ _)
      cases l + 1 - k <;> exact this
    · rw [if_neg e]
      obtain ⟨ga,gb,gc,gd,_⟩:=g
      rw [show l + 1 - k=(l - k) + 1 by omega]
      exact good_gath (coarse_good a l k ga (by omega)) (coarse_good b l k gb (by omega)) (coarse_good c l k gc (by omega)) (coarse_good d l k gd (by omega))
theorem coarse_same:∀ (t:Tr) (n m:Nat),Good n t→coarse t (n + m) m=t
  | .col i,n,m,g=>rfl
  | .four a b c d,0,m,g=>g.elim
  | .four a b c d,n + 1,m,⟨ga,gb,gc,gd,e⟩=>by
    show (if n + 1 + m=m then _ else gath (coarse a (n + 1 + m - 1) m) _ _ _)=_
    rw [if_neg (by omega),show n + 1 + m - 1=n + m by omega,coarse_same a n m ga,coarse_same b n m gb,coarse_same c n m gc,coarse_same d n m gd]
    exact gath_no e
theorem coarse_cnt:∀ (t:Tr) (l k:Nat),cnt (coarse t l k)≤cnt t
  | .col i,l,k=>Nat.le_refl _
  | .four a b c d,l,k=>by
    have c1:=cnt_pos a
    have h1:=coarse_cnt a (l - 1) k
    have h2:=coarse_cnt b (l - 1) k
    have h3:=coarse_cnt c (l - 1) k
    have h4:=coarse_cnt d (l - 1) k
    show cnt (if l=k then _ else _)≤cnt a + cnt b + cnt c + cnt d
    split
    · show 1≤_; omega
    · have:=cnt_gath (coarse a (l - 1) k) (coarse b (l - 1) k) (coarse c (l - 1) k) (coarse d (l - 1) k)
      omega
theorem coarse_deep (t:Tr) (l k:Nat) (g:Good l t) (h:k≤l):(coarse t l k).deep≤l:=Nat.le_trans (coarse_good t l k g h).deep (Nat.sub_le _ _)
end Qs


namespace Qs
open PySem L2
set_option genInjectivity false in
structure Yx (K:PySem.W.Frag) (mg:Str→Option Value) where
  c_NoLevel:Addr
  c_NoNumber:Addr
  c_SheetError:Addr
  m_NoLevel:mg "NoLevel" = some (.ref c_NoLevel)
  m_NoNumber:mg "NoNumber" = some (.ref c_NoNumber)
  m_SheetError:mg "SheetError" = some (.ref c_SheetError)
  x_NoLevel:OwnX K mg "NoLevel" c_NoLevel
  k_NoLevel:ExcC K c_NoLevel
  s_NoLevel:PySem.W.exmOne K (.ref c_NoLevel) (.ref c_SheetError)=some true
  v_NoLevel:PySem.W.kitOne K (.ref c_NoLevel) (.type "ValueError")=some true
  t_NoLevel_NoNumber:PySem.W.kitOne K (.ref c_NoLevel) (.ref c_NoNumber)=some false
theorem kit_same {K:PySem.W.Frag} {v:Value}:PySem.W.kitOne K v v=some true:=by unfold PySem.W.kitOne; simp
section
variable {P:Program} {w:World} {K:PySem.W.Frag} {mg:Str→Option Value} {base:Heap} {CX:CXT} {f:Addr} {fd:FuncData}
abbrev s_is_whole:Stmt:=top 6
theorem sc_is_whole:FnScope ["thing"] ["thing"] (defScope s_is_whole):=⟨rfl,rfl,rfl,by decide +kernel,rfl,by decide +kernel,by decide +kernel⟩
def sp_is_whole (K:PySem.W.Frag):Sp:=fun vs H Q _=>∃ x,vs=[x]∧((∃ i,x=.int i∧Q (.bl true) H)∨(∃ b,x=.bl b∧Q (.bl false) H)∨∃ t,TyOf K H x t∧PySem.W.kitOne K t (.type "int")=some false∧Q (.bl false) H)
theorem ok_is_whole (T:Tx K mg) (F:FunD K "is_whole" "is_whole" s_is_whole f fd .none):FnOk P w K mg base CX 1 f fd ["thing"] (sp_is_whole K):=by
  refine F.ok sc_is_whole (fun vs H Q E h => ?_) (fun cdv A outer s H vs Q E hr h => ?_)
  · obtain ⟨x,rfl,_⟩:=h
    rfl
  obtain ⟨x,rfl,h⟩:=h
  refine ⟨_,(pss_one (ps_ret (pe_and (pe_callB (call_isiT "int") rfl T.b_isinstance bb_isinstance (pa_cons (pv 0) (pa_cons (pe_bty T.b_int bt_int) pa_nil))) (pe_one (pe_not (pe_callB (call_isiT "bool") rfl T.b_isinstance bb_isinstance (pa_cons (pv 0) (pa_cons (pe_bty T.b_bool bt_bool) pa_nil)))))))),?_⟩
  rcases h with ⟨i,rfl,q⟩ | ⟨b,rfl,q⟩ | ⟨t,ty,hk,q⟩
  · refine ⟨_,rfl,_,_,_,rfl,.int i,kit_ii,_,rfl,iteT ?_⟩
    exact ⟨_,rfl,_,_,_,rfl,.int i,kit_ib,_,rfl,q⟩
  · refine ⟨_,rfl,_,_,_,rfl,.bl b,kit_bi,_,rfl,iteT ?_⟩
    exact ⟨_,rfl,_,_,_,rfl,.bl b,kit_bb,_,rfl,q⟩
  · exact ⟨_,rfl,_,_,_,rfl,ty,hk,_,rfl,iteF q⟩

def NoInt (K:PySem.W.Frag) (H:Hp) (x:V):Prop:=(∃ b,x=.bl b)∨∃ t,TyOf K H x t∧PySem.W.kitOne K t (.type "int")=some false
abbrev s_is_of_one_colour:Stmt:=top 10
theorem sc_is_of_one_colour:FnScope ["parts","first"] ["parts"] (defScope s_is_of_one_colour):=⟨rfl,rfl,rfl,by decide +kernel,rfl,by decide +kernel,by decide +kernel⟩
def sp_is_one:Sp:=fun vs H Q _=>∃ (l:Addr) (a b c d:V) (ta tb tc td:Tr),vs=[.ref l]∧H l=some (.lst [a,b,c,d])∧TrAt H a ta∧TrAt H b tb∧TrAt H c tc∧TrAt H d td ∧
  (ta.deep≤60∧tb.deep≤60∧tc.deep≤60∧td.deep≤60)∧∀ H',Same H H'→Q (.bl (oneB ta tb tc td)) H'
theorem ok_is_of_one_colour (T:Tx K mg) (F:FunD K "is_of_one_colour" "is_of_one_colour" s_is_of_one_colour f fd .none):FnOk P w K mg base CX 1 f fd ["parts"] sp_is_one:=by
  refine F.ok sc_is_of_one_colour (fun vs H Q E h => ?_) (fun cdv A outer s H vs Q E hr h => ?_)
  · obtain ⟨_,_,_,_,_,_,_,_,_,rfl,_⟩:=h
    rfl
  obtain ⟨l,a,b,c,d,ta,tb,tc,td,rfl,hl,ha,hb,hc,hd,⟨da,db,dc,dd⟩,q'⟩:=h
  refine ⟨_,(pss_cons (ps_set (i:=1) sc_is_of_one_colour.nd rfl (Or.inr rfl) (pe_ix ix_list (pv 0) pe_int (fun _ _=>rfl))) (pss_cons (ps_if (pt_val (pe_callB (call_isiT "tuple") rfl T.b_isinstance bb_isinstance (pa_cons (pv 1) (pa_cons (pe_bty T.b_tuple bt_tuple) pa_nil)))) (pss_one (ps_ret pe_bl)) pss_nil) (pss_one (ps_ret (pe_callB (call_all rfl) rfl T.b_all bb_all (pa_cons (pe_compC (N':=["part","first"]) ["first"] ["first"] [1] 1 (by with_unfolding_all rfl) rfl (capsOk_cons rfl rfl (by decide) capsOk_nil) rfl rfl (by decide) rfl (by decide +kernel) rfl (by decide +kernel) rfl (pi_list (pv 0)) (fun C s0 H0 fp pins=>(pg_name (i:=0) (show (["part","first"]:List Str).Nodup by decide +kernel) rfl (Or.inl rfl) (Or.inr rfl))) (fun C s0 H0 fp pins=>(pe_cmpR (op_eqD hr) (pv 0) (pv 1) (nomark _)))) pa_nil)))))),?_⟩
  refine ⟨_,rfl,l,_,_,a,rfl,rfl,SqL.of hl,rfl,?_⟩
  cases ha with
  | four e =>
    refine ⟨_,rfl,_,_,_,rfl,.tup e,kit_tt,_,rfl,iteT ?_⟩
    exact q' H (Same.refl H)
  | col i =>
    refine ⟨_,rfl,_,_,_,rfl,.int i,kit_it,_,rfl,iteF ?_⟩
    have full:∃ bs:List Bool,bs=[decide (Tr.col i=Tr.col i),decide (tb=.col i),decide (tc=.col i),decide (td=.col i)]:=⟨_,rfl⟩
    obtain ⟨bs,ebs⟩:=full
    have hi:TrAt H (.int i) (.col i):=.col i
    refine ⟨[.int i],rfl,_,rfl,l,rfl,⟨_,SqL.of hl⟩,compC_list [.int i,b,c,d] (fun D j ys H'=>Same H H'∧H' D=some (.lst ys)∧j≤4∧ys=(bs.take j).map V.bl) (by show 4≤sizeLine; decide) (fun D j ys H' h=>SqL.of (h.1 _ _ hl))
      (fun D j ys H' h=>⟨h.2.1,by rw [h.2.2.2]; simp; omega⟩) (fun D hD=>⟨Same.new hD _,upd_same,by decide,rfl⟩) ?_ ?_ (fun _ _ _ _ _ k h=>k _ _ h) ?_⟩
    · rintro D j x ys H' hx hD ⟨s1,s2,s3,s4⟩
      have key:∃ tx,TrAt H x tx∧tx.deep≤60∧bs[j]? = some (decide (tx=.col i)):=by
        rcases at4 hx with ⟨rfl,rfl⟩ | ⟨rfl,rfl⟩ | ⟨rfl,rfl⟩ | ⟨rfl,rfl⟩
        · exact ⟨_,hi,Nat.zero_le _,by rw [ebs]; rfl⟩
        · exact ⟨_,hb,db,by rw [ebs]; rfl⟩
        · exact ⟨_,hc,dc,by rw [ebs]; rfl⟩
        · exact ⟨_,hd,dd,by rw [ebs]; rfl⟩
      obtain ⟨tx,htx,dx,ex⟩:=key
      refine ⟨rfl,_,rfl,_,rfl,tx.data,(Tr.col i).data,(htx.up s1.tups).dat,.int i,Tr.shaped (by omega),Tr.shaped (Nat.zero_le _),s2,Same.set s1 hD _,upd_same,?_,?_⟩
      · have:=(List.getElem?_eq_some_iff.mp hx).1
        exact this
      · rw [Tr.eqv,List.take_add_one,ex,s4,List.map_append]; rfl
    · rintro D ys H' hD ⟨s1,s2,s3,s4⟩
      refine ⟨D,bs,rfl,SqL.of (by rw [s2,s4]; congr 2; rw [ebs]; rfl),?_⟩
      have e:bs.all id=oneB (.col i) tb tc td:=by rw [ebs]; rfl
      rw [e]
      exact q' H' s1
    · intro σ H' R R' k h
      obtain ⟨x1,e1,x2,e2,d1,d2,p1,p2,p3,p4,h⟩:=h
      exact ⟨x1,e1,x2,e2,d1,d2,p1,p2,p3,p4,k _ _ h⟩
abbrev s_gathered:Stmt:=top 11
theorem sc_gathered:FnScope ["parts"] ["parts"] (defScope s_gathered):=⟨rfl,rfl,rfl,by decide +kernel,rfl,by decide +kernel,by decide +kernel⟩
def sp_gathered:Sp:=fun vs H Q _=>∃ (l:Addr) (a b c d:V) (ta tb tc td:Tr),vs=[.ref l]∧H l=some (.lst [a,b,c,d])∧TrAt H a ta∧TrAt H b tb∧TrAt H c tc∧TrAt H d td ∧
  (ta.deep≤60∧tb.deep≤60∧tc.deep≤60∧td.deep≤60)∧∀ v H',Same H H'→TrAt H' v (gath ta tb tc td)→Q v H'
theorem ok_gathered (T:Tx K mg) (q:Quiet CX) (F:FunD K "gathered" "gathered" s_gathered f fd .none) (C_is_of_one_colour:Fok P w K mg base CX 1 "is_of_one_colour" ["parts"] [] sp_is_one):FnOk P w K mg base CX 2 f fd ["parts"] sp_gathered:=by
  refine F.ok sc_gathered (fun vs H Q E h => ?_) (fun cdv A outer s H vs Q E hr h => ?_)
  · obtain ⟨_,_,_,_,_,_,_,_,_,rfl,_⟩:=h
    rfl
  obtain ⟨l,a,b,c,d,ta,tb,tc,td,rfl,hl,ha,hb,hc,hd,dp,q'⟩:=h
  refine ⟨_,(pss_cons (ps_if (pt_val (pe_callF C_is_of_one_colour q hr (pa_cons (pv 0) pa_nil))) (pss_one (ps_ret (pe_ix ix_list (pv 0) pe_int (fun _ _=>rfl)))) pss_nil) (pss_one (ps_ret (pe_callTy call_tuple_of rfl T.b_tuple bt_tuple (pa_cons (pv 0) pa_nil))))),?_⟩
  refine ⟨_,rfl,l,a,b,c,d,ta,tb,tc,td,rfl,hl,ha,hb,hc,hd,dp,fun H1 s1=>⟨_,rfl,ite2 (fun e => ?_) (fun e => ?_)⟩⟩
  · refine ⟨_,rfl,l,_,_,a,rfl,rfl,SqL.of (s1 _ _ hl),rfl,q' a H1 s1 ?_⟩
    unfold gath
    rw [if_pos e]
    exact ha.up s1.tups
  · refine ⟨_,rfl,l,_,rfl,.inl ⟨SqL.of (s1 _ _ hl),fun p hp=>q' _ _ (s1.trans (Same.new hp _)) ?_⟩⟩
    unfold gath
    rw [if_neg e]
    have s2:=(s1.trans (Same.new hp (.tup [a,b,c,d]))).tups
    exact .four upd_same (ha.up s2) (hb.up s2) (hc.up s2) (hd.up s2)
abbrev s_width_of:Stmt:=top 8
theorem sc_width_of:FnScope ["level","wide","step"] ["level"] (defScope s_width_of):=⟨rfl,rfl,rfl,by decide +kernel,rfl,by decide +kernel,by decide +kernel⟩
def sp_width_of:Sp:=fun vs H Q _=>∃ n:Nat,vs=[.int n]∧n≤64∧Q (.int ((2 ^ n:Nat):Int)) H
theorem ok_width_of (T:Tx K mg) (F:FunD K "width_of" "width_of" s_width_of f fd .none):FnOk P w K mg base CX 1 f fd ["level"] sp_width_of:=by
  refine F.ok sc_width_of (fun vs H Q E h => ?_) (fun cdv A outer s H vs Q E hr h => ?_)
  · obtain ⟨x,rfl,_⟩:=h
    rfl
  obtain ⟨n,rfl,hn,q'⟩:=h
  refine ⟨_,(pss_cons (ps_set (i:=1) sc_width_of.nd rfl (Or.inl rfl) pe_int) (pss_cons (ps_for PassesOwn.never rfl (pi_range1 rfl T.b_range (pa_cons (pv 0) pa_nil)) (pg_name (i:=2) sc_width_of.nd rfl (Or.inl rfl)) (pss_one (ps_set (i:=1) sc_width_of.nd rfl (Or.inl rfl) (pe_op op_mul (pv 1) pe_int)))) (pss_one (ps_ret (pv 1))))),?_⟩
  refine ⟨_,rfl,_,rfl,by omega,by omega,for_range (fun i σ H2=>H2=H∧∃ x v,x=((2 ^ i:Nat):Int)∧σ=[some (.int n),some (.int x),v]) ⟨rfl,1,none,rfl,rfl⟩ ?_ ?_⟩
  · rintro i σ H2 hi ⟨rfl,x,v,rfl,rfl⟩
    refine ⟨_,rfl,_,_,rfl,rfl,.inr ⟨by decide,by decide⟩,rfl,_,_,?_,rfl⟩
    rw [Nat.pow_succ,Int.natCast_mul]; rfl
  · rintro σ H2 ⟨rfl,x,v,rfl,rfl⟩
    have e:((n:Int)).toNat=n:=Int.toNat_natCast n
    refine ⟨_,rfl,?_⟩
    rw [e]
    exact q'
end
end Qs


namespace Qs
open PySem L2

def PaV (H:Hp) (n:Nat) (u:V) (q:List Nat × Int):Prop:=∃ p z,u=.ref p∧H p=some (.tup [.str z,.int q.2])∧IsC z∧dig z=q.1∧z.length≤n∧0≤q.2∧q.2≤35
theorem PaV.up {H H':Hp} {n:Nat} {u:V} {q:List Nat × Int} (h:PaV H n u q) (s:Tups H H'):PaV H' n u q:=by
  obtain ⟨p,z,e,hp,h⟩:=h
  exact ⟨p,z,e,s _ _ hp,h⟩
inductive PasAt (H:Hp) (n:Nat):List V→List (List Nat × Int)→Prop
  | nil:PasAt H n [] []
  | cons {u:V} {q:List Nat × Int} {us:List V} {L:List (List Nat × Int)}:PaV H n u q→PasAt H n us L→PasAt H n (u::us) (q::L)
theorem PasAt.up {H H':Hp} {n:Nat} {us:List V} {L:List (List Nat × Int)} (h:PasAt H n us L) (s:Tups H H'):PasAt H' n us L:=by
  induction h with
  | nil=>exact .nil
  | cons p _ ih=>exact .cons (p.up s) ih
theorem PasAt.len {H:Hp} {n:Nat} {us:List V} {L:List (List Nat × Int)} (h:PasAt H n us L):us.length=L.length:=by
  induction h with
  | nil=>rfl
  | cons p _ ih=>simp [ih]
theorem PasAt.app {H:Hp} {n:Nat} {us vs:List V} {L M:List (List Nat × Int)} (h:PasAt H n us L) (k:PasAt H n vs M):PasAt H n (us++vs) (L++M):=by
  induction h with
  | nil=>exact k
  | cons p _ ih=>exact .cons p ih
theorem PasAt.get {H:Hp} {n:Nat} {us:List V} {L:List (List Nat × Int)} (h:PasAt H n us L):∀ {i:Nat} {u:V},us[i]? = some u→∃ q,L[i]? = some q∧PaV H n u q:=by
  induction h with
  | nil=>intro i u e; simp at e
  | cons p _ ih =>
    intro i u e
    rcases i with _ | i
    · exact ⟨_,rfl,by rw [← Option.some.inj e]; exact p⟩
    · exact ih (by simpa using e)
end Qs
namespace Qs
open PySem L2
theorem dig_app (a b:Str):dig (a++b)=dig a++dig b:=by
  unfold dig
  show (a.cps++b.cps).toList.map _=_
  simp
theorem dig_one (d:Nat):dig (one d)=[d]:=by
  show [48 + d - 48]=[d]
  rw [show 48 + d - 48=d by omega]
theorem big {n:Nat} (h:n≤1000000):n≤sizeLine:=Nat.le_trans h (by decide)
theorem big' {n:Nat} (h:n≤1000000):n < sizeLine:=Nat.lt_of_le_of_lt h (by decide)
theorem log_small4:∀ n:Nat,n < 4→((n:Int)).natAbs.log2 < 1920:=by decide +kernel
theorem str_one {d:Nat} (h:d < 4):Str.ofString (toString ((d:Nat):Int))=one d :=
  four (P:=fun d=>Str.ofString (toString ((d:Nat):Int))=one d) (by decide +kernel) (by decide +kernel) (by decide +kernel) (by decide +kernel) h
theorem shl_four (n:Nat):(1:Int) * 2 ^ ((2 * (n:Int))).toNat=((4 ^ n:Nat):Int):=by
  rw [show (2 * (n:Int)).toNat=2 * n by omega,Int.one_mul,show 4 ^ n=2 ^ (2 * n) by rw [Nat.pow_mul]]
  exact (Int.natCast_pow 2 (2 * n)).symm
section
variable {P:Program} {w:World} {K:PySem.W.Frag} {mg:Str→Option Value} {base:Heap} {CX:CXT} {f:Addr} {fd:FuncData}
abbrev s_leaves_below:Stmt:=top 13
theorem sc_leaves_below:FnScope ["tree","code","row","quarter"] ["tree","code"] (defScope s_leaves_below):=⟨rfl,rfl,rfl,by decide +kernel,rfl,by decide +kernel,by decide +kernel⟩
def sp_leaves_below (m:Nat):Sp:=fun vs H Q _=>∃ (v:V) (t:Tr) (z:Str) (k n:Nat),vs=[v,.str z]∧TrAt H v t∧Good k t∧IsC z∧z.length + k≤n∧n≤40∧k < m∧m≤41∧cnt t≤4000∧∀ l us H',Same H H'→H l=none→H' l=some (.lst us)→PasAt H' n us (lvs (dig z) t)→Q (.ref l) H'
theorem ok_leaves_below (T:Tx K mg) (q:Quiet CX) (F:FunD K "leaves_below" "leaves_below" s_leaves_below f fd .none) (b:Binds K fd ["tree","code"] []) (m:mg "leaves_below" = some (.ref f)) :
    ∀ n,FnOk P w K mg base CX (1 + n) f fd ["tree","code"] (sp_leaves_below n)
  | 0=>by
    refine F.ok sc_leaves_below (fun vs H Q E h => ?_) (fun cdv A outer s H vs Q E hr h => ?_)
    · obtain ⟨_,_,_,_,_,rfl,_⟩:=h
      rfl
    obtain ⟨_,_,_,_,_,_,_,_,_,_,_,h,_⟩:=h
    exact absurd h (Nat.not_lt_zero _)
  | m' + 1=>by
    have C_leaves_below:Fok P w K mg base CX (1 + m') "leaves_below" ["tree","code"] [] (sp_leaves_below m'):=fok F (ok_leaves_below T q F b m m') b m
    refine F.ok sc_leaves_below (fun vs H Q E h => ?_) (fun cdv A outer s H vs Q E hr h => ?_)
    · obtain ⟨_,_,_,_,_,rfl,_⟩:=h
      rfl
    obtain ⟨v,t,z,k,n,rfl,ht,gt,hz,hl,hn,hk,hm,hc,q'⟩:=h
    refine ⟨_,(pss_cons (ps_if (pt_not (pt_val (pe_callB (call_isiT "tuple") rfl T.b_isinstance bb_isinstance (pa_cons (pv 0) (pa_cons (pe_bty T.b_tuple bt_tuple) pa_nil))))) (pss_one (ps_ret (pe_lstx (pax_c (pe_tupx (pax_c (pv 1) (pax_c (pv 0) pax_nil))) pax_nil)))) pss_nil) (pss_cons (ps_set (i:=2) sc_leaves_below.nd rfl (Or.inl rfl) (pe_lstx pax_nil)) (pss_cons (ps_for PassesOwn.never rfl (pi_range1 rfl T.b_range (pa_cons pe_int pa_nil)) (pg_name (i:=3) sc_leaves_below.nd rfl (Or.inl rfl)) (pss_one (ps_expr (pe_bm PySem.F.plainAttrs_list PySem.F.slot_list_extend PySem.F.type_list_extend mt_extend (pv 2) (pa_cons (pe_callF C_leaves_below q hr (pa_cons (pe_ix ix_tup (pv 0) (pv 3) (fun _ _=>rfl)) (pa_cons (pe_op op_add_str (pv 1) (pe_callTy call_str_int rfl T.b_str bt_str (pa_cons (pv 3) pa_nil))) pa_nil)) (hj:=by first | decide | omega | (simp only [Nat.add_eq]; omega))) pa_nil))))) (pss_one (ps_ret (pv 2)))))),?_⟩
    cases ht with
    | col i =>
      have g':0≤i∧i≤35:=by cases k <;> exact gt
      refine ⟨_,rfl,_,_,_,rfl,.int _,kit_it,_,rfl,iteT ?_⟩
      refine ⟨_,rfl,_,rfl,(by show 2≤sizeLine; decide),fun p hp => ?_⟩
      have s1:=Same.new hp (.tup [.str z,.int i])
      have u1:upd H p (.tup [.str z,.int i]) p=some (.tup [.str z,.int i]):=upd_same
      generalize upd H p (.tup [.str z,.int i])=H1 at *
      refine ⟨(by show 1≤sizeLine; decide),fun l hl1 => ?_⟩
      have s2:=Same.new hl1 (.lst [.ref p])
      exact q' l _ _ (s1.trans s2) (Same.none s1 hl1) upd_same (.cons ⟨p,z,rfl,s2 _ _ u1,hz,rfl,by omega,g'⟩ .nil)
    | @four p xa xb xc xd ta tb tc td e ja jb jc jd =>
      rcases k with _ | k
      · exact gt.elim
      obtain ⟨ga,gb,gc,gd,ho⟩:=gt
      have hc':cnt ta + cnt tb + cnt tc + cnt td≤4000:=hc
      refine ⟨_,rfl,_,_,_,rfl,.tup e,kit_tt,_,rfl,iteF ?_⟩
      refine ⟨(by show 0≤sizeLine; decide),fun l hl1 => ?_⟩
      have s1:=Same.new hl1 (.lst [])
      have u1:upd H l (.lst []) l=some (.lst []):=upd_same
      generalize upd H l (.lst [])=H1 at *
      obtain ⟨ps,eps⟩:∃ ps:List (List (List Nat × Int)),ps=[lvs (dig z++[0]) ta,lvs (dig z++[1]) tb,lvs (dig z++[2]) tc,lvs (dig z++[3]) td]:=⟨_,rfl⟩
      have lps:ps.length=4:=by rw [eps]; rfl
      have tot:ps.flatten.length≤4000:=by
        rw [eps]
        simp only [List.flatten_cons,List.flatten_nil,List.append_nil,List.length_append,lvs_count]
        omega
      refine ⟨4,rfl,by decide,by decide,for_range (fun j σ H2=>Same H H2∧∃ (us:List V) (o3:Option V),H2 l=some (.lst us)∧j≤4∧PasAt H2 n us (ps.take j).flatten∧σ=[some (.ref p),some (.str z),some (.ref l),o3]) ⟨s1,[],none,u1,by decide,.nil,rfl⟩ ?_ ?_⟩
      · rintro j σ H2 hj ⟨s2,us,o3,u2,hj4,hus,rfl⟩
        have hj4:j < 4:=hj
        rw [show (0:Int) + (j:Int)=(j:Int) from Int.zero_add _]
        have key:∃ x t',atI [xa,xb,xc,xd] (j:Int)=some x∧TrAt H x t'∧Good k t'∧cnt t'≤4000∧ps[j]? = some (lvs (dig z++[j]) t'):=by
          rw [eps]
          rcases j with _ | _ | _ | _ | j
          · exact ⟨xa,ta,rfl,ja,ga,by omega,rfl⟩
          · exact ⟨xb,tb,rfl,jb,gb,by omega,rfl⟩
          · exact ⟨xc,tc,rfl,jc,gc,by omega,rfl⟩
          · exact ⟨xd,td,rfl,jd,gd,by omega,rfl⟩
          · omega
        obtain ⟨x,t',k1,k2,k3,k4,k5⟩:=key
        have l1:(one j).length=1:=rfl
        refine ⟨_,rfl,.inl ⟨rfl,_,SqL.of u2⟩,_,rfl,_,rfl,p,_,_,x,rfl,rfl,SqT.of (s2 _ _ e),k1,_,rfl,_,rfl,(j:Int),rfl,log_small4 j hj4,?_⟩
        rw [str_one hj4]
        refine ⟨_,_,rfl,rfl,(by rw [l1]; exact small (by omega)),x,t',z++one j,k,n,rfl,k2.up s2.tups,k3,IsC.app hz (IsC.one hj4),by rw [app_len,l1]; omega,hn,by omega,by omega,k4,fun l2 us2 H3 s3 hl2 u3 hus2 => ?_⟩
        rw [dig_app,dig_one] at hus2
        have u2':=s3 _ _ u2
        have et:(ps.take (j + 1)).flatten=(ps.take j).flatten++lvs (dig z++[j]) t':=by rw [List.take_add_one,k5,List.flatten_append]; simp
        have n1:=hus.len
        have n2:=hus2.len
        have n3:(ps.take j).flatten.length≤ps.flatten.length:=by
          conv=>rhs; rw [← List.take_append_drop j ps,List.flatten_append,List.length_append]
          omega
        have n4:=lvs_count t' (dig z++[j])
        have tl:=Tups.lst (ys:=us++us2) u2'
        refine ⟨l,l2,us,us2,rfl,rfl,u2',u3,big (by omega),Same.set (s2.trans s3) hl1 _,us++us2,_,upd_same,hj4,?_,rfl⟩
        rw [et]
        exact (hus.up (s3.tups.trans tl)).app (hus2.up tl)
      · rintro σ H2 ⟨s2,us,o3,u2,hj4,hus,rfl⟩
        have e4:(ps.take 4).flatten=lvs (dig z) (.four ta tb tc td):=by
          rw [List.take_of_length_le (by omega),eps]
          simp [lvs]
        have hus':PasAt H2 n us (ps.take 4).flatten:=hus
        rw [e4] at hus'
        exact ⟨_,rfl,q' l us H2 s2 hl1 u2 hus'⟩
abbrev s_leaves:Stmt:=top 14
theorem sc_leaves:FnScope ["sheet"] ["sheet"] (defScope s_leaves):=⟨rfl,rfl,rfl,by decide +kernel,rfl,by decide +kernel,by decide +kernel⟩
def sp_leaves:Sp:=fun vs H Q _=>∃ (v:V) (t:Tr) (n:Nat),vs=[v]∧ShAt H v n t∧Good n t∧n≤40∧cnt t≤4000∧∀ l us H',Same H H'→H l=none→H' l=some (.lst us)→PasAt H' n us (lvs [] t)→Q (.ref l) H'
theorem ok_leaves (T:Tx K mg) (q:Quiet CX) (F:FunD K "leaves" "leaves" s_leaves f fd .none) (C_leaves_below:Fok P w K mg base CX 42 "leaves_below" ["tree","code"] [] (sp_leaves_below 41)):FnOk P w K mg base CX 43 f fd ["sheet"] sp_leaves:=by
  refine F.ok sc_leaves (fun vs H Q E h => ?_) (fun cdv A outer s H vs Q E hr h => ?_)
  · obtain ⟨_,_,_,rfl,_⟩:=h
    rfl
  obtain ⟨v,t,n,rfl,⟨p,x,rfl,hp,hx⟩,gt,hn,hc,q'⟩:=h
  refine ⟨_,(pss_one (ps_ret (pe_callF C_leaves_below q hr (pa_cons (pe_ix ix_tup (pv 0) pe_int (fun _ _=>rfl)) (pa_cons pe_str pa_nil))))),?_⟩
  refine ⟨_,rfl,p,_,_,_,rfl,rfl,SqT.of hp,rfl,x,t,("" : Str),n,n,rfl,hx,gt,empty_eq▸IsC.nil,by rw [show ("" : Str).length=0 by decide +kernel]; omega,hn,by omega,by decide,hc,fun l us H' s' hl u' hus => ?_⟩
  rw [dig_empty] at hus
  exact q' l us H' s' hl u' hus
end
end Qs
namespace Qs
open PySem L2
theorem eV_back {es':List (Int × V)} {T:List (Int × Int)} (p:es'.Perm (eV T)):∃ es:List (Int × Int),es.Perm T∧es'=eV es∧es.map (·.1)=es'.map (·.1):=by
  have g:∀ e:Int × Int,(fun e:Int × V=>((e.1,match e.2 with | .int i=>i | _=>0):Int × Int)) ((fun e:Int × Int=>(e.1,V.int e.2)) e)=e:=fun e=>rfl
  refine ⟨es'.map fun e=>(e.1,match e.2 with | .int i=>i | _=>0),?_,?_,?_⟩
  · have:=p.map fun e:Int × V=>((e.1,match e.2 with | .int i=>i | _=>0):Int × Int)
    unfold eV at this
    rw [List.map_map] at this
    have e:T.map ((fun e:Int × V=>((e.1,match e.2 with | .int i=>i | _=>0):Int × Int)) ∘ fun e:Int × Int=>(e.1,V.int e.2))=T:=by
      conv=>rhs; rw [← List.map_id T]
      exact List.map_congr_left fun e _=>rfl
    rw [e] at this
    exact this
  · unfold eV
    rw [List.map_map]
    conv=>lhs; rw [← List.map_id es']
    refine List.map_congr_left fun e he => ?_
    obtain ⟨a,_,rfl⟩:=List.mem_map.mp (p.mem_iff.mp he)
    rfl
  · rw [List.map_map]
    rfl
theorem col_rg:∀ (t:Tr) (z:List Nat) (k:Nat),Good k t→∀ q∈lvs z t,0≤q.2∧q.2≤35
  | .col i,z,k,g,q,h=>by
    rw [List.mem_singleton.mp h]
    cases k <;> exact g
  | .four a b c d,z,0,g,q,h=>g.elim
  | .four a b c d,z,k + 1,g,q,h=>by
    have h':q∈lvs (z++[0]) a++(lvs (z++[1]) b++(lvs (z++[2]) c++lvs (z++[3]) d)):=h
    simp only [List.mem_append] at h'
    obtain ⟨g1,g2,g3,g4,_⟩:=g
    rcases h' with h | h | h | h
    · exact col_rg a _ k g1 q h
    · exact col_rg b _ k g2 q h
    · exact col_rg c _ k g3 q h
    · exact col_rg d _ k g4 q h
theorem four_sq (k:Nat):((2 ^ k:Nat):Int) * ((2 ^ k:Nat):Int)=((4 ^ k:Nat):Int):=by
  rw [← Int.natCast_mul,← Nat.mul_pow]
section
variable {P:Program} {w:World} {K:PySem.W.Frag} {mg:Str→Option Value} {base:Heap} {CX:CXT} {f:Addr} {fd:FuncData}
abbrev s_areas:Stmt:=top 15
theorem sc_areas:FnScope ["sheet","places","code","colour","wide"] ["sheet"] (defScope s_areas):=⟨rfl,rfl,rfl,by decide +kernel,rfl,by decide +kernel,by decide +kernel⟩
def sp_areas:Sp:=fun vs H Q _=>∃ (v:V) (t:Tr) (n:Nat),vs=[v]∧ShAt H v n t∧Good n t∧n≤40∧cnt t≤4000∧∀ (l:Addr) (us:List V) (es:List (Int × Int)) (H':Hp),Same H H'→H l=none→H' l=some (.lst us)→es.Perm (tally n (lvs [] t))→(es.map (·.1)).Pairwise (· < ·)→EU H H' us (eV es)→Q (.ref l) H'
theorem ok_areas (T:Tx K mg) (q:Quiet CX) (F:FunD K "areas" "areas" s_areas f fd .none) (C_leaves:Fok P w K mg base CX 43 "leaves" ["sheet"] [] sp_leaves) (C_width_of:Fok P w K mg base CX 1 "width_of" ["level"] [] sp_width_of):FnOk P w K mg base CX 44 f fd ["sheet"] sp_areas:=by
  refine F.ok sc_areas (fun vs H Q E h => ?_) (fun cdv A outer s H vs Q E hr h => ?_)
  · obtain ⟨_,_,_,rfl,_⟩:=h
    rfl
  obtain ⟨v,t,n,rfl,⟨p,x,rfl,hp,hx⟩,gt,hn,hc,q'⟩:=h
  refine ⟨_,(pss_cons (ps_set (i:=1) sc_areas.nd rfl (Or.inl rfl) pe_dnewK) (pss_cons (ps_for PassesOwn.never rfl (pi_list (pe_callF C_leaves q hr (pa_cons (pv 0) pa_nil))) (pg_tup rfl (pgs_cons (pg_name (i:=2) sc_areas.nd rfl (Or.inl rfl)) (pgs_cons (pg_name (i:=3) sc_areas.nd rfl (Or.inl rfl)) pgs_nil))) (pss_cons (ps_set (i:=4) sc_areas.nd rfl (Or.inl rfl) (pe_callF C_width_of q hr (pa_cons (pe_op op_sub (pe_ix ix_tup (pv 0) pe_int (fun _ _=>rfl)) (pe_callB call_len rfl T.b_len bb_len (pa_cons (pv 2) pa_nil))) pa_nil))) (pss_one (ps_dput hr.dic (pv 1) (pv 3) (pe_op op_add (pe_dget2 hr.dic (pv 1) (pv 3) pe_int ⟨rfl,rfl,rfl,rfl⟩) (pe_op op_mul (pv 4) (pv 4))) (swaps_of rfl))))) (pss_one (ps_ret (pe_sortI rfl rfl T.b_sorted (pv 1)))))),?_⟩
  refine fun d hd => ?_
  have s1:Same H (upd H d (.dK [])):=Same.new hd _
  have d1:upd H d (.dK []) d=some (.dK []):=upd_same
  generalize upd H d (.dK [])=H1 at *
  refine ⟨_,rfl,.ref p,t,n,rfl,⟨p,x,rfl,s1 _ _ hp,hx.up s1.tups⟩,gt,hn,hc,fun l us H2 s2 hl u2 hus => ?_⟩
  have ll:=hus.len
  have hld:l≠d:=fun z=>by rw [z,d1] at hl; cases hl
  refine ⟨l,rfl,⟨_,SqL.of u2⟩,for_list (xs:=us) (fun i σ H3=>Same H H3∧(∀ b o,b≠d→H2 b=some o→H3 b=some o)∧H3 d=some (.dK (ents (eV (tally n ((lvs [] t).take i)))))∧∃ o2 o3 o4:Option V,σ=[some (.ref p),some (.ref d),o2,o3,o4]) ⟨s1.trans s2,fun _ _ _ e=>e,s2 _ _ d1,none,none,none,rfl⟩ (fun i σ H3 _ h=>SqL.of (h.2.1 _ _ hld u2)) ?_ ?_⟩
  · rintro i u σ H3 hu ⟨s3,k3,d3,o2,o3,o4,rfl⟩
    obtain ⟨pq,eq,r,z,rfl,hr',hz,ez,lz,hcc⟩:=hus.get hu
    have hrd:r≠d:=fun q=>by rw [q,s2 _ _ d1] at hr'; cases hr'
    have zs:z.length≤sizeLine:=small (by omega)
    refine ⟨r,_,rfl,SqT.of (k3 _ _ hrd hr'),rfl,_,_,rfl,_,_,rfl,rfl,?_⟩
    refine ⟨_,rfl,p,_,_,_,rfl,rfl,SqT.of (s3 _ _ hp),rfl,_,rfl,_,_,rfl,⟨zs,rfl⟩,_,_,rfl,rfl,n - z.length,?_,by omega,?_⟩
    · show [V.int ((n:Int) - (z.length:Int))]=[V.int ((n - z.length:Nat):Int)]
      rw [show (n:Int) - (z.length:Int)=((n - z.length:Nat):Int) by omega]
    have tok:=tally_ok n (col_rg t [] n gt) i
    have hW:((2 ^ (n - z.length):Nat):Int) < 2 ^ 64:=by
      have h1:2 ^ (n - z.length)≤2 ^ 40:=Nat.pow_le_pow_right (by decide) (by omega)
      have h2:(2 ^ 40:Nat)=1099511627776:=by decide
      omega
    have hW0:-(2 ^ 64) < ((2 ^ (n - z.length):Nat):Int):=Int.lt_of_lt_of_le (by decide) (Int.natCast_nonneg _)
    have eT:=tally_take n eq
    generalize tally n ((lvs [] t).take i)=T0 at *
    refine ⟨_,rfl,d,rfl,.inl ⟨_,.inl d3⟩,_,rfl,_,DGet.k (k:=Sum.inl pq.2) d3,_,rfl,_,rfl,_,_,rfl,rfl,.inl ⟨hW0,hW⟩,tget T0 pq.2,_,get_eV T0 pq.2,rfl,_,rfl,_,rfl,d,_,rfl,DPut.k (k:=Sum.inl pq.2) d3 ?_,Same.set s3 hd _,fun b o hb e=>by rw [upd_ne hb]; exact k3 b o hb e,?_,_,_,_,rfl⟩
    · have:=tok.len
      show (ents (eV T0)).length < sizeLine
      unfold ents eV
      rw [List.length_map,List.length_map]
      exact big' (by omega)
    · rw [upd_same,put_eV,eT]
      unfold tadd
      rw [four_sq,← ez,dig_len]
  · rintro σ H3 ⟨s3,k3,d3,o2,o3,o4,rfl⟩
    rw [ll,List.take_length] at d3
    have tok:=tally_ok n (col_rg t [] n gt) (lvs [] t).length
    rw [List.take_length] at tok
    refine ⟨_,rfl,d,eV (tally n (lvs [] t)),rfl,d3,?_,fun S H' us' es' sm hS hS' pm pw eu => ?_⟩
    · have:=tok.len
      unfold eV
      rw [List.length_map]
      omega
    · obtain ⟨es,e1,e2,e3⟩:=eV_back pm
      rw [e2] at eu
      rw [← e3] at pw
      refine q' S us' es H' (s3.trans sm) (Same.none s3 hS) hS' e1 pw ⟨eu.1,fun j u hj => ?_⟩
      obtain ⟨a,e,g1,g2,g3,g4⟩:=eu.2 j u hj
      exact ⟨a,e,g1,g2,Same.none s3 g3,g4⟩
end
end Qs


namespace Qs
open PySem L2

def BadI (K:PySem.W.Frag) (H:Hp) (m:Int) (x:V):Prop:=(∃ i,x=.int i∧¬ (0≤i∧i≤m))∨NoInt K H x
end Qs
namespace Qs
open PySem L2
theorem sameT_put {T:List (Addr × Str)} {H H1:Hp} {D:Addr} (s:SameT T H H1) (n:H D=none) (o:HO):SameT T H (upd H1 D o):=fun b o' e hb=>by
  rw [upd_ne (ne_of_none e n)]
  exact s b o' e hb
theorem tabs_put {T:List (Addr × Str)} {H:Hp} {D:Addr} {o o':HO} (t:Tabs T H) (e:H D=some o) (h1:∀ ps,o≠.tbl ps) (h2:∀ c q,o≠codeE c q):Tabs T (upd H D o'):=fun q hq=>by
  obtain ⟨ps,g1,g2,g3⟩:=t q hq
  have n1:q.1≠D:=fun z=>by rw [z,e] at g1; exact h1 _ (Option.some.inj g1)
  refine ⟨ps,by rw [upd_ne n1]; exact g1,g2,fun pos cv hc => ?_⟩
  obtain ⟨c',e1,e2⟩:=g3 pos cv hc
  exact ⟨c',e1,by rw [upd_ne fun z=>by rw [z,e] at e2; exact h2 _ _ (Option.some.inj e2)]; exact e2⟩
section
variable {P:Program} {w:World} {K:PySem.W.Frag} {mg:Str→Option Value} {base:Heap} {CX:CXT} {f:Addr} {fd:FuncData}
abbrev s_need_number_to:Stmt:=top 17
theorem sc_need_number_to:FnScope ["number","most"] ["number","most"] (defScope s_need_number_to):=⟨rfl,rfl,rfl,by decide +kernel,rfl,by decide +kernel,by decide +kernel⟩
def sp_nnX (Y:Yx K mg):Sp:=fun vs H Q E=>∃ (x:V) (m:Nat),vs=[x,.int (m:Int)]∧((∃ k:Nat,x=.int (k:Int)∧k≤m∧Q .non H)∨(BadI K H m x∧E (.ref Y.c_NoLevel) none H))
theorem ok_need_number_to (T:Tx K mg) (Y:Yx K mg) (q:Quiet (CXe P w)) (F:FunD K "need_number_to" "need_number_to" s_need_number_to f fd .none) (C_is_whole:Fok P w K mg base (CXe P w) 1 "is_whole" ["thing"] [] (sp_is_whole K)):FnOk P w K mg base (CXe P w) 2 f fd ["number","most"] (sp_nnX Y):=by
  refine F.okX sc_need_number_to (fun vs H Q E h => ?_) (fun cdv A outer s H vs Q E hr h => ?_)
  · obtain ⟨_,_,rfl,_⟩:=h
    rfl
  obtain ⟨x,m,rfl,h⟩:=h
  refine ⟨_,(pss_one (ps_if (PW.pt (pw_or (pt_not (pt_val (pe_callF C_is_whole q hr (pa_cons (pv 0) pa_nil)))) (pw_or1 (pt_not (pt_chain op_le op_le pe_int (pv 0) (pv 1)))))) (pss_one (ps_raise Y.x_NoLevel raisesE pe_str)) pss_nil)),?_⟩
  rcases h with ⟨k,rfl,hk,q'⟩ | ⟨⟨i,rfl,hi⟩ | ⟨b,rfl⟩ | ⟨ty,h1,h2⟩,q'⟩
  · refine ⟨_,rfl,_,rfl,.inl ⟨(k:Int),rfl,_,rfl,iteF ?_⟩⟩
    refine ⟨_,rfl,_,_,rfl,rfl,_,rfl,ite2 (fun _ => ?_) (fun c=>absurd (decide_eq_true (show (0:Int)≤(k:Int) by omega)) c)⟩
    refine ⟨_,rfl,_,_,rfl,rfl,_,rfl,ite2 (fun c => ?_) (fun _=>q')⟩
    have c':(!decide ((k:Int)≤(m:Int)))=true:=c
    rw [decide_eq_true (show (k:Int)≤(m:Int) by omega)] at c'
    cases c'
  · refine ⟨_,rfl,_,rfl,.inl ⟨i,rfl,_,rfl,iteF ?_⟩⟩
    refine ⟨_,rfl,_,_,rfl,rfl,_,rfl,ite2 (fun c => ?_) (fun _=>⟨_,rfl,iteT q'⟩)⟩
    have c':(0:Int)≤i:=of_decide_eq_true c
    refine ⟨_,rfl,_,_,rfl,rfl,_,rfl,ite2 (fun _=>q') (fun d => ?_)⟩
    have d':¬ i≤(m:Int):=fun h=>hi ⟨c',h⟩
    exact absurd (show (!decide (i≤(m:Int)))=true by rw [decide_eq_false d']; rfl) d
  · exact ⟨_,rfl,_,rfl,.inr (.inl ⟨b,rfl,_,rfl,iteT q'⟩)⟩
  · exact ⟨_,rfl,_,rfl,.inr (.inr ⟨ty,h1,h2,_,rfl,iteT q'⟩)⟩
abbrev s_finer:Stmt:=top 18
theorem sc_finer:FnScope ["sheet","number"] ["sheet","number"] (defScope s_finer):=⟨rfl,rfl,rfl,by decide +kernel,rfl,by decide +kernel,by decide +kernel⟩
def sp_finerX (Y:Yx K mg):Sp:=fun vs H Q E=>∃ (p:Addr) (n:Nat) (v x:V),vs=[.ref p,x]∧H p=some (.tup [.int (n:Int),v])∧n≤40∧((∃ k:Nat,x=.int (k:Int)∧k≤40 - n∧∀ q H',Same H H'→H' q=some (.tup [.int ((n + k:Nat):Int),v])→Q (.ref q) H')∨(BadI K H ((40 - n:Nat):Int) x∧∀ H',Same H H'→E (.ref Y.c_NoLevel) none H'))
theorem ok_finer (T:Tx K mg) (Y:Yx K mg) (q:Quiet (CXe P w)) (F:FunD K "finer" "finer" s_finer f fd .none) (C_need_number_to:Fok P w K mg base (CXe P w) 2 "need_number_to" ["number","most"] [] (sp_nnX Y)):FnOk P w K mg base (CXe P w) 3 f fd ["sheet","number"] (sp_finerX Y):=by
  refine F.okX sc_finer (fun vs H Q E h => ?_) (fun cdv A outer s H vs Q E hr h => ?_)
  · obtain ⟨_,_,_,_,rfl,_⟩:=h
    rfl
  obtain ⟨p,n,v,x,rfl,hp,hn,h⟩:=h
  refine ⟨_,(pss_cons (ps_expr (pe_callX C_need_number_to hr passE (pa_cons (pv 1) (pa_cons (pe_op op_sub (pe_gint T.c_MOST) (pe_ix ix_tup (pv 0) pe_int (fun _ _=>rfl))) pa_nil)))) (pss_one (ps_ret (pe_tupx (pax_c (pe_op op_add (pe_ix ix_tup (pv 0) pe_int (fun _ _=>rfl)) (pv 1)) (pax_c (pe_ix ix_tup (pv 0) pe_int (fun _ _=>rfl)) pax_nil)))))),?_⟩
  refine ⟨_,rfl,_,rfl,p,_,_,_,rfl,rfl,SqT.of hp,rfl,_,_,rfl,rfl,x,40 - n,?_,?_⟩
  · show [x,V.int (40 - (n:Int))]=[x,V.int ((40 - n:Nat):Int)]
    rw [show (40:Int) - (n:Int)=((40 - n:Nat):Int) by omega]
  rcases h with ⟨k,rfl,hk,q'⟩ | ⟨hb,q'⟩
  · refine .inl ⟨k,rfl,hk,?_⟩
    refine ⟨_,rfl,p,_,_,_,rfl,rfl,SqT.of hp,rfl,_,rfl,_,_,rfl,rfl,_,rfl,p,_,_,_,rfl,rfl,SqT.of hp,rfl,(by show 2≤sizeLine; decide),fun r hr' => ?_⟩
    exact q' r _ (Same.new hr' _) (by rw [upd_same]; rfl)
  · exact .inr ⟨hb,q' H (Same.refl H)⟩
abbrev s_most_frequent:Stmt:=top 19
theorem sc_most_frequent:FnScope ["sheet"] ["sheet"] (defScope s_most_frequent):=⟨rfl,rfl,rfl,by decide +kernel,rfl,by decide +kernel,by decide +kernel⟩
abbrev qMost:Str:=("most_frequent" : Str) ++ ".<locals>." ++ "<lambda>"
def sp_most_frequent (Tb:List (Addr × Str)):Sp:=fun vs H Q _=>∃ (v:V) (t:Tr) (n:Nat),vs=[v]∧ShAt H v n t∧Good n t∧n≤40∧cnt t≤4000∧Tabs Tb H∧∀ H',SameT Tb H H'→Tabs Tb H'→Q (.int (mostT (addT n t []))) H'
theorem ok_most_frequent (T:Tx K mg) (q:Quiet CX) {Tb:List (Addr × Str)} {Pt:Addr} (F:FunT K "most_frequent" "most_frequent" s_most_frequent f fd .none Pt) (KX:K.In base) (hB:BMain mg base) (hT:(Pt,qMost)∈Tb) (hnd:(Tb.map (·.1)).Nodup) (C_areas:Fok P w K mg base CX 44 "areas" ["sheet"] [] sp_areas):FnOk P w K mg base CX 45 f fd ["sheet"] (sp_most_frequent Tb):=by
  refine F.ok KX sc_most_frequent (fun vs H Q E h => ?_) (fun c A outer s H vs Q E hC hr h => ?_)
  · obtain ⟨_,_,_,rfl,_⟩:=h
    rfl
  obtain ⟨v,t,n,rfl,hsh,gt,hn,hc,hTb,q'⟩:=h
  refine ⟨_,(pss_one (ps_ret (pe_ix ix_tup (pe_maxK hr T.b_max hB hC rfl hT hnd rfl (by exact ⟨rfl,rfl,rfl,by decide +kernel,by decide +kernel,by decide +kernel,by decide +kernel,by decide +kernel⟩) (pa_cons (pe_callF C_areas q hr (pa_cons (pv 0) pa_nil)) pa_nil)) pe_int (fun _ _=>rfl)))),?_⟩
  refine ⟨_,rfl,v,t,n,rfl,hsh,gt,hn,hc,fun l us es H1 s1 hl u1 pm pw eu => ?_⟩
  rw [tally_addT gt] at pm
  have ok:=addT_ok t n n gt TalOk.nil
  have ps:=addT_pos t n (T:=[]) (fun e h=>by cases h)
  have ne:=addT_some t n []
  have elen:us.length=es.length:=by
    have:=eu.1
    unfold eV at this
    rw [List.length_map] at this
    exact this
  have epos:0 < es.length:=by
    rw [pm.length_eq]
    exact List.length_pos_iff.mpr ne
  have at_:∀ (i:Nat) (u:V),us[i]? = some u→∃ (a:Addr) (e:Int × Int),u=.ref a∧es[i]? = some e∧H1 a=some (.tup [.int e.1,.int e.2]):=fun i u hu=>by
    obtain ⟨a,e',h1,h2,_,h4⟩:=eu.2 i u hu
    unfold eV at h2
    rw [List.getElem?_map] at h2
    obtain ⟨e,h5,rfl⟩:=Option.map_eq_some_iff.mp h2
    exact ⟨a,e,h1,h5,h4⟩
  refine ⟨l,us,es.map (·.2),rfl,u1,by omega,fun i u hu => ?_,s1.tabs hTb,fun i u k H2 st2 tb2 hu hk hbest => ?_⟩
  · obtain ⟨a,e,h1,h2,h3⟩:=at_ i u hu
    exact ⟨a,_,e.2,h1,h3,by rw [List.getElem?_map,h2]; rfl⟩
  obtain ⟨a,e,rfl,h2,h3⟩:=at_ i u hu
  rw [List.getElem?_map,h2] at hk
  obtain rfl:e.2=k:=Option.some.inj hk
  have em:mostT (addT n t [])=e.1:=most_of ok ps pm pw h2 fun j x hj=>hbest j x.2 (by have:=(List.getElem?_eq_some_iff.mp hj).1; omega) (by rw [List.getElem?_map,hj]; rfl)
  rw [em] at q'
  exact ⟨a,_,_,_,rfl,rfl,SqT.of (st2.tups (s1.tabs hTb) _ _ h3),rfl,q' H2 (s1.toT.trans st2) tb2⟩
abbrev s_coarser_tree:Stmt:=top 20
theorem sc_coarser_tree:FnScope ["tree","level","number"] ["tree","level","number"] (defScope s_coarser_tree):=⟨rfl,rfl,rfl,by decide +kernel,rfl,by decide +kernel,by decide +kernel⟩
def sp_coarser_tree (Tb:List (Addr × Str)) (m:Nat):Sp:=fun vs H Q _=>∃ (v:V) (t:Tr) (l k:Nat),vs=[v,.int (l:Int),.int (k:Int)]∧TrAt H v t∧Good l t∧l≤40∧k≤l∧cnt t≤4000∧t.deep < m∧m≤41∧Tabs Tb H∧∀ v' H',SameT Tb H H'→Tabs Tb H'→TrAt H' v' (coarse t l k)→Q v' H'
theorem ok_coarser_tree (T:Tx K mg) (q:Quiet CX) {Tb:List (Addr × Str)} (F:FunD K "coarser_tree" "coarser_tree" s_coarser_tree f fd .none) (C_most_frequent:Fok P w K mg base CX 45 "most_frequent" ["sheet"] [] (sp_most_frequent Tb)) (C_gathered:Fok P w K mg base CX 2 "gathered" ["parts"] [] sp_gathered) (b:Binds K fd ["tree","level","number"] []) (m:mg "coarser_tree" = some (.ref f)) :
    ∀ n,FnOk P w K mg base CX (46 + n) f fd ["tree","level","number"] (sp_coarser_tree Tb n)
  | 0=>by
    have C_coarser_tree:=fokF (P:=P) (w:=w) (base:=base) (CX:=CX) F b m
    refine F.ok sc_coarser_tree (fun vs H Q E h => ?_) (fun cdv A outer s H vs Q E hr h => ?_)
    · obtain ⟨_,_,_,_,rfl,_⟩:=h
      rfl
    obtain ⟨v,t,l,k,rfl,ht,gt,hl,hk,hc,hd,_⟩:=h
    exact absurd hd (Nat.not_lt_zero _)
  | n + 1=>by
    have C_coarser_tree:Fok P w K mg base CX (46 + n) "coarser_tree" ["tree","level","number"] [] (sp_coarser_tree Tb n):=fok F (ok_coarser_tree T q F C_most_frequent C_gathered b m n) b m
    refine F.ok sc_coarser_tree (fun vs H Q E h => ?_) (fun cdv A outer s H vs Q E hr h => ?_)
    · obtain ⟨_,_,_,_,rfl,_⟩:=h
      rfl
    obtain ⟨v,t,l,k,rfl,ht,gt,hl,hk,hc,hd,hm,hTb,q'⟩:=h
    refine ⟨_,(pss_cons (ps_if (pt_not (pt_val (pe_callB (call_isiT "tuple") rfl T.b_isinstance bb_isinstance (pa_cons (pv 0) (pa_cons (pe_bty T.b_tuple bt_tuple) pa_nil))))) (pss_one (ps_ret (pv 0))) pss_nil) (pss_cons (ps_if (pt_cmpR op_eq (pv 1) (pv 2) (nomark _)) (pss_one (ps_ret (pe_callF C_most_frequent q hr (pa_cons (pe_tupx (pax_c (pv 1) (pax_c (pv 0) pax_nil))) pa_nil) (hj:=by first | decide | omega | (simp only [Nat.add_eq]; omega))))) pss_nil) (pss_one (ps_ret (pe_callF C_gathered q hr (pa_cons (pe_compC (N':=["part","number","level"]) ["number","level"] ["number","level"] [2,1] 1 (by with_unfolding_all rfl) rfl (capsOk_cons rfl rfl (by decide) (capsOk_cons rfl rfl (by decide) capsOk_nil)) rfl rfl (by decide) rfl (by decide +kernel) rfl (by decide +kernel) rfl (pi_tup (pv 0)) (fun C s0 H0 fp pins=>(pg_name (i:=0) (show (["part","number","level"]:List Str).Nodup by decide +kernel) rfl (Or.inl rfl) (Or.inr rfl))) (fun C s0 H0 fp pins=>(pe_callF C_coarser_tree q hr (pa_cons (pv 0) (pa_cons (pe_op op_sub (pv 2) pe_int) (pa_cons (pv 1) pa_nil))) (hj:=by first | decide | omega | (simp only [Nat.add_eq]; omega))))) pa_nil) (hj:=by first | decide | omega | (simp only [Nat.add_eq]; omega))))))),?_⟩
    cases ht with
    | col i=>exact ⟨_,rfl,_,_,_,rfl,.int i,kit_it,_,rfl,iteT ⟨_,rfl,q' _ H (SameT.refl H) hTb (.col i)⟩⟩
    | @four p xa xb xc xd ta tb tc td e ja jb jc jd =>
      refine ⟨_,rfl,_,_,_,rfl,.tup e,kit_tt,_,rfl,iteF ?_⟩
      cases l with
      | zero=>exact gt.elim
      | succ l =>
      refine ⟨_,rfl,_,rfl,rfl,_,rfl,ite2 (fun c => ?_) (fun c => ?_)⟩
      · have c':l + 1=k:=by
          have:=V.int.inj (of_decide_eq_true c)
          omega
        subst c'
        refine ⟨_,rfl,_,rfl,(by show 2≤sizeLine; decide),fun ps hps => ?_⟩
        have s1:=Same.new hps (.tup [.int ((l + 1:Nat):Int),.ref p])
        refine ⟨.ref ps,.four ta tb tc td,l + 1,rfl,⟨ps,.ref p,rfl,upd_same,(TrAt.four e ja jb jc jd).up s1.tups⟩,gt,hl,hc,s1.tabs hTb,fun H2 st2 tb2 => ?_⟩
        refine q' _ H2 (s1.toT.trans st2) tb2 ?_
        unfold coarse
        rw [if_pos rfl]
        exact .col _
      · have c':l + 1≠k:=fun z=>c (decide_eq_true (by rw [z]))
        obtain ⟨ga,gb,gc,gd,_⟩:=id gt
        have hd':max ta.deep (max tb.deep (max tc.deep td.deep)) + 1 < n + 1:=hd
        have hc':cnt ta + cnt tb + cnt tc + cnt td≤4000:=hc
        have pick:∀ {j:Nat} {x:V},[xa,xb,xc,xd][j]? = some x→j < 4∧TrAt H x (pk4 ta tb tc td j)∧Good l (pk4 ta tb tc td j)∧(pk4 ta tb tc td j).deep < n∧cnt (pk4 ta tb tc td j)≤4000:=fun {j x} hx=>by
          rcases at4 hx with ⟨rfl,rfl⟩ | ⟨rfl,rfl⟩ | ⟨rfl,rfl⟩ | ⟨rfl,rfl⟩
          · exact ⟨by decide,ja,ga,by show ta.deep < n; omega,by show cnt ta≤4000; omega⟩
          · exact ⟨by decide,jb,gb,by show tb.deep < n; omega,by show cnt tb≤4000; omega⟩
          · exact ⟨by decide,jc,gc,by show tc.deep < n; omega,by show cnt tc≤4000; omega⟩
          · exact ⟨by decide,jd,gd,by show td.deep < n; omega,by show cnt td≤4000; omega⟩
        refine ⟨[.int (k:Int),.int ((l + 1:Nat):Int)],rfl,_,rfl,p,rfl,⟨_,SqT.of e⟩,compC_tup [xa,xb,xc,xd] (fun D j ys H'=>SameT Tb H H'∧Tabs Tb H'∧H' D=some (.lst ys)∧j≤4∧ys.length=j∧∀ i y,ys[i]? = some y→TrAt H' y (coarse (pk4 ta tb tc td i) l k)) (by show 4≤sizeLine; decide) (fun D j ys H' h=>SqT.of (h.1.tups hTb _ _ e))
          (fun D j ys H' h=>⟨h.2.2.1,by rw [h.2.2.2.2.1]; exact Nat.le_refl _⟩) (fun D hD=>⟨(Same.new hD _).toT,(Same.new hD _).tabs hTb,upd_same,by decide,rfl,fun i y hy=>by simp at hy⟩) ?_ ?_ (fun _ _ _ _ _ k h=>k _ _ h) ?_⟩
        · rintro D j x ys H' hx hD ⟨s1,tb1,s2,s3,s4,s5⟩
          obtain ⟨hj,jx,gx,dx,cx⟩:=pick hx
          refine ⟨rfl,_,rfl,_,rfl,_,_,rfl,rfl,_,rfl,x,pk4 ta tb tc td j,l,k,?_,jx.up (s1.tups hTb),gx,by omega,by omega,cx,dx,by omega,tb1,fun v' H2 st2 tb2 hv => ?_⟩
          · show [x,V.int (((l + 1:Nat):Int) - 1),V.int (k:Int)]=_
            rw [show ((l + 1:Nat):Int) - 1=(l:Int) by omega]
          have uD:=st2.keep tb1 s2 (by intro ps z; cases z)
          have tl:=Tups.lst (ys:=ys++[v']) uD
          refine ⟨uD,sameT_put (s1.trans st2) hD _,tabs_put tb2 uD (by intro ps z; cases z) (by intro c q z; cases z),upd_same,by omega,by rw [List.length_append,s4]; rfl,fun i z hz => ?_⟩
          rcases Nat.lt_or_ge i ys.length with hi | hi
          · rw [List.getElem?_append_left hi] at hz
            exact (s5 i z hz).up ((st2.tups tb1).trans tl)
          · rw [List.getElem?_append_right hi] at hz
            have h0:i - ys.length=0:=by
              rcases h:i - ys.length with _ | k
              · rfl
              · rw [h] at hz; simp at hz
            rw [h0] at hz
            have ei:i=j:=by omega
            rw [← Option.some.inj hz,ei]
            exact hv.up tl
        · rintro D ys H' hD ⟨s1,tb1,s2,s3,s4,s5⟩
          have s4':ys.length=4:=s4
          obtain ⟨y0,y1,y2,y3,rfl⟩:∃ y0 y1 y2 y3,ys=[y0,y1,y2,y3]:=by
            match ys,s4' with
            | [y0,y1,y2,y3],_=>exact ⟨y0,y1,y2,y3,rfl⟩
          have d0:=coarse_deep ta l k ga (by omega)
          have d1:=coarse_deep tb l k gb (by omega)
          have d2:=coarse_deep tc l k gc (by omega)
          have d3:=coarse_deep td l k gd (by omega)
          refine ⟨D,y0,y1,y2,y3,_,_,_,_,rfl,s2,s5 0 y0 rfl,s5 1 y1 rfl,s5 2 y2 rfl,s5 3 y3 rfl,⟨Nat.le_trans d0 (by omega),Nat.le_trans d1 (by omega),Nat.le_trans d2 (by omega),Nat.le_trans d3 (by omega)⟩,fun v' H2 s6 hv => ?_⟩
          refine q' v' H2 (s1.trans s6.toT) (s6.tabs tb1) ?_
          unfold coarse
          rw [if_neg c']
          exact hv
        · rintro σ H' R R' kk ⟨a0,e0,a1,e1,i,j,e2,e3,a2,e4,x,t',l',k',e5,g1,g2,g3,g4,g5,g6,g7,g8,g9⟩
          exact ⟨a0,e0,a1,e1,i,j,e2,e3,a2,e4,x,t',l',k',e5,g1,g2,g3,g4,g5,g6,g7,g8,fun v H2 h1 h2 h3=>kk _ _ (g9 v H2 h1 h2 h3)⟩
abbrev s_coarser:Stmt:=top 21
theorem sc_coarser:FnScope ["sheet","number"] ["sheet","number"] (defScope s_coarser):=⟨rfl,rfl,rfl,by decide +kernel,rfl,by decide +kernel,by decide +kernel⟩
def sp_coarserX (Y:Yx K mg) (Tb:List (Addr × Str)):Sp:=fun vs H Q E=>∃ (p:Addr) (n:Nat) (v x:V) (t:Tr),vs=[.ref p,x]∧H p=some (.tup [.int (n:Int),v])∧TrAt H v t∧Good n t∧n≤40∧cnt t≤4000∧Tabs Tb H∧((∃ k:Nat,x=.int (k:Int)∧k≤n∧∀ q v' H',SameT Tb H H'→Tabs Tb H'→H' q=some (.tup [.int ((n - k:Nat):Int),v'])→TrAt H' v' (coarse t n k)→Q (.ref q) H')∨(BadI K H (n:Int) x∧∀ H',Same H H'→E (.ref Y.c_NoLevel) none H'))
theorem ok_coarser (T:Tx K mg) (Y:Yx K mg) (q:Quiet (CXe P w)) {Tb:List (Addr × Str)} (F:FunD K "coarser" "coarser" s_coarser f fd .none) (C_need_number_to:Fok P w K mg base (CXe P w) 2 "need_number_to" ["number","most"] [] (sp_nnX Y)) (C_coarser_tree:Fok P w K mg base (CXe P w) 87 "coarser_tree" ["tree","level","number"] [] (sp_coarser_tree Tb 41)):FnOk P w K mg base (CXe P w) 88 f fd ["sheet","number"] (sp_coarserX Y Tb):=by
  refine F.okX sc_coarser (fun vs H Q E h => ?_) (fun cdv A outer s H vs Q E hr h => ?_)
  · obtain ⟨_,_,_,_,_,rfl,_⟩:=h
    rfl
  obtain ⟨p,n,v,x,t,rfl,hp,ht,gt,hn,hc,hTb,h⟩:=h
  refine ⟨_,(pss_cons (ps_expr (pe_callX C_need_number_to hr passE (pa_cons (pv 1) (pa_cons (pe_ix ix_tup (pv 0) pe_int (fun _ _=>rfl)) pa_nil)))) (pss_one (ps_ret (pe_tupx (pax_c (pe_op op_sub (pe_ix ix_tup (pv 0) pe_int (fun _ _=>rfl)) (pv 1)) (pax_c (pe_callF C_coarser_tree q hr (pa_cons (pe_ix ix_tup (pv 0) pe_int (fun _ _=>rfl)) (pa_cons (pe_ix ix_tup (pv 0) pe_int (fun _ _=>rfl)) (pa_cons (pv 1) pa_nil)))) pax_nil)))))),?_⟩
  refine ⟨_,rfl,_,rfl,p,_,_,_,rfl,rfl,SqT.of hp,rfl,x,n,rfl,?_⟩
  rcases h with ⟨k,rfl,hk,q'⟩ | ⟨hb,q'⟩
  · refine .inl ⟨k,rfl,hk,?_⟩
    refine ⟨_,rfl,p,_,_,_,rfl,rfl,SqT.of hp,rfl,_,rfl,_,_,rfl,rfl,_,rfl,p,_,_,_,rfl,rfl,SqT.of hp,rfl,_,rfl,p,_,_,_,rfl,rfl,SqT.of hp,rfl,_,rfl,v,t,n,k,rfl,ht,gt,hn,hk,hc,Nat.lt_succ_of_le (Nat.le_trans gt.deep hn),Nat.le_refl _,hTb,fun v' H2 st2 tb2 hv => ?_⟩
    refine ⟨(by show 2≤sizeLine; decide),fun r hr' => ?_⟩
    have s3:=Same.new hr' (.tup [.int ((n:Int) - (k:Int)),v'])
    refine q' r v' _ (st2.trans s3.toT) (s3.tabs tb2) ?_ (hv.up s3.tups)
    rw [upd_same]
    show some (HO.tup [V.int ((n:Int) - (k:Int)),v'])=_
    rw [show (n:Int) - (k:Int)=((n - k:Nat):Int) by omega]
  · exact .inr ⟨hb,q' H (Same.refl H)⟩
end
end Qs


namespace Qs
open PySem L2
theorem shaped4 {a b c d:Tr} (ha:a.deep≤60) (hb:b.deep≤60) (hc:c.deep≤60) (hd:d.deep≤60):SeqAt.shaped (.list [a.data,b.data,c.data,d.data])=true:=by
  have e1:(PyData.list [a.data,b.data,c.data,d.data]).canLay0=true:=by
    show (a.data.canLay0 && (b.data.canLay0 && (c.data.canLay0 && (d.data.canLay0 && true))))=true
    rw [Tr.lay a,Tr.lay b,Tr.lay c,Tr.lay d]; rfl
  have e2:(PyData.list [a.data,b.data,c.data,d.data]).depth≤64:=by
    show max a.data.depth (max b.data.depth (max c.data.depth (max d.data.depth 0))) + 1≤64
    rw [Tr.depth a,Tr.depth b,Tr.depth c,Tr.depth d]; omega
  unfold SeqAt.shaped
  rw [e1,decide_eq_true e2]; rfl
theorem eqv4 (a b c d a' b' c' d':Tr):PyData.eqv (.list [a.data,b.data,c.data,d.data]) (.list [a'.data,b'.data,c'.data,d'.data])=decide (a=a'∧b=b'∧c=c'∧d=d'):=by
  show (PyData.eqv a.data a'.data && (PyData.eqv b.data b'.data && (PyData.eqv c.data c'.data && (PyData.eqv d.data d'.data && true))))=_
  rw [Tr.eqv a a',Tr.eqv b b',Tr.eqv c c',Tr.eqv d d']
  by_cases h1:a=a' <;> by_cases h2:b=b' <;> by_cases h3:c=c' <;> by_cases h4:d=d' <;> simp [h1,h2,h3,h4]
theorem or2 {c A R:Prop} [Decidable c] (h:A) (g:A→R):if c then A else R:=by
  by_cases hc:c
  · rw [if_pos hc]; exact h
  · rw [if_neg hc]; exact g h
def cell (ns:List Int) (k:Nat):Int:=(ns[k]?).getD 0
section
variable {P:Program} {w:World} {K:PySem.W.Frag} {mg:Str→Option Value} {base:Heap} {CX:CXT} {f:Addr} {fd:FuncData}
abbrev s_law_at:Stmt:=top 23
theorem sc_law_at:FnScope ["_law_script","_law_k"] ["_law_script","_law_k"] (defScope s_law_at):=⟨rfl,rfl,rfl,by decide +kernel,rfl,by decide +kernel,by decide +kernel⟩
def sp_law_at (K:PySem.W.Frag):Sp:=fun vs H Q _=>∃ (a:Addr) (ns:List Int) (k:Nat),vs=[.ref a,.int k]∧SqL K H a (ns.map V.int)∧ns.length≤63∧Q (.int (cell ns k)) H
theorem ok_law_at (T:Tx K mg) (F:FunD K "_law_at" "_law_at" s_law_at f fd .none):FnOk P w K mg base CX 1 f fd ["_law_script","_law_k"] (sp_law_at K):=by
  refine F.ok sc_law_at (fun vs H Q E h => ?_) (fun cdv A outer s H vs Q E hr h => ?_)
  · obtain ⟨_,_,_,rfl,_⟩:=h
    rfl
  obtain ⟨a,ns,k,rfl,hS,hl,q'⟩:=h
  refine ⟨_,(pss_cons (ps_if (pt_cmpR op_lt (pv 1) (pe_callB call_len rfl T.b_len bb_len (pa_cons (pv 0) pa_nil)) (nomark _)) (pss_one (ps_ret (pe_ix ix_list (pv 0) (pv 1) (fun _ _=>rfl)))) pss_nil) (pss_one (ps_ret pe_int))),?_⟩
  refine ⟨_,rfl,_,rfl,_,_,rfl,.inl ⟨_,hS,rfl⟩,_,_,rfl,rfl,_,rfl,ite2 (fun c => ?_) (fun c => ?_)⟩
  · have c':(k:Int) < (((ns.map V.int).length:Nat):Int):=of_decide_eq_true c
    rw [List.length_map] at c'
    have hk:k < ns.length:=by omega
    have e:(ns.map V.int)[k]? = some (.int (cell ns k)):=by simp [cell,hk]
    exact ⟨_,rfl,_,rfl,a,_,_,_,rfl,rfl,hS,atI_nat e,q'⟩
  · have c':¬ (k:Int) < (((ns.map V.int).length:Nat):Int):=fun z=>c (decide_eq_true z)
    rw [List.length_map] at c'
    have e:cell ns k=0:=by
      have:ns[k]? = none:=List.getElem?_eq_none (by omega)
      simp [cell,this]
    rw [e] at q'
    exact q'
end
end Qs
namespace Qs
open PySem L2
theorem cutV_len2 (xs:List V) (a m:Nat):(cutV xs (some (a:Int)) (some ((a:Int) + (m:Int)))).length≤m:=by
  unfold cutV
  rw [List.length_take]
  have e0:HT.sIx xs.length 0 (some (a:Int))=min a xs.length:=by
    unfold HT.sIx
    first | (simp; omega) | (dsimp only; split <;> omega)
  have e1:HT.sIx xs.length xs.length (some ((a:Int) + (m:Int)))=min (a + m) xs.length:=by
    unfold HT.sIx
    first | (simp; omega) | (dsimp only; split <;> omega)
  rw [e0,e1]
  omega
theorem cutV_mem {xs:List V} {lo hi:Option Int} {u:V} (h:u∈cutV xs lo hi):u∈xs:=by
  unfold cutV at h
  exact List.mem_of_mem_drop (List.mem_of_mem_take h)
section
variable {P:Program} {w:World} {K:PySem.W.Frag} {mg:Str→Option Value} {base:Heap} {CX:CXT} {f:Addr} {fd:FuncData}
abbrev s_law_mix:Stmt:=top 24
theorem sc_law_mix:FnScope ["_law_cell","_law_k","_law_value"] ["_law_cell","_law_k"] (defScope s_law_mix):=⟨rfl,rfl,rfl,by decide +kernel,rfl,by decide +kernel,by decide +kernel⟩
def sp_law_mix:Sp:=fun vs H Q _=>∃ (c:Int) (k:Nat),vs=[.int c,.int k]∧k≤100000∧∀ m:Int,0≤m→Q (.int m) H
theorem ok_law_mix (T:Tx K mg) (F:FunD K "_law_mix" "_law_mix" s_law_mix f fd .none):FnOk P w K mg base CX 1 f fd ["_law_cell","_law_k"] sp_law_mix:=by
  refine F.ok sc_law_mix (fun vs H Q E h => ?_) (fun cdv A outer s H vs Q E hr h => ?_)
  · obtain ⟨_,_,rfl,_⟩:=h
    rfl
  obtain ⟨c,k,rfl,hk,q'⟩:=h
  refine ⟨_,(pss_cons (ps_set (i:=2) sc_law_mix.nd rfl (Or.inl rfl) (pe_op op_mod (pe_op op_mul (pe_op op_add (pe_op op_add (pe_op op_mod (pv 0) pe_int) (pe_op op_mul pe_int (pv 1))) pe_int) (pe_op op_add pe_int (pe_op op_mul pe_int (pv 1)))) pe_int)) (pss_one (ps_ret (pe_op op_fdivW (pe_op op_mod (pe_op op_mul (pe_op op_add (pe_op op_fdivW (pv 2) pe_int) (pv 1)) pe_int) pe_int) pe_int)))),?_⟩
  refine ⟨_,rfl,_,_,rfl,rfl,(by show (0:Int) < 998244353; decide),_,rfl,_,_,rfl,rfl,.inl ⟨by decide,by decide⟩,_,_,rfl,rfl,_,_,rfl,rfl,?_⟩
  refine ⟨_,rfl,_,_,rfl,rfl,.inl ⟨by decide,by decide⟩,_,_,rfl,rfl,_,_,rfl,rfl,.inr ⟨by omega,by omega⟩,_,_,rfl,rfl,(by show (0:Int) < 2147483647; decide),?_⟩
  refine ⟨_,rfl,_,_,rfl,rfl,cdivW (by decide) (by decide),_,rfl,_,_,rfl,rfl,_,_,rfl,rfl,.inr ⟨by decide,by decide⟩,_,_,rfl,rfl,(by show (0:Int) < 2147483629; decide),_,_,rfl,rfl,cdivW (by decide) (by decide),?_⟩
  refine q' _ ?_
  exact Int.ediv_nonneg (Int.emod_nonneg _ (by decide)) (by decide)
abbrev s_law_code:Stmt:=top 25
theorem sc_law_code:FnScope ["_law_cell","_law_size","_law_code_here","_law_k"] ["_law_cell","_law_size"] (defScope s_law_code):=⟨rfl,rfl,rfl,by decide +kernel,rfl,by decide +kernel,by decide +kernel⟩
def sp_law_code:Sp:=fun vs H Q _=>∃ (c:Int) (n:Nat),vs=[.int c,.int n]∧n≤64∧∀ z:Str,IsC z→z.length=n→Q (.str z) H
theorem ok_law_code (T:Tx K mg) (q:Quiet CX) (F:FunD K "_law_code" "_law_code" s_law_code f fd .none) (C__law_mix:Fok P w K mg base CX 1 "_law_mix" ["_law_cell","_law_k"] [] sp_law_mix):FnOk P w K mg base CX 2 f fd ["_law_cell","_law_size"] sp_law_code:=by
  refine F.ok sc_law_code (fun vs H Q E h => ?_) (fun cdv A outer s H vs Q E hr h => ?_)
  · obtain ⟨_,_,rfl,_⟩:=h
    rfl
  obtain ⟨c,n,rfl,hn,q'⟩:=h
  refine ⟨_,(pss_cons (ps_set (i:=2) sc_law_code.nd rfl (Or.inl rfl) pe_str) (pss_cons (ps_for PassesOwn.never rfl (pi_range1 rfl T.b_range (pa_cons (pv 1) pa_nil)) (pg_name (i:=3) sc_law_code.nd rfl (Or.inl rfl)) (pss_cons (ps_set (i:=2) sc_law_code.nd rfl (Or.inl rfl) (pe_op op_add_str (pv 2) (pe_callTy call_str_int rfl T.b_str bt_str (pa_cons (pe_op op_mod (pv 0) pe_int) pa_nil)))) (pss_cons (ps_set (i:=0) sc_law_code.nd rfl (Or.inl rfl) (pe_op op_fdivW (pv 0) pe_int)) (pss_one (ps_if (PW.pt (pw_or (pt_cmpR op_eq (pv 0) pe_int (nomark _)) (pw_or1 (pt_cmpR op_eq (pv 0) (pe_un un_neg pe_int) (nomark _))))) (pss_one (ps_set (i:=0) sc_law_code.nd rfl (Or.inl rfl) (pe_callF C__law_mix q hr (pa_cons (pv 3) (pa_cons (pv 1) pa_nil))))) pss_nil))))) (pss_one (ps_ret (pv 2))))),?_⟩
  refine ⟨_,rfl,_,rfl,by omega,by omega,for_range (fun j σ H2=>H2=H∧∃ (z:Str) (c:Int) (o3:Option V),IsC z∧z.length=j∧σ=[some (.int c),some (.int n),some (.str z),o3]) ⟨rfl,_,c,none,empty_eq▸IsC.nil,by decide +kernel,rfl⟩ ?_ ?_⟩
  · rintro j σ H2 hj ⟨rfl,z,c,o3,hz,lz,rfl⟩
    have hj':j < n:=by omega
    rw [show (0:Int) + (j:Int)=(j:Int) from Int.zero_add _]
    obtain ⟨d,hd,ed⟩:=four_of c
    refine ⟨_,rfl,_,rfl,_,_,rfl,rfl,(by show (0:Int) < 4; decide),(d:Int),(by show [V.int (c % 4)]=_; rw [ed]),log_small4 d hd,?_⟩
    rw [str_one hd]
    refine ⟨_,_,rfl,rfl,(by rw [lz]; show j + 1≤sizeLine; exact small (by omega)),?_⟩
    refine ⟨_,rfl,_,_,rfl,rfl,cdivW (by decide) (by decide),?_⟩
    have nx:∀ c:Int,H2=H2∧∃ (z':Str) (c':Int) (o3:Option V),IsC z'∧z'.length=j + 1∧[some (V.int c),some (V.int n),some (V.str (z++one d)),some (V.int (j:Int))]=[some (.int c'),some (.int n),some (.str z'),o3]:=fun c=>⟨rfl,_,c,_,IsC.app hz (IsC.one hd),by rw [app_len,lz]; rfl,rfl⟩
    refine ⟨_,rfl,rfl,_,rfl,or2 ?_ (fun body=>⟨_,rfl,_,rfl,rfl,_,rfl,ite2 (fun _=>body) (fun _=>nx _)⟩)⟩
    refine iteT ?_
    exact ⟨_,rfl,_,rfl,(j:Int),n,rfl,by omega,fun m hm=>nx m⟩
  · rintro σ H2 ⟨rfl,z,c,o3,hz,lz,rfl⟩
    exact ⟨_,rfl,q' z hz (by omega)⟩
abbrev s_law_knit:Stmt:=top 26
theorem sc_law_knit:FnScope ["_law_four"] ["_law_four"] (defScope s_law_knit):=⟨rfl,rfl,rfl,by decide +kernel,rfl,by decide +kernel,by decide +kernel⟩
def sp_law_knit:Sp:=fun vs H Q _=>∃ (l:Addr) (xa xb xc xd:V) (ta tb tc td:Tr),vs=[.ref l]∧H l=some (.lst [xa,xb,xc,xd])∧TrAt H xa ta∧TrAt H xb tb∧TrAt H xc tc∧TrAt H xd td∧(ta.deep≤60∧tb.deep≤60∧tc.deep≤60∧td.deep≤60)∧∀ v H',Same H H'→TrAt H' v (gath ta tb tc td)→Q v H'
theorem ok_law_knit (T:Tx K mg) (F:FunD K "_law_knit" "_law_knit" s_law_knit f fd .none):FnOk P w K mg base CX 1 f fd ["_law_four"] sp_law_knit:=by
  refine F.ok sc_law_knit (fun vs H Q E h => ?_) (fun cdv A outer s H vs Q E hr h => ?_)
  · obtain ⟨_,_,_,_,_,_,_,_,_,rfl,_⟩:=h
    rfl
  obtain ⟨l,xa,xb,xc,xd,ta,tb,tc,td,rfl,u4,ja,jb,jc,jd,⟨da,db,dc,dd⟩,q'⟩:=h
  refine ⟨_,(pss_cons (ps_if (PW.pt (pw_or (pt_val (pe_callB (call_isiT "tuple") rfl T.b_isinstance bb_isinstance (pa_cons (pe_ix ix_list (pv 0) pe_int (fun _ _=>rfl)) (pa_cons (pe_bty T.b_tuple bt_tuple) pa_nil)))) (pw_or1 (pt_cmpR (op_neD hr) (pv 0) (pe_lstx (pax_c (pe_ix ix_list (pv 0) pe_int (fun _ _=>rfl)) (pax_c (pe_ix ix_list (pv 0) pe_int (fun _ _=>rfl)) (pax_c (pe_ix ix_list (pv 0) pe_int (fun _ _=>rfl)) (pax_c (pe_ix ix_list (pv 0) pe_int (fun _ _=>rfl)) pax_nil))))) (nomark _))))) (pss_one (ps_ret (pe_tupx (pax_c (pe_ix ix_list (pv 0) pe_int (fun _ _=>rfl)) (pax_c (pe_ix ix_list (pv 0) pe_int (fun _ _=>rfl)) (pax_c (pe_ix ix_list (pv 0) pe_int (fun _ _=>rfl)) (pax_c (pe_ix ix_list (pv 0) pe_int (fun _ _=>rfl)) pax_nil))))))) pss_nil) (pss_one (ps_ret (pe_ix ix_list (pv 0) pe_int (fun _ _=>rfl))))),?_⟩
  have ty:=ja.ty (K:=K)
  have fin:∀ H1,Same H H1→gath ta tb tc td=.four ta tb tc td→∀ p,H1 p=none→Q (.ref p) (upd H1 p (.tup [xa,xb,xc,xd])):=fun H1 s1 hg p hp=>by
    refine q' _ _ (s1.trans (Same.new hp _)) ?_
    rw [hg]
    have sn:=(s1.trans (Same.new hp (.tup [xa,xb,xc,xd]))).tups
    exact .four upd_same (ja.up sn) (jb.up sn) (jc.up sn) (jd.up sn)
  have f4:4≤sizeLine:=by decide
  have no:¬ (ta.isCol=true∧tb=ta∧tc=ta∧td=ta)→gath ta tb tc td=.four ta tb tc td:=fun h=>by
    unfold gath; rw [if_neg (fun z=>h (oneB_iff.mp z))]
  cases hta:ta.isCol with
  | false =>
    rw [hta] at ty
    refine ⟨_,rfl,l,_,_,xa,rfl,rfl,SqL.of u4,rfl,_,_,_,rfl,ty,kit_tt,_,rfl,iteT (iteT ?_)⟩
    exact ⟨_,rfl,l,_,_,_,rfl,rfl,SqL.of u4,rfl,_,rfl,l,_,_,_,rfl,rfl,SqL.of u4,rfl,_,rfl,l,_,_,_,rfl,rfl,SqL.of u4,rfl,_,rfl,l,_,_,_,rfl,rfl,SqL.of u4,rfl,f4,fin H (Same.refl H) (no fun z=>by rw [hta] at z; cases z.1)⟩
  | true =>
    rw [hta] at ty
    refine ⟨_,rfl,l,_,_,xa,rfl,rfl,SqL.of u4,rfl,_,_,_,rfl,ty,kit_it,_,rfl,iteF ?_⟩
    refine ⟨_,rfl,_,rfl,l,_,_,xa,rfl,rfl,SqL.of u4,rfl,_,rfl,l,_,_,xa,rfl,rfl,SqL.of u4,rfl,_,rfl,l,_,_,xa,rfl,rfl,SqL.of u4,rfl,_,rfl,l,_,_,xa,rfl,rfl,SqL.of u4,rfl,f4,fun m hm => ?_⟩
    have sy:=Same.new hm (.lst [xa,xa,xa,xa])
    have um:upd H m (.lst [xa,xa,xa,xa]) m=some (.lst [xa,xa,xa,xa]):=upd_same
    generalize upd H m (.lst [xa,xa,xa,xa])=H5 at *
    have u5:=sy _ _ u4
    have la:=ja.up sy.tups
    refine ⟨_,_,.lst u5 (.cons la.dat (.cons (jb.up sy.tups).dat (.cons (jc.up sy.tups).dat (.cons (jd.up sy.tups).dat .nil)))),.lst um (.cons la.dat (.cons la.dat (.cons la.dat (.cons la.dat .nil)))),shaped4 da db dc dd,shaped4 da da da da,?_⟩
    rw [eqv4]
    refine ⟨_,rfl,ite2 (fun z => ?_) (fun z => ?_)⟩
    · have z':¬ (ta=ta∧tb=ta∧tc=ta∧td=ta):=fun h=>by
        have h':=decide_eq_true h
        rw [h'] at z
        exact absurd z (by decide)
      exact ⟨_,rfl,l,_,_,_,rfl,rfl,SqL.of u5,rfl,_,rfl,l,_,_,_,rfl,rfl,SqL.of u5,rfl,_,rfl,l,_,_,_,rfl,rfl,SqL.of u5,rfl,_,rfl,l,_,_,_,rfl,rfl,SqL.of u5,rfl,f4,fin H5 sy (no fun z=>z' ⟨rfl,z.2⟩)⟩
    · have z':ta=ta∧tb=ta∧tc=ta∧td=ta:=by simpa using z
      refine ⟨_,rfl,l,_,_,_,rfl,rfl,SqL.of u5,rfl,q' _ _ sy ?_⟩
      unfold gath
      rw [if_pos (oneB_iff.mpr ⟨hta,z'.2⟩)]
      exact la
abbrev s_law_painted:Stmt:=top 27
theorem sc_law_painted:FnScope ["_law_tree_here","_law_code_here","_law_colour_here","_law_four"] ["_law_tree_here","_law_code_here","_law_colour_here"] (defScope s_law_painted):=⟨rfl,rfl,rfl,by decide +kernel,rfl,by decide +kernel,by decide +kernel⟩
def sp_law_painted (m:Nat):Sp:=fun vs H Q _=>∃ (v:V) (i:Int) (t:Tr) (z:Str),vs=[v,.str z,.int i]∧TrAt H v t∧IsC z∧z.length < m∧m≤41∧t.deep≤60∧∀ v' H',Same H H'→TrAt H' v' (plant t (dig z) (.col i))→Q v' H'
theorem ok_law_painted (T:Tx K mg) (q:Quiet CX) (F:FunD K "_law_painted" "_law_painted" s_law_painted f fd .none) (C__law_knit:Fok P w K mg base CX 1 "_law_knit" ["_law_four"] [] sp_law_knit) (b:Binds K fd ["_law_tree_here","_law_code_here","_law_colour_here"] []) (m:mg "_law_painted" = some (.ref f)) :
    ∀ n,FnOk P w K mg base CX (2 + n) f fd ["_law_tree_here","_law_code_here","_law_colour_here"] (sp_law_painted n)
  | 0=>by
    refine F.ok sc_law_painted (fun vs H Q E h => ?_) (fun cdv A outer s H vs Q E hr h => ?_)
    · obtain ⟨_,_,_,_,rfl,_⟩:=h
      rfl
    obtain ⟨_,_,_,_,_,_,_,h,_⟩:=h
    exact absurd h (Nat.not_lt_zero _)
  | n + 1=>by
    have C__law_painted:Fok P w K mg base CX (2 + n) "_law_painted" ["_law_tree_here","_law_code_here","_law_colour_here"] [] (sp_law_painted n):=fok F (ok_law_painted T q F C__law_knit b m n) b m
    refine F.ok sc_law_painted (fun vs H Q E h => ?_) (fun cdv A outer s H vs Q E hr h => ?_)
    · obtain ⟨_,_,_,_,rfl,_⟩:=h
      rfl
    obtain ⟨v,i,t,z,rfl,ht,hz,hl,hm,dt,q'⟩:=h
    refine ⟨_,(pss_cons (ps_if (pt_cmpR op_eq (pv 1) pe_str (nomark _)) (pss_one (ps_ret (pv 2))) pss_nil) (pss_cons (ps_set (i:=3) sc_law_painted.nd rfl (Or.inl rfl) (pe_lstx (pax_c (pv 0) (pax_c (pv 0) (pax_c (pv 0) (pax_c (pv 0) pax_nil)))))) (pss_cons (ps_cut (ps_if (pt_val (pe_callB (call_isiT "tuple") rfl T.b_isinstance bb_isinstance (pa_cons (pv 0) (pa_cons (pe_bty T.b_tuple bt_tuple) pa_nil)))) (pss_one (ps_set (i:=3) sc_law_painted.nd rfl (Or.inl rfl) (pe_callTy call_list_of rfl T.b_list bt_list (pa_cons (pv 0) pa_nil)))) pss_nil)) (pss_cons (ps_asg (pe_callF C__law_painted q hr (pa_cons (pe_ix ix_list (pv 3) (pe_callTy call_int_str rfl T.b_int bt_int (pa_cons (pe_ix ix_str (pv 1) pe_int (fun _ _=>rfl)) pa_nil)) (fun _ _=>rfl)) (pa_cons (pe_slice sl_str (pv 1) (po_some pe_int) po_none) (pa_cons (pv 2) pa_nil))) (hj:=by first | decide | omega | (simp only [Nat.add_eq]; omega))) (pg_sub (pv 3) (pe_callTy call_int_str rfl T.b_int bt_int (pa_cons (pe_ix ix_str (pv 1) pe_int (fun _ _=>rfl)) pa_nil)) set_list)) (pss_one (ps_ret (pe_callF C__law_knit q hr (pa_cons (pv 3) pa_nil) (hj:=by first | decide | omega | (simp only [Nat.add_eq]; omega))))))))),?_⟩
    refine ⟨_,rfl,rfl,_,rfl,ite2 (fun c => ?_) (fun c => ?_)⟩
    · have e:z=("" : Str):=by simpa using c
      subst e
      rw [dig_empty] at q'
      exact ⟨_,rfl,q' (.int i) H (Same.refl H) (.col i)⟩
    have pz:0 < z.length:=by
      rcases Nat.eq_zero_or_pos z.length with h0 | h0
      · exact absurd (by simp [str_eq_nil.mpr h0]) c
      · exact h0
    have hs:z.length≤sizeLine:=small (by omega)
    refine ⟨_,rfl,_,rfl,_,rfl,_,rfl,(by show 4≤sizeLine; decide),fun l0 hl0 => ?_⟩
    have s1:=Same.new hl0 (.lst [v,v,v,v])
    have u1:upd H l0 (.lst [v,v,v,v]) l0=some (.lst [v,v,v,v]):=upd_same
    generalize upd H l0 (.lst [v,v,v,v])=H1 at *
    have ht1:=ht.up s1.tups
    refine ⟨fun σ H2=>Same H H2∧∃ (l:Addr) (a b c d:V),H l=none∧H2 l=some (.lst [a,b,c,d])∧TrAt H2 a (q0 t)∧TrAt H2 b (q1 t)∧TrAt H2 c (q2 t)∧TrAt H2 d (q3 t)∧σ=[some v,some (.str z),some (.int i),some (.ref l)],?_,?_⟩
    · cases ht1 with
      | col j=>exact ⟨_,rfl,_,_,_,rfl,.int j,kit_it,_,rfl,iteF ⟨s1,l0,_,_,_,_,hl0,u1,.col j,.col j,.col j,.col j,rfl⟩⟩
      | @four p xa xb xc xd ta tb tc td e ja jb jc jd =>
        refine ⟨_,rfl,_,_,_,rfl,.tup e,kit_tt,_,rfl,iteT ?_⟩
        refine ⟨_,rfl,p,_,rfl,.inr (SqT.of e),fun l1 hl1 => ?_⟩
        have s2:=Same.new hl1 (.lst [xa,xb,xc,xd])
        exact ⟨s1.trans s2,l1,xa,xb,xc,xd,Same.none s1 hl1,upd_same,ja.up s2.tups,jb.up s2.tups,jc.up s2.tups,jd.up s2.tups,rfl⟩
    rintro σ H2 ⟨s2,l,a,b,c,d,hl0',u2,ka,kb,kc,kd,rfl⟩
    obtain ⟨e,he,e1,e2⟩:=sgn_one hz pz
    have key:∃ x,atI [a,b,c,d] (e:Int)=some x∧TrAt H2 x (qk t e):=by
      rcases e with _ | _ | _ | _ | e
      · exact ⟨a,rfl,ka⟩
      · exact ⟨b,rfl,kb⟩
      · exact ⟨c,rfl,kc⟩
      · exact ⟨d,rfl,kd⟩
      · omega
    obtain ⟨x,ex,kx⟩:=key
    have it:intText? (sgn z 0)=some (e:Int):=by rw [e1]; exact int_one he
    refine ⟨_,rfl,_,rfl,z,0,z.cps.getD 0 0,rfl,rfl,hs,at_zero pz,_,(e:Int),rfl,it,(by show (1:Nat)≤640; decide),l,_,_,x,rfl,rfl,SqL.of u2,ex,_,rfl,_,rfl,z,rfl,hs,_,rfl,?_⟩
    have rl:=rst_len z
    refine ⟨x,i,qk t e,rst z,(by show [x,V.str _,V.int i]=[x,V.str _,V.int i]; rw [slice_rst pz]),kx,rst_isC hz,by omega,by omega,qk_deep' dt,fun v' H3 s3 hv' => ?_⟩
    have u3:=s3 _ _ u2
    have hix:ixN [a,b,c,d].length (e:Int)=some e:=by
      unfold ixN
      rw [if_pos (by omega),if_pos (by simp; omega),Int.toNat_natCast]
    refine ⟨_,rfl,_,rfl,z,0,z.cps.getD 0 0,rfl,rfl,hs,at_zero pz,_,(e:Int),rfl,it,(by show (1:Nat)≤640; decide),l,[a,b,c,d],(e:Int),e,rfl,rfl,u3,hix,?_⟩
    have t3:=Tups.lst (ys:=[a,b,c,d].set e v') u3
    have sf:Same H (upd H3 l (.lst ([a,b,c,d].set e v'))):=Same.set (s2.trans s3) hl0' _
    have t23:=s3.tups.trans t3
    have dq:=plant_deep (dig (rst z)) 60 (qk t e) (.col i) (qk_deep' dt) (by rw [dig_len]; show (Tr.col i).deep + _≤60; show 0 + _≤60; omega)
    have ep:plant t (dig z) (.col i)=put4 t e (plant (qk t e) (dig (rst z)) (.col i)):=by rw [dig_rst pz,e2]; rfl
    rw [ep] at q'
    have d0:=qk_deep' (d:=0) dt
    have d1:=qk_deep' (d:=1) dt
    have d2:=qk_deep' (d:=2) dt
    have d3:=qk_deep' (d:=3) dt
    have kv:=hv'.up t3
    rcases e with _ | _ | _ | _ | e
    · exact ⟨_,rfl,l,_,_,_,_,_,_,_,_,rfl,upd_same,kv,kb.up t23,kc.up t23,kd.up t23,⟨dq,d1,d2,d3⟩,fun v2 H4 s4 h4=>q' v2 H4 (sf.trans s4) h4⟩
    · exact ⟨_,rfl,l,_,_,_,_,_,_,_,_,rfl,upd_same,ka.up t23,kv,kc.up t23,kd.up t23,⟨d0,dq,d2,d3⟩,fun v2 H4 s4 h4=>q' v2 H4 (sf.trans s4) h4⟩
    · exact ⟨_,rfl,l,_,_,_,_,_,_,_,_,rfl,upd_same,ka.up t23,kb.up t23,kv,kd.up t23,⟨d0,d1,dq,d3⟩,fun v2 H4 s4 h4=>q' v2 H4 (sf.trans s4) h4⟩
    · exact ⟨_,rfl,l,_,_,_,_,_,_,_,_,rfl,upd_same,ka.up t23,kb.up t23,kc.up t23,kv,⟨d0,d1,d2,dq⟩,fun v2 H4 s4 h4=>q' v2 H4 (sf.trans s4) h4⟩
    · omega
abbrev s_law_colour:Stmt:=top 28
theorem sc_law_colour:FnScope ["_law_cell","_law_few"] ["_law_cell","_law_few"] (defScope s_law_colour):=⟨rfl,rfl,rfl,by decide +kernel,rfl,by decide +kernel,by decide +kernel⟩
def sp_law_colour:Sp:=fun vs H Q _=>∃ (c:Int) (p:Addr) (a b:Int),vs=[.int c,.ref p]∧H p=some (.tup [.int a,.int b])∧(0≤a∧a≤35)∧(0≤b∧b≤35)∧∀ i:Int,0≤i→i≤35→Q (.int i) H
theorem ok_law_colour (T:Tx K mg) (F:FunD K "_law_colour" "_law_colour" s_law_colour f fd .none):FnOk P w K mg base CX 1 f fd ["_law_cell","_law_few"] sp_law_colour:=by
  refine F.ok sc_law_colour (fun vs H Q E h => ?_) (fun cdv A outer s H vs Q E hr h => ?_)
  · obtain ⟨_,_,_,_,rfl,_⟩:=h
    rfl
  obtain ⟨c,p,a,b,rfl,hp,ha,hb,q'⟩:=h
  refine ⟨_,(pss_cons (ps_if (pt_cmpR op_lt (pe_op op_mod (pv 0) pe_int) pe_int (nomark _)) (pss_one (ps_ret (pe_ix ix_tup (pv 1) (pe_op op_mod (pv 0) pe_int) (fun _ _=>rfl)))) pss_nil) (pss_one (ps_ret (pe_op op_mod (pe_op op_fdivW (pv 0) pe_int) pe_int)))),?_⟩
  refine ⟨_,rfl,_,_,rfl,rfl,(by show (0:Int) < 3; decide),_,_,rfl,rfl,_,rfl,ite2 (fun h => ?_) (fun _ => ?_)⟩
  · have h':c % 3 < 2:=of_decide_eq_true h
    have h2:c % 3=0∨c % 3=1:=by omega
    refine ⟨_,rfl,_,rfl,_,_,rfl,rfl,(by show (0:Int) < 3; decide),?_⟩
    rcases h2 with h2 | h2
    · exact ⟨p,_,_,.int a,rfl,rfl,SqT.of hp,by rw [h2]; rfl,q' a ha.1 ha.2⟩
    · exact ⟨p,_,_,.int b,rfl,rfl,SqT.of hp,by rw [h2]; rfl,q' b hb.1 hb.2⟩
  · exact ⟨_,rfl,_,_,rfl,rfl,cdivW (by decide) (by decide),_,_,rfl,rfl,(by show (0:Int) < 36; decide),q' _ (by show 0≤c / 3 % 36; omega) (by show c / 3 % 36≤35; omega)⟩
abbrev s_law_tree:Stmt:=top 29
theorem sc_law_tree:FnScope ["_law_script","_law_first","_law_level","_law_most_here","_law_few","_law_tree_here","_law_cell","_law_size"] ["_law_script","_law_first","_law_level","_law_most_here"] (defScope s_law_tree):=⟨rfl,rfl,rfl,by decide +kernel,rfl,by decide +kernel,by decide +kernel⟩
def sp_law_tree (K:PySem.W.Frag):Sp:=fun vs H Q _=>∃ (a:Addr) (ns:List Int) (k n most:Nat),vs=[.ref a,.int k,.int n,.int most]∧SqL K H a (ns.map V.int)∧ns.length≤63∧n≤40∧most≤20∧k≤60 ∧
  ∀ v t H',Same H H'→TrAt H' v t→Good n t→cnt t≤1 + (3 * n + 1) * (most + 1)→Q v H'
theorem ok_law_tree (T:Tx K mg) (q:Quiet CX) (F:FunD K "_law_tree" "_law_tree" s_law_tree f fd .none) (C__law_at:Fok P w K mg base CX 1 "_law_at" ["_law_script","_law_k"] [] (sp_law_at K)) (C__law_mix:Fok P w K mg base CX 1 "_law_mix" ["_law_cell","_law_k"] [] sp_law_mix) (C__law_painted:Fok P w K mg base CX 43 "_law_painted" ["_law_tree_here","_law_code_here","_law_colour_here"] [] (sp_law_painted 41))
    (C__law_code:Fok P w K mg base CX 2 "_law_code" ["_law_cell","_law_size"] [] sp_law_code) (C__law_colour:Fok P w K mg base CX 1 "_law_colour" ["_law_cell","_law_few"] [] sp_law_colour):FnOk P w K mg base CX 44 f fd ["_law_script","_law_first","_law_level","_law_most_here"] (sp_law_tree K):=by
  refine F.ok sc_law_tree (fun vs H Q E h => ?_) (fun cdv A outer s H vs Q E hr h => ?_)
  · obtain ⟨_,_,_,_,_,rfl,_⟩:=h
    rfl
  obtain ⟨a,ns,k,n,most,rfl,hS,h63,hn,hmost,hk,q'⟩:=h
  refine ⟨_,(pss_cons (ps_set (i:=4) sc_law_tree.nd rfl (Or.inl rfl) (pe_tupx (pax_c (pe_op op_mod (pe_callF C__law_at q hr (pa_cons (pv 0) (pa_cons (pv 1) pa_nil))) pe_int) (pax_c (pe_op op_mod (pe_op op_fdivW (pe_callF C__law_at q hr (pa_cons (pv 0) (pa_cons (pe_op op_add (pv 1) pe_int) pa_nil))) pe_int) pe_int) pax_nil)))) (pss_cons (ps_set (i:=5) sc_law_tree.nd rfl (Or.inl rfl) (pe_ix ix_tup (pv 4) pe_int (fun _ _=>rfl))) (pss_cons (ps_for PassesOwn.never rfl (pi_list (pe_op op_cat (pe_slice sl_list (pv 0) (po_some (pe_op op_add (pv 1) pe_int)) (po_some (pe_op op_add (pe_op op_add (pv 1) pe_int) (pv 3)))) (pe_lstx (pax_c (pe_callF C__law_at q hr (pa_cons (pv 0) (pa_cons (pe_op op_add (pv 1) pe_int) pa_nil))) pax_nil)))) (pg_name (i:=6) sc_law_tree.nd rfl (Or.inl rfl)) (pss_cons (ps_set (i:=7) sc_law_tree.nd rfl (Or.inl rfl) (pe_op op_sub (pv 2) (pe_op op_mul (pe_op op_mod (pe_callF C__law_mix q hr (pa_cons (pv 6) (pa_cons pe_int pa_nil))) (pe_op op_add (pv 2) pe_int)) (pe_op op_mod (pe_callF C__law_mix q hr (pa_cons (pv 6) (pa_cons pe_int pa_nil))) pe_int)))) (pss_one (ps_set (i:=5) sc_law_tree.nd rfl (Or.inl rfl) (pe_callF C__law_painted q hr (pa_cons (pv 5) (pa_cons (pe_callF C__law_code q hr (pa_cons (pv 6) (pa_cons (pv 7) pa_nil))) (pa_cons (pe_callF C__law_colour q hr (pa_cons (pe_callF C__law_mix q hr (pa_cons (pv 6) (pa_cons pe_int pa_nil))) (pa_cons (pv 4) pa_nil))) pa_nil)))))))) (pss_one (ps_ret (pv 5)))))),?_⟩
  refine ⟨_,rfl,_,rfl,a,ns,k,rfl,hS,h63,_,_,rfl,rfl,(by show (0:Int) < 36; decide),?_⟩
  refine ⟨_,rfl,_,rfl,_,_,rfl,rfl,a,ns,k + 1,rfl,hS,h63,_,_,rfl,rfl,cdivW (by decide) (by decide),_,_,rfl,rfl,(by show (0:Int) < 36; decide),(by show 2≤sizeLine; decide),fun pf hpf => ?_⟩
  obtain ⟨c1,ec1,hc1⟩:∃ c1:Int,cell ns k % 36=c1∧(0≤c1∧c1≤35):=⟨_,rfl,by omega⟩
  obtain ⟨c2,ec2,hc2⟩:∃ c2:Int,cell ns (k + 1) / 2 % 36=c2∧(0≤c2∧c2≤35):=⟨_,rfl,by omega⟩
  rw [show (fun i j:Int=>V.int (i % j)) (cell ns k) 36=V.int c1 from congrArg V.int ec1,show (fun i j:Int=>V.int (i % j)) (cell ns (k + 1) / 2) 36=V.int c2 from congrArg V.int ec2]
  have s1:=Same.new hpf (.tup [.int c1,.int c2])
  have u1:upd H pf (.tup [.int c1,.int c2]) pf=some (.tup [.int c1,.int c2]):=upd_same
  generalize upd H pf (.tup [.int c1,.int c2])=H1 at *
  refine ⟨_,rfl,pf,_,_,_,rfl,rfl,SqT.of u1,rfl,?_⟩
  have hS1:=s1.seq hS
  refine ⟨_,rfl,_,rfl,_,_,rfl,rfl,(k:Int) + 2,rfl,_,rfl,_,_,rfl,rfl,_,rfl,_,_,rfl,rfl,(k:Int) + 2 + (most:Int),rfl,a,ns.map V.int,rfl,hS1,fun ls hls => ?_⟩
  have lc:(cutV (ns.map V.int) (some ((k:Int) + 2)) (some ((k:Int) + 2 + (most:Int)))).length≤most:=by
    have:=cutV_len2 (ns.map V.int) (k + 2) most
    rw [show ((k + 2:Nat):Int)=(k:Int) + 2 by omega] at this
    exact this
  have mc:∀ u∈cutV (ns.map V.int) (some ((k:Int) + 2)) (some ((k:Int) + 2 + (most:Int))),∃ i:Int,u=.int i:=fun u hu=>by
    obtain ⟨i,_,e⟩:=List.mem_map.mp (cutV_mem hu)
    exact ⟨i,e.symm⟩
  generalize cutV (ns.map V.int) (some ((k:Int) + 2)) (some ((k:Int) + 2 + (most:Int)))=cs at *
  have s2:=s1.trans (Same.new hls (.lst cs))
  have u2:=(Same.new hls (.lst cs)) _ _ u1
  have v2:upd H1 ls (.lst cs) ls=some (.lst cs):=upd_same
  generalize upd H1 ls (.lst cs)=H2 at *
  refine ⟨_,rfl,_,rfl,_,_,rfl,rfl,a,ns,k + 1,rfl,s2.seq hS,h63,(by show 1≤sizeLine; decide),fun l1 hl1 => ?_⟩
  have s3:=Same.new hl1 (.lst [.int (cell ns (k + 1))])
  have v3:=s3 _ _ v2
  have u3:=s3 _ _ u2
  have w3:upd H2 l1 (.lst [.int (cell ns (k + 1))]) l1=some (.lst [.int (cell ns (k + 1))]):=upd_same
  generalize upd H2 l1 (.lst [.int (cell ns (k + 1))])=H3 at *
  refine ⟨ls,l1,_,_,rfl,rfl,v3,w3,small (by show cs.length + 1≤_; omega),fun l2 hl2 => ?_⟩
  have s4:=Same.new hl2 (.lst (cs++[.int (cell ns (k + 1))]))
  have u4:=s4 _ _ u3
  have w4:upd H3 l2 (.lst (cs++[.int (cell ns (k + 1))])) l2=some (.lst (cs++[.int (cell ns (k + 1))])):=upd_same
  generalize upd H3 l2 (.lst (cs++[.int (cell ns (k + 1))]))=H4 at *
  have s04:=s2.trans (s3.trans s4)
  have mc':∀ u∈cs++[V.int (cell ns (k + 1))],∃ i:Int,u=.int i:=fun u hu=>by
    rcases List.mem_append.mp hu with hu | hu
    · exact mc u hu
    · exact ⟨_,List.mem_singleton.mp hu⟩
  have lx:(cs++[V.int (cell ns (k + 1))]).length≤most + 1:=by rw [List.length_append]; show cs.length + 1≤most + 1; omega
  generalize cs++[V.int (cell ns (k + 1))]=xs at *
  refine ⟨l2,rfl,⟨_,SqL.of w4⟩,for_list (xs:=xs) (fun j σ Hx=>Same H4 Hx∧∃ (v:V) (t:Tr) (o6 o7:Option V),TrAt Hx v t∧Good n t∧cnt t≤1 + (3 * n + 1) * j∧j≤xs.length∧σ=[some (.ref a),some (.int k),some (.int n),some (.int most),some (.ref pf),some v,o6,o7]) ⟨Same.refl _,.int c1,.col c1,none,none,.col c1,Good.col hc1,Nat.le_refl _,Nat.zero_le _,rfl⟩ (fun j σ Hx _ h=>SqL.of (h.1 _ _ w4)) ?_ ?_⟩
  · rintro j u σ Hx hu ⟨sx,v,t,o6,o7,hv,gt,ct,hj,rfl⟩
    obtain ⟨i,rfl⟩:=mc' u (List.mem_of_getElem? hu)
    have hj':j < xs.length:=(List.getElem?_eq_some_iff.mp hu).1
    have pn:(0:Int) < (n:Int) + 1:=by omega
    refine ⟨_,rfl,_,rfl,i,7,rfl,by decide,fun m1 hm1 => ?_⟩
    refine ⟨_,rfl,_,_,rfl,rfl,_,_,rfl,rfl,pn,?_⟩
    refine ⟨_,rfl,i,8,rfl,by decide,fun m2 hm2=>⟨_,_,rfl,rfl,(by show (0:Int) < 2; decide),_,_,rfl,rfl,?_,_,_,rfl,rfl,?_⟩⟩
    · refine .inr ⟨?_,?_⟩
      · show -(2 ^ 64) < m2 % 2
        omega
      · show m2 % 2 < 2 ^ 64
        omega
    obtain ⟨sg,hsg,esg⟩:∃ sg:Nat,sg≤n∧(n:Int) - m1 % ((n:Int) + 1) * (m2 % 2)=(sg:Int):=by
      have h1:=Int.emod_nonneg m1 (show (n:Int) + 1≠0 by omega)
      have h2:=Int.emod_lt_of_pos m1 pn
      have h3:m2 % 2=0∨m2 % 2=1:=by omega
      rcases h3 with h3 | h3
      · exact ⟨n,Nat.le_refl _,by rw [h3]; omega⟩
      · exact ⟨((n:Int) - m1 % ((n:Int) + 1)).toNat,by omega,by rw [h3]; omega⟩
    rw [show (fun i j:Int=>V.int (i - j)) (n:Int) (m1 % ((n:Int) + 1) * (m2 % 2))=V.int (sg:Int) from congrArg V.int esg]
    refine ⟨_,rfl,_,rfl,_,rfl,i,sg,rfl,by omega,fun z hz lz => ?_⟩
    refine ⟨_,rfl,i,9,rfl,by decide,fun m3 hm3=>⟨_,rfl,m3,pf,c1,c2,rfl,sx _ _ u4,hc1,hc2,fun c hc0 hc1' => ?_⟩⟩
    have dt:=gt.deep
    refine ⟨v,c,t,z,rfl,hv,hz,by omega,by decide,by omega,fun v' Hy sy hv'=>⟨sx.trans sy,v',_,_,_,hv',good_plant (by rw [dig_len]; omega) gt (Good.col ⟨hc0,hc1'⟩),?_,hj',rfl⟩⟩
    have cp:=cnt_plant (dig z) t (.col c) (dig_lt hz)
    rw [dig_len] at cp
    have c1':cnt (Tr.col c)=1:=rfl
    have e3:3 * z.length≤3 * n:=by omega
    rw [Nat.mul_succ]
    omega
  · rintro σ Hx ⟨sx,v,t,o6,o7,hv,gt,ct,hj,rfl⟩
    refine ⟨_,rfl,q' v t Hx (s04.trans sx) hv gt (Nat.le_trans ct ?_)⟩
    exact Nat.add_le_add_left (Nat.mul_le_mul_left _ lx) 1
end
end Qs


namespace Qs
open PySem L2
theorem iteDT {c A B:Prop} [Decidable c] (hc:c) (h:A):if decide c=true then A else B:=by rw [if_pos (decide_eq_true hc)]; exact h
end Qs
namespace Qs
open PySem L2
def fold4 (n:Nat) (l:List Tr) (T:List (Int × Int)):List (Int × Int):=l.foldl (fun T t=>addT n t T) T
theorem fold4_snoc (n:Nat) {l:List Tr} {T:List (Int × Int)} {j:Nat} {t:Tr} (h:l[j]? = some t):fold4 n (l.take (j + 1)) T=addT n t (fold4 n (l.take j) T):=by
  unfold fold4
  rw [List.take_add_one,h,List.foldl_append]
  rfl
section
variable {P:Program} {w:World} {K:PySem.W.Frag} {mg:Str→Option Value} {base:Heap} {CX:CXT} {f:Addr} {fd:FuncData}
abbrev s_law_add:Stmt:=top 30
theorem sc_law_add:FnScope ["_law_tree_here","_law_share","_law_found","_law_part"] ["_law_tree_here","_law_share","_law_found"] (defScope s_law_add):=⟨rfl,rfl,rfl,by decide +kernel,rfl,by decide +kernel,by decide +kernel⟩
def sp_law_add (m:Nat):Sp:=fun vs H Q _=>∃ (v:V) (t:Tr) (n:Nat) (d:Addr) (T0:List (Int × Int)),vs=[v,.int ((4 ^ n:Nat):Int),.ref d]∧TrAt H v t∧Good n t∧n≤40∧t.deep < m∧m≤41∧H d=some (.dK (ents (eV T0)))∧TalOk T0 ∧
  ∀ H',(∀ b o,b≠d→H b=some o→H' b=some o)→H' d=some (.dK (ents (eV (addT n t T0))))→Q .non H'
theorem ok_law_add (T:Tx K mg) (q:Quiet CX) (F:FunD K "_law_add" "_law_add" s_law_add f fd .none) (b:Binds K fd ["_law_tree_here","_law_share","_law_found"] []) (m:mg "_law_add" = some (.ref f)) :
    ∀ n,FnOk P w K mg base CX (1 + n) f fd ["_law_tree_here","_law_share","_law_found"] (sp_law_add n)
  | 0=>by
    have C__law_add:=fokF (P:=P) (w:=w) (base:=base) (CX:=CX) F b m
    refine F.ok sc_law_add (fun vs H Q E h => ?_) (fun cdv A outer s H vs Q E hr h => ?_)
    · obtain ⟨_,_,_,_,_,rfl,_⟩:=h
      rfl
    obtain ⟨v,t,l,d,T0,rfl,ht,gt,hl,hd,_⟩:=h
    exact absurd hd (Nat.not_lt_zero _)
  | n + 1=>by
    have C__law_add:Fok P w K mg base CX (1 + n) "_law_add" ["_law_tree_here","_law_share","_law_found"] [] (sp_law_add n):=fok F (ok_law_add T q F b m n) b m
    refine F.ok sc_law_add (fun vs H Q E h => ?_) (fun cdv A outer s H vs Q E hr h => ?_)
    · obtain ⟨_,_,_,_,_,rfl,_⟩:=h
      rfl
    obtain ⟨v,t,l,d,T0,rfl,ht,gt,hl,hd,hm,hdc,ok,q'⟩:=h
    refine ⟨_,(pss_one (ps_if (pt_val (pe_callB (call_isiT "tuple") rfl T.b_isinstance bb_isinstance (pa_cons (pv 0) (pa_cons (pe_bty T.b_tuple bt_tuple) pa_nil)))) (pss_one (ps_for PassesOwn.never rfl (pi_tup (pv 0)) (pg_name (i:=3) sc_law_add.nd rfl (Or.inl rfl)) (pss_one (ps_expr (pe_callF C__law_add q hr (pa_cons (pv 3) (pa_cons (pe_op op_fdivW (pv 1) pe_int) (pa_cons (pv 2) pa_nil))) (hj:=by first | decide | omega | (simp only [Nat.add_eq]; omega))))))) (pss_one (ps_dput hr.dic (pv 2) (pv 0) (pe_op op_add (pe_dget2 hr.dic (pv 2) (pv 0) pe_int ⟨rfl,rfl,rfl,rfl⟩) (pv 1)) (swaps_of rfl))))),?_⟩
    cases ht with
    | col i =>
      refine ⟨_,rfl,_,_,_,rfl,.int i,kit_it,_,rfl,iteF ?_⟩
      refine ⟨_,rfl,d,rfl,.inl ⟨_,.inl hdc⟩,_,rfl,_,DGet.k (k:=Sum.inl i) hdc,_,rfl,tget T0 i,_,get_eV T0 i,rfl,_,rfl,_,rfl,d,_,rfl,DPut.k (k:=Sum.inl i) hdc ?_,?_⟩
      · have:=ok.len
        show (ents (eV T0)).length < sizeLine
        unfold ents eV
        rw [List.length_map,List.length_map]
        exact big' (by omega)
      · refine q' _ (fun b o hb e=>by rw [upd_ne hb]; exact e) ?_
        rw [upd_same,put_eV]
        rfl
    | @four p xa xb xc xd ta tb tc td e ja jb jc jd =>
      cases l with
      | zero=>exact gt.elim
      | succ l =>
      refine ⟨_,rfl,_,_,_,rfl,.tup e,kit_tt,_,rfl,iteT ?_⟩
      obtain ⟨ga,gb,gc,gd,_⟩:=id gt
      have hd':max ta.deep (max tb.deep (max tc.deep td.deep)) + 1 < n + 1:=hd
      have pick:∀ {j:Nat} {x:V},[xa,xb,xc,xd][j]? = some x→∃ u,[ta,tb,tc,td][j]? = some u∧TrAt H x u∧Good l u∧u.deep < n:=fun {j x} hx=>by
        rcases at4 hx with ⟨rfl,rfl⟩ | ⟨rfl,rfl⟩ | ⟨rfl,rfl⟩ | ⟨rfl,rfl⟩
        · exact ⟨ta,rfl,ja,ga,by omega⟩
        · exact ⟨tb,rfl,jb,gb,by omega⟩
        · exact ⟨tc,rfl,jc,gc,by omega⟩
        · exact ⟨td,rfl,jd,gd,by omega⟩
      have pd:p≠d:=fun z=>by rw [z,hdc] at e; cases e
      have tk:∀ {H':Hp},(∀ b o,b≠d→H b=some o→H' b=some o)→Tups H H':=fun k b xs hx=>k b _ (fun z=>by rw [z,hdc] at hx; cases hx) hx
      refine ⟨_,rfl,p,rfl,⟨_,SqT.of e⟩,for_tup (xs:=[xa,xb,xc,xd]) (fun j σ H2=>(∀ b o,b≠d→H b=some o→H2 b=some o)∧(∃ Tj,Tj=fold4 l ([ta,tb,tc,td].take j) T0∧TalOk Tj∧H2 d=some (.dK (ents (eV Tj))))∧∃ o3:Option V,σ=[some (.ref p),some (.int ((4 ^ (l + 1):Nat):Int)),some (.ref d),o3]) ⟨fun b o _ h=>h,⟨T0,rfl,ok,hdc⟩,none,rfl⟩ (fun j σ H2 _ h=>SqT.of (h.1 _ _ pd e)) ?_ ?_⟩
      · rintro j x σ H2 hx ⟨k2,⟨Tj,eT,okj,h2⟩,o3,rfl⟩
        obtain ⟨u,hu,jx,gx,dx⟩:=pick hx
        refine ⟨_,rfl,_,rfl,_,_,rfl,rfl,cdivW (by decide) (by decide),_,rfl,x,u,l,d,Tj,?_,jx.up (tk k2),gx,by omega,dx,by omega,h2,okj,fun H3 k3 h3 => ?_⟩
        · show [x,V.int (((4 ^ (l + 1):Nat):Int) / 4),V.ref d]=_
          rw [show ((4 ^ (l + 1):Nat):Int) / 4=((4 ^ l:Nat):Int) by rw [Nat.pow_succ]; omega]
        · exact ⟨fun b o hb h=>k3 b o hb (k2 b o hb h),⟨_,by rw [fold4_snoc l hu,← eT],addT_ok u l l gx okj,h3⟩,_,rfl⟩
      · rintro σ H2 ⟨k2,⟨Tj,eT,okj,h2⟩,o3,rfl⟩
        refine q' H2 k2 ?_
        rw [h2,eT]
        rfl
abbrev s_law_most:Stmt:=top 31
theorem sc_law_most:FnScope ["_law_tree_here","_law_level","_law_found","_law_best","_law_colour_here"] ["_law_tree_here","_law_level"] (defScope s_law_most):=⟨rfl,rfl,rfl,by decide +kernel,rfl,by decide +kernel,by decide +kernel⟩
def sp_law_most:Sp:=fun vs H Q _=>∃ (v:V) (t:Tr) (n:Nat),vs=[v,.int (n:Int)]∧TrAt H v t∧Good n t∧n≤40∧∀ H',Same H H'→Q (.int (mostT (addT n t []))) H'
theorem ok_law_most (T:Tx K mg) (q:Quiet CX) (F:FunD K "_law_most" "_law_most" s_law_most f fd .none) (C__law_add:Fok P w K mg base CX 42 "_law_add" ["_law_tree_here","_law_share","_law_found"] [] (sp_law_add 41)):FnOk P w K mg base CX 43 f fd ["_law_tree_here","_law_level"] sp_law_most:=by
  refine F.ok sc_law_most (fun vs H Q E h => ?_) (fun cdv A outer s H vs Q E hr h => ?_)
  · obtain ⟨_,_,_,rfl,_⟩:=h
    rfl
  obtain ⟨v,t,n,rfl,ht,gt,hn,q'⟩:=h
  refine ⟨_,(pss_cons (ps_set (i:=2) sc_law_most.nd rfl (Or.inl rfl) pe_dnewK) (pss_cons (ps_expr (pe_callF C__law_add q hr (pa_cons (pv 0) (pa_cons (pe_op op_shl pe_int (pe_op op_mul pe_int (pv 1))) (pa_cons (pv 2) pa_nil))))) (pss_cons (ps_set (i:=3) sc_law_most.nd rfl (Or.inl rfl) pe_int) (pss_cons (ps_for PassesOwn.never rfl (pi_range1 rfl T.b_range (pa_cons pe_int pa_nil)) (pg_name (i:=4) sc_law_most.nd rfl (Or.inl rfl)) (pss_one (ps_if (pt_cmpR op_gt (pe_dget2 hr.dic (pv 2) (pv 4) pe_int ⟨rfl,rfl,rfl,rfl⟩) (pe_dget2 hr.dic (pv 2) (pv 3) pe_int ⟨rfl,rfl,rfl,rfl⟩) (nomark _)) (pss_one (ps_set (i:=3) sc_law_most.nd rfl (Or.inl rfl) (pv 4))) pss_nil))) (pss_one (ps_ret (pv 3))))))),?_⟩
  refine fun d hd => ?_
  have s1:=Same.new hd (.dK [])
  have d1:upd H d (.dK []) d=some (.dK []):=upd_same
  generalize upd H d (.dK [])=H1 at *
  refine ⟨_,rfl,_,rfl,_,_,rfl,rfl,.inl ⟨by decide,by decide⟩,_,_,rfl,rfl,⟨by show (0:Int)≤2 * (n:Int); omega,by show 2 * (n:Int)≤1000000; omega,by decide⟩,_,rfl,v,t,n,d,[],?_,ht.up s1.tups,gt,hn,Nat.lt_succ_of_le (Nat.le_trans gt.deep hn),Nat.le_refl _,d1,TalOk.nil,fun H2 k2 h2 => ?_⟩
  · show [v,V.int (1 * 2 ^ (2 * (n:Int)).toNat),V.ref d]=_
    rw [shl_four]
  have s2:Same H H2:=fun b o e=>k2 b o (ne_of_none e hd) (s1 b o e)
  generalize addT n t []=T0 at *
  refine ⟨_,rfl,(by show (-(2 ^ 62):Int)≤36; decide),(by decide),for_range (fun k σ H3=>H3=H2∧∃ o4:Option V,σ=[some v,some (.int (n:Int)),some (.ref d),some (.int (mostN T0 k)),o4]) ⟨rfl,none,rfl⟩ ?_ ?_⟩
  · rintro k σ H3 hk ⟨rfl,o4,rfl⟩
    refine ⟨_,rfl,d,rfl,.inl ⟨_,.inl h2⟩,_,rfl,_,DGet.k (k:=Sum.inl (0 + (k:Int))) h2,_,rfl,d,rfl,.inl ⟨_,.inl h2⟩,_,rfl,_,DGet.k (k:=Sum.inl (mostN T0 k)) h2,tget T0 (0 + (k:Int)),tget T0 (mostN T0 k),get_eV T0 _,get_eV T0 _,_,rfl,?_⟩
    rw [Int.zero_add]
    refine ite2 (fun c => ?_) (fun c => ?_)
    · have c':tget T0 (mostN T0 k) < tget T0 (k:Int):=of_decide_eq_true c
      refine ⟨_,rfl,rfl,some (.int (k:Int)),?_⟩
      rw [mostN_succ]
      unfold stepM
      rw [if_pos c']
      rfl
    · have c':¬ tget T0 (mostN T0 k) < tget T0 (k:Int):=fun h=>c (decide_eq_true h)
      refine ⟨rfl,some (.int (k:Int)),?_⟩
      rw [mostN_succ]
      unfold stepM
      rw [if_neg c']
      rfl
  · rintro σ H3 ⟨rfl,o4,rfl⟩
    exact ⟨_,rfl,q' _ s2⟩
abbrev s_law_coarse:Stmt:=top 32
theorem sc_law_coarse:FnScope ["_law_tree_here","_law_level","_law_number"] ["_law_tree_here","_law_level","_law_number"] (defScope s_law_coarse):=⟨rfl,rfl,rfl,by decide +kernel,rfl,by decide +kernel,by decide +kernel⟩
def sp_law_coarse (m:Nat):Sp:=fun vs H Q _=>∃ (v:V) (t:Tr) (l k:Nat),vs=[v,.int (l:Int),.int (k:Int)]∧TrAt H v t∧Good l t∧l≤40∧k≤l∧t.deep < m∧m≤41∧∀ v' H',Same H H'→TrAt H' v' (coarse t l k)→Q v' H'
theorem ok_law_coarse (T:Tx K mg) (q:Quiet CX) (F:FunD K "_law_coarse" "_law_coarse" s_law_coarse f fd .none) (C__law_most:Fok P w K mg base CX 43 "_law_most" ["_law_tree_here","_law_level"] [] sp_law_most) (C__law_knit:Fok P w K mg base CX 1 "_law_knit" ["_law_four"] [] sp_law_knit) (b:Binds K fd ["_law_tree_here","_law_level","_law_number"] []) (m:mg "_law_coarse" = some (.ref f)) :
    ∀ n,FnOk P w K mg base CX (44 + n) f fd ["_law_tree_here","_law_level","_law_number"] (sp_law_coarse n)
  | 0=>by
    have C__law_coarse:=fokF (P:=P) (w:=w) (base:=base) (CX:=CX) F b m
    refine F.ok sc_law_coarse (fun vs H Q E h => ?_) (fun cdv A outer s H vs Q E hr h => ?_)
    · obtain ⟨_,_,_,_,rfl,_⟩:=h
      rfl
    obtain ⟨v,t,l,k,rfl,ht,gt,hl,hk,hd,_⟩:=h
    exact absurd hd (Nat.not_lt_zero _)
  | n + 1=>by
    have C__law_coarse:Fok P w K mg base CX (44 + n) "_law_coarse" ["_law_tree_here","_law_level","_law_number"] [] (sp_law_coarse n):=fok F (ok_law_coarse T q F C__law_most C__law_knit b m n) b m
    refine F.ok sc_law_coarse (fun vs H Q E h => ?_) (fun cdv A outer s H vs Q E hr h => ?_)
    · obtain ⟨_,_,_,_,rfl,_⟩:=h
      rfl
    obtain ⟨v,t,l,k,rfl,ht,gt,hl,hk,hd,hm,q'⟩:=h
    refine ⟨_,(pss_cons (ps_if (pt_not (pt_val (pe_callB (call_isiT "tuple") rfl T.b_isinstance bb_isinstance (pa_cons (pv 0) (pa_cons (pe_bty T.b_tuple bt_tuple) pa_nil))))) (pss_one (ps_ret (pv 0))) pss_nil) (pss_cons (ps_if (pt_cmpR op_eq (pv 1) (pv 2) (nomark _)) (pss_one (ps_ret (pe_callF C__law_most q hr (pa_cons (pv 0) (pa_cons (pv 1) pa_nil)) (hj:=by first | decide | omega | (simp only [Nat.add_eq]; omega))))) pss_nil) (pss_one (ps_ret (pe_callF C__law_knit q hr (pa_cons (pe_compC (N':=["_law_part","_law_number","_law_level"]) ["_law_number","_law_level"] ["_law_number","_law_level"] [2,1] 1 (by with_unfolding_all rfl) rfl (capsOk_cons rfl rfl (by decide) (capsOk_cons rfl rfl (by decide) capsOk_nil)) rfl rfl (by decide) rfl (by decide +kernel) rfl (by decide +kernel) rfl (pi_tup (pv 0)) (fun C s0 H0 fp pins=>(pg_name (i:=0) (show (["_law_part","_law_number","_law_level"]:List Str).Nodup by decide +kernel) rfl (Or.inl rfl) (Or.inr rfl))) (fun C s0 H0 fp pins=>(pe_callF C__law_coarse q hr (pa_cons (pv 0) (pa_cons (pe_op op_sub (pv 2) pe_int) (pa_cons (pv 1) pa_nil))) (hj:=by first | decide | omega | (simp only [Nat.add_eq]; omega))))) pa_nil) (hj:=by first | decide | omega | (simp only [Nat.add_eq]; omega))))))),?_⟩
    cases ht with
    | col i=>exact ⟨_,rfl,_,_,_,rfl,.int i,kit_it,_,rfl,iteT ⟨_,rfl,q' _ H (Same.refl H) (.col i)⟩⟩
    | @four p xa xb xc xd ta tb tc td e ja jb jc jd =>
      refine ⟨_,rfl,_,_,_,rfl,.tup e,kit_tt,_,rfl,iteF ?_⟩
      cases l with
      | zero=>exact gt.elim
      | succ l =>
      refine ⟨_,rfl,_,rfl,rfl,_,rfl,ite2 (fun c => ?_) (fun c => ?_)⟩
      · have c':l + 1=k:=by
          have:=V.int.inj (of_decide_eq_true c)
          omega
        subst c'
        refine ⟨_,rfl,_,rfl,.ref p,.four ta tb tc td,l + 1,rfl,.four e ja jb jc jd,gt,hl,fun H2 s2 => ?_⟩
        refine q' _ H2 s2 ?_
        unfold coarse
        rw [if_pos rfl]
        exact .col _
      · have c':l + 1≠k:=fun z=>c (decide_eq_true (by rw [z]))
        obtain ⟨ga,gb,gc,gd,_⟩:=id gt
        have hd':max ta.deep (max tb.deep (max tc.deep td.deep)) + 1 < n + 1:=hd
        have pick:∀ {j:Nat} {x:V},[xa,xb,xc,xd][j]? = some x→j < 4∧TrAt H x (pk4 ta tb tc td j)∧Good l (pk4 ta tb tc td j)∧(pk4 ta tb tc td j).deep < n:=fun {j x} hx=>by
          rcases at4 hx with ⟨rfl,rfl⟩ | ⟨rfl,rfl⟩ | ⟨rfl,rfl⟩ | ⟨rfl,rfl⟩
          · exact ⟨by decide,ja,ga,by show ta.deep < n; omega⟩
          · exact ⟨by decide,jb,gb,by show tb.deep < n; omega⟩
          · exact ⟨by decide,jc,gc,by show tc.deep < n; omega⟩
          · exact ⟨by decide,jd,gd,by show td.deep < n; omega⟩
        refine ⟨[.int (k:Int),.int ((l + 1:Nat):Int)],rfl,_,rfl,p,rfl,⟨_,SqT.of e⟩,compC_tup [xa,xb,xc,xd] (fun D j ys H'=>Same H H'∧H' D=some (.lst ys)∧j≤4∧ys.length=j∧∀ i y,ys[i]? = some y→TrAt H' y (coarse (pk4 ta tb tc td i) l k)) (by show 4≤sizeLine; decide) (fun D j ys H' h=>SqT.of (h.1 _ _ e))
          (fun D j ys H' h=>⟨h.2.1,by rw [h.2.2.2.1]; exact Nat.le_refl _⟩) (fun D hD=>⟨Same.new hD _,upd_same,by decide,rfl,fun i y hy=>by simp at hy⟩) ?_ ?_ (fun _ _ _ _ _ k h=>k _ _ h) ?_⟩
        · rintro D j x ys H' hx hD ⟨s1,s2,s3,s4,s5⟩
          obtain ⟨hj,jx,gx,dx⟩:=pick hx
          refine ⟨rfl,_,rfl,_,rfl,_,_,rfl,rfl,_,rfl,x,pk4 ta tb tc td j,l,k,?_,jx.up s1.tups,gx,by omega,by omega,dx,by omega,fun v' H2 st2 hv => ?_⟩
          · show [x,V.int (((l + 1:Nat):Int) - 1),V.int (k:Int)]=_
            rw [show ((l + 1:Nat):Int) - 1=(l:Int) by omega]
          have uD:=st2 _ _ s2
          have tl:=Tups.lst (ys:=ys++[v']) uD
          refine ⟨uD,Same.set (s1.trans st2) hD _,upd_same,by omega,by rw [List.length_append,s4]; rfl,fun i z hz => ?_⟩
          rcases Nat.lt_or_ge i ys.length with hi | hi
          · rw [List.getElem?_append_left hi] at hz
            exact (s5 i z hz).up (st2.tups.trans tl)
          · rw [List.getElem?_append_right hi] at hz
            have h0:i - ys.length=0:=by
              rcases h:i - ys.length with _ | k
              · rfl
              · rw [h] at hz; simp at hz
            rw [h0] at hz
            have ei:i=j:=by omega
            rw [← Option.some.inj hz,ei]
            exact hv.up tl
        · rintro D ys H' hD ⟨s1,s2,s3,s4,s5⟩
          have s4':ys.length=4:=s4
          obtain ⟨y0,y1,y2,y3,rfl⟩:∃ y0 y1 y2 y3,ys=[y0,y1,y2,y3]:=by
            match ys,s4' with
            | [y0,y1,y2,y3],_=>exact ⟨y0,y1,y2,y3,rfl⟩
          have d0:=coarse_deep ta l k ga (by omega)
          have d1:=coarse_deep tb l k gb (by omega)
          have d2:=coarse_deep tc l k gc (by omega)
          have d3:=coarse_deep td l k gd (by omega)
          refine ⟨D,y0,y1,y2,y3,_,_,_,_,rfl,s2,s5 0 y0 rfl,s5 1 y1 rfl,s5 2 y2 rfl,s5 3 y3 rfl,⟨Nat.le_trans d0 (by omega),Nat.le_trans d1 (by omega),Nat.le_trans d2 (by omega),Nat.le_trans d3 (by omega)⟩,fun v' H2 s6 hv => ?_⟩
          refine q' v' H2 (s1.trans s6) ?_
          unfold coarse
          rw [if_neg c']
          exact hv
        · rintro σ H' R R' kk ⟨a0,e0,a1,e1,i,j,e2,e3,a2,e4,x,t',l',k',e5,g1,g2,g3,g4,g6,g7,g9⟩
          exact ⟨a0,e0,a1,e1,i,j,e2,e3,a2,e4,x,t',l',k',e5,g1,g2,g3,g4,g6,g7,fun v H2 h1 h3=>kk _ _ (g9 v H2 h1 h3)⟩
abbrev s_law_alike:Stmt:=top 33
theorem sc_law_alike:FnScope ["_law_tree_here","_law_due","_law_part","_law_other"] ["_law_tree_here","_law_due"] (defScope s_law_alike):=⟨rfl,rfl,rfl,by decide +kernel,rfl,by decide +kernel,by decide +kernel⟩
def sp_law_alike (m:Nat):Sp:=fun vs H Q _=>∃ (v u:V) (t:Tr),vs=[v,u]∧TrAt H v t∧TrAt H u t∧t.deep < m∧m≤60∧∀ H',Same H H'→Q (.bl true) H'
theorem ok_law_alike (T:Tx K mg) (q:Quiet CX) (F:FunD K "_law_alike" "_law_alike" s_law_alike f fd .none) (b:Binds K fd ["_law_tree_here","_law_due"] []) (m:mg "_law_alike" = some (.ref f)) :
    ∀ n,FnOk P w K mg base CX (1 + n) f fd ["_law_tree_here","_law_due"] (sp_law_alike n)
  | 0=>by
    have C__law_alike:=fokF (P:=P) (w:=w) (base:=base) (CX:=CX) F b m
    refine F.ok sc_law_alike (fun vs H Q E h => ?_) (fun cdv A outer s H vs Q E hr h => ?_)
    · obtain ⟨_,_,_,rfl,_⟩:=h
      rfl
    obtain ⟨v,u,t,rfl,h1,h2,hd,_⟩:=h
    exact absurd hd (Nat.not_lt_zero _)
  | n + 1=>by
    have C__law_alike:Fok P w K mg base CX (1 + n) "_law_alike" ["_law_tree_here","_law_due"] [] (sp_law_alike n):=fok F (ok_law_alike T q F b m n) b m
    refine F.ok sc_law_alike (fun vs H Q E h => ?_) (fun cdv A outer s H vs Q E hr h => ?_)
    · obtain ⟨_,_,_,rfl,_⟩:=h
      rfl
    obtain ⟨v,u,t,rfl,h1,h2,hd,hm,q'⟩:=h
    refine ⟨_,(pss_cons (ps_if (pt_val (pe_callB (call_isiT "tuple") rfl T.b_isinstance bb_isinstance (pa_cons (pv 1) (pa_cons (pe_bty T.b_tuple bt_tuple) pa_nil)))) (pss_cons (ps_if (PW.pt (pw_or (pt_not (pt_val (pe_callB (call_isiT "tuple") rfl T.b_isinstance bb_isinstance (pa_cons (pv 0) (pa_cons (pe_bty T.b_tuple bt_tuple) pa_nil))))) (pw_or1 (pt_cmpR op_ne (pe_callB call_len rfl T.b_len bb_len (pa_cons (pv 0) pa_nil)) pe_int (nomark _))))) (pss_one (ps_ret pe_bl)) pss_nil) (pss_cons (ps_for PassesOwn.never rfl (pi_zip rfl T.b_zip (pa_cons (pv 0) (pa_cons (pv 1) pa_nil))) (pg_tup rfl (pgs_cons (pg_name (i:=2) sc_law_alike.nd rfl (Or.inl rfl)) (pgs_cons (pg_name (i:=3) sc_law_alike.nd rfl (Or.inl rfl)) pgs_nil))) (pss_one (ps_if (pt_not (pt_val (pe_callF C__law_alike q hr (pa_cons (pv 2) (pa_cons (pv 3) pa_nil)) (hj:=by first | decide | omega | (simp only [Nat.add_eq]; omega))))) (pss_one (ps_ret pe_bl)) pss_nil))) (pss_one (ps_ret pe_bl)))) pss_nil) (pss_one (ps_ret (pe_and (pe_callB (call_isiT "int") rfl T.b_isinstance bb_isinstance (pa_cons (pv 0) (pa_cons (pe_bty T.b_int bt_int) pa_nil))) (pe_and (pe_not (pe_callB (call_isiT "bool") rfl T.b_isinstance bb_isinstance (pa_cons (pv 0) (pa_cons (pe_bty T.b_bool bt_bool) pa_nil)))) (pe_one (pe_cmpR (op_eqD hr) (pv 0) (pv 1) (nomark _)))))))),?_⟩
    cases h2 with
    | col i =>
      cases h1
      refine ⟨_,rfl,_,_,_,rfl,.int i,kit_it,_,rfl,iteF ?_⟩
      refine ⟨_,rfl,_,_,_,rfl,.int i,kit_ii,_,rfl,iteT ?_⟩
      refine ⟨_,rfl,_,_,_,rfl,.int i,kit_ib,_,rfl,_,rfl,iteT ?_⟩
      refine ⟨_,rfl,_,rfl,(Tr.col i).data,(Tr.col i).data,.int i,.int i,Tr.shaped (Nat.zero_le _),Tr.shaped (Nat.zero_le _),?_⟩
      rw [Tr.eqv,decide_eq_true rfl]
      exact q' _ (Same.refl H)
    | @four p xa xb xc xd ta tb tc td e ja jb jc jd =>
      refine ⟨_,rfl,_,_,_,rfl,.tup e,kit_tt,_,rfl,iteT ?_⟩
      obtain ⟨p',xa',xb',xc',xd',rfl,e',ja',jb',jc',jd'⟩:∃ p' xa' xb' xc' xd',v=.ref p'∧H p'=some (.tup [xa',xb',xc',xd'])∧TrAt H xa' ta∧TrAt H xb' tb∧TrAt H xc' tc∧TrAt H xd' td:=by
        cases h1 with
        | four e ka kb kc kd=>exact ⟨_,_,_,_,_,rfl,e,ka,kb,kc,kd⟩
      have hd':max ta.deep (max tb.deep (max tc.deep td.deep)) + 1 < n + 1:=hd
      refine ⟨_,rfl,_,_,_,rfl,.tup e',kit_tt,_,rfl,iteF ?_⟩
      refine ⟨_,rfl,_,_,rfl,.inr ⟨_,SqT.of e',rfl⟩,rfl,_,rfl,iteNS rfl ?_⟩
      refine ⟨_,rfl,_,rfl,p',p,.t,.t,rfl,⟨_,SqT.of e'⟩,⟨_,SqT.of e⟩,for_zip (xs:=[xa',xb',xc',xd']) (ys:=[xa,xb,xc,xd]) (fun i σ H2=>Same H H2∧∃ v2 v3,σ=[some (.ref p'),some (.ref p),v2,v3]) ⟨Same.refl H,none,none,rfl⟩ (fun i σ H2 h=>⟨SqT.of (h.1 _ _ e'),SqT.of (h.1 _ _ e)⟩) ?_ ?_⟩
      · rintro i u v pr σ H2 hu hv ⟨sm,v2,v3,rfl⟩ hpr
        have key:∃ t,TrAt H u t∧TrAt H v t∧t.deep < n:=by
          rcases at4 hu with ⟨rfl,rfl⟩ | ⟨rfl,rfl⟩ | ⟨rfl,rfl⟩ | ⟨rfl,rfl⟩
          · cases hv; exact ⟨_,ja',ja,by omega⟩
          · cases hv; exact ⟨_,jb',jb,by omega⟩
          · cases hv; exact ⟨_,jc',jc,by omega⟩
          · cases hv; exact ⟨_,jd',jd,by omega⟩
        obtain ⟨t,k1,k2,k3⟩:=key
        have s3:=sm.trans (Same.new hpr (.tup [u,v]))
        refine ⟨pr,_,rfl,SqT.of upd_same,rfl,_,_,rfl,_,_,rfl,rfl,?_⟩
        exact ⟨_,rfl,_,rfl,u,v,t,rfl,k1.up s3.tups,k2.up s3.tups,k3,by omega,fun H4 s4=>⟨_,rfl,iteF ⟨s3.trans s4,_,_,rfl⟩⟩⟩
      · rintro σ H2 ⟨sm,v2,v3,rfl⟩
        exact q' H2 sm
abbrev s_law_right:Stmt:=top 34
theorem sc_law_right:FnScope ["_law_found","_law_level","_law_tree_here"] ["_law_found","_law_level","_law_tree_here"] (defScope s_law_right):=⟨rfl,rfl,rfl,by decide +kernel,rfl,by decide +kernel,by decide +kernel⟩
def sp_law_right:Sp:=fun vs H Q _=>∃ (p:Addr) (n:Nat) (v u:V) (t:Tr),vs=[.ref p,.int (n:Int),u]∧H p=some (.tup [.int (n:Int),v])∧TrAt H v t∧TrAt H u t∧t.deep≤40∧∀ H',Same H H'→Q (.bl true) H'
theorem ok_law_right (T:Tx K mg) (q:Quiet CX) (F:FunD K "_law_right" "_law_right" s_law_right f fd .none) (C__law_alike:Fok P w K mg base CX 42 "_law_alike" ["_law_tree_here","_law_due"] [] (sp_law_alike 41)):FnOk P w K mg base CX 43 f fd ["_law_found","_law_level","_law_tree_here"] sp_law_right:=by
  refine F.ok sc_law_right (fun vs H Q E h => ?_) (fun cdv A outer s H vs Q E hr h => ?_)
  · obtain ⟨_,_,_,_,_,rfl,_⟩:=h
    rfl
  obtain ⟨p,n,v,u,t,rfl,hp,hv,hu,hd,q'⟩:=h
  refine ⟨_,(pss_cons (ps_if (PW.pt (pw_or (pt_not (pt_val (pe_callB (call_isiT "tuple") rfl T.b_isinstance bb_isinstance (pa_cons (pv 0) (pa_cons (pe_bty T.b_tuple bt_tuple) pa_nil))))) (pw_or (pt_cmpR op_ne (pe_callB call_len rfl T.b_len bb_len (pa_cons (pv 0) pa_nil)) pe_int (nomark _)) (pw_or1 (pt_not (pt_val (pe_callB (call_isiT "int") rfl T.b_isinstance bb_isinstance (pa_cons (pe_ix ix_tup (pv 0) pe_int (fun _ _=>rfl)) (pa_cons (pe_bty T.b_int bt_int) pa_nil))))))))) (pss_one (ps_ret pe_bl)) pss_nil) (pss_one (ps_ret (pe_and (pe_not (pe_callB (call_isiT "bool") rfl T.b_isinstance bb_isinstance (pa_cons (pe_ix ix_tup (pv 0) pe_int (fun _ _=>rfl)) (pa_cons (pe_bty T.b_bool bt_bool) pa_nil)))) (pe_and (pe_cmpR op_eq (pe_ix ix_tup (pv 0) pe_int (fun _ _=>rfl)) (pv 1) (nomark _)) (pe_one (pe_callF C__law_alike q hr (pa_cons (pe_ix ix_tup (pv 0) pe_int (fun _ _=>rfl)) (pa_cons (pv 2) pa_nil))))))))),?_⟩
  refine ⟨_,rfl,_,_,_,rfl,.tup hp,kit_tt,_,rfl,iteF ?_⟩
  refine ⟨_,rfl,_,_,rfl,.inr ⟨_,SqT.of hp,rfl⟩,rfl,_,rfl,iteNS rfl ?_⟩
  refine ⟨_,rfl,p,_,_,_,rfl,rfl,SqT.of hp,rfl,_,_,_,rfl,.int _,kit_ii,_,rfl,iteF ?_⟩
  refine ⟨_,rfl,p,_,_,_,rfl,rfl,SqT.of hp,rfl,_,_,_,rfl,.int _,kit_ib,_,rfl,_,rfl,iteT ?_⟩
  refine ⟨_,rfl,p,_,_,_,rfl,rfl,SqT.of hp,rfl,_,rfl,rfl,_,rfl,iteDT rfl ?_⟩
  exact ⟨_,rfl,p,_,_,_,rfl,rfl,SqT.of hp,rfl,_,rfl,v,u,t,rfl,hv,hu,by omega,by decide,fun H' s'=>q' H' s'⟩
end
end Qs


namespace Qs
open PySem L2
def shData (n:Int) (t:Tr):PyData:=.tuple [.int n,t.data]
theorem ShAt.dat {H:Hp} {v:V} {n:Int} {t:Tr} (h:ShAt H v n t):Dat H v (shData n t):=by
  obtain ⟨p,x,rfl,hp,hx⟩:=h
  exact .tup hp (.cons (.int n) (.cons hx.dat .nil))
theorem sh_shaped {n:Int} {t:Tr} (h:t.deep≤60):SeqAt.shaped (shData n t)=true:=by
  unfold SeqAt.shaped shData
  show ((true && (t.data.canLay0 && true)) && decide (max 0 (max t.data.depth 0) + 1≤64))=true
  rw [Tr.lay,Tr.depth,decide_eq_true (by omega)]; rfl
theorem sh_eqv (n:Int) (t u:Tr):PyData.eqv (shData n t) (shData n u)=decide (t=u):=by
  show ((n == n) && (PyData.eqv t.data u.data && true))=_
  rw [Tr.eqv]; simp

theorem bt_ValueError:bootBuiltins "ValueError" = some (.type "ValueError"):=by decide +kernel
section
variable {P:Program} {w:World} {K:PySem.W.Frag} {mg:Str→Option Value} {base:Heap} {CX:CXT} {f:Addr} {fd:FuncData}
abbrev s_law_odd:Stmt:=top 36
theorem sc_law_odd:FnScope ["_law_cell","_law_most_here","_law_far"] ["_law_cell","_law_most_here"] (defScope s_law_odd):=⟨rfl,rfl,rfl,by decide +kernel,rfl,by decide +kernel,by decide +kernel⟩
def sp_law_odd (K:PySem.W.Frag):Sp:=fun vs H Q _=>∃ (c:Int) (m:Nat),vs=[.int c,.int (m:Int)]∧∀ (x:V) (H':Hp),Same H H'→(∀ H'',BadI K H'' (m:Int) x)→Q x H'
theorem ok_law_odd (T:Tx K mg) (F:FunD K "_law_odd" "_law_odd" s_law_odd f fd .none):FnOk P w K mg base CX 1 f fd ["_law_cell","_law_most_here"] (sp_law_odd K):=by
  refine F.oks sc_law_odd (fun vs H Q E h => ?_) (fun cdv A outer s H vs Q E hr h => ?_)
  · obtain ⟨_,_,rfl,_⟩:=h
    rfl
  obtain ⟨c,m,rfl,q'⟩:=h
  refine ⟨_,(pssx_cons (PSx.mk (ps_set (i:=2) sc_law_odd.nd rfl (Or.inl rfl) (pe_op op_mod (pe_op op_fdivW (pv 0) pe_int) (pe_op op_pow pe_int pe_int)) (hs:=swaps_of rfl))) (pssx_one (psx_ret (pex_ix ix_list (pex_lst (pax_cx (PEx.mk (pe_op op_add (pv 1) pe_int)) (pax_cx (PEx.mk (pe_op op_add (pe_op op_add (pv 1) pe_int) (pv 2))) (pax_cx (PEx.mk (pe_un un_neg pe_int)) (pax_cx (PEx.mk (pe_op op_sub (pe_un un_neg pe_int) (pv 2))) (pax_cx (PEx.mk pe_bl) (pax_cx (PEx.mk pe_non) (pax_cx (PEx.mk pe_str) pax_nil)))))))) (pe_op op_mod (pv 0) pe_int) (fun _ _=>rfl))))),?_⟩
  refine ⟨_,rfl,_,_,rfl,rfl,cdivW (by decide) (by decide),_,_,rfl,rfl,⟨by decide,by decide,by decide⟩,_,_,rfl,rfl,?_,?_⟩
  · show (0:Int) < 10 ^ ((30:Int)).toNat
    decide +kernel
  have f0:0≤c / 7 % 10 ^ ((30:Int)).toNat:=Int.emod_nonneg _ (by decide +kernel)
  refine ⟨_,rfl,_,_,rfl,rfl,_,rfl,_,_,rfl,rfl,_,rfl,_,_,rfl,rfl,1,rfl,1,rfl,_,rfl,_,_,rfl,rfl,(by show 7≤sizeLine; decide),fun p hp => ?_⟩
  have t1:Same H (upd H p (.lst [V.int ((m:Int) + 1),.int ((m:Int) + 1 + c / 7 % 10 ^ ((30:Int)).toNat),.int (-1),.int (-1 - c / 7 % 10 ^ ((30:Int)).toNat),.bl true,.non,.str "1"])):=Same.new hp _
  generalize c / 7 % 10 ^ ((30:Int)).toNat=far at *
  have pick:∃ x,atI [V.int ((m:Int) + 1),.int ((m:Int) + 1 + far),.int (-1),.int (-1 - far),.bl true,.non,.str "1"] (c % 7)=some x∧∀ H'',BadI K H'' (m:Int) x:=by
    obtain ⟨k,hk,ek⟩:∃ k:Nat,k < 7∧c % 7=(k:Int):=⟨(c % 7).toNat,by omega,by omega⟩
    rw [ek]
    rcases k with _ | _ | _ | _ | _ | _ | _ | k
    · exact ⟨_,rfl,fun H''=>.inl ⟨_,rfl,by omega⟩⟩
    · exact ⟨_,rfl,fun H''=>.inl ⟨_,rfl,by omega⟩⟩
    · exact ⟨_,rfl,fun H''=>.inl ⟨_,rfl,by omega⟩⟩
    · exact ⟨_,rfl,fun H''=>.inl ⟨_,rfl,by omega⟩⟩
    · exact ⟨_,rfl,fun H''=>.inr (.inl ⟨true,rfl⟩)⟩
    · exact ⟨_,rfl,fun H''=>.inr (.inr ⟨_,.non,kit_ni⟩)⟩
    · exact ⟨_,rfl,fun H''=>.inr (.inr ⟨_,.str _,kit_si⟩)⟩
    · omega
  obtain ⟨x,ex,bx⟩:=pick
  exact ⟨_,rfl,_,_,rfl,rfl,(by show (0:Int) < 7; decide),p,_,_,x,rfl,rfl,SqL.of upd_same,ex,q' x _ t1 bx⟩
abbrev s_law_refused:Stmt:=top 35
theorem sc_law_refused:FnScope ["_law_deed","e"] ["_law_deed"] (defScope s_law_refused):=⟨rfl,rfl,rfl,by decide +kernel,rfl,by decide +kernel,by decide +kernel⟩
theorem ok_law_refused (T:Tx K mg) (Y:Yx K mg) (F:FunD K "_law_refused" "_law_refused" s_law_refused f fd .none) (b:Binds K fd ["_law_deed"] []) (m:mg "_law_refused" = some (.ref f)):RefOk P w K mg base 89 90 "_law_refused" ["_law_deed"] (fun cls zs=>cls=.ref Y.c_NoLevel∧zs=[]):=by
  refine ⟨f,fd,b,F.kp,m,fun Z fa c' o qual R cls zs fdl hdl hbl G hk => ?_⟩
  obtain ⟨rfl,rfl⟩:=hk
  refine F.okZ sc_law_refused (fun vs H Q E h => ?_) (fun cdv A outer s H vs Q E hr hz h => ?_)
  · obtain ⟨rfl,_⟩:=h
    rfl
  obtain ⟨rfl,h1,h2,hR,q'⟩:=h
  refine ⟨_,(pss_cons (ps_try sc_law_refused.nd (i:=1) rfl rfl rfl rfl rfl Y.m_SheetError rfl (by decide) (fun W pn R pt=>(pss_one (ps_expr (pe_callVS (i:=0) G hdl hbl hz hr pt)))) (fun e=>(pss_one (ps_ret (pe_and (pe_callB (call_isxC (K:=K)) rfl T.b_isinstance bb_isinstance (pa_cons (pv 1) (pa_cons (pe_glob (v:=.ref _) rfl Y.m_NoLevel rfl) pa_nil))) (pe_and (pe_callB (call_isxT (K:=K) "ValueError") rfl T.b_isinstance bb_isinstance (pa_cons (pv 1) (pa_cons (pe_bty T.b_ValueError bt_ValueError) pa_nil))) (pe_one (pe_not (pe_callB (call_isxC (K:=K)) rfl T.b_isinstance bb_isinstance (pa_cons (pv 1) (pa_cons (pe_glob (v:=.ref _) rfl Y.m_NoNumber rfl) pa_nil))))))))))) (pss_one (ps_ret pe_bl))),?_⟩
  refine ⟨rfl,h2,rfl,h1,h2,hR,fun H' s'=>⟨Y.s_NoLevel,fun e he => ?_⟩⟩
  refine ⟨_,rfl,e,Y.c_NoLevel,Y.c_NoLevel,true,rfl,upd_same,Y.k_NoLevel,kit_same,true,rfl,iteT ?_⟩
  refine ⟨_,rfl,e,Y.c_NoLevel,true,rfl,upd_same,Y.k_NoLevel,Y.v_NoLevel,true,rfl,iteT ?_⟩
  exact ⟨_,rfl,e,Y.c_NoLevel,Y.c_NoNumber,false,rfl,upd_same,Y.k_NoLevel,Y.t_NoLevel_NoNumber,false,rfl,q' _ (s'.trans (Same.new he _))⟩
end
end Qs


namespace Qs
open PySem L2
theorem good_le {n m:Nat} {t:Tr} (h:Good n t) (l:n≤m):Good m t:=by
  induction l with
  | refl=>exact h
  | step _ ih=>exact ih.up
theorem seqT {T:List (Addr × Str)} {K:PySem.W.Frag} {H H':Hp} {a:Addr} {xs:List V} (s:SameT T H H') (t:Tabs T H) (h:SqL K H a xs):SqL K H' a xs:=by
  rcases h with (h | ⟨o,h⟩) | h
  · exact .inl (.inl (s.keep t h (by intro ps z; cases z)))
  · exact .inl (.inr ⟨o,s.keep t h (by intro ps z; cases z)⟩)
  · exact .inr h
section
variable {P:Program} {w:World} {K:PySem.W.Frag} {mg:Str→Option Value} {base:Heap} {CX:CXT} {f:Addr} {fd:FuncData}
abbrev s_law:Stmt:=top 37
theorem sc_law:FnScope ["_law_script","_law_level","_law_tree_here","_law_sheet","_law_more","_law_less","_law_k","_law_odd_here"] ["_law_script"] (defScope s_law):=⟨rfl,rfl,rfl,by decide +kernel,rfl,by decide +kernel,by decide +kernel⟩
abbrev qLaw:Str:=("law" : Str) ++ ".<locals>." ++ "<lambda>"
def sp_law (K:PySem.W.Frag) (Tb:List (Addr × Str)):Sp:=fun vs H Q _=>∃ (a:Addr) (ns:List Int),vs=[.ref a]∧SqL K H a (ns.map V.int)∧ns.length≤63∧Tabs Tb H∧∀ H',Q (.bl true) H'
theorem ok_law (T:Tx K mg) (Y:Yx K mg) (q:Quiet (CXe P w)) {Tb:List (Addr × Str)} {Pt:Addr} (F:FunT K "law" "law" s_law f fd .none Pt) (KX:K.In base) (hB:BMain mg base) (hT:(Pt,qLaw)∈Tb) (hnd:(Tb.map (·.1)).Nodup)
    (C__law_at:Fok P w K mg base (CXe P w) 1 "_law_at" ["_law_script","_law_k"] [] (sp_law_at K)) (C__law_tree:Fok P w K mg base (CXe P w) 44 "_law_tree" ["_law_script","_law_first","_law_level","_law_most_here"] [] (sp_law_tree K)) (C__law_odd:Fok P w K mg base (CXe P w) 1 "_law_odd" ["_law_cell","_law_most_here"] [] (sp_law_odd K)) (R__law_refused:RefOk P w K mg base 89 90 "_law_refused" ["_law_deed"] (fun cls zs=>cls=.ref Y.c_NoLevel∧zs=[]))
    (C_finer:Fok P w K mg base (CXe P w) 3 "finer" ["sheet","number"] [] (sp_finerX Y)) (C_coarser:Fok P w K mg base (CXe P w) 88 "coarser" ["sheet","number"] [] (sp_coarserX Y Tb)) (C__law_right:Fok P w K mg base (CXe P w) 43 "_law_right" ["_law_found","_law_level","_law_tree_here"] [] sp_law_right) (C__law_coarse:Fok P w K mg base (CXe P w) 85 "_law_coarse" ["_law_tree_here","_law_level","_law_number"] [] (sp_law_coarse 41)) :
    FnOk P w K mg base (CXe P w) 91 f fd ["_law_script"] (sp_law K Tb):=by
  refine F.ok KX sc_law (fun vs H Q E h => ?_) (fun c A outer s H vs Q E hC hr h => ?_)
  · obtain ⟨_,_,rfl,_⟩:=h
    rfl
  obtain ⟨a,ns,rfl,hS,h63,hTb,q'⟩:=h
  refine ⟨_,(pss_cons (ps_set (i:=1) sc_law.nd rfl (Or.inl rfl) (pe_op op_mod (pe_op op_fdivW (pe_callF C__law_at q hr (pa_cons (pv 0) (pa_cons pe_int pa_nil))) pe_int) pe_int)) (pss_cons (ps_cut (ps_if (pt_cmpR op_eq (pe_op op_mod (pe_callF C__law_at q hr (pa_cons (pv 0) (pa_cons pe_int pa_nil))) pe_int) pe_int (nomark _)) (pss_one (ps_set (i:=1) sc_law.nd rfl (Or.inl rfl) (pe_op op_mod (pe_op op_fdivW (pe_callF C__law_at q hr (pa_cons (pv 0) (pa_cons pe_int pa_nil))) pe_int) pe_int))) pss_nil)) (pss_cons (ps_set (i:=2) sc_law.nd rfl (Or.inl rfl) (pe_callF C__law_tree q hr (pa_cons (pv 0) (pa_cons pe_int (pa_cons (pv 1) (pa_cons pe_int pa_nil)))))) (pss_cons (ps_set (i:=3) sc_law.nd rfl (Or.inr rfl) (pe_tupx (pax_c (pv 1) (pax_c (pv 2) pax_nil)))) (pss_cons (ps_set (i:=4) sc_law.nd rfl (Or.inl rfl) (pe_op op_mod (pe_callF C__law_at q hr (pa_cons (pv 0) (pa_cons pe_int pa_nil))) (pe_op op_sub pe_int (pv 1)))) (pss_cons (ps_set (i:=5) sc_law.nd rfl (Or.inl rfl) (pe_op op_mod (pe_callF C__law_at q hr (pa_cons (pv 0) (pa_cons pe_int pa_nil))) (pe_op op_add (pv 1) pe_int))) (pss_cons (ps_for PassesOwn.never rfl (pi_range1 rfl T.b_range (pa_cons pe_int pa_nil)) (pg_name (i:=6) sc_law.nd rfl (Or.inl rfl)) (pss_cons (ps_set (i:=7) sc_law.nd rfl (Or.inr rfl) (pe_callF C__law_odd q hr (pa_cons (pe_callF C__law_at q hr (pa_cons (pv 0) (pa_cons pe_int pa_nil))) (pa_cons (pe_op op_sub pe_int (pv 1)) pa_nil)))) (pss_cons (ps_if (pt_not (pt_val (pe_deed ["_law_sheet","_law_odd_here"] ["_law_sheet","_law_odd_here"] [3,7] R__law_refused hr rfl (capsL_cons rfl (Or.inr (Or.inl rfl)) (by decide) (capsL_cons rfl (Or.inr (Or.inl rfl)) (by decide) capsL_nil)) rfl hB hC rfl hT hnd rfl (by with_unfolding_all rfl) (by exact ⟨rfl,rfl,rfl,by decide +kernel,by decide +kernel,by decide +kernel,by decide +kernel,by decide +kernel⟩) (fun _ _ _=>rfl) (fun fa c' A outer s H E hr=>(pe_callX C_finer hr passL (pa_cons (pv 0) (pa_cons (pv 1) pa_nil)))) pa_nil (fun _ _ _ _ k h=>k _ _ h)))) (pss_one (ps_ret pe_bl)) pss_nil) (pss_cons (ps_set (i:=7) sc_law.nd rfl (Or.inr rfl) (pe_callF C__law_odd q hr (pa_cons (pe_op op_fdivW (pe_callF C__law_at q hr (pa_cons (pv 0) (pa_cons pe_int pa_nil))) pe_int) (pa_cons (pv 1) pa_nil)))) (pss_cons (ps_if (pt_not (pt_val (pe_deed ["_law_sheet","_law_odd_here"] ["_law_sheet","_law_odd_here"] [3,7] R__law_refused hr rfl (capsL_cons rfl (Or.inr (Or.inl rfl)) (by decide) (capsL_cons rfl (Or.inr (Or.inl rfl)) (by decide) capsL_nil)) rfl hB hC rfl hT hnd rfl (by with_unfolding_all rfl) (by exact ⟨rfl,rfl,rfl,by decide +kernel,by decide +kernel,by decide +kernel,by decide +kernel,by decide +kernel⟩) (fun _ _ _=>rfl) (fun fa c' A outer s H E hr=>(pe_callX C_coarser hr passL (pa_cons (pv 0) (pa_cons (pv 1) pa_nil)))) pa_nil (fun _ _ _ _ k h=>k _ _ h)))) (pss_one (ps_ret pe_bl)) pss_nil) (pss_cons (ps_if (pt_not (pt_val (pe_callF C__law_right q hr (pa_cons (pe_callF C_finer q hr (pa_cons (pv 3) (pa_cons (pv 4) pa_nil))) (pa_cons (pe_op op_add (pv 1) (pv 4)) (pa_cons (pv 2) pa_nil)))))) (pss_one (ps_ret pe_bl)) pss_nil) (pss_one (ps_if (pt_not (pt_val (pe_callF C__law_right q hr (pa_cons (pe_callF C_coarser q hr (pa_cons (pv 3) (pa_cons (pv 5) pa_nil))) (pa_cons (pe_op op_sub (pv 1) (pv 5)) (pa_cons (pe_callF C__law_coarse q hr (pa_cons (pv 2) (pa_cons (pv 1) (pa_cons (pv 5) pa_nil)))) pa_nil)))))) (pss_one (ps_ret pe_bl)) pss_nil)))))))) (pss_cons (ps_if (PW.pt (pw_or (pt_cmpR (op_neD hr) (pe_callF C_coarser q hr (pa_cons (pe_callF C_finer q hr (pa_cons (pv 3) (pa_cons (pv 4) pa_nil))) (pa_cons (pv 4) pa_nil))) (pv 3) (nomark _)) (pw_or1 (pt_cmpR (op_neD hr) (pe_callF C_coarser q hr (pa_cons (pe_callF C_coarser q hr (pa_cons (pv 3) (pa_cons (pv 5) pa_nil))) (pa_cons pe_int pa_nil))) (pe_callF C_coarser q hr (pa_cons (pv 3) (pa_cons (pv 5) pa_nil))) (nomark _))))) (pss_one (ps_ret pe_bl)) pss_nil) (pss_one (ps_ret (pe_callF C__law_right q hr (pa_cons (pe_callF C_coarser q hr (pa_cons (pv 3) (pa_cons (pv 1) pa_nil))) (pa_cons pe_int (pa_cons (pe_callF C__law_coarse q hr (pa_cons (pv 2) (pa_cons (pv 1) (pa_cons (pv 1) pa_nil)))) pa_nil)))))))))))))),?_⟩
  refine ⟨_,rfl,a,ns,0,rfl,hS,h63,_,_,rfl,rfl,cdivW (by decide) (by decide),_,_,rfl,rfl,(by show (0:Int) < 41; decide),?_⟩
  refine ⟨fun σ H2=>H2=H∧∃ n:Nat,n≤40∧σ=[some (.ref a),some (.int (n:Int)),none,none,none,none,none,none],?_,?_⟩
  · refine ⟨_,rfl,a,ns,0,rfl,hS,h63,_,_,rfl,rfl,(by show (0:Int) < 2; decide),rfl,_,rfl,ite2 (fun _ => ?_) (fun _=>⟨rfl,(cell ns 0 / 2 % 41).toNat,by omega,?_⟩)⟩
    · refine ⟨_,rfl,a,ns,0,rfl,hS,h63,_,_,rfl,rfl,cdivW (by decide) (by decide),_,_,rfl,rfl,(by show (0:Int) < 6; decide),rfl,(cell ns 0 / 2 % 6).toNat,by omega,?_⟩
      have e:((cell ns 0 / 2 % 6).toNat:Int)=cell ns 0 / 2 % 6:=by omega
      rw [e]; rfl
    · have e:((cell ns 0 / 2 % 41).toNat:Int)=cell ns 0 / 2 % 41:=by omega
      rw [e]; rfl
  rintro σ H2 ⟨rfl,n,hn,rfl⟩
  refine ⟨_,rfl,_,rfl,a,ns,4,n,8,rfl,hS,h63,hn,by decide,by decide,fun v t H1 s1 ht gt ct => ?_⟩
  have c4:cnt t≤4000:=Nat.le_trans ct (by omega)
  refine ⟨_,rfl,_,rfl,(by show 2≤sizeLine; decide),fun p hp => ?_⟩
  have s2:=Same.new hp (.tup [.int (n:Int),v])
  have u2:upd H1 p (.tup [.int (n:Int),v]) p=some (.tup [.int (n:Int),v]):=upd_same
  generalize upd H1 p (.tup [.int (n:Int),v])=H2 at *
  have s12:=s1.trans s2
  have hS2:=s12.seq hS
  have tb2:=s12.tabs hTb
  have ht2:=ht.up s2.tups
  have dt:=Nat.le_trans gt.deep hn
  have pm:(0:Int) < 41 - (n:Int):=by omega
  have pl:(0:Int) < (n:Int) + 1:=by omega
  refine ⟨_,rfl,a,ns,1,rfl,hS2,h63,_,rfl,_,_,rfl,rfl,_,_,rfl,rfl,pm,?_⟩
  obtain ⟨mo,hmo,emo⟩:∃ mo:Nat,mo≤40 - n∧cell ns 1 % (41 - (n:Int))=(mo:Int):=by
    have h1:=Int.emod_nonneg (cell ns 1) (show (41 - (n:Int))≠0 by omega)
    have h2:=Int.emod_lt_of_pos (cell ns 1) pm
    exact ⟨(cell ns 1 % (41 - (n:Int))).toNat,by omega,by omega⟩
  refine ⟨_,rfl,a,ns,2,rfl,hS2,h63,_,rfl,_,_,rfl,rfl,_,_,rfl,rfl,pl,?_⟩
  obtain ⟨le,hle,ele⟩:∃ le:Nat,le≤n∧cell ns 2 % ((n:Int) + 1)=(le:Int):=by
    have h1:=Int.emod_nonneg (cell ns 2) (show ((n:Int) + 1)≠0 by omega)
    have h2:=Int.emod_lt_of_pos (cell ns 2) pl
    exact ⟨(cell ns 2 % ((n:Int) + 1)).toNat,by omega,by omega⟩
  dsimp only
  rw [emo,ele]
  have kp:∀ {H':Hp},SameT Tb H2 H'→H' p=some (.tup [.int (n:Int),v]):=fun st=>st.tups tb2 _ _ u2
  have kt:∀ {H':Hp},SameT Tb H2 H'→TrAt H' v t:=fun st=>ht2.up (st.tups tb2)
  have kS:∀ {H':Hp},SameT Tb H2 H'→SqL K H' a (ns.map V.int):=fun st=>seqT st tb2 hS2
  have gm:∀ {k l:Nat},l=n - k→k≤n→Good l (coarse t n k):=fun e h=>by rw [e]; exact coarse_good t n _ gt h
  refine ⟨_,rfl,(by show (-(2 ^ 62):Int)≤2; decide),(by decide),for_range (fun k σ H3=>SameT Tb H2 H3∧Tabs Tb H3∧∃ o6 o7:Option V,σ=[some (.ref a),some (.int (n:Int)),some v,some (.ref p),some (.int (mo:Int)),some (.int (le:Int)),o6,o7]) ⟨SameT.refl H2,tb2,none,none,rfl⟩ ?_ ?_⟩
  · rintro k σ H3 hk ⟨st3,tb3,o6,o7,rfl⟩
    refine ⟨_,rfl,a,ns,3,rfl,kS st3,h63,_,rfl,_,_,rfl,rfl,cell ns 3,40 - n,?_,fun x1 H4 s4 b1 => ?_⟩
    · show [V.int (cell ns 3),V.int (40 - (n:Int))]=_
      rw [show (40:Int) - (n:Int)=((40 - n:Nat):Int) by omega]
    have st4:=st3.trans s4.toT
    have tb4:=s4.tabs tb3
    refine ⟨[.ref p,x1],.ref Y.c_NoLevel,rfl,tb4,fun H5 st5 tb5=>⟨rfl,⟨rfl,rfl⟩,fun E' Q' hE => ?_,fun H6 st6 tb6=>⟨_,rfl,iteF ?_⟩⟩⟩
    · exact ⟨_,rfl,_,rfl,p,n,v,x1,rfl,kp (st4.trans st5),hn,.inr ⟨b1 _,hE⟩⟩
    have st26:=st4.trans st6
    refine ⟨_,rfl,a,ns,3,rfl,kS st26,h63,_,_,rfl,rfl,cdivW (by decide) (by decide),_,rfl,_,n,rfl,fun x2 H7 s7 b2 => ?_⟩
    have st7:=st26.trans s7.toT
    have tb7:=s7.tabs tb6
    refine ⟨[.ref p,x2],.ref Y.c_NoLevel,rfl,tb7,fun H8 st8 tb8=>⟨rfl,⟨rfl,rfl⟩,fun E' Q' hE => ?_,fun H9 st9 tb9=>⟨_,rfl,iteF ?_⟩⟩⟩
    · exact ⟨_,rfl,_,rfl,p,n,v,x2,t,rfl,kp (st7.trans st8),kt (st7.trans st8),gt,hn,c4,tb8,.inr ⟨b2 _,hE⟩⟩
    have st29:=st7.trans st9
    refine ⟨_,rfl,_,rfl,p,n,v,_,rfl,kp st29,hn,.inl ⟨mo,rfl,hmo,fun r1 H10 s10 u10 => ?_⟩⟩
    have st10:=st29.trans s10.toT
    refine ⟨_,rfl,_,rfl,_,_,rfl,rfl,_,rfl,r1,n + mo,v,v,t,rfl,u10,kt st10,kt st10,dt,fun H11 s11=>⟨_,rfl,iteF ?_⟩⟩
    have st11:=st10.trans s11.toT
    have tb11:=s11.tabs (s10.tabs tb9)
    refine ⟨_,rfl,_,rfl,p,n,v,_,t,rfl,kp st11,kt st11,gt,hn,c4,tb11,.inl ⟨le,rfl,hle,fun r2 v2 H12 st12 tb12 u12 hv2 => ?_⟩⟩
    have st212:=st11.trans st12
    refine ⟨_,rfl,_,rfl,_,_,rfl,rfl,_,rfl,_,rfl,_,rfl,v,t,n,le,rfl,kt st212,gt,hn,hle,Nat.lt_succ_of_le dt,Nat.le_refl _,fun v3 H13 s13 hv3 => ?_⟩
    refine ⟨r2,n - le,v2,v3,coarse t n le,?_,s13 _ _ u12,hv2.up s13.tups,hv3,Nat.le_trans (coarse_deep t n le gt hle) hn,fun H14 s14=>⟨_,rfl,iteF ?_⟩⟩
    · show [V.ref r2,V.int ((n:Int) - (le:Int)),v3]=_
      rw [show (n:Int) - (le:Int)=((n - le:Nat):Int) by omega]
    exact ⟨st212.trans (s13.trans s14).toT,s14.tabs (s13.tabs tb12),_,_,rfl⟩
  · rintro σ H3 ⟨st3,tb3,o6,o7,rfl⟩
    refine ⟨_,rfl,_,rfl,p,n,v,_,rfl,kp st3,hn,.inl ⟨mo,rfl,hmo,fun r1 H4 s4 u4 => ?_⟩⟩
    have st4:=st3.trans s4.toT
    have tb4:=s4.tabs tb3
    have g4:Good (n + mo) t:=good_le gt (by omega)
    refine ⟨_,rfl,r1,n + mo,v,_,t,rfl,u4,kt st4,g4,by omega,c4,tb4,.inl ⟨mo,rfl,by omega,fun r2 v2 H5 st5 tb5 u5 hv2 => ?_⟩⟩
    have st25:=st4.trans st5
    rw [coarse_same t n mo gt] at hv2
    rw [show n + mo - mo=n by omega] at u5
    refine ⟨_,rfl,shData n t,shData n t,ShAt.dat ⟨r2,v2,rfl,u5,hv2⟩,ShAt.dat ⟨p,v,rfl,kp st25,kt st25⟩,sh_shaped (by omega),sh_shaped (by omega),?_⟩
    rw [sh_eqv,decide_eq_true rfl]
    refine ⟨_,rfl,iteF ?_⟩
    refine ⟨_,rfl,_,rfl,p,n,v,_,t,rfl,kp st25,kt st25,gt,hn,c4,tb5,.inl ⟨le,rfl,hle,fun r3 v3 H6 st6 tb6 u6 hv3 => ?_⟩⟩
    have gc:=coarse_good t n le gt hle
    refine ⟨r3,n - le,v3,_,coarse t n le,rfl,u6,hv3,gc,by omega,Nat.le_trans (coarse_cnt t n le) c4,tb6,.inl ⟨0,rfl,Nat.zero_le _,fun r4 v4 H7 st7 tb7 u7 hv4 => ?_⟩⟩
    have st27:=st25.trans (st6.trans st7)
    have e0:=coarse_same (coarse t n le) (n - le) 0 gc
    rw [Nat.add_zero] at e0
    rw [e0] at hv4
    rw [Nat.sub_zero] at u7
    refine ⟨_,rfl,_,rfl,p,n,v,_,t,rfl,kp st27,kt st27,gt,hn,c4,tb7,.inl ⟨le,rfl,hle,fun r5 v5 H8 st8 tb8 u8 hv5 => ?_⟩⟩
    have st28:=st27.trans st8
    have dc:=Nat.le_trans (coarse_deep t n le gt hle) hn
    refine ⟨shData ((n - le:Nat):Int) (coarse t n le),shData ((n - le:Nat):Int) (coarse t n le),ShAt.dat ⟨r4,v4,rfl,st8.tups tb7 _ _ u7,hv4.up (st8.tups tb7)⟩,ShAt.dat ⟨r5,v5,rfl,u8,hv5⟩,sh_shaped (by omega),sh_shaped (by omega),?_⟩
    rw [sh_eqv,decide_eq_true rfl]
    refine ⟨_,rfl,iteF ?_⟩
    refine ⟨_,rfl,_,rfl,p,n,v,_,t,rfl,kp st28,kt st28,gt,hn,c4,tb8,.inl ⟨n,rfl,Nat.le_refl _,fun r6 v6 H9 st9 tb9 u9 hv6 => ?_⟩⟩
    have st29:=st28.trans st9
    refine ⟨_,rfl,_,rfl,_,rfl,v,t,n,n,rfl,kt st29,gt,hn,Nat.le_refl _,Nat.lt_succ_of_le dt,Nat.le_refl _,fun v7 H10 s10 hv7 => ?_⟩
    rw [Nat.sub_self] at u9
    exact ⟨r6,0,v6,v7,coarse t n n,rfl,s10 _ _ u9,hv6.up s10.tups,hv7,Nat.le_trans (coarse_deep t n n gt (Nat.le_refl _)) hn,fun H11 s11=>q' _⟩
end
end Qs


namespace Qs
open PySem L2
theorem lenKS {us:List Value} {n:Nat} (h:us.length=n + 1):∃ a t,us=a::t∧t.length=n:=by
  cases us with
  | nil=>cases h
  | cons a t=>exact ⟨a,t,rfl,Nat.succ.inj h⟩
theorem lenK1 {us:List Value} (h:us.length=1):∃ a,us=[a]:=by
  obtain ⟨a,u0,e0,h⟩:=lenKS h
  have e:=List.eq_nil_of_length_eq_zero h
  subst e
  subst e0
  exact ⟨a,rfl⟩
theorem lenK2 {us:List Value} (h:us.length=2):∃ a b,us=[a,b]:=by
  obtain ⟨a,u0,e0,h⟩:=lenKS h
  obtain ⟨b,u1,e1,h⟩:=lenKS h
  have e:=List.eq_nil_of_length_eq_zero h
  subst e
  subst e1
  subst e0
  exact ⟨a,b,rfl⟩
theorem lenK3 {us:List Value} (h:us.length=3):∃ a b c,us=[a,b,c]:=by
  obtain ⟨a,u0,e0,h⟩:=lenKS h
  obtain ⟨b,u1,e1,h⟩:=lenKS h
  obtain ⟨c,u2,e2,h⟩:=lenKS h
  have e:=List.eq_nil_of_length_eq_zero h
  subst e
  subst e2
  subst e1
  subst e0
  exact ⟨a,b,c,rfl⟩
theorem lenK4 {us:List Value} (h:us.length=4):∃ a b c d,us=[a,b,c,d]:=by
  obtain ⟨a,u0,e0,h⟩:=lenKS h
  obtain ⟨b,u1,e1,h⟩:=lenKS h
  obtain ⟨c,u2,e2,h⟩:=lenKS h
  obtain ⟨d,u3,e3,h⟩:=lenKS h
  have e:=List.eq_nil_of_length_eq_zero h
  subst e
  subst e3
  subst e2
  subst e1
  subst e0
  exact ⟨a,b,c,d,rfl⟩
theorem all_mk {l:PySem.W.OpenLaw} {w:World} {K:PySem.W.Frag} {h:Heap} {mg:Str→Option Value} {fa f0 f1 f2 f3 f4 f5 f6 f7 f8 f9 f10 f11 f12 f13 f14 f15 f16 f17 f18 f19 f20 f21 f22 f23 f24 f25 f26:Addr} (X:K.In h) (G:h.Ns mainGlobals mg) (hfa:mg "law" = some (.ref fa))
    {od0 an0 od1 an1 od2 an2 od3 an3 od4 an4 od5 an5 od6 an6 od7 an7 od8 an8 od9 an9 od10 an10 od11 an11 od12 an12 od13 an13 od14 an14 od15 an15 od16 an16 od17 an17 od18 an18 od19 an19 od20 an20 od21 an21 od22 an22 od23 an23 od24 an24 od25 an25 od26 an26:Option Addr} {sl0 sl1 sl2 sl3 sl4 sl5 sl6 sl7 sl8 sl9 sl10 sl11 sl12 sl13 sl14 sl15 sl16 sl17 sl18 sl19 sl20 sl21 sl22 sl23 sl24 sl25 sl26:Array (Option Value)} {oc0 kV0 dc0 pm0 cd0 ct0 oc1 kV1 dc1 pm1 cd1 ct1 oc2 kV2 dc2 pm2 cd2 ct2 oc3 kV3 dc3 pm3 cd3 ct3 oc4 kV4 dc4 pm4 cd4 ct4 oc5 kV5 dc5 pm5 cd5 ct5 oc6 kV6 dc6 pm6 cd6 ct6 oc7 kV7 dc7 pm7 cd7 ct7 oc8 kV8 dc8 pm8 cd8 ct8 oc9 kV9 dc9 pm9 cd9 ct9 oc10 kV10 dc10 pm10 cd10 ct10 oc11 kV11 dc11 pm11 cd11 ct11 oc12 kV12 dc12 pm12 cd12 ct12 oc13 kV13 dc13 pm13 cd13 ct13 oc14 kV14 dc14 pm14 cd14 ct14 oc15 kV15 dc15 pm15 cd15 ct15 oc16 kV16 dc16 pm16 cd16 ct16 oc17 kV17 dc17 pm17 cd17 ct17 oc18 kV18 dc18 pm18 cd18 ct18 oc19 kV19 dc19 pm19 cd19 ct19 oc20 kV20 dc20 pm20 cd20 ct20 oc21 kV21 dc21 pm21 cd21 ct21 oc22 kV22 dc22 pm22 cd22 ct22 oc23 kV23 dc23 pm23 cd23 ct23 oc24 kV24 dc24 pm24 cd24 ct24 oc25 kV25 dc25 pm25 cd25 ct25 oc26 kV26 dc26 pm26 cd26 ct26:Value}
    (a0:PySem.W.nsIn K mainGlobals "is_whole" = some (some (.ref f0))) (l0:K.lookup f0=some ⟨oc0,od0,.func (PySem.W.fnOf "is_whole" "is_whole" (defArgs s_is_whole) (defBody s_is_whole) (defScope s_is_whole) .none kV0 dc0 pm0 an0 cd0 ct0),sl0⟩) (c0:PySem.W.codeIn K cd0 "is_whole" = true) (k0:PySem.W.keepIn K (.ref f0)=true)
    (a1:PySem.W.nsIn K mainGlobals "width_of" = some (some (.ref f1))) (l1:K.lookup f1=some ⟨oc1,od1,.func (PySem.W.fnOf "width_of" "width_of" (defArgs s_width_of) (defBody s_width_of) (defScope s_width_of) .none kV1 dc1 pm1 an1 cd1 ct1),sl1⟩) (c1:PySem.W.codeIn K cd1 "width_of" = true) (k1:PySem.W.keepIn K (.ref f1)=true)
    (a2:PySem.W.nsIn K mainGlobals "is_of_one_colour" = some (some (.ref f2))) (l2:K.lookup f2=some ⟨oc2,od2,.func (PySem.W.fnOf "is_of_one_colour" "is_of_one_colour" (defArgs s_is_of_one_colour) (defBody s_is_of_one_colour) (defScope s_is_of_one_colour) .none kV2 dc2 pm2 an2 cd2 ct2),sl2⟩) (c2:PySem.W.codeIn K cd2 "is_of_one_colour" = true) (k2:PySem.W.keepIn K (.ref f2)=true)
    (a3:PySem.W.nsIn K mainGlobals "gathered" = some (some (.ref f3))) (l3:K.lookup f3=some ⟨oc3,od3,.func (PySem.W.fnOf "gathered" "gathered" (defArgs s_gathered) (defBody s_gathered) (defScope s_gathered) .none kV3 dc3 pm3 an3 cd3 ct3),sl3⟩) (c3:PySem.W.codeIn K cd3 "gathered" = true) (k3:PySem.W.keepIn K (.ref f3)=true)
    (a4:PySem.W.nsIn K mainGlobals "leaves_below" = some (some (.ref f4))) (l4:K.lookup f4=some ⟨oc4,od4,.func (PySem.W.fnOf "leaves_below" "leaves_below" (defArgs s_leaves_below) (defBody s_leaves_below) (defScope s_leaves_below) .none kV4 dc4 pm4 an4 cd4 ct4),sl4⟩) (c4:PySem.W.codeIn K cd4 "leaves_below" = true) (k4:PySem.W.keepIn K (.ref f4)=true)
    (a5:PySem.W.nsIn K mainGlobals "leaves" = some (some (.ref f5))) (l5:K.lookup f5=some ⟨oc5,od5,.func (PySem.W.fnOf "leaves" "leaves" (defArgs s_leaves) (defBody s_leaves) (defScope s_leaves) .none kV5 dc5 pm5 an5 cd5 ct5),sl5⟩) (c5:PySem.W.codeIn K cd5 "leaves" = true) (k5:PySem.W.keepIn K (.ref f5)=true)
    (a6:PySem.W.nsIn K mainGlobals "areas" = some (some (.ref f6))) (l6:K.lookup f6=some ⟨oc6,od6,.func (PySem.W.fnOf "areas" "areas" (defArgs s_areas) (defBody s_areas) (defScope s_areas) .none kV6 dc6 pm6 an6 cd6 ct6),sl6⟩) (c6:PySem.W.codeIn K cd6 "areas" = true) (k6:PySem.W.keepIn K (.ref f6)=true)
    (a7:PySem.W.nsIn K mainGlobals "need_number_to" = some (some (.ref f7))) (l7:K.lookup f7=some ⟨oc7,od7,.func (PySem.W.fnOf "need_number_to" "need_number_to" (defArgs s_need_number_to) (defBody s_need_number_to) (defScope s_need_number_to) .none kV7 dc7 pm7 an7 cd7 ct7),sl7⟩) (c7:PySem.W.codeIn K cd7 "need_number_to" = true) (k7:PySem.W.keepIn K (.ref f7)=true)
    (a8:PySem.W.nsIn K mainGlobals "finer" = some (some (.ref f8))) (l8:K.lookup f8=some ⟨oc8,od8,.func (PySem.W.fnOf "finer" "finer" (defArgs s_finer) (defBody s_finer) (defScope s_finer) .none kV8 dc8 pm8 an8 cd8 ct8),sl8⟩) (c8:PySem.W.codeIn K cd8 "finer" = true) (k8:PySem.W.keepIn K (.ref f8)=true)
    (a9:PySem.W.nsIn K mainGlobals "most_frequent" = some (some (.ref f9))) (l9:K.lookup f9=some ⟨oc9,od9,.func (PySem.W.fnOf "most_frequent" "most_frequent" (defArgs s_most_frequent) (defBody s_most_frequent) (defScope s_most_frequent) .none kV9 dc9 pm9 an9 cd9 ct9),sl9⟩) (c9:PySem.W.codeIn K cd9 "most_frequent" = true) (k9:PySem.W.keepIn K (.ref f9)=true)
    (a10:PySem.W.nsIn K mainGlobals "coarser_tree" = some (some (.ref f10))) (l10:K.lookup f10=some ⟨oc10,od10,.func (PySem.W.fnOf "coarser_tree" "coarser_tree" (defArgs s_coarser_tree) (defBody s_coarser_tree) (defScope s_coarser_tree) .none kV10 dc10 pm10 an10 cd10 ct10),sl10⟩) (c10:PySem.W.codeIn K cd10 "coarser_tree" = true) (k10:PySem.W.keepIn K (.ref f10)=true)
    (a11:PySem.W.nsIn K mainGlobals "coarser" = some (some (.ref f11))) (l11:K.lookup f11=some ⟨oc11,od11,.func (PySem.W.fnOf "coarser" "coarser" (defArgs s_coarser) (defBody s_coarser) (defScope s_coarser) .none kV11 dc11 pm11 an11 cd11 ct11),sl11⟩) (c11:PySem.W.codeIn K cd11 "coarser" = true) (k11:PySem.W.keepIn K (.ref f11)=true)
    (a12:PySem.W.nsIn K mainGlobals "_law_at" = some (some (.ref f12))) (l12:K.lookup f12=some ⟨oc12,od12,.func (PySem.W.fnOf "_law_at" "_law_at" (defArgs s_law_at) (defBody s_law_at) (defScope s_law_at) .none kV12 dc12 pm12 an12 cd12 ct12),sl12⟩) (c12:PySem.W.codeIn K cd12 "_law_at" = true) (k12:PySem.W.keepIn K (.ref f12)=true)
    (a13:PySem.W.nsIn K mainGlobals "_law_mix" = some (some (.ref f13))) (l13:K.lookup f13=some ⟨oc13,od13,.func (PySem.W.fnOf "_law_mix" "_law_mix" (defArgs s_law_mix) (defBody s_law_mix) (defScope s_law_mix) .none kV13 dc13 pm13 an13 cd13 ct13),sl13⟩) (c13:PySem.W.codeIn K cd13 "_law_mix" = true) (k13:PySem.W.keepIn K (.ref f13)=true)
    (a14:PySem.W.nsIn K mainGlobals "_law_code" = some (some (.ref f14))) (l14:K.lookup f14=some ⟨oc14,od14,.func (PySem.W.fnOf "_law_code" "_law_code" (defArgs s_law_code) (defBody s_law_code) (defScope s_law_code) .none kV14 dc14 pm14 an14 cd14 ct14),sl14⟩) (c14:PySem.W.codeIn K cd14 "_law_code" = true) (k14:PySem.W.keepIn K (.ref f14)=true)
    (a15:PySem.W.nsIn K mainGlobals "_law_knit" = some (some (.ref f15))) (l15:K.lookup f15=some ⟨oc15,od15,.func (PySem.W.fnOf "_law_knit" "_law_knit" (defArgs s_law_knit) (defBody s_law_knit) (defScope s_law_knit) .none kV15 dc15 pm15 an15 cd15 ct15),sl15⟩) (c15:PySem.W.codeIn K cd15 "_law_knit" = true) (k15:PySem.W.keepIn K (.ref f15)=true)
    (a16:PySem.W.nsIn K mainGlobals "_law_painted" = some (some (.ref f16))) (l16:K.lookup f16=some ⟨oc16,od16,.func (PySem.W.fnOf "_law_painted" "_law_painted" (defArgs s_law_painted) (defBody s_law_painted) (defScope s_law_painted) .none kV16 dc16 pm16 an16 cd16 ct16),sl16⟩) (c16:PySem.W.codeIn K cd16 "_law_painted" = true) (k16:PySem.W.keepIn K (.ref f16)=true)
    (a17:PySem.W.nsIn K mainGlobals "_law_colour" = some (some (.ref f17))) (l17:K.lookup f17=some ⟨oc17,od17,.func (PySem.W.fnOf "_law_colour" "_law_colour" (defArgs s_law_colour) (defBody s_law_colour) (defScope s_law_colour) .none kV17 dc17 pm17 an17 cd17 ct17),sl17⟩) (c17:PySem.W.codeIn K cd17 "_law_colour" = true) (k17:PySem.W.keepIn K (.ref f17)=true)
    (a18:PySem.W.nsIn K mainGlobals "_law_tree" = some (some (.ref f18))) (l18:K.lookup f18=some ⟨oc18,od18,.func (PySem.W.fnOf "_law_tree" "_law_tree" (defArgs s_law_tree) (defBody s_law_tree) (defScope s_law_tree) .none kV18 dc18 pm18 an18 cd18 ct18),sl18⟩) (c18:PySem.W.codeIn K cd18 "_law_tree" = true) (k18:PySem.W.keepIn K (.ref f18)=true)
    (a19:PySem.W.nsIn K mainGlobals "_law_add" = some (some (.ref f19))) (l19:K.lookup f19=some ⟨oc19,od19,.func (PySem.W.fnOf "_law_add" "_law_add" (defArgs s_law_add) (defBody s_law_add) (defScope s_law_add) .none kV19 dc19 pm19 an19 cd19 ct19),sl19⟩) (c19:PySem.W.codeIn K cd19 "_law_add" = true) (k19:PySem.W.keepIn K (.ref f19)=true)
    (a20:PySem.W.nsIn K mainGlobals "_law_most" = some (some (.ref f20))) (l20:K.lookup f20=some ⟨oc20,od20,.func (PySem.W.fnOf "_law_most" "_law_most" (defArgs s_law_most) (defBody s_law_most) (defScope s_law_most) .none kV20 dc20 pm20 an20 cd20 ct20),sl20⟩) (c20:PySem.W.codeIn K cd20 "_law_most" = true) (k20:PySem.W.keepIn K (.ref f20)=true)
    (a21:PySem.W.nsIn K mainGlobals "_law_coarse" = some (some (.ref f21))) (l21:K.lookup f21=some ⟨oc21,od21,.func (PySem.W.fnOf "_law_coarse" "_law_coarse" (defArgs s_law_coarse) (defBody s_law_coarse) (defScope s_law_coarse) .none kV21 dc21 pm21 an21 cd21 ct21),sl21⟩) (c21:PySem.W.codeIn K cd21 "_law_coarse" = true) (k21:PySem.W.keepIn K (.ref f21)=true)
    (a22:PySem.W.nsIn K mainGlobals "_law_alike" = some (some (.ref f22))) (l22:K.lookup f22=some ⟨oc22,od22,.func (PySem.W.fnOf "_law_alike" "_law_alike" (defArgs s_law_alike) (defBody s_law_alike) (defScope s_law_alike) .none kV22 dc22 pm22 an22 cd22 ct22),sl22⟩) (c22:PySem.W.codeIn K cd22 "_law_alike" = true) (k22:PySem.W.keepIn K (.ref f22)=true)
    (a23:PySem.W.nsIn K mainGlobals "_law_right" = some (some (.ref f23))) (l23:K.lookup f23=some ⟨oc23,od23,.func (PySem.W.fnOf "_law_right" "_law_right" (defArgs s_law_right) (defBody s_law_right) (defScope s_law_right) .none kV23 dc23 pm23 an23 cd23 ct23),sl23⟩) (c23:PySem.W.codeIn K cd23 "_law_right" = true) (k23:PySem.W.keepIn K (.ref f23)=true)
    (a24:PySem.W.nsIn K mainGlobals "_law_refused" = some (some (.ref f24))) (l24:K.lookup f24=some ⟨oc24,od24,.func (PySem.W.fnOf "_law_refused" "_law_refused" (defArgs s_law_refused) (defBody s_law_refused) (defScope s_law_refused) .none kV24 dc24 pm24 an24 cd24 ct24),sl24⟩) (c24:PySem.W.codeIn K cd24 "_law_refused" = true) (k24:PySem.W.keepIn K (.ref f24)=true)
    (a25:PySem.W.nsIn K mainGlobals "_law_odd" = some (some (.ref f25))) (l25:K.lookup f25=some ⟨oc25,od25,.func (PySem.W.fnOf "_law_odd" "_law_odd" (defArgs s_law_odd) (defBody s_law_odd) (defScope s_law_odd) .none kV25 dc25 pm25 an25 cd25 ct25),sl25⟩) (c25:PySem.W.codeIn K cd25 "_law_odd" = true) (k25:PySem.W.keepIn K (.ref f25)=true)
    (a26:PySem.W.nsIn K mainGlobals "law" = some (some (.ref f26))) (l26:K.lookup f26=some ⟨oc26,od26,.func (PySem.W.fnOf "law" "law" (defArgs s_law) (defBody s_law) (defScope s_law) .none kV26 dc26 pm26 an26 cd26 ct26),sl26⟩) (c26:PySem.W.codeIn K cd26 "law" = true) (k26:PySem.W.keepIn K (.ref f26)=true)
    (z0:PySem.W.nsIn K mainGlobals "isinstance" = some none)
    (z1:PySem.W.nsIn K mainGlobals "int" = some none)
    (z2:PySem.W.nsIn K mainGlobals "bool" = some none)
    (z3:PySem.W.nsIn K mainGlobals "range" = some none)
    (z4:PySem.W.nsIn K mainGlobals "tuple" = some none)
    (z5:PySem.W.nsIn K mainGlobals "all" = some none)
    (z6:PySem.W.nsIn K mainGlobals "str" = some none)
    (z7:PySem.W.nsIn K mainGlobals "sorted" = some none)
    (z8:PySem.W.nsIn K mainGlobals "len" = some none)
    {zt9:Tok} (z9:PySem.W.nsIn K mainGlobals "MOST" = some (some (.int 40 zt9)))
    (z10:PySem.W.nsIn K mainGlobals "max" = some none)
    (z11:PySem.W.nsIn K mainGlobals "list" = some none)
    (z12:PySem.W.nsIn K mainGlobals "zip" = some none)
    (z13:PySem.W.nsIn K mainGlobals "ValueError" = some none)
    {cNoLevel cNoNumber cSheetError:Addr}
    (y0:PySem.W.nsIn K mainGlobals "NoLevel" = some (some (.ref cNoLevel)))
    (y1:PySem.W.nsIn K mainGlobals "NoNumber" = some (some (.ref cNoNumber)))
    (y2:PySem.W.nsIn K mainGlobals "SheetError" = some (some (.ref cSheetError)))
    (y3:PySem.W.excIn K cNoLevel bmV "ValueError.__new__" = true)
    (y4:PySem.W.findIn K (.ref cNoLevel) "__getattribute__" = some (some (.builtin "BaseException.__getattribute__")))
    (y5:PySem.W.findIn K (.ref cNoLevel) "__getattr__" = some none)
    (y6:PySem.W.findIn K (.ref cNoLevel) "__class__" = some (some (.builtin "object.__class__")))
    (y7:PySem.W.subIn K (.ref cNoLevel) (.type "object")=some true)
    (y8:PySem.W.subIn K (.ref cNoLevel) (.type "BaseException")=some true)
    {cdNoLevel:ClassData}
    (y9:PySem.W.clsIn K cNoLevel=some cdNoLevel)
    (y10:PySem.W.exmOne K (.ref cNoLevel) (.ref cSheetError)=some true)
    (y11:PySem.W.kitOne K (.ref cNoLevel) (.type "ValueError")=some true)
    (y12:PySem.W.kitOne K (.ref cNoLevel) (.ref cNoNumber)=some false)
    {ts:List Addr} {tp9 tc9 tp26 tc26:Addr} {tl9 tl26:Value} {td9 td26:Option Addr} {tv9 tv26:Array Value} {ts9 ts26:Array (Option Value)}
    (ta9:cd9=.ref tc9) (tb9:K.lookup tc9=some ⟨tl9,td9,.fields tv9,ts9⟩) (te9:tv9[11]? = some (.ref tp9)) (tf9:PySem.W.codeHdIn K tc9 tp9=true) (n9:K.lookup tp9=none) (m9:tp9∈ts)
    (ta26:cd26=.ref tc26) (tb26:K.lookup tc26=some ⟨tl26,td26,.fields tv26,ts26⟩) (te26:tv26[11]? = some (.ref tp26)) (tf26:PySem.W.codeHdIn K tc26 tp26=true) (n26:K.lookup tp26=none) (m26:tp26∈ts)
    (nd:([tp9,tp26]:List Addr).Nodup)
    : ∃ (fd:FuncData) (Ps:List Addr) (sp:Sp),(∀ (s:Shared) (v:Value),BindsTo s fd ⟨[v],[]⟩ [("_law_script",v)])∧(∀ Pt∈Ps,Pt∈ts∧K.lookup Pt=none∧∃ c,PySem.W.CodeHd h c Pt) ∧
      (∀ base:Heap,K.In base→base.Ns mainGlobals mg→BMain mg base→FnOk l.prog w K mg base (CXe l.prog w) 91 fa fd ["_law_script"] sp) ∧
      ∀ (H:Hp) (a:Addr) (ns:List Int),ns.length≤63→(∀ Pt∈Ps,H Pt=some (.tbl #[]))→SqL K H a (ns.map V.int)→sp [.ref a] H (fun v _=>v=.bl true) fun _ _ _=>False:=by
  have e:=hfa.symm.trans (PySem.W.mg_of X G a26)
  cases e
  have T:Tx K mg:=⟨PySem.W.mg_none_of X G z0,PySem.W.mg_none_of X G z1,PySem.W.mg_none_of X G z2,PySem.W.mg_none_of X G z3,PySem.W.mg_none_of X G z4,PySem.W.mg_none_of X G z5,PySem.W.mg_none_of X G z6,PySem.W.mg_none_of X G z7,PySem.W.mg_none_of X G z8,⟨_,PySem.W.mg_of X G z9⟩,PySem.W.mg_none_of X G z10,PySem.W.mg_none_of X G z11,PySem.W.mg_none_of X G z12,PySem.W.mg_none_of X G z13⟩
  have Y:Yx K mg:=⟨cNoLevel,cNoNumber,cSheetError,PySem.W.mg_of X G y0,PySem.W.mg_of X G y1,PySem.W.mg_of X G y2,⟨PySem.W.mg_of X G y0,y3⟩,⟨y4,y5,y6,y7,y8,by rw [y9]; rfl⟩,y10,y11,y12⟩
  have F0:=funD_mk (st:=s_is_whole) l0 c0 k0
  have F1:=funD_mk (st:=s_width_of) l1 c1 k1
  have F2:=funD_mk (st:=s_is_of_one_colour) l2 c2 k2
  have F3:=funD_mk (st:=s_gathered) l3 c3 k3
  have F4:=funD_mk (st:=s_leaves_below) l4 c4 k4
  have F5:=funD_mk (st:=s_leaves) l5 c5 k5
  have F6:=funD_mk (st:=s_areas) l6 c6 k6
  have F7:=funD_mk (st:=s_need_number_to) l7 c7 k7
  have F8:=funD_mk (st:=s_finer) l8 c8 k8
  have F9:=funD_mk (st:=s_most_frequent) l9 c9 k9
  have F10:=funD_mk (st:=s_coarser_tree) l10 c10 k10
  have F11:=funD_mk (st:=s_coarser) l11 c11 k11
  have F12:=funD_mk (st:=s_law_at) l12 c12 k12
  have F13:=funD_mk (st:=s_law_mix) l13 c13 k13
  have F14:=funD_mk (st:=s_law_code) l14 c14 k14
  have F15:=funD_mk (st:=s_law_knit) l15 c15 k15
  have F16:=funD_mk (st:=s_law_painted) l16 c16 k16
  have F17:=funD_mk (st:=s_law_colour) l17 c17 k17
  have F18:=funD_mk (st:=s_law_tree) l18 c18 k18
  have F19:=funD_mk (st:=s_law_add) l19 c19 k19
  have F20:=funD_mk (st:=s_law_most) l20 c20 k20
  have F21:=funD_mk (st:=s_law_coarse) l21 c21 k21
  have F22:=funD_mk (st:=s_law_alike) l22 c22 k22
  have F23:=funD_mk (st:=s_law_right) l23 c23 k23
  have F24:=funD_mk (st:=s_law_refused) l24 c24 k24
  have F25:=funD_mk (st:=s_law_odd) l25 c25 k25
  have F26:=funD_mk (st:=s_law) l26 c26 k26
  have b0:=F0.binds (ps:=["thing"]) fun _ _ _ _ _ _ us hl=>by obtain ⟨a,rfl⟩:=lenK1 hl; exact rfl
  have b1:=F1.binds (ps:=["level"]) fun _ _ _ _ _ _ us hl=>by obtain ⟨a,rfl⟩:=lenK1 hl; exact rfl
  have b2:=F2.binds (ps:=["parts"]) fun _ _ _ _ _ _ us hl=>by obtain ⟨a,rfl⟩:=lenK1 hl; exact rfl
  have b3:=F3.binds (ps:=["parts"]) fun _ _ _ _ _ _ us hl=>by obtain ⟨a,rfl⟩:=lenK1 hl; exact rfl
  have b4:=F4.binds (ps:=["tree","code"]) fun _ _ _ _ _ _ us hl=>by obtain ⟨a,b,rfl⟩:=lenK2 hl; exact rfl
  have b5:=F5.binds (ps:=["sheet"]) fun _ _ _ _ _ _ us hl=>by obtain ⟨a,rfl⟩:=lenK1 hl; exact rfl
  have b6:=F6.binds (ps:=["sheet"]) fun _ _ _ _ _ _ us hl=>by obtain ⟨a,rfl⟩:=lenK1 hl; exact rfl
  have b7:=F7.binds (ps:=["number","most"]) fun _ _ _ _ _ _ us hl=>by obtain ⟨a,b,rfl⟩:=lenK2 hl; exact rfl
  have b8:=F8.binds (ps:=["sheet","number"]) fun _ _ _ _ _ _ us hl=>by obtain ⟨a,b,rfl⟩:=lenK2 hl; exact rfl
  have b9:=F9.binds (ps:=["sheet"]) fun _ _ _ _ _ _ us hl=>by obtain ⟨a,rfl⟩:=lenK1 hl; exact rfl
  have b10:=F10.binds (ps:=["tree","level","number"]) fun _ _ _ _ _ _ us hl=>by obtain ⟨a,b,c,rfl⟩:=lenK3 hl; exact rfl
  have b11:=F11.binds (ps:=["sheet","number"]) fun _ _ _ _ _ _ us hl=>by obtain ⟨a,b,rfl⟩:=lenK2 hl; exact rfl
  have b12:=F12.binds (ps:=["_law_script","_law_k"]) fun _ _ _ _ _ _ us hl=>by obtain ⟨a,b,rfl⟩:=lenK2 hl; exact rfl
  have b13:=F13.binds (ps:=["_law_cell","_law_k"]) fun _ _ _ _ _ _ us hl=>by obtain ⟨a,b,rfl⟩:=lenK2 hl; exact rfl
  have b14:=F14.binds (ps:=["_law_cell","_law_size"]) fun _ _ _ _ _ _ us hl=>by obtain ⟨a,b,rfl⟩:=lenK2 hl; exact rfl
  have b15:=F15.binds (ps:=["_law_four"]) fun _ _ _ _ _ _ us hl=>by obtain ⟨a,rfl⟩:=lenK1 hl; exact rfl
  have b16:=F16.binds (ps:=["_law_tree_here","_law_code_here","_law_colour_here"]) fun _ _ _ _ _ _ us hl=>by obtain ⟨a,b,c,rfl⟩:=lenK3 hl; exact rfl
  have b17:=F17.binds (ps:=["_law_cell","_law_few"]) fun _ _ _ _ _ _ us hl=>by obtain ⟨a,b,rfl⟩:=lenK2 hl; exact rfl
  have b18:=F18.binds (ps:=["_law_script","_law_first","_law_level","_law_most_here"]) fun _ _ _ _ _ _ us hl=>by obtain ⟨a,b,c,d,rfl⟩:=lenK4 hl; exact rfl
  have b19:=F19.binds (ps:=["_law_tree_here","_law_share","_law_found"]) fun _ _ _ _ _ _ us hl=>by obtain ⟨a,b,c,rfl⟩:=lenK3 hl; exact rfl
  have b20:=F20.binds (ps:=["_law_tree_here","_law_level"]) fun _ _ _ _ _ _ us hl=>by obtain ⟨a,b,rfl⟩:=lenK2 hl; exact rfl
  have b21:=F21.binds (ps:=["_law_tree_here","_law_level","_law_number"]) fun _ _ _ _ _ _ us hl=>by obtain ⟨a,b,c,rfl⟩:=lenK3 hl; exact rfl
  have b22:=F22.binds (ps:=["_law_tree_here","_law_due"]) fun _ _ _ _ _ _ us hl=>by obtain ⟨a,b,rfl⟩:=lenK2 hl; exact rfl
  have b23:=F23.binds (ps:=["_law_found","_law_level","_law_tree_here"]) fun _ _ _ _ _ _ us hl=>by obtain ⟨a,b,c,rfl⟩:=lenK3 hl; exact rfl
  have b24:=F24.binds (ps:=["_law_deed"]) fun _ _ _ _ _ _ us hl=>by obtain ⟨a,rfl⟩:=lenK1 hl; exact rfl
  have b25:=F25.binds (ps:=["_law_cell","_law_most_here"]) fun _ _ _ _ _ _ us hl=>by obtain ⟨a,b,rfl⟩:=lenK2 hl; exact rfl
  have t9:=tabOf_mk ta9 tb9 te9 tf9
  have t26:=tabOf_mk ta26 tb26 te26 tf26
  have FT9:=funT_mk (st:=s_most_frequent) l9 c9 t9
  have FT26:=funT_mk (st:=s_law) l26 c26 t26
  obtain ⟨Tb,eTb⟩:∃ Tb:List (Addr × Str),Tb=[(tp9,qMost),(tp26,qLaw)]:=⟨_,rfl⟩
  have hnd:(Tb.map (·.1)).Nodup:=by rw [eTb]; exact nd
  have hT_most_frequent:(tp9,qMost)∈Tb:=by rw [eTb]; simp
  have hT_law:(tp26,qLaw)∈Tb:=by rw [eTb]; simp
  refine ⟨PySem.W.fnOf "law" "law" (defArgs s_law) (defBody s_law) (defScope s_law) .none kV26 dc26 pm26 an26 cd26 ct26,Tb.map (·.1),sp_law K Tb,fun s v=>.of_eq rfl,fun Pt hPt => ?_,fun base KXb _ hB => ?_,fun H a ns hl hO hS=>⟨a,ns,rfl,hS,hl,Tabs.start hO,fun _=>rfl⟩⟩
  · rw [eTb] at hPt
    rcases List.mem_cons.mp hPt with rfl | hPt
    · exact ⟨m9,n9,(tabOf_hd X t9).elim fun c h=>⟨c,h.2⟩⟩
    have hPt:=List.mem_singleton.mp hPt
    subst hPt
    exact ⟨m26,n26,(tabOf_hd X t26).elim fun c h=>⟨c,h.2⟩⟩
  have C_is_whole:Fok l.prog w K mg base (CXe l.prog w) 1 "is_whole" ["thing"] [] (sp_is_whole K):=fok F0 (ok_is_whole T F0) b0 (PySem.W.mg_of X G a0)
  have C_width_of:Fok l.prog w K mg base (CXe l.prog w) 1 "width_of" ["level"] [] (sp_width_of):=fok F1 (ok_width_of T F1) b1 (PySem.W.mg_of X G a1)
  have C_is_of_one_colour:Fok l.prog w K mg base (CXe l.prog w) 1 "is_of_one_colour" ["parts"] [] (sp_is_one):=fok F2 (ok_is_of_one_colour T F2) b2 (PySem.W.mg_of X G a2)
  have C_gathered:Fok l.prog w K mg base (CXe l.prog w) 2 "gathered" ["parts"] [] (sp_gathered):=fok F3 (ok_gathered T quietE F3 C_is_of_one_colour) b3 (PySem.W.mg_of X G a3)
  have C_leaves_below:Fok l.prog w K mg base (CXe l.prog w) 42 "leaves_below" ["tree","code"] [] (sp_leaves_below 41):=fok F4 (ok_leaves_below T quietE F4 b4 (PySem.W.mg_of X G a4) 41) b4 (PySem.W.mg_of X G a4)
  have C_leaves:Fok l.prog w K mg base (CXe l.prog w) 43 "leaves" ["sheet"] [] (sp_leaves):=fok F5 (ok_leaves T quietE F5 C_leaves_below) b5 (PySem.W.mg_of X G a5)
  have C_areas:Fok l.prog w K mg base (CXe l.prog w) 44 "areas" ["sheet"] [] (sp_areas):=fok F6 (ok_areas T quietE F6 C_leaves C_width_of) b6 (PySem.W.mg_of X G a6)
  have C_need_number_to:Fok l.prog w K mg base (CXe l.prog w) 2 "need_number_to" ["number","most"] [] (sp_nnX Y):=fok F7 (ok_need_number_to T Y quietE F7 C_is_whole) b7 (PySem.W.mg_of X G a7)
  have C_finer:Fok l.prog w K mg base (CXe l.prog w) 3 "finer" ["sheet","number"] [] (sp_finerX Y):=fok F8 (ok_finer T Y quietE F8 C_need_number_to) b8 (PySem.W.mg_of X G a8)
  have C_most_frequent:Fok l.prog w K mg base (CXe l.prog w) 45 "most_frequent" ["sheet"] [] (sp_most_frequent Tb):=fok F9 (ok_most_frequent T quietE FT9 KXb hB hT_most_frequent hnd C_areas) b9 (PySem.W.mg_of X G a9)
  have C_coarser_tree:Fok l.prog w K mg base (CXe l.prog w) 87 "coarser_tree" ["tree","level","number"] [] (sp_coarser_tree Tb 41):=fok F10 (ok_coarser_tree T quietE F10 C_most_frequent C_gathered b10 (PySem.W.mg_of X G a10) 41) b10 (PySem.W.mg_of X G a10)
  have C_coarser:Fok l.prog w K mg base (CXe l.prog w) 88 "coarser" ["sheet","number"] [] (sp_coarserX Y Tb):=fok F11 (ok_coarser T Y quietE F11 C_need_number_to C_coarser_tree) b11 (PySem.W.mg_of X G a11)
  have C__law_at:Fok l.prog w K mg base (CXe l.prog w) 1 "_law_at" ["_law_script","_law_k"] [] (sp_law_at K):=fok F12 (ok_law_at T F12) b12 (PySem.W.mg_of X G a12)
  have C__law_mix:Fok l.prog w K mg base (CXe l.prog w) 1 "_law_mix" ["_law_cell","_law_k"] [] (sp_law_mix):=fok F13 (ok_law_mix T F13) b13 (PySem.W.mg_of X G a13)
  have C__law_code:Fok l.prog w K mg base (CXe l.prog w) 2 "_law_code" ["_law_cell","_law_size"] [] (sp_law_code):=fok F14 (ok_law_code T quietE F14 C__law_mix) b14 (PySem.W.mg_of X G a14)
  have C__law_knit:Fok l.prog w K mg base (CXe l.prog w) 1 "_law_knit" ["_law_four"] [] (sp_law_knit):=fok F15 (ok_law_knit T F15) b15 (PySem.W.mg_of X G a15)
  have C__law_painted:Fok l.prog w K mg base (CXe l.prog w) 43 "_law_painted" ["_law_tree_here","_law_code_here","_law_colour_here"] [] (sp_law_painted 41):=fok F16 (ok_law_painted T quietE F16 C__law_knit b16 (PySem.W.mg_of X G a16) 41) b16 (PySem.W.mg_of X G a16)
  have C__law_colour:Fok l.prog w K mg base (CXe l.prog w) 1 "_law_colour" ["_law_cell","_law_few"] [] (sp_law_colour):=fok F17 (ok_law_colour T F17) b17 (PySem.W.mg_of X G a17)
  have C__law_tree:Fok l.prog w K mg base (CXe l.prog w) 44 "_law_tree" ["_law_script","_law_first","_law_level","_law_most_here"] [] (sp_law_tree K):=fok F18 (ok_law_tree T quietE F18 C__law_at C__law_mix C__law_painted C__law_code C__law_colour) b18 (PySem.W.mg_of X G a18)
  have C__law_add:Fok l.prog w K mg base (CXe l.prog w) 42 "_law_add" ["_law_tree_here","_law_share","_law_found"] [] (sp_law_add 41):=fok F19 (ok_law_add T quietE F19 b19 (PySem.W.mg_of X G a19) 41) b19 (PySem.W.mg_of X G a19)
  have C__law_most:Fok l.prog w K mg base (CXe l.prog w) 43 "_law_most" ["_law_tree_here","_law_level"] [] (sp_law_most):=fok F20 (ok_law_most T quietE F20 C__law_add) b20 (PySem.W.mg_of X G a20)
  have C__law_coarse:Fok l.prog w K mg base (CXe l.prog w) 85 "_law_coarse" ["_law_tree_here","_law_level","_law_number"] [] (sp_law_coarse 41):=fok F21 (ok_law_coarse T quietE F21 C__law_most C__law_knit b21 (PySem.W.mg_of X G a21) 41) b21 (PySem.W.mg_of X G a21)
  have C__law_alike:Fok l.prog w K mg base (CXe l.prog w) 42 "_law_alike" ["_law_tree_here","_law_due"] [] (sp_law_alike 41):=fok F22 (ok_law_alike T quietE F22 b22 (PySem.W.mg_of X G a22) 41) b22 (PySem.W.mg_of X G a22)
  have C__law_right:Fok l.prog w K mg base (CXe l.prog w) 43 "_law_right" ["_law_found","_law_level","_law_tree_here"] [] (sp_law_right):=fok F23 (ok_law_right T quietE F23 C__law_alike) b23 (PySem.W.mg_of X G a23)
  have C__law_refused:RefOk l.prog w K mg base 89 90 "_law_refused" ["_law_deed"] (fun cls zs=>cls=.ref Y.c_NoLevel∧zs=[]):=ok_law_refused T Y F24 b24 (PySem.W.mg_of X G a24)
  have C__law_odd:Fok l.prog w K mg base (CXe l.prog w) 1 "_law_odd" ["_law_cell","_law_most_here"] [] (sp_law_odd K):=fok F25 (ok_law_odd T F25) b25 (PySem.W.mg_of X G a25)
  exact ok_law T Y quietE FT26 KXb hB hT_law hnd C__law_at C__law_tree C__law_odd C__law_refused C_finer C_coarser C__law_right C__law_coarse
theorem walk {l:PySem.W.OpenLaw} {q:Program} {loose:List Str} {XP:(Str→Option Value)→Heap→Prop} {YP:World→Heap→Prop} {d:DefRec} {K:Params→PySem.W.Frag} {ts:List Addr} (hn:l.most=some 63) (hdf:d.params.defaults=[])
    (hY:∀ (w:World) (h:Heap),YP w h→(K w.params).In h) (hT:∀ (w:World) (h:Heap),YP w h→∀ P∈ts,h.get? P=some (PySem.W.tabObj #[]))
    (F:∀ (w:World) (mg:Str→Option Value) (fa:Addr) (h:Heap),(K w.params).In h→h.Ns mainGlobals mg→mg d.name=some (.ref fa) →
      ∃ (fd:FuncData) (Ps:List Addr) (sp:Sp),(∀ (s:Shared) (u:Value),BindsTo s fd ⟨[u],[]⟩ [("_law_script",u)])∧(∀ Pt∈Ps,Pt∈ts∧(K w.params).lookup Pt=none∧∃ c,PySem.W.CodeHd h c Pt) ∧
        (∀ base:Heap,(K w.params).In base→base.Ns mainGlobals mg→BMain mg base→FnOk l.prog w (K w.params) mg base (CXe l.prog w) 91 fa fd ["_law_script"] sp) ∧
        ∀ (H:Hp) (a:Addr) (ns:List Int),ns.length≤63→(∀ P∈Ps,H P=some (.tbl #[]))→SqL (K w.params) H a (ns.map V.int)→sp [.ref a] H (fun v _=>v=.bl true) fun _ _ _=>False) :
    PySem.W.WalkO q loose XP YP l.row.toRowW d [] (fun f vs=>PySem.call f vs) :=
  L2.walk_ofT (n:=63) (k:=91) (x := "_law_script") (CX:=fun w=>(CXe l.prog w)) hn (by decide) hdf ⟨rfl,by decide,by decide⟩ hY hT F fun _ _ _ _ _ z=>quietE _ _ _ _ _ z
end Qs
-- The head lays a twin equation for each constant of the run; those of the largest ones are most of its size and are not needed. A name that stands already is not laid anew.
def PySem.W.Fast.tw13879685241150906282:Nat:=0
def PySem.W.Fast.tw3381217667607439120:Nat:=0
def PySem.W.Fast.tw7558604742649840451:Nat:=0
def PySem.W.Fast.tw16018736021052861530:Nat:=0
def PySem.W.Fast.tw9736498981562053585:Nat:=0
def PySem.W.Fast.tw1090770952869409450:Nat:=0
def PySem.W.Fast.tw16988767596068533548:Nat:=0
def PySem.W.Fast.tw808575547660652723:Nat:=0
def PySem.W.Fast.tw10236807760817128715:Nat:=0
def PySem.W.Fast.tw7489579926043738988:Nat:=0
def PySem.W.Fast.tw10498384554517505606:Nat:=0
def PySem.W.Fast.tw7879713892369105780:Nat:=0
def PySem.W.Fast.tw12671853558319329672:Nat:=0
def PySem.W.Fast.tw2269311831042230248:Nat:=0
def PySem.W.Fast.tw9587145158745926451:Nat:=0
def PySem.W.Fast.tw14310984512417804962:Nat:=0
def PySem.W.Fast.tw6747436454924028501:Nat:=0
def PySem.W.Fast.tw9792263716231761982:Nat:=0
def PySem.W.Fast.tw7251206094481744647:Nat:=0
def PySem.W.Fast.tw6017892291768059877:Nat:=0
def PySem.W.Fast.tw3422200075010748604:Nat:=0
def PySem.W.Fast.tw14463161077650610366:Nat:=0
def PySem.W.Fast.tw15278368087539538879:Nat:=0
def PySem.W.Fast.tw6528161839173301583:Nat:=0
def PySem.W.Fast.tw17820653371153963954:Nat:=0
def PySem.W.Fast.tw15708101307758619894:Nat:=0
def PySem.W.Fast.tw2653087108306654919:Nat:=0
def PySem.W.Fast.tw12954823094330123237:Nat:=0
def PySem.W.Fast.tw17399199594524421893:Nat:=0
def PySem.W.Fast.tw6600674161097216553:Nat:=0
def PySem.W.Fast.tw18272216661839105168:Nat:=0
def PySem.W.Fast.tw9219354403520849698:Nat:=0
def PySem.W.Fast.tw11295738727317051925:Nat:=0
def PySem.W.Fast.tw17447708272083727784:Nat:=0
def PySem.W.Fast.tw8504146319261784408:Nat:=0
def PySem.W.Fast.tw7021765233518897521:Nat:=0
def PySem.W.Fast.tw11193673524880463604:Nat:=0
def PySem.W.Fast.tw10905227202558631878:Nat:=0
def PySem.W.Fast.tw11155165720941994845:Nat:=0
def PySem.W.Fast.tw1535750017110994159:Nat:=0
def PySem.W.Fast.tw7748273002075740450:Nat:=0
def PySem.W.Fast.tw15992326423189548514:Nat:=0
def PySem.W.Fast.tw2813285712071561384:Nat:=0
open PySem PySem.W PyProof.Rows
set_option maxRecDepth 100000 in
set_option maxHeartbeats 0 in
theorem PySem.Challenge.cw_quartersheet_k74_finer_and_coarser_holds : PySem.Challenge.rw_quartersheet_k74_finer_and_coarser.Holds := by
  w_on; o_law; k_head; (case hw=>w_witness2)
  k_fill
  refine Qs.walk (l:=PySem.Challenge.rw_quartersheet_k74_finer_and_coarser) rfl rfl (fun w h Y=>PySem.W.km_in_of Y) (fun w h Y=>PySem.W.km_tabs_of Y) ?F
  case F =>
    intro w mg fa h KX G hmg
    refine' Qs.all_mk KX G hmg ?a0 ?l0 ?c0 ?k0 ?a1 ?l1 ?c1 ?k1 ?a2 ?l2 ?c2 ?k2 ?a3 ?l3 ?c3 ?k3 ?a4 ?l4 ?c4 ?k4 ?a5 ?l5 ?c5 ?k5 ?a6 ?l6 ?c6 ?k6 ?a7 ?l7 ?c7 ?k7 ?a8 ?l8 ?c8 ?k8 ?a9 ?l9 ?c9 ?k9 ?a10 ?l10 ?c10 ?k10 ?a11 ?l11 ?c11 ?k11 ?a12 ?l12 ?c12 ?k12 ?a13 ?l13 ?c13 ?k13 ?a14 ?l14 ?c14 ?k14 ?a15 ?l15 ?c15 ?k15 ?a16 ?l16 ?c16 ?k16 ?a17 ?l17 ?c17 ?k17 ?a18 ?l18 ?c18 ?k18 ?a19 ?l19 ?c19 ?k19 ?a20 ?l20 ?c20 ?k20 ?a21 ?l21 ?c21 ?k21 ?a22 ?l22 ?c22 ?k22 ?a23 ?l23 ?c23 ?k23 ?a24 ?l24 ?c24 ?k24 ?a25 ?l25 ?c25 ?k25 ?a26 ?l26 ?c26 ?k26 ?z0 ?z1 ?z2 ?z3 ?z4 ?z5 ?z6 ?z7 ?z8 ?z9 ?z10 ?z11 ?z12 ?z13 ?y0 ?y1 ?y2 ?y3 ?y4 ?y5 ?y6 ?y7 ?y8 ?y9 ?y10 ?y11 ?y12 ?ta9 ?tb9 ?te9 ?tf9 ?n9 ?m9 ?ta26 ?tb26 ?te26 ?tf26 ?n26 ?m26 ?nd
    (case a0=>k_is)
    (case l0=>k_is)
    (case c0=>k_is)
    (case k0=>k_is)
    (case a1=>k_is)
    (case l1=>k_is)
    (case c1=>k_is)
    (case k1=>k_is)
    (case a2=>k_is)
    (case l2=>k_is)
    (case c2=>k_is)
    (case k2=>k_is)
    (case a3=>k_is)
    (case l3=>k_is)
    (case c3=>k_is)
    (case k3=>k_is)
    (case a4=>k_is)
    (case l4=>k_is)
    (case c4=>k_is)
    (case k4=>k_is)
    (case a5=>k_is)
    (case l5=>k_is)
    (case c5=>k_is)
    (case k5=>k_is)
    (case a6=>k_is)
    (case l6=>k_is)
    (case c6=>k_is)
    (case k6=>k_is)
    (case a7=>k_is)
    (case l7=>k_is)
    (case c7=>k_is)
    (case k7=>k_is)
    (case a8=>k_is)
    (case l8=>k_is)
    (case c8=>k_is)
    (case k8=>k_is)
    (case a9=>k_is)
    (case l9=>k_is)
    (case c9=>k_is)
    (case k9=>k_is)
    (case a10=>k_is)
    (case l10=>k_is)
    (case c10=>k_is)
    (case k10=>k_is)
    (case a11=>k_is)
    (case l11=>k_is)
    (case c11=>k_is)
    (case k11=>k_is)
    (case a12=>k_is)
    (case l12=>k_is)
    (case c12=>k_is)
    (case k12=>k_is)
    (case a13=>k_is)
    (case l13=>k_is)
    (case c13=>k_is)
    (case k13=>k_is)
    (case a14=>k_is)
    (case l14=>k_is)
    (case c14=>k_is)
    (case k14=>k_is)
    (case a15=>k_is)
    (case l15=>k_is)
    (case c15=>k_is)
    (case k15=>k_is)
    (case a16=>k_is)
    (case l16=>k_is)
    (case c16=>k_is)
    (case k16=>k_is)
    (case a17=>k_is)
    (case l17=>k_is)
    (case c17=>k_is)
    (case k17=>k_is)
    (case a18=>k_is)
    (case l18=>k_is)
    (case c18=>k_is)
    (case k18=>k_is)
    (case a19=>k_is)
    (case l19=>k_is)
    (case c19=>k_is)
    (case k19=>k_is)
    (case a20=>k_is)
    (case l20=>k_is)
    (case c20=>k_is)
    (case k20=>k_is)
    (case a21=>k_is)
    (case l21=>k_is)
    (case c21=>k_is)
    (case k21=>k_is)
    (case a22=>k_is)
    (case l22=>k_is)
    (case c22=>k_is)
    (case k22=>k_is)
    (case a23=>k_is)
    (case l23=>k_is)
    (case c23=>k_is)
    (case k23=>k_is)
    (case a24=>k_is)
    (case l24=>k_is)
    (case c24=>k_is)
    (case k24=>k_is)
    (case a25=>k_is)
    (case l25=>k_is)
    (case c25=>k_is)
    (case k25=>k_is)
    (case a26=>k_is)
    (case l26=>k_is)
    (case c26=>k_is)
    (case k26=>k_is)
    (case z0=>k_is)
    (case z1=>k_is)
    (case z2=>k_is)
    (case z3=>k_is)
    (case z4=>k_is)
    (case z5=>k_is)
    (case z6=>k_is)
    (case z7=>k_is)
    (case z8=>k_is)
    (case z9=>k_is)
    (case z10=>k_is)
    (case z11=>k_is)
    (case z12=>k_is)
    (case z13=>k_is)
    (case ta9=>exact rfl)
    (case tb9=>k_is)
    (case te9=>exact rfl)
    (case tf9=>kernel_rfl)
    (case n9=>kernel_rfl)
    (case m9=>decide)
    (case ta26=>exact rfl)
    (case tb26=>k_is)
    (case te26=>exact rfl)
    (case tf26=>kernel_rfl)
    (case n26=>kernel_rfl)
    (case m26=>decide)
    (case nd=>decide)
    (case y0=>k_is)
    (case y1=>k_is)
    (case y2=>k_is)
    (case y3=>k_exc)
    (case y4=>k_is)
    (case y5=>k_is)
    (case y6=>k_is)
    (case y7=>k_is)
    (case y8=>k_is)
    (case y9=>k_is)
    (case y10=>kts_exm)
    (case y11=>kit_is)
    (case y12=>kit_is)


