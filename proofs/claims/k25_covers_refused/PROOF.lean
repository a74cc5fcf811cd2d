import PyProof.Rows.All
import Wide.All
import OpenK.AllK
import Wide.FinOn
import Lean
import PyProof.EqAt
import PyProof.EqKinds
import PyProof.TupleCall
import PySem.Challenge.RW_quartersheet_k25_covers_refused
set_option Elab.async false
set_option linter.all false
set_option maxRecDepth 100000

namespace L2
open PySem PySem.Spec PyProof.Rows


abbrev Key:=Sum Int Str
def keyIs:Key→Value→Bool
  | .inl k,v=>Value.isInt k v
  | .inr x,v=>Value.isStrOf x v
def keyH (w:World):Key→Int
  | .inl k=>hashInt k
  | .inr x=>hashStr w x
theorem keyIs_shape:∀ {k:Key} {v:Value},keyIs k v=true→(∃ i t,k=Sum.inl i∧v=Value.int i t)∨(∃ x t,k=Sum.inr x∧v=Value.str x t)
  | .inl i,v,h=>by
    obtain ⟨t,e⟩:=Value.isInt_shape (k:=i) (v:=v) h
    exact .inl ⟨i,t,rfl,e⟩
  | .inr x,v,h=>by
    obtain ⟨t,e⟩:=Value.isStrOf_shape (x:=x) (v:=v) h
    exact .inr ⟨x,t,rfl,e⟩
theorem key_ll (a b:Int):decide ((Sum.inl a:Key)=Sum.inl b)=(a == b):=by
  by_cases e:a=b
  · subst e; simp
  · have h:¬ (Sum.inl a:Key)=Sum.inl b:=fun q=>e (Sum.inl.inj q)
    rw [decide_eq_false h]
    exact (beq_eq_false_iff_ne.mpr e).symm
theorem key_rr (a b:Str):decide ((Sum.inr a:Key)=Sum.inr b)=decide (a=b):=by
  by_cases e:a=b
  · subst e; simp
  · have h:¬ (Sum.inr a:Key)=Sum.inr b:=fun q=>e (Sum.inr.inj q)
    rw [decide_eq_false h,decide_eq_false e]
theorem key_lr (a:Int) (b:Str):decide ((Sum.inl a:Key)=Sum.inr b)=false:=decide_eq_false (fun q=>nomatch q)
theorem key_rl (a:Str) (b:Int):decide ((Sum.inr a:Key)=Sum.inl b)=false:=decide_eq_false (fun q=>nomatch q)

def mixKind (prog:Program) (w:World):PySem.KeyKind prog w Key where
  is:=keyIs
  hash:=keyH w
  inj:=fun v a b ha hb=>by
    rcases keyIs_shape ha with ⟨i,t,rfl,rfl⟩ | ⟨x,t,rfl,rfl⟩
    · rcases keyIs_shape hb with ⟨j,u,rfl,e⟩ | ⟨y,u,rfl,e⟩
      · injection e with e1 _; rw [e1]
      · exact nomatch e
    · rcases keyIs_shape hb with ⟨j,u,rfl,e⟩ | ⟨y,u,rfl,e⟩
      · exact nomatch e
      · injection e with e1 _; rw [e1]
  byValue:=fun k v h=>by
    rcases keyIs_shape h with ⟨i,t,rfl,rfl⟩ | ⟨x,t,rfl,rfl⟩ <;> rfl
  pyHash:=fun hv h=>by
    rcases keyIs_shape hv with ⟨i,t,rfl,rfl⟩ | ⟨x,t,rfl,rfl⟩
    · exact wpAny_pyHash_int h
    · exact wpAny_pyHash_str h
  eqBool:=fun hu hv h=>by
    rcases keyIs_shape hu with ⟨i,t,rfl,rfl⟩ | ⟨x,t,rfl,rfl⟩
    · rcases keyIs_shape hv with ⟨j,u,rfl,rfl⟩ | ⟨y,u,rfl,rfl⟩
      · rw [key_ll] at h; exact wpAny_eqBool_int h
      · rw [key_lr] at h; exact SeqAt.EqAt.int_str i t y u _ _ _ _ h
    · rcases keyIs_shape hv with ⟨j,u,rfl,rfl⟩ | ⟨y,u,rfl,rfl⟩
      · rw [key_rl] at h; exact SeqAt.EqAt.str_int x t j u _ _ _ _ h
      · rw [key_rr] at h; exact wpAny_eqBool_str h
  «strs» := fun k x t v h=>by
    rcases keyIs_shape h with ⟨i,u,rfl,e⟩ | ⟨y,u,rfl,e⟩
    · exact nomatch e
    · injection e with e1 _
      subst e1
      cases v <;> rfl

end L2

namespace L2
open PySem PySem.Spec PyProof.Rows


inductive V where
  | non | bl (b:Bool) | int (i:Int) | str (x:Str) | byt (b:Array UInt8) | flt (b:UInt64) | ref (a:Addr) | ty (n:String)
  deriving DecidableEq

def RelV:V→Value→Prop
  | .non,u=>u=Value.none
  | .bl b,u=>u=Value.bool b
  | .int i,u=>∃ t,u=Value.int i t
  | .str x,u=>∃ t,u=Value.str x t
  | .byt b,u=>∃ t,u=Value.bytes b t
  | .flt b,u=>∃ t,u=Value.float b t
  | .ref a,u=>u=Value.ref a
  | .ty n,u=>u=Value.type n

abbrev Vals:List V→List Value→Prop:=Paired RelV
theorem Vals.length {xs:List V} {us:List Value} (r:Vals xs us):xs.length=us.length:=Paired.length r
theorem Vals.get:∀ {xs:List V} {us:List Value} {i:Nat} {x:V},Vals xs us→xs[i]? = some x→∃ u,us[i]? = some u∧RelV x u
  | _,_,_,_,.nil,e=>by simp at e
  | _,_,0,_,.cons r _,e=>by simp at e; subst e; exact ⟨_,rfl,r⟩
  | _,_,i + 1,x,.cons _ t,e=>by
    obtain ⟨u,h1,h2⟩:=Vals.get (i:=i) (x:=x) t (by simpa using e)
    exact ⟨u,by simpa using h1,h2⟩
theorem Vals.append:∀ {xs ys:List V} {us ws:List Value},Vals xs us→Vals ys ws→Vals (xs++ys) (us++ws)
  | _,_,_,_,.nil,s=>s
  | _,_,_,_,.cons r t,s=>.cons r (Vals.append t s)
theorem Vals.take:∀ {xs:List V} {us:List Value} (n:Nat),Vals xs us→Vals (xs.take n) (us.take n)
  | _,_,0,_=>.nil
  | _,_,_ + 1,.nil=>.nil
  | _,_,n + 1,.cons r t=>.cons r (Vals.take n t)
theorem Vals.drop:∀ {xs:List V} {us:List Value} (n:Nat),Vals xs us→Vals (xs.drop n) (us.drop n)
  | _,_,0,r=>r
  | _,_,_ + 1,.nil=>.nil
  | _,_,n + 1,.cons _ t=>Vals.drop n t
def RelO:Option V→Option Value→Prop
  | some v,some u=>RelV v u
  | none,none=>True
  | _,_=>False
def KV {κ:Type}:List (κ × V)→List (κ × Value)→Prop:=Paired fun (p:κ × V) (q:κ × Value)=>p.1=q.1∧RelV p.2 q.2


def kV:Key→V
  | .inl i=>.int i
  | .inr x=>.str x


inductive HO where
  
  | lst (xs:List V)
  
  | tup (xs:List V)
  
  | dK (kvs:List (Key × V)) | dT (kvs:List (List Key × V))
  
  | set (S:Int→Bool) (n:Nat)
  
  | ins (C dx:Addr) (fs:List (Str × V))
  
  | own (x:Addr)
  
  | xd (fs:List (Str × V))
  
  | met (f x:Addr)
  
  | rng (lo hi:Int)
  
  | frz (o:Obj) (u:HO)
  
  | tbl (ps:Array Value)
  
  | ext (φ:Heap→Prop)

abbrev Hp:=Addr→Option HO
def upd (H:Hp) (a:Addr) (o:HO):Hp:=fun b=>if b=a then some o else H b
theorem upd_same {H:Hp} {a:Addr} {o:HO}:upd H a o a=some o:=by unfold upd; rw [if_pos rfl]
theorem upd_ne {H:Hp} {a b:Addr} {o:HO} (h:b≠a):upd H a o b=H b:=by unfold upd; rw [if_neg h]
theorem upd_upd {H:Hp} {a:Addr} {o u:HO}:upd (upd H a o) a u=upd H a u:=by
  funext b; unfold upd; split <;> rfl

theorem ne_of {H:Hp} {a b:Addr} {o u:HO} (h:H a=some o) (h':H b=some u) (d:o≠u):a≠b:=by
  intro e; subst e; rw [h] at h'; exact d (Option.some.inj h')
theorem ne_of_none {H:Hp} {a b:Addr} {o:HO} (h:H a=some o) (h':H b=none):a≠b:=by
  intro e; subst e; rw [h] at h'; cases h'

section
variable (P:Program) (w:World)
def ObjOk (H:Hp) (h:Heap) (a:Addr):HO→Prop
  | .lst xs=>xs.length≤sizeLine∧∃ (its:List Value) (n:Nat),Vals xs its∧h.get? a=some { cls:=.type "list",data:=.seq its.toArray n }
  | .tup xs=>xs.length≤sizeLine∧∃ its:List Value,Vals xs its∧IsTup h a its.toArray
  | .dK kvs=>kvs.length≤sizeLine∧(a == sysModules)=false∧∃ vs,KV kvs vs∧h.DictOf (mixKind P w) a vs
  | .dT kvs=>kvs.length≤sizeLine∧(a == sysModules)=false∧∃ xs:List (List Key × Addr × Value),
      Paired (fun (p:List Key × V) (q:List Key × Addr × Value)=>p.1=q.1∧H q.2.1=some (.tup (p.1.map kV))∧RelV p.2 q.2.2) kvs xs ∧
      ∃ o es ep,h.get? a=some o∧o.ExactDict∧o.data=.dict es ep∧es.toList=xs.map (entryOfKey (tupleKind (mixKind P w)))∧(xs.map (·.1)).Nodup
  | .set S n=>h.SetOf (intKind P w) a S n
  | .ins C dx fs=>H dx=some (.own a)∧fs.length≤1000∧dx≠a∧h.get? a=some (PySem.W.instObj C dx) ∧
      ∃ mA,h.Ns1 dx mA∧(∀ f,RelO (fs.lookup f) (mA f))∧PySem.Within mA (fs.map (·.1))
  | .own _=>∃ o,h.get? a=some o
  | .xd fs=>∃ mA,h.Ns1 a mA∧∀ f,RelO (fs.lookup f) (mA f)
  | .rng lo hi=>∃ t u v,h.get? a=some { cls:=.type "range",data:=.fields #[.int lo t,.int hi u,.int 1 v] }
  | .frz o u=>h.get? a=some o∧ObjOk H h a u
  | .tbl ps=>h.get? a=some { cls:=.none,data:=.fields ps }
  | .met f x=>h.get? a=some (PySem.W.methodObj (.ref f) (.ref x))
  | .ext φ=>φ h∧(∃ o,h.get? a=some o)∧∀ h1 h2:Heap,φ h1→(∀ o,h1.get? a=some o→h2.get? a=some o)→φ h2

def HOk (H:Hp) (h:Heap):Prop:=∀ a o,H a=some o→ObjOk P w H h a o
end

section
variable {P:Program} {w:World} {H H':Hp} {h h':Heap} {a:Addr} {o:HO}
theorem ObjOk.lt (x:ObjOk P w H h a o):a < h.objs.size:=by
  cases o with
  | lst xs=>obtain ⟨_,_,_,_,e⟩:=x; exact Heap.lt_size e
  | tup xs=>obtain ⟨_,_,_,p⟩:=x; exact p.lt
  | dK kvs=>obtain ⟨_,_,_,_,o,_,_,e,_⟩:=x; exact Heap.lt_size e
  | dT kvs=>obtain ⟨_,_,_,_,o,_,_,e,_⟩:=x; exact Heap.lt_size e
  | set S n=>obtain ⟨o,_,_,_,e,_⟩:=x; exact Heap.lt_size e
  | ins C dx fs=>obtain ⟨_,_,_,e,_⟩:=x; exact Heap.lt_size e
  | own y=>obtain ⟨_,e⟩:=x; exact Heap.lt_size e
  | xd fs=>obtain ⟨_,⟨_,_,_,e,_⟩,_⟩:=x; exact Heap.lt_size e
  | rng lo hi=>obtain ⟨_,_,_,e⟩:=x; exact Heap.lt_size e
  | frz ob u=>obtain ⟨e,_⟩:=x; exact Heap.lt_size e
  | tbl ps=>exact Heap.lt_size (show h.get? a=some _ from x)
  | met f y=>exact Heap.lt_size (show h.get? a=some _ from x)
  | ext φ=>obtain ⟨_,⟨_,e⟩,_⟩:=x; exact Heap.lt_size e
theorem Paired.mapP {α β:Type} {F G:α→β→Prop}:∀ {l₁:List α} {l₂:List β},Paired F l₁ l₂→(∀ a b,F a b→G a b)→Paired G l₁ l₂
  | _,_,.nil,_=>.nil
  | _,_,.cons r t,f=>.cons (f _ _ r) (Paired.mapP t f)
theorem ObjOk.stay (x:ObjOk P w H h a o) (k:∀ b u,(b=a∨H b=some (.own a))→h.get? b=some u→h'.get? b=some u)
    (ho:∀ b,H b=some (.own a)→H' b=some (.own a)) (ht:∀ b xs,H b=some (.tup xs)→H' b=some (.tup xs)):ObjOk P w H' h' a o:=by
  induction o with
  | lst xs=>obtain ⟨z,its,n,r,e⟩:=x; exact ⟨z,its,n,r,k _ _ (.inl rfl) e⟩
  | tup xs=>obtain ⟨z,its,r,ob,e,c⟩:=x; exact ⟨z,its,r,ob,k _ _ (.inl rfl) e,c⟩
  | dK kvs=>obtain ⟨z,y,vs,r,ob,es,ep,e,c⟩:=x; exact ⟨z,y,vs,r,ob,es,ep,k _ _ (.inl rfl) e,c⟩
  | dT kvs =>
    obtain ⟨z,y,xs,r,ob,es,ep,e,c⟩:=x
    exact ⟨z,y,xs,Paired.mapP r fun p q z=>⟨z.1,ht _ _ z.2.1,z.2.2⟩,ob,es,ep,k _ _ (.inl rfl) e,c⟩
  | set S n=>obtain ⟨ob,es,ep,t,e,c⟩:=x; exact ⟨ob,es,ep,t,k _ _ (.inl rfl) e,c⟩
  | ins C dx fs =>
    obtain ⟨d,z,ne,e,mA,⟨od,es,ep,e2,c⟩,r⟩:=x
    exact ⟨ho _ d,z,ne,k _ _ (.inl rfl) e,mA,⟨od,es,ep,k _ _ (.inr d) e2,c⟩,r⟩
  | own y=>obtain ⟨ob,e⟩:=x; exact ⟨ob,k _ _ (.inl rfl) e⟩
  | xd fs=>obtain ⟨mA,⟨od,es,ep,e,c⟩,r⟩:=x; exact ⟨mA,⟨od,es,ep,k _ _ (.inl rfl) e,c⟩,r⟩
  | rng lo hi=>obtain ⟨t,u,v,e⟩:=x; exact ⟨t,u,v,k _ _ (.inl rfl) e⟩
  | frz ob u ih=>obtain ⟨e,q⟩:=x; exact ⟨k _ _ (.inl rfl) e,ih q⟩
  | tbl ps =>
    have e:h.get? a=some { cls:=.none,data:=.fields ps }:=x
    show h'.get? a=some { cls:=.none,data:=.fields ps }
    exact k a _ (.inl rfl) e
  | met f y =>
    have e:h.get? a=some (PySem.W.methodObj (.ref f) (.ref y)):=x
    show h'.get? a=some (PySem.W.methodObj (.ref f) (.ref y))
    exact k a _ (.inl rfl) e
  | ext φ=>obtain ⟨p,⟨o,e⟩,st⟩:=x; exact ⟨st _ _ p fun o q=>k _ _ (.inl rfl) q,⟨o,k _ _ (.inl rfl) e⟩,st⟩
theorem HOk.lt (x:HOk P w H h) (e:H a=some o):a < h.objs.size:=(x a o e).lt
theorem HOk.fresh (x:HOk P w H h) (e:h.objs.size≤a):H a=none:=by
  cases q:H a with
  | none=>rfl
  | some u=>exact absurd (Nat.lt_of_lt_of_le (x.lt q) e) (Nat.lt_irrefl _)

theorem HOk.kept (x:HOk P w H h) (k:∀ b u,h.get? b=some u→h'.get? b=some u):HOk P w H h':=fun a o e =>
  (x a o e).stay (fun b u _ q=>k b u q) (fun _ q=>q) fun _ _ q=>q

theorem HOk.laid (x:HOk P w H h) (k:∀ b u,h.get? b=some u→h'.get? b=some u) (hp:h.objs.size≤a) (new:ObjOk P w (upd H a o) h' a o):HOk P w (upd H a o) h':=fun b u e=>by
  have hn:=x.fresh hp
  by_cases hb:b=a
  · subst hb; rw [upd_same] at e; cases e; exact new
  · rw [upd_ne hb] at e
    exact (x b u e).stay (fun c v _ q=>k c v q) (fun c q=>by rw [upd_ne (ne_of_none q hn)]; exact q) fun c xs q=>by rw [upd_ne (ne_of_none q hn)]; exact q
end


def Rd (H:Hp) (a:Addr) (u:HO):Prop:=H a=some u∨∃ o,H a=some (.frz o u)
theorem Rd.ok {P:Program} {w:World} {H:Hp} {h:Heap} {a:Addr} {u:HO} (r:Rd H a u) (x:HOk P w H h):ObjOk P w H h a u:=by
  rcases r with r | ⟨o,r⟩
  · exact x a u r
  · obtain ⟨_,q⟩:=x a _ r
    exact q

def Mut:Option HO→Prop
  | some (.lst _)=>True
  | some (.dK _)=>True
  | some (.dT _)=>True
  | some (.set _ _)=>True
  | some (.ins _ _ _)=>True
  | some (.ext _)=>True
  | _=>False
section
variable {P:Program} {w:World} {H:Hp} {h h':Heap} {x e:Addr} {o':HO}

theorem HOk.write (ok:HOk P w H h) (mu:Mut (H x)) (he:e=x∨H e=some (.own x)) (k:∀ b u,b≠e→h.get? b=some u→h'.get? b=some u) (heo:∃ u,h'.get? e=some u)
    (new:ObjOk P w (upd H x o') h' x o'):HOk P w (upd H x o') h':=fun b u q=>by
  have nown:∀ c y,H c=some (.own y)→c≠x:=fun c y r z=>by subst z; rw [r] at mu; exact mu
  have ntup:∀ c xs,H c=some (.tup xs)→c≠x:=fun c xs r z=>by subst z; rw [r] at mu; exact mu
  by_cases hb:b=x
  · subst hb; rw [upd_same] at q; cases q; exact new
  · rw [upd_ne hb] at q
    by_cases hbe:b=e
    · have q':H b=some (.own x):=by
        rcases he with z | z
        · exact absurd (hbe.trans z) hb
        · rw [hbe]; exact z
      rw [q] at q'; cases q'
      obtain ⟨v,hv⟩:=heo
      exact ⟨v,by rw [hbe]; exact hv⟩
    · refine (ok b u q).stay (fun c v hc r=>k c v ?_ r) (fun c r=>by rw [upd_ne (nown c b r)]; exact r) fun c xs r=>by rw [upd_ne (ntup c xs r)]; exact r
      rcases hc with rfl | hc
      · exact hbe
      · rintro rfl
        rcases he with z | z
        · exact nown c b hc z
        · rw [hc] at z; cases z; exact hb rfl
end


structure Un (fs ex:List Addr) (H H':Hp) (h h':Heap):Prop where
  keep:∀ b o,h.get? b=some o→H b=none→b∉fs→b∉ex→h'.get? b=some o
  slot:∀ b o,h.get? b=some o→H b=none→b∈fs→b∉ex→∃ sl,h'.get? b=some { o with slots:=sl }
  free:∀ b o,h.get? b=some o→H b=none→b∉ex→H' b=none
  there:∀ b o,h.get? b=some o→b∉ex→∃ o',h'.get? b=some o'
  tups:∀ b xs,H b=some (.tup xs)→H' b=some (.tup xs)
  frzs:∀ b o u,H b=some (.frz o u)→H' b=some (.frz o u)
  tbls:∀ b ps,H b=some (.tbl ps)→∃ more,H' b=some (.tbl (ps++more))
section
variable {fs fs' ex ex':List Addr} {H H1 H2:Hp} {h h1 h2 h':Heap} {a x e:Addr} {o:HO}
theorem Un.any (u:Un fs ex H H1 h h1) {b:Addr} {ob:Obj} (q:h.get? b=some ob) (n:H b=none) (hx:b∉ex):∃ sl,h1.get? b=some { ob with slots:=sl }:=by
  by_cases hb:b∈fs
  · exact u.slot b ob q n hb hx
  · exact ⟨ob.slots,u.keep b ob q n hb hx⟩
theorem Un.kept (k:∀ b u,h.get? b=some u→h'.get? b=some u):Un fs ex H H h h' :=
  ⟨fun b ob q _ _ _=>k b ob q,fun b ob q _ _ _=>⟨ob.slots,k b ob q⟩,fun _ _ _ n _=>n,fun b ob q _=>⟨ob,k b ob q⟩,fun _ _ q=>q,fun _ _ _ q=>q,fun _ ps q=>⟨#[],by rw [q]; simp⟩⟩
theorem Un.refl:Un fs ex H H h h:=Un.kept fun _ _ q=>q
theorem Un.laid (k:∀ b u,h.get? b=some u→h'.get? b=some u) (hp:h.objs.size≤a) (hn:H a=none):Un fs ex H (upd H a o) h h' where
  keep:=fun b u q _ _ _=>k b u q
  slot:=fun b u q _ _ _=>⟨u.slots,k b u q⟩
  free:=fun b u q n _=>by rw [upd_ne (Nat.ne_of_lt (Nat.lt_of_lt_of_le (Heap.lt_size q) hp))]; exact n
  there:=fun b u q _=>⟨u,k b u q⟩
  tups:=fun b xs q=>by rw [upd_ne (ne_of_none q hn)]; exact q
  frzs:=fun b u xs q=>by rw [upd_ne (ne_of_none q hn)]; exact q
  tbls:=fun b ps q=>⟨#[],by rw [upd_ne (ne_of_none q hn),q]; simp⟩
theorem Un.write (mu:Mut (H x)) (he:e=x∨H e=some (.own x)) (k:∀ b u,b≠e→h.get? b=some u→h'.get? b=some u) (heo:∃ u,h'.get? e=some u):Un fs ex H (upd H x o) h h':=by
  have hx:∀ b,H b=none→b≠x:=fun b n z=>by subst z; rw [n] at mu; exact mu
  have hb:∀ b,H b=none→b≠e:=fun b n z=>by
    subst z
    rcases he with r | r
    · exact hx b n r
    · rw [n] at r; cases r
  have hm:∀ b u,H b=some u→¬ Mut (some u)→b≠x:=fun b u q nm z=>by subst z; rw [q] at mu; exact nm mu
  refine ⟨fun b u q n _ _=>k b u (hb b n) q,fun b u q n _ _=>⟨u.slots,k b u (hb b n) q⟩,fun b u q n _=>by rw [upd_ne (hx b n)]; exact n,fun b u q _ => ?_,
    fun b xs q=>by rw [upd_ne (hm b _ q fun z=>z)]; exact q,fun b u xs q=>by rw [upd_ne (hm b _ q fun z=>z)]; exact q,fun b ps q=>⟨#[],by rw [upd_ne (hm b _ q fun z=>z),q]; simp⟩⟩
  by_cases hbe:b=e
  · subst hbe; exact heo
  · exact ⟨u,k b u hbe q⟩
end


def trk (h:Heap) (H:Hp):List Addr:=(List.range h.objs.size).filter fun a=>(H a).isSome
def hidT (h:Heap) (H:Hp):Heap:=PySem.W.hideAll h (trk h H)
theorem hidT_size (h:Heap) (H:Hp):(hidT h H).objs.size=h.objs.size:=PySem.W.hideAll_size _ _
theorem hidT_get {h:Heap} {H:Hp} {b:Addr} {o:Obj} (e:h.get? b=some o) (n:H b=none):(hidT h H).get? b=some o :=
  PySem.W.hideAll_get _ e fun hm=>by
    have q:(H b).isSome=true:=(List.mem_filter.mp hm).2
    rw [n] at q; simp at q
theorem of_hidT {h:Heap} {H:Hp} {b:Addr} {o:Obj} (e:(hidT h H).get? b=some o):h.get? b=some o∧H b=none:=by
  have e':h.get? b=some o:=PySem.W.of_hideAll (trk h H) e
  refine ⟨e',?_⟩
  cases q:H b with
  | none=>rfl
  | some x =>
    have hm:b∈trk h H:=List.mem_filter.mpr ⟨List.mem_range.mpr (Heap.lt_size e'),by simp [q]⟩
    have z:(hidT h H).get? b=none:=PySem.W.hideAll_none (trk h H) hm
    rw [z] at e; cases e


end L2

namespace L2
open PySem PySem.Spec PyProof.Rows


structure Mod (K:PySem.W.Frag) (mg:Str→Option Value) (base:Heap):Prop where
  kin:K.In base
  glob:base.Ns mainGlobals mg
  blt:∃ mb,base.Ns builtinsNs mb∧∀ x:Str,x ≠ "__name__" → mb x=bootBuiltins x
  nolimit:base.NoLimit


structure Cx where
  prog:Program
  w:World
  K:PySem.W.Frag
  mg:Str→Option Value
  base:Heap
  A:Around
  N:List Str
  s₀:Shared
  H₀:Hp
  env:Env
  outer:List Env
  stack:List Env
  ex:List Addr
  fn:Str→Bool
  calm:Bool
  pn:List (Addr × Obj)
  xe:Value→Shared→Prop

def frs (l:List Env):List Addr:=l.filterMap (·.frame)
abbrev Cx.fs (X:Cx):List Addr:=frs X.outer

def Vis (sc:Scope) (x:Str):Prop:=sc.names.lookup x=some .local∨sc.names.lookup x=some .cell∨sc.names.lookup x=some .free
def Loc (sc:Scope) (x:Str):Prop:=sc.names.lookup x=some .local∨sc.names.lookup x=some .cell
def Look (env:Env) (h:Heap) (m:Str→Option Value) (x:Str) (u:Value):Prop :=
  (env.kindOf x=some .local∧m x=some u)∨((env.kindOf x=some .cell∨env.kindOf x=some .free)∧∃ c,env.cells.lookup x=some c∧h.IsCell c (some u))

structure Cx.Ok (X:Cx):Prop where
  mod:Mod X.K X.mg X.base
  kind:X.env.scope.kind=.function
  glob:X.env.globals=mainGlobals
  blt:X.env.builtins=builtinsNs
  above:X.s₀.heap.objs.size≤X.env.locals
  inj:∀ x y c,X.env.cells.lookup x=some c→X.env.cells.lookup y=some c→x=y
  has:∀ x,(X.env.kindOf x=some .cell∨X.env.kindOf x=some .free)→∃ c,X.env.cells.lookup x=some c
  cab:∀ x c,X.fn x=true→X.env.cells.lookup x=some c→X.s₀.heap.objs.size≤c
  hd:X.calm=true→X.A.handled=none
  frames:X.A.frames=some X.stack
  stk:X.stack=X.outer∨(X.stack=X.env::X.outer∧X.env.frame=some X.env.locals)
  exf:∀ b∈X.ex,b≠X.env.locals∧∀ x c,X.env.cells.lookup x=some c→c≠b
  bs:∀ b o,X.base.get? b=some o→X.s₀.heap.get? b=some o∧X.H₀ b=none
  bsz:X.base.objs.size≤X.s₀.heap.objs.size
  noex:∀ b o,X.base.get? b=some o→b∉X.ex
  exfs:∀ b∈X.ex,b∉X.fs
  funs:X.s₀.heap.FunFrames X.base X.outer
  frf:∀ b∈X.fs,X.H₀ b=none

structure Inv (X:Cx) (pins:List (Addr × Obj)) (σ:List (Option V)) (H:Hp) (s:Shared):Prop where
  ok:X.Ok
  os:s.os=X.s₀.os
  bare:AllBare s.gens
  base:Un X.fs X.ex X.H₀ H X.s₀.heap s.heap
  loc:∃ m,s.heap.Ns X.env.locals m∧∀ (i:Nat) (x:Str) (v:V),X.N[i]? = some x→σ[i]? = some (some v)→Vis X.env.scope x→∃ u,RelV v u∧Look X.env s.heap m x u
  cell:∀ x c,X.env.cells.lookup x=some c→∃ v,s.heap.IsCell c v
  free:H X.env.locals=none
  freeC:∀ x c,X.env.cells.lookup x=some c→H c=none
  pin:∀ p∈X.pn++pins,s.heap.get? p.1=some p.2∧H p.1=none∧p.1≠X.env.locals∧p.1∉X.fs∧∀ v,p.2.data≠.cell v
  hok:HOk X.prog X.w H s.heap
  len:σ.length=X.N.length

section
variable {X:Cx} {pins:List (Addr × Obj)} {σ:List (Option V)} {H H':Hp} {s:Shared} {h':Heap}

theorem Cx.Ok.nofr (ok:X.Ok) {b:Addr} {o:Obj} (e:X.base.get? b=some o):b∉X.fs:=fun hb=>by
  have:=(ok.funs.mem hb).1
  rw [e] at this; cases this
theorem Inv.bs (I:Inv X pins σ H s):∀ b o,X.base.get? b=some o→s.heap.get? b=some o∧H b=none:=fun b o e =>
  ⟨I.base.keep b o (I.ok.bs b o e).1 (I.ok.bs b o e).2 (I.ok.nofr e) (I.ok.noex b o e),I.base.free b o (I.ok.bs b o e).1 (I.ok.bs b o e).2 (I.ok.noex b o e)⟩
theorem Inv.bk (I:Inv X pins σ H s):∀ b o,X.base.get? b=some o→s.heap.get? b=some o:=fun b o e=>(I.bs b o e).1
theorem Inv.mod (I:Inv X pins σ H s):Mod X.K X.mg X.base:=I.ok.mod
theorem Inv.kIn (I:Inv X pins σ H s):X.K.In s.heap:=I.ok.mod.kin.keeps I.bk
theorem Inv.lt (I:Inv X pins σ H s):X.env.locals < s.heap.objs.size:=let ⟨_,hn,_⟩:=I.loc; hn.lt
theorem Inv.sz (I:Inv X pins σ H s):X.s₀.heap.objs.size≤s.heap.objs.size:=Nat.le_trans I.ok.above (Nat.le_of_lt I.lt)
theorem Inv.nofs (I:Inv X pins σ H s) {a:Addr} (h:s.heap.objs.size≤a):a∉X.fs:=fun hb=>by
  obtain ⟨_,o,ho,_⟩:=I.ok.funs.mem hb
  exact absurd (Nat.lt_of_lt_of_le (Heap.lt_size ho) (Nat.le_trans I.sz h)) (Nat.lt_irrefl _)
theorem Inv.cne (I:Inv X pins σ H s):∀ x c,X.env.cells.lookup x=some c→c≠X.env.locals:=fun x c e z=>by
  obtain ⟨v,o,ho,hd⟩:=I.cell x c e
  obtain ⟨m,⟨o',es,ep,ho',hd',_⟩,_⟩:=I.loc
  rw [z,ho'] at ho; cases ho; rw [hd'] at hd; cases hd
theorem Inv.funs (I:Inv X pins σ H s):s.heap.FunFrames X.base X.outer:=by
  have all:∀ (l:List Env),(∀ b∈frs l,b∈X.fs)→X.s₀.heap.FunFrames X.base l→s.heap.FunFrames X.base l:=by
    intro l
    induction l with
    | nil=>intro _ _; trivial
    | cons env r ih =>
      intro hs hl
      obtain ⟨hk,⟨L,o,hf,hn,ho,hd⟩,hr⟩:=hl
      have hL:L∈X.fs:=hs L (by unfold frs; rw [List.filterMap_cons,hf]; exact List.mem_cons_self)
      obtain ⟨sl,e⟩:=I.base.slot L o ho (I.ok.frf L hL) hL fun z=>I.ok.exfs L z hL
      exact ⟨hk,⟨L,_,hf,hn,e,hd⟩,ih (fun b hb=>hs b (by unfold frs; rw [List.filterMap_cons,hf]; exact List.mem_cons_of_mem _ hb)) hr⟩
  exact all X.outer (fun _ hb=>hb) I.ok.funs


theorem Inv.stack (I:Inv X pins σ H s):s.heap.FunFrames X.base X.stack:=by
  rcases I.ok.stk with e | ⟨e,hf⟩
  · rw [e]; exact I.funs
  · rw [e]
    obtain ⟨m,hn,_⟩:=I.loc
    refine .cons (by rw [I.ok.kind]; decide) hf hn ?_ I.funs
    exact Heap.get?_none_of_le (Nat.le_trans I.ok.bsz I.ok.above)
theorem Inv.stkSub (I:Inv X pins σ H s):∀ b∈frs X.stack,b∈X.env.locals::X.fs:=fun b hb=>by
  rcases I.ok.stk with e | ⟨e,hf⟩
  · rw [e] at hb; exact List.mem_cons_of_mem _ hb
  · rw [e] at hb
    unfold frs at hb
    rw [List.filterMap_cons,hf] at hb
    exact hb
theorem Inv.stkFree (I:Inv X pins σ H s):∀ b∈frs X.stack,H b=none:=fun b hb=>by
  rcases List.mem_cons.mp (I.stkSub b hb) with e | hb
  · rw [e]; exact I.free
  · obtain ⟨_,o,ho,_⟩:=I.ok.funs.mem hb
    exact I.base.free b o ho (I.ok.frf b hb) fun z=>I.ok.exfs b z hb


theorem Inv.step {g':Array GenState} {t':Nat} {d':Drawn} {ch:List Addr} (I:Inv X pins σ H s)
    (hch:∀ b∈ch,(b∈X.ex∨X.s₀.heap.objs.size≤b)∧b≠X.env.locals∧(∀ x c,X.env.cells.lookup x=some c→c≠b)∧∀ p∈X.pn++pins,p.1≠b)
    (keep:∀ b o,b≠X.env.locals→b∉X.fs→b∉ch→s.heap.get? b=some o→H b=none→h'.get? b=some o)
    (slot:∀ b o,b≠X.env.locals→b∈X.fs→b∉ch→s.heap.get? b=some o→H b=none→∃ sl,h'.get? b=some { o with slots:=sl }) (free:∀ b o,b∉ch→s.heap.get? b=some o→H b=none→H' b=none)
    (there:∀ b o,b∉ch→s.heap.get? b=some o→∃ o',h'.get? b=some o')
    (tups:∀ b xs,H b=some (.tup xs)→H' b=some (.tup xs)) (frzs:∀ b o u,H b=some (.frz o u)→H' b=some (.frz o u)) (tbls:∀ b ps,H b=some (.tbl ps)→∃ more,H' b=some (.tbl (ps++more)))
    (ns:∀ m,s.heap.Ns X.env.locals m→h'.Ns X.env.locals m) (hok:HOk X.prog X.w H' h') (hg:AllBare g') :
    Inv X pins σ H' { s with heap:=h',gens:=g',drawn:=d',toks:=t' }:=by
  have neL:∀ b o,X.s₀.heap.get? b=some o→b≠X.env.locals:=fun b o e=>Nat.ne_of_lt (Nat.lt_of_lt_of_le (Heap.lt_size e) I.ok.above)
  have neC:∀ b o,X.s₀.heap.get? b=some o→b∉X.ex→b∉ch:=fun b o e hx hb=>by
    rcases (hch b hb).1 with z | z
    · exact hx z
    · exact absurd (Nat.lt_of_lt_of_le (Heap.lt_size e) z) (Nat.lt_irrefl _)
  have cellK:∀ x c,X.env.cells.lookup x=some c→∀ v,s.heap.IsCell c v→h'.IsCell c v:=fun x c e v ⟨o,ho,hd⟩=>by
    have nch:c∉ch:=fun z=>(hch c z).2.2.1 x c e rfl
    by_cases hc:c∈X.fs
    · obtain ⟨sl,q⟩:=slot c o (I.cne x c e) hc nch ho (I.freeC x c e)
      exact ⟨_,q,hd⟩
    · exact ⟨o,keep c o (I.cne x c e) hc nch ho (I.freeC x c e),hd⟩
  refine ⟨I.ok,I.os,hg,⟨fun b o e n hb hx => ?_,fun b o e n hb hx => ?_,fun b o e n hx => ?_,fun b o e hx => ?_,fun b xs e=>tups b xs (I.base.tups b xs e),fun b o xs e=>frzs b o xs (I.base.frzs b o xs e),fun b ps e => ?_⟩,?_,fun x c e => ?_,?_,fun x c e => ?_,fun p hp => ?_,hok,I.len⟩
  · exact keep b o (neL b o e) hb (neC b o e hx) (I.base.keep b o e n hb hx) (I.base.free b o e n hx)
  · obtain ⟨sl,e1⟩:=I.base.slot b o e n hb hx
    obtain ⟨sl',e2⟩:=slot b _ (neL b o e) hb (neC b o e hx) e1 (I.base.free b o e n hx)
    exact ⟨sl',e2⟩
  · obtain ⟨o',e1⟩:=I.base.there b o e hx
    exact free b o' (neC b o e hx) e1 (I.base.free b o e n hx)
  · obtain ⟨o',e1⟩:=I.base.there b o e hx
    exact there b o' (neC b o e hx) e1
  · obtain ⟨m1,e1⟩:=I.base.tbls b ps e
    obtain ⟨m2,e2⟩:=tbls b _ e1
    exact ⟨m1++m2,by rw [e2,Array.append_assoc]⟩
  · obtain ⟨m,hn,hl⟩:=I.loc
    refine ⟨m,ns m hn,fun i x v e1 e2 e3 => ?_⟩
    obtain ⟨u,r,l⟩:=hl i x v e1 e2 e3
    refine ⟨u,r,?_⟩
    rcases l with l | ⟨k,c,e,z⟩
    · exact .inl l
    · exact .inr ⟨k,c,e,cellK x c e _ z⟩
  · obtain ⟨v,z⟩:=I.cell x c e
    exact ⟨v,cellK x c e v z⟩
  · obtain ⟨m,⟨o,_,_,ho,_⟩,_⟩:=I.loc
    exact free _ o (fun z=>(hch _ z).2.1 rfl) ho I.free
  · obtain ⟨v,o,ho,hd⟩:=I.cell x c e
    exact free c o (fun z=>(hch c z).2.2.1 x c e rfl) ho (I.freeC x c e)
  · obtain ⟨e,n,ne,nf,d⟩:=I.pin p hp
    have nch:p.1∉ch:=fun z=>(hch p.1 z).2.2.2 p hp rfl
    exact ⟨keep p.1 p.2 ne nf nch e n,free p.1 p.2 nch e n,ne,nf,d⟩

theorem Inv.un {t':Nat} (I:Inv X pins σ H s) (u:Un X.fs [] H H' s.heap h') (hok:HOk X.prog X.w H' h'):Inv X pins σ H' { s with heap:=h',toks:=t' }:=by
  obtain ⟨m,⟨o,es,ep,ho,r⟩,_⟩:=id I.loc
  obtain ⟨sl,hL⟩:=u.any ho I.free (by simp)
  exact I.step (g':=s.gens) (d':=s.drawn) (ch:=[]) (fun _ z=>nomatch z) (fun b o _ hb _ e n=>u.keep b o e n hb (by simp)) (fun b o _ hb _ e n=>u.slot b o e n hb (by simp)) (fun b o _ e n=>u.free b o e n (by simp)) (fun b o _ e=>u.there b o e (by simp)) u.tups u.frzs u.tbls (fun m' hm=>by
    obtain ⟨o',es',ep',ho',r'⟩:=hm
    rw [ho] at ho'; cases ho'
    exact ⟨_,es',ep',hL,r'⟩) hok I.bare

theorem Inv.call {g':Array GenState} {t':Nat} {d':Drawn} {ch:List Addr} (I:Inv X pins σ H s) (u:Un (frs X.stack) ch H H' s.heap h') (hok:HOk X.prog X.w H' h') (hg:AllBare g')
    (hch:∀ b∈ch,(b∈X.ex∨X.s₀.heap.objs.size≤b)∧b≠X.env.locals∧(∀ x c,X.env.cells.lookup x=some c→c≠b)∧∀ p∈X.pn++pins,p.1≠b) :
    Inv X pins σ H' { s with heap:=h',gens:=g',drawn:=d',toks:=t' }:=by
  obtain ⟨m,⟨o,es,ep,ho,r⟩,_⟩:=id I.loc
  obtain ⟨sl,hL⟩:=u.any ho I.free fun z=>(hch _ z).2.1 rfl
  exact I.step (ch:=ch) hch (fun b o hL hb hc e n=>u.keep b o e n (fun z=>(List.mem_cons.mp (I.stkSub b z)).elim hL hb) hc) (fun b o _ _ hc e n=>u.any e n hc) (fun b o hc e n=>u.free b o e n hc) (fun b o hc e=>u.there b o e hc) u.tups u.frzs u.tbls (fun m' hm=>by
    obtain ⟨o',es',ep',ho',r'⟩:=hm
    rw [ho] at ho'; cases ho'
    exact ⟨_,es',ep',hL,r'⟩) hok hg

theorem Inv.turned {t':Nat} {it:Addr} (I:Inv X pins σ H s) (k:∀ b o,b≠it→s.heap.get? b=some o→h'.get? b=some o) (hn:H it=none) (hL:it≠X.env.locals)
    (h1:it∈X.ex∨X.s₀.heap.objs.size≤it) (h2:∀ x c,X.env.cells.lookup x=some c→c≠it) (h3:∀ p∈X.pn++pins,p.1≠it):Inv X pins σ H { s with heap:=h',toks:=t' }:=by
  have nit:∀ b u,H b=some u→b≠it:=fun b u e z=>by rw [z,hn] at e; cases e
  refine I.step (g':=s.gens) (d':=s.drawn) (ch:=[it]) (fun b hb => ?_) (fun b o _ _ hc e _=>k b o (fun z=>hc (by simp [z])) e) (fun b o _ _ hc e _=>⟨o.slots,k b o (fun z=>hc (by simp [z])) e⟩) (fun _ _ _ _ n=>n)
    (fun b o hc e=>⟨o,k b o (fun z=>hc (by simp [z])) e⟩) (fun _ _ e=>e) (fun _ _ _ e=>e) (fun b ps e=>⟨#[],by rw [e]; simp⟩) (fun m hm => ?_) (fun b u e => ?_) I.bare
  · have e:b=it:=by simpa using hb
    subst e
    exact ⟨h1,hL,h2,h3⟩
  · obtain ⟨o,es,ep,ho,r⟩:=hm
    exact ⟨o,es,ep,k _ o (Ne.symm hL) ho,r⟩
  · refine (I.hok b u e).stay (fun c v hc q=>k c v ?_ q) (fun _ q=>q) fun _ _ q=>q
    rcases hc with z | z
    · rw [z]; exact nit b u e
    · exact nit c _ z
theorem Inv.tok (I:Inv X pins σ H s) (t:Nat):Inv X pins σ H { s with toks:=t }:=I.un (h':=s.heap) (t':=t) Un.refl I.hok

theorem Inv.kept {t':Nat} (I:Inv X pins σ H s) (k:∀ b u,s.heap.get? b=some u→h'.get? b=some u):Inv X pins σ H { s with heap:=h',toks:=t' }:=I.un (Un.kept k) (I.hok.kept k)

theorem Inv.laid {a:Addr} {o:HO} {t':Nat} (I:Inv X pins σ H s) (k:∀ b u,s.heap.get? b=some u→h'.get? b=some u) (hp:s.heap.objs.size≤a) (new:ObjOk X.prog X.w (upd H a o) h' a o) :
    Inv X pins σ (upd H a o) { s with heap:=h',toks:=t' }:=I.un (Un.laid k hp (I.hok.fresh hp)) (I.hok.laid k hp new)

theorem Inv.write {x e:Addr} {o:HO} {t':Nat} (I:Inv X pins σ H s) (mu:Mut (H x)) (he:e=x∨H e=some (.own x)) (k:∀ b u,b≠e→s.heap.get? b=some u→h'.get? b=some u) (heo:∃ u,h'.get? e=some u)
    (new:ObjOk X.prog X.w (upd H x o) h' x o):Inv X pins σ (upd H x o) { s with heap:=h',toks:=t' }:=I.un (Un.write mu he k heo) (I.hok.write mu he k heo new)

theorem Inv.weak {σ':List (Option V)} (I:Inv X pins σ H s) (hl:σ'.length=σ.length) (w:∀ (i:Nat) v,σ'[i]? = some (some v)→σ[i]? = some (some v)):Inv X pins σ' H s :=
  ⟨I.ok,I.os,I.bare,I.base,let ⟨m,hn,hl'⟩:=I.loc; ⟨m,hn,fun i x v e1 e2 e3=>hl' i x v e1 (w i v e2) e3⟩,I.cell,I.free,I.freeC,I.pin,I.hok,hl.trans I.len⟩
theorem Inv.pins_of {pins':List (Addr × Obj)} (I:Inv X pins σ H s) (h:∀ p∈pins',s.heap.get? p.1=some p.2∧H p.1=none∧p.1≠X.env.locals∧p.1∉X.fs∧∀ v,p.2.data≠.cell v):Inv X pins' σ H s :=
  ⟨I.ok,I.os,I.bare,I.base,I.loc,I.cell,I.free,I.freeC,fun p hp=>(List.mem_append.mp hp).elim (fun z=>I.pin p (List.mem_append_left _ z)) (h p),I.hok,I.len⟩

theorem nodup_ix {N:List Str} (hN:N.Nodup) {i j:Nat} {x:Str} (a:N[i]? = some x) (b:N[j]? = some x):i=j:=by
  obtain ⟨h1,e1⟩:=List.getElem?_eq_some_iff.mp a
  obtain ⟨h2,e2⟩:=List.getElem?_eq_some_iff.mp b
  exact (List.getElem_inj hN).mp (e1.trans e2.symm)


theorem store_ok2 {M:Model} {A:Around} {E:Value→Shared→Prop} {i:Nat} {x:Str} {v:V} {u:Value} {Q:Unit→Shared→Prop} (I:Inv X pins σ H s) (hN:X.N.Nodup) (hi:X.N[i]? = some x) (hx:Loc X.env.scope x) (r:RelV v u)
    (h:∀ s',Inv X pins (σ.set i (some v)) H s'→(∃ a,Heap.SameBut a s.heap s'.heap∧(a=X.env.locals∨X.env.cells.lookup x=some a))→Q () s') (hf:X.fn x=true∨X.env.scope.names.lookup x=some .local:=by first | exact .inl rfl | exact .inr rfl | assumption):wpAny M A (storeName X.env x u) Q E s:=by
  obtain ⟨m,hn,hl⟩:=id I.loc
  have hcls:(X.env.scope.kind == .class || (X.env.scope.kind == .module && X.env.locals != X.env.globals))=false:=by rw [I.ok.kind]; rfl
  have hiσ:i < σ.length:=by rw [I.len]; exact (List.getElem?_eq_some_iff.mp hi).1
  have cne:=I.cne
  have tracked:∀ {a:Addr} {h':Heap},(∃ o,s.heap.get? a=some o∧H a=none)→Heap.SameBut a s.heap h'→HOk X.prog X.w H h':=fun {a h'} ha hs b ob e=>by
    obtain ⟨_,_,hfree⟩:=ha
    refine (I.hok b ob e).stay (fun c w' hc q=>(hs.2 c ?_).trans q) (fun _ q=>q) fun _ _ q=>q
    rintro rfl
    rcases hc with rfl | hc
    · rw [hfree] at e; cases e
    · rw [hfree] at hc; cases hc
  rcases hx with hk | hk
  · refine wpAny_storeName_local hk hn (fun h' hn' hs => ?_) hcls
    obtain ⟨oL,_,_,hoL,_⟩:=id hn
    refine h _ ⟨I.ok,I.os,I.bare,⟨fun b o e n hb hx => ?_,fun b o e n hb hx => ?_,I.base.free,fun b o e hx => ?_,I.base.tups,I.base.frzs,I.base.tbls⟩,⟨_,hn',fun j y v' e1 e2 e3 => ?_⟩,fun y c e => ?_,I.free,I.freeC,fun p hp => ?_,tracked ⟨oL,hoL,I.free⟩ hs,by simpa using I.len⟩ ⟨_,hs,.inl rfl⟩
    · exact (hs.2 b (Nat.ne_of_lt (Nat.lt_of_lt_of_le (Heap.lt_size e) I.ok.above))).trans (I.base.keep b o e n hb hx)
    · obtain ⟨sl,e1⟩:=I.base.slot b o e n hb hx
      exact ⟨sl,(hs.2 b (Nat.ne_of_lt (Nat.lt_of_lt_of_le (Heap.lt_size e) I.ok.above))).trans e1⟩
    · obtain ⟨o',e1⟩:=I.base.there b o e hx
      exact ⟨o',(hs.2 b (Nat.ne_of_lt (Nat.lt_of_lt_of_le (Heap.lt_size e) I.ok.above))).trans e1⟩
    · by_cases hj:j=i
      · subst hj
        rw [hi] at e1; cases e1
        rw [List.getElem?_set_self hiσ] at e2
        cases e2
        exact ⟨u,r,.inl ⟨hk,by simp⟩⟩
      · rw [List.getElem?_set_ne (Ne.symm hj)] at e2
        obtain ⟨u',r',q⟩:=hl j y v' e1 e2 e3
        refine ⟨u',r',?_⟩
        rcases q with ⟨k,e⟩ | ⟨k,c,e,z⟩
        · refine .inl ⟨k,?_⟩
          have:y≠x:=fun e=>hj (nodup_ix hN e1 (e▸hi))
          simp [this,e]
        · exact .inr ⟨k,c,e,z.sameBut hs (cne y c e)⟩
    · obtain ⟨w',z⟩:=I.cell y c e
      exact ⟨w',z.sameBut hs (cne y c e)⟩
    · obtain ⟨e,n,ne,nf,d⟩:=I.pin p hp
      exact ⟨(hs.2 p.1 ne).trans e,n,ne,nf,d⟩
  · have hfn:X.fn x=true:=by
      rcases hf with z | z
      · exact z
      · rw [z] at hk; cases hk
    obtain ⟨c,hc⟩:=I.ok.has x (.inl hk)
    obtain ⟨w',z⟩:=I.cell x c hc
    refine wpAny_storeName_cell I.ok.kind hk hc z (fun h' hc' hs => ?_)
    obtain ⟨oc,hoc,hocd⟩:=id z
    refine h { s with heap:=h' } ⟨I.ok,I.os,I.bare,⟨fun b o e n hb hx => ?_,fun b o e n hb hx => ?_,I.base.free,fun b o e hx => ?_,I.base.tups,I.base.frzs,I.base.tbls⟩,⟨m,hn.sameBut hs (Ne.symm (cne x c hc)),fun j y v' e1 e2 e3 => ?_⟩,fun y c' e => ?_,I.free,I.freeC,fun p hp => ?_,tracked ⟨oc,hoc,I.freeC x c hc⟩ hs,by simpa using I.len⟩ ⟨c,hs,.inr hc⟩
    · exact (hs.2 b (Nat.ne_of_lt (Nat.lt_of_lt_of_le (Heap.lt_size e) (I.ok.cab x c hfn hc)))).trans (I.base.keep b o e n hb hx)
    · obtain ⟨sl,e1⟩:=I.base.slot b o e n hb hx
      exact ⟨sl,(hs.2 b (Nat.ne_of_lt (Nat.lt_of_lt_of_le (Heap.lt_size e) (I.ok.cab x c hfn hc)))).trans e1⟩
    · obtain ⟨o',e1⟩:=I.base.there b o e hx
      exact ⟨o',(hs.2 b (Nat.ne_of_lt (Nat.lt_of_lt_of_le (Heap.lt_size e) (I.ok.cab x c hfn hc)))).trans e1⟩
    · by_cases hj:j=i
      · subst hj
        rw [hi] at e1; cases e1
        rw [List.getElem?_set_self hiσ] at e2
        cases e2
        exact ⟨u,r,.inr ⟨.inl hk,c,hc,hc'⟩⟩
      · rw [List.getElem?_set_ne (Ne.symm hj)] at e2
        obtain ⟨u',r',q⟩:=hl j y v' e1 e2 e3
        refine ⟨u',r',?_⟩
        rcases q with q | ⟨k,c',e,z'⟩
        · exact .inl q
        · refine .inr ⟨k,c',e,z'.sameBut hs ?_⟩
          rintro rfl
          exact hj (nodup_ix hN e1 (I.ok.inj _ _ _ e hc▸hi))
    · by_cases hcc:c'=c
      · subst hcc; exact ⟨_,hc'⟩
      · obtain ⟨w2,z2⟩:=I.cell y c' e
        exact ⟨w2,z2.sameBut hs hcc⟩
    · obtain ⟨e,n,ne,nf,d⟩:=I.pin p hp
      refine ⟨(hs.2 p.1 ?_).trans e,n,ne,nf,d⟩
      intro q
      rw [q,hoc] at e
      have q':oc=p.2:=Option.some.inj e
      exact d w' (by rw [← q']; exact hocd)
theorem store_ok {M:Model} {A:Around} {E:Value→Shared→Prop} {i:Nat} {x:Str} {v:V} {u:Value} {Q:Unit→Shared→Prop} (I:Inv X pins σ H s) (hN:X.N.Nodup) (hi:X.N[i]? = some x) (hx:Loc X.env.scope x) (r:RelV v u)
    (h:∀ s',Inv X pins (σ.set i (some v)) H s'→Q () s') (hf:X.fn x=true∨X.env.scope.names.lookup x=some .local:=by first | exact .inl rfl | exact .inr rfl | assumption):wpAny M A (storeName X.env x u) Q E s :=
  store_ok2 I hN hi hx r (fun s' I' _=>h s' I') hf

theorem Inv.call' {s':Shared} {ch:List Addr} (I:Inv X pins σ H s) (ho:s'.os=s.os) (u:Un (frs X.stack) ch H H' s.heap s'.heap) (hok:HOk X.prog X.w H' s'.heap) (hg:AllBare s'.gens)
    (hch:∀ b∈ch,(b∈X.ex∨X.s₀.heap.objs.size≤b)∧b≠X.env.locals∧(∀ x c,X.env.cells.lookup x=some c→c≠b)∧∀ p∈X.pn++pins,p.1≠b):Inv X pins σ H' s':=by
  obtain ⟨h',g',d',t',o'⟩:=s'
  have e:o'=s.os:=ho
  subst e
  exact I.call (g':=g') (t':=t') (d':=d') u hok hg hch
end



abbrev XK:=Value→Option Addr→Hp→Prop
abbrev St:=List (Option V)
abbrev VK:=V→Hp→Prop

abbrev TE:=St→Hp→VK→Prop
abbrev TT:=St→Hp→(Bool→Hp→Prop)→Prop
abbrev TA:=St→Hp→(List V→Hp→Prop)→Prop

structure Ends where
  nx:St→Hp→Prop
  rt:VK
  bk:St→Hp→Prop:=fun _ _=>False
  ct:St→Hp→Prop:=fun _ _=>False
abbrev TS:=Ends→St→Hp→Prop

def EP (X:Cx) (pins:List (Addr × Obj)) (σ:St) (Q:VK) (u:Value) (s':Shared):Prop:=∃ v H',Inv X pins σ H' s'∧RelV v u∧Q v H'
def TP (X:Cx) (pins:List (Addr × Obj)) (σ:St) (Q:Bool→Hp→Prop) (b:Bool) (s':Shared):Prop:=∃ H',Inv X pins σ H' s'∧Q b H'
def AP (X:Cx) (pins:List (Addr × Obj)) (σ:St) (Q:List V→Hp→Prop) (us:List Value) (s':Shared):Prop:=∃ vs H',Inv X pins σ H' s'∧Vals vs us∧Q vs H'
def SP (X:Cx) (pins:List (Addr × Obj)) (D:Ends) (f:Flow) (s':Shared):Prop :=
  match f with
  | .next=>∃ σ' H',Inv X pins σ' H' s'∧D.nx σ' H'
  | .brk=>∃ σ' H',Inv X pins σ' H' s'∧D.bk σ' H'
  | .cont=>∃ σ' H',Inv X pins σ' H' s'∧D.ct σ' H'
  | .ret u=>∃ v σ' H',Inv X pins σ' H' s'∧RelV v u∧D.rt v H'

def PE (X:Cx) (e:Expr) (t:TE):Prop :=
  ∀ (pins:List (Addr × Obj)) (s:Shared) (σ:St) (H:Hp) (Q:VK),Inv X pins σ H s→t σ H Q→wpAny (model X.prog X.w) X.A (eval e X.env) (EP X pins σ Q) X.xe s
def PT (X:Cx) (e:Expr) (t:TT):Prop :=
  ∀ (pins:List (Addr × Obj)) (s:Shared) (σ:St) (H:Hp) (Q:Bool→Hp→Prop),Inv X pins σ H s→t σ H Q→wpAny (model X.prog X.w) X.A (isTrue e X.env (eval e X.env)) (TP X pins σ Q) X.xe s

def PW (X:Cx) (e:Expr) (t:TT):Prop :=
  ∀ (whole:Sem Value) (pins:List (Addr × Obj)) (s:Shared) (σ:St) (H:Hp) (Q:Bool→Hp→Prop),Inv X pins σ H s→t σ H Q→wpAny (model X.prog X.w) X.A (isTrue e X.env whole) (TP X pins σ Q) X.xe s
theorem PW.pt {X:Cx} {e:Expr} {t:TT} (h:PW X e t):PT X e t:=h _

def PA (X:Cx) (es:List Expr) (t:TA):Prop :=
  ∀ (pos:Pos) (pins:List (Addr × Obj)) (s:Shared) (σ:St) (H:Hp) (Q:List V→Hp→Prop),Inv X pins σ H s→t σ H Q→wpAny (model X.prog X.w) X.A (spliced (backTo pos (starEach es X.env))) (AP X pins σ Q) X.xe s
def PS (X:Cx) (st:Stmt) (t:TS):Prop :=
  ∀ (pins:List (Addr × Obj)) (s:Shared) (σ:St) (H:Hp) (D:Ends),Inv X pins σ H s→t D σ H→wpAny (model X.prog X.w) X.A (exec st X.env) (SP X pins D) X.xe s
def PSs (X:Cx) (st:List Stmt) (t:TS):Prop :=
  ∀ (pins:List (Addr × Obj)) (s:Shared) (σ:St) (H:Hp) (D:Ends),Inv X pins σ H s→t D σ H→wpAny (model X.prog X.w) X.A (execs st X.env) (SP X pins D) X.xe s

theorem thn {α:Type} {t:Sem α} {Q Q':α→Shared→Prop} {M:Model} {A:Around} {E:Value→Shared→Prop} {s:Shared} (h:wpAny M A t Q E s) (hQ:∀ a s,Q a s→Q' a s):wpAny M A t Q' E s:=wpAny_mono h hQ fun _ _ x=>x
end L2

namespace L2
open PySem PySem.Spec PyProof.Rows
section
variable {X:Cx}


def tVar (i:Nat):TE:=fun σ H Q=>∃ v,σ[i]? = some (some v)∧Q v H
def tC (v:V):TE:=fun _ H Q=>Q v H
theorem pe_var {i:Nat} {x:Str} {pos:Pos} (hN:X.N[i]? = some x) (hv:Vis X.env.scope x) (hd:(x == ("__debug__" : Str))=false:=by decide) (hcd:(x == ("__classdict__" : Str))=false:=by decide):PE X (.Name x pos) (tVar i):=by
  intro pins s σ H Q I h
  obtain ⟨v,e,h⟩:=h
  obtain ⟨m,hn,hl⟩:=I.loc
  obtain ⟨u,r,l⟩:=hl i x v hN e hv
  have fin:EP X pins σ Q u s:=⟨v,H,I,r,h⟩
  rcases l with ⟨hk,hm⟩ | ⟨hk,c,hc,hcell⟩
  · exact wpAny_Name (wpAny_loadName_local I.ok.kind hk hn hm fin) hd
  · rcases hk with hk | hk
    · exact wpAny_Name (wpAny_loadName_cell I.ok.kind hk hc hcell fin) hd
    · exact wpAny_Name (wpAny_loadName_free I.ok.kind hk hc hcell fin hcd) hd
theorem pe_int {i j pos}:PE X (.Constant (.int i) j pos) (tC (.int i)):=fun _ _ _ H _ I h=>wpAny_Constant_int ⟨.int i,H,I.tok _,⟨_,rfl⟩,h⟩
theorem pe_bl {b j pos}:PE X (.Constant (.bool b) j pos) (tC (.bl b)):=fun _ _ _ H _ I h=>Constant_bool ⟨.bl b,H,I,rfl,h⟩
theorem pe_non {j pos}:PE X (.Constant .none j pos) (tC .non):=fun _ _ _ H _ I h=>Constant_none ⟨.non,H,I,rfl,h⟩
theorem pe_str {x j pos}:PE X (.Constant (.str x) j pos) (tC (.str x)):=fun _ _ _ H _ I h=>Calls.Constant_str ⟨.str x,H,I.tok _,⟨_,rfl⟩,h⟩


def Gl (X:Cx) (x:Str):Prop:=X.env.kindOf x=some .globalImplicit
theorem ld_glob {E:Value→Shared→Prop} {pins:List (Addr × Obj)} {s:Shared} {σ:St} {H:Hp} {x:Str} {u:Value} {pos:Pos} {Q:Value→Shared→Prop} (I:Inv X pins σ H s) (hg:Gl X x) (hm:X.mg x=some u) (h:Q u s)
    (hd:(x == ("__debug__" : Str))=false:=by decide):wpAny (model X.prog X.w) X.A (eval (.Name x pos) X.env) Q E s :=
  Calls.Name_function_global I.ok.kind hg (Calls.loadGlobal_global (by rw [I.ok.glob]; exact I.mod.glob.keeps I.bk) hm h) hd
theorem ld_blt {E:Value→Shared→Prop} {pins:List (Addr × Obj)} {s:Shared} {σ:St} {H:Hp} {x:Str} {u:Value} {pos:Pos} {Q:Value→Shared→Prop} (I:Inv X pins σ H s) (hg:Gl X x) (hm:X.mg x=none) (hv:bootBuiltins x=some u) (h:Q u s)
    (hn:x ≠ "__name__" := by decide) (hd:(x == ("__debug__" : Str))=false:=by decide):wpAny (model X.prog X.w) X.A (eval (.Name x pos) X.env) Q E s:=by
  obtain ⟨mb,h1,h2⟩:=I.mod.blt
  exact Calls.Name_function_global I.ok.kind hg (Calls.loadGlobal_builtin (by rw [I.ok.glob]; exact I.mod.glob.keeps I.bk) hm (by rw [I.ok.blt]; exact h1.keeps I.bk) ((h2 x hn).trans hv) h) hd

theorem pe_glob {x:Str} {v:V} {u:Value} {pos:Pos} (hg:Gl X x) (hm:X.mg x=some u) (r:RelV v u) (hd:(x == ("__debug__" : Str))=false:=by decide):PE X (.Name x pos) (tC v) :=
  fun _ _ _ H _ I h=>ld_glob I hg hm ⟨v,H,I,r,h⟩ hd
theorem pe_bltn {x:Str} {v:V} {u:Value} {pos:Pos} (hg:Gl X x) (hm:X.mg x=none) (hv:bootBuiltins x=some u) (r:RelV v u) (hn:x ≠ "__name__" := by decide) (hd:(x == ("__debug__" : Str))=false:=by decide):PE X (.Name x pos) (tC v) :=
  fun _ _ _ H _ I h=>ld_blt I hg hm hv ⟨v,H,I,r,h⟩ hn hd



variable {a b:Expr} {ta tb:TE} {pos:Pos}
def tB (t:TE):TT:=fun σ H Q=>t σ H fun x H1=>∃ c,x=.bl c∧Q c H1
theorem pt_val {e:Expr} {t:TE} (h:PE X e t) (he:∀ whole,isTrue e X.env whole=(do let v ← whole; standAt e.pos; holding [v] (truthy v)):=by intro _; rfl):PT X e (tB t):=by
  intro pins s σ H Q I hw
  refine isTrue_plain (thn (h pins s σ H _ I hw) fun v s1 ⟨x,H1,I1,r1,q1⟩ => ?_) (he _)
  obtain ⟨d,rfl,q⟩:=q1
  cases r1
  exact wpAny_truthy_bool ⟨H1,I1,q⟩


variable {tA tB':TT} {rest:List Expr}
def tAnd (t u:TT):TT:=fun σ H Q=>t σ H fun c H1=>if c=true then u σ H1 Q else Q false H1
def tOr (t u:TT):TT:=fun σ H Q=>t σ H fun c H1=>if c=true then Q true H1 else u σ H1 Q
def tNot (t:TT):TT:=fun σ H Q=>t σ H fun c H1=>Q (!c) H1
theorem pw_and1 (ha:PT X a tA):PW X (.BoolOp .And [a] pos) tA:=by
  intro wh pins s σ H Q I h
  refine isTrue_and (thn (ha pins s σ H Q I h) fun c s1 e => ?_)
  cases c with
  | true=>exact isTrue_and_nil e
  | false=>exact e
theorem pw_or1 (ha:PT X a tA):PW X (.BoolOp .Or [a] pos) tA:=by
  intro wh pins s σ H Q I h
  refine isTrue_or (thn (ha pins s σ H Q I h) fun c s1 e => ?_)
  cases c with
  | false=>exact isTrue_or_nil e
  | true=>exact e
theorem pw_and (ha:PT X a tA) (hb:PW X (.BoolOp .And (b::rest) pos) tB'):PW X (.BoolOp .And (a::b::rest) pos) (tAnd tA tB'):=by
  intro wh pins s σ H Q I h
  refine isTrue_and (thn (ha pins s σ H _ I h) fun c s1 ⟨H1,I1,q1⟩ => ?_)
  cases c with
  | true=>exact hb wh pins s1 σ H1 Q I1 q1
  | false=>exact ⟨H1,I1,q1⟩
theorem pw_or (ha:PT X a tA) (hb:PW X (.BoolOp .Or (b::rest) pos) tB'):PW X (.BoolOp .Or (a::b::rest) pos) (tOr tA tB'):=by
  intro wh pins s σ H Q I h
  refine isTrue_or (thn (ha pins s σ H _ I h) fun c s1 ⟨H1,I1,q1⟩ => ?_)
  cases c with
  | true=>exact ⟨H1,I1,q1⟩
  | false=>exact hb wh pins s1 σ H1 Q I1 q1
theorem pt_not (ha:PT X a tA):PT X (.UnaryOp .Not a pos) (tNot tA):=by
  intro pins s σ H Q I h
  exact isTrue_not (ha pins s σ H (fun c H1=>Q (!c) H1) I h)

def tAndV (ta tb:TE):TE:=fun σ H Q=>ta σ H fun x H1=>∃ c,x=.bl c∧if c=true then tb σ H1 Q else Q (.bl false) H1
def tNotV (ta:TE):TE:=fun σ H Q=>ta σ H fun x H1=>∃ c,x=.bl c∧Q (.bl (!c)) H1
theorem pe_one {op} {t:TE} (h:PE X a t):PE X (.BoolOp op [a] pos) t:=fun pins s σ H Q I hw=>BoolOp_one (h pins s σ H Q I hw)
theorem pe_and (ha:PE X a ta) (hb:PE X (.BoolOp .And (b::rest) pos) tb):PE X (.BoolOp .And (a::b::rest) pos) (tAndV ta tb):=by
  intro pins s σ H Q I h
  refine BoolOp_and (thn (ha pins s σ H _ I h) fun v s1 ⟨x,H1,I1,r1,q1⟩ => ?_)
  obtain ⟨c,rfl,q1⟩:=q1
  cases r1
  refine wpAny_truthy_bool ?_
  cases c with
  | true=>exact hb pins s1 σ H1 Q I1 q1
  | false=>exact ⟨.bl false,H1,I1,rfl,q1⟩
theorem pe_not (ha:PE X a ta):PE X (.UnaryOp .Not a pos) (tNotV ta):=by
  intro pins s σ H Q I h
  refine UnaryOp_ (thn (ha pins s σ H _ I h) fun v s1 ⟨x,H1,I1,r1,q1⟩ => ?_)
  obtain ⟨c,rfl,q1⟩:=q1
  cases r1
  exact not_of (wpAny_truthy_bool ⟨.bl (!c),H1,I1,rfl,q1⟩)

end
end L2

namespace L2
open PySem PySem.Spec PyProof.Rows


def SqL (K:PySem.W.Frag) (H:Hp) (a:Addr) (xs:List V):Prop :=
  Rd H a (.lst xs) ∨
    ∃ (o:Obj) (its:Array Value) (n:Nat),K.lookup a=some o∧o.cls=.type "list" ∧ o.dict=none∧o.data=.seq its n∧its.size≤sizeLine∧Vals xs its.toList
def SqT (K:PySem.W.Frag) (H:Hp) (a:Addr) (xs:List V):Prop :=
  Rd H a (.tup xs) ∨
    ∃ (o:Obj) (its:Array Value) (n:Nat),K.lookup a=some o∧o.cls=.type "tuple" ∧ o.data=.seq its n∧its.size≤sizeLine∧Vals xs its.toList
def absV:Value→Option V
  | .none=>some .non
  | .bool b=>some (.bl b)
  | .int i _=>some (.int i)
  | .str x _=>some (.str x)
  | .bytes b _=>some (.byt b)
  | .float b _=>some (.flt b)
  | .ref a=>some (.ref a)
  | .type n=>some (.ty n)
  | _=>none
theorem RelV.abs {x:V} {u:Value} (r:RelV x u):absV u=some x:=by
  cases x with
  | non=>cases r; rfl
  | bl _=>cases r; rfl
  | int _=>obtain ⟨t,rfl⟩:=r; rfl
  | str _=>obtain ⟨t,rfl⟩:=r; rfl
  | byt _=>obtain ⟨t,rfl⟩:=r; rfl
  | flt _=>obtain ⟨t,rfl⟩:=r; rfl
  | ref _=>cases r; rfl
  | ty _=>cases r; rfl
theorem RelV.inj {x y:V} {u:Value} (r:RelV x u) (q:RelV y u):x=y:=Option.some.inj (r.abs.symm.trans q.abs)
theorem Vals.inj:∀ {xs ys:List V} {us:List Value},Vals xs us→Vals ys us→xs=ys
  | _,_,_,.nil,.nil=>rfl
  | _,_,_,.cons r t,.cons r' t'=>by rw [r.inj r',Vals.inj t t']
section
variable {X:Cx} {pins:List (Addr × Obj)} {σ:St} {H:Hp} {s:Shared} {a:Addr} {xs ys:List V}
theorem SqL.of {K:PySem.W.Frag} (h:H a=some (.lst xs)):SqL K H a xs:=.inl (.inl h)
theorem SqT.of {K:PySem.W.Frag} (h:H a=some (.tup xs)):SqT K H a xs:=.inl (.inl h)
theorem Inv.list (I:Inv X pins σ H s) (h:SqL X.K H a xs):∃ its:List Value,Vals xs its∧PlainL s.heap a its.toArray∧xs.length≤sizeLine:=by
  rcases h with h | ⟨o,its,n,hk,hc,hd,hs,hz,r⟩
  · obtain ⟨z,its,n,r,e⟩:=h.ok I.hok
    exact ⟨its,r,⟨_,n,e,rfl,rfl,rfl⟩,z⟩
  · refine ⟨its.toList,r,⟨o,n,I.kIn a o hk,hc,hd,by simpa using hs⟩,?_⟩
    have e:=r.length
    simp only [Array.length_toList] at e
    omega
theorem Inv.tuple (I:Inv X pins σ H s) (h:SqT X.K H a xs):∃ its:List Value,Vals xs its∧IsTup s.heap a its.toArray∧xs.length≤sizeLine:=by
  rcases h with h | ⟨o,its,n,hk,hc,hs,hz,r⟩
  · obtain ⟨z,its,r,p⟩:=h.ok I.hok
    exact ⟨its,r,p,z⟩
  · refine ⟨its.toList,r,⟨o,I.kIn a o hk,hc,n,by simpa using hs⟩,?_⟩
    have e:=r.length
    simp only [Array.length_toList] at e
    omega
theorem Inv.list_inj (I:Inv X pins σ H s) (h:SqL X.K H a xs) (h':SqL X.K H a ys):xs=ys:=by
  obtain ⟨its,r,⟨o,n,e,_,_,d⟩,_⟩:=I.list h
  obtain ⟨its',r',⟨o',n',e',_,_,d'⟩,_⟩:=I.list h'
  rw [e] at e'; cases e'
  rw [d] at d'
  injection d' with d1 _
  have:its=its':=by simpa using congrArg Array.toList d1
  subst this
  exact r.inj r'
theorem Inv.tuple_inj (I:Inv X pins σ H s) (h:SqT X.K H a xs) (h':SqT X.K H a ys):xs=ys:=by
  obtain ⟨its,r,⟨o,e,_,n,d⟩,_⟩:=I.tuple h
  obtain ⟨its',r',⟨o',e',_,n',d'⟩,_⟩:=I.tuple h'
  rw [e] at e'; cases e'
  rw [d] at d'
  injection d' with d1 _
  have:its=its':=by simpa using congrArg Array.toList d1
  subst this
  exact r.inj r'
end


abbrev Cx.wish (X:Cx) (E:Value→Shared→Prop):Cx:={ X with xe:=E }

abbrev Cx.nox (X:Cx):Cx:=X.wish fun _ _=>False
theorem Cx.Ok.wish {X:Cx} (ok:X.Ok) (E:Value→Shared→Prop):(X.wish E).Ok :=
  ⟨ok.mod,ok.kind,ok.glob,ok.blt,ok.above,ok.inj,ok.has,ok.cab,ok.hd,ok.frames,ok.stk,ok.exf,ok.bs,ok.bsz,ok.noex,ok.exfs,ok.funs,ok.frf⟩
theorem Cx.Ok.unwish {X:Cx} {E:Value→Shared→Prop} (ok:(X.wish E).Ok):X.Ok :=
  ⟨ok.mod,ok.kind,ok.glob,ok.blt,ok.above,ok.inj,ok.has,ok.cab,ok.hd,ok.frames,ok.stk,ok.exf,ok.bs,ok.bsz,ok.noex,ok.exfs,ok.funs,ok.frf⟩
section
variable {X:Cx} {pins:List (Addr × Obj)} {σ:St} {H:Hp} {s:Shared} {E:Value→Shared→Prop}
theorem Inv.wish (I:Inv X pins σ H s) (E:Value→Shared→Prop):Inv (X.wish E) pins σ H s:=⟨I.ok.wish E,I.os,I.bare,I.base,I.loc,I.cell,I.free,I.freeC,I.pin,I.hok,I.len⟩
theorem Inv.unwish (I:Inv (X.wish E) pins σ H s):Inv X pins σ H s:=⟨I.ok.unwish,I.os,I.bare,I.base,I.loc,I.cell,I.free,I.freeC,I.pin,I.hok,I.len⟩
theorem SP.unwish {D:Ends} {f:Flow} {s':Shared} (h:SP (X.wish E) pins D f s'):SP X pins D f s':=by
  cases f with
  | next=>obtain ⟨σ',H',I,q⟩:=h; exact ⟨σ',H',I.unwish,q⟩
  | brk=>obtain ⟨σ',H',I,q⟩:=h; exact ⟨σ',H',I.unwish,q⟩
  | cont=>obtain ⟨σ',H',I,q⟩:=h; exact ⟨σ',H',I.unwish,q⟩
  | ret u=>obtain ⟨v,σ',H',I,r,q⟩:=h; exact ⟨v,σ',H',I.unwish,r,q⟩
theorem PSs.nox {st:List Stmt} {t:TS} (h:PSs X.nox st t):PSs X st t:=fun pins s σ H D I hw =>
  wpAny_mono (h pins s σ H D (I.wish _) hw) (fun _ _ q=>q.unwish) fun _ _ z=>False.elim z
end


section
variable {X:Cx} {st:Stmt} {rest:List Stmt} {t u:TS} {e:Expr} {te:TE} {pos:Pos}
def tNext:TS:=fun D σ H=>D.nx σ H
def tSeq (t u:TS):TS:=fun D σ H=>t { D with nx:=u D } σ H
theorem pss_nil:PSs X [] tNext:=fun _ _ σ H _ I h=>wpAny_execs_nil ⟨σ,H,I,h⟩
theorem pss_cons (h1:PS X st t) (h2:PSs X rest u):PSs X (st::rest) (tSeq t u):=by
  intro pins s σ H D I h
  refine wpAny_execs_cons (thn (h1 pins s σ H { D with nx:=u D } I h) fun f s1 q => ?_)
  cases f with
  | next =>
    obtain ⟨σ',H',I',q⟩:=q
    exact h2 pins s1 σ' H' D I' q
  | ret v=>exact q
  | brk=>exact q
  | cont=>exact q
theorem pss_one (h1:PS X st t):PSs X [st] t:=by
  intro pins s σ H D I h
  refine wpAny_execs_cons (thn (h1 pins s σ H D I h) fun f s1 q => ?_)
  cases f with
  | next=>exact wpAny_execs_nil q
  | ret v=>exact q
  | brk=>exact q
  | cont=>exact q
theorem Inv.quiet {pins:List (Addr × Obj)} {σ:St} {H:Hp} {s:Shared} (I:Inv X pins σ H s):interactive X.env=false:=by simp [interactive,I.ok.kind]

def tDrop (te:TE):TS:=fun D σ H=>te σ H fun _ H1=>D.nx σ H1
theorem ps_expr (he:PE X e te) (hs:swapsWith e none pos.line X.env=pure false:=by rfl):PS X (.Expr e pos) (tDrop te):=by
  intro pins s σ H D I h
  exact wpAny_Expr_any (thn (he pins s σ H _ I h) fun v s1 ⟨x,H1,I1,r1,q1⟩=>⟨σ,H1,I1,q1⟩) I.quiet hs
def tRet (te:TE):TS:=fun D σ H=>te σ H D.rt
theorem ps_ret (he:PE X e te):PS X (.Return (some e) pos) (tRet te):=by
  intro pins s σ H D I h
  exact wpAny_Return_some (thn (he pins s σ H _ I h) fun v s1 ⟨x,H1,I1,r1,q1⟩=>⟨x,σ,H1,I1,r1,q1⟩)
def tIfS (c:TT) (t u:TS):TS:=fun D σ H=>c σ H fun b H1=>if b=true then t D σ H1 else u D σ H1
theorem ps_if {c:Expr} {a b:List Stmt} {tc:TT} (hc:PT X c tc) (ha:PSs X a t) (hb:PSs X b u):PS X (.If c a b pos) (tIfS tc t u):=by
  intro pins s σ H D I h
  refine wpAny_If (thn (hc pins s σ H _ I h) fun d s1 ⟨H1,I1,q1⟩ => ?_)
  cases d with
  | true=>exact ha pins s1 σ H1 D I1 q1
  | false=>exact hb pins s1 σ H1 D I1 q1

def tNever:TS:=fun _ _ _=>False
theorem ps_never:PS X st tNever:=fun _ _ _ _ _ _ h=>h.elim
end


abbrev TG:=V→St→Hp→(St→Hp→Prop)→Prop
abbrev TGs:=List V→St→Hp→(St→Hp→Prop)→Prop
def PG (X:Cx) (target:Expr) (t:TG):Prop :=
  ∀ (pins:List (Addr × Obj)) (s:Shared) (σ:St) (H:Hp) (v:V) (u:Value) (Q:St→Hp→Prop),Inv X pins σ H s→RelV v u→t v σ H Q →
    wpAny (model X.prog X.w) X.A (assign target X.env u) (fun _ s'=>∃ σ' H',Inv X pins σ' H' s'∧Q σ' H') X.xe s

def PGs (X:Cx) (ts:List Expr) (t:TGs):Prop :=
  ∀ (pins:List (Addr × Obj)) (s:Shared) (σ:St) (H:Hp) (vs:List V) (us:List Value) (Q:St→Hp→Prop),Inv X pins σ H s→Vals vs us→t vs σ H Q →
    wpAny (model X.prog X.w) X.A (assignInOrder ((assignEach ts X.env).map (·.2)) us) (fun _ s'=>∃ σ' H',Inv X pins σ' H' s'∧Q σ' H') X.xe s

section
variable {X:Cx} {pos:Pos}
def gName (i:Nat):TG:=fun v σ H Q=>Q (σ.set i (some v)) H
theorem pg_name {i:Nat} {x:Str} (hN:X.N.Nodup) (hi:X.N[i]? = some x) (hx:Loc X.env.scope x) (hf:X.fn x=true∨X.env.scope.names.lookup x=some .local:=by first | exact .inl rfl | exact .inr rfl | assumption):PG X (.Name x pos) (gName i):=by
  intro pins s σ H v u Q I r h
  exact wpAny_assign_Name (store_ok I hN hi hx r (fun s' I'=>⟨_,H,I',h⟩) hf)
def gNil:TGs:=fun vs σ H Q=>vs=[]∧Q σ H
def gCons (t:TG) (u:TGs):TGs:=fun vs σ H Q=>∃ v r,vs=v::r∧t v σ H fun σ' H'=>u r σ' H' Q
theorem pgs_nil:PGs X [] gNil:=by
  intro pins s σ H vs us Q I r h
  obtain ⟨e,h⟩:=h
  subst e
  cases r
  exact assignInOrder_nil ⟨σ,H,I,h⟩
theorem pgs_cons {e:Expr} {es:List Expr} {t:TG} {u:TGs} (h1:PG X e t) (h2:PGs X es u)
    (hs:(assignEach (e::es) X.env).map (·.2)=assign e X.env::(assignEach es X.env).map (·.2):=by rfl):PGs X (e::es) (gCons t u):=by
  intro pins s σ H vs us Q I r h
  obtain ⟨v,vr,e1,h⟩:=h
  subst e1
  cases r with
  | cons r rr =>
    rw [hs]
    refine assignInOrder_cons (thn (h1 pins s σ H _ _ _ I r h) fun _ s1 ⟨σ1,H1,I1,q1⟩ => ?_)
    exact h2 pins s1 σ1 H1 _ _ Q I1 rr q1

def gTup (K:PySem.W.Frag) (n:Nat) (t:TGs):TG:=fun v σ H Q=>∃ a xs,v=.ref a∧SqT K H a xs∧xs.length=n∧t xs σ H Q
theorem pg_tup {es:List Expr} {k:Nat} {t:TGs} {n:Nat} (hc:X.calm=true) (h:PGs X es t)
    (hn:(assignEach es X.env).length=n:=by rfl) (hst:(assignEach es X.env).findIdx? (·.1)=none:=by rfl):PG X (.Tuple es k pos) (gTup X.K n t):=by
  intro pins s σ H v u Q I r hw
  obtain ⟨a,xs,e1,hq,hl,hw⟩:=hw
  subst e1
  cases r
  obtain ⟨its,rv,ht,hz⟩:=I.tuple hq
  refine assign_Tuple_tuple (I.ok.hd hc) ht (by simp [hn,← hl,rv.length]) hst fun h' hx => ?_
  have I1:Inv X pins σ H { s with heap:=h' }:=I.kept (t':=s.toks) fun b o e=>hx b o (Nat.ne_of_lt (Heap.lt_size e)) e
  exact h pins _ σ H xs _ Q I1 (by simpa using rv) hw

def tAsg (te:TE) (g:TG):TS:=fun D σ H=>te σ H fun x H1=>g x σ H1 D.nx
theorem ps_asg {tg e:Expr} {te:TE} {g:TG} (he:PE X e te) (hg:PG X tg g) (hs:swapsWithSole [tg] e pos.line X.env=pure false:=by rfl) (hw:swappedStores [tg] e X.env=pure none:=by rfl)
    (h1:(assignEach [tg] X.env).map (·.2)=[assign tg X.env]:=by rfl):PS X (.Assign [tg] e pos) (tAsg te g):=by
  intro pins s σ H D I h
  refine wpAny_Assign_stores (thn (he pins s σ H _ I h) fun v s1 ⟨x,H1,I1,r1,q1⟩ => ?_) hs hw
  rw [h1]
  exact thn (hg pins s1 σ H1 x v _ I1 r1 q1) fun _ s2 q=>q

theorem ps_set {i:Nat} {x:Str} {e:Expr} {te:TE} {pos':Pos} (hN:X.N.Nodup) (hi:X.N[i]? = some x) (hx:Loc X.env.scope x) (he:PE X e te) (hs:swapsWith e (some (.Name x pos')) pos.line X.env=pure false:=by rfl) (hf:X.fn x=true∨X.env.scope.names.lookup x=some .local:=by first | exact .inl rfl | exact .inr rfl | assumption) :
    PS X (.Assign [.Name x pos'] e pos) (tAsg te (gName i)):=by
  intro pins s σ H D I h
  refine wpAny_Assign_Name (thn (he pins s σ H _ I h) fun v s1 ⟨y,H1,I1,r1,q1⟩ => ?_) hs
  exact store_ok I1 hN hi hx r1 (fun s2 I2=>⟨_,H1,I2,q1⟩) hf

end


section
variable {X:Cx} {pos:Pos}

def tWhile (c:TT) (tb:TS):TS:=fun D σ H=>∃ W:Nat→St→Hp→Prop,(∃ m,W m σ H)∧∀ m σ H,W m σ H →
  c σ H fun b H1=>if b=true then ∃ N:St→Hp→Prop,(∀ σ' H',N σ' H'→∃ m',m' < m∧W m' σ' H')∧tb { D with nx:=N,ct:=N,bk:=D.nx } σ H1 else D.nx σ H1
theorem ps_while {c:Expr} {body:List Stmt} {tc:TT} {tb:TS} (hp:PassesOwn (model X.prog X.w) X.A X.env X.xe) (hc:PT X c tc) (hb:PSs X body tb):PS X (.While c body [] pos) (tWhile tc tb):=by
  intro pins s σ H D I h
  obtain ⟨W,⟨m0,w0⟩,turn⟩:=h
  refine wpAny_While (codeAny_whileLoop (fun n s'=>∃ σ' H',Inv X pins σ' H' s'∧W n σ' H') ?_ m0 ⟨σ,H,I,w0⟩)
  rintro n s1 ⟨σ1,H1,I1,w1⟩
  refine wpAny_passesOwn hp (thn (hc pins s1 σ1 H1 _ I1 (turn n σ1 H1 w1)) fun b s2 ⟨H2,I2,q2⟩ => ?_)
  cases b with
  | true =>
    obtain ⟨N,hN,q2⟩:=q2
    rw [if_pos rfl]
    refine wpAny_passesOwn hp (thn (hb pins s2 σ1 H2 _ I2 q2) fun f s3 q3 => ?_)
    cases f with
    | next =>
      obtain ⟨σ3,H3,I3,n3⟩:=q3
      obtain ⟨m',hm,w3⟩:=hN σ3 H3 n3
      exact ⟨m',hm,σ3,H3,I3,w3⟩
    | cont =>
      obtain ⟨σ3,H3,I3,n3⟩:=q3
      obtain ⟨m',hm,w3⟩:=hN σ3 H3 n3
      exact ⟨m',hm,σ3,H3,I3,w3⟩
    | brk=>exact q3
    | ret v=>exact q3
  | false =>
    rw [if_neg Bool.false_ne_true]
    exact wpAny_execs_nil ⟨σ1,H2,I2,q2⟩
end



structure It where
  go:Nat→Hp→Prop
  yld:Nat→Hp→V→Hp→Prop
  stop:Nat→Hp→Prop

def FpOk (X:Cx) (pins:List (Addr × Obj)) (H:Hp) (b:Addr):Prop :=
  H b=none∧b≠X.env.locals∧b∉X.fs∧(b∈X.ex∨X.s₀.heap.objs.size≤b)∧(∀ x c,X.env.cells.lookup x=some c→c≠b)∧∀ p∈X.pn++pins,p.1≠b
theorem Inv.fpOk {X:Cx} {pins:List (Addr × Obj)} {σ:St} {H H':Hp} {s:Shared} {b:Addr} (I:Inv X pins σ H s) (hb:s.heap.objs.size≤b) (hn:H' b=none):FpOk X pins H' b:=by
  refine ⟨hn,Nat.ne_of_gt (Nat.lt_of_lt_of_le I.lt hb),I.nofs hb,.inr (Nat.le_trans I.sz hb),fun x c e z => ?_,fun p hp z => ?_⟩
  · obtain ⟨v,q⟩:=I.cell x c e
    exact absurd (Nat.lt_of_lt_of_le q.lt (by rw [z]; exact hb)) (Nat.lt_irrefl _)
  · exact absurd (Nat.lt_of_lt_of_le (Heap.lt_size (I.pin p hp).1) (by rw [z]; exact hb)) (Nat.lt_irrefl _)
structure Turn (P:Program) (w:World) (K:PySem.W.Frag) (tg:Expr) (J:It) (fp:List Addr) (it:Addr) (tn:Nat→Heap→Prop):Prop where
  mem:it∈fp
  obj:∀ i h,tn i h→∀ b∈fp,∃ o,h.get? b=some o∧∀ v,o.data≠.cell v
  keep:∀ i h h',tn i h→(∀ b∈fp,∀ o,h.get? b=some o→h'.get? b=some o)→tn i h'
  item:∀ (X:Cx),X.prog=P→X.w=w→X.K=K→X.calm=true→∀ (i:Nat) (pins:List (Addr × Obj)) (s:Shared) (σ:St) (H:Hp) (E:Value→Shared→Prop),Inv X pins σ H s→(∀ b∈fp,FpOk X pins H b)→tn i s.heap→J.go i H →
    wpAny (model P w) X.A (pyNext (.ref it)) (fun r s1=>∃ u,r=some u ∧
      wpAny (model P w) X.A (letOwnedTupleGo tg (.ref it) u) (fun _ s2=>∃ x H',Inv X pins σ H' s2∧RelV x u∧J.yld i H x H'∧tn (i + 1) s2.heap∧∀ b∈fp,H' b=none) E s1) E s
  done:∀ (X:Cx),X.prog=P→X.w=w→X.K=K→X.calm=true→∀ (i:Nat) (pins:List (Addr × Obj)) (s:Shared) (σ:St) (H:Hp) (E:Value→Shared→Prop),Inv X pins σ H s→(∀ b∈fp,FpOk X pins H b)→tn i s.heap→J.stop i H →
    wpAny (model P w) X.A (pyNext (.ref it)) (fun r s1=>r=none∧Inv X pins σ H s1) E s
  self:∀ (A:Around) (i:Nat) (s:Shared) (Q:Value→Shared→Prop) (E:Value→Shared→Prop),tn i s.heap→Q (.ref it) s→wpAny (model P w) A (pyIter (.ref it)) Q E s
abbrev TI:=St→Hp→(It→Hp→Prop)→Prop

def PIE (X:Cx) (pins:List (Addr × Obj)) (σ:St) (tg:Expr) (R:It→Hp→Prop) (itv:Value) (s2:Shared):Prop :=
  ∃ (it:Addr) (fp:List Addr) (tn:Nat→Heap→Prop) (J:It) (H':Hp),itv=.ref it∧Inv X pins σ H' s2∧Turn X.prog X.w X.K tg J fp it tn∧tn 0 s2.heap∧(∀ b∈fp,FpOk X pins H' b)∧R J H'
def PI (X:Cx) (tg iter:Expr) (wi:TI):Prop :=
  ∀ (pins:List (Addr × Obj)) (s:Shared) (σ:St) (H:Hp) (R:It→Hp→Prop),Inv X pins σ H s→wi σ H R →
    wpAny (model X.prog X.w) X.A (eval iter X.env) (fun v s1=>wpAny (model X.prog X.w) X.A (pyIter v) (PIE X pins σ tg R) X.xe s1) X.xe s


theorem go_of {M:Model} {A:Around} {E:Value→Shared→Prop} {s:Shared} {tg:Expr} {it:Addr} {u:Value} {o:Obj} {n:String} {vs:Array Value} {Q:Unit→Shared→Prop} (ho:s.heap.get? it=some o) (hc:o.cls=.type n) (hd:o.data=.fields vs)
    (hn:["enumerate","zip","dict_itemiterator","dict_reverseitemiterator","odict_iterator","itertools.zip_longest","itertools.pairwise"].contains n=false) (hQ:Q () s):wpAny M A (letOwnedTupleGo tg (.ref it) u) Q E s:=by
  unfold letOwnedTupleGo
  cases tg <;> first
    | exact wpAny_pure hQ
    | (cases u <;> first
        | exact wpAny_pure hQ
        | (refine wpAny_bind (wpAny_load ho ?_)
           rw [hc,hd]
           show wpAny M A (if (["enumerate","zip","dict_itemiterator","dict_reverseitemiterator","odict_iterator","itertools.zip_longest","itertools.pairwise"].contains n && vs[0]? == some (rawInt _))=true then _ else _) Q E s
           rw [if_neg (by intro h; rw [hn,Bool.false_and] at h; cases h)]
           exact wpAny_pure hQ))


def Itl (K:PySem.W.Frag) (a:Addr):It :=
  ⟨fun i H=>∃ xs x,SqL K H a xs∧xs[i]? = some x,fun i H x H'=>H'=H∧∀ xs,SqL K H a xs→xs[i]? = some x,fun i H=>∃ xs,SqL K H a xs∧xs.length≤i⟩
def Itt (K:PySem.W.Frag) (a:Addr):It :=
  ⟨fun i H=>∃ xs x,SqT K H a xs∧xs[i]? = some x,fun i H x H'=>H'=H∧∀ xs,SqT K H a xs→xs[i]? = some x,fun i H=>∃ xs,SqT K H a xs∧xs.length≤i⟩

def Itr (lo:Int) (n:Nat):It:=⟨fun i _=>i < n,fun i H x H'=>H'=H∧x=.int (lo + i),fun i _=>n≤i⟩
theorem turn_list {P:Program} {w:World} {K:PySem.W.Frag} {tg:Expr} (a it:Addr):Turn P w K tg (Itl K a) [it] it (fun i h=>h.IsListIter it a i) where
  mem:=by simp
  obj:=fun i h st b hb=>by
    have e:b=it:=by simpa using hb
    subst e
    obtain ⟨o,e,c,d⟩:=st
    exact ⟨o,e,fun v z=>by rw [d] at z; cases z⟩
  keep:=fun i h h' st k=>st.at fun o e=>k it (by simp) o e
  item:=by
    intro X hP hw hK hc i pins s σ H E I hf st hg
    subst hP hw hK
    obtain ⟨xs,x,hq,hx⟩:=hg
    obtain ⟨its,rv,p,hz⟩:=I.list hq
    obtain ⟨u,hu,ru⟩:=rv.get hx
    obtain ⟨f0,f1,f2,f3,f4,f5⟩:=hf it (by simp)
    refine wpAny_pyNext_list_item st p.isList (x:=u) (by simpa using hu) fun h' st' sb => ?_
    have I1:Inv X pins σ H { s with heap:=h' }:=I.turned (t':=s.toks) (fun b o hb e=>(sb.2 b hb).trans e) f0 f1 f3 f4 f5
    obtain ⟨o,e,c,d⟩:=id st'
    exact ⟨u,rfl,go_of (s:={ s with heap:=h' }) e c d (by decide) ⟨x,H,I1,ru,⟨rfl,fun ys hy=>by rw [I.list_inj hy hq]; exact hx⟩,st',fun b hb=>(hf b hb).1⟩⟩
  done:=by
    intro X hP hw hK hc i pins s σ H E I hf st hg
    subst hP hw hK
    obtain ⟨xs,hq,hx⟩:=hg
    obtain ⟨its,rv,p,hz⟩:=I.list hq
    obtain ⟨f0,f1,f2,f3,f4,f5⟩:=hf it (by simp)
    have hl:=rv.length
    exact wpAny_pyNext_list_end (I.ok.hd hc) st p.isList (by simp; omega) fun h' eb=>⟨rfl,I.turned (t':=s.toks) (fun b o hb e=>eb b o hb e) f0 f1 f3 f4 f5⟩
  self:=fun _ _ _ _ _ st h=>wpAny_pyIter_listiter st h
theorem turn_tuple {P:Program} {w:World} {K:PySem.W.Frag} {tg:Expr} (a it:Addr):Turn P w K tg (Itt K a) [it] it (fun i h=>h.IsTupleIter it a i) where
  mem:=by simp
  obj:=fun i h st b hb=>by
    have e:b=it:=by simpa using hb
    subst e
    obtain ⟨o,e,c,d⟩:=st
    exact ⟨o,e,fun v z=>by rw [d] at z; cases z⟩
  keep:=fun i h h' st k=>st.at fun o e=>k it (by simp) o e
  item:=by
    intro X hP hw hK hc i pins s σ H E I hf st hg
    subst hP hw hK
    obtain ⟨xs,x,hq,hx⟩:=hg
    obtain ⟨its,rv,p,hz⟩:=I.tuple hq
    obtain ⟨u,hu,ru⟩:=rv.get hx
    obtain ⟨f0,f1,f2,f3,f4,f5⟩:=hf it (by simp)
    refine wpAny_pyNext_tuple_item st (show s.heap.IsTuple a its.toArray from p) (x:=u) (by simpa using hu) fun h' st' sb => ?_
    have I1:Inv X pins σ H { s with heap:=h' }:=I.turned (t':=s.toks) (fun b o hb e=>(sb.2 b hb).trans e) f0 f1 f3 f4 f5
    obtain ⟨o,e,c,d⟩:=id st'
    exact ⟨u,rfl,go_of (s:={ s with heap:=h' }) e c d (by decide) ⟨x,H,I1,ru,⟨rfl,fun ys hy=>by rw [I.tuple_inj hy hq]; exact hx⟩,st',fun b hb=>(hf b hb).1⟩⟩
  done:=by
    intro X hP hw hK hc i pins s σ H E I hf st hg
    subst hP hw hK
    obtain ⟨xs,hq,hx⟩:=hg
    obtain ⟨its,rv,p,hz⟩:=I.tuple hq
    obtain ⟨f0,f1,f2,f3,f4,f5⟩:=hf it (by simp)
    have hl:=rv.length
    exact wpAny_pyNext_tuple_end (I.ok.hd hc) st (show s.heap.IsTuple a its.toArray from p) (by simp; omega) fun h' eb=>⟨rfl,I.turned (t':=s.toks) (fun b o hb e=>eb b o hb e) f0 f1 f3 f4 f5⟩
  self:=fun _ _ _ _ _ st h=>wpAny_pyIter_tupleiter st h
theorem turn_range {P:Program} {w:World} {K:PySem.W.Frag} {tg:Expr} (it:Addr) (lo:Int) (n:Nat):Turn P w K tg (Itr lo n) [it] it (fun i h=>IsRangeIter h it (lo + (i:Nat) * 1) ((n:Int) - (i:Nat)) 1) where
  mem:=by simp
  obj:=fun i h st b hb=>by
    have e:b=it:=by simpa using hb
    subst e
    exact ⟨_,st,fun v z=>by
      have z':Data.fields _=Data.cell v:=z
      cases z'⟩
  keep:=fun i h h' st k=>k it (by simp) _ st
  item:=by
    intro X hP hw hK hc i pins s σ H E I hf st hg
    subst hP hw hK
    obtain ⟨f0,f1,f2,f3,f4,f5⟩:=hf it (by simp)
    have W:=Walks.range (prog:=X.prog) (w:=X.w) (I.ok.hd hc) it lo 1 n
    refine W.item i s _ _ hg st fun v h' tk hv st' kk => ?_
    obtain ⟨t,rfl⟩:=hv
    have I1:Inv X pins σ H { s with heap:=h',toks:=tk }:=I.turned (fun b o hb e=>kk b o (by simpa using hb) e) f0 f1 f3 f4 f5
    refine ⟨_,rfl,go_of (s:={ s with heap:=h',toks:=tk }) (n := "range_iterator") st' rfl rfl (by decide) ⟨.int (lo + i),H,I1,⟨t,?_⟩,⟨rfl,rfl⟩,st',fun b hb=>(hf b hb).1⟩⟩
    rw [Int.mul_one]
  done:=by
    intro X hP hw hK hc i pins s σ H E I hf st hg
    subst hP hw hK
    obtain ⟨f0,f1,f2,f3,f4,f5⟩:=hf it (by simp)
    exact wpAny_pyNext_range_end (I.ok.hd hc) st (by have:n≤i:=hg; omega) fun h' eb=>⟨rfl,I.turned (t':=s.toks) (fun b o hb e=>eb b o hb e) f0 f1 f3 f4 f5⟩
  self:=fun _ _ _ _ _ st h=>wpAny_pyIter_rangeiter st h
end L2

namespace L2
open PySem PySem.Spec PyProof.Rows
section
variable {X:Cx} {tg:Expr}
def iList (K:PySem.W.Frag) (tl:TE):TI:=fun σ H R=>tl σ H fun x H1=>∃ a,x=.ref a∧(∃ xs,SqL K H1 a xs)∧R (Itl K a) H1
def iTup (K:PySem.W.Frag) (tl:TE):TI:=fun σ H R=>tl σ H fun x H1=>∃ a,x=.ref a∧(∃ xs,SqT K H1 a xs)∧R (Itt K a) H1
theorem pi_list {l:Expr} {tl:TE} (hl:PE X l tl):PI X tg l (iList X.K tl):=by
  intro pins s σ H R I h
  refine thn (hl pins s σ H _ I h) fun v s1 ⟨x,H1,I1,r1,q1⟩ => ?_
  obtain ⟨a,e,⟨xs,hq⟩,q⟩:=q1
  subst e
  cases r1
  obtain ⟨its,rv,p,hz⟩:=I1.list hq
  refine wpAny_pyIter_list p.isList ?_
  refine ⟨s1.heap.objs.size,[s1.heap.objs.size],_,_,H1,rfl,I1.kept (t':=s1.toks) fun b o e=>Heap.get?_push_of_some _ e,turn_list a _,⟨_,Heap.get?_push_size _ rfl,rfl,rfl⟩,fun b hb => ?_,q⟩
  have e:b=s1.heap.objs.size:=by simpa using hb
  subst e
  exact I1.fpOk (Nat.le_refl _) (I1.hok.fresh (Nat.le_refl _))
theorem pi_tup {l:Expr} {tl:TE} (hl:PE X l tl):PI X tg l (iTup X.K tl):=by
  intro pins s σ H R I h
  refine thn (hl pins s σ H _ I h) fun v s1 ⟨x,H1,I1,r1,q1⟩ => ?_
  obtain ⟨a,e,⟨xs,hq⟩,q⟩:=q1
  subst e
  cases r1
  obtain ⟨its,rv,p,hz⟩:=I1.tuple hq
  refine wpAny_pyIter_tuple (show s1.heap.IsTuple a its.toArray from p) ?_
  refine ⟨s1.heap.objs.size,[s1.heap.objs.size],_,_,H1,rfl,I1.kept (t':=s1.toks) fun b o e=>Heap.get?_push_of_some _ e,turn_tuple a _,⟨_,Heap.get?_push_size _ rfl,rfl,rfl⟩,fun b hb => ?_,q⟩
  have e:b=s1.heap.objs.size:=by simpa using hb
  subst e
  exact I1.fpOk (Nat.le_refl _) (I1.hok.fresh (Nat.le_refl _))

theorem range_it {pins:List (Addr × Obj)} {σ:St} {H:Hp} {s:Shared} {R:It→Hp→Prop} {E:Value→Shared→Prop} {lo hi:Int} {t u v:Tok} {tk:Nat} (I:Inv X pins σ H s) (h1:-(2 ^ 62)≤lo) (h2:lo < 2 ^ 62) (h3:-(2 ^ 62)≤hi) (h4:hi < 2 ^ 62)
    (q:R (Itr lo (hi - lo).toNat) H):wpAny (model X.prog X.w) X.A (pyIter (.ref s.heap.objs.size)) (PIE X pins σ tg R) E { s with heap:=s.heap.push { cls:=.type "range",data:=.fields #[.int lo t,.int hi u,.int 1 v] },toks:=tk }:=by
  refine wpAny_pyIter_range (IsRange.new ..) (small_one h1 h2 h3 h4) ?_
  have I1:Inv X pins σ H { s with heap:=s.heap.push { cls:=.type "range",data:=.fields #[.int lo t,.int hi u,.int 1 v] },toks:=tk }:=I.kept fun b o e=>Heap.get?_push_of_some _ e
  refine ⟨(s.heap.push { cls:=.type "range",data:=.fields #[.int lo t,.int hi u,.int 1 v] }).objs.size,[(s.heap.push { cls:=.type "range",data:=.fields #[.int lo t,.int hi u,.int 1 v] }).objs.size],_,_,H,rfl,
    I1.kept (t':=tk) fun b o e=>Heap.get?_push_of_some _ e,turn_range _ lo (hi - lo).toNat,?_,fun b hb => ?_,q⟩
  · have e1:lo + ((0:Nat):Int) * 1=lo:=by simp
    have e2:(((hi - lo).toNat:Nat):Int) - ((0:Nat):Int)=Builtin.Range.rangeSize lo hi 1:=by rw [rangeSize_one]; split <;> omega
    show IsRangeIter _ _ (lo + ((0:Nat):Int) * 1) ((((hi - lo).toNat:Nat):Int) - ((0:Nat):Int)) 1
    rw [e1,e2]
    exact Heap.get?_push_size _ rfl
  · have e:b=(s.heap.push { cls:=.type "range",data:=.fields #[.int lo t,.int hi u,.int 1 v] }).objs.size:=by simpa using hb
    subst e
    exact I1.fpOk (Nat.le_refl _) (I1.hok.fresh (Nat.le_refl _))
def iRng1 (ta:TA):TI:=fun σ H R=>ta σ H fun vs H1=>∃ j:Int,vs=[.int j]∧-(2 ^ 62)≤j∧j < 2 ^ 62∧R (Itr 0 j.toNat) H1
def iRng2 (ta:TA):TI:=fun σ H R=>ta σ H fun vs H1=>∃ i j:Int,vs=[.int i,.int j]∧(-(2 ^ 62)≤i∧i < 2 ^ 62∧-(2 ^ 62)≤j∧j < 2 ^ 62)∧R (Itr i (j - i).toNat) H1
theorem pi_range1 {a:Expr} {ta:TA} {p pos:Pos} (hg:Gl X "range") (hm:X.mg "range" = none) (ha:PA X [a] ta) (hs:starEach [a] X.env=[(false,eval a X.env)]:=by rfl):PI X tg (.Call (.Name "range" p) [a] [] pos) (iRng1 ta):=by
  intro pins s σ H R I h
  refine Call_ (ld_blt I hg hm boot_range (PyProof.Rows.callWith_type1 (thn (ha pos pins s σ H _ I h) fun us s1 ⟨vs,H1,I1,r1,q1⟩ => ?_) hs rfl))
  obtain ⟨j,e,q1,q2,q⟩:=q1
  subst e
  cases r1 with
  | cons r rr =>
    cases rr
    obtain ⟨t,rfl⟩:=r
    exact call_range_1 (range_it I1 (by omega) (by omega) q1 q2 (by simpa using q))
theorem pi_range2 {a b:Expr} {ta:TA} {p pos:Pos} (hg:Gl X "range") (hm:X.mg "range" = none) (ha:PA X [a,b] ta) (hs:starEach [a,b] X.env=[(false,eval a X.env),(false,eval b X.env)]:=by rfl) (hs2:starEach [b] X.env=[(false,eval b X.env)]:=by rfl) :
    PI X tg (.Call (.Name "range" p) [a,b] [] pos) (iRng2 ta):=by
  intro pins s σ H R I h
  refine Call_ (ld_blt I hg hm boot_range (PyProof.Rows.callWith_type1 (thn (ha pos pins s σ H _ I h) fun us s1 ⟨vs,H1,I1,r1,q1⟩ => ?_) (by rw [hs,hs2]) (by rw [hs2]; rfl)))
  obtain ⟨i,j,e,⟨q1,q2,q3,q4⟩,q⟩:=q1
  subst e
  cases r1 with
  | cons r rr =>
    cases rr with
    | cons r' rr =>
      cases rr
      obtain ⟨t,rfl⟩:=r
      obtain ⟨t',rfl⟩:=r'
      exact call_range_2 (range_it I1 q1 q2 q3 q4 q)



def tFor (wi:TI) (g:TG) (tb:TS):TS:=fun D σ H=>wi σ H fun J H1=>∃ W:Nat→Nat→St→Hp→Prop,(∃ m,W 0 m σ H1)∧∀ i m σ H,W i m σ H →
  (J.stop i H∧D.nx σ H)∨(J.go i H∧∃ N:St→Hp→Prop,(∀ σ' H',N σ' H'→∃ m',m' < m∧W (i + 1) m' σ' H')∧∀ x H',J.yld i H x H'→g x σ H' fun σ2 H2=>tb { D with nx:=N,ct:=N,bk:=D.nx } σ2 H2)

def pinsAt (fp:List Addr) (h:Heap):List (Addr × Obj):=fp.filterMap fun b=>(h.get? b).map fun o=>(b,o)
theorem mem_pinsAt {fp:List Addr} {h:Heap} {b:Addr} {o:Obj} (hb:b∈fp) (e:h.get? b=some o):(b,o)∈pinsAt fp h:=List.mem_filterMap.mpr ⟨b,hb,by rw [e]; rfl⟩
theorem of_pinsAt {fp:List Addr} {h:Heap} {p:Addr × Obj} (hp:p∈pinsAt fp h):p.1∈fp∧h.get? p.1=some p.2:=by
  obtain ⟨b,hb,e⟩:=List.mem_filterMap.mp hp
  cases q:h.get? b with
  | none=>rw [q] at e; cases e
  | some o =>
    rw [q] at e
    have e':(b,o)=p:=Option.some.inj e
    subst e'
    exact ⟨hb,q⟩
theorem Inv.pinned {pins:List (Addr × Obj)} {σ:St} {H:Hp} {s:Shared} {fp:List Addr} (I:Inv X pins σ H s) (hf:∀ b∈fp,FpOk X pins H b) (ho:∀ b∈fp,∃ o,s.heap.get? b=some o∧∀ v,o.data≠.cell v):Inv X (pins++pinsAt fp s.heap) σ H s :=
  I.pins_of fun p hp=>(List.mem_append.mp hp).elim (fun z=>I.pin p (List.mem_append_right _ z)) fun z=>by
    obtain ⟨hb,e⟩:=of_pinsAt z
    obtain ⟨f0,f1,f2,_⟩:=hf p.1 hb
    obtain ⟨o,e',d⟩:=ho p.1 hb
    rw [e] at e'; cases e'
    exact ⟨e,f0,f1,f2,d⟩
theorem Inv.unpinned {pins pl:List (Addr × Obj)} {σ:St} {H:Hp} {s:Shared} (I:Inv X (pins++pl) σ H s):Inv X pins σ H s:=I.pins_of fun p hp=>I.pin p (List.mem_append_right _ (List.mem_append_left _ hp))
theorem ps_for {iter:Expr} {body:List Stmt} {wi:TI} {g:TG} {tb:TS} {pos:Pos} (hp:PassesOwn (model X.prog X.w) X.A X.env X.xe) (hc:X.calm=true) (hi:PI X tg iter wi) (hg:PG X tg g) (hb:PSs X body tb)
    (hs:∀ x,foldedSetIterable iter X.env x=pure x:=by intro _; rfl):PS X (.For tg iter body [] pos) (tFor wi g tb):=by
  intro pins s σ H D I h
  refine wpAny_For (thn (hi pins s σ H _ I h) fun v s1 h1=>thn h1 fun itv s2 h2 => ?_) hs
  obtain ⟨it,fp,tn,J,H2,e,I2,T,st2,f2,W,⟨m0,w0⟩,turn⟩:=h2
  subst e
  -- what stays true of the iterator's objects through the loop
  have stat:∀ {H':Hp},(∀ b∈fp,H' b=none)→∀ b∈fp,FpOk X pins H' b:=fun hn b hb=>⟨hn b hb,(f2 b hb).2⟩
  refine codeAny_forLoop_any (fun n s'=>∃ i σ' H',Inv X pins σ' H' s'∧tn i s'.heap∧(∀ b∈fp,H' b=none)∧W i n σ' H') ?_ m0 ⟨0,σ,H2,I2,st2,fun b hb=>(f2 b hb).1,w0⟩
  rintro n s3 ⟨i,σ3,H3,I3,st3,fr3,w3⟩
  rcases turn i n σ3 H3 w3 with ⟨stop,qn⟩ | ⟨go,N,hN,step⟩
  · refine wpAny_passesOwn hp (thn (T.done X rfl rfl rfl hc i pins s3 σ3 H3 X.xe I3 (stat fr3) st3 stop) fun r s4 ⟨hr,I4⟩ => ?_)
    subst hr
    exact wpAny_execs_nil ⟨σ3,H3,I4,qn⟩
  · refine wpAny_passesOwn hp (thn (T.item X rfl rfl rfl hc i pins s3 σ3 H3 X.xe I3 (stat fr3) st3 go) fun r s4 ⟨u,hr,h4⟩ => ?_)
    subst hr
    refine wpAny_passesOwn hp (thn h4 fun _ s5 ⟨x,H5,I5,r5,y5,st5,fr5⟩ => ?_)
    have I5':=I5.pinned (stat fr5) (T.obj _ _ st5)
    refine wpAny_passesOwn hp (thn (hg _ s5 σ3 H5 x u _ I5' r5 (step x H5 y5)) fun _ s6 ⟨σ6,H6,I6,q6⟩ => ?_)
    refine wpAny_passesOwn hp (thn (hb _ s6 σ6 H6 _ I6 q6) fun f s7 q7 => ?_)
    have again:∀ {σ7:St} {H7:Hp},Inv X (pins++pinsAt fp s5.heap) σ7 H7 s7→N σ7 H7→∃ m,m < n∧∃ i σ' H',Inv X pins σ' H' s7∧tn i s7.heap∧(∀ b∈fp,H' b=none)∧W i m σ' H':=fun {σ7 H7} I7 n7=>by
      obtain ⟨m',hm,w7⟩:=hN σ7 H7 n7
      refine ⟨m',hm,i + 1,σ7,H7,I7.unpinned,T.keep _ _ _ st5 fun b hb o e=>(I7.pin (b,o) (List.mem_append_right _ (List.mem_append_right _ (mem_pinsAt hb e)))).1,fun b hb => ?_,w7⟩
      obtain ⟨o,e,d⟩:=T.obj _ _ st5 b hb
      exact (I7.pin (b,o) (List.mem_append_right _ (List.mem_append_right _ (mem_pinsAt hb e)))).2.1
    cases f with
    | next=>obtain ⟨σ7,H7,I7,n7⟩:=q7; exact again I7 n7
    | cont=>obtain ⟨σ7,H7,I7,n7⟩:=q7; exact again I7 n7
    | brk=>obtain ⟨σ7,H7,I7,q7⟩:=q7; exact ⟨σ7,H7,I7.unpinned,q7⟩
    | ret v=>obtain ⟨x7,σ7,H7,I7,r7,q7⟩:=q7; exact ⟨x7,σ7,H7,I7.unpinned,r7,q7⟩
end



theorem for_list {K:PySem.W.Frag} {a:Addr} {xs:List V} {g:TG} {tb:TS} {D:Ends} {σ:St} {H:Hp} (Pv:Nat→St→Hp→Prop) (h0:Pv 0 σ H) (hl:∀ i σ H,i≤xs.length→Pv i σ H→SqL K H a xs)
    (hs:∀ i x σ H,xs[i]? = some x→Pv i σ H→g x σ H fun σ2 H2=>tb { D with nx:=Pv (i + 1),ct:=Pv (i + 1),bk:=D.nx } σ2 H2) (hd:∀ σ H,Pv xs.length σ H→D.nx σ H) :
    ∃ W:Nat→Nat→St→Hp→Prop,(∃ m,W 0 m σ H)∧∀ i m σ H,W i m σ H →
      ((Itl K a).stop i H∧D.nx σ H)∨((Itl K a).go i H∧∃ N:St→Hp→Prop,(∀ σ' H',N σ' H'→∃ m',m' < m∧W (i + 1) m' σ' H')∧∀ x H',(Itl K a).yld i H x H'→g x σ H' fun σ2 H2=>tb { D with nx:=N,ct:=N,bk:=D.nx } σ2 H2):=by
  refine ⟨fun i m σ H=>m=xs.length - i∧i≤xs.length∧Pv i σ H,⟨xs.length,by simp,Nat.zero_le _,h0⟩,?_⟩
  rintro i m σ H ⟨rfl,hi,p⟩
  have q:=hl i σ H hi p
  by_cases hlt:i < xs.length
  · refine .inr ⟨⟨xs,xs[i],q,by simp [hlt]⟩,Pv (i + 1),fun σ' H' p'=>⟨xs.length - (i + 1),by omega,rfl,hlt,p'⟩,fun x H' y => ?_⟩
    obtain ⟨e,y⟩:=y
    subst e
    exact hs i x σ _ (y xs q) p
  · have e:i=xs.length:=by omega
    subst e
    exact .inl ⟨⟨xs,q,Nat.le_refl _⟩,hd σ H p⟩
theorem for_tup {K:PySem.W.Frag} {a:Addr} {xs:List V} {g:TG} {tb:TS} {D:Ends} {σ:St} {H:Hp} (Pv:Nat→St→Hp→Prop) (h0:Pv 0 σ H) (hl:∀ i σ H,i≤xs.length→Pv i σ H→SqT K H a xs)
    (hs:∀ i x σ H,xs[i]? = some x→Pv i σ H→g x σ H fun σ2 H2=>tb { D with nx:=Pv (i + 1),ct:=Pv (i + 1),bk:=D.nx } σ2 H2) (hd:∀ σ H,Pv xs.length σ H→D.nx σ H) :
    ∃ W:Nat→Nat→St→Hp→Prop,(∃ m,W 0 m σ H)∧∀ i m σ H,W i m σ H →
      ((Itt K a).stop i H∧D.nx σ H)∨((Itt K a).go i H∧∃ N:St→Hp→Prop,(∀ σ' H',N σ' H'→∃ m',m' < m∧W (i + 1) m' σ' H')∧∀ x H',(Itt K a).yld i H x H'→g x σ H' fun σ2 H2=>tb { D with nx:=N,ct:=N,bk:=D.nx } σ2 H2):=by
  refine ⟨fun i m σ H=>m=xs.length - i∧i≤xs.length∧Pv i σ H,⟨xs.length,by simp,Nat.zero_le _,h0⟩,?_⟩
  rintro i m σ H ⟨rfl,hi,p⟩
  have q:=hl i σ H hi p
  by_cases hlt:i < xs.length
  · refine .inr ⟨⟨xs,xs[i],q,by simp [hlt]⟩,Pv (i + 1),fun σ' H' p'=>⟨xs.length - (i + 1),by omega,rfl,hlt,p'⟩,fun x H' y => ?_⟩
    obtain ⟨e,y⟩:=y
    subst e
    exact hs i x σ _ (y xs q) p
  · have e:i=xs.length:=by omega
    subst e
    exact .inl ⟨⟨xs,q,Nat.le_refl _⟩,hd σ H p⟩
theorem for_range {lo:Int} {n:Nat} {g:TG} {tb:TS} {D:Ends} {σ:St} {H:Hp} (Pv:Nat→St→Hp→Prop) (h0:Pv 0 σ H)
    (hs:∀ i σ H,i < n→Pv i σ H→g (.int (lo + i)) σ H fun σ2 H2=>tb { D with nx:=Pv (i + 1),ct:=Pv (i + 1),bk:=D.nx } σ2 H2) (hd:∀ σ H,Pv n σ H→D.nx σ H) :
    ∃ W:Nat→Nat→St→Hp→Prop,(∃ m,W 0 m σ H)∧∀ i m σ H,W i m σ H →
      ((Itr lo n).stop i H∧D.nx σ H)∨((Itr lo n).go i H∧∃ N:St→Hp→Prop,(∀ σ' H',N σ' H'→∃ m',m' < m∧W (i + 1) m' σ' H')∧∀ x H',(Itr lo n).yld i H x H'→g x σ H' fun σ2 H2=>tb { D with nx:=N,ct:=N,bk:=D.nx } σ2 H2):=by
  refine ⟨fun i m σ H=>m=n - i∧i≤n∧Pv i σ H,⟨n,by simp,Nat.zero_le _,h0⟩,?_⟩
  rintro i m σ H ⟨rfl,hi,p⟩
  by_cases hlt:i < n
  · refine .inr ⟨hlt,Pv (i + 1),fun σ' H' p'=>⟨n - (i + 1),by omega,rfl,hlt,p'⟩,fun x H' y => ?_⟩
    obtain ⟨e,y⟩:=y
    subst e y
    exact hs i σ _ hlt p
  · have e:i=n:=by omega
    subst e
    exact .inl ⟨Nat.le_refl _,hd σ H p⟩

theorem while_by {c:TT} {tb:TS} {D:Ends} {σ:St} {H:Hp} (Pv:St→Hp→Prop) (μ:St→Hp→Nat) (h0:Pv σ H)
    (hs:∀ σ H,Pv σ H→c σ H fun b H1=>if b=true then tb { D with nx:=fun σ' H'=>Pv σ' H'∧μ σ' H' < μ σ H,ct:=fun σ' H'=>Pv σ' H'∧μ σ' H' < μ σ H,bk:=D.nx } σ H1 else D.nx σ H1)
    (mono:∀ σ H Q Q',(∀ b H1,Q b H1→Q' b H1)→c σ H Q→c σ H Q'):tWhile c tb D σ H:=by
  refine ⟨fun m σ H=>m=μ σ H∧Pv σ H,⟨_,rfl,h0⟩,?_⟩
  rintro m σ H ⟨rfl,p⟩
  refine mono σ H _ _ (fun b H1 q => ?_) (hs σ H p)
  cases b with
  | true=>exact ⟨_,fun σ' H' ⟨p',l⟩=>⟨_,l,rfl,p'⟩,q⟩
  | false=>exact q
end L2

namespace L2
open PySem PySem.Spec PyProof.Rows

abbrev R2:=V→V→Hp→VK→Prop

def OpR (X:Cx) (f:Value→Value→Sem Value) (r:R2):Prop :=
  ∀ (pins:List (Addr × Obj)) (s:Shared) (σ:St) (H:Hp) (x y:V) (v u:Value) (Q:VK),Inv X pins σ H s→RelV x v→RelV y u→r x y H Q →
    wpAny (model X.prog X.w) X.A (f v u) (EP X pins σ Q) X.xe s

def UnR (X:Cx) (f:Value→Sem Value) (r:V→Hp→VK→Prop):Prop :=
  ∀ (pins:List (Addr × Obj)) (s:Shared) (σ:St) (H:Hp) (x:V) (v:Value) (Q:VK),Inv X pins σ H s→RelV x v→r x H Q →
    wpAny (model X.prog X.w) X.A (f v) (EP X pins σ Q) X.xe s

def CallR (X:Cx) (f:Value) (r:List V→Hp→VK→Prop):Prop :=
  ∀ (pins:List (Addr × Obj)) (s:Shared) (σ:St) (H:Hp) (xs:List V) (us:List Value) (Q:VK),Inv X pins σ H s→Vals xs us→r xs H Q →
    wpAny (model X.prog X.w) X.A (call f us) (EP X pins σ Q) X.xe s

def tOp (r:R2) (ta tb:TE):TE:=fun σ H Q=>ta σ H fun x H1=>tb σ H1 fun y H2=>r x y H2 Q
def tUn (r:V→Hp→VK→Prop) (ta:TE):TE:=fun σ H Q=>ta σ H fun x H1=>r x H1 Q

def rI (C:Int→Int→Prop) (g:Int→Int→V):R2:=fun x y H Q=>∃ i j,x=.int i∧y=.int j∧C i j∧Q (g i j) H
def rI0 (g:Int→Int→V):R2:=fun x y H Q=>∃ i j,x=.int i∧y=.int j∧Q (g i j) H
def rU (g:Int→V):V→Hp→VK→Prop:=fun x H Q=>∃ i,x=.int i∧Q (g i) H

section
variable {X:Cx} {a b c:Expr} {ta tb tc:TE} {pos:Pos}

theorem binT (ha:PE X a ta) (hb:PE X b tb) {pins:List (Addr × Obj)} {s:Shared} {σ:St} {H:Hp} {R:V→V→Hp→Prop} (I:Inv X pins σ H s)
    (h:ta σ H fun x H1=>tb σ H1 fun y H2=>R x y H2) {Q:Value→Shared→Prop} {f:Value→Value→Sem Value}
    (hf:∀ v u s2 x y H2,Inv X pins σ H2 s2→RelV x v→RelV y u→R x y H2→wpAny (model X.prog X.w) X.A (f v u) Q X.xe s2) :
    wpAny (model X.prog X.w) X.A (eval a X.env) (fun v s₁=>wpAny (model X.prog X.w) X.A (eval b X.env) (fun u s₂=>wpAny (model X.prog X.w) X.A (f v u) Q X.xe s₂) X.xe s₁) X.xe s:=by
  refine thn (ha pins s σ H _ I h) fun v s1 ⟨x,H1,I1,r1,q1⟩ => ?_
  refine thn (hb pins s1 σ H1 _ I1 q1) fun u s2 ⟨y,H2,I2,r2,q2⟩ => ?_
  exact hf v u s2 x y H2 I2 r1 r2 q2

theorem pe_op {op:Operator} {r:R2} (ho:OpR X (binaryOp op) r) (ha:PE X a ta) (hb:PE X b tb):PE X (.BinOp a op b pos) (tOp r ta tb):=by
  intro pins s σ H Q I h
  exact wpAny_BinOp (binT ha hb I h fun v u s2 x y H2 I2 rx ry q=>ho pins s2 σ H2 x y v u Q I2 rx ry q)
theorem pe_un {op:UnaryOp} {r:V→Hp→VK→Prop} (ho:UnR X (unaryOp op) r) (ha:PE X a ta):PE X (.UnaryOp op a pos) (tUn r ta):=by
  intro pins s σ H Q I h
  exact UnaryOp_ (thn (ha pins s σ H _ I h) fun v s1 ⟨x,H1,I1,r1,q1⟩=>ho pins s1 σ H1 x v Q I1 r1 q1)

theorem opI {f:Value→Value→Sem Value} {C:Int→Int→Prop} {g:Int→Int→Int}
    (rule:∀ (i j:Int) (t u:Tok) (s:Shared) (Q:Value→Shared→Prop) (E:Value→Shared→Prop),C i j→Q (.int (g i j) s.toks) { s with toks:=s.toks + 1 }→wpAny (model X.prog X.w) X.A (f (.int i t) (.int j u)) Q E s) :
    OpR X f (rI C fun i j=>.int (g i j)):=by
  intro pins s σ H x y v u Q I rx ry h
  obtain ⟨i,j,rfl,rfl,hc,q⟩:=h
  obtain ⟨t,rfl⟩:=rx
  obtain ⟨t',rfl⟩:=ry
  exact rule i j t t' s _ _ hc ⟨.int (g i j),H,I.tok _,⟨_,rfl⟩,q⟩
theorem opI0 {f:Value→Value→Sem Value} {g:Int→Int→Int}
    (rule:∀ (i j:Int) (t u:Tok) (s:Shared) (Q:Value→Shared→Prop) (E:Value→Shared→Prop),Q (.int (g i j) s.toks) { s with toks:=s.toks + 1 }→wpAny (model X.prog X.w) X.A (f (.int i t) (.int j u)) Q E s) :
    OpR X f (rI0 fun i j=>.int (g i j)):=by
  intro pins s σ H x y v u Q I rx ry h
  obtain ⟨i,j,rfl,rfl,q⟩:=h
  obtain ⟨t,rfl⟩:=rx
  obtain ⟨t',rfl⟩:=ry
  exact rule i j t t' s _ _ ⟨.int (g i j),H,I.tok _,⟨_,rfl⟩,q⟩
theorem opB0 {f:Value→Value→Sem Value} {g:Int→Int→Bool}
    (rule:∀ (i j:Int) (t u:Tok) (s:Shared) (Q:Value→Shared→Prop) (E:Value→Shared→Prop),Q (.bool (g i j)) s→wpAny (model X.prog X.w) X.A (f (.int i t) (.int j u)) Q E s) :
    OpR X f (rI0 fun i j=>.bl (g i j)):=by
  intro pins s σ H x y v u Q I rx ry h
  obtain ⟨i,j,rfl,rfl,q⟩:=h
  obtain ⟨t,rfl⟩:=rx
  obtain ⟨t',rfl⟩:=ry
  exact rule i j t t' s _ _ ⟨.bl (g i j),H,I,rfl,q⟩

def CPow (i j:Int):Prop:=0≤j∧j≤1000000∧i.natAbs < 2 ^ 64
def CMul (i j:Int):Prop:=(-(2 ^ 64) < i∧i < 2 ^ 64)∨(-(2 ^ 64) < j∧j < 2 ^ 64)
theorem CMul.ok {i j:Int} (h:CMul i j):IntMulOk i j:=by
  rcases h with ⟨h1,h2⟩ | ⟨h1,h2⟩
  · exact .of_left (intBits_le_64 h1 h2)
  · exact .of_right (intBits_le_64 h1 h2)
theorem op_add:OpR X (binaryOp .Add) (rI0 fun i j=>.int (i + j)):=opI0 fun _ _ _ _ _ _ _ q=>add_int q
theorem op_sub:OpR X (binaryOp .Sub) (rI0 fun i j=>.int (i - j)):=opI0 fun _ _ _ _ _ _ _ q=>sub_int q
theorem op_mul:OpR X (binaryOp .Mult) (rI CMul fun i j=>.int (i * j)):=opI fun _ _ _ _ _ _ _ hc q=>mul_int q hc.ok

theorem op_mod:OpR X (binaryOp .Mod) (rI (fun _ j=>0 < j) fun i j=>.int (i % j)):=opI fun i j _ _ _ _ _ hc q=>by
  have h1:(0:Int) < j:=hc
  exact mod_int' (by omega) (by rw [Int.fmod_eq_emod_of_nonneg i (by omega)]; exact q)
theorem op_pow:OpR X (binaryOp .Pow) (rI CPow fun i j=>.int (i ^ j.toNat)):=opI fun _ _ _ _ _ _ _ hc q=>pow_int_small hc.1 hc.2.1 hc.2.2 q
theorem op_shl:OpR X (binaryOp .LShift) (rI CPow fun i j=>.int (i * 2 ^ j.toNat)):=opI fun _ _ _ _ _ _ _ hc q=>lshift_int_small hc.1 hc.2.1 hc.2.2 q
theorem unI {f:Value→Sem Value} {g:Int→Int}
    (rule:∀ (i:Int) (t:Tok) (s:Shared) (Q:Value→Shared→Prop) (E:Value→Shared→Prop),Q (.int (g i) s.toks) { s with toks:=s.toks + 1 }→wpAny (model X.prog X.w) X.A (f (.int i t)) Q E s) :
    UnR X f (rU fun i=>.int (g i)):=by
  intro pins s σ H x v Q I rx h
  obtain ⟨i,rfl,q⟩:=h
  obtain ⟨t,rfl⟩:=rx
  exact rule i t s _ _ ⟨.int (g i),H,I.tok _,⟨_,rfl⟩,q⟩
theorem un_neg:UnR X (unaryOp .USub) (rU fun i=>.int (-i)):=unI fun _ _ _ _ _ q=>neg_int q
end



def scal:V→V→Bool
  | .non,.non=>true | .non,.int _=>true | .int _,.non=>true | .non,.bl _=>true | .bl _,.non=>true | .non,.str _=>true | .str _,.non=>true
  | .int _,.int _=>true | .bl _,.bl _=>true | .str _,.str _=>true | .byt _,.byt _=>true
  | .int _,.str _=>true | .str _,.int _=>true | .bl _,.str _=>true | .str _,.bl _=>true
  | _,_=>false
def rEq:R2:=fun x y H Q=>scal x y=true∧Q (.bl (decide (x=y))) H
def rNe:R2:=fun x y H Q=>scal x y=true∧Q (.bl (!decide (x=y))) H

theorem dec_int {i j:Int}:decide (V.int i=V.int j)=(i == j):=by
  rw [Bool.eq_iff_iff]
  simp
theorem dec_bl {i j:Bool}:decide (V.bl i=V.bl j)=(i == j):=by
  rw [Bool.eq_iff_iff]
  simp
theorem dec_str {i j:Str}:decide (V.str i=V.str j)=(i == j):=by
  rw [Bool.eq_iff_iff]
  simp
theorem dec_byt {i j:Array UInt8}:decide (V.byt i=V.byt j)=(i.toList == j.toList):=by
  rw [Bool.eq_iff_iff]
  cases i
  cases j
  simp

section
variable {X:Cx} {a b c:Expr} {ta tb tc:TE} {pos:Pos}
theorem fin_bl {pins:List (Addr × Obj)} {σ:St} {H:Hp} {s:Shared} {Q:VK} {k k':Bool} (I:Inv X pins σ H s) (q:Q (.bl k) H) (e:k=k'):EP X pins σ Q (.bool k') s:=by
  subst e
  exact ⟨.bl k,H,I,rfl,q⟩
theorem op_eq:OpR X (compareOp .Eq) rEq:=by
  intro pins s σ H x y v u Q I rx ry h
  obtain ⟨hs,q⟩:=h
  cases x with
  | non =>
    cases rx
    cases y with
    | non=>cases ry; exact PySem.EqNone.eq_none_none (fin_bl I q (by simp))
    | bl j=>cases ry; exact PySem.EqNone.eq_none_bool (fin_bl I q (by simp))
    | int j=>obtain ⟨t',rfl⟩:=ry; exact PySem.EqNone.eq_none_int (fin_bl I q (by simp))
    | str j=>obtain ⟨t',rfl⟩:=ry; exact PySem.EqNone.eq_none_str (fin_bl I q (by simp))
    | _=>exact absurd (show false=true from hs) Bool.false_ne_true
  | bl i =>
    cases rx
    cases y with
    | non=>cases ry; exact PySem.EqNone.eq_bool_none (fin_bl I q (by simp))
    | bl j=>cases ry; exact eq_bool (fin_bl I q dec_bl)
    | str j=>obtain ⟨t',rfl⟩:=ry; exact PySem.EqMixed.eq_bool_str (fin_bl I q (by simp))
    | _=>exact absurd (show false=true from hs) Bool.false_ne_true
  | int i =>
    obtain ⟨t,rfl⟩:=rx
    cases y with
    | non=>cases ry; exact PySem.EqNone.eq_int_none (fin_bl I q (by simp))
    | int j=>obtain ⟨t',rfl⟩:=ry; exact eq_int (fin_bl I q dec_int)
    | str j=>obtain ⟨t',rfl⟩:=ry; exact PySem.EqMixed.eq_int_str (fin_bl I q (by simp))
    | _=>exact absurd (show false=true from hs) Bool.false_ne_true
  | str i =>
    obtain ⟨t,rfl⟩:=rx
    cases y with
    | non=>cases ry; exact PySem.EqNone.eq_str_none (fin_bl I q (by simp))
    | bl j=>cases ry; exact PySem.EqMixed.eq_str_bool (fin_bl I q (by simp))
    | int j=>obtain ⟨t',rfl⟩:=ry; exact PySem.EqMixed.eq_str_int (fin_bl I q (by simp))
    | str j=>obtain ⟨t',rfl⟩:=ry; exact eq_str (fin_bl I q dec_str)
    | _=>exact absurd (show false=true from hs) Bool.false_ne_true
  | byt i =>
    obtain ⟨t,rfl⟩:=rx
    cases y with
    | byt j=>obtain ⟨t',rfl⟩:=ry; exact PySem.W.eq_bytes (fin_bl I q dec_byt)
    | _=>exact absurd (show false=true from hs) Bool.false_ne_true
  | _=>cases y <;> exact absurd (show false=true from hs) Bool.false_ne_true
theorem op_ne:OpR X (compareOp .NotEq) rNe:=by
  intro pins s σ H x y v u Q I rx ry h
  obtain ⟨hs,q⟩:=h
  cases x with
  | non =>
    cases rx
    cases y with
    | non=>cases ry; exact PySem.EqNone.ne_none_none (fin_bl I q (by simp))
    | bl j=>cases ry; exact PySem.EqNone.ne_none_bool (fin_bl I q (by simp))
    | int j=>obtain ⟨t',rfl⟩:=ry; exact PySem.EqNone.ne_none_int (fin_bl I q (by simp))
    | str j=>obtain ⟨t',rfl⟩:=ry; exact PySem.EqNone.ne_none_str (fin_bl I q (by simp))
    | _=>exact absurd (show false=true from hs) Bool.false_ne_true
  | bl i =>
    cases rx
    cases y with
    | non=>cases ry; exact PySem.EqNone.ne_bool_none (fin_bl I q (by simp))
    | bl j=>cases ry; exact ne_bool (fin_bl I q (congrArg not dec_bl))
    | str j=>obtain ⟨t',rfl⟩:=ry; exact PySem.EqMixed.ne_bool_str (fin_bl I q (by simp))
    | _=>exact absurd (show false=true from hs) Bool.false_ne_true
  | int i =>
    obtain ⟨t,rfl⟩:=rx
    cases y with
    | non=>cases ry; exact PySem.EqNone.ne_int_none (fin_bl I q (by simp))
    | int j=>obtain ⟨t',rfl⟩:=ry; exact ne_int (fin_bl I q (congrArg not dec_int))
    | str j=>obtain ⟨t',rfl⟩:=ry; exact PySem.EqMixed.ne_int_str (fin_bl I q (by simp))
    | _=>exact absurd (show false=true from hs) Bool.false_ne_true
  | str i =>
    obtain ⟨t,rfl⟩:=rx
    cases y with
    | non=>cases ry; exact PySem.EqNone.ne_str_none (fin_bl I q (by simp))
    | bl j=>cases ry; exact PySem.EqMixed.ne_str_bool (fin_bl I q (by simp))
    | int j=>obtain ⟨t',rfl⟩:=ry; exact PySem.EqMixed.ne_str_int (fin_bl I q (by simp))
    | str j=>obtain ⟨t',rfl⟩:=ry; exact ne_str (fin_bl I q (congrArg not dec_str))
    | _=>exact absurd (show false=true from hs) Bool.false_ne_true
  | byt i =>
    obtain ⟨t,rfl⟩:=rx
    cases y with
    | byt j=>obtain ⟨t',rfl⟩:=ry; exact PySem.W.ne_bytes (fin_bl I q (congrArg not dec_byt))
    | _=>exact absurd (show false=true from hs) Bool.false_ne_true
  | _=>cases y <;> exact absurd (show false=true from hs) Bool.false_ne_true

theorem op_lt:OpR X (compareOp .Lt) (rI0 fun i j=>.bl (decide (i < j))):=opB0 fun _ _ _ _ _ _ _ q=>lt_int q
theorem op_le:OpR X (compareOp .LtE) (rI0 fun i j=>.bl (decide (i≤j))):=opB0 fun _ _ _ _ _ _ _ q=>le_int q
theorem op_gt:OpR X (compareOp .Gt) (rI0 fun i j=>.bl (decide (j < i))):=opB0 fun _ _ _ _ _ _ _ q=>gt_int q
theorem op_in_str:OpR X (compareOp .In) (fun x y H Q=>∃ i j,x=.str i∧y=.str j∧Q (.bl (!(Builtin.Str.occurrences j i 0 j.length 1).isEmpty)) H):=by
  intro pins s σ H x y v u Q I rx ry h
  obtain ⟨i,j,rfl,rfl,q⟩:=h
  obtain ⟨t,rfl⟩:=rx
  obtain ⟨t',rfl⟩:=ry
  exact in_str (fin_bl I q rfl)


theorem nomark (b:Expr) {op:CmpOp} (h:op≠.In:=by decide) (h2:op≠.NotIn:=by decide):behindInMarks op b=false:=by
  have e1:(op == CmpOp.In)=false:=by cases op <;> first | rfl | exact absurd rfl h
  have e2:(op == CmpOp.NotIn)=false:=by cases op <;> first | rfl | exact absurd rfl h2
  cases b <;> simp [behindInMarks,e1,e2]

theorem pe_cmpR {op:CmpOp} {r:R2} (ho:OpR X (compareOp op) r) (ha:PE X a ta) (hb:PE X b tb) (hm:behindInMarks op b=false):PE X (.Compare a [op] [b] pos) (tOp r ta tb):=by
  intro pins s σ H Q I h
  exact wpAny_Compare1 (binT ha hb I h fun v u s2 x y H2 I2 rx ry q=>ho pins s2 σ H2 x y v u Q I2 rx ry q) hm

def tTest (t:TE):TT:=fun σ H Q=>t σ H fun x H'=>∃ k,x=.bl k∧Q k H'
theorem pt_cmpR {op:CmpOp} {r:R2} (ho:OpR X (compareOp op) r) (ha:PE X a ta) (hb:PE X b tb) (hm:behindInMarks op b=false):PT X (.Compare a [op] [b] pos) (tTest (tOp r ta tb)):=by
  intro pins s σ H Q I h
  refine wpAny_isTrue_Compare1 (thn (ha pins s σ H _ I h) fun v s1 ⟨x,H1,I1,r1,q1⟩=>thn (hb pins s1 σ H1 _ I1 q1) fun u s2 ⟨y,H2,I2,r2,q2⟩ =>
    thn (ho pins s2 σ H2 x y v u _ I2 r1 r2 q2) fun c s3 ⟨z,H3,I3,r3,k,e,q3⟩ => ?_) hm
  subst e
  cases r3
  exact wpAny_truthy_bool ⟨H3,I3,q3⟩

def tChain (r r':R2) (ta tb tc:TE):TE:=fun σ H Q=>ta σ H fun x H1=>tb σ H1 fun y H2=>r x y H2 fun z H3=>∃ k,z=.bl k ∧
  (if k=true then tc σ H3 fun w' H4=>r' y w' H4 Q else Q (.bl false) H3)
theorem pe_chain {op op':CmpOp} {r r':R2} (ho:OpR X (compareOp op) r) (ho':OpR X (compareOp op') r') (ha:PE X a ta) (hb:PE X b tb) (hc:PE X c tc)
    (hm:lastMarks [op,op'] [b,c]=false:=by with_unfolding_all rfl):PE X (.Compare a [op,op'] [b,c] pos) (tChain r r' ta tb tc):=by
  intro pins s σ H Q I h
  refine Compare_chain (thn (ha pins s σ H _ I h) fun v s1 ⟨x,H1,I1,r1,q1⟩=>chain_link (thn (hb pins s1 σ H1 _ I1 q1) fun u s2 ⟨y,H2,I2,r2,q2⟩ =>
    thn (ho pins s2 σ H2 x y v u _ I2 r1 r2 q2) fun d s3 ⟨z,H3,I3,r3,k,e,q3⟩ => ?_)) hm
  subst e
  cases r3
  refine wpAny_truthy_bool ?_
  cases k with
  | false=>exact ite_ff ⟨.bl false,H3,I3,rfl,q3⟩
  | true=>exact ite_tt (chain_last (thn (hc pins s3 σ H3 _ I3 q3) fun w' s4 ⟨z',H4,I4,r4,q4⟩=>ho' pins s4 σ H4 y z' u w' Q I4 r2 r4 q4))
theorem pt_chain {op op':CmpOp} {r r':R2} (ho:OpR X (compareOp op) r) (ho':OpR X (compareOp op') r') (ha:PE X a ta) (hb:PE X b tb) (hc:PE X c tc)
    (hm:lastMarks [op,op'] [b,c]=false:=by with_unfolding_all rfl):PT X (.Compare a [op,op'] [b,c] pos) (tTest (tChain r r' ta tb tc)):=by
  intro pins s σ H Q I h
  refine isTrue_chain (thn (ha pins s σ H _ I h) fun v s1 ⟨x,H1,I1,r1,q1⟩=>test_link (thn (hb pins s1 σ H1 _ I1 q1) fun u s2 ⟨y,H2,I2,r2,q2⟩ =>
    thn (ho pins s2 σ H2 x y v u _ I2 r1 r2 q2) fun d s3 ⟨z,H3,I3,r3,k,e,q3⟩ => ?_)) hm
  subst e
  cases r3
  refine wpAny_truthy_bool ?_
  cases k with
  | false =>
    obtain ⟨k',e',q'⟩:=q3
    cases e'
    exact ite_ff ⟨H3,I3,q'⟩
  | true =>
    refine ite_tt (test_last (thn (hc pins s3 σ H3 _ I3 q3) fun w' s4 ⟨z',H4,I4,r4,q4⟩=>thn (ho' pins s4 σ H4 y z' u w' _ I4 r2 r4 q4) fun d' s5 ⟨z2,H5,I5,r5,k2,e2,q5⟩ => ?_))
    subst e2
    cases r5
    exact wpAny_truthy_bool ⟨H5,I5,q5⟩



theorem line63:(sizeLine:Nat) < 2 ^ 63:=by rw [sizeLine_eq]; decide
theorem op_add_str:OpR X (binaryOp .Add) (fun x y H Q=>∃ i j,x=.str i∧y=.str j∧i.length + j.length≤sizeLine∧Q (.str (i++j)) H):=by
  intro pins s σ H x y v u Q I rx ry h
  obtain ⟨i,j,rfl,rfl,hz,q⟩:=h
  obtain ⟨t,rfl⟩:=rx
  obtain ⟨t',rfl⟩:=ry
  exact add_str (fun t' tk=>⟨.str (i++j),H,I.tok _,⟨_,rfl⟩,q⟩) hz
theorem vals1 {x:V} {us:List Value} (r:Vals [x] us):∃ u,us=[u]∧RelV x u:=by
  cases r with
  | cons r1 r2=>cases r2; exact ⟨_,rfl,r1⟩
theorem vals2 {x y:V} {us:List Value} (r:Vals [x,y] us):∃ u w',us=[u,w']∧RelV x u∧RelV y w':=by
  cases r with
  | cons r1 r2 =>
    cases r2 with
    | cons r3 r4=>cases r4; exact ⟨_,_,rfl,r1,r3⟩
theorem call_min2 (hc:X.calm=true):CallR X (.builtin "min") (fun xs H Q=>∃ i j,xs=[.int i,.int j]∧Q (.int (if j < i then j else i)) H):=by
  intro pins s σ H xs us Q I r h
  obtain ⟨i,j,rfl,q⟩:=h
  obtain ⟨u,w',rfl,⟨t,rfl⟩,⟨t',rfl⟩⟩:=vals2 r
  refine min_two_ints (I.ok.hd hc) fun h' tk k=>⟨_,H,I.kept k,?_,q⟩
  by_cases hj:j < i
  · rw [if_pos hj,if_pos hj]; exact ⟨_,rfl⟩
  · rw [if_neg hj,if_neg hj]; exact ⟨_,rfl⟩
theorem call_str_int:CallR X (.type "str") (fun xs H Q=>∃ i,xs=[.int i]∧i.natAbs.log2 < 1920∧Q (.str (toString i)) H):=by
  intro pins s σ H xs us Q I r h
  obtain ⟨i,rfl,hz,q⟩:=h
  obtain ⟨u,rfl,t,rfl⟩:=vals1 r
  exact PySem.P.str_of_int hz ⟨.str _,H,I.tok _,⟨_,rfl⟩,q⟩
def LenV (K:PySem.W.Frag) (x:V) (H:Hp) (n:Nat):Prop :=
  match x with
  | .str y=>y.length≤sizeLine∧n=y.length
  | .byt y=>y.size≤sizeLine∧n=y.size
  | .ref p=>(∃ xs,SqL K H p xs∧n=xs.length)∨∃ xs,SqT K H p xs∧n=xs.length
  | _=>False
theorem call_len:CallR X (.builtin "len") (fun xs H Q=>∃ x n,xs=[x]∧LenV X.K x H n∧Q (.int n) H):=by
  intro pins s σ H xs us Q I r h
  obtain ⟨x,n,rfl,e,q⟩:=h
  obtain ⟨u,rfl,rx⟩:=vals1 r
  have hl:=line63
  have hs:sizeLine=16777216:=sizeLine_eq
  cases x with
  | str y =>
    obtain ⟨t,rfl⟩:=rx
    obtain ⟨hy,e'⟩:y.length≤sizeLine∧n=y.length:=e
    subst e'
    exact len_str (by omega) ⟨.int _,H,I.tok _,⟨_,rfl⟩,q⟩
  | byt y =>
    obtain ⟨t,rfl⟩:=rx
    obtain ⟨hy,e'⟩:y.size≤sizeLine∧n=y.size:=e
    subst e'
    exact PySem.W.len_bytes (by omega) ⟨.int _,H,I.tok _,⟨_,rfl⟩,q⟩
  | ref p =>
    cases rx
    have e':(∃ xs,SqL X.K H p xs∧n=xs.length)∨∃ xs,SqT X.K H p xs∧n=xs.length:=e
    rcases e' with ⟨xs,hx,e'⟩ | ⟨xs,hx,e'⟩
    · subst e'
      obtain ⟨its,r',pl,hz⟩:=I.list hx
      have hlen:=r'.length
      exact Calls.call_len_list pl.isList (by simp only [List.size_toArray]; omega) ⟨.int xs.length,H,I.tok _,⟨_,by simp only [List.size_toArray]; rw [hlen]⟩,q⟩
    · subst e'
      obtain ⟨its,r',pl,hz⟩:=I.tuple hx
      have hlen:=r'.length
      exact len_tuple pl (by simp only [List.size_toArray]; omega) ⟨.int xs.length,H,I.tok _,⟨_,by simp only [List.size_toArray]; rw [hlen]⟩,q⟩
  | _=>exact (show False from e).elim

end
end L2

namespace L2
open PySem PySem.Spec PyProof.Rows


structure ObjM (h:Heap) (x dx C:Addr) (mA:Str→Option Value):Prop where
  obj:h.get? x=some (PySem.W.instObj C dx)
  ns:h.Ns1 dx mA
  ne:dx≠x

theorem lookIn_ns {h:Heap} {dx:Addr} {mA:Str→Option Value} (n:h.Ns1 dx mA):∃ od,h.get? dx=some od∧∀ name,PySem.W.lookIn name od=some (mA name):=by
  obtain ⟨o,es,ep,ho,hd,hk,_,hm⟩:=n
  refine ⟨o,ho,fun name => ?_⟩
  have e:=hm name
  unfold nsFind findBy at e
  rw [← Array.find?_toList] at e
  unfold PySem.W.lookIn
  rw [hd]
  dsimp only
  split
  · rename_i y q
    rw [q] at e
    exact congrArg some e
  · rename_i q
    rw [q] at e
    have a:es.toList.any (·.refKey)=false:=by
      rw [List.any_eq_false]
      intro y hy
      obtain ⟨z,t,hkey⟩:=hk y (Array.mem_toList_iff.mp hy)
      simp [DictEntry.refKey,hkey]
    have a':¬ es.toList.any (·.refKey)=true:=by rw [a]; exact Bool.false_ne_true
    rw [if_neg a']
    exact congrArg some e

theorem ObjM.look {h:Heap} {x dx C:Addr} {mA:Str→Option Value} (I:ObjM h x dx C mA):∃ od,PySem.W.InstAt h x (PySem.W.instObj C dx) C (some od)∧∀ name,PySem.W.lookIn name od=some (mA name) :=
  let ⟨od,ho,hl⟩:=lookIn_ns I.ns
  ⟨od,⟨I.obj,rfl,rfl,ho⟩,hl⟩

section
variable {prog:Program} {w:World} {A:Around} {E:Value→Shared→Prop} {s:Shared} {K:PySem.W.Frag} {x dx C f:Addr} {mA:Str→Option Value} {name:Str} {v:Value}

end


section
variable {P:Program} {w:World} {H H':Hp} {h h':Heap} {a C dx:Addr} {fs fs':List (Str × V)}
theorem ins_get (hok:HOk P w H h) (e:H a=some (.ins C dx fs)):∃ mA,ObjM h a dx C mA∧(∀ f,RelO (fs.lookup f) (mA f))∧PySem.Within mA (fs.map (·.1))∧fs.length≤1000∧H dx=some (.own a):=by
  obtain ⟨d,z,ne,ob,mA,n,r,q⟩:=(show ObjOk P w H h a (.ins C dx fs) from hok a _ e)
  exact ⟨mA,⟨ob,n,ne⟩,r,q,z,d⟩
end


structure Cls (K:PySem.W.Frag) (C:Addr):Prop where
  pg:PySem.W.plainGet K C Str.empty=true
  hd:PySem.W.hasDictIn K C=true
  po:PySem.W.plainOver K C=true
  sa:PySem.W.findIn K (.ref C) "__setattr__" = some (some (.builtin "object.__setattr__"))
theorem Cls.get {K:PySem.W.Frag} {C:Addr} (c:Cls K C) (f:Str):PySem.W.plainGet K C f=true:=c.pg

section
variable {X:Cx} {pins:List (Addr × Obj)} {σ:St} {H:Hp} {s:Shared} {a C dx:Addr} {fs:List (Str × V)} {f:Str} {v:V} {A:Around} {E:Value→Shared→Prop}

end



section
variable {X:Cx} {o e value:Expr} {f:Str} {pos pos' tpos:Pos} {ta tv:TE}
end


section
variable {X:Cx} {pins:List (Addr × Obj)} {σ:St} {H:Hp} {s:Shared} {A:Around} {E:Value→Shared→Prop} {Q:Value→Shared→Prop} {c:Value} {b:Bool}

inductive TyOf (K:PySem.W.Frag) (H:Hp):V→Value→Prop where
  | non:TyOf K H .non (.type "NoneType")
  | bl (x:Bool):TyOf K H (.bl x) (.type "bool")
  | int (i:Int):TyOf K H (.int i) (.type "int")
  | str (x:Str):TyOf K H (.str x) (.type "str")
  | flt (x:UInt64):TyOf K H (.flt x) (.type "float")
  | lst {a:Addr} {xs:List V} (e:H a=some (.lst xs)):TyOf K H (.ref a) (.type "list")
  | frz {a:Addr} {o:Obj} {xs:List V} (e:H a=some (.frz o (.lst xs))):TyOf K H (.ref a) (.type "list")
  | tup {a:Addr} {xs:List V} (e:H a=some (.tup xs)):TyOf K H (.ref a) (.type "tuple")
  | dK {a:Addr} {kvs:List (Key × V)} (e:H a=some (.dK kvs)):TyOf K H (.ref a) (.type "dict")
  | dT {a:Addr} {kvs:List (List Key × V)} (e:H a=some (.dT kvs)):TyOf K H (.ref a) (.type "dict")
  | ins {a C dx:Addr} {fs:List (Str × V)} (e:H a=some (.ins C dx fs)) (cl:Cls K C) (ha:PySem.W.findIn K (.ref C) "__class__" = some (some (.builtin "object.__class__")))
      (hn:PySem.W.specialIn K (.builtin "object.__class__") "__get__" = some (some (.builtin "getset_descriptor.__get__"))) (htk:PySem.W.takesIn K (.builtin "object.__class__")=some true)
      (hm:PySem.W.mroIn K C (.type "object")=some true):TyOf K H (.ref a) (.ref C)

theorem isinst_ok {x:V} {u t:Value} (I:Inv X pins σ H s) (rx:RelV x u) (ty:TyOf X.K H x t) (e:PySem.W.kitOne X.K t c=some b) (h:∀ tk,Q (.bool b) { s with toks:=tk }) :
    wpAny (model X.prog X.w) A (call (.builtin "isinstance") [u,c]) Q E s:=by
  cases ty with
  | non=>cases (show u=Value.none from rx); exact PySem.W.kia_one PySem.W.kitx_none I.kIn True.intro e (fun z=>nomatch z) h
  | bl y=>cases (show u=Value.bool y from rx); exact PySem.W.kia_one PySem.W.kitx_bool I.kIn True.intro e (fun z=>nomatch z) h
  | int i=>obtain ⟨t,q⟩:=(show ∃ t,u=Value.int i t from rx); cases q; exact PySem.W.kia_one PySem.W.kitx_int I.kIn True.intro e (fun z=>nomatch z) h
  | str y=>obtain ⟨t,q⟩:=(show ∃ t,u=Value.str y t from rx); cases q; exact PySem.W.kia_one PySem.W.kitx_str I.kIn True.intro e (fun z=>nomatch z) h
  | flt y=>obtain ⟨t,q⟩:=(show ∃ t,u=Value.float y t from rx); cases q; exact PySem.W.kia_one PySem.W.kitx_float I.kIn True.intro e (fun z=>nomatch z) h
  | @lst a xs ea =>
    cases (show u=Value.ref a from rx)
    obtain ⟨_,_,n,_,h1⟩:=(show ObjOk X.prog X.w H s.heap a (.lst xs) from I.hok a _ ea)
    exact PySem.W.kia_one PySem.W.kitx_list I.kIn ⟨_,h1,rfl⟩ e (fun z=>nomatch z) h
  | @frz a ob xs ea =>
    cases (show u=Value.ref a from rx)
    obtain ⟨_,_,_,n,_,h1⟩:=(show ObjOk X.prog X.w H s.heap a (.frz ob (.lst xs)) from I.hok a _ ea)
    exact PySem.W.kia_one PySem.W.kitx_list I.kIn ⟨_,h1,rfl⟩ e (fun z=>nomatch z) h
  | @tup a xs ea =>
    cases (show u=Value.ref a from rx)
    obtain ⟨_,_,_,p⟩:=(show ObjOk X.prog X.w H s.heap a (.tup xs) from I.hok a _ ea)
    obtain ⟨o,h1,h2,_⟩:=p
    exact PySem.W.kia_one PySem.W.kitx_tuple I.kIn ⟨o,h1,h2⟩ e (fun z=>nomatch z) h
  | @dK a kvs ea =>
    cases (show u=Value.ref a from rx)
    obtain ⟨_,_,vs,_,p⟩:=(show ObjOk X.prog X.w H s.heap a (.dK kvs) from I.hok a _ ea)
    obtain ⟨o,es,ep,h1,h2,_⟩:=p
    exact PySem.W.kia_one PySem.W.kitx_dict I.kIn ⟨o,h1,h2.1⟩ e (fun z=>nomatch z) h
  | @dT a kvs ea =>
    cases (show u=Value.ref a from rx)
    obtain ⟨_,_,xs,_,o,es,ep,h1,h2,_⟩:=(show ObjOk X.prog X.w H s.heap a (.dT kvs) from I.hok a _ ea)
    exact PySem.W.kia_one PySem.W.kitx_dict I.kIn ⟨o,h1,h2.1⟩ e (fun z=>nomatch z) h
  | @ins a C dx fs ea cl ha hn htk hm =>
    cases (show u=Value.ref a from rx)
    obtain ⟨mA,O,_⟩:=ins_get I.hok ea
    obtain ⟨od,J,_⟩:=O.look
    exact PySem.W.kia_one (PySem.W.kitx_own (cl.get _) cl.hd ha hn htk hm) I.kIn J e (fun z=>nomatch z) h
end
end L2

namespace L2
open PySem PySem.Spec PyProof.Rows


structure Room (k:Nat) (A:Around):Prop where
  hd:A.handled=none
  dp:A.depth + 3 * k + 5 < recursionLimit
  un:A.units + 16 * k + 200 < cLine
theorem Room.mono {j k:Nat} {A:Around} (r:Room k A) (h:j≤k):Room j A:=⟨r.hd,by have:=r.dp; omega,by have:=r.un; omega⟩
theorem Room.deeper {k:Nat} {A:Around} (r:Room (k + 1) A) (env:Env):Room k (A.deeper env) :=
  ⟨r.hd,by have:=r.dp; show A.depth + 1 + 3 * k + 5 < _; omega,by have:=r.un; show A.units + 3 + 16 * k + 200 < _; omega⟩
theorem Room.depth {k:Nat} {A:Around} (r:Room k A):A.depth < recursionLimit:=by have:=r.dp; omega
theorem Room.units {k:Nat} {A:Around} (r:Room k A):A.units + 64 < cLine:=by have:=r.un; omega
def tNil:TA:=fun _ H Q=>Q [] H
def tCons (ta:TE) (tr:TA):TA:=fun σ H Q=>ta σ H fun x H1=>tr σ H1 fun xs H2=>Q (x::xs) H2
section
variable {X:Cx} {e:Expr} {es:List Expr} {te:TE} {t:TA} {pos:Pos}
theorem pa_nil:PA X [] tNil:=fun _ _ _ _ H Q I h=>Calls.spliced_nil ⟨[],H,I,.nil,h⟩
theorem pa_cons (ha:PE X e te) (hr:PA X es t) (hs:starEach (e::es) X.env=(false,eval e X.env)::starEach es X.env:=by rfl):PA X (e::es) (tCons te t):=by
  intro pos pins s σ H Q I h
  rw [hs]
  show wpAny _ _ (spliced ((false,eval e X.env)::backTo pos (starEach es X.env))) _ _ s
  refine Calls.spliced_cons (thn (ha pins s σ H _ I h) fun u s1 ⟨x,H1,I1,r1,q1⟩ => ?_)
  exact thn (hr pos pins s1 σ H1 _ I1 q1) fun us s2 ⟨xs,H2,I2,r2,q2⟩=>⟨x::xs,H2,I2,.cons r1 r2,q2⟩


def tTup (t:TA):TE:=fun σ H Q=>t σ H fun xs H1=>xs.length≤sizeLine∧∀ p,H1 p=none→Q (.ref p) (upd H1 p (.tup xs))
def tLst (t:TA):TE:=fun σ H Q=>t σ H fun xs H1=>xs.length≤sizeLine∧∀ p,H1 p=none→Q (.ref p) (upd H1 p (.lst xs))
theorem pe_tup {x1} (h:PA X es t):PE X (.Tuple es x1 pos) (tTup t):=by
  intro pins s σ H Q I hq
  refine wpAny_Tuple_spliced (thn (h pos pins s σ H _ I hq) fun us s1 ⟨xs,H1,I1,r,z,q⟩=>⟨by rw [← r.length]; exact z,?_⟩)
  have hf:H1 s1.heap.objs.size=none:=I1.hok.fresh (Nat.le_refl _)
  refine ⟨.ref s1.heap.objs.size,upd H1 s1.heap.objs.size (.tup xs),I1.laid (t':=s1.toks) (fun b u e=>Heap.get?_push_of_some _ e) (Nat.le_refl _) ?_,rfl,q _ hf⟩
  exact ⟨z,us,r,⟨_,Heap.get?_push_size _ rfl,rfl,_,rfl⟩⟩
theorem pe_lst (h:PA X es t):PE X (.List es pos) (tLst t):=by
  intro pins s σ H Q I hq
  refine wpAny_List_spliced (thn (h pos pins s σ H _ I hq) fun us s1 ⟨xs,H1,I1,r,z,q⟩=>⟨by rw [← r.length]; exact z,?_⟩)
  have hf:H1 s1.heap.objs.size=none:=I1.hok.fresh (Nat.le_refl _)
  refine ⟨.ref s1.heap.objs.size,upd H1 s1.heap.objs.size (.lst xs),I1.laid (t':=s1.toks) (fun b u e=>Heap.get?_push_of_some _ e) (Nat.le_refl _) ?_,rfl,q _ hf⟩
  exact ⟨z,us,0,r,Heap.get?_push_size _ rfl⟩
end



abbrev Sp:=List V→Hp→VK→XK→Prop

abbrev CXT:=List Env→Hp→Shared→XK→Value→Shared→Prop


structure Env0 (P:Program) (w:World) (K:PySem.W.Frag) (mg:Str→Option Value) (base:Heap) (A:Around) (outer:List Env) (s:Shared) (H:Hp):Prop where
  frames:A.frames=some outer
  mod:Mod K mg base
  bs:∀ b o,base.get? b=some o→s.heap.get? b=some o∧H b=none
  bsz:base.objs.size≤s.heap.objs.size
  funs:s.heap.FunFrames base outer
  frf:∀ b∈frs outer,H b=none
  hok:HOk P w H s.heap
  bare:AllBare s.gens

def CE (outer:List Env) (P:Program) (w:World) (H:Hp) (s:Shared) (Q:VK) (u:Value) (s':Shared):Prop :=
  ∃ v H',s'.os=s.os∧AllBare s'.gens∧Un (frs outer) [] H H' s.heap s'.heap∧HOk P w H' s'.heap∧RelV v u∧Q v H'
def CR (CX:CXT) (outer:List Env) (P:Program) (w:World) (H:Hp) (s:Shared) (Q:VK) (E:XK) (r:Result) (s':Shared):Prop :=
  match r with
  | .ok (.ret u)=>CE outer P w H s Q u s'
  | .ok _=>False
  | .error e=>CX outer H s E e s'
structure FnOk (P:Program) (w:World) (K:PySem.W.Frag) (mg:Str→Option Value) (base:Heap) (CX:CXT) (k:Nat) (f:Addr) (fd:FuncData) (ps:List Str) (sp:Sp):Prop where
  len:∀ vs H Q E,sp vs H Q E→vs.length=ps.length
  run:∀ (A:Around) (outer:List Env) (s:Shared) (H:Hp) (args:Args) (us:List Value) (vs:List V) (Q:VK) (E:XK),Room k A→Env0 P w K mg base A outer s H→BindsTo s fd args (ps.zip us)→Vals vs us→sp vs H Q E →
    codeAny (model P w) A (.call (.ref f) args) (CR CX outer P w H s Q E) s
section
variable {X:Cx} {pins:List (Addr × Obj)} {σ:St} {H:Hp} {s s':Shared}

theorem Inv.env0 (I:Inv X pins σ H s):Env0 X.prog X.w X.K X.mg X.base X.A X.stack s H :=
  ⟨I.ok.frames,I.ok.mod,I.bs,Nat.le_trans I.ok.bsz I.sz,I.stack,I.stkFree,I.hok,I.bare⟩

theorem Inv.after {Q:VK} {u:Value} (I:Inv X pins σ H s) (h:CE X.stack X.prog X.w H s Q u s'):EP X pins σ Q u s':=by
  obtain ⟨v,H',os,bare,un,hok,r,q⟩:=h
  obtain ⟨hh,g,d,t,os'⟩:=s'
  obtain rfl:os'=s.os:=os
  exact ⟨v,H',I.call (h':=hh) (g':=g) (d':=d) (t':=t) (ch:=[]) un hok bare (fun b z=>absurd z (by simp)),r,q⟩
end



def tCall (sp:Sp) (dvs:List V) (E:XK) (t:TA):TE:=fun σ H Q=>t σ H fun vs H1=>sp (vs++dvs) H1 Q E

def Binds (K:PySem.W.Frag) (fd:FuncData) (ps:List Str) (ds:List Value):Prop :=
  ∀ (s:Shared) (us:List Value),K.In s.heap→(us++ds).length=ps.length→BindsTo s fd ⟨us,[]⟩ (ps.zip (us++ds))

theorem Binds.all {K:PySem.W.Frag} {fd:FuncData} {ps:List Str} (h:∀ us:List Value,us.length=ps.length→bindArgs fd ⟨us,[]⟩=pure (ps.zip us)):Binds K fd ps []:=fun s us _ hl=>by
  rw [List.append_nil] at hl ⊢
  exact .of_eq (h us hl)


def Passes (CX:CXT) (X:Cx) (E:XK):Prop:=∀ (pins:List (Addr × Obj)) (σ:St) (H:Hp) (s:Shared) (e:Value) (s':Shared),Inv X pins σ H s→CX X.stack H s E e s'→X.xe e s'

section
variable {X:Cx} {CX:CXT} {k:Nat} {f C:Addr} {fd:FuncData} {ps:List Str} {sp:Sp} {dvs:List V} {ds:List Value} {E:XK} {x m:Str} {p pos apos:Pos} {e o:Expr} {es:List Expr} {ta:TE} {t:TA}


theorem run_fn {pins:List (Addr × Obj)} {σ:St} {H:Hp} {s:Shared} {Q:VK} {us:List Value} {vs:List V} (F:FnOk X.prog X.w X.K X.mg X.base CX k f fd ps sp) (hr:Room k X.A) (hb:Binds X.K fd ps ds) (hd:Vals dvs ds) (hx:Passes CX X E)
    (I:Inv X pins σ H s) (r:Vals vs us) (h:sp (vs++dvs) H Q E):wpAny (model X.prog X.w) X.A (call (.ref f) us) (EP X pins σ Q) X.xe s:=by
  have r2:Vals (vs++dvs) (us++ds):=r.append hd
  have hl:(us++ds).length=ps.length:=by rw [← r2.length]; exact F.len _ _ _ _ h
  refine wpAny_call (codeAny_mono (F.run X.A X.stack s H ⟨us,[]⟩ (us++ds) (vs++dvs) Q E hr I.env0 (hb s us I.kIn hl) r2 h) fun r s' hq => ?_)
  cases r with
  | error e=>exact hx pins σ H s e s' I hq
  | ok fl =>
    cases fl with
    | ret u=>exact I.after hq
    | next=>exact False.elim hq
    | brk=>exact False.elim hq
    | cont=>exact False.elim hq

theorem pe_call (F:FnOk X.prog X.w X.K X.mg X.base CX k f fd ps sp) (hr:Room k X.A) (hg:Gl X x) (hm:X.mg x=some (.ref f)) (hk:PySem.W.keepIn X.K (.ref f)=true) (hb:Binds X.K fd ps ds) (hd:Vals dvs ds) (hx:Passes CX X E)
    (ha:PA X (e::es) t) (hdb:(x == ("__debug__" : Str))=false:=by decide) (he:starEach (e::es) X.env=(false,eval e X.env)::starEach es X.env:=by rfl) (hpl:(backTo pos (starEach es X.env)).any (·.1)=false:=by rfl) :
    PE X (.Call (.Name x p) (e::es) [] pos) (tCall sp dvs E t):=by
  intro pins s σ H Q I h
  refine wpAny_Call_Name_kw (ld_glob I hg hm ?_ hdb)
  refine PySem.W.callWith_K (h₀:=X.base) I.ok.mod.kin hk (thn (ha pos pins s σ H _ I h) fun us s1 ⟨vs,H1,I1,r,q⟩=>⟨I1.kIn,?_⟩) he hpl
  exact run_fn F hr hb hd hx I1 r q
end



section
variable {X:Cx} {CX:CXT} {k:Nat} {f C:Addr} {fd:FuncData} {ps ks:List Str} {sp:Sp} {E:XK} {x m:Str} {p pos apos kpos:Pos} {e o:Expr} {es:List Expr} {kws:List Keyword} {te ta:TE} {t tk:TA} {nm:Option Str}
variable {g:List Value→List Value→List Value} {gV:List V→List V→List V}
end



structure FnScope (N P:List Str) (sc:Scope):Prop where
  kind:sc.kind=.function
  co:sc.isCoroutine=false
  gen:sc.isGenerator=false
  nd:N.Nodup
  pre:N.take P.length=P
  par:∀ x∈P,sc.names.lookup x=some .local∨sc.names.lookup x=some .cell
  nofree:∀ y∈sc.names,y.2≠.free

theorem bindL_out {kindOf:Str→Option NameKind} {x:Str}:∀ {binds:List (Str × Value)} {m:Str→Option Value},(∀ v,(x,v)∉binds)→bindL kindOf binds m x=m x
  | [],_,_=>rfl
  | (n,v)::r,m,h=>by
    unfold bindL
    rw [bindL_out fun w hw=>h w (List.mem_cons_of_mem _ hw)]
    split
    · have:x≠n:=by rintro rfl; exact h v List.mem_cons_self
      simp [this]
    · rfl
theorem bindC_out {kindOf:Str→Option NameKind} {x:Str}:∀ {binds:List (Str × Value)} {m:Str→Option Value},(∀ v,(x,v)∉binds)→bindC kindOf binds m x=m x
  | [],_,_=>rfl
  | (n,v)::r,m,h=>by
    unfold bindC
    rw [bindC_out fun w hw=>h w (List.mem_cons_of_mem _ hw)]
    split
    · rfl
    · have:x≠n:=by rintro rfl; exact h v List.mem_cons_self
      simp [this]
theorem bindL_get {kindOf:Str→Option NameKind} {x:Str} {v:Value}:∀ {P:List Str} {vs:List Value} {i:Nat} {m:Str→Option Value},P.Nodup→P[i]? = some x→vs[i]? = some v→kindOf x=some .local →
    bindL kindOf (P.zip vs) m x=some v
  | [],_,_,_,_,h,_,_=>by simp at h
  | _::_,[],_,_,_,_,h,_=>by simp at h
  | p::P,w::vs,0,m,nd,h1,h2,hk=>by
    simp at h1 h2; subst h1; subst h2
    show bindL kindOf ((p,w)::P.zip vs) m p=_
    unfold bindL
    rw [bindL_out fun v hv=>(List.nodup_cons.mp nd).1 (List.of_mem_zip hv).1,if_pos hk]
    simp
  | p::P,w::vs,i + 1,m,nd,h1,h2,hk=>by
    show bindL kindOf ((p,w)::P.zip vs) m x=_
    unfold bindL
    exact bindL_get (i:=i) (List.nodup_cons.mp nd).2 (by simpa using h1) (by simpa using h2) hk
theorem bindC_get {kindOf:Str→Option NameKind} {x:Str} {v:Value}:∀ {P:List Str} {vs:List Value} {i:Nat} {m:Str→Option Value},P.Nodup→P[i]? = some x→vs[i]? = some v→kindOf x≠some .local →
    bindC kindOf (P.zip vs) m x=some v
  | [],_,_,_,_,h,_,_=>by simp at h
  | _::_,[],_,_,_,_,h,_=>by simp at h
  | p::P,w::vs,0,m,nd,h1,h2,hk=>by
    simp at h1 h2; subst h1; subst h2
    show bindC kindOf ((p,w)::P.zip vs) m p=_
    unfold bindC
    rw [bindC_out fun v hv=>(List.nodup_cons.mp nd).1 (List.of_mem_zip hv).1,if_neg hk]
    simp
  | p::P,w::vs,i + 1,m,nd,h1,h2,hk=>by
    show bindC kindOf ((p,w)::P.zip vs) m x=_
    unfold bindC
    exact bindC_get (i:=i) (List.nodup_cons.mp nd).2 (by simpa using h1) (by simpa using h2) hk


def start (N:List Str) (vs:List V):St:=vs.map some++List.replicate (N.length - vs.length) none


def cxOf (CX:CXT) (P:Program) (w:World) (K:PySem.W.Frag) (mg:Str→Option Value) (base:Heap) (N:List Str) (qual:Str) (scope:Scope) (f:Addr) (cd:Value) (A:Around) (outer:List Env) (s:Shared) (H:Hp) (E:XK):Cx where
  prog:=P
  w:=w
  K:=K
  mg:=mg
  base:=base
  A:=A.deeper (envOfC qual scope s.heap.objs.size f cd)
  N:=N
  s₀:=s
  H₀:=H
  env:=envOfC qual scope s.heap.objs.size f cd
  outer:=outer
  stack:=envOfC qual scope s.heap.objs.size f cd::outer
  ex:=[]
  calm:=true
  fn:=fun _=>true
  pn:=[]
  xe:=fun e s'=>wpAny (model P w) (A.deeper (envOfC qual scope s.heap.objs.size f cd)) (leaving (envOfC qual scope s.heap.objs.size f cd) e) (fun _ s''=>CX outer H s E e s'') (fun e' s''=>CX outer H s E e' s'') s'

theorem cell_has {sc:Scope} {n:Nat} {x:Str} (h:sc.names.lookup x=some .cell):∃ c,(cellsFrom n sc.names []).lookup x=some c:=by
  have q:=PySem.W.cellsFrom_some sc.names n [] (.inl h)
  exact Option.isSome_iff_exists.mp q

theorem inv_start {CX:CXT} {P:Program} {w:World} {K:PySem.W.Frag} {mg:Str→Option Value} {base:Heap} {N ps:List Str} {qual:Str} {scope:Scope} {f:Addr} {cd:Value} {A:Around} {outer:List Env} {s s1:Shared} {H:Hp} {E:XK} {us:List Value} {vs:List V}
    (S:FnScope N ps scope) (hd:A.handled=none) (e0:Env0 P w K mg base A outer s H) (hl:vs.length=ps.length) (r:Vals vs us)
    (x:InCallC s s.heap.objs.size (bindL (envOfC qual scope s.heap.objs.size f cd).kindOf (ps.zip us) fun _=>none) (cellsFrom (s.heap.objs.size + 1) scope.names []) (bindC (envOfC qual scope s.heap.objs.size f cd).kindOf (ps.zip us) fun _=>none) s1) :
    Inv (cxOf CX P w K mg base N qual scope f cd A outer s H E) [] (start N vs) H s1:=by
  have hpl:ps.length≤N.length:=by have:=congrArg List.length S.pre; rw [List.length_take] at this; omega
  obtain ⟨h1,tk,rfl,hk⟩:=x.done
  have noA:∀ b:Addr,b∉(cxOf CX P w K mg base N qual scope f cd A outer s H E).ex:=fun b z=>absurd (show b∈([]:List Addr) from z) (by simp)
  refine ⟨⟨e0.mod,S.kind,rfl,rfl,Nat.le_refl _,fun y z c h1 h2 => ?_,fun y hy => ?_,fun y c _ h => ?_,fun _=>hd,Around.frames_deeper e0.frames,.inr ⟨rfl,rfl⟩,fun b z=>absurd z (noA b),e0.bs,e0.bsz,fun b _ _=>noA b,fun b z=>absurd z (noA b),e0.funs,e0.frf⟩,
    rfl,e0.bare,Un.kept hk,⟨_,x.toInCall.ns,fun i y v h1 h2 h3 => ?_⟩,fun y c h=>⟨_,x.cell y c h⟩,e0.hok.fresh (Nat.le_refl _),fun y c h => ?_,fun p hp=>absurd (show p∈([]:List (Addr × Obj)) from hp) (by simp),e0.hok.kept hk,?_⟩
  · exact name_of_addr x.apart (PySem.mem_of_lookup h1) (PySem.mem_of_lookup h2)
  · have hy:scope.names.lookup y=some .cell∨scope.names.lookup y=some .free:=hy
    rcases hy with hy | hy
    · exact cell_has hy
    · exact absurd rfl (S.nofree _ (PySem.mem_of_lookup hy))
  · exact Nat.le_of_lt (x.above y c (PySem.mem_of_lookup h))
  · have hi:i < vs.length:=by
      unfold start at h2
      by_cases hi:i < vs.length
      · exact hi
      · rw [List.getElem?_append_right (by simpa using hi)] at h2
        rw [List.getElem?_replicate] at h2
        split at h2 <;> cases h2
    have ha:vs[i]? = some v:=by
      unfold start at h2
      rw [List.getElem?_append_left (by simpa using hi),List.getElem?_map] at h2
      cases e:vs[i]? with
      | none=>rw [e] at h2; cases h2
      | some a=>rw [e] at h2; cases h2; rfl
    obtain ⟨u,hu,rv⟩:=r.get ha
    have hp:ps[i]? = some y:=by
      rw [← S.pre,List.getElem?_take_of_lt (by omega)]; exact h1
    have ndP:ps.Nodup:=by rw [← S.pre]; exact S.nd.sublist (List.take_sublist _ _)
    refine ⟨u,rv,?_⟩
    rcases S.par y (List.mem_of_getElem? hp) with k | k
    · exact .inl ⟨k,bindL_get ndP hp hu k⟩
    · obtain ⟨c,e⟩:=cell_has (n:=s.heap.objs.size + 1) k
      refine .inr ⟨.inl k,c,e,?_⟩
      have q:=x.cell y c e
      rw [bindC_get ndP hp hu (by show scope.names.lookup y≠_; rw [k]; decide)] at q
      exact q
  · exact e0.hok.fresh (Nat.le_of_lt (x.above y c (PySem.mem_of_lookup h)))
  · unfold start
    show _=N.length
    rw [List.length_append,List.length_map,List.length_replicate]
    omega


theorem fn_of {CX:CXT} {P:Program} {w:World} {K:PySem.W.Frag} {mg:Str→Option Value} {base:Heap} {k:Nat} {f:Addr} {name qual:Str} {params:Arguments} {body:List Stmt} {scope:Scope} {dV kV doc pm cdv ct oc:Value} {an od:Option Addr}
    {osl:Array (Option Value)} {N ps:List Str} {sp:Sp} (lk:K.lookup f=some ⟨oc,od,.func (PySem.W.fnOf name qual params body scope dV kV doc pm an cdv ct),osl⟩) (hcd:PySem.W.codeIn K cdv qual=true) (S:FnScope N ps scope)
    (len:∀ vs H Q E,sp vs H Q E→vs.length=ps.length)
    (hbody:∀ (A:Around) (outer:List Env) (s:Shared) (H:Hp) (vs:List V) (Q:VK) (E:XK),Room k (A.deeper (envOfC qual scope s.heap.objs.size f cdv))→sp vs H Q E →
      ∃ t,PSs (cxOf CX P w K mg base N qual scope f cdv A outer s H E) body t∧t { nx:=fun _ H'=>Q .non H',rt:=Q } (start N vs) H) :
    FnOk P w K mg base CX (k + 1) f (PySem.W.fnOf name qual params body scope dV kV doc pm an cdv ct) ps sp:=by
  refine ⟨len,fun A outer s H args us vs Q E hr e0 hb r hsp => ?_⟩
  have hl:=len _ _ _ _ hsp
  have KX:K.In s.heap:=e0.mod.kin.keeps fun b o e=>(e0.bs b o e).1
  have lim:s.heap.NoLimit:=e0.mod.nolimit.keeps fun b o e=>(e0.bs b o e).1
  have hkind:∀ y∈ps.zip us,scope.names.lookup y.1=some .local∨(scope.names.lookup y.1=some .cell∧((cellsFrom (s.heap.objs.size + 1) scope.names []).lookup y.1).isSome=true):=fun ⟨n,v⟩ hy=>by
    rcases S.par n (List.of_mem_zip hy).1 with q | q
    · exact .inl q
    · exact .inr ⟨q,PySem.W.cellsFrom_some _ _ _ (.inl q)⟩
  refine codeAny_call_function hr.depth (KX _ _ lk) rfl S.co S.gen rfl (PySem.W.codeRec_of KX hcd) (hb _ _ _ _ ?_)
  refine wpAny_newFunctionEnv_cells S.kind hkind fun env he s1 x => ?_
  subst he
  refine ⟨lim.keeps x.toInCall.keep,codeAny_func ?_⟩
  obtain ⟨t,ht,hq⟩:=hbody A outer s H vs Q E (hr.deeper _) hsp
  have I:Inv (cxOf CX P w K mg base N qual scope f cdv A outer s H E) [] (start N vs) H s1:=inv_start S hr.hd e0 hl r x
  refine wpAny_mono (ht [] s1 (start N vs) H _ I hq) (fun fl s' hs => ?_) fun e s' hs=>hs
  have fin:∀ {σ':St} {H':Hp} {v:V} {u:Value},Inv (cxOf CX P w K mg base N qual scope f cdv A outer s H E) [] σ' H' s'→RelV v u→Q v H'→CE outer P w H s Q u s' :=
    fun {σ' H' v u} J rv q=>⟨v,H',J.os,J.bare,J.base,J.hok,rv,q⟩
  cases fl with
  | ret u =>
    obtain ⟨v,σ',H',J,rv,q⟩:=hs
    exact fin J rv q
  | next =>
    obtain ⟨σ',H',J,q⟩:=hs
    exact fin (v:=V.non) (u:=Value.none) J rfl q
  | brk =>
    obtain ⟨_,_,_,q⟩:=hs
    exact False.elim q
  | cont =>
    obtain ⟨_,_,_,q⟩:=hs
    exact False.elim q
end L2

namespace L2
open PySem PySem.Spec PyProof.Rows
section
variable {X:Cx} {x:Str} {p pos:Pos} {e:Expr} {es:List Expr} {t:TA} {id T:String} {r:List V→Hp→VK→Prop}

def tCB (r:List V→Hp→VK→Prop) (t:TA):TE:=fun σ H Q=>t σ H fun vs H1=>r vs H1 Q

theorem pe_callB (hc:CallR X (.builtin id) r) (hg:Gl X x) (hm:X.mg x=none) (hv:bootBuiltins x=some (.builtin id)) (ha:PA X (e::es) t) (hn:x ≠ "__name__" := by decide) (hdb:(x == ("__debug__" : Str))=false:=by decide)
    (he:starEach (e::es) X.env=(false,eval e X.env)::starEach es X.env:=by rfl) (hpl:(backTo pos (starEach es X.env)).any (·.1)=false:=by rfl):PE X (.Call (.Name x p) (e::es) [] pos) (tCB r t):=by
  intro pins s σ H Q I h
  refine wpAny_Call_Name_kw (ld_blt I hg hm hv ?_ hn hdb)
  exact PyProof.Rows.callWith_builtin1 (thn (ha pos pins s σ H _ I h) fun us s1 ⟨vs,H1,I1,r1,q1⟩=>hc pins s1 σ H1 vs us Q I1 r1 q1) he hpl

theorem pe_callTy (hc:CallR X (.type T) r) (hg:Gl X x) (hm:X.mg x=none) (hv:bootBuiltins x=some (.type T)) (ha:PA X (e::es) t) (hn:x ≠ "__name__" := by decide) (hdb:(x == ("__debug__" : Str))=false:=by decide)
    (he:starEach (e::es) X.env=(false,eval e X.env)::starEach es X.env:=by rfl) (hpl:(backTo pos (starEach es X.env)).any (·.1)=false:=by rfl):PE X (.Call (.Name x p) (e::es) [] pos) (tCB r t):=by
  intro pins s σ H Q I h
  refine wpAny_Call_Name_kw (ld_blt I hg hm hv ?_ hn hdb)
  exact PyProof.Rows.callWith_type1 (thn (ha pos pins s σ H _ I h) fun us s1 ⟨vs,H1,I1,r1,q1⟩=>hc pins s1 σ H1 vs us Q I1 r1 q1) he hpl

end
end L2

namespace HT
open PySem PyProof.Rows


section
open PySem.SeqAt
open PySem.AutoSeq1 (wpAny_loadPart')
open PySem.MeetsSeq PySem.MeetsSeq2 PySem.MeetsSeq3

end

section
variable {prog:Program} {w:World} {A:Around} {E:Value→Shared→Prop} {s:Shared}

def sIx (n d:Nat):Option Int→Nat
  | none=>d
  | some v=>if v < 0 then (v + (n:Int)).toNat else min v.toNat n
end
end HT

namespace L2
open PySem PySem.Spec PyProof.Rows


abbrev TO:=St→Hp→(Option Int→Hp→Prop)→Prop

def PO (X:Cx) (e:Option Expr) (t:TO):Prop :=
  ∀ (pins:List (Addr × Obj)) (s:Shared) (σ:St) (H:Hp) (Q:Option Int→Hp→Prop),Inv X pins σ H s→t σ H Q →
    wpAny (model X.prog X.w) X.A (evalPart e X.env) (fun u s'=>∃ o H',Inv X pins σ H' s'∧IsPart u o∧Q o H') X.xe s
def tNoPart:TO:=fun _ H Q=>Q none H
def tPart (t:TE):TO:=fun σ H Q=>t σ H fun x H1=>∃ i,x=.int i∧Q (some i) H1

section
variable {X:Cx} {e:Expr} {te:TE} {lo hi:Option Expr} {tl th:TO} {pos p2:Pos}

theorem po_none:PO X none tNoPart:=by
  intro pins s σ H Q I h
  rw [evalPart_none]
  exact wpAny_pure ⟨none,H,I,.none,h⟩
theorem po_some (h:PE X e te):PO X (some e) (tPart te):=by
  intro pins s σ H Q I hw
  rw [evalPart_some]
  refine thn (h pins s σ H _ I hw) fun u s1 ⟨x,H1,I1,r1,q1⟩ => ?_
  obtain ⟨i,rfl,q⟩:=q1
  obtain ⟨t,rfl⟩:=r1
  exact ⟨some i,H1,I1,.int i t,q⟩


def SlR (X:Cx) (r:V→Option Int→Option Int→Hp→VK→Prop):Prop :=
  ∀ (pins:List (Addr × Obj)) (s:Shared) (σ:St) (H:Hp) (x:V) (v vl vu:Value) (lo hi:Option Int) (sl:Addr) (Q:VK),Inv X pins σ H s→RelV x v→s.heap.IsSliceOf sl vl vu .none→IsPart vl lo→IsPart vu hi→r x lo hi H Q →
    ∃ T id,typeLookup (.type T) "__getitem__" = pure (some (.builtin id))∧s.TypeIs v T∧wpAny (model X.prog X.w) X.A (getItem v (.ref sl)) (EP X pins σ Q) X.xe s
def tSl (r:V→Option Int→Option Int→Hp→VK→Prop) (te:TE) (tl th:TO):TE:=fun σ H Q=>te σ H fun x H1=>tl σ H1 fun l H2=>th σ H2 fun u H3=>r x l u H3 Q

theorem pe_slice {r:V→Option Int→Option Int→Hp→VK→Prop} (hr:SlR X r) (he:PE X e te) (hl:PO X lo tl) (hu:PO X hi th):PE X (.Subscript e (.Slice lo hi none p2) pos) (tSl r te tl th):=by
  intro pins s σ H Q I h
  refine Subscript_ (thn (he pins s σ H _ I h) fun v s1 ⟨x,H1,I1,r1,q1⟩ => ?_)
  refine wpAny_Slice (thn (hl pins s1 σ H1 _ I1 q1) fun vl s2 ⟨l,H2,I2,pl,q2⟩=>thn (hu pins s2 σ H2 _ I2 q2) fun vu s3 ⟨u,H3,I3,pu,q3⟩ => ?_)
  rw [evalPart_none]
  refine wpAny_pure ?_
  have I4:Inv X pins σ H3 { s3 with heap:=s3.heap.push { cls:=.type "slice",data:=.fields #[vl,vu,.none] } }:=I3.kept (t':=s3.toks) fun b ob q=>Heap.get?_push_of_some _ q
  obtain ⟨T,id,hT,ht,hg⟩:=hr pins { s3 with heap:=s3.heap.push { cls:=.type "slice",data:=.fields #[vl,vu,.none] } } σ H3 x v vl vu l u s3.heap.objs.size Q I4 r1 (Heap.IsSliceOf.new ..) pl pu q3
  show wpAny (model X.prog X.w) X.A (subscriptTail e (.Slice lo hi none p2) v (.ref s3.heap.objs.size)) (EP X pins σ Q) X.xe { s3 with heap:=s3.heap.push { cls:=.type "slice",data:=.fields #[vl,vu,.none] } }
  exact tail_any (ops:=[.ref s3.heap.objs.size,v]) ht hT hg (by with_unfolding_all rfl)


def cutV (xs:List V) (lo hi:Option Int):List V:=(xs.drop (HT.sIx xs.length 0 lo)).take (HT.sIx xs.length xs.length hi - HT.sIx xs.length 0 lo)
theorem cutV_length (xs:List V) (lo hi:Option Int):(cutV xs lo hi).length≤xs.length:=by
  unfold cutV
  rw [List.length_take,List.length_drop]
  omega

end
end L2

namespace L2
open PySem PySem.Spec PyProof.Rows



def ixN (n:Nat) (i:Int):Option Nat:=if 0≤i then (if i < n then some i.toNat else none) else if -(n:Int)≤i then some (i + n).toNat else none
def atI {α:Type} (xs:List α) (i:Int):Option α:=(ixN xs.length i).bind fun j=>xs[j]?
theorem ixN_seq {n:Nat} {i:Int} {j:Nat} (h:ixN n i=some j):seqIndex? i n=some j∧j < n∧-(n:Int)≤i∧i < n:=by
  unfold ixN at h
  by_cases h0:0≤i
  · rw [if_pos h0] at h
    by_cases h1:i < n
    · rw [if_pos h1] at h
      have e:i.toNat=j:=Option.some.inj h
      exact ⟨by rw [seqIndex_of h0 h1,e],by omega,by omega,h1⟩
    · rw [if_neg h1] at h; cases h
  · rw [if_neg h0] at h
    by_cases h1:-(n:Int)≤i
    · rw [if_pos h1] at h
      have e:(i + n).toNat=j:=Option.some.inj h
      exact ⟨by rw [seqIndex_neg (by omega) h1,e],by omega,h1,by omega⟩
    · rw [if_neg h1] at h; cases h
theorem atI_get {α:Type} {xs:List α} {i:Int} {v:α} (h:atI xs i=some v):∃ j,seqIndex? i xs.length=some j∧xs[j]? = some v∧j < xs.length∧-(xs.length:Int)≤i∧i < xs.length:=by
  unfold atI at h
  cases e:ixN xs.length i with
  | none=>rw [e] at h; cases h
  | some j =>
    rw [e] at h
    obtain ⟨h1,h2,h3,h4⟩:=ixN_seq e
    exact ⟨j,h1,h,h2,h3,h4⟩
theorem atI_nat {α:Type} {xs:List α} {j:Nat} {v:α} (h:xs[j]? = some v):atI xs (j:Int)=some v:=by
  have hj:j < xs.length:=(List.getElem?_eq_some_iff.mp h).1
  have e:ixN xs.length (j:Int)=some j:=by
    unfold ixN
    rw [if_pos (by omega),if_pos (by omega)]; simp
  unfold atI; rw [e]; exact h
def PlainIx (b:Expr):Prop:=∀ o i,subscripted b false o i=operate [o,i] (getItem o i)

def IxR (X:Cx) (r:R2):Prop :=
  ∀ (value slice:Expr) (pins:List (Addr × Obj)) (s:Shared) (σ:St) (H:Hp) (x y:V) (v u:Value) (Q:VK),Inv X pins σ H s→RelV x v→RelV y u→r x y H Q →
    subscripted slice false v u=operate [v,u] (getItem v u)→wpAny (model X.prog X.w) X.A (subscriptTail value slice v u) (EP X pins σ Q) X.xe s

def MtR (X:Cx) (id:String) (r:V→List V→Hp→VK→Prop):Prop :=
  ∀ (pins:List (Addr × Obj)) (s:Shared) (σ:St) (H:Hp) (x:V) (xs:List V) (v:Value) (us:List Value) (Q:VK),Inv X pins σ H s→RelV x v→Vals xs us→r x xs H Q →
    wpAny (model X.prog X.w) X.A (call (.builtin id) (v::us)) (EP X pins σ Q) X.xe s
section
variable {X:Cx} {a b:Expr} {ta tb:TE} {pos:Pos}
theorem pe_ix {r:R2} (hr:IxR X r) (ha:PE X a ta) (hb:PE X b tb) (hs:PlainIx b):PE X (.Subscript a b pos) (tOp r ta tb):=by
  intro pins s σ H Q I h
  exact Subscript_ (binT ha hb I h fun v u s2 x y H2 I2 rx ry q=>hr a b pins s2 σ H2 x y v u Q I2 rx ry q (hs _ _))

def rIxL (K:PySem.W.Frag):R2:=fun x y H Q=>∃ p xs i v,x=.ref p∧y=.int i∧SqL K H p xs∧atI xs i=some v∧Q v H
def rIxT (K:PySem.W.Frag):R2:=fun x y H Q=>∃ p xs i v,x=.ref p∧y=.int i∧SqT K H p xs∧atI xs i=some v∧Q v H
def rIxS:R2:=fun x y H Q=>∃ z i c,x=.str z∧y=.int i∧z.length≤sizeLine∧atI z.cps.toList i=some c∧Q (.str ⟨#[c]⟩) H
theorem ix_list:IxR X (rIxL X.K):=by
  intro value slice pins s σ H x y v u Q I rx ry h hs
  obtain ⟨p,xs,i,z,rfl,rfl,hq,he,q⟩:=h
  cases rx
  obtain ⟨t,rfl⟩:=ry
  obtain ⟨its,r,pl,hz⟩:=I.list hq
  obtain ⟨j,h1,h2,h3,h4,h5⟩:=atI_get he
  obtain ⟨w,ew,rw'⟩:=r.get h2
  have hl:=r.length
  have hn:=line63
  have fin:EP X pins σ Q w s:=⟨z,H,I,rw',q⟩
  by_cases h0:0≤i
  · have hj:i.toNat=j:=by
      rw [seqIndex_of h0 h5] at h1
      exact Option.some.inj h1
    exact item_listR pl.isList h0 (by omega) (by rw [hj]; simpa using ew) fin hs
  · have hj:(i + (its.toArray.size:Int)).toNat=j:=by
      rw [seqIndex_neg (by omega) h4] at h1
      rw [List.size_toArray,← hl]
      exact Option.some.inj h1
    exact subscriptTail_builtinR (x:=w) pl.isList.typeIs slot_list_getitem.lookup
      (wpAny_getItem_list_neg (Q:=fun r s'=>r=w∧EP X pins σ Q r s') pl.isList (by omega) (by rw [List.size_toArray] <;> omega) (by omega) (by rw [hj]; simpa using ew) ⟨rfl,fin⟩) hs
theorem ix_tup:IxR X (rIxT X.K):=by
  intro value slice pins s σ H x y v u Q I rx ry h hs
  obtain ⟨p,xs,i,z,rfl,rfl,hq,he,q⟩:=h
  cases rx
  obtain ⟨t,rfl⟩:=ry
  obtain ⟨its,r,pl,hz⟩:=I.tuple hq
  obtain ⟨j,h1,h2,h3,h4,h5⟩:=atI_get he
  obtain ⟨w,ew,rw'⟩:=r.get h2
  have hl:=r.length
  have hn:=line63
  have fin:EP X pins σ Q w s:=⟨z,H,I,rw',q⟩
  exact subscriptTail_builtinR (x:=w) pl.typeIs slot_tuple_getitem.lookup
    (getItem_tuple (j:=j) (Q:=fun r s'=>r=w∧EP X pins σ Q r s') pl (by omega) (by omega) (by rw [List.size_toArray,← hl]; exact h1) (by simpa using ew) ⟨rfl,fin⟩) hs
theorem ix_str:IxR X rIxS:=by
  intro value slice pins s σ H x y v u Q I rx ry h hs
  obtain ⟨z,i,c,rfl,rfl,hz,he,q⟩:=h
  obtain ⟨t,rfl⟩:=rx
  obtain ⟨t',rfl⟩:=ry
  obtain ⟨j,h1,h2,h3,h4,h5⟩:=atI_get he
  have hl:z.cps.toList.length=z.length:=by simp [Str.length]
  rw [hl] at h1 h4 h5
  have hn:=line63
  exact tail_any (typeIs_str s z t) slot_str_getitem.lookup (getItem_str (c:=c) (by
    have e1:decide (i < -(2 ^ 63:Int))=false:=decide_eq_false (by omega)
    have e2:decide (i ≥ 2 ^ 63)=false:=decide_eq_false (by omega)
    rw [e1,e2,Bool.or_false]) (by rw [h1]; simpa using h2) ⟨.str ⟨#[c]⟩,H,I.tok _,⟨_,rfl⟩,q⟩) hs

theorem slice_bounds (lo hi:Option Int) (n:Nat):(sliceBounds lo hi none n).1=((HT.sIx n 0 lo:Nat):Int)∧(sliceBounds lo hi none n).2.1=((HT.sIx n n hi:Nat):Int)∧(sliceBounds lo hi none n).2.2=1:=by
  refine ⟨?_,?_,rfl⟩
  · cases lo with
    | none=>simp [sliceBounds,HT.sIx]
    | some i =>
      simp only [sliceBounds,HT.sIx,Option.getD_none,show (1:Int) > 0 by decide,if_true]
      by_cases h:i < 0
      · simp only [h,if_true] <;> omega
      · simp only [h,if_false] <;> omega
  · cases hi with
    | none=>simp [sliceBounds,HT.sIx]
    | some i =>
      simp only [sliceBounds,HT.sIx,Option.getD_none,show (1:Int) > 0 by decide,if_true]
      by_cases h:i < 0
      · simp only [h,if_true] <;> omega
      · simp only [h,if_false] <;> omega
theorem slicePick_cut (its:List Value) (lo hi:Option Int):slicePick its.toArray lo hi none=((its.drop (HT.sIx its.length 0 lo)).take (HT.sIx its.length its.length hi - HT.sIx its.length 0 lo)).toArray:=by
  obtain ⟨h1,h2,h3⟩:=slice_bounds lo hi its.toArray.size
  unfold slicePick
  rw [h1,h2,h3]
  simp only [sliceRange_one,pick_run,List.size_toArray] <;> rfl

def rSlL (K:PySem.W.Frag):V→Option Int→Option Int→Hp→VK→Prop:=fun x lo hi H Q=>∃ a xs,x=.ref a∧SqL K H a xs∧∀ p,H p=none→Q (.ref p) (upd H p (.lst (cutV xs lo hi)))
theorem sl_list:SlR X (rSlL X.K):=by
  intro pins s σ H x v vl vu lo hi sl Q I rx hs pl pu h
  obtain ⟨a,xs,rfl,hx,q⟩:=h
  cases rx
  obtain ⟨its,r,ht,hz⟩:=I.list hx
  have hlen:=r.length
  refine ⟨"list",_,slot_list_getitem.lookup,ht.isList.typeIs,?_⟩
  refine wpAny_getItem_list_slice ht.isList hs pl pu .none (by simp) ?_ (by rw [List.size_toArray] <;> omega)
  rw [slicePick_cut,← hlen]
  refine ⟨.ref s.heap.objs.size,_,I.laid (t':=s.toks) (o:=.lst (cutV xs lo hi)) (fun b ob q=>Heap.get?_push_of_some _ q) (Nat.le_refl _) ?_,rfl,q _ (I.hok.fresh (Nat.le_refl _))⟩
  exact ⟨Nat.le_trans (cutV_length xs lo hi) hz,_,0,(r.drop (HT.sIx xs.length 0 lo)).take (HT.sIx xs.length xs.length hi - HT.sIx xs.length 0 lo),Heap.get?_push_size _ rfl⟩


def flatV:V→Bool
  | .non=>true
  | .bl _=>true
  | .int _=>true
  | .str _=>true
  | _=>false

def eqV:V→V→Bool
  | .non,.non=>true
  | .bl a,.bl b=>a == b
  | .bl a,.int b=>(if a then 1 else 0) == b
  | .int a,.bl b=>a == (if b then 1 else 0)
  | .int a,.int b=>a == b
  | .str a,.str b=>a == b
  | _,_=>false
theorem eqAt_V {A:Around} {s:Shared} {y x:V} {u v:Value} (ry:RelV y u) (rx:RelV x v) (fy:flatV y=true) (fx:flatV x=true):SeqAt.EqAt A s u v (eqV y x):=by
  cases y with
  | non =>
    cases ry
    cases x with
    | non=>cases rx; exact SeqAt.EqAt.same _
    | bl b=>cases rx; exact SeqAt.EqAt.none_bool b
    | int b=>obtain ⟨t,rfl⟩:=rx; exact SeqAt.EqAt.none_int b t
    | str b=>obtain ⟨t,rfl⟩:=rx; exact SeqAt.EqAt.none_str b t
    | _=>exact absurd (show false=true from fx) Bool.false_ne_true
  | bl a =>
    cases ry
    cases x with
    | non=>cases rx; exact SeqAt.EqAt.bool_none a
    | bl b=>cases rx; exact SeqAt.EqAt.bool_bool a b
    | int b=>obtain ⟨t,rfl⟩:=rx; exact SeqAt.EqAt.bool_int a b t
    | str b=>obtain ⟨t,rfl⟩:=rx; exact SeqAt.EqAt.bool_str a b t
    | _=>exact absurd (show false=true from fx) Bool.false_ne_true
  | int a =>
    obtain ⟨t',rfl⟩:=ry
    cases x with
    | non=>cases rx; exact SeqAt.EqAt.int_none a t'
    | bl b=>cases rx; exact SeqAt.EqAt.int_bool a t' b
    | int b=>obtain ⟨t,rfl⟩:=rx; exact SeqAt.EqAt.int_int a t' b t
    | str b=>obtain ⟨t,rfl⟩:=rx; exact SeqAt.EqAt.int_str a t' b t
    | _=>exact absurd (show false=true from fx) Bool.false_ne_true
  | str a =>
    obtain ⟨t',rfl⟩:=ry
    cases x with
    | non=>cases rx; exact SeqAt.EqAt.str_none a t'
    | bl b=>cases rx; exact SeqAt.EqAt.str_bool a t' b
    | int b=>obtain ⟨t,rfl⟩:=rx; exact SeqAt.EqAt.str_int a t' b t
    | str b=>obtain ⟨t,rfl⟩:=rx; exact SeqAt.EqAt.str_str a t' b t
    | _=>exact absurd (show false=true from fx) Bool.false_ne_true
  | _=>exact absurd (show false=true from fy) Bool.false_ne_true

def eqU (x:V) (u:Value):Bool:=match u with
  | .none=>eqV .non x
  | .bool b=>eqV (.bl b) x
  | .int i _=>eqV (.int i) x
  | .str z _=>eqV (.str z) x
  | _=>false
theorem eqU_of {x y:V} {u:Value} (r:RelV y u) (f:flatV y=true):eqU x u=eqV y x:=by
  cases y with
  | non=>cases r; rfl
  | bl b=>cases r; rfl
  | int i=>obtain ⟨t,rfl⟩:=r; rfl
  | str z=>obtain ⟨t,rfl⟩:=r; rfl
  | _=>exact absurd (show false=true from f) Bool.false_ne_true
theorem any_eqU {x:V}:∀ {xs:List V} {us:List Value},Vals xs us→xs.all flatV=true→us.any (eqU x)=xs.any fun y=>eqV y x
  | _,_,.nil,_=>rfl
  | y::xs,u::us,.cons r t,f=>by
    rw [List.all_cons,Bool.and_eq_true] at f
    rw [List.any_cons,List.any_cons,eqU_of r f.1,any_eqU t f.2]
theorem mem_eqAt {A:Around} {s:Shared} {x:V} {v:Value} (rx:RelV x v) (fx:flatV x=true):∀ {xs:List V} {us:List Value},Vals xs us→xs.all flatV=true→∀ u∈us,SeqAt.EqAt A s u v (eqU x u)
  | _,_,.nil,_=>fun u hu=>by cases hu
  | y::xs,u::us,.cons r t,f=>fun u' hu=>by
    rw [List.all_cons,Bool.and_eq_true] at f
    rcases List.mem_cons.mp hu with rfl | hu
    · rw [eqU_of r f.1]; exact eqAt_V r rx f.1 fx
    · exact mem_eqAt rx fx t f.2 u' hu
def inV (x:V) (xs:List V):Bool:=xs.any fun y=>eqV y x

def rIn (K:PySem.W.Frag) (neg:Bool):R2:=fun x y H Q=>∃ p xs,y=.ref p∧(SqL K H p xs∨SqT K H p xs)∧flatV x=true∧xs.all flatV=true∧Q (.bl (if neg then !inV x xs else inV x xs)) H
theorem op_in_seq:OpR X (compareOp .In) (rIn X.K false):=by
  intro pins s σ H x y v u Q I rx ry h
  obtain ⟨p,xs,rfl,hq,fx,fs,q⟩:=h
  cases ry
  rcases hq with hq | hq
  · obtain ⟨its,r,pl,hz⟩:=I.list hq
    refine SeqAt.in_listAt (eqU x) pl.isList (fun w hw=>mem_eqAt rx fx r fs w (by simpa using hw)) ⟨.bl _,H,I,rfl,?_⟩
    rw [show its.toArray.any (eqU x)=its.any (eqU x) by simp,any_eqU r fs]
    exact q
  · obtain ⟨its,r,pl,hz⟩:=I.tuple hq
    refine SeqAt.in_tupleAt (eqU x) pl (fun w hw=>mem_eqAt rx fx r fs w (by simpa using hw)) ⟨.bl _,H,I,rfl,?_⟩
    rw [show its.toArray.any (eqU x)=its.any (eqU x) by simp,any_eqU r fs]
    exact q
theorem call_list_of:CallR X (.type "list") (fun xs H Q=>∃ p ys,xs=[.ref p]∧(SqL X.K H p ys∨SqT X.K H p ys)∧∀ l,H l=none→Q (.ref l) (upd H l (.lst ys))):=by
  intro pins s σ H xs us Q I r h
  obtain ⟨p,ys,rfl,hq,q⟩:=h
  obtain ⟨u,rfl,rx⟩:=vals1 r
  cases rx
  have fin:∀ (its:List Value),Vals ys its→ys.length≤sizeLine→∀ (h':Heap) (c':Nat),(∀ b o',s.heap.get? b=some o'→h'.get? b=some o') →
      h'.get? s.heap.objs.size=some { cls:=.type "list",dict:=none,data:=.seq its.toArray c',slots := #[] }→EP X pins σ Q (.ref s.heap.objs.size) { s with heap:=h' }:=fun its r' hz h' c' kp e =>
    ⟨.ref s.heap.objs.size,_,I.laid (t':=s.toks) kp (Nat.le_refl _) (show ObjOk X.prog X.w _ h' _ (.lst ys) from ⟨hz,its,c',r',e⟩),rfl,q _ (I.hok.fresh (Nat.le_refl _))⟩
  rcases hq with hq | hq
  · obtain ⟨its,r',pl,hz⟩:=I.list hq
    have hlen:=r'.length
    obtain ⟨o,ho,hc,n,hd⟩:=pl.isList
    exact call_list_seq p (.inl rfl) ho hc hd (fun h' c' kp e=>fin its r' hz h' c' kp e) (by simp only [List.size_toArray] <;> omega)
  · obtain ⟨its,r',pl,hz⟩:=I.tuple hq
    have hlen:=r'.length
    obtain ⟨o,ho,hc,n,hd⟩:=pl
    exact call_list_seq p (.inr rfl) ho hc hd (fun h' c' kp e=>fin its r' hz h' c' kp e) (by simp only [List.size_toArray] <;> omega)
theorem call_tuple_of:CallR X (.type "tuple") (fun xs H Q=>∃ p ys,xs=[.ref p]∧((SqL X.K H p ys∧∀ l,H l=none→Q (.ref l) (upd H l (.tup ys)))∨(SqT X.K H p ys∧Q (.ref p) H))):=by
  intro pins s σ H xs us Q I r h
  obtain ⟨p,ys,rfl,h⟩:=h
  obtain ⟨u,rfl,rx⟩:=vals1 r
  cases rx
  rcases h with ⟨hq,q⟩ | ⟨hq,q⟩
  · obtain ⟨its,r',pl,hz⟩:=I.list hq
    have hlen:=r'.length
    refine call_tuple_list pl.isList (fun h' kp => ?_) (by simp only [List.size_toArray] <;> omega)
    have I1:Inv X pins σ H { s with heap:=h' }:=I.kept (t':=s.toks) kp
    have I2:Inv X pins σ (upd H h'.objs.size (.tup ys)) { s with heap:=h'.push { cls:=.type "tuple",data:=.seq its.toArray } } :=
      I1.laid (t':=s.toks) (fun b o e=>Heap.get?_push_of_some _ e) (Nat.le_refl _) (show ObjOk X.prog X.w _ _ _ (.tup ys) from ⟨hz,its,r',IsTup.new _ _⟩)
    exact ⟨.ref h'.objs.size,_,I2,rfl,q _ (I1.hok.fresh (Nat.le_refl _))⟩
  · obtain ⟨its,r',pl,hz⟩:=I.tuple hq
    exact call_tuple_same pl ⟨.ref p,H,I,rfl,q⟩



def tyV (K:PySem.W.Frag) (T:String) (x:V) (H:Hp):Prop:=match x with
  | .str _=>T = "str"
  | .int _=>T = "int"
  | .ref p=>(T = "list" ∧ ∃ xs,SqL K H p xs)∨(T = "tuple" ∧ ∃ o,K.lookup p=some o∧o.cls=.type "tuple" ∧ o.dict=none) ∨
      (T = "dict" ∧ ((∃ kvs,H p=some (.dK kvs))∨∃ kvs,H p=some (.dT kvs)))∨(T = "set" ∧ ∃ S n,H p=some (.set S n))
  | _=>False
theorem tyV_is {pins:List (Addr × Obj)} {σ:St} {H:Hp} {s:Shared} {T:String} {x:V} {v:Value} (I:Inv X pins σ H s) (r:RelV x v) (ty:tyV X.K T x H) :
    s.TypeIs v T∧∀ a,v=.ref a→∃ ob,s.heap.get? a=some ob∧ob.dict=none:=by
  cases x with
  | str z =>
    obtain ⟨t,rfl⟩:=r
    cases (show T = "str" from ty)
    exact ⟨typeIs_str s z t,fun _ e=>nomatch e⟩
  | int i =>
    obtain ⟨t,rfl⟩:=r
    cases (show T = "int" from ty)
    exact ⟨typeIs_int s i t,fun _ e=>nomatch e⟩
  | ref p =>
    cases r
    rcases ty with ⟨rfl,xs,hq⟩ | ⟨rfl,o,hk,hc,hd⟩ | ⟨rfl,hk⟩ | ⟨rfl,S,n,hk⟩
    · obtain ⟨its,_,pl,_⟩:=I.list hq
      refine ⟨pl.isList.typeIs,fun a e => ?_⟩
      cases e
      obtain ⟨o,n,e,c,hd,_⟩:=pl
      exact ⟨o,e,hd⟩
    · refine ⟨⟨o,I.kIn p o hk,hc⟩,fun a e => ?_⟩
      cases e
      exact ⟨o,I.kIn _ o hk,hd⟩
    · have z:∃ o,s.heap.get? p=some o∧o.ExactDict:=by
        rcases hk with ⟨kvs,hk⟩ | ⟨kvs,hk⟩
        · obtain ⟨_,_,_,_,o,_,_,e,ex,_⟩:=I.hok p _ hk
          exact ⟨o,e,ex⟩
        · obtain ⟨_,_,_,_,o,_,_,e,ex,_⟩:=I.hok p _ hk
          exact ⟨o,e,ex⟩
      obtain ⟨o,e,ex⟩:=z
      refine ⟨⟨o,e,ex.1⟩,fun a e2 => ?_⟩
      cases e2
      exact ⟨o,e,ex.2.1⟩
    · obtain ⟨o,_,_,_,e,ex,_⟩:=I.hok p _ hk
      refine ⟨⟨o,e,ex.1⟩,fun a e2 => ?_⟩
      cases e2
      exact ⟨o,e,ex.2.1⟩
  | _=>exact False.elim ty
def tBM (K:PySem.W.Frag) (T:String) (r:V→List V→Hp→VK→Prop) (to:TE) (t:TA):TE:=fun σ H Q=>to σ H fun x H1=>tyV K T x H1∧t σ H1 fun xs H2=>r x xs H2 Q
variable {o e:Expr} {es:List Expr} {to:TE} {t:TA} {name:Str} {apos cpos:Pos} {T id:String} {r:V→List V→Hp→VK→Prop}
theorem pe_bm (pa:PlainAttrs T) (slot:Slot T name id) (hty:typeOf (.builtin id)=pure (.type "method_descriptor")) (hm:MtR X id r) (ho:PE X o to) (ha:PA X (e::es) t)
    (hbase:attributeBase o name X.env (eval o X.env)=eval o X.env:=by rfl)
    (hfew:((backTo cpos (starEach (e::es) X.env)).all (fun x => !x.1) && (backToKw cpos (keywordEach [] X.env)).all (fun x=>x.1.isSome)
      && decide ((e::es).length + ([]:List Keyword).length + (if ([]:List Keyword).isEmpty then 0 else 1) < 30))=true:=by rfl)
    (hline:(apos.endLine == cpos.line)=true:=by rfl) (hs:starEach (e::es) X.env=(false,eval e X.env)::starEach es X.env:=by rfl) (hplain:(backTo cpos (starEach es X.env)).any (·.1)=false:=by rfl) :
    PE X (.Call (.Attribute o name apos) (e::es) [] cpos) (tBM X.K T r to t):=by
  intro pins s σ H Q I h
  refine wpAny_Call_method_late hbase hfew hline rfl (thn (ho pins s σ H _ I h) fun v s1 ⟨x,H1,I1,r1,ty,q1⟩ => ?_)
  obtain ⟨h1,h2⟩:=tyV_is I1 r1 ty
  refine ⟨T,id,pa,slot,hty,h1,h2,?_⟩
  have hA:=ha cpos pins s1 σ H1 _ I1 q1
  rw [hs] at hA ⊢
  refine Calls.callWith_builtin (by show (false || (backTo cpos (starEach es X.env)).any (·.1))=false; rw [hplain] <;> rfl) (Calls.evalArgs_plain ?_)
  exact thn hA fun us s2 ⟨vs,H2,I2,r2,q2⟩=>hm pins s2 σ H2 x vs v us Q I2 r1 r2 q2

end
end L2

namespace L2
open PySem PySem.Spec PyProof.Rows

def MtM (X:Cx) (id:String) (r:V→List V→Hp→VK→Prop):Prop :=
  ∀ (pins:List (Addr × Obj)) (s:Shared) (σ:St) (H:Hp) (x:V) (xs:List V) (v:Value) (us:List Value) (Q:VK),Inv X pins σ H s→RelV x v→Vals xs us→r x xs H Q →
    wpAny (model X.prog X.w) X.A (call (.builtin id) (v::us)) (EP X pins σ Q) X.xe s


theorem Vals.one:∀ {x:V} {us:List Value},Vals [x] us→∃ u,us=[u]∧RelV x u
  | _,_,.cons r .nil=>⟨_,rfl,r⟩
section
variable {X:Cx} {pins:List (Addr × Obj)} {σ:St} {H:Hp} {s:Shared} {l b:Addr} {xs ys zs:List V}


theorem Inv.lset {its its':List Value} {n:Nat} {f:Array Value→Array Value} {t':Nat} (I:Inv X pins σ H s) (hH:H l=some (.lst xs))
    (e:s.heap.get? l=some { cls:=.type "list",data:=.seq its.toArray n }) (hf:f its.toArray=its'.toArray) (hv:Vals ys its') (hz:ys.length≤sizeLine) :
    Inv X pins σ (upd H l (.lst ys)) { s with heap:=s.heap.update l (Obj.mapSeq f),toks:=t' }:=by
  have q:=PySem.IsL.update e f
  rw [hf] at q
  refine I.write (x:=l) (e:=l) (by rw [hH]; exact trivial) (.inl rfl) (fun b' u hb hu=>(Heap.get?_update_other s.heap (Obj.mapSeq f) (Ne.symm hb)).trans hu) ⟨_,q⟩ ?_
  exact ⟨hz,its',_,hv,q⟩
theorem Inv.lnew {its:List Value} {t':Nat} (I:Inv X pins σ H s) (hv:Vals ys its) (hz:ys.length≤sizeLine) :
    Inv X pins σ (upd H s.heap.objs.size (.lst ys)) { s with heap:=s.heap.push { cls:=.type "list",data:=.seq its.toArray },toks:=t' } :=
  I.laid (fun _ _ q=>Heap.get?_push_of_some _ q) (Nat.le_refl _) ⟨hz,its,0,hv,Heap.get?_push_size _ rfl⟩
theorem Inv.fresh (I:Inv X pins σ H s):H s.heap.objs.size=none:=I.hok.fresh (Nat.le_refl _)
theorem Inv.lstM (I:Inv X pins σ H s) (hH:H l=some (.lst xs)):xs.length≤sizeLine∧∃ (its:List Value) (n:Nat),Vals xs its∧xs.length=its.length∧s.heap.get? l=some { cls:=.type "list",data:=.seq its.toArray n }:=by
  obtain ⟨z,its,n,r,e⟩:=I.hok l _ hH
  exact ⟨z,its,n,r,r.length,e⟩

end

section
variable {X:Cx}


def rAppend:V→List V→Hp→VK→Prop:=fun x vs H Q=>∃ l xs y,x=.ref l∧vs=[y]∧H l=some (.lst xs)∧xs.length < sizeLine∧Q .non (upd H l (.lst (xs++[y])))
theorem mt_append:MtM X "list.append" rAppend:=by
  intro pins s σ H x vs v us Q I rx rv h
  obtain ⟨l,xs,y,rfl,rfl,hH,hz,q⟩:=h
  cases rx
  obtain ⟨u,rfl,ru⟩:=rv.one
  obtain ⟨z,its,n,r,hl,e⟩:=I.lstM hH
  refine call_meets F.slot_list_append ⟨_,e,rfl⟩ F.entry_list_append (F.args_list_append_2 _ _) (PySem.list_append l its.toArray n u (by rw [List.size_toArray]; omega)) ⟨e,?_⟩
  refine ⟨.non,_,I.lset (its':=its++[u]) hH e (by simp) (r.append (.cons ru .nil)) ?_,rfl,q⟩
  rw [List.length_append,List.length_singleton]
  omega

def rCat:R2:=fun x y H Q=>∃ l b xs zs,x=.ref l∧y=.ref b∧H l=some (.lst xs)∧H b=some (.lst zs)∧xs.length + zs.length≤sizeLine∧∀ p,H p=none→Q (.ref p) (upd H p (.lst (xs++zs)))
theorem op_cat:OpR X (binaryOp .Add) rCat:=by
  intro pins s σ H x y v u Q I rx ry h
  obtain ⟨l,b,xs,zs,rfl,rfl,hH,hB,hz,q⟩:=h
  cases rx
  cases ry
  obtain ⟨z,its,n,r,hl,e⟩:=I.lstM hH
  obtain ⟨z2,its2,n2,r2,hl2,e2⟩:=I.lstM hB
  refine PySem.P.add_list e e2 ?_ (by rw [List.size_toArray,List.size_toArray]; omega)
  have ea:its.toArray++its2.toArray=(its++its2).toArray:=by simp
  rw [ea]
  exact ⟨.ref _,_,I.lnew (t':=s.toks) (r.append r2) (by rw [List.length_append]; omega),rfl,q _ I.fresh⟩

end


section
variable {prog:Program} {w:World} {A:Around} {E:Value→Shared→Prop} {s:Shared}
set_option maxRecDepth 100000 in

end

section
variable {X:Cx}

end
end L2

namespace Att
open PySem PySem.W PySem.Calls PyProof.Rows


theorem ints_of_wellAll {P:Params} {h:Heap}:∀ (ns:List Int) (vs:List Value),WellAll P h vs (ns.map WData.int)→IntsAre vs ns:=by
  intro ns
  induction ns with
  | nil =>
    intro vs w
    rw [List.map_nil] at w
    cases w
    exact .nil
  | cons n ns ih =>
    intro vs w
    rw [List.map_cons] at w
    cases w with
    | cons a b =>
      cases a
      exact .cons _ _ (ih _ b)

theorem script_of {l:OpenLaw} {n:Nat} (hn:l.most=some n) {P:Params} {h:Heap} {args:List WData} {vals:List Value}
    (hpre:l.row.toRowW.claim.pre args=true) (hwl:WellAll P h vals args) :
    ∃ a vs ns,vals=[Value.ref a]∧args=[WData.list (ns.map WData.int)]∧h.get? a=some { cls:=.type "list",data:=.seq vs.toArray }∧IntsAre vs ns∧ns.length≤n:=by
  have hsh:WShape.hasAll [] args [.list .int]=true:=(pre_splitW hpre).1
  have hc:l.pre.holds [] { args:=args }=true:=(pre_splitW hpre).2
  obtain ⟨d,r,rfl,h1,h2⟩:=hasAllW_cons hsh
  obtain rfl:=hasAllW_nil h2
  obtain ⟨xs,rfl,h3⟩:=hasW_list h1
  obtain ⟨ns,rfl⟩:=items_int h3
  have hlen:ns.length≤n:=by
    unfold OpenLaw.pre at hc
    have h4:(WTm.not (.lt (.lit (.int (n:Int))) (.len (.arg 0)))).holds [] { args:=[.list (ns.map .int)] }=true:=by
      have h4:=(holds_andW hc).1
      rw [hn] at h4
      exact h4
    have h5:=condW_of h4 (w_not (w_lt w_lit (w_len_list (w_arg rfl))))
    rw [List.length_map] at h5
    refine Nat.le_of_not_lt fun q => ?_
    have q':(n:Int) < ((ns.length:Nat):Int):=by omega
    first
      | (rw [decide_eq_true q'] at h5; exact absurd h5 (by decide))
      | (simp at h5; omega)
  cases hwl with
  | cons w1 w2 =>
    cases w2
    cases w1 with
    | list ho hall=>exact ⟨_,_,ns,rfl,rfl,ho,ints_of_wellAll ns _ hall,hlen⟩

theorem post_true (l:OpenLaw) (args:List WData):l.row.toRowW.claim.post args (.bool true) args=true :=
  postW_of (r:=l.row.toRowW) (X:=(true == true))
    (show WShape.has [] (.bool true) .bool=true by first | rfl | decide | simp [WShape.has,WShape.arms,WShape.armsAll])
    (show (WTm.eq .res (.lit (.bool true))).value [] { args:=args,res:=some (.bool true),after:=args }=some (.bool (true == true)) from w_eq_bool (w_res rfl) w_lit) rfl


theorem attach_call {l:OpenLaw} {n:Nat} {q:Program} {loose:List Str} {XP:(Str→Option Value)→Heap→Prop} {YP:World→Heap→Prop} {d:DefRec}
    (hn:l.most=some n) (hdf:d.params.defaults=[])
    (call:∀ (w:World) (s₀ s₁:Shared) (mg mb:Str→Option Value) (fa:Addr) (o:Obj) (pm cd doc:Value) (a:Addr) (vs:List Value) (ns:List Int),
      Ground q loose [] XP w s₀ mg mb s₁.heap→YP w s₁.heap →
      s₁.heap.get? fa=some o→o.data=.func (docDef d.name d.params d.body d.scope pm cd doc)→s₁.heap.CodeRec cd d.name→mg d.name=some (.ref fa) →
      s₁.heap.get? a=some { cls:=.type "list",data:=.seq vs.toArray }→IntsAre vs ns→ns.length≤n→s₁.gens = #[] →
      codeAny (model l.prog w) callerA (.call (.ref fa) ⟨[.ref a],[]⟩) (fun r s'=>r=.ok (.ret (.bool true))∧OldK s₁.heap s'.heap∧s'.os=s₁.os∧AllBare s'.gens) s₁) :
    WalkO q loose XP YP l.row.toRowW d [] (fun f vs=>PySem.call f vs):=by
  intro w s₀ s₁ mg mb G Y fa o pm cd doc dV kV ho hd hcd hD hmg hg args vals as hpre hlay hrd hwl hlo
  obtain rfl:dV=.none:=Dflts.none hD hdf
  obtain rfl:kV=.none:=Dflts.noKw hD
  obtain ⟨a,vs,ns,rfl,rfl,hobj,hints,hlen⟩:=script_of hn hpre hwl
  refine enter_call (codeAny_mono (call w s₀ s₁ mg mb fa o pm cd doc a vs ns G Y ho (fd_plain hd) hcd hmg hobj hints hlen hg) fun r s' hq => ?_)
  obtain ⟨rfl,h2,h3,h4⟩:=hq
  exact ⟨.inl ⟨.bool true,.bool true,[],rfl,fun _=>rfl,.bool true,post_true l _,fun _=>⟨List.Pairwise.nil,fun _ hm=>(nomatch hm)⟩⟩,h2,h3,h4⟩


section
variable {prog:Program} {w:World} {A:Around} {E:Value→Shared→Prop} {s:Shared} {K:Frag}


end
end Att

namespace L2
open PySem PySem.Spec PyProof.Rows

theorem vals_ints:∀ {vs:List Value} {ns:List Int},IntsAre vs ns→Vals (ns.map V.int) vs
  | _,_,.nil=>.nil
  | _,_,.cons n t h=>.cons ⟨t,rfl⟩ (vals_ints h)


end L2

namespace L2
open PySem PySem.Spec PyProof.Rows

end L2




namespace L2
open PySem PySem.Spec PyProof.Rows



def defArgs (s:Stmt):Arguments:=match s with
  | .FunctionDef _ a _ _ _ _ _ _ _ _=>a
  | _=>{ posonlyargs:=[],args:=[],vararg:=none,kwonlyargs:=[],kw_defaults:=[],kwarg:=none,defaults:=[] }
def defBody (s:Stmt):List Stmt:=match s with
  | .FunctionDef _ _ b _ _ _ _ _ _ _=>b
  | _=>[]
def defScope (s:Stmt):Scope:=match s with
  | .FunctionDef _ _ _ _ _ _ sc _ _ _=>sc
  | _=>{ kind:=.function,names:=[],isGenerator:=false,isCoroutine:=false }


abbrev E0:XK:=fun _ _ _=>False
section
variable {P:Program} {w:World} {K:PySem.W.Frag} {mg:Str→Option Value} {base:Heap}

end
theorem small1000 {n:Nat} (h:n≤1000):n < sizeLine:=Nat.lt_of_le_of_lt h (by decide)


section
variable {X:Cx}
theorem pv (i:Nat) {x:Str} {pos:Pos} (hN:X.N[i]? = some x:=by rfl) (hv:Vis X.env.scope x:=by first | exact Or.inl rfl | exact Or.inr (Or.inl rfl) | exact Or.inr (Or.inr rfl)) (hd:(x == ("__debug__" : Str))=false:=by decide)
    (hcd:(x == ("__classdict__" : Str))=false:=by decide):PE X (.Name x pos) (tVar i):=pe_var hN hv hd hcd
end


theorem iteF {A B:Prop} (h:B):if false=true then A else B:=by
  rw [if_neg Bool.false_ne_true]
  exact h
theorem iteT {A B:Prop} (h:A):if true=true then A else B:=by
  rw [if_pos rfl]
  exact h
theorem ite2 {c A B:Prop} [Decidable c] (h1:c→A) (h2:¬ c→B):if c then A else B:=by
  by_cases h:c
  · rw [if_pos h]
    exact h1 h
  · rw [if_neg h]
    exact h2 h
theorem iteNS {c A B:Prop} [Decidable c] (hc:c) (h:B):if (!decide c)=true then A else B:=by
  rw [decide_eq_true hc]
  exact iteF h



def Same (H H':Hp):Prop:=∀ b o,H b=some o→H' b=some o
theorem Same.refl (H:Hp):Same H H:=fun _ _ h=>h
theorem Same.trans {H H1 H2:Hp} (a:Same H H1) (b:Same H1 H2):Same H H2:=fun c o h=>b c o (a c o h)
theorem Same.seq {K:PySem.W.Frag} {H H':Hp} {a:Addr} {xs:List V} (e:Same H H') (h:SqL K H a xs):SqL K H' a xs:=by
  rcases h with (h | ⟨o,h⟩) | h
  · exact .inl (.inl (e _ _ h))
  · exact .inl (.inr ⟨o,e _ _ h⟩)
  · exact .inr h

end L2
namespace L2
open PySem PySem.Spec PyProof.Rows


section
variable {κ:Type} [DecidableEq κ]
end



section
variable {P:Program} {w:World} {H:Hp} {h:Heap} {a:Addr}
end


section
variable {X:Cx} {pins:List (Addr × Obj)} {σ:St} {H:Hp} {s:Shared} {a:Addr} {y v:V} {u r:Value} {o:Option V} {A:Around} {E:Value→Shared→Prop}

end

section
variable {X:Cx} {pins:List (Addr × Obj)} {σ:St} {H:Hp} {s:Shared} {a:Addr} {kvs:List (Key × V)} {k:Key} {u:Value} {A:Around} {E:Value→Shared→Prop}

end




section
variable {X:Cx} {o i e value:Expr} {pos pos' tpos:Pos} {td ty tv:TE}
end



section
variable {X:Cx} {pos:Pos}
end


section
variable {X:Cx} {pins:List (Addr × Obj)} {σ:St} {H:Hp} {s:Shared} {a:Addr} {y d:V} {u r:Value} {o:Option V} {A:Around} {E:Value→Shared→Prop}

end

section
variable {X:Cx} {o e f:Expr} {apos cpos:Pos} {td ty tx:TE}
end


section
variable {X:Cx} {pins:List (Addr × Obj)} {σ:St} {H:Hp} {s:Shared} {a:Addr} {kvs:List (Key × V)} {A:Around} {E:Value→Shared→Prop}
end


section
variable {X:Cx} {pins:List (Addr × Obj)} {σ:St} {H:Hp} {s:Shared} {a:Addr} {y:V} {u:Value} {A:Around} {E:Value→Shared→Prop}

end
end L2
namespace L2
open PySem PySem.Spec PyProof.Rows
section
variable {κ:Type} [DecidableEq κ]
end
end L2

set_option maxHeartbeats 4000000
namespace L2
open PySem PySem.Spec PyProof.Rows


def Itg (n:Nat) (g:Nat→V):It:=⟨fun i _=>i < n,fun i H x H'=>H'=H∧x=g i,fun i _=>n≤i⟩
theorem turn_walk {P:Program} {w:World} {K:PySem.W.Frag} {tg:Expr} {it:Addr} {n:Nat} {Pn:Nat→Value→Prop} {St:Nat→Heap→Prop} {g:Nat→V}
    (W:∀ A:Around,A.handled=none→Walks P w A it [it] [it] n Pn St) (hv:∀ i v,Pn i v→RelV (g i) v)
    (hk:∀ i h h',St i h→(∀ o,h.get? it=some o→h'.get? it=some o)→St i h')
    (hself:∀ (A:Around) (i:Nat) (s:Shared) (Q:Value→Shared→Prop) (E:Value→Shared→Prop),St i s.heap→Q (.ref it) s→wpAny (model P w) A (pyIter (.ref it)) Q E s)
    (ho:∀ i h,St i h→∃ o c vs,h.get? it=some o∧o.cls=.type c∧o.data=.fields vs ∧
      ["enumerate","zip","dict_itemiterator","dict_reverseitemiterator","odict_iterator","itertools.zip_longest","itertools.pairwise"].contains c=false) :
    Turn P w K tg (Itg n g) [it] it (fun i h=>i≤n∧St i h) where
  mem:=by simp
  obj:=fun i h st b hb=>by
    have e:b=it:=by simpa using hb
    subst e
    obtain ⟨o,c,vs,e,_,d,_⟩:=ho i h st.2
    exact ⟨o,e,fun v z=>by rw [d] at z; cases z⟩
  keep:=fun i h h' st k=>⟨st.1,hk i h h' st.2 fun o e=>k it (by simp) o e⟩
  item:=by
    intro X hP hw hK hc i pins s σ H E I hf st hg
    subst hP hw hK
    obtain ⟨f0,f1,f2,f3,f4,f5⟩:=hf it (by simp)
    refine (W X.A (I.ok.hd hc)).item i s _ _ hg st.2 fun v h' tk hP st' kk => ?_
    have I1:Inv X pins σ H { s with heap:=h',toks:=tk }:=I.turned (fun b o hb e=>kk b o (by simpa using hb) e) f0 f1 f3 f4 f5
    obtain ⟨o,c,vs,e,hcls,d,hn⟩:=ho _ _ st'
    exact ⟨v,rfl,go_of (s:={ s with heap:=h',toks:=tk }) e hcls d hn ⟨g i,H,I1,hv i v hP,⟨rfl,rfl⟩,⟨hg,st'⟩,fun b hb=>(hf b hb).1⟩⟩
  done:=by
    intro X hP hw hK hc i pins s σ H E I hf st hg
    subst hP hw hK
    obtain ⟨f0,f1,f2,f3,f4,f5⟩:=hf it (by simp)
    have hg':n≤i:=hg
    have e:i=n:=Nat.le_antisymm st.1 hg'
    subst e
    exact (W X.A (I.ok.hd hc)).done s _ _ st.2 fun h' tk kk=>⟨rfl,I.turned (fun b o hb e=>kk b o (by simpa using hb) e) f0 f1 f3 f4 f5⟩
  self:=fun A i s Q E st h=>hself A i s Q E st.2 h
theorem for_gen {n:Nat} {g':Nat→V} {g:TG} {tb:TS} {D:Ends} {σ:St} {H:Hp} (Pv:Nat→St→Hp→Prop) (h0:Pv 0 σ H)
    (hs:∀ i σ H,i < n→Pv i σ H→g (g' i) σ H fun σ2 H2=>tb { D with nx:=Pv (i + 1),ct:=Pv (i + 1),bk:=D.nx } σ2 H2) (hd:∀ σ H,Pv n σ H→D.nx σ H) :
    ∃ W:Nat→Nat→St→Hp→Prop,(∃ m,W 0 m σ H)∧∀ i m σ H,W i m σ H →
      ((Itg n g').stop i H∧D.nx σ H)∨((Itg n g').go i H∧∃ N:St→Hp→Prop,(∀ σ' H',N σ' H'→∃ m',m' < m∧W (i + 1) m' σ' H')∧∀ x H',(Itg n g').yld i H x H'→g x σ H' fun σ2 H2=>tb { D with nx:=N,ct:=N,bk:=D.nx } σ2 H2):=by
  refine ⟨fun i m σ H=>m=n - i∧i≤n∧Pv i σ H,⟨n,by simp,Nat.zero_le _,h0⟩,?_⟩
  rintro i m σ H ⟨rfl,hi,p⟩
  by_cases hlt:i < n
  · refine .inr ⟨hlt,Pv (i + 1),fun σ' H' p'=>⟨n - (i + 1),by omega,rfl,hlt,p'⟩,fun x H' y => ?_⟩
    obtain ⟨e,y⟩:=y
    subst e y
    exact hs i σ _ hlt p
  · have e:i=n:=by omega
    subst e
    exact .inl ⟨Nat.le_refl _,hd σ H p⟩

section
variable {X:Cx} {tg:Expr}

def sgn (z:Str) (i:Nat):Str:=⟨#[z.cps.getD i 0]⟩
def iStr (tl:TE):TI:=fun σ H R=>tl σ H fun x H1=>∃ z,x=.str z∧R (Itg z.length fun i=>.str (sgn z i)) H1
theorem sgn_of {z:Str} {i:Nat} {v:Value} (h:SignAt z i v):RelV (.str (sgn z i)) v:=by
  obtain ⟨c,u,hc,rfl⟩:=h
  refine ⟨u,?_⟩
  have e:z.cps.getD i 0=c:=by simp [Array.getD_eq_getD_getElem?,hc]
  unfold sgn
  rw [e]
theorem pi_str {l:Expr} {tl:TE} (hl:PE X l tl):PI X tg l (iStr tl):=by
  intro pins s σ H R I h
  refine thn (hl pins s σ H _ I h) fun v s1 ⟨x,H1,I1,r1,q1⟩ => ?_
  obtain ⟨z,e,q⟩:=q1
  subst e
  obtain ⟨t,rfl⟩:=r1
  have fp:∀ b∈[s1.heap.objs.size],FpOk X pins H1 b:=fun b hb=>by
    have e:b=s1.heap.objs.size:=by simpa using hb
    subst e
    exact I1.fpOk (Nat.le_refl _) (I1.hok.fresh (Nat.le_refl _))
  cases ha:z.cps.all (· < 128)
  · refine wpAny_pyIter_wide ha ?_
    refine ⟨s1.heap.objs.size,[s1.heap.objs.size],_,_,H1,rfl,I1.kept (t':=s1.toks) fun b o e=>Heap.get?_push_of_some _ e,
      turn_walk (St:=fun i h=>h.IsStrIter s1.heap.objs.size "str_iterator" z t i) (fun A hA=>Walks.strWide hA _ z t) (fun i v=>sgn_of) (fun i h h' st k=>let ⟨o,ho,r⟩:=st; ⟨o,k o ho,r⟩) (fun A i s Q E st hQ=>wpAny_pyIter_striter_wide st hQ)
        (fun i h st=>let ⟨o,ho,hc,hd⟩:=st; ⟨o,_,_,ho,hc,hd,by decide⟩),⟨Nat.zero_le _,⟨_,Heap.get?_push_size _ rfl,rfl,rfl⟩⟩,fp,q⟩
  · refine wpAny_pyIter_ascii ha ?_
    refine ⟨s1.heap.objs.size,[s1.heap.objs.size],_,_,H1,rfl,I1.kept (t':=s1.toks) fun b o e=>Heap.get?_push_of_some _ e,
      turn_walk (St:=fun i h=>h.IsStrIter s1.heap.objs.size "str_ascii_iterator" z t i) (fun A hA=>Walks.strAscii hA _ z t) (fun i v=>sgn_of) (fun i h h' st k=>let ⟨o,ho,r⟩:=st; ⟨o,k o ho,r⟩) (fun A i s Q E st hQ=>wpAny_pyIter_striter_ascii st hQ)
        (fun i h st=>let ⟨o,ho,hc,hd⟩:=st; ⟨o,_,_,ho,hc,hd,by decide⟩),⟨Nat.zero_le _,⟨_,Heap.get?_push_size _ rfl,rfl,rfl⟩⟩,fp,q⟩


def iRng3 (ta:TA):TI:=fun σ H R=>ta σ H fun vs H1=>∃ (i j c:Int) (n:Nat),vs=[.int i,.int j,.int c]∧c≠0∧(c < 1073741824∧-1073741824 < c)∧Builtin.Range.small i j c=true∧Builtin.Range.rangeSize i j c=(n:Int)∧R (Itg n fun k=>.int (i + (k:Int) * c)) H1
theorem pi_range3 {a b d:Expr} {ta:TA} {p pos:Pos} (hg:Gl X "range") (hm:X.mg "range" = none) (ha:PA X [a,b,d] ta)
    (hs:starEach [a,b,d] X.env=(false,eval a X.env)::starEach [b,d] X.env:=by rfl) (hpl:(backTo pos (starEach [b,d] X.env)).any (·.1)=false:=by rfl) :
    PI X tg (.Call (.Name "range" p) [a,b,d] [] pos) (iRng3 ta):=by
  intro pins s σ H R I h
  refine Call_ (ld_blt I hg hm boot_range (PyProof.Rows.callWith_type1 (thn (ha pos pins s σ H _ I h) fun us s1 ⟨vs,H1,I1,r1,q1⟩ => ?_) hs hpl))
  obtain ⟨i,j,c,n,e,hc,hc2,hsm,hsz,q⟩:=q1
  subst e
  cases r1 with
  | cons r rr =>
    cases rr with
    | cons r' rr =>
      cases rr with
      | cons r'' rr =>
        cases rr
        obtain ⟨t,rfl⟩:=r
        obtain ⟨t',rfl⟩:=r'
        obtain ⟨t'',rfl⟩:=r''
        refine call_range_3 hc ?_ (.inl (PyProof.noPylong_small (by omega)))
        refine wpAny_pyIter_range (IsRange.new ..) hsm ?_
        have I2:Inv X pins σ H1 { s1 with heap:=s1.heap.push { cls:=.type "range",data:=.fields #[.int i t,.int j t',.int c t''] } }:=I1.kept (t':=s1.toks) fun b o e=>Heap.get?_push_of_some _ e
        refine ⟨(s1.heap.push { cls:=.type "range",data:=.fields #[.int i t,.int j t',.int c t''] }).objs.size,[(s1.heap.push { cls:=.type "range",data:=.fields #[.int i t,.int j t',.int c t''] }).objs.size],_,_,H1,rfl,
          I2.kept (t':=s1.toks) fun b o e=>Heap.get?_push_of_some _ e,
          turn_walk (g:=fun k=>.int (i + (k:Int) * c)) (fun A hA=>Walks.range hA _ i c n) (fun k v h=>let ⟨t,e⟩:=h; ⟨t,e⟩) (fun i h h' st k=>k _ st) (fun A i s Q E st hQ=>wpAny_pyIter_rangeiter st hQ)
            (fun i h st=>⟨_,_,_,st,rfl,rfl,by decide⟩),⟨Nat.zero_le _,?_⟩,fun b hb => ?_,q⟩
        · have e1:i + ((0:Nat):Int) * c=i:=by simp
          have e2:(n:Int) - ((0:Nat):Int)=Builtin.Range.rangeSize i j c:=by rw [hsz]; simp
          show IsRangeIter _ _ (i + ((0:Nat):Int) * c) ((n:Int) - ((0:Nat):Int)) c
          rw [e1,e2]
          exact Heap.get?_push_size _ rfl
        · have e:b=(s1.heap.push { cls:=.type "range",data:=.fields #[.int i t,.int j t',.int c t''] }).objs.size:=by simpa using hb
          subst e
          exact I2.fpOk (Nat.le_refl _) (I2.hok.fresh (Nat.le_refl _))
end


section
variable {X:Cx}
theorem call_int_str:CallR X (.type "int") (fun xs H Q=>∃ z n,xs=[.str z]∧PySem.intText? z=some n∧z.length≤640∧Q (.int n) H):=by
  intro pins s σ H xs us Q I r h
  obtain ⟨z,n,rfl,hn,hl,q⟩:=h
  obtain ⟨u,rfl,t,rfl⟩:=vals1 r
  exact PySem.W.KIN.call_text hn hl ⟨.int n,H,I.tok _,⟨_,rfl⟩,q⟩
theorem strsAre_of:∀ {ys:List Str} {us:List Value},Vals (ys.map V.str) us→StrsAre us ys
  | [],us,r=>by rw [List.map_nil] at r; cases r; exact .nil
  | y::ys,us,r=>by
    rw [List.map_cons] at r
    cases r with
    | cons r1 r2 =>
      obtain ⟨t,e⟩:=r1
      subst e
      exact .cons y t (strsAre_of r2)
def rJoin (K:PySem.W.Frag):V→List V→Hp→VK→Prop:=fun x vs H Q=>∃ z a ys,x=.str z∧vs=[.ref a]∧SqL K H a (ys.map V.str)∧(ys.map (·.length)).sum + ys.length * z.length≤16777216∧Q (.str (Txt.join z ys)) H
theorem mt_join:MtR X "str.join" (rJoin X.K):=by
  intro pins s σ H x vs v us Q I rx rv h
  obtain ⟨z,a,ys,rfl,rfl,hS,hz,q⟩:=h
  obtain ⟨t,rfl⟩:=rx
  obtain ⟨u,rfl,ru⟩:=rv.one
  cases ru
  obtain ⟨its,r,pl,_⟩:=I.list hS
  exact join_list pl.isList (by simpa using strsAre_of r) hz fun t' k=>⟨.str _,H,I.tok _,⟨_,rfl⟩,q⟩
def rSlS:V→Option Int→Option Int→Hp→VK→Prop:=fun x lo hi H Q=>∃ z,x=.str z∧z.length≤sizeLine∧Q (.str (Txt.slice z lo hi)) H
theorem sl_str:SlR X rSlS:=by
  intro pins s σ H x v vl vu lo hi sl Q I rx hs pl pu h
  obtain ⟨z,rfl,hz,q⟩:=h
  obtain ⟨t,rfl⟩:=rx
  refine ⟨"str",_,F.slot_str_getitem.lookup,typeIs_str _ _ _,?_⟩
  obtain ⟨o,e1,e2,e3⟩:=hs
  have fin:∀ (z':Str) (t':Tok) (k:Nat),z'=Txt.slice z lo hi→EP X pins σ Q (.str z' t') { s with toks:=k }:=fun z' t' k e=>by
    subst e
    exact ⟨.str _,H,I.tok _,⟨_,rfl⟩,q⟩
  cases pl with
  | none =>
    cases pu with
    | none=>exact wpAny_getItem_str_slice (l:=none) (u:=none) (st:=none) ⟨o,e1,e2,e3⟩ rfl (post_val_or_str ⟨Nat.le_trans (Txt.slice_le z _ _) hz,fun t' k=>fin _ t' k rfl⟩)
    | int j uj=>exact wpAny_getItem_str_slice (l:=none) (u:=some (j,uj)) (st:=none) ⟨o,e1,e2,e3⟩ rfl (post_val_or_str ⟨Nat.le_trans (Txt.slice_le z _ _) hz,fun t' k=>fin _ t' k rfl⟩)
  | int i ui =>
    cases pu with
    | none=>exact wpAny_getItem_str_slice (l:=some (i,ui)) (u:=none) (st:=none) ⟨o,e1,e2,e3⟩ rfl (post_val_or_str ⟨Nat.le_trans (Txt.slice_le z _ _) hz,fun t' k=>fin _ t' k rfl⟩)
    | int j uj=>exact wpAny_getItem_str_slice (l:=some (i,ui)) (u:=some (j,uj)) (st:=none) ⟨o,e1,e2,e3⟩ rfl (post_val_or_str ⟨Nat.le_trans (Txt.slice_le z _ _) hz,fun t' k=>fin _ t' k rfl⟩)


def rIsiT (K:PySem.W.Frag) (T:String):List V→Hp→VK→Prop:=fun xs H Q=>∃ x t b,xs=[x,.ty T]∧TyOf K H x t∧PySem.W.kitOne K t (.type T)=some b∧Q (.bl b) H
theorem call_isiT (T:String):CallR X (.builtin "isinstance") (rIsiT X.K T):=by
  intro pins s σ H xs us Q I r h
  obtain ⟨x,t,b,rfl,ty,hk,q⟩:=h
  obtain ⟨u,c,rfl,rx,rc⟩:=vals2 r
  cases (show c=.type T from rc)
  exact isinst_ok I rx ty hk fun tk=>⟨.bl b,H,I.tok _,rfl,q⟩
end
end L2

namespace L2
open PySem PySem.Spec PyProof.Rows


section
variable {prog:Program} {w:World} {A:Around} {R:Result→Shared→Prop} {s:Shared}
theorem compLoop_go {elt target iter:Expr} {scope:Scope} {pos:Pos} {it acc:Value} {env:Env} (I:Nat→Shared→Prop)
    (turn:∀ n s,I n s→wpAny (model prog w) A (pyNext it) (fun r s1=>match r with
      | none=>R (.ok .next) s1
      | some v=>wpAny (model prog w) A (letOwnedTupleGo target it v) (fun _ s2=>wpAny (model prog w) A (assign target env v) (fun _ s3 =>
          wpAny (model prog w) A (eval elt env) (fun x s4 =>
            wpAny (model prog w) A (call (.builtin "list.append") [acc,x]) (fun _ s5=>∃ m,m < n∧I m s5) (notedBy (model prog w) A env fun e s'=>R (.error e) s') s4) (notedBy (model prog w) A env fun e s'=>R (.error e) s') s3)
          (notedBy (model prog w) A env fun e s'=>R (.error e) s') s2) (notedBy (model prog w) A env fun e s'=>R (.error e) s') s1) (notedBy (model prog w) A env fun e s'=>R (.error e) s') s)
    (n:Nat) (h:I n s) :
    codeAny (model prog w) A (.compLoop (.ListComp elt [⟨target,iter,[],0⟩] scope pos) 0 it acc env) R s:=by
  refine codeAny_loop rfl I (fun n s hI => ?_) n h
  show wpAny _ A ((compTurn (.ListComp elt [⟨target,iter,[],0⟩] scope pos) 0 it acc env).onRaise (fun x=>do noteFrame x env; theTreesLotGoes x)) _ _ s
  refine wpAny_noted ?_
  rw [compTurn_list]
  refine wpAny_bind (wpAny_standAt (wpAny_bind (wpAny_mono (turn n s hI) (fun r s1 h1 => ?_) fun _ _ h'=>h')))
  cases r with
  | none=>exact wpAny_pure h1
  | some v =>
    refine wpAny_bind (wpAny_mono h1 (fun _ s2 h2=>wpAny_bind (wpAny_mono h2 (fun _ s3 h3 => ?_) fun _ _ h'=>h')) fun _ _ h'=>h')
    refine wpAny_bind (wpAny_tests_nil ?_)
    exact wpAny_bind (wpAny_bind (wpAny_mono h3 (fun x s4 h4=>wpAny_bind (wpAny_mono h4 (fun _ s5 h5=>wpAny_pure (wpAny_pure ⟨rfl,h5⟩)) fun _ _ h'=>h')) fun _ _ h'=>h'))
theorem compLoop_if {elt target iter c:Expr} {scope:Scope} {pos:Pos} {it acc:Value} {env:Env} (I:Nat→Shared→Prop)
    (turn:∀ n s,I n s→wpAny (model prog w) A (pyNext it) (fun r s1=>match r with
      | none=>R (.ok .next) s1
      | some v=>wpAny (model prog w) A (letOwnedTupleGo target it v) (fun _ s2=>wpAny (model prog w) A (assign target env v) (fun _ s3 =>
          wpAny (model prog w) A (isTrue c env (eval c env)) (fun ok s4=>if ok=true then
          wpAny (model prog w) A (eval elt env) (fun x s4 =>
            wpAny (model prog w) A (call (.builtin "list.append") [acc,x]) (fun _ s5=>∃ m,m < n∧I m s5) (notedBy (model prog w) A env fun e s'=>R (.error e) s') s4) (notedBy (model prog w) A env fun e s'=>R (.error e) s') s4
          else ∃ m,m < n∧I m s4) (notedBy (model prog w) A env fun e s'=>R (.error e) s') s3)
          (notedBy (model prog w) A env fun e s'=>R (.error e) s') s2) (notedBy (model prog w) A env fun e s'=>R (.error e) s') s1) (notedBy (model prog w) A env fun e s'=>R (.error e) s') s)
    (n:Nat) (h:I n s) :
    codeAny (model prog w) A (.compLoop (.ListComp elt [⟨target,iter,[c],0⟩] scope pos) 0 it acc env) R s:=by
  refine codeAny_loop rfl I (fun n s hI => ?_) n h
  show wpAny _ A ((compTurn (.ListComp elt [⟨target,iter,[c],0⟩] scope pos) 0 it acc env).onRaise (fun x=>do noteFrame x env; theTreesLotGoes x)) _ _ s
  refine wpAny_noted ?_
  rw [compTurn_list]
  refine wpAny_bind (wpAny_standAt (wpAny_bind (wpAny_mono (turn n s hI) (fun r s1 h1 => ?_) fun _ _ h'=>h')))
  cases r with
  | none=>exact wpAny_pure h1
  | some v =>
    refine wpAny_bind (wpAny_mono h1 (fun _ s2 h2=>wpAny_bind (wpAny_mono h2 (fun _ s3 h3 => ?_) fun _ _ h'=>h')) fun _ _ h'=>h')
    refine wpAny_bind (wpAny_mono (wpAny_tests_one h3) (fun ok s4 h4 => ?_) fun _ _ h'=>h')
    cases ok with
    | false=>exact wpAny_pure ⟨rfl,h4⟩
    | true =>
      exact wpAny_bind (wpAny_bind (wpAny_mono h4 (fun x s4 h4=>wpAny_bind (wpAny_mono h4 (fun _ s5 h5=>wpAny_pure (wpAny_pure ⟨rfl,h5⟩)) fun _ _ h'=>h')) fun _ _ h'=>h'))
end

def cxComp (X:Cx) (N':List Str) (scope:Scope) (C:Addr) (s0:Shared) (H0:Hp) (fp:List Addr) (pins:List (Addr × Obj)):Cx where
  prog:=X.prog
  w:=X.w
  K:=X.K
  mg:=X.mg
  base:=X.base
  A:=X.A
  N:=N'
  s₀:=s0
  H₀:=H0
  env:=compEnv scope C X.env
  outer:=X.stack
  stack:=X.stack
  ex:=fp
  fn:=fun _=>false
  calm:=X.calm
  pn:=X.pn++pins
  xe:=fun _ _=>False


def compK (N':List Str) (g:TG) (te:TE) (Q:VK):It→Hp→Prop:=fun J H1=>∀ D,H1 D=none→∃ W:Nat→Nat→List V→Hp→Prop,(∃ m,W 0 m [] (upd H1 D (.lst []))) ∧
  ∀ i m ys H2,W i m ys H2→H2 D=some (.lst ys)∧((J.stop i H2∧Q (.ref D) H2)∨(J.go i H2∧ys.length < sizeLine ∧
    ∀ x H',J.yld i H2 x H'→g x (List.replicate N'.length none) H' fun σ2 H3=>te σ2 H3 fun y H4=>H4 D=some (.lst ys)∧∃ m',m' < m∧W (i + 1) m' (ys++[y]) (upd H4 D (.lst (ys++[y])))))
def tComp (N':List Str) (wi:TI) (g:TG) (te:TE):TE:=fun σ H Q=>wi σ H (compK N' g te Q)

section
variable {X:Cx} {elt tg iter:Expr} {scope:Scope} {pos:Pos} {N':List Str} {wi:TI} {g:TG} {te:TE}
theorem HOk.but {P:Program} {w:World} {H:Hp} {h h':Heap} {C:Addr} (x:HOk P w H h) (n:H C=none) (k:∀ b u,b≠C→h.get? b=some u→h'.get? b=some u):HOk P w H h':=fun a o e =>
  (x a o e).stay (fun b u hb q=>k b u (by
    rcases hb with z | z
    · rw [z]; intro z2; rw [z2,n] at e; cases e
    · intro z2; rw [z2,n] at z; cases z) q) (fun _ q=>q) fun _ _ q=>q
theorem pe_comp (hfree:∀ y∈scope.names,y.2≠.free) (hcell:∀ y∈scope.names,y.2≠.cell) (hkind:scope.kind=.function) (hnames:∀ y∈scope.names,y.2=.local→scope.names.lookup y.1=some .local)
    (hcalm:X.calm=true) (hi:PI X tg iter wi) (hg:∀ C s0 H0 fp pins,PG (cxComp X N' scope C s0 H0 fp pins) tg g) (he:∀ C s0 H0 fp pins,PE (cxComp X N' scope C s0 H0 fp pins) elt te)
    (hs:∀ x,foldedSetIterable iter X.env x=pure x:=by intro _; rfl):PE X (.ListComp elt [⟨tg,iter,[],0⟩] scope pos) (tComp N' wi g te):=by
  intro pins s σ H Q I h
  refine wpAny_ListComp hfree hkind hnames (thn (hi pins s σ H _ I h) fun v s1 h1=>thn h1 fun itv s2 h2 => ?_) hs
  obtain ⟨it,fp,tn,J,H2,e,I2,T,st2,f2,hW⟩:=h2
  subst e
  refine wpAny_newObj_type (wpAny_newFunctionEnv hcell (by intro y hy; simp at hy) (fun h₁ hns₁ hsb₁ => ?_) hkind)
  dsimp only at hns₁ hsb₁ ⊢
  generalize hH2:s2.heap.push { cls:=.type "list",dict:=none,data:=.seq ([]:List Value).toArray }=P2 at hns₁ hsb₁ ⊢
  have hC:P2.objs.size=s2.heap.objs.size + 1:=by rw [← hH2,Heap.size_push]
  have below:∀ b,b < s2.heap.objs.size→b≠P2.objs.size∧b≠s2.heap.objs.size:=fun b hb=>⟨by rw [hC]; exact Nat.ne_of_lt (Nat.lt_succ_of_lt hb),Nat.ne_of_lt hb⟩
  have hDC:s2.heap.objs.size≠P2.objs.size:=by rw [hC]; exact Nat.ne_of_lt (Nat.lt_succ_self _)
  have old:∀ b o,s2.heap.get? b=some o→h₁.get? b=some o:=fun b o e=>hsb₁.extBut b o (below b (Heap.lt_size e)).1 (Heap.get?_push_of_some _ (hH2▸Heap.get?_push_of_some _ e))
  have hD:h₁.get? s2.heap.objs.size=some { cls:=.type "list",dict:=none,data:=.seq ([]:List Value).toArray }:=hsb₁.extBut _ _ hDC (Heap.get?_push_of_some _ (hH2▸Heap.get?_push_size _ rfl))
  have frD:H2 s2.heap.objs.size=none:=I2.hok.fresh (Nat.le_refl _)
  have frC:H2 P2.objs.size=none:=I2.hok.fresh (by rw [hC]; exact Nat.le_succ _)
  have hfp:∀ b∈fp,b < s2.heap.objs.size:=fun b hb=>by
    obtain ⟨o,e,_⟩:=T.obj _ _ st2 b hb
    exact Heap.lt_size e
  have nst:∀ b,b≠X.env.locals→b∉X.fs→b∉frs X.stack:=fun b n1 n2 z=>by
    rcases List.mem_cons.mp (I2.stkSub b z) with e | e
    · exact n1 e
    · exact n2 e
  obtain ⟨W,⟨m0,w0⟩,turn⟩:=hW s2.heap.objs.size frD
  have nocell:∀ (x:Str) (c:Addr),(compEnv scope P2.objs.size X.env).cells.lookup x=some c→False:=fun x c e=>by
    have e':([]:List (Str × Addr)).lookup x=some c:=e
    cases e'
  have ok':(cxComp X N' scope P2.objs.size s2 H2 fp pins).Ok:=by
    refine ⟨I2.ok.mod,hkind,I2.ok.glob,I2.ok.blt,?_,fun x y c e=>(nocell x c e).elim,fun x hx => ?_,fun x c _ e=>(nocell x c e).elim,I2.ok.hd,I2.ok.frames,.inl rfl,fun b hb=>⟨(below b (hfp b hb)).1,fun x c e=>(nocell x c e).elim⟩,I2.bs,Nat.le_trans I2.ok.bsz I2.sz,fun b o e hb => ?_,fun b hb=>nst b (f2 b hb).2.1 (f2 b hb).2.2.1,I2.stack,I2.stkFree⟩
    · show s2.heap.objs.size≤P2.objs.size
      rw [hC]; exact Nat.le_succ _
    · have hx':scope.names.lookup x=some .cell∨scope.names.lookup x=some .free:=hx
      rcases hx' with z | z
      · exact absurd rfl (hcell _ (PySem.mem_of_lookup z))
      · exact absurd rfl (hfree _ (PySem.mem_of_lookup z))
    · rcases (f2 b hb).2.2.2.1 with z | z
      · exact I2.ok.noex b o e z
      · exact absurd (Nat.lt_of_lt_of_le (Heap.lt_size (I2.ok.bs b o e).1) z) (Nat.lt_irrefl _)
  have I':Inv (cxComp X N' scope P2.objs.size s2 H2 fp pins) [] (List.replicate N'.length none) (upd H2 s2.heap.objs.size (.lst [])) { s2 with heap:=h₁,toks:=s2.toks + ([]:List (Str × Value)).length }:=by
    refine ⟨ok',rfl,I2.bare,Un.laid old (Nat.le_refl _) frD,⟨_,hns₁,fun i x v e1 e2 e3 => ?_⟩,fun x c e=>(nocell x c e).elim,?_,fun x c e=>(nocell x c e).elim,fun p hp => ?_,I2.hok.laid old (Nat.le_refl _) ⟨by simp,[],0,.nil,hD⟩,by simp [cxComp]⟩
    · rw [List.getElem?_replicate] at e2
      split at e2 <;> cases e2
    · show upd H2 s2.heap.objs.size (.lst []) P2.objs.size=none
      rw [upd_ne (Ne.symm hDC)]; exact frC
    · have hp':p∈X.pn++pins:=by
        rcases List.mem_append.mp hp with z | z
        · exact z
        · cases z
      obtain ⟨a1,a2,a3,a4,a5⟩:=I2.pin p hp'
      refine ⟨old _ _ a1,?_,(below _ (Heap.lt_size a1)).1,nst _ a3 a4,a5⟩
      rw [upd_ne (below _ (Heap.lt_size a1)).2]; exact a2
  have stat:∀ {H':Hp},(∀ b∈fp,H' b=none)→∀ b∈fp,FpOk (cxComp X N' scope P2.objs.size s2 H2 fp pins) [] H' b:=fun {H'} hn b hb =>
    ⟨hn b hb,(below b (hfp b hb)).1,nst b (f2 b hb).2.1 (f2 b hb).2.2.1,.inl hb,fun x c e=>(nocell x c e).elim,fun p hp=>(f2 b hb).2.2.2.2.2 p (by
      rcases List.mem_append.mp hp with z | z
      · exact z
      · cases z)⟩
  have fin:∀ (ys:List V) (σ':St) (H':Hp) (s':Shared),Inv (cxComp X N' scope P2.objs.size s2 H2 fp pins) [] σ' H' s'→Q (.ref s2.heap.objs.size) H' →
      ∃ m,s'.heap.Ns P2.objs.size m∧∀ h',Heap.SameBut P2.objs.size s'.heap h'→EP X pins σ Q (.ref s2.heap.objs.size) { s' with heap:=h' }:=by
    intro ys σ' H' s' J1 q
    obtain ⟨m,hm,_⟩:=id J1.loc
    refine ⟨m,hm,fun h' sb=>⟨.ref s2.heap.objs.size,H',?_,rfl,q⟩⟩
    have ne:∀ b o,s2.heap.get? b=some o→b≠P2.objs.size:=fun b o e=>(below b (Heap.lt_size e)).1
    refine I2.call' (s':={ s' with heap:=h' }) (ch:=fp) J1.os ⟨fun b o e n hb hx => ?_,fun b o e n hb hx => ?_,fun b o e n hx=>J1.base.free b o e n hx,fun b o e hx => ?_,J1.base.tups,J1.base.frzs,J1.base.tbls⟩ (J1.hok.but J1.free fun b u hb q=>(sb.2 b hb).trans q) J1.bare fun b hb=>⟨(f2 b hb).2.2.2.1,(f2 b hb).2.1,(f2 b hb).2.2.2.2.1,(f2 b hb).2.2.2.2.2⟩
    · exact (sb.2 b (ne b o e)).trans (J1.base.keep b o e n hb hx)
    · obtain ⟨sl,z⟩:=J1.base.slot b o e n hb hx
      exact ⟨sl,(sb.2 b (ne b o e)).trans z⟩
    · obtain ⟨o',z⟩:=J1.base.there b o e hx
      exact ⟨o',(sb.2 b (ne b o e)).trans z⟩
  have loop:codeAny (model X.prog X.w) X.A (.compLoop (.ListComp elt [⟨tg,iter,[],0⟩] scope pos) 0 (.ref it) (.ref s2.heap.objs.size) (compEnv scope P2.objs.size X.env))
      (fun r s'=>∃ m,s'.heap.Ns P2.objs.size m∧∀ h',Heap.SameBut P2.objs.size s'.heap h'→match r with
        | .ok _=>EP X pins σ Q (.ref s2.heap.objs.size) { s' with heap:=h' }
        | .error x=>wpAny (model X.prog X.w) X.A (passOn "comprehension.variables-let-go" x (compEnv scope P2.objs.size X.env)) (EP X pins σ Q) X.xe { s' with heap:=h' })
      { s2 with heap:=h₁,toks:=s2.toks + ([]:List (Str × Value)).length }:=by
    refine compLoop_go (fun n s'=>∃ i ys σ' H',Inv (cxComp X N' scope P2.objs.size s2 H2 fp pins) [] σ' H' s'∧tn i s'.heap∧(∀ b∈fp,H' b=none)∧W i n ys H') ?_ m0
      ⟨0,[],List.replicate N'.length none,_,I',T.keep _ _ _ st2 (fun b hb o e=>old b o e),fun b hb=>by rw [upd_ne (below b (hfp b hb)).2]; exact (f2 b hb).1,w0⟩
    rintro n s3 ⟨i,ys,σ3,H3,J3,st3,fr3,w3⟩
    obtain ⟨hl,q3⟩:=turn i n ys H3 w3
    rcases q3 with ⟨stop,q⟩ | ⟨go,hlt,step⟩
    · refine thn (T.done (cxComp X N' scope P2.objs.size s2 H2 fp pins) rfl rfl rfl hcalm i [] s3 σ3 H3 _ J3 (stat fr3) st3 stop) fun r s4 ⟨hr,J4⟩ => ?_
      subst hr
      exact fin ys σ3 H3 s4 J4 q
    · refine thn (T.item (cxComp X N' scope P2.objs.size s2 H2 fp pins) rfl rfl rfl hcalm i [] s3 σ3 H3 _ J3 (stat fr3) st3 go) fun r s4 ⟨u,hr,h4⟩ => ?_
      subst hr
      refine thn h4 fun _ s5 ⟨x,H5,J5,r5,y5,st5,fr5⟩ => ?_
      have J5':=J5.pinned (stat fr5) (T.obj _ _ st5)
      have J6:Inv (cxComp X N' scope P2.objs.size s2 H2 fp pins) ([]++pinsAt fp s5.heap) (List.replicate N'.length none) H5 s5:=J5'.weak (by rw [J5'.len]; simp [cxComp]) fun j v e=>by
        rw [List.getElem?_replicate] at e
        split at e <;> cases e
      refine wpAny_mono (hg _ _ _ _ _ _ s5 _ H5 x u _ J6 r5 (step x H5 y5)) (fun _ s6 ⟨σ6,H6,J7,q6⟩ => ?_) fun _ _ z=>False.elim z
      refine wpAny_mono (he _ _ _ _ _ _ s6 σ6 H6 _ J7 q6) (fun yv s7 ⟨y,H7,J8,r7,q7⟩ => ?_) fun _ _ z=>False.elim z
      obtain ⟨hl7,m',hm',w7⟩:=q7
      refine wpAny_mono (mt_append (X:=cxComp X N' scope P2.objs.size s2 H2 fp pins) _ s7 σ6 H7 (.ref s2.heap.objs.size) [y] (.ref s2.heap.objs.size) [yv] (fun v H8=>H8=upd H7 s2.heap.objs.size (.lst (ys++[y]))) J8 rfl (.cons r7 .nil) ⟨_,ys,y,rfl,rfl,hl7,hlt,rfl⟩) (fun _ s8 ⟨v8,H8,J9,r8,e8⟩ => ?_) fun _ _ z=>False.elim z
      subst e8
      have pk:∀ b∈fp,∀ o,s5.heap.get? b=some o→s8.heap.get? b=some o∧upd H7 s2.heap.objs.size (.lst (ys++[y])) b=none:=fun b hb o e =>
        let z:=J9.pin (b,o) (List.mem_append_right _ (List.mem_append_right _ (mem_pinsAt hb e)))
        ⟨z.1,z.2.1⟩
      refine ⟨m',hm',i + 1,ys++[y],σ6,_,J9.unpinned,T.keep _ _ _ st5 fun b hb o e=>(pk b hb o e).1,fun b hb => ?_,w7⟩
      obtain ⟨o,e,_⟩:=T.obj _ _ st5 b hb
      exact (pk b hb o e).2
  exact codeAny_compStart_list loop (T.self X.A 0 { s2 with heap:=h₁,toks:=s2.toks + ([]:List (Str × Value)).length } _ _ (T.keep _ _ _ st2 fun b hb o e=>old b o e) loop)
end

section
variable {X:Cx}
theorem boolsAre_of:∀ {bs:List Bool} {us:List Value},Vals (bs.map V.bl) us→LSm.BoolsAre us bs
  | [],us,r=>by rw [List.map_nil] at r; cases r; exact .nil
  | b::bs,us,r=>by
    rw [List.map_cons] at r
    cases r with
    | cons r1 r2 =>
      cases (show _=Value.bool b from r1)
      exact .cons b (boolsAre_of r2)
theorem call_all (hc:X.calm=true):CallR X (.builtin "all") (fun xs H Q=>∃ (a:Addr) (bs:List Bool),xs=[.ref a]∧SqL X.K H a (bs.map V.bl)∧Q (.bl (bs.all id)) H):=by
  intro pins s σ H xs us Q I r h
  obtain ⟨a,bs,rfl,hS,q⟩:=h
  obtain ⟨u,rfl,ru⟩:=vals1 r
  cases ru
  obtain ⟨its,rv,pl,_⟩:=I.list hS
  have hb:=boolsAre_of rv
  have hlt:a < s.heap.objs.size:=by obtain ⟨_,e,_⟩:=pl.isList; exact Heap.lt_size e
  refine call_all_walk (wpAny_pyIter_list pl.isList ?_)
  refine ⟨s.heap.objs.size,[s.heap.objs.size,a],[s.heap.objs.size],its.toArray.size,_,_,fun i=>(bs[i]?).getD true,rfl,Walks.list (A:=X.A.in1) (I.ok.hd hc) _ a (Nat.ne_of_lt hlt) its.toArray,
    ⟨⟨_,Heap.get?_push_size _ rfl,rfl,rfl⟩,pl.isList.push _⟩,fun i v s' Q' E' hP hQ => ?_,fun h' tk hk => ?_⟩
  · obtain ⟨b,e,rfl⟩:=hb.get i v (by simpa using hP)
    simp only [e,Option.getD_some] at hQ
    exact wpAny_truthy_bool hQ
  · have e:((List.range its.toArray.size).all fun i=>(bs[i]?).getD true)=bs.all id:=by
      rw [List.size_toArray,hb.length]; exact LSm.range_all bs
    rw [e]
    exact ⟨.bl _,H,I.kept (LSm.kept_iter hk),rfl,q⟩


theorem mt_startswith:MtR X "str.startswith" (fun x vs H Q=>∃ z y,x=.str z∧vs=[.str y]∧Q (.bl (Txt.startswith z y)) H):=by
  intro pins s σ H x vs v us Q I rx rv h
  obtain ⟨z,y,rfl,rfl,q⟩:=h
  obtain ⟨t,rfl⟩:=rx
  obtain ⟨u,rfl,tu,rfl⟩:=rv.one
  exact SC.startswith ⟨.bl _,H,I,rfl,q⟩
theorem mt_index:MtR X "str.index" (fun x vs H Q=>∃ z y i rest,x=.str z∧vs=[.str y]∧Builtin.Str.occurrences z y 0 z.length 1=i::rest∧Q (.int (i:Nat)) H):=by
  intro pins s σ H x vs v us Q I rx rv h
  obtain ⟨z,y,i,rest,rfl,rfl,ho,q⟩:=h
  obtain ⟨t,rfl⟩:=rx
  obtain ⟨u,rfl,tu,rfl⟩:=rv.one
  exact SC.index ho ⟨.int _,H,I.tok _,⟨_,rfl⟩,q⟩
end
end L2

namespace L2
open PySem PySem.Spec PyProof.Rows



def Quiet (CX:CXT):Prop:=∀ outer H s e s',CX outer H s E0 e s'→False
theorem passQ {CX:CXT} {X:Cx} (q:Quiet CX):Passes CX X E0:=fun _ _ _ _ _ _ _ h=>(q _ _ _ _ _ h).elim
structure Fok (P:Program) (w:World) (K:PySem.W.Frag) (mg:Str→Option Value) (base:Heap) (CX:CXT) (j:Nat) (x:Str) (ps:List Str) (dvs:List V) (sp:Sp):Prop where
  ex:∃ f fd ds,FnOk P w K mg base CX j f fd ps sp∧Binds K fd ps ds∧Vals dvs ds∧PySem.W.keepIn K (.ref f)=true∧mg x=some (.ref f)
section
variable {X:Cx} {CX:CXT} {j k:Nat} {ps:List Str} {sp:Sp} {dvs:List V} {E:XK} {x:Str} {p pos:Pos} {e:Expr} {es:List Expr} {t:TA}

theorem pe_callX (F:Fok X.prog X.w X.K X.mg X.base CX j x ps dvs sp) (hr:Room k X.A) (hx:Passes CX X E) (ha:PA X (e::es) t) (hj:j≤k:=by decide) (hg:Gl X x:=by rfl)
    (hdb:(x == ("__debug__" : Str))=false:=by decide) (he:starEach (e::es) X.env=(false,eval e X.env)::starEach es X.env:=by rfl) (hpl:(backTo pos (starEach es X.env)).any (·.1)=false:=by rfl) :
    PE X (.Call (.Name x p) (e::es) [] pos) (tCall sp dvs E t):=by
  obtain ⟨f,fd,ds,G,b,v,kp,m⟩:=F.ex
  exact pe_call G (hr.mono hj) hg m kp b v hx ha hdb he hpl
theorem pe_callF (F:Fok X.prog X.w X.K X.mg X.base CX j x ps dvs sp) (q:Quiet CX) (hr:Room k X.A) (ha:PA X (e::es) t) (hj:j≤k:=by decide) (hg:Gl X x:=by rfl)
    (hdb:(x == ("__debug__" : Str))=false:=by decide) (he:starEach (e::es) X.env=(false,eval e X.env)::starEach es X.env:=by rfl) (hpl:(backTo pos (starEach es X.env)).any (·.1)=false:=by rfl) :
    PE X (.Call (.Name x p) (e::es) [] pos) (tCall sp dvs E0 t):=pe_callX F hr (passQ q) ha hj hg hdb he hpl
end
section
variable {P:Program} {w:World} {K:PySem.W.Frag} {mg:Str→Option Value} {base:Heap}

structure FunD (K:PySem.W.Frag) (x qual:Str) (st:Stmt) (f:Addr) (fd:FuncData) (dV:Value):Prop where
  ex:∃ (oc:Value) (od:Option Addr) (kV doc pm:Value) (an:Option Addr) (cdv ct:Value) (osl:Array (Option Value)),
    fd=PySem.W.fnOf x qual (defArgs st) (defBody st) (defScope st) dV kV doc pm an cdv ct∧K.lookup f=some ⟨oc,od,.func fd,osl⟩∧PySem.W.codeIn K cdv qual=true
  kp:PySem.W.keepIn K (.ref f)=true
theorem funD_mk {x qual:Str} {st:Stmt} {f:Addr} {oc:Value} {od an:Option Addr} {osl:Array (Option Value)} {dV kV doc pm cdv ct:Value} (l:K.lookup f=some ⟨oc,od,.func (PySem.W.fnOf x qual (defArgs st) (defBody st) (defScope st) dV kV doc pm an cdv ct),osl⟩)
    (c:PySem.W.codeIn K cdv qual=true) (k:PySem.W.keepIn K (.ref f)=true):FunD K x qual st f (PySem.W.fnOf x qual (defArgs st) (defBody st) (defScope st) dV kV doc pm an cdv ct) dV:=⟨⟨oc,od,kV,doc,pm,an,cdv,ct,osl,rfl,l,c⟩,k⟩

theorem FunD.ok {x qual:Str} {st:Stmt} {f:Addr} {fd:FuncData} {dV:Value} {N ps:List Str} {k:Nat} {sp:Sp} {CX:CXT} (F:FunD K x qual st f fd dV) (S:FnScope N ps (defScope st)) (len:∀ vs H Q E,sp vs H Q E→vs.length=ps.length)
    (hbody:∀ (cdv:Value) (A:Around) (outer:List Env) (s:Shared) (H:Hp) (vs:List V) (Q:VK) (E:XK),Room k (A.deeper (envOfC qual (defScope st) s.heap.objs.size f cdv))→sp vs H Q E →
      ∃ t,PSs (cxOf CX P w K mg base N qual (defScope st) f cdv A outer s H E).nox (defBody st) t∧t { nx:=fun _ H'=>Q .non H',rt:=Q } (start N vs) H):FnOk P w K mg base CX (k + 1) f fd ps sp:=by
  obtain ⟨oc,od,kV,doc,pm,an,cdv,ct,osl,rfl,lk,hcd⟩:=F.ex
  refine fn_of lk hcd S len fun A outer s H vs Q E hr hsp => ?_
  obtain ⟨t,h,q⟩:=hbody cdv A outer s H vs Q E hr hsp
  exact ⟨t,h.nox,q⟩

theorem FunD.okX {x qual:Str} {st:Stmt} {f:Addr} {fd:FuncData} {dV:Value} {N ps:List Str} {k:Nat} {sp:Sp} {CX:CXT} (F:FunD K x qual st f fd dV) (S:FnScope N ps (defScope st)) (len:∀ vs H Q E,sp vs H Q E→vs.length=ps.length)
    (hbody:∀ (cdv:Value) (A:Around) (outer:List Env) (s:Shared) (H:Hp) (vs:List V) (Q:VK) (E:XK),Room k (A.deeper (envOfC qual (defScope st) s.heap.objs.size f cdv))→sp vs H Q E →
      ∃ t,PSs (cxOf CX P w K mg base N qual (defScope st) f cdv A outer s H E) (defBody st) t∧t { nx:=fun _ H'=>Q .non H',rt:=Q } (start N vs) H):FnOk P w K mg base CX (k + 1) f fd ps sp:=by
  obtain ⟨oc,od,kV,doc,pm,an,cdv,ct,osl,rfl,lk,hcd⟩:=F.ex
  exact fn_of lk hcd S len fun A outer s H vs Q E hr hsp=>hbody cdv A outer s H vs Q E hr hsp

theorem FunD.binds {x qual:Str} {st:Stmt} {f:Addr} {fd:FuncData} {dV:Value} {ps:List Str} (F:FunD K x qual st f fd dV)
    (h:∀ (kV doc pm:Value) (an:Option Addr) (cdv ct:Value) (us:List Value),us.length=ps.length→bindArgs (PySem.W.fnOf x qual (defArgs st) (defBody st) (defScope st) dV kV doc pm an cdv ct) ⟨us,[]⟩=pure (ps.zip us)):Binds K fd ps []:=by
  obtain ⟨oc,od,kV,doc,pm,an,cdv,ct,osl,rfl,lk,hcd⟩:=F.ex
  exact .all (h kV doc pm an cdv ct)

theorem FunD.bindsD {x qual:Str} {st:Stmt} {f t:Addr} {fd:FuncData} {ps:List Str} {o:Obj} {items:Array Value} {n:Nat} {ds:List Value} (F:FunD K x qual st f fd (.ref t)) (ho:K.lookup t=some o) (hs:o.data=.seq items n)
    (h:∀ (kV doc pm:Value) (an:Option Addr) (cdv ct:Value) (us:List Value),(us++ds).length=ps.length →
      ∃ k,bindArgs (PySem.W.fnOf x qual (defArgs st) (defBody st) (defScope st) (.ref t) kV doc pm an cdv ct) ⟨us,[]⟩=seqItems? (.ref t) >>= k∧k (some items)=pure (ps.zip (us++ds))):Binds K fd ps ds:=by
  obtain ⟨oc,od,kV,doc,pm,an,cdv,ct,osl,rfl,lk,hcd⟩:=F.ex
  intro s us X hl
  obtain ⟨k,h1,h2⟩:=h kV doc pm an cdv ct us hl
  exact BindsTo.of_defaults rfl (X _ _ ho) hs h1 h2

theorem fok {CX:CXT} {j:Nat} {x qual:Str} {st:Stmt} {f:Addr} {fd:FuncData} {dV:Value} {ps:List Str} {sp:Sp} (F:FunD K x qual st f fd dV) (G:FnOk P w K mg base CX j f fd ps sp) (b:Binds K fd ps []) (m:mg x=some (.ref f)) :
    Fok P w K mg base CX j x ps [] sp:=⟨f,fd,[],G,b,.nil,F.kp,m⟩

theorem fokD {CX:CXT} {j:Nat} {x qual:Str} {st:Stmt} {f:Addr} {fd:FuncData} {dV:Value} {ps:List Str} {sp:Sp} {ds:List Value} {dvs:List V} (F:FunD K x qual st f fd dV) (G:FnOk P w K mg base CX j f fd ps sp) (b:Binds K fd ps ds) (v:Vals dvs ds) (m:mg x=some (.ref f)) :
    Fok P w K mg base CX j x ps dvs sp:=⟨f,fd,ds,G,b,v,F.kp,m⟩
end


section
variable {X:Cx}
def CDivW (i j:Int):Prop:=0 < j∧j < 2 ^ 1000
theorem op_fdivW:OpR X (binaryOp .FloorDiv) (rI CDivW fun i j=>.int (i / j)):=opI fun i j _ _ _ _ _ hc q=>by
  have h1:(0:Int) < j:=hc.1
  have h2:j < 2 ^ 1000:=hc.2
  refine floordiv_int (by omega) (by rw [Int.fdiv_eq_ediv_of_nonneg i (by omega)]; exact q) (.inl (PyProof.noPylong_of_log2 ?_))
  have e:j.natAbs.log2 < 1000:=by
    refine (Nat.log2_lt (by omega)).mpr ?_
    have e2:((j.natAbs:Nat):Int)=j:=by omega
    have e3:((2 ^ 1000:Nat):Int)=(2:Int) ^ 1000:=by rw [Int.natCast_pow]; rfl
    omega
  omega
theorem cdivW {i j:Int} (h0:0 < j) (h1:j < 1000000000000000000000000):CDivW i j:=⟨h0,Int.lt_trans h1 (by decide +kernel)⟩
end
theorem bt_int:bootBuiltins "int" = some (.type "int"):=by decide +kernel
theorem bt_str:bootBuiltins "str" = some (.type "str"):=by decide +kernel
theorem bt_bool:bootBuiltins "bool" = some (.type "bool"):=by decide +kernel
theorem bt_list:bootBuiltins "list" = some (.type "list"):=by decide +kernel
theorem bt_tuple:bootBuiltins "tuple" = some (.type "tuple"):=by decide +kernel
theorem bb_isinstance:bootBuiltins "isinstance" = some (.builtin "isinstance"):=by decide +kernel
theorem bb_min:bootBuiltins "min" = some (.builtin "min"):=by decide +kernel
theorem bb_all:bootBuiltins "all" = some (.builtin "all"):=by decide +kernel
theorem bb_len:bootBuiltins "len" = some (.builtin "len"):=by decide +kernel
section
variable {K:PySem.W.Frag}
theorem kit_ii:PySem.W.kitOne K (.type "int") (.type "int")=some true:=by kernel_rfl
theorem kit_ib:PySem.W.kitOne K (.type "int") (.type "bool")=some false:=by kernel_rfl
theorem kit_is:PySem.W.kitOne K (.type "int") (.type "str")=some false:=by kernel_rfl
theorem kit_ss:PySem.W.kitOne K (.type "str") (.type "str")=some true:=by kernel_rfl
theorem kit_si:PySem.W.kitOne K (.type "str") (.type "int")=some false:=by kernel_rfl
theorem kit_bi:PySem.W.kitOne K (.type "bool") (.type "int")=some true:=by kernel_rfl
theorem kit_bb:PySem.W.kitOne K (.type "bool") (.type "bool")=some true:=by kernel_rfl
theorem kit_bs:PySem.W.kitOne K (.type "bool") (.type "str")=some false:=by kernel_rfl
theorem kit_tt:PySem.W.kitOne K (.type "tuple") (.type "tuple")=some true:=by kernel_rfl
theorem kit_ni:PySem.W.kitOne K (.type "NoneType") (.type "int")=some false:=by kernel_rfl
theorem kit_ns:PySem.W.kitOne K (.type "NoneType") (.type "str")=some false:=by kernel_rfl
theorem kit_ls:PySem.W.kitOne K (.type "list") (.type "str")=some false:=by kernel_rfl
theorem kit_ti:PySem.W.kitOne K (.type "tuple") (.type "int")=some false:=by kernel_rfl
end
end L2

namespace L2
open PySem PySem.Spec PyProof.Rows


section
variable {prog:Program} {w:World} {A:Around} {E:Value→Shared→Prop} {s:Shared}
end
end L2

namespace L2
open PySem PySem.Spec PyProof.Rows

end L2

namespace L2
open PySem PySem.Spec PyProof.Rows
section
variable {prog:Program} {w:World} {A:Around} {E:Value→Shared→Prop} {s:Shared}
end

section
variable {X:Cx} {pins:List (Addr × Obj)} {σ:St} {H:Hp} {s:Shared} {h':Heap}
theorem Inv.turnedL {t':Nat} {L:List Addr} (I:Inv X pins σ H s) (k:∀ b o,b∉L→s.heap.get? b=some o→h'.get? b=some o) (f:∀ b∈L,FpOk X pins H b):Inv X pins σ H { s with heap:=h',toks:=t' }:=by
  have nit:∀ b u,H b=some u→b∉L:=fun b u e z=>by rw [(f b z).1] at e; cases e
  refine I.step (g':=s.gens) (d':=s.drawn) (ch:=L) (fun b hb => ?_) (fun b o _ _ hc e _=>k b o hc e) (fun b o _ _ hc e _=>⟨o.slots,k b o hc e⟩) (fun _ _ _ _ n=>n)
    (fun b o hc e=>⟨o,k b o hc e⟩) (fun _ _ e=>e) (fun _ _ _ e=>e) (fun b ps e=>⟨#[],by rw [e]; simp⟩) (fun m hm => ?_) (fun b u e => ?_) I.bare
  · obtain ⟨f0,f1,f2,f3,f4,f5⟩:=f b hb
    exact ⟨f3,f1,f4,f5⟩
  · obtain ⟨o,es,ep,ho,r⟩:=hm
    exact ⟨o,es,ep,k _ o (fun z=>(f _ z).2.1 rfl) ho,r⟩
  · refine (I.hok b u e).stay (fun c v hc q=>k c v ?_ q) (fun _ q=>q) fun _ _ q=>q
    rcases hc with z | z
    · rw [z]; exact nit b u e
    · exact nit c _ z
end
section
variable {X:Cx}
end
end L2

namespace L2
open PySem PySem.Spec PyProof.Rows


end L2

namespace L2
open PySem PySem.Spec PyProof.Rows

end L2

namespace L2
open PySem PySem.Spec PyProof.Rows

def Tr3 (h base:Heap) (e:Addr) (cls a0 fl:Value):Prop :=
  ∃ oe vs T oT ts,h.get? e=some oe∧(oe.cls=cls∧vs[0]? = some a0∧vs[2]? = some .none)∧oe.data=.fields vs∧vs[1]? = some (.ref T)∧base.get? T=none∧T≠e∧h.get? T=some oT∧oT.data=.fields ts∧ts[3]? = some fl
def On3 (base:Heap) (l:List Env) (e:Addr) (cls a0 fl:Value) (h:Heap):Prop:=base.StaysIn h∧base.get? e=none∧h.FunFrames base l∧Tr3 h base e cls a0 fl
section
variable {M:Model} {A:Around} {E:Value→Shared→Prop} {s:Shared} {base:Heap} {env:Env} {outer l:List Env} {L e:Addr} {cls a0 fl:Value} {Q:Unit→Shared→Prop}

theorem rec_off {b:Addr} {o:Obj} {vs:Array Value} (fr:s.heap.FunFrames base l) (ho:s.heap.get? b=some o) (hd:o.data=.fields vs):b∉l.filterMap (·.frame):=fun m=>by
  obtain ⟨_,o',ho',nf⟩:=fr.mem m
  cases ho.symm.trans ho'
  exact nf vs hd

theorem On3.poke {h h':Heap} {T:Addr} {oT:Obj} {ts:Array Value} (st:base.StaysIn h) (fr:h.FunFrames base l) (hT:h.get? T=some oT) (dT:oT.data=.fields ts) (nT:base.get? T=none) (oth:∀ b,b≠T→h'.get? b=h.get? b) :
    base.StaysIn h'∧h'.FunFrames base l∧∀ b o,h.get? b=some o→(∀ vs,o.data≠.fields vs)→h'.get? b=some o:=by
  have k:∀ b o,h.get? b=some o→(∀ vs,o.data≠.fields vs)→h'.get? b=some o:=fun b o hb nf=>(oth b fun q=>by subst q; cases hb.symm.trans hT; exact nf ts dT).trans hb
  exact ⟨fun b o hb=>(oth b fun q=>by subst q; rw [nT] at hb; cases hb).trans (st b o hb),fr.of_keeps fun b o hb nf=>⟨o,k b o hb nf,rfl⟩,k⟩

theorem off3 (f:On3 base l e cls a0 fl s.heap) (q:∀ h',On3 base l e cls a0 .none h'→s.heap.UpToSlots h'→Q () { s with heap:=h' }):wpAny M A (setFlight (.ref e) none) Q E s:=by
  obtain ⟨st,ne,fr,oe,vs,T,oT,ts,he,hc,hd,h1,nT,Te,hT,dT,h3⟩:=f
  have lt:=(Array.getElem?_eq_some_iff.mp h3).1
  unfold setFlight
  refine wpAny_bind (wpAny_field he hd h1 ?_)
  rw [if_pos (by simp)]
  refine wpAny_setField hT dT lt ?_
  obtain ⟨a1,a2,a3⟩:=On3.poke st fr hT dT nT (h':=s.heap.update T (Obj.mapFields (·.setIfInBounds 3 ((none:Option Addr).elim Value.none fun f=>rawInt f)))) fun b hb=>Heap.get?_update_other _ _ (Ne.symm hb)
  exact q _ ⟨a1,ne,a2,oe,vs,T,_,_,(Heap.get?_update_other _ _ Te).trans he,hc,hd,h1,nT,Te,Heap.get?_update_self _ hT (Obj.isFreed_of_fields (Obj.data_mapFields dT _)),Obj.data_mapFields dT _,by simp [lt]⟩ fun b o hb nf=>⟨o.slots,a3 b o hb nf⟩

theorem entry3 {oe:Obj} {vs:Array Value} {head:Value} {had:Bool} (hfr:A.frames=some (env::outer)) (hf:env.frame=some L) (st:base.StaysIn s.heap) (ne:base.get? e=none) (fr:s.heap.FunFrames base (env::outer))
    (he:s.heap.get? e=some oe) (hd:oe.data=.fields vs) (lt:1 < vs.size) (hc:oe.cls=cls∧vs[0]? = some a0∧vs[2]? = some .none) (q:∀ h',On3 base (env::outer) e cls a0 (rawInt L) h'→s.heap.UpToSlots h'→Q () { s with heap:=h' }) :
    wpAny M A (do let a ← frameOf env; let pl ← entryPlaceOf L had; let b ← EntryCells.newEntry head a .none (rawInt L) .none pl; setField (.ref e) 1 b) Q E s:=by
  have out:=rec_off fr he hd
  refine wpAny_bind (wpAny_frameOf_fun hfr fr hf fun g sl=>wpAny_bind (wpAny_entryPlaceOf fun pl hp => ?_))
  unfold EntryCells.newEntry newFields
  refine wpAny_bind (wpAny_newObj_type ?_ (hp.sizeOk5 _ _ _ _ _))
  have g1:g.get? e=some oe:=(sl.2.1 e out).trans he
  have g2:base.StaysIn g:=fun b o hb=>(sl.2.1 b fun m=>by rw [(fr.mem m).1] at hb; cases hb).trans (st b o hb)
  obtain ⟨N,eN⟩:∃ N:Obj,N={ cls:=.type "traceback",dict:=none,data:=.fields ([head,.ref L,.none,rawInt L,.none]++(if pl.isEmpty then List.replicate 6 Value.none else pl)).toArray }:=⟨_,rfl⟩
  have dN:N.data=.fields ([head,.ref L,.none,rawInt L,.none]++(if pl.isEmpty then List.replicate 6 Value.none else pl)).toArray:=by rw [eN]
  have gN:(g.push N).get? g.objs.size=some N:=Heap.get?_push_size g (by rw [eN]; rfl)
  have g3:(g.push N).get? e=some oe:=Heap.get?_push_of_some N g1
  have Te:g.objs.size≠e:=Nat.ne_of_gt (Heap.lt_size g1)
  rw [← eN]
  refine wpAny_setField g3 hd lt (q _ ?_ ?_)
  all_goals
    have oth:∀ b,b≠e→((g.push N).update e (Obj.mapFields (·.setIfInBounds 1 (Value.ref g.objs.size)))).get? b=(g.push N).get? b:=fun b hb=>Heap.get?_update_other _ _ (Ne.symm hb)
    have hk:∀ b o,s.heap.get? b=some o→(∀ vs,o.data≠.fields vs)→∃ sl',((g.push N).update e (Obj.mapFields (·.setIfInBounds 1 (Value.ref g.objs.size)))).get? b=some { o with slots:=sl' }:=fun b o hb nf=>by
      obtain ⟨sl',e1⟩:=sl.2.2 b o hb
      exact ⟨sl',(oth b fun z=>by subst z; cases hb.symm.trans he; exact nf vs hd).trans (Heap.get?_push_of_some N e1)⟩
  · have d3:=Obj.data_mapFields hd (·.setIfInBounds 1 (Value.ref g.objs.size))
    refine ⟨fun b o hb=>(oth b fun z=>by subst z; rw [ne] at hb; cases hb).trans (Heap.get?_push_of_some N (g2 b o hb)),ne,fr.of_keeps fun b o hb nf => ?_,_,_,g.objs.size,N,_,Heap.get?_update_self _ g3 (Obj.isFreed_of_fields d3),⟨?_,?_,?_⟩,d3,by simp [lt],g2.fresh,Te,(oth _ Te).trans gN,dN,by rfl⟩
    · obtain ⟨sl',e1⟩:=hk b o hb nf
      exact ⟨_,e1,rfl⟩
    · exact (Obj.cls_mapFields _ _).trans hc.1
    · rw [Array.getElem?_setIfInBounds_ne (by decide)]; exact hc.2.1
    · rw [Array.getElem?_setIfInBounds_ne (by decide)]; exact hc.2.2
  · exact hk

theorem look3 (hfr:A.frames=some (env::outer)) (hf:env.frame=some L) (f:On3 base (env::outer) e cls a0 .none s.heap) (q:∀ h',On3 base (env::outer) e cls a0 (rawInt L) h'→s.heap.UpToSlots h'→Q () { s with heap:=h' }) :
    wpAny M A (noteFrame (.ref e) env) Q E s:=by
  obtain ⟨st,ne,fr,oe,vs,T,oT,ts,he,hc,hd,h1,nT,Te,hT,dT,h3⟩:=f
  unfold noteFrame
  simp only [hf]
  refine wpAny_bind (wpAny_field he hd h1 ?_)
  rw [if_pos (by simp)]
  refine wpAny_bind (wpAny_field hT dT h3 ?_)
  rw [if_neg (by simp [rawInt])]
  refine wpAny_bind (wpAny_setField hT dT (Array.getElem?_eq_some_iff.mp h3).1 ?_)
  obtain ⟨a1,a2,a3⟩:=On3.poke st fr hT dT nT (h':=s.heap.update T (Obj.mapFields (·.setIfInBounds 3 Value.none))) fun b hb=>Heap.get?_update_other _ _ (Ne.symm hb)
  exact entry3 hfr hf a1 ne a2 ((Heap.get?_update_other _ _ Te).trans he) hd (Array.getElem?_eq_some_iff.mp h1).1 hc fun h' o u=>q h' o fun b o' hb nf=>u b o' (a3 b o' hb nf) nf
theorem leave3 (hfr:A.frames=some (env::outer)) (hf:env.frame=some L) (f:On3 base (env::outer) e cls a0 .none s.heap) (q:∀ h',On3 base outer e cls a0 .none h'→s.heap.UpToSlots h'→Q () { s with heap:=h' }) :
    wpAny M A (leaving env (.ref e)) Q E s:=by
  unfold leaving
  refine wpAny_bind (look3 hfr hf f fun h1 o1 u1=>off3 o1 fun h2 o2 u2 => ?_)
  obtain ⟨b1,b2,⟨_,_,b3⟩,b4⟩:=o2
  exact q h2 ⟨b1,b2,b3,b4⟩ (u1.trans u2)
theorem made3 {h:Heap} {args:List Value} (hfr:A.frames=some (env::outer)) (hf:env.frame=some L) (st:base.StaysIn h) (fr:h.FunFrames base (env::outer)) (hx:Heap.MadeExcOf h s.heap e cls args)
    (q:∀ h' a0,On3 base outer e cls a0 .none h'→s.heap.UpToSlots h'→Q () { s with heap:=h' }):wpAny M A (leaving env (.ref e)) Q E s:=by
  obtain ⟨t,he,tn,ht⟩:=hx.there
  have ne:base.get? e=none:=by
    cases z:base.get? e with
    | none=>rfl
    | some o=>have:=st e o z; rw [hx.new] at this; cases this
  unfold leaving noteFrame
  simp only [hf]
  refine wpAny_bind (wpAny_bind (wpAny_field he rfl (x:=Value.none) rfl ?_))
  rw [if_neg (by decide)]
  refine entry3 hfr hf (fun b o hb=>hx.keeps b o (st b o hb)) ne (fr.of_keeps fun b o hb _=>⟨o,hx.keeps b o hb,rfl⟩) he rfl (by simp) ⟨rfl,rfl,rfl⟩ fun h1 o1 u1=>off3 o1 fun h2 o2 u2 => ?_
  obtain ⟨b1,b2,⟨_,_,b3⟩,b4⟩:=o2
  exact q h2 _ ⟨b1,b2,b3,b4⟩ (u1.trans u2)
end


theorem ObjOk.there {P:Program} {w:World} {H:Hp} {h:Heap} {a:Addr} {o:HO} (x:ObjOk P w H h a o):∃ u,h.get? a=some u:=by
  cases o with
  | lst xs=>obtain ⟨_,_,_,_,e⟩:=x; exact ⟨_,e⟩
  | tup xs=>obtain ⟨_,_,_,o,e,_⟩:=x; exact ⟨_,e⟩
  | dK kvs=>obtain ⟨_,_,_,_,o,_,_,e,_⟩:=x; exact ⟨_,e⟩
  | dT kvs=>obtain ⟨_,_,_,_,o,_,_,e,_⟩:=x; exact ⟨_,e⟩
  | set S n=>obtain ⟨o,_,_,_,e,_⟩:=x; exact ⟨_,e⟩
  | ins C dx fs=>obtain ⟨_,_,_,e,_⟩:=x; exact ⟨_,e⟩
  | own y=>exact x
  | xd fs=>obtain ⟨_,⟨_,_,_,e,_⟩,_⟩:=x; exact ⟨_,e⟩
  | rng lo hi=>obtain ⟨_,_,_,e⟩:=x; exact ⟨_,e⟩
  | frz ob u=>obtain ⟨e,_⟩:=x; exact ⟨_,e⟩
  | tbl ps=>exact ⟨_,(show h.get? a=some _ from x)⟩
  | met f y=>exact ⟨_,(show h.get? a=some _ from x)⟩
  | ext φ=>obtain ⟨_,e,_⟩:=x; exact e
theorem HOk.not {P:Program} {w:World} {H:Hp} {h:Heap} {a:Addr} (x:HOk P w H h) (e:h.get? a=none):H a=none:=by
  cases q:H a with
  | none=>rfl
  | some o =>
    obtain ⟨u,z⟩:=(x a o q).there
    rw [e] at z; cases z

structure Fly (h0:Heap) (H:Hp) (h:Heap) (e:Addr) (cls:Value):Prop where
  ex:∃ oe vs a0 T oT ts,h.get? e=some oe∧(oe.cls=cls∧vs[0]? = some a0∧vs[2]? = some .none)∧oe.data=.fields vs∧vs[1]? = some (.ref T)∧(h0.get? T=none∧H T=none)∧T≠e∧h.get? T=some oT∧oT.data=.fields ts∧ts[3]? = some .none
  new:h0.get? e=none
  un:H e=none
def CXe (P:Program) (w:World):CXT:=fun outer H s E ev s'=>∃ e cls H',ev=.ref e∧s'.os=s.os∧AllBare s'.gens∧Un (frs outer) [] H H' s.heap s'.heap∧HOk P w H' s'.heap∧Fly s.heap H' s'.heap e cls∧E cls none H'
theorem quietE {P:Program} {w:World}:Quiet (CXe P w):=fun _ _ _ _ _ ⟨_,_,_,_,_,_,_,_,_,h⟩=>h

theorem rebase {h b b':Heap}:∀ {l:List Env},h.FunFrames b l→(∀ a∈frs l,b'.get? a=none)→h.FunFrames b' l
  | [],_,_=>trivial
  | env::r,⟨hk,⟨L,o,hf,hn,ho,hd⟩,hr⟩,k=>by
    have e:frs (env::r)=L::frs r:=by unfold frs; rw [List.filterMap_cons,hf]
    rw [e] at k
    exact ⟨hk,⟨L,o,hf,k L List.mem_cons_self,ho,hd⟩,rebase hr fun a ha=>k a (List.mem_cons_of_mem _ ha)⟩

abbrev less (h:Heap) (l:List Addr):Heap:=PySem.W.hideAll h l
theorem less_stays (h:Heap) (l:List Addr):(less h l).StaysIn h:=fun _ _ e=>PySem.W.of_hideAll l e

section
variable {P:Program} {w:World} {H H':Hp} {h h' h'' bs:Heap} {l:List Env} {hid:List Addr}

theorem un_upto (u:Un (frs l) [] H H' h h') (ok:HOk P w H' h') (fr:h'.FunFrames bs l) (fre:∀ b∈frs l,H' b=none) (hh:∀ b∈hid,h.get? b=none∧H' b=none)
    (st:(less h' (hid++frs l)).StaysIn h'') (up:h'.UpToSlots h''):Un (frs l) [] H H' h h''∧HOk P w H' h'':=by
  have kp:∀ b o,h'.get? b=some o→b∉hid→b∉frs l→h''.get? b=some o:=fun b o e n1 n2=>st b o (PySem.W.hideAll_get _ e fun z=>(List.mem_append.mp z).elim n1 n2)
  have nh:∀ b o,h.get? b=some o→b∉hid:=fun b o e z=>by rw [(hh b z).1] at e; cases e
  have fs:∀ b o,h'.get? b=some o→b∈frs l→∃ sl,h''.get? b=some { o with slots:=sl }:=fun b o e hb=>by
    obtain ⟨_,o',e',nf⟩:=fr.mem hb
    rw [e] at e'; cases e'
    exact up b o e nf
  refine ⟨⟨fun b o e n hb hx=>kp b o (u.keep b o e n hb hx) (nh b o e) hb,fun b o e n hb hx => ?_,u.free,fun b o e hx => ?_,u.tups,u.frzs,u.tbls⟩,fun a o e => ?_⟩
  · obtain ⟨sl,e1⟩:=u.slot b o e n hb hx
    obtain ⟨sl',e2⟩:=fs b _ e1 hb
    exact ⟨sl',e2⟩
  · obtain ⟨o',e1⟩:=u.there b o e hx
    by_cases hb:b∈frs l
    · obtain ⟨sl',e2⟩:=fs b _ e1 hb
      exact ⟨_,e2⟩
    · exact ⟨o',kp b o' e1 (nh b o e) hb⟩
  · refine (ok a o e).stay (fun b v hb q => ?_) (fun _ q=>q) fun _ _ q=>q
    have tr:∃ v,H' b=some v:=by
      rcases hb with z | z
      · exact ⟨o,z▸e⟩
      · exact ⟨_,z⟩
    obtain ⟨v',tr⟩:=tr
    refine kp b v q (fun z => ?_) fun z => ?_
    · rw [(hh b z).2] at tr; cases tr
    · rw [fre b z] at tr; cases tr

theorem entry_new (u:Un (frs l) [] H H' h h') (ok:HOk P w H' h') (fr:h'.FunFrames bs l) (hh:∀ b∈hid,h.get? b=none∧H' b=none) (up:h'.UpToSlots h'') {T:Addr} {oT:Obj} {ts:Array Value}
    (e:h''.get? T=some oT) (d:oT.data=.fields ts) (n:(less h' (hid++frs l)).get? T=none):h.get? T=none∧H' T=none:=by
  have nf:T∉frs l:=fun z=>by
    obtain ⟨_,o',e',nf⟩:=fr.mem z
    obtain ⟨sl,q⟩:=up T o' e' nf
    rw [e] at q
    cases q
    exact nf ts d
  by_cases hb:T∈hid
  · exact hh T hb
  · have z:h'.get? T=none:=by
      cases q:h'.get? T with
      | none=>rfl
      | some o =>
        have z:(less h' (hid++frs l)).get? T=some o:=PySem.W.hideAll_get _ q fun z=>(List.mem_append.mp z).elim hb nf
        rw [n] at z; cases z
    refine ⟨?_,ok.not z⟩
    cases q:h.get? T with
    | none=>rfl
    | some o =>
      obtain ⟨o',q'⟩:=u.there T o q (by simp)
      rw [z] at q'; cases q'
end
theorem back {fs:List Addr} {H H':Hp} {h h':Heap} (u:Un fs [] H H' h h') {a:Addr} (e:h'.get? a=none):h.get? a=none:=by
  cases q:h.get? a with
  | none=>rfl
  | some o =>
    obtain ⟨o',q'⟩:=u.there a o q (by simp)
    rw [e] at q'; cases q'


section
variable {P:Program} {w:World} {K:PySem.W.Frag} {mg:Str→Option Value} {base:Heap} {N:List Str} {qual:Str} {scope:Scope} {f:Addr} {cd:Value} {A:Around} {outer:List Env} {s0:Shared} {H0:Hp} {E:XK}

theorem leave_made {pins:List (Addr × Obj)} {σ:St} {H:Hp} {s:Shared} {h':Heap} {e:Addr} {cls:Value} {args:List Value} (I:Inv (cxOf (CXe P w) P w K mg base N qual scope f cd A outer s0 H0 E) pins σ H s)
    (hx:Heap.MadeExcOf s.heap h' e cls args) (q:E cls none H):(cxOf (CXe P w) P w K mg base N qual scope f cd A outer s0 H0 E).xe (.ref e) { s with heap:=h' }:=by
  have fr:s.heap.FunFrames _ (cxOf (CXe P w) P w K mg base N qual scope f cd A outer s0 H0 E).stack:=I.stack
  have kin:=I.stkFree
  refine made3 (base:=less s.heap ([]++frs (cxOf (CXe P w) P w K mg base N qual scope f cd A outer s0 H0 E).stack)) (h:=s.heap) (L:=s0.heap.objs.size) I.ok.frames rfl (less_stays _ _)
    (rebase fr fun a ha=>PySem.W.hideAll_none _ (List.mem_append_right _ ha)) hx fun h'' a0 x1 x4 => ?_
  have up:s.heap.UpToSlots h'':=(Heap.UpToSlots.of_keeps hx.keeps).trans x4
  obtain ⟨y1,y2,y3,oe,vs,T,oT,ts,z1,z2,z3,z4,z5,z6,z7,z8,z9⟩:=x1
  obtain ⟨u,ok⟩:=un_upto (H:=H) (hid:=[]) Un.refl I.hok fr kin (fun b z=>by cases z) y1 up
  have J:=I.call' (s':={ s with heap:=h'' }) (ch:=[]) rfl u ok I.bare (fun b z=>by cases z)
  obtain ⟨n1,n2⟩:=entry_new (H:=H) (hid:=[]) Un.refl I.hok fr (fun b z=>by cases z) up z7 z8 z5
  exact ⟨e,cls,H,rfl,J.os,J.bare,J.base,ok,⟨⟨oe,vs,_,T,oT,ts,z1,z2,z3,z4,⟨back I.base n1,n2⟩,z6,z7,z8,z9⟩,back I.base hx.new,I.hok.not hx.new⟩,q⟩

theorem leave_on {pins:List (Addr × Obj)} {σ:St} {H:Hp} {s s':Shared} {e:Value} (I:Inv (cxOf (CXe P w) P w K mg base N qual scope f cd A outer s0 H0 E) pins σ H s)
    (c:CXe P w (cxOf (CXe P w) P w K mg base N qual scope f cd A outer s0 H0 E).stack H s E e s'):(cxOf (CXe P w) P w K mg base N qual scope f cd A outer s0 H0 E).xe e s':=by
  obtain ⟨ea,cls,H',rfl,c1,c2,c3,c4,⟨⟨oe,vs,a0,T,oT,ts,f1,f2,f3,f4,f5,f6,f7,f8,f9⟩,fn,fu⟩,q⟩:=c
  have J:=I.call' (s':=s') (ch:=[]) c1 c3 c4 c2 (fun b z=>by cases z)
  have fr:s'.heap.FunFrames _ (cxOf (CXe P w) P w K mg base N qual scope f cd A outer s0 H0 E).stack:=J.stack
  have hh:∀ b∈[ea,T],s.heap.get? b=none∧H' b=none:=fun b hb=>by
    rcases List.mem_cons.mp hb with rfl | hb
    · exact ⟨fn,fu⟩
    · rcases List.mem_cons.mp hb with rfl | hb
      · exact f5
      · cases hb
  refine leave3 (base:=less s'.heap ([ea,T]++frs (cxOf (CXe P w) P w K mg base N qual scope f cd A outer s0 H0 E).stack)) (L:=s0.heap.objs.size) (cls:=cls) (a0:=a0) I.ok.frames rfl
    ⟨less_stays _ _,PySem.W.hideAll_none _ (by simp),rebase fr fun a ha=>PySem.W.hideAll_none _ (List.mem_append_right _ ha),oe,vs,T,oT,ts,f1,f2,f3,f4,PySem.W.hideAll_none _ (by simp),f6,f7,f8,f9⟩ fun h'' x1 x4 => ?_
  obtain ⟨y1,y2,y3,oe',vs',T',oT',ts',z1,z2,z3,z4,z5,z6,z7,z8,z9⟩:=x1
  obtain ⟨u,ok⟩:=un_upto c3 c4 fr J.stkFree hh y1 x4
  have J':=I.call' (s':={ s' with heap:=h'' }) (ch:=[]) c1 u ok c2 (fun b z=>by cases z)
  obtain ⟨n1,n2⟩:=entry_new c3 c4 fr hh x4 z7 z8 z5
  exact ⟨ea,cls,H',rfl,J'.os,J'.bare,J'.base,ok,⟨⟨oe',vs',_,T',oT',ts',z1,z2,z3,z4,⟨back I.base n1,n2⟩,z6,z7,z8,z9⟩,back I.base fn,fu⟩,q⟩
theorem passE:Passes (CXe P w) (cxOf (CXe P w) P w K mg base N qual scope f cd A outer s0 H0 E) E:=fun _ _ _ _ _ _ I c=>leave_on I c
end
end L2

namespace L2
open PySem PySem.Spec PyProof.Rows


abbrev bmV:List Value:=[.type "ValueError",.type "Exception",.type "BaseException",.type "object"]
structure OwnX (K:PySem.W.Frag) (mg:Str→Option Value) (x:Str) (C:Addr):Prop where
  m:mg x=some (.ref C)
  ok:PySem.W.excIn K C bmV "ValueError.__new__" = true
theorem own_obj {K:PySem.W.Frag} {h:Heap} {C:Addr} {bmB:List Value} {newId:String} (X:K.In h) (q:PySem.W.excIn K C bmB newId=true) :
    ∃ bm N nm qn bs hd sn sub ab col dd k0 k1 k2 k3 k5 mN,h.get? C=some (excClassObj nm qn C N bs bm hd sn sub ab col dd k0 k1 k2 k3 k5 newId)∧h.Ns N mN∧mN "__init__" = none∧OwnTail h bmB bm:=by
  unfold PySem.W.excIn at q
  split at q
  · rename_i dct cdt slo hob
    split at q
    · rename_i C2 bmx j0 j1 j2 j3 nw j5 hmr hsl
      simp only [Bool.and_eq_true,beq_iff_eq,Bool.not_eq_true'] at q
      obtain ⟨⟨⟨⟨⟨q1,q2⟩,q3⟩,q4⟩,q5⟩,q6⟩:=q
      subst q1 q2
      obtain ⟨nm,bs,mro,ns,qn,hd,sn,sub,ab,col,del⟩:=cdt
      dsimp only at hmr q3 q5 q6
      subst hmr q3
      have es:slo = #[j0,j1,j2,j3,some (.builtin nw),j5]:=by
        obtain ⟨l⟩:=slo
        simp only at hsl
        rw [hsl]
      subst es
      exact ⟨bmx,ns,nm,qn,bs,hd,sn,sub,ab,col,dct,j0,j1,j2,j3,j5,_,X _ _ hob,.of_isNs (PySem.W.isNs_of_in X q5),PySem.W.nsMap_none_of_in X q5 q6,PySem.W.tail_of_in X q4⟩
    · cases q
  · cases q

def Raises (X:Cx) (E:XK):Prop:=∀ (pins:List (Addr × Obj)) (σ:St) (H:Hp) (s:Shared) (h':Heap) (e:Addr) (cls:Value) (args:List Value),Inv X pins σ H s→Heap.MadeExcOf s.heap h' e cls args→E cls none H→X.xe (.ref e) { s with heap:=h' }
theorem raisesE {P:Program} {w:World} {K:PySem.W.Frag} {mg:Str→Option Value} {base:Heap} {N:List Str} {qual:Str} {scope:Scope} {f:Addr} {cd:Value} {A:Around} {outer:List Env} {s0:Shared} {H0:Hp} {E:XK} :
    Raises (cxOf (CXe P w) P w K mg base N qual scope f cd A outer s0 H0 E) E:=fun _ _ _ _ _ _ _ _ I hx q=>leave_made I hx q
def tRaise (te:TE) (cls:Value) (E:XK):TS:=fun _ σ H=>te σ H fun _ H1=>E cls none H1
section
variable {X:Cx}
theorem ps_raise {x:Str} {C:Addr} {np cpos pos:Pos} {e:Expr} {te:TE} {E:XK} (o:OwnX X.K X.mg x C) (hE:Raises X E) (ha:PE X e te) (hc:X.calm=true:=by rfl) (hg:Gl X x:=by rfl) (hd:(x == ("__debug__" : Str))=false:=by decide)
    (he:starEach [e] X.env=(false,eval e X.env)::starEach [] X.env:=by rfl):PS X (.Raise (some (.Call (.Name x np) [e] [] cpos)) none pos) (tRaise te (.ref C) E):=by
  intro pins s σ H D I h
  obtain ⟨bm,N,nm,qn,bs,hdt,sn,sub,ab,col,dd,k0,k1,k2,k3,k5,mN,hC,hN,hni,T⟩:=own_obj I.mod.kin o.ok
  refine wpAny_Raise_call_subT (C:=C) (nm:=nm) (q:=qn) (N:=N) (bs:=bs) (bm:=bm) (hdct:=hdt) (sn:=sn) (sub:=sub) (ab:=ab) (col:=col) (dd:=dd) (k0:=k0) (k1:=k1) (k2:=k2) (k3:=k3) (k5:=k5) (mN:=mN)
    F.excBase_ValueError (T.hasType F.excBase_ValueError.hasBase) (I.ok.hd hc) (by rw [he]; rfl) hni (ld_glob I hg o.m ⟨rfl,?_⟩ hd)
  have ha':=pa_cons ha pa_nil he cpos pins s σ H (fun vs H1=>vs.length=1∧E (.ref C) none H1) I (by
    refine (?_:tCons te tNil σ H _)
    exact (show te σ H _ from by
      have e1:(fun x H1=>tNil σ H1 fun xs H2=>(x::xs).length=1∧E (Value.ref C) none H2)=fun (_:V) H1=>E (Value.ref C) none H1:=by
        funext x H1; simp [tNil]
      rw [e1]; exact h))
  rw [he] at ha' ⊢
  refine Calls.evalArgs_plain (wpAny_mono ha' (fun us s2 z => ?_) fun _ _ y=>y)
  obtain ⟨vs,H1,I2,r,hl,q⟩:=z
  refine ⟨rfl,by rw [← r.length,hl]; decide,I2.bk _ _ hC,hN.keeps I2.bk,T.keeps I2.bk,fun h' e hm=>hE pins σ H1 s2 h' e _ us I2 hm q⟩
end


def ExcIs (e:Addr) (cls:Value) (h:Heap):Prop:=∃ o vs,h.get? e=some o∧o.cls=cls∧o.data=.fields vs∧vs[2]? = some .none
structure ExcC (K:PySem.W.Frag) (C:Addr):Prop where
  ga:PySem.W.findIn K (.ref C) "__getattribute__" = some (some (.builtin "BaseException.__getattribute__"))
  gt:PySem.W.findIn K (.ref C) "__getattr__" = some none
  ca:PySem.W.findIn K (.ref C) "__class__" = some (some (.builtin "object.__class__"))
  m1:PySem.W.subIn K (.ref C) (.type "object")=some true
  m2:PySem.W.subIn K (.ref C) (.type "BaseException")=some true
  cl:(PySem.W.clsIn K C).isSome=true
section
variable {prog:Program} {w:World} {A:Around} {E:Value→Shared→Prop} {h:Heap} {g:Array GenState} {d:Drawn} {t:Nat} {os:OsState} {a C:Addr} {o:Obj} {vs:Array Value}
theorem xcls_get {R:Result→Shared→Prop} (hx:h.get? a=some o) (hc:o.cls=.ref C) (S:PySem.W.Looks (model prog w) h (isSubtype (.ref C) (.type "object")) true) (hq:R (.ok (.ret (.ref C))) ⟨h,g,d,t,os⟩) :
    codeAny (model prog w) A (.call (.builtin "getset_descriptor.__get__") ⟨[.builtin "object.__class__",.ref a,.ref C],[]⟩) R ⟨h,g,d,t,os⟩:=by
  have hT5:(⟨h,g,d,t,os⟩:Shared).TypeIs (.builtin "object.__class__") "getset_descriptor" := F.typeOf_object_class
  have S':PySem.W.Looks (model prog w) h (isSubtype (.ref C) (.type (".".intercalate ("object.__class__".cutAt '.').dropLast))) true:=by rw [F.owner_object_class]; exact S
  refine codeAny_call_builtin F.slot_gs_get.plain F.entry_gs_get (F.slot_gs_get.check _ _ _ _ _ _ _ _ hT5 (F.args_gs_get _ _ _) ?_)
  repeat (any_goals (first | assumption | (with_reducible refine wpAny_loadPart_at hx ?_; rw [hc]) | with_reducible refine S'.at ?_ | wp_step))
  refine ⟨Code.quiet_builtin _ (by decide +kernel),codeAny_builtin F.entry_object_class ?_⟩
  repeat (any_goals (first | assumption | (with_reducible refine wpAny_loadPart_at hx ?_; rw [hc]) | wp_step))
theorem xcls_entry {tk:Tok} {Q:Fin→Shared→Prop} (hx:h.get? a=some o) (hc:o.cls=.ref C) (S:PySem.W.Looks (model prog w) h (isSubtype (.ref C) (.type "object")) true)
    (L:PySem.W.Looks (model prog w) h (typeLookup (.ref C) "__class__") (some (.builtin "object.__class__"))) (hq:Q (.done (.ret (.ref C))) ⟨h,g,d,t,os⟩) :
    wpAny (model prog w) A (Builtin.«object.__getattribute__» ⟨[.ref a,.str "__class__" tk],[]⟩) Q E ⟨h,g,d,t,os⟩:=by
  have hT5:(⟨h,g,d,t,os⟩:Shared).TypeIs (.builtin "object.__class__") "getset_descriptor" := F.typeOf_object_class
  have f5:=F.typeOf_object_class
  have f6:=F.slot_gs_get.lookup
  have f7:=F.slot_gs_set.lookup
  repeat (any_goals (first | assumption | (with_reducible refine wpAny_loadPart_at hx ?_; rw [hc]) | with_reducible refine L.at ?_ | wp_step))
  refine xcls_get hx hc S ?_
  repeat (any_goals (first | assumption | wp_step))
theorem xcls_check {M:Model} {nv:Value} {Q:Unit→Shared→Prop} (hx:h.get? a=some o) (hc:o.cls=.ref C) (S:PySem.W.Looks M h (isSubtype (.ref C) (.type "BaseException")) true) (hq:Q () ⟨h,g,d,t,os⟩) :
    wpAny M A (checkBuiltinCall "BaseException.__getattribute__" ⟨[.ref a,nv],[]⟩) Q E ⟨h,g,d,t,os⟩:=by
  have hk:builtinKind "BaseException.__getattribute__" = some .slot:=by decide +kernel
  have hs:splitId "BaseException.__getattribute__" = some ("BaseException","__getattribute__"):=by decide +kernel
  have ha:=F.args_bexc_ga (.ref a) nv
  simp only [checkBuiltinCall,hk,hs]
  refine wpAny_bind ?_
  unfold isInstance
  repeat (first | (with_reducible refine wpAny_loadPart_at hx ?_; rw [hc]) | with_reducible refine S.at ?_ | wp_step)
  exact hq
theorem xcls_by {tk:Tok} {Q:Value→Shared→Prop} (hx:h.get? a=some o) (hc:o.cls=.ref C) (S:PySem.W.Looks (model prog w) h (isSubtype (.ref C) (.type "object")) true) (S2:PySem.W.Looks (model prog w) h (isSubtype (.ref C) (.type "BaseException")) true)
    (L:PySem.W.Looks (model prog w) h (typeLookup (.ref C) "__class__") (some (.builtin "object.__class__"))) (L1:PySem.W.Looks (model prog w) h (typeLookup (.ref C) "__getattribute__") (some (.builtin "BaseException.__getattribute__")))
    (L2:PySem.W.Looks (model prog w) h (typeLookup (.ref C) "__getattr__") none) (sl:Slot "ValueError" "__getattribute__" "BaseException.__getattribute__") (hq:Q (.ref C) ⟨h,g,d,t,os⟩):wpAny (model prog w) A (getAttrBy (.ref a) (.str "__class__" tk) false) Q E ⟨h,g,d,t,os⟩:=by
  have f3:=sl.bind (.ref a)
  have hx2:(Value.builtin "BaseException.__getattribute__" == Value.builtin "object.__getattribute__")=false:=by decide +kernel
  have hx1:(onTheHeap (Value.ref C) && Value.builtin "BaseException.__getattribute__" == Value.builtin "object.__getattribute__")=false:=by rw [hx2]; rfl
  repeat (any_goals (first | assumption | (with_reducible refine wpAny_loadPart_at hx ?_; rw [hc]) | with_reducible refine L1.at ?_ | with_reducible refine L2.at ?_ | wp_step))
  refine codeAny_call_builtin sl.plain F.entry_bexc_ga (xcls_check hx hc S2 (xcls_entry hx hc S L ?_))
  repeat (any_goals (first | assumption | wp_step))
theorem xcls_attr {Q:Option Value→Shared→Prop} (hx:h.get? a=some o) (hc:o.cls=.ref C) (S:PySem.W.Looks (model prog w) h (isSubtype (.ref C) (.type "object")) true) (S2:PySem.W.Looks (model prog w) h (isSubtype (.ref C) (.type "BaseException")) true)
    (L:PySem.W.Looks (model prog w) h (typeLookup (.ref C) "__class__") (some (.builtin "object.__class__"))) (L1:PySem.W.Looks (model prog w) h (typeLookup (.ref C) "__getattribute__") (some (.builtin "BaseException.__getattribute__")))
    (L2:PySem.W.Looks (model prog w) h (typeLookup (.ref C) "__getattr__") none) (sl:Slot "ValueError" "__getattribute__" "BaseException.__getattribute__") (hq:Q (some (.ref C)) ⟨h,g,d,t + 1,os⟩):wpAny (model prog w) A (getAttr? (.ref a) "__class__") Q E ⟨h,g,d,t,os⟩:=by
  unfold getAttr? getAttrBy?
  repeat (any_goals (first | assumption | with_reducible apply xcls_by hx hc S S2 L L1 L2 sl | wp_step))
end
end L2

namespace L2
open PySem PySem.Spec PyProof.Rows
theorem kitx_exc {K:PySem.W.Frag} {e C:Addr} (c:ExcC K C) (sl:Slot "ValueError" "__getattribute__" "BaseException.__getattribute__"):PySem.W.KitX K (.ref e) (.ref C) (ExcIs e (.ref C)) where
  ty:=fun M h _ p=>by
    obtain ⟨o,vs,h1,h2,_⟩:=p
    exact h2▸(PySem.W.Looks.ld h1).andThen .now
  it:=fun M h X _=>by
    have z:=c.cl
    unfold PySem.W.clsIn at z
    split at z
    · rename_i c' d' cd' sl' ho
      intro A' Q' E' s' k q
      unfold isType loadHead
      exact wpAny_bind (wpAny_loadPart (k _ _ (X _ _ ho)) (wpAny_pure q))
    · cases z
  ne:=fun h tp dd its n sl X htp=>by
    have z:=c.cl
    refine Bool.eq_false_iff.mpr fun q => ?_
    have e:C=tp:=Value.ref.inj (beq_iff_eq.mp q)
    subst e
    unfold PySem.W.clsIn at z
    split at z
    · rename_i c' d' cd' sl' ho
      have y:=(X _ _ ho).symm.trans htp
      cases y
    · cases z
  ca:=fun {prog w A E Q s} X p k=>by
    obtain ⟨o,vs,h1,h2,_⟩:=p
    obtain ⟨hh,g,d,t,os⟩:=s
    exact xcls_attr h1 h2 (PySem.W.looks_subIn X c.m1) (PySem.W.looks_subIn X c.m2) (PySem.W.looks_findIn X c.ca) (PySem.W.looks_findIn X c.ga) (PySem.W.looks_findIn X c.gt) sl k
section
variable {X:Cx}

def rIsxT (K:PySem.W.Frag) (T:String):List V→Hp→VK→Prop:=fun xs H Q=>∃ e C b,xs=[.ref e,.ty T]∧H e=some (.ext (ExcIs e (.ref C)))∧ExcC K C∧PySem.W.kitOne K (.ref C) (.type T)=some b∧Q (.bl b) H
def rIsxC (K:PySem.W.Frag):List V→Hp→VK→Prop:=fun xs H Q=>∃ e C D b,xs=[.ref e,.ref D]∧H e=some (.ext (ExcIs e (.ref C)))∧ExcC K C∧PySem.W.kitOne K (.ref C) (.ref D)=some b∧Q (.bl b) H
theorem call_isxT {K:PySem.W.Frag} (T:String) (hK:X.K=K:=by rfl):CallR X (.builtin "isinstance") (rIsxT K T):=by
  subst hK
  intro pins s σ H xs us Q I r h
  obtain ⟨e,C,b,rfl,he,c,hk,q⟩:=h
  obtain ⟨u,c',rfl,rx,rc⟩:=vals2 r
  cases (show c'=.type T from rc)
  cases (show u=.ref e from rx)
  exact PySem.W.kia_one (kitx_exc c F.attr_ValueError.ga) I.kIn (I.hok e _ he).1 hk (fun z=>nomatch z) fun tk=>⟨.bl b,H,I.tok _,rfl,q⟩
theorem call_isxC {K:PySem.W.Frag} (hK:X.K=K:=by rfl):CallR X (.builtin "isinstance") (rIsxC K):=by
  subst hK
  intro pins s σ H xs us Q I r h
  obtain ⟨e,C,D,b,rfl,he,c,hk,q⟩:=h
  obtain ⟨u,c',rfl,rx,rc⟩:=vals2 r
  cases (show c'=.ref D from rc)
  cases (show u=.ref e from rx)
  exact PySem.W.kia_one (kitx_exc c F.attr_ValueError.ga) I.kIn (I.hok e _ he).1 hk (fun z=>nomatch z) fun tk=>⟨.bl b,H,I.tok _,rfl,q⟩
end


abbrev Xs (X:Cx) (e:Addr):Cx:={ X with A:=X.A.mark (some (.ref e)),calm:=false,xe:=fun _ _=>False }
abbrev Xb (X:Cx) (W:Value→Shared→Prop) (pn:List (Addr × Obj)):Cx:={ X with xe:=W,pn:=pn }
section
variable {X:Cx} {pins:List (Addr × Obj)} {σ:St} {H:Hp} {s:Shared}
theorem Inv.toXs (I:Inv X pins σ H s) (e:Addr):Inv (Xs X e) pins σ H s :=
  ⟨⟨I.ok.mod,I.ok.kind,I.ok.glob,I.ok.blt,I.ok.above,I.ok.inj,I.ok.has,I.ok.cab,(fun z=>nomatch z),I.ok.frames,I.ok.stk,I.ok.exf,I.ok.bs,I.ok.bsz,I.ok.noex,I.ok.exfs,I.ok.funs,I.ok.frf⟩,I.os,I.bare,I.base,I.loc,I.cell,I.free,I.freeC,I.pin,I.hok,I.len⟩
theorem Inv.ofXs {e:Addr} (I:Inv (Xs X e) pins σ H s) (ok:X.Ok):Inv X pins σ H s:=⟨ok,I.os,I.bare,I.base,I.loc,I.cell,I.free,I.freeC,I.pin,I.hok,I.len⟩
theorem Inv.toXb (I:Inv X pins σ H s) (W:Value→Shared→Prop):Inv (Xb X W (X.pn++pins)) [] σ H s :=
  ⟨⟨I.ok.mod,I.ok.kind,I.ok.glob,I.ok.blt,I.ok.above,I.ok.inj,I.ok.has,I.ok.cab,I.ok.hd,I.ok.frames,I.ok.stk,I.ok.exf,I.ok.bs,I.ok.bsz,I.ok.noex,I.ok.exfs,I.ok.funs,I.ok.frf⟩,I.os,I.bare,I.base,I.loc,I.cell,I.free,I.freeC,fun p hp=>I.pin p (by simpa using hp),I.hok,I.len⟩
theorem Inv.ofXb {W:Value→Shared→Prop} {pins':List (Addr × Obj)} (ok:X.Ok) (I:Inv (Xb X W (X.pn++pins)) pins' σ H s):Inv X pins σ H s :=
  ⟨ok,I.os,I.bare,I.base,I.loc,I.cell,I.free,I.freeC,fun p hp=>I.pin p (List.mem_append_left _ hp),I.hok,I.len⟩
theorem SP.ofXb {W:Value→Shared→Prop} {pins':List (Addr × Obj)} {D:Ends} {f:Flow} (ok:X.Ok) (h:SP (Xb X W (X.pn++pins)) pins' D f s):SP X pins D f s:=by
  cases f with
  | next=>obtain ⟨σ',H',I,q⟩:=h; exact ⟨σ',H',I.ofXb ok,q⟩
  | brk=>obtain ⟨σ',H',I,q⟩:=h; exact ⟨σ',H',I.ofXb ok,q⟩
  | cont=>obtain ⟨σ',H',I,q⟩:=h; exact ⟨σ',H',I.ofXb ok,q⟩
  | ret u=>obtain ⟨v,σ',H',I,r,q⟩:=h; exact ⟨v,σ',H',I.ofXb ok,r,q⟩

theorem Inv.track {a:Addr} {o:HO} (I:Inv X pins σ H s) (new:X.s₀.heap.get? a=none) (hx:H a=none) (h1:a≠X.env.locals) (h2:∀ x c,X.env.cells.lookup x=some c→c≠a) (h3:∀ p∈X.pn++pins,p.1≠a)
    (ok:ObjOk X.prog X.w (upd H a o) s.heap a o):Inv X pins σ (upd H a o) s:=by
  refine ⟨I.ok,I.os,I.bare,⟨I.base.keep,I.base.slot,fun b u e n hb => ?_,I.base.there,fun b xs e => ?_,fun b u v e => ?_,fun b ps e => ?_⟩,I.loc,I.cell,?_,fun x c e => ?_,fun p hp => ?_,fun b u e => ?_,I.len⟩
  · have ne:b≠a:=fun z=>by rw [z,new] at e; cases e
    rw [upd_ne ne]; exact I.base.free b u e n hb
  · have z:=I.base.tups b xs e
    rw [upd_ne (ne_of_none z hx)]; exact z
  · have z:=I.base.frzs b u v e
    rw [upd_ne (ne_of_none z hx)]; exact z
  · obtain ⟨more,z⟩:=I.base.tbls b ps e
    exact ⟨more,by rw [upd_ne (ne_of_none z hx)]; exact z⟩
  · rw [upd_ne (Ne.symm h1)]; exact I.free
  · rw [upd_ne (h2 x c e)]; exact I.freeC x c e
  · obtain ⟨a1,a2,a3⟩:=I.pin p hp
    exact ⟨a1,by rw [upd_ne (h3 p hp)]; exact a2,a3⟩
  · by_cases hb:b=a
    · subst hb; rw [upd_same] at e; cases e; exact ok
    · rw [upd_ne hb] at e
      exact (I.hok b u e).stay (fun _ _ _ q=>q) (fun c q=>by rw [upd_ne (ne_of_none q hx)]; exact q) fun c xs q=>by rw [upd_ne (ne_of_none q hx)]; exact q

theorem Inv.nameless {h':Heap} {m':Str→Option Value} {t':Nat} (I:Inv X pins σ H s) (hn:h'.Ns X.env.locals m') (hs:Heap.SameBut X.env.locals s.heap h') :
    Inv X pins (List.replicate X.N.length none) H { s with heap:=h',toks:=t' }:=by
  have neL:∀ b o,X.s₀.heap.get? b=some o→b≠X.env.locals:=fun b o e=>Nat.ne_of_lt (Nat.lt_of_lt_of_le (Heap.lt_size e) I.ok.above)
  refine ⟨I.ok,I.os,I.bare,⟨fun b o e n hb hx => ?_,fun b o e n hb hx => ?_,I.base.free,fun b o e hx => ?_,I.base.tups,I.base.frzs,I.base.tbls⟩,⟨m',hn,fun i x v e1 e2 e3 => ?_⟩,fun x c e => ?_,I.free,I.freeC,fun p hp => ?_,fun b u e => ?_,by simp⟩
  · exact (hs.2 b (neL b o e)).trans (I.base.keep b o e n hb hx)
  · obtain ⟨sl,e1⟩:=I.base.slot b o e n hb hx
    exact ⟨sl,(hs.2 b (neL b o e)).trans e1⟩
  · obtain ⟨o',e1⟩:=I.base.there b o e hx
    exact ⟨o',(hs.2 b (neL b o e)).trans e1⟩
  · rw [List.getElem?_replicate] at e2
    split at e2 <;> cases e2
  · obtain ⟨v,z⟩:=I.cell x c e
    exact ⟨v,z.sameBut hs (I.cne x c e)⟩
  · obtain ⟨a1,a2,a3,a4⟩:=I.pin p hp
    exact ⟨(hs.2 p.1 a3).trans a1,a2,a3,a4⟩
  · refine (I.hok b u e).stay (fun c v hc q=>(hs.2 c ?_).trans q) (fun _ q=>q) fun _ _ q=>q
    rintro rfl
    rcases hc with rfl | hc
    · rw [I.free] at e; cases e
    · rw [I.free] at hc; cases hc
end
end L2

namespace L2
open PySem PySem.Spec PyProof.Rows
abbrev retOnly (D:Ends):Ends:={ nx:=fun _ _=>False,rt:=D.rt }
def tTry (K:PySem.W.Frag) (C:Value) (i:Nat) (tb:(Value→St→Hp→Prop)→TS) (ts:Addr→TS):TS:=fun D σ H =>
  tb (fun cls σ' H'=>PySem.W.exmOne K cls C=some true∧∀ e,H' e=none→ts e (retOnly D) (σ'.set i (some (.ref e))) (upd H' e (.ext (ExcIs e cls)))) D σ H

def PassT (X:Cx) (W:Value→Shared→Prop) (pn:List (Addr × Obj)) (R:Value→St→Hp→Prop):Prop :=
  ∀ (pins:List (Addr × Obj)) (σ:St) (H:Hp) (s:Shared) (e:Value) (s':Shared),Inv (Xb X W pn) pins σ H s→CXe X.prog X.w X.stack H s (fun cls _ H'=>R cls σ H') e s'→W e s'
section
variable {X:Cx}
theorem ps_try {body suite:List Stmt} {b₀:Stmt} {cx n:Str} {np hp pos:Pos} {i:Nat} {C:Value} {tb:(Value→St→Hp→Prop)→TS} {ts:Addr→TS} (hnd:X.N.Nodup) (hi:X.N[i]? = some n) (hl:X.env.kindOf n=some .local)
    (hex:X.ex=[]) (hst:X.stack=X.env::X.outer) (hf:X.env.frame=some X.env.locals) (hm:X.mg cx=some C) (hg:Gl X cx) (hd:(cx == ("__debug__" : Str))=false)
    (hb:∀ W pn R,PassT X W pn R→PSs (Xb X W pn) body (tb R)) (hs:∀ e,PSs (Xs X e) (b₀::suite) (ts e)) :
    PS X (.Try body [.ExceptHandler (some (.Name cx np)) (some n) (b₀::suite) hp] [] [] pos) (tTry X.K C i tb ts):=by
  intro pins s σ H D I h
  refine wpAny_Try_except ?_
  have key:=hb (fun e s₁=>wpAny (model X.prog X.w) X.A (noteFrame e X.env) (fun _ s₂=>wpAny (model X.prog X.w) X.A (setFlight e none) (fun _ s₃ =>
      wpAny (model X.prog X.w) X.A (handleBy e X.env [.ExceptHandler (some (.Name cx np)) (some n) (b₀::suite) hp]) (SP X pins D) X.xe s₃) X.xe s₂) X.xe s₁) (X.pn++pins) _ (?_) [] s σ H D (I.toXb _) h
  · refine wpAny_mono key (fun f s₁ q => ?_) fun _ _ z=>z
    have q':=q.ofXb I.ok
    cases f with
    | next=>exact wpAny_execs_nil q'
    | brk=>exact q'
    | cont=>exact q'
    | ret u=>exact q'
  · intro pins' σ' H1 s1 e s' I' c
    have I1:Inv X pins σ' H1 s1:=I'.ofXb I.ok
    obtain ⟨ea,cls,H',rfl,c1,c2,c3,c4,⟨⟨oe,vs,a0,T,oT,ts',f1,f2,f3,f4,f5,f6,f7,f8,f9⟩,fn,fu⟩,hx,q⟩:=c
    have J:=I1.call' (s':=s') (ch:=[]) c1 c3 c4 c2 (fun b z=>by cases z)
    have fr:s'.heap.FunFrames _ X.stack:=J.stack
    have fr':=fr
    rw [hst] at fr'
    have hh:∀ b∈[ea,T],s1.heap.get? b=none∧H' b=none:=fun b hb=>by
      rcases List.mem_cons.mp hb with rfl | hb
      · exact ⟨fn,fu⟩
      · rcases List.mem_cons.mp hb with rfl | hb
        · exact f5
        · cases hb
    have hfr:X.A.frames=some (X.env::X.outer):=by rw [← hst]; exact I.ok.frames
    have stp:∀ h'':Heap,(less s'.heap ([ea,T]++frs X.stack)).StaysIn h''→s'.heap.UpToSlots h''→Inv X pins σ' H' { s' with heap:=h'' }:=fun h'' y1 y2=>by
      obtain ⟨u,ok⟩:=un_upto c3 c4 fr J.stkFree hh y1 y2
      exact I1.call' (s':={ s' with heap:=h'' }) (ch:=[]) c1 u ok c2 (fun b z=>by cases z)
    refine look3 (base:=less s'.heap ([ea,T]++frs X.stack)) (L:=X.env.locals) (cls:=cls) (a0:=a0) hfr hf
      ⟨less_stays _ _,PySem.W.hideAll_none _ (by simp),rebase fr' fun a ha=>PySem.W.hideAll_none _ (List.mem_append_right _ (by rw [hst]; exact ha)),oe,vs,T,oT,ts',f1,f2,f3,f4,PySem.W.hideAll_none _ (by simp),f6,f7,f8,f9⟩ fun h1 g1 up1 => ?_
    refine off3 g1 fun h2 g2 up2 => ?_
    have up12:=up1.trans up2
    have J2:=stp h2 g2.1 up12
    have Js:=J2.toXs ea
    refine wpAny_handleBy_cons (codeAny_handlers_test (ld_glob (X:=Xs X ea) Js hg hm ?_ hd)) (by intro z; cases z)
    have LT:PySem.W.Looks (model X.prog X.w) h2 (typeOf (.ref ea)) cls:=by
      obtain ⟨_,_,_,oe2,vs2,T2,oT2,ts2,z1,z2,_⟩:=g2
      exact z2.1▸(PySem.W.Looks.ld z1).andThen .now
    refine (PySem.W.exm_one (K:=X.K) J2.kIn LT hx).here ?_
    refine codeAny_handlers_suite_as (off3 g2 fun h3 g3 up3 => ?_)
    have J3:=stp h3 g3.1 (up12.trans up3)
    obtain ⟨_,_,_,oe3,vs3,T3,oT3,ts3,z1,z2,z3,_⟩:=g3
    have old:∀ b o,s1.heap.get? b=some o→b≠ea:=fun b o e z=>by rw [z,fn] at e; cases e
    have b0:Un X.fs [] X.H₀ H1 X.s₀.heap s1.heap:=by
      have z:=I1.base
      rw [hex] at z
      exact z
    have J4:Inv X pins σ' (upd H' ea (.ext (ExcIs ea cls))) { s' with heap:=h3 }:=by
      refine J3.track (back b0 fn) fu ?_ (fun x c e => ?_) (fun p hp' => ?_) ⟨⟨oe3,vs3,z1,z2.1,z3,z2.2.2⟩,⟨oe3,z1⟩,fun h1 h2 ⟨o,v,a1,a2,a3⟩ k=>⟨o,v,k o a1,a2,a3⟩⟩
      · obtain ⟨m,⟨o,_,_,ho,_⟩,_⟩:=I1.loc
        exact Ne.symm (old _ o ho)
      · obtain ⟨v,o,ho,_⟩:=I1.cell x c e
        exact old c o ho
      · exact old _ _ (I1.pin p hp').1
    refine store_ok (X:=Xs X ea) (J4.toXs ea) hnd hi (.inl hl) (v:=.ref ea) rfl (fun s5 J5 => ?_) (.inr hl)
    refine wpAny_mono (hs ea pins s5 _ _ _ J5 (q ea fu)) (fun f s6 z => ?_) fun _ _ z=>False.elim z
    cases f with
    | next=>obtain ⟨_,_,_,z⟩:=z; exact False.elim z
    | brk=>obtain ⟨_,_,_,z⟩:=z; exact False.elim z
    | cont=>obtain ⟨_,_,_,z⟩:=z; exact False.elim z
    | ret u =>
      obtain ⟨v,σ6,H6,J6,r6,q6⟩:=z
      have J6':=J6.ofXs I.ok
      obtain ⟨m,hn,_⟩:=J6'.loc
      refine wpAny_nameGoes hl hn (by rw [I.ok.kind]; rfl) fun h7 m7 hn7 sb => ?_
      exact ⟨v,_,H6,J6'.nameless hn7 sb,r6,q6⟩

end
end L2

namespace L2
open PySem PySem.Spec PyProof.Rows

section
variable {prog:Program} {w:World} {A:Around} {E:Value→Shared→Prop} {s:Shared} {x:Str} {t:Tok}
end
section
variable {X:Cx} {tg:Expr}
end
end L2

namespace L2
open PySem PySem.Spec PyProof.Rows

def clo (env:Env) (xs:List Str):List (Str × Addr):=xs.map fun x=>(x,(env.cells.lookup x).getD 0)
def CapsOk (env:Env) (scope:Scope) (xs caps:List Str):Prop:=∀ x∈caps,env.kindOf x=some .cell∧(relabel scope env).names.lookup x=some .cell∧x∈xs
theorem capsOk_nil {env:Env} {scope:Scope} {xs:List Str}:CapsOk env scope xs []:=fun _ h=>by cases h
theorem capsOk_cons {env:Env} {scope:Scope} {xs:List Str} {x:Str} {r:List Str} (h1:env.kindOf x=some .cell) (h2:(relabel scope env).names.lookup x=some .cell) (h3:x∈xs) (h:CapsOk env scope xs r):CapsOk env scope xs (x::r):=fun y hy=>by
  rcases List.mem_cons.mp hy with rfl | hy
  · exact ⟨h1,h2,h3⟩
  · exact h y hy
theorem clo_of {env:Env} {x:Str} {c:Addr}:∀ {xs:List Str},x∈xs→env.cells.lookup x=some c→(clo env xs).lookup x=some c
  | [],h,_=>by cases h
  | y::r,h,e=>by
    unfold clo
    rw [List.map_cons,List.lookup_cons]
    by_cases z:x=y
    · subst z; simp [e]
    · have zb:(x == y)=false:=by simpa using z
      rw [zb]
      rcases List.mem_cons.mp h with q | q
      · exact absurd q z
      · exact clo_of q e
theorem clo_has {env:Env} {x:Str}:∀ {xs:List Str},x∈xs→∃ c,(clo env xs).lookup x=some c
  | [],h=>by cases h
  | y::r,h=>by
    unfold clo
    rw [List.map_cons,List.lookup_cons]
    by_cases z:x=y
    · subst z; exact ⟨_,by simp; rfl⟩
    · have zb:(x == y)=false:=by simpa using z
      rw [zb]
      rcases List.mem_cons.mp h with q | q
      · exact absurd q z
      · exact clo_has q
theorem clo_sub {env:Env} {x:Str} {c:Addr} {xs:List Str} (hin:(xs.all fun x=>(env.cells.lookup x).isSome)=true) (e:(clo env xs).lookup x=some c):env.cells.lookup x=some c:=by
  induction xs with
  | nil=>cases e
  | cons y r ih =>
    unfold clo at e
    rw [List.map_cons,List.lookup_cons] at e
    rw [List.all_cons,Bool.and_eq_true] at hin
    by_cases z:x=y
    · subst z
      obtain ⟨a,ha⟩:=Option.isSome_iff_exists.mp hin.1
      rw [ha] at e ⊢
      simpa using e
    · have zb:(x == y)=false:=by simpa using z
      rw [zb] at e
      exact ih hin.2 e
theorem caps_len {σ:St} {vs:List V} {is:List Nat} {N N' caps:List Str} {k:Nat} (hvs:is.map (fun i=>σ[i]?)=vs.map fun v=>some (some v)) (his:is.map (N[·]?)=caps.map some) (hN:N'.drop k=caps) (hk:k≤N'.length) :
    (List.replicate k (none:Option V)++vs.map some).length=N'.length:=by
  have h1:=congrArg List.length hvs
  have h2:=congrArg List.length his
  have h3:=congrArg List.length hN
  simp only [List.length_map,List.length_drop,List.length_append,List.length_replicate] at *
  omega
theorem caps_at {σ:St} {vs:List V} {is:List Nat} {N N' caps:List Str} {k i:Nat} {x:Str} {v:V} (hvs:is.map (fun i=>σ[i]?)=vs.map fun v=>some (some v)) (his:is.map (N[·]?)=caps.map some) (hN:N'.drop k=caps)
    (e1:N'[i]? = some x) (e2:(List.replicate k (none:Option V)++vs.map some)[i]? = some (some v)):∃ j:Nat,N[j]? = some x∧x∈caps∧σ[j]? = some (some v):=by
  have hik:k≤i:=by
    by_cases h:k≤i
    · exact h
    · rw [List.getElem?_append_left (by simpa using h),List.getElem?_replicate] at e2
      split at e2 <;> cases e2
  rw [List.getElem?_append_right (by simpa using hik),List.length_replicate] at e2
  have e1':caps[i - k]? = some x:=by rw [← hN,List.getElem?_drop,Nat.add_sub_cancel' hik]; exact e1
  have ev:vs[i - k]? = some v:=by
    rw [List.getElem?_map] at e2
    cases z:vs[i - k]? with
    | none=>rw [z] at e2; cases e2
    | some a=>rw [z] at e2; cases e2; rfl
  have q1:=congrArg (·[i - k]?) hvs
  have q2:=congrArg (·[i - k]?) his
  simp only [List.getElem?_map,ev,e1',Option.map_some] at q1 q2
  cases z:is[i - k]? with
  | none=>rw [z] at q1; cases q1
  | some j =>
    rw [z] at q1 q2
    exact ⟨j,Option.some.inj q2,List.mem_of_getElem? e1',Option.some.inj q1⟩
theorem caps_keep {σ:St} {vs:List V} {k:Nat} (h:σ.drop k=vs.map some) (i:Nat) (v:V) (e:(List.replicate k (none:Option V)++vs.map some)[i]? = some (some v)):σ[i]? = some (some v):=by
  have hik:k≤i:=by
    by_cases h:k≤i
    · exact h
    · rw [List.getElem?_append_left (by simpa using h),List.getElem?_replicate] at e
      split at e <;> cases e
  rw [List.getElem?_append_right (by simpa using hik),List.length_replicate,← h,List.getElem?_drop,Nat.add_sub_cancel' hik] at e
  exact e
theorem all_of {names:List (Str × NameKind)} {xs:List Str} (h:(names.all fun y => !(y.2 == .cell || y.2 == .free) || xs.contains y.1)=true):∀ y∈names,(y.2=.cell∨y.2=.free)→y.1∈xs:=fun y hy hk=>by
  have z:=List.all_eq_true.mp h y hy
  rcases hk with e | e
  · rw [e] at z
    exact List.contains_iff_mem.mp (by simpa using z)
  · rw [e] at z
    exact List.contains_iff_mem.mp (by simpa using z)
def cxCompC (X:Cx) (N':List Str) (scope:Scope) (xs:List Str) (C:Addr) (s0:Shared) (H0:Hp) (fp:List Addr) (pins:List (Addr × Obj)):Cx where
  prog:=X.prog
  w:=X.w
  K:=X.K
  mg:=X.mg
  base:=X.base
  A:=X.A
  N:=N'
  s₀:=s0
  H₀:=H0
  env:=compEnvC scope (clo X.env xs) C X.env
  outer:=X.stack
  stack:=X.stack
  ex:=fp
  fn:=fun _=>false
  calm:=X.calm
  pn:=X.pn++pins
  xe:=fun _ _=>False

def compKC (σ0:St) (k:Nat) (cs:St) (g:TG) (te:TE) (Q:VK):It→Hp→Prop:=fun J H1=>∀ D,H1 D=none→∃ W:Nat→Nat→List V→Hp→Prop,(∃ m,W 0 m [] (upd H1 D (.lst []))) ∧
  ∀ i m ys H2,W i m ys H2→H2 D=some (.lst ys)∧((J.stop i H2∧Q (.ref D) H2)∨(J.go i H2∧ys.length < sizeLine ∧
    ∀ x H',J.yld i H2 x H'→g x σ0 H' fun σ2 H3=>σ2.drop k=cs∧te σ2 H3 fun y H4=>H4 D=some (.lst ys)∧∃ m',m' < m∧W (i + 1) m' (ys++[y]) (upd H4 D (.lst (ys++[y])))))
def tCompC (is:List Nat) (k:Nat) (wi:TI) (g:TG) (te:TE):TE:=fun σ H Q=>∃ vs:List V,is.map (fun i=>σ[i]?)=vs.map (fun v=>some (some v))∧wi σ H (compKC (List.replicate k none++vs.map some) k (vs.map some) g te Q)
def compKCI (σ0:St) (k:Nat) (cs:St) (g:TG) (tt:TT) (te:TE) (Q:VK):It→Hp→Prop:=fun J H1=>∀ D,H1 D=none→∃ W:Nat→Nat→List V→Hp→Prop,(∃ m,W 0 m [] (upd H1 D (.lst []))) ∧
  ∀ i m ys H2,W i m ys H2→H2 D=some (.lst ys)∧((J.stop i H2∧Q (.ref D) H2)∨(J.go i H2∧ys.length < sizeLine ∧
    ∀ x H',J.yld i H2 x H'→g x σ0 H' fun σ2 H3=>σ2.drop k=cs∧tt σ2 H3 fun b H4=>if b=true then te σ2 H4 fun y H5=>H5 D=some (.lst ys)∧∃ m',m' < m∧W (i + 1) m' (ys++[y]) (upd H5 D (.lst (ys++[y])))
      else ∃ m',m' < m∧W (i + 1) m' ys H4))
def tCompCI (is:List Nat) (k:Nat) (wi:TI) (g:TG) (tt:TT) (te:TE):TE:=fun σ H Q=>∃ vs:List V,is.map (fun i=>σ[i]?)=vs.map (fun v=>some (some v))∧wi σ H (compKCI (List.replicate k none++vs.map some) k (vs.map some) g tt te Q)
section
variable {X:Cx} {elt tg iter cnd:Expr} {scope:Scope} {pos:Pos} {N':List Str} {wi:TI} {g:TG} {te:TE} {tt:TT}
theorem pe_compC (xs caps:List Str) (is:List Nat) (k:Nat) (hclos:closureFor scope X.env=pure (clo X.env xs)) (hin:(xs.all fun x=>(X.env.cells.lookup x).isSome)=true) (hcap:CapsOk X.env scope xs caps) (his:is.map (X.N[·]?)=caps.map some) (hN:N'.drop k=caps) (hk:k≤N'.length)
    (hallB:((relabel scope X.env).names.all fun y => !(y.2 == .cell || y.2 == .free) || xs.contains y.1)=true) (hcell:∀ y∈scope.names,y.2≠.cell) (hkind:scope.kind=.function) (hnames:∀ y∈scope.names,y.2=.local→scope.names.lookup y.1=some .local)
    (hcalm:X.calm=true) (hi:PI X tg iter wi) (hg:∀ C s0 H0 fp pins,PG (cxCompC X N' scope xs C s0 H0 fp pins) tg g) (he:∀ C s0 H0 fp pins,PE (cxCompC X N' scope xs C s0 H0 fp pins) elt te)
    (hs:∀ x,foldedSetIterable iter X.env x=pure x:=by intro _; rfl):PE X (.ListComp elt [⟨tg,iter,[],0⟩] scope pos) (tCompC is k wi g te):=by
  intro pins s σ H Q I h
  have hall:=all_of hallB
  obtain ⟨vs,hvs,h⟩:=h
  rw [eval_ListComp]
  refine wpAny_comprehension_free (use:=none) rfl hs hclos hkind hnames (thn (hi pins s σ H _ I h) fun v s1 h1=>thn h1 fun itv s2 h2 => ?_)
  obtain ⟨it,fp,tn,J,H2,e,I2,T,st2,f2,hW⟩:=h2
  subst e
  refine wpAny_newObj_type (wpAny_newFunctionEnv hcell (by intro y hy; simp at hy) (fun h₁ hns₁ hsb₁ => ?_) hkind)
  dsimp only at hns₁ hsb₁ ⊢
  generalize hH2:s2.heap.push { cls:=.type "list",dict:=none,data:=.seq ([]:List Value).toArray }=P2 at hns₁ hsb₁ ⊢
  have hC:P2.objs.size=s2.heap.objs.size + 1:=by rw [← hH2,Heap.size_push]
  have below:∀ b,b < s2.heap.objs.size→b≠P2.objs.size∧b≠s2.heap.objs.size:=fun b hb=>⟨by rw [hC]; exact Nat.ne_of_lt (Nat.lt_succ_of_lt hb),Nat.ne_of_lt hb⟩
  have hDC:s2.heap.objs.size≠P2.objs.size:=by rw [hC]; exact Nat.ne_of_lt (Nat.lt_succ_self _)
  have old:∀ b o,s2.heap.get? b=some o→h₁.get? b=some o:=fun b o e=>hsb₁.extBut b o (below b (Heap.lt_size e)).1 (Heap.get?_push_of_some _ (hH2▸Heap.get?_push_of_some _ e))
  have hD:h₁.get? s2.heap.objs.size=some { cls:=.type "list",dict:=none,data:=.seq ([]:List Value).toArray }:=hsb₁.extBut _ _ hDC (Heap.get?_push_of_some _ (hH2▸Heap.get?_push_size _ rfl))
  have frD:H2 s2.heap.objs.size=none:=I2.hok.fresh (Nat.le_refl _)
  have frC:H2 P2.objs.size=none:=I2.hok.fresh (by rw [hC]; exact Nat.le_succ _)
  have hfp:∀ b∈fp,b < s2.heap.objs.size:=fun b hb=>by
    obtain ⟨o,e,_⟩:=T.obj _ _ st2 b hb
    exact Heap.lt_size e
  have nst:∀ b,b≠X.env.locals→b∉X.fs→b∉frs X.stack:=fun b n1 n2 z=>by
    rcases List.mem_cons.mp (I2.stkSub b z) with e | e
    · exact n1 e
    · exact n2 e
  obtain ⟨W,⟨m0,w0⟩,turn⟩:=hW s2.heap.objs.size frD
  have csub:∀ (x:Str) (c:Addr),(clo X.env xs).lookup x=some c→X.env.cells.lookup x=some c:=fun x c e=>clo_sub hin e
  have cold:∀ (x:Str) (c:Addr),(clo X.env xs).lookup x=some c→∃ v,s2.heap.IsCell c v:=fun x c e=>I2.cell x c (csub x c e)
  have clt:∀ (x:Str) (c:Addr),(clo X.env xs).lookup x=some c→c < s2.heap.objs.size:=fun x c e=>by
    obtain ⟨v,o,ho,_⟩:=cold x c e
    exact Heap.lt_size ho
  have ok':(cxCompC X N' scope xs P2.objs.size s2 H2 fp pins).Ok:=by
    refine ⟨I2.ok.mod,hkind,I2.ok.glob,I2.ok.blt,?_,fun x y c e e'=>I2.ok.inj x y c (csub x c e) (csub y c e'),fun x hx => ?_,(fun x c z _=>by cases z),I2.ok.hd,I2.ok.frames,.inl rfl,fun b hb=>⟨(below b (hfp b hb)).1,fun x c e=>(f2 b hb).2.2.2.2.1 x c (csub x c e)⟩,I2.bs,Nat.le_trans I2.ok.bsz I2.sz,fun b o e hb => ?_,fun b hb=>nst b (f2 b hb).2.1 (f2 b hb).2.2.1,I2.stack,I2.stkFree⟩
    · show s2.heap.objs.size≤P2.objs.size
      rw [hC]; exact Nat.le_succ _
    · have hx':(relabel scope X.env).names.lookup x=some .cell∨(relabel scope X.env).names.lookup x=some .free:=hx
      rcases hx' with z | z
      · exact clo_has (hall _ (PySem.mem_of_lookup z) (.inl rfl))
      · exact clo_has (hall _ (PySem.mem_of_lookup z) (.inr rfl))
    · rcases (f2 b hb).2.2.2.1 with z | z
      · exact I2.ok.noex b o e z
      · exact absurd (Nat.lt_of_lt_of_le (Heap.lt_size (I2.ok.bs b o e).1) z) (Nat.lt_irrefl _)
  have I':Inv (cxCompC X N' scope xs P2.objs.size s2 H2 fp pins) [] (List.replicate k none++vs.map some) (upd H2 s2.heap.objs.size (.lst [])) { s2 with heap:=h₁,toks:=s2.toks + ([]:List (Str × Value)).length }:=by
    refine ⟨ok',rfl,I2.bare,Un.laid old (Nat.le_refl _) frD,⟨_,hns₁,fun i x v e1 e2 e3 => ?_⟩,fun x c e => ?_,?_,fun x c e => ?_,fun p hp => ?_,I2.hok.laid old (Nat.le_refl _) ⟨by simp,[],0,.nil,hD⟩,?_⟩
    · obtain ⟨j,ej,hj1,hj2⟩:=caps_at hvs his hN e1 e2
      obtain ⟨hc1,hc2,hc3⟩:=hcap x hj1
      obtain ⟨m,hn,hl⟩:=I2.loc
      obtain ⟨u,r,l⟩:=hl j x v ej hj2 (.inr (.inl hc1))
      refine ⟨u,r,.inr ⟨.inl hc2,?_⟩⟩
      rcases l with ⟨z,_⟩ | ⟨_,c,ec,⟨o,ho,hd⟩⟩
      · rw [show X.env.kindOf x=some .cell from hc1] at z; cases z
      · exact ⟨c,clo_of hc3 ec,o,old _ _ ho,hd⟩
    · obtain ⟨v,o,ho,hd⟩:=cold x c e
      exact ⟨v,o,old _ _ ho,hd⟩
    · show upd H2 s2.heap.objs.size (.lst []) P2.objs.size=none
      rw [upd_ne (Ne.symm hDC)]; exact frC
    · show upd H2 s2.heap.objs.size (.lst []) c=none
      rw [upd_ne (below _ (clt x c e)).2]; exact I2.freeC x c (csub x c e)
    · have hp':p∈X.pn++pins:=by
        rcases List.mem_append.mp hp with z | z
        · exact z
        · cases z
      obtain ⟨a1,a2,a3,a4,a5⟩:=I2.pin p hp'
      refine ⟨old _ _ a1,?_,(below _ (Heap.lt_size a1)).1,nst _ a3 a4,a5⟩
      rw [upd_ne (below _ (Heap.lt_size a1)).2]; exact a2
    · show (List.replicate k none++vs.map some).length=N'.length
      exact caps_len hvs his hN hk
  have stat:∀ {H':Hp},(∀ b∈fp,H' b=none)→∀ b∈fp,FpOk (cxCompC X N' scope xs P2.objs.size s2 H2 fp pins) [] H' b:=fun {H'} hn b hb =>
    ⟨hn b hb,(below b (hfp b hb)).1,nst b (f2 b hb).2.1 (f2 b hb).2.2.1,.inl hb,fun x c e=>(f2 b hb).2.2.2.2.1 x c (csub x c e),fun p hp=>(f2 b hb).2.2.2.2.2 p (by
      rcases List.mem_append.mp hp with z | z
      · exact z
      · cases z)⟩
  have fin:∀ (ys:List V) (σ':St) (H':Hp) (s':Shared),Inv (cxCompC X N' scope xs P2.objs.size s2 H2 fp pins) [] σ' H' s'→Q (.ref s2.heap.objs.size) H' →
      ∃ m,s'.heap.Ns P2.objs.size m∧∀ h',Heap.SameBut P2.objs.size s'.heap h'→EP X pins σ Q (.ref s2.heap.objs.size) { s' with heap:=h' }:=by
    intro ys σ' H' s' J1 q
    obtain ⟨m,hm,_⟩:=id J1.loc
    refine ⟨m,hm,fun h' sb=>⟨.ref s2.heap.objs.size,H',?_,rfl,q⟩⟩
    have ne:∀ b o,s2.heap.get? b=some o→b≠P2.objs.size:=fun b o e=>(below b (Heap.lt_size e)).1
    refine I2.call' (s':={ s' with heap:=h' }) (ch:=fp) J1.os ⟨fun b o e n hb hx => ?_,fun b o e n hb hx => ?_,fun b o e n hx=>J1.base.free b o e n hx,fun b o e hx => ?_,J1.base.tups,J1.base.frzs,J1.base.tbls⟩ (J1.hok.but J1.free fun b u hb q=>(sb.2 b hb).trans q) J1.bare fun b hb=>⟨(f2 b hb).2.2.2.1,(f2 b hb).2.1,(f2 b hb).2.2.2.2.1,(f2 b hb).2.2.2.2.2⟩
    · exact (sb.2 b (ne b o e)).trans (J1.base.keep b o e n hb hx)
    · obtain ⟨sl,z⟩:=J1.base.slot b o e n hb hx
      exact ⟨sl,(sb.2 b (ne b o e)).trans z⟩
    · obtain ⟨o',z⟩:=J1.base.there b o e hx
      exact ⟨o',(sb.2 b (ne b o e)).trans z⟩
  have loop:codeAny (model X.prog X.w) X.A (.compLoop (.ListComp elt [⟨tg,iter,[],0⟩] scope pos) 0 (.ref it) (.ref s2.heap.objs.size) (compEnvC scope (clo X.env xs) P2.objs.size X.env))
      (compPost (model X.prog X.w) X.A X.xe none (EP X pins σ Q) (.ref s2.heap.objs.size) P2.objs.size)
      { s2 with heap:=h₁,toks:=s2.toks + ([]:List (Str × Value)).length }:=by
    refine compLoop_go (fun n s'=>∃ i ys σ' H',σ'.drop k=vs.map some∧Inv (cxCompC X N' scope xs P2.objs.size s2 H2 fp pins) [] σ' H' s'∧tn i s'.heap∧(∀ b∈fp,H' b=none)∧W i n ys H') ?_ m0
      ⟨0,[],List.replicate k none++vs.map some,_,by simp,I',T.keep _ _ _ st2 (fun b hb o e=>old b o e),fun b hb=>by rw [upd_ne (below b (hfp b hb)).2]; exact (f2 b hb).1,w0⟩
    rintro n s3 ⟨i,ys,σ3,H3,hd3,J3,st3,fr3,w3⟩
    obtain ⟨hl,q3⟩:=turn i n ys H3 w3
    rcases q3 with ⟨stop,q⟩ | ⟨go,hlt,step⟩
    · refine thn (T.done (cxCompC X N' scope xs P2.objs.size s2 H2 fp pins) rfl rfl rfl hcalm i [] s3 σ3 H3 _ J3 (stat fr3) st3 stop) fun r s4 ⟨hr,J4⟩ => ?_
      subst hr
      exact fin ys σ3 H3 s4 J4 q
    · refine thn (T.item (cxCompC X N' scope xs P2.objs.size s2 H2 fp pins) rfl rfl rfl hcalm i [] s3 σ3 H3 _ J3 (stat fr3) st3 go) fun r s4 ⟨u,hr,h4⟩ => ?_
      subst hr
      refine thn h4 fun _ s5 ⟨x,H5,J5,r5,y5,st5,fr5⟩ => ?_
      have J5':=J5.pinned (stat fr5) (T.obj _ _ st5)
      have J6:Inv (cxCompC X N' scope xs P2.objs.size s2 H2 fp pins) ([]++pinsAt fp s5.heap) (List.replicate k none++vs.map some) H5 s5:=J5'.weak (by rw [J5'.len]; exact caps_len hvs his hN hk) (caps_keep hd3)
      refine wpAny_mono (hg _ _ _ _ _ _ s5 _ H5 x u _ J6 r5 (step x H5 y5)) (fun _ s6 ⟨σ6,H6,J7,hd6,q6⟩ => ?_) fun _ _ z=>False.elim z
      refine wpAny_mono (he _ _ _ _ _ _ s6 σ6 H6 _ J7 q6) (fun yv s7 ⟨y,H7,J8,r7,q7⟩ => ?_) fun _ _ z=>False.elim z
      obtain ⟨hl7,m',hm',w7⟩:=q7
      refine wpAny_mono (mt_append (X:=cxCompC X N' scope xs P2.objs.size s2 H2 fp pins) _ s7 σ6 H7 (.ref s2.heap.objs.size) [y] (.ref s2.heap.objs.size) [yv] (fun v H8=>H8=upd H7 s2.heap.objs.size (.lst (ys++[y]))) J8 rfl (.cons r7 .nil) ⟨_,ys,y,rfl,rfl,hl7,hlt,rfl⟩) (fun _ s8 ⟨v8,H8,J9,r8,e8⟩ => ?_) fun _ _ z=>False.elim z
      subst e8
      have pk:∀ b∈fp,∀ o,s5.heap.get? b=some o→s8.heap.get? b=some o∧upd H7 s2.heap.objs.size (.lst (ys++[y])) b=none:=fun b hb o e =>
        let z:=J9.pin (b,o) (List.mem_append_right _ (List.mem_append_right _ (mem_pinsAt hb e)))
        ⟨z.1,z.2.1⟩
      refine ⟨m',hm',i + 1,ys++[y],σ6,_,hd6,J9.unpinned,T.keep _ _ _ st5 fun b hb o e=>(pk b hb o e).1,fun b hb => ?_,w7⟩
      obtain ⟨o,e,_⟩:=T.obj _ _ st5 b hb
      exact (pk b hb o e).2
  exact codeAny_compStart_list loop (T.self X.A 0 { s2 with heap:=h₁,toks:=s2.toks + ([]:List (Str × Value)).length } _ _ (T.keep _ _ _ st2 fun b hb o e=>old b o e) loop)
theorem pe_compCI (xs caps:List Str) (is:List Nat) (k:Nat) (hclos:closureFor scope X.env=pure (clo X.env xs)) (hin:(xs.all fun x=>(X.env.cells.lookup x).isSome)=true) (hcap:CapsOk X.env scope xs caps) (his:is.map (X.N[·]?)=caps.map some) (hN:N'.drop k=caps) (hk:k≤N'.length)
    (hallB:((relabel scope X.env).names.all fun y => !(y.2 == .cell || y.2 == .free) || xs.contains y.1)=true) (hcell:∀ y∈scope.names,y.2≠.cell) (hkind:scope.kind=.function) (hnames:∀ y∈scope.names,y.2=.local→scope.names.lookup y.1=some .local)
    (hcalm:X.calm=true) (hi:PI X tg iter wi) (hg:∀ C s0 H0 fp pins,PG (cxCompC X N' scope xs C s0 H0 fp pins) tg g) (ht:∀ C s0 H0 fp pins,PT (cxCompC X N' scope xs C s0 H0 fp pins) cnd tt) (he:∀ C s0 H0 fp pins,PE (cxCompC X N' scope xs C s0 H0 fp pins) elt te)
    (hs:∀ x,foldedSetIterable iter X.env x=pure x:=by intro _; rfl):PE X (.ListComp elt [⟨tg,iter,[cnd],0⟩] scope pos) (tCompCI is k wi g tt te):=by
  intro pins s σ H Q I h
  have hall:=all_of hallB
  obtain ⟨vs,hvs,h⟩:=h
  rw [eval_ListComp]
  refine wpAny_comprehension_free (use:=none) rfl hs hclos hkind hnames (thn (hi pins s σ H _ I h) fun v s1 h1=>thn h1 fun itv s2 h2 => ?_)
  obtain ⟨it,fp,tn,J,H2,e,I2,T,st2,f2,hW⟩:=h2
  subst e
  refine wpAny_newObj_type (wpAny_newFunctionEnv hcell (by intro y hy; simp at hy) (fun h₁ hns₁ hsb₁ => ?_) hkind)
  dsimp only at hns₁ hsb₁ ⊢
  generalize hH2:s2.heap.push { cls:=.type "list",dict:=none,data:=.seq ([]:List Value).toArray }=P2 at hns₁ hsb₁ ⊢
  have hC:P2.objs.size=s2.heap.objs.size + 1:=by rw [← hH2,Heap.size_push]
  have below:∀ b,b < s2.heap.objs.size→b≠P2.objs.size∧b≠s2.heap.objs.size:=fun b hb=>⟨by rw [hC]; exact Nat.ne_of_lt (Nat.lt_succ_of_lt hb),Nat.ne_of_lt hb⟩
  have hDC:s2.heap.objs.size≠P2.objs.size:=by rw [hC]; exact Nat.ne_of_lt (Nat.lt_succ_self _)
  have old:∀ b o,s2.heap.get? b=some o→h₁.get? b=some o:=fun b o e=>hsb₁.extBut b o (below b (Heap.lt_size e)).1 (Heap.get?_push_of_some _ (hH2▸Heap.get?_push_of_some _ e))
  have hD:h₁.get? s2.heap.objs.size=some { cls:=.type "list",dict:=none,data:=.seq ([]:List Value).toArray }:=hsb₁.extBut _ _ hDC (Heap.get?_push_of_some _ (hH2▸Heap.get?_push_size _ rfl))
  have frD:H2 s2.heap.objs.size=none:=I2.hok.fresh (Nat.le_refl _)
  have frC:H2 P2.objs.size=none:=I2.hok.fresh (by rw [hC]; exact Nat.le_succ _)
  have hfp:∀ b∈fp,b < s2.heap.objs.size:=fun b hb=>by
    obtain ⟨o,e,_⟩:=T.obj _ _ st2 b hb
    exact Heap.lt_size e
  have nst:∀ b,b≠X.env.locals→b∉X.fs→b∉frs X.stack:=fun b n1 n2 z=>by
    rcases List.mem_cons.mp (I2.stkSub b z) with e | e
    · exact n1 e
    · exact n2 e
  obtain ⟨W,⟨m0,w0⟩,turn⟩:=hW s2.heap.objs.size frD
  have csub:∀ (x:Str) (c:Addr),(clo X.env xs).lookup x=some c→X.env.cells.lookup x=some c:=fun x c e=>clo_sub hin e
  have cold:∀ (x:Str) (c:Addr),(clo X.env xs).lookup x=some c→∃ v,s2.heap.IsCell c v:=fun x c e=>I2.cell x c (csub x c e)
  have clt:∀ (x:Str) (c:Addr),(clo X.env xs).lookup x=some c→c < s2.heap.objs.size:=fun x c e=>by
    obtain ⟨v,o,ho,_⟩:=cold x c e
    exact Heap.lt_size ho
  have ok':(cxCompC X N' scope xs P2.objs.size s2 H2 fp pins).Ok:=by
    refine ⟨I2.ok.mod,hkind,I2.ok.glob,I2.ok.blt,?_,fun x y c e e'=>I2.ok.inj x y c (csub x c e) (csub y c e'),fun x hx => ?_,(fun x c z _=>by cases z),I2.ok.hd,I2.ok.frames,.inl rfl,fun b hb=>⟨(below b (hfp b hb)).1,fun x c e=>(f2 b hb).2.2.2.2.1 x c (csub x c e)⟩,I2.bs,Nat.le_trans I2.ok.bsz I2.sz,fun b o e hb => ?_,fun b hb=>nst b (f2 b hb).2.1 (f2 b hb).2.2.1,I2.stack,I2.stkFree⟩
    · show s2.heap.objs.size≤P2.objs.size
      rw [hC]; exact Nat.le_succ _
    · have hx':(relabel scope X.env).names.lookup x=some .cell∨(relabel scope X.env).names.lookup x=some .free:=hx
      rcases hx' with z | z
      · exact clo_has (hall _ (PySem.mem_of_lookup z) (.inl rfl))
      · exact clo_has (hall _ (PySem.mem_of_lookup z) (.inr rfl))
    · rcases (f2 b hb).2.2.2.1 with z | z
      · exact I2.ok.noex b o e z
      · exact absurd (Nat.lt_of_lt_of_le (Heap.lt_size (I2.ok.bs b o e).1) z) (Nat.lt_irrefl _)
  have I':Inv (cxCompC X N' scope xs P2.objs.size s2 H2 fp pins) [] (List.replicate k none++vs.map some) (upd H2 s2.heap.objs.size (.lst [])) { s2 with heap:=h₁,toks:=s2.toks + ([]:List (Str × Value)).length }:=by
    refine ⟨ok',rfl,I2.bare,Un.laid old (Nat.le_refl _) frD,⟨_,hns₁,fun i x v e1 e2 e3 => ?_⟩,fun x c e => ?_,?_,fun x c e => ?_,fun p hp => ?_,I2.hok.laid old (Nat.le_refl _) ⟨by simp,[],0,.nil,hD⟩,?_⟩
    · obtain ⟨j,ej,hj1,hj2⟩:=caps_at hvs his hN e1 e2
      obtain ⟨hc1,hc2,hc3⟩:=hcap x hj1
      obtain ⟨m,hn,hl⟩:=I2.loc
      obtain ⟨u,r,l⟩:=hl j x v ej hj2 (.inr (.inl hc1))
      refine ⟨u,r,.inr ⟨.inl hc2,?_⟩⟩
      rcases l with ⟨z,_⟩ | ⟨_,c,ec,⟨o,ho,hd⟩⟩
      · rw [show X.env.kindOf x=some .cell from hc1] at z; cases z
      · exact ⟨c,clo_of hc3 ec,o,old _ _ ho,hd⟩
    · obtain ⟨v,o,ho,hd⟩:=cold x c e
      exact ⟨v,o,old _ _ ho,hd⟩
    · show upd H2 s2.heap.objs.size (.lst []) P2.objs.size=none
      rw [upd_ne (Ne.symm hDC)]; exact frC
    · show upd H2 s2.heap.objs.size (.lst []) c=none
      rw [upd_ne (below _ (clt x c e)).2]; exact I2.freeC x c (csub x c e)
    · have hp':p∈X.pn++pins:=by
        rcases List.mem_append.mp hp with z | z
        · exact z
        · cases z
      obtain ⟨a1,a2,a3,a4,a5⟩:=I2.pin p hp'
      refine ⟨old _ _ a1,?_,(below _ (Heap.lt_size a1)).1,nst _ a3 a4,a5⟩
      rw [upd_ne (below _ (Heap.lt_size a1)).2]; exact a2
    · show (List.replicate k none++vs.map some).length=N'.length
      exact caps_len hvs his hN hk
  have stat:∀ {H':Hp},(∀ b∈fp,H' b=none)→∀ b∈fp,FpOk (cxCompC X N' scope xs P2.objs.size s2 H2 fp pins) [] H' b:=fun {H'} hn b hb =>
    ⟨hn b hb,(below b (hfp b hb)).1,nst b (f2 b hb).2.1 (f2 b hb).2.2.1,.inl hb,fun x c e=>(f2 b hb).2.2.2.2.1 x c (csub x c e),fun p hp=>(f2 b hb).2.2.2.2.2 p (by
      rcases List.mem_append.mp hp with z | z
      · exact z
      · cases z)⟩
  have fin:∀ (ys:List V) (σ':St) (H':Hp) (s':Shared),Inv (cxCompC X N' scope xs P2.objs.size s2 H2 fp pins) [] σ' H' s'→Q (.ref s2.heap.objs.size) H' →
      ∃ m,s'.heap.Ns P2.objs.size m∧∀ h',Heap.SameBut P2.objs.size s'.heap h'→EP X pins σ Q (.ref s2.heap.objs.size) { s' with heap:=h' }:=by
    intro ys σ' H' s' J1 q
    obtain ⟨m,hm,_⟩:=id J1.loc
    refine ⟨m,hm,fun h' sb=>⟨.ref s2.heap.objs.size,H',?_,rfl,q⟩⟩
    have ne:∀ b o,s2.heap.get? b=some o→b≠P2.objs.size:=fun b o e=>(below b (Heap.lt_size e)).1
    refine I2.call' (s':={ s' with heap:=h' }) (ch:=fp) J1.os ⟨fun b o e n hb hx => ?_,fun b o e n hb hx => ?_,fun b o e n hx=>J1.base.free b o e n hx,fun b o e hx => ?_,J1.base.tups,J1.base.frzs,J1.base.tbls⟩ (J1.hok.but J1.free fun b u hb q=>(sb.2 b hb).trans q) J1.bare fun b hb=>⟨(f2 b hb).2.2.2.1,(f2 b hb).2.1,(f2 b hb).2.2.2.2.1,(f2 b hb).2.2.2.2.2⟩
    · exact (sb.2 b (ne b o e)).trans (J1.base.keep b o e n hb hx)
    · obtain ⟨sl,z⟩:=J1.base.slot b o e n hb hx
      exact ⟨sl,(sb.2 b (ne b o e)).trans z⟩
    · obtain ⟨o',z⟩:=J1.base.there b o e hx
      exact ⟨o',(sb.2 b (ne b o e)).trans z⟩
  have loop:codeAny (model X.prog X.w) X.A (.compLoop (.ListComp elt [⟨tg,iter,[cnd],0⟩] scope pos) 0 (.ref it) (.ref s2.heap.objs.size) (compEnvC scope (clo X.env xs) P2.objs.size X.env))
      (compPost (model X.prog X.w) X.A X.xe none (EP X pins σ Q) (.ref s2.heap.objs.size) P2.objs.size)
      { s2 with heap:=h₁,toks:=s2.toks + ([]:List (Str × Value)).length }:=by
    refine compLoop_if (fun n s'=>∃ i ys σ' H',σ'.drop k=vs.map some∧Inv (cxCompC X N' scope xs P2.objs.size s2 H2 fp pins) [] σ' H' s'∧tn i s'.heap∧(∀ b∈fp,H' b=none)∧W i n ys H') ?_ m0
      ⟨0,[],List.replicate k none++vs.map some,_,by simp,I',T.keep _ _ _ st2 (fun b hb o e=>old b o e),fun b hb=>by rw [upd_ne (below b (hfp b hb)).2]; exact (f2 b hb).1,w0⟩
    rintro n s3 ⟨i,ys,σ3,H3,hd3,J3,st3,fr3,w3⟩
    obtain ⟨hl,q3⟩:=turn i n ys H3 w3
    rcases q3 with ⟨stop,q⟩ | ⟨go,hlt,step⟩
    · refine thn (T.done (cxCompC X N' scope xs P2.objs.size s2 H2 fp pins) rfl rfl rfl hcalm i [] s3 σ3 H3 _ J3 (stat fr3) st3 stop) fun r s4 ⟨hr,J4⟩ => ?_
      subst hr
      exact fin ys σ3 H3 s4 J4 q
    · refine thn (T.item (cxCompC X N' scope xs P2.objs.size s2 H2 fp pins) rfl rfl rfl hcalm i [] s3 σ3 H3 _ J3 (stat fr3) st3 go) fun r s4 ⟨u,hr,h4⟩ => ?_
      subst hr
      refine thn h4 fun _ s5 ⟨x,H5,J5,r5,y5,st5,fr5⟩ => ?_
      have J5':=J5.pinned (stat fr5) (T.obj _ _ st5)
      have J6:Inv (cxCompC X N' scope xs P2.objs.size s2 H2 fp pins) ([]++pinsAt fp s5.heap) (List.replicate k none++vs.map some) H5 s5:=J5'.weak (by rw [J5'.len]; exact caps_len hvs his hN hk) (caps_keep hd3)
      refine wpAny_mono (hg _ _ _ _ _ _ s5 _ H5 x u _ J6 r5 (step x H5 y5)) (fun _ s6 ⟨σ6,H6,J7,hd6,q6⟩ => ?_) fun _ _ z=>False.elim z
      refine wpAny_mono (ht _ _ _ _ _ _ s6 σ6 H6 _ J7 q6) (fun ok s6b ⟨H6b,J7b,q6b⟩ => ?_) fun _ _ z=>False.elim z
      cases ok with
      | false =>
        rw [if_neg (by decide)]
        rw [if_neg (by decide)] at q6b
        obtain ⟨m',hm',w7⟩:=q6b
        have pk:∀ b∈fp,∀ o,s5.heap.get? b=some o→s6b.heap.get? b=some o∧H6b b=none:=fun b hb o e =>
          let z:=J7b.pin (b,o) (List.mem_append_right _ (List.mem_append_right _ (mem_pinsAt hb e)))
          ⟨z.1,z.2.1⟩
        refine ⟨m',hm',i + 1,ys,σ6,_,hd6,J7b.unpinned,T.keep _ _ _ st5 fun b hb o e=>(pk b hb o e).1,fun b hb => ?_,w7⟩
        obtain ⟨o,e,_⟩:=T.obj _ _ st5 b hb
        exact (pk b hb o e).2
      | true =>
        rw [if_pos rfl]
        rw [if_pos rfl] at q6b
        refine wpAny_mono (he _ _ _ _ _ _ s6b σ6 H6b _ J7b q6b) (fun yv s7 ⟨y,H7,J8,r7,q7⟩ => ?_) fun _ _ z=>False.elim z
        obtain ⟨hl7,m',hm',w7⟩:=q7
        refine wpAny_mono (mt_append (X:=cxCompC X N' scope xs P2.objs.size s2 H2 fp pins) _ s7 σ6 H7 (.ref s2.heap.objs.size) [y] (.ref s2.heap.objs.size) [yv] (fun v H8=>H8=upd H7 s2.heap.objs.size (.lst (ys++[y]))) J8 rfl (.cons r7 .nil) ⟨_,ys,y,rfl,rfl,hl7,hlt,rfl⟩) (fun _ s8 ⟨v8,H8,J9,r8,e8⟩ => ?_) fun _ _ z=>False.elim z
        subst e8
        have pk:∀ b∈fp,∀ o,s5.heap.get? b=some o→s8.heap.get? b=some o∧upd H7 s2.heap.objs.size (.lst (ys++[y])) b=none:=fun b hb o e =>
          let z:=J9.pin (b,o) (List.mem_append_right _ (List.mem_append_right _ (mem_pinsAt hb e)))
          ⟨z.1,z.2.1⟩
        refine ⟨m',hm',i + 1,ys++[y],σ6,_,hd6,J9.unpinned,T.keep _ _ _ st5 fun b hb o e=>(pk b hb o e).1,fun b hb => ?_,w7⟩
        obtain ⟨o,e,_⟩:=T.obj _ _ st5 b hb
        exact (pk b hb o e).2
  exact codeAny_compStart_list loop (T.self X.A 0 { s2 with heap:=h₁,toks:=s2.toks + ([]:List (Str × Value)).length } _ _ (T.keep _ _ _ st2 fun b hb o e=>old b o e) loop)
end
end L2

namespace L2
open PySem PySem.Spec PyProof.Rows

def Ite (K:PySem.W.Frag) (l:Addr):It :=
  ⟨fun i H=>∃ xs x,SqL K H l xs∧xs[i]? = some x,
   fun i H v H'=>∃ p x,H p=none∧v=.ref p∧H'=upd H p (.tup [.int (i:Int),x])∧∀ xs,SqL K H l xs→xs[i]? = some x,
   fun i H=>∃ xs,SqL K H l xs∧xs.length≤i⟩
theorem turn_enum {P:Program} {w:World} {K:PySem.W.Frag} {elts:List Expr} {kk:Nat} {tp:Pos} {e it l:Addr} (hne:e≠it) (hl1:l≠e) (hl2:l≠it) :
    Turn P w K (.Tuple elts kk tp) (Ite K l) [e,it] e (fun i h=>(∃ old,IsEnum h e it (i:Int) old)∧h.IsListIter it l i) where
  mem:=by simp
  obj:=fun i h st b hb=>by
    obtain ⟨⟨old,he⟩,⟨o,ho,hc,hd⟩⟩:=st
    simp only [List.mem_cons,List.not_mem_nil,or_false] at hb
    rcases hb with rfl | rfl
    · exact ⟨_,he,fun v q=>by cases q⟩
    · exact ⟨o,ho,fun v q=>by rw [hd] at q; cases q⟩
  keep:=fun i h h' st k=>by
    obtain ⟨⟨old,he⟩,⟨o,ho,r⟩⟩:=st
    exact ⟨⟨old,k _ (by simp) _ he⟩,⟨o,k _ (by simp) _ ho,r⟩⟩
  item:=by
    intro X hP hw hK hc i pins s σ H E I hf st hg
    subst hP hw hK
    obtain ⟨⟨old,he⟩,hit⟩:=st
    obtain ⟨xs,x,q1,hx⟩:=hg
    obtain ⟨us,r1,pl,_⟩:=I.list q1
    obtain ⟨x',hx',rx⟩:=r1.get hx
    have hn:H s.heap.objs.size=none:=I.hok.fresh (Nat.le_refl _)
    refine wpAny_pyNext_enum_item he hit pl.isList (x:=x') (by simpa using hx') hne fun g z' j1 tp' sz kp=>⟨_,rfl,?_⟩
    have lt:∀ {b:Addr} {o:Obj},s.heap.get? b=some o→s.heap.objs.size≠b:=fun e=>Nat.ne_of_gt (Heap.lt_size e)
    refine wpAny_letOwnedTupleGo_enum z' fun g' z'' sb => ?_
    have I1:Inv X pins σ (upd H s.heap.objs.size (.tup [.int (i:Int),x])) { s with heap:=s.heap.push { cls:=.type "tuple",data:=.seq #[.int i s.toks,x'] } } :=
      I.laid (t':=s.toks) (fun b u e=>Heap.get?_push_of_some _ e) (Nat.le_refl _) ⟨(by show 2≤sizeLine; decide),[.int i s.toks,x'],.cons ⟨_,rfl⟩ (.cons rx .nil),⟨_,Heap.get?_push_size _ rfl,rfl,_,rfl⟩⟩
    obtain ⟨oi,hoi,_⟩:=id hit
    have fp':∀ b∈[e,it],s.heap.objs.size≠b∧upd H s.heap.objs.size (.tup [.int (i:Int),x]) b=none:=fun b hb=>by
      have q:s.heap.objs.size≠b:=by
        simp only [List.mem_cons,List.not_mem_nil,or_false] at hb
        rcases hb with rfl | rfl
        · exact lt he
        · exact lt hoi
      exact ⟨q,by rw [upd_ne (Ne.symm q)]; exact (hf b hb).1⟩
    have I2:Inv X pins σ (upd H s.heap.objs.size (.tup [.int (i:Int),x])) { s with heap:=g',toks:=s.toks + 1 }:=by
      refine Inv.turnedL (s:={ s with heap:=s.heap.push { cls:=.type "tuple",data:=.seq #[.int i s.toks,x'] } }) (h':=g') (t':=s.toks + 1) (L:=[e,it]) I1 (fun b o hb q => ?_) fun b hb => ?_
      · have b1:b≠e:=fun z=>hb (by simp [z])
        have b2:b≠it:=fun z=>hb (by simp [z])
        rcases Heap.get?_push_cases q with ⟨e1,e2⟩ | e1
        · subst e1 e2
          exact sb.extBut _ _ b1 tp'
        · exact sb.extBut _ _ b1 (kp b o b1 b2 e1)
      · obtain ⟨f0,f1,f2,f3,f4,f5⟩:=hf b hb
        exact ⟨(fp' b hb).2,f1,f2,f3,f4,f5⟩
    refine ⟨.ref s.heap.objs.size,_,I2,rfl,⟨_,x,hn,rfl,rfl,fun zs hq => ?_⟩,⟨⟨_,by exact_mod_cast z''⟩,j1.extBut sb.extBut (Ne.symm hne)⟩,fun b hb=>(fp' b hb).2⟩
    rw [I.list_inj hq q1]; exact hx
  done:=by
    intro X hP hw hK hc i pins s σ H E I hf st hg
    subst hP hw hK
    obtain ⟨⟨old,he⟩,hit⟩:=st
    obtain ⟨xs,q1,hge⟩:=hg
    obtain ⟨us,r1,pl,_⟩:=I.list q1
    have e1:=r1.length
    refine wpAny_pyNext_enum_end (I.ok.hd hc) he hit pl.isList (by simp; omega) fun g kp=>⟨rfl,I.turnedL (t':=s.toks) (L:=[e,it]) (fun b o hb q=>kp b o (fun z=>hb (by simp [z])) q) fun b hb=>hf b hb⟩
  self:=fun _ _ _ _ _ st h=>let ⟨⟨_,he⟩,_⟩:=st; wpAny_pyIter_enum he h
section
variable {X:Cx}
def iEnum (K:PySem.W.Frag) (ta:TA):TI:=fun σ H R=>ta σ H fun vs H1=>∃ l,vs=[.ref l]∧(∃ xs,SqL K H1 l xs)∧R (Ite K l) H1
theorem bt_enum:bootBuiltins "enumerate" = some (.type "enumerate"):=by decide +kernel
theorem pi_enumerate {a:Expr} {ta:TA} {p pos:Pos} {elts:List Expr} {kk:Nat} {tp:Pos} (hg:Gl X "enumerate") (hm:X.mg "enumerate" = none) (ha:PA X [a] ta)
    (hs:starEach [a] X.env=(false,eval a X.env)::starEach [] X.env:=by rfl) (hpl:(backTo pos (starEach [] X.env)).any (·.1)=false:=by rfl) :
    PI X (.Tuple elts kk tp) (.Call (.Name "enumerate" p) [a] [] pos) (iEnum X.K ta):=by
  intro pins s σ H R I h
  refine Call_ (ld_blt I hg hm bt_enum (PyProof.Rows.callWith_type1 (thn (ha pos pins s σ H _ I h) fun us s1 ⟨vs,H1,I1,r1,q1⟩ => ?_) hs hpl))
  obtain ⟨l,e,⟨xs,q1⟩,q⟩:=q1
  subst e
  obtain ⟨u,rfl,ru⟩:=vals1 r1
  cases ru
  obtain ⟨its,r,pl,_⟩:=I1.list q1
  have hlt:l < s1.heap.objs.size:=by obtain ⟨_,e,_⟩:=pl.isList; exact Heap.lt_size e
  refine call_enumerate_list pl.isList fun g he hit sz kp=>wpAny_pyIter_enum he ?_
  refine ⟨_,[s1.heap.objs.size + 1,s1.heap.objs.size],_,_,H1,rfl,I1.kept (t':=s1.toks) kp,turn_enum (l:=l) (Nat.succ_ne_self _) (Nat.ne_of_lt (Nat.lt_succ_of_lt hlt)) (Nat.ne_of_lt hlt),⟨⟨_,he⟩,hit⟩,fun b hb => ?_,q⟩
  have hb':s1.heap.objs.size≤b:=by
    simp only [List.mem_cons,List.not_mem_nil,or_false] at hb
    rcases hb with h | h
    · rw [h]; exact Nat.le_add_right _ _
    · rw [h]; exact Nat.le_refl _
  exact I1.fpOk hb' (I1.hok.fresh hb')
end
theorem for_enum {K:PySem.W.Frag} {l:Addr} {xs:List V} {g:TG} {tb:TS} {D:Ends} {σ:St} {H:Hp} (Pv:Nat→St→Hp→Prop) (h0:Pv 0 σ H) (hl:∀ i σ H,Pv i σ H→SqL K H l xs)
    (hs:∀ i x p σ H,xs[i]? = some x→Pv i σ H→H p=none→g (.ref p) σ (upd H p (.tup [.int (i:Int),x])) fun σ2 H2=>tb { D with nx:=Pv (i + 1),ct:=Pv (i + 1),bk:=D.nx } σ2 H2) (hd:∀ σ H,Pv xs.length σ H→D.nx σ H) :
    ∃ W:Nat→Nat→St→Hp→Prop,(∃ m,W 0 m σ H)∧∀ i m σ H,W i m σ H →
      ((Ite K l).stop i H∧D.nx σ H)∨((Ite K l).go i H∧∃ N:St→Hp→Prop,(∀ σ' H',N σ' H'→∃ m',m' < m∧W (i + 1) m' σ' H')∧∀ x H',(Ite K l).yld i H x H'→g x σ H' fun σ2 H2=>tb { D with nx:=N,ct:=N,bk:=D.nx } σ2 H2):=by
  refine ⟨fun i m σ H=>m=xs.length - i∧i≤xs.length∧Pv i σ H,⟨_,rfl,Nat.zero_le _,h0⟩,?_⟩
  rintro i m σ H ⟨rfl,hi,p⟩
  have q:=hl i σ H p
  by_cases hlt:i < xs.length
  · refine .inr ⟨⟨xs,xs[i],q,by simp [hlt]⟩,Pv (i + 1),fun σ' H' p'=>⟨_,by omega,rfl,hlt,p'⟩,fun v H' y => ?_⟩
    obtain ⟨a,x,hn,rfl,rfl,hx⟩:=y
    exact hs i x a σ H (hx xs q) p hn
  · have e:i=xs.length:=by omega
    subst e
    exact .inl ⟨⟨xs,q,Nat.le_refl _⟩,hd σ H p⟩

mutual
inductive Dat (H:Hp):V→PyData→Prop
  | non:Dat H .non .none
  | bl (b:Bool):Dat H (.bl b) (.bool b)
  | int (i:Int):Dat H (.int i) (.int i)
  | str (x:Str):Dat H (.str x) (.str x)
  | lst {a:Addr} {xs:List V} {ds:List PyData}:H a=some (.lst xs)→Dats H xs ds→Dat H (.ref a) (.list ds)
  | tup {a:Addr} {xs:List V} {ds:List PyData}:H a=some (.tup xs)→Dats H xs ds→Dat H (.ref a) (.tuple ds)
inductive Dats (H:Hp):List V→List PyData→Prop
  | nil:Dats H [] []
  | cons {x:V} {xs:List V} {d:PyData} {ds:List PyData}:Dat H x d→Dats H xs ds→Dats H (x::xs) (d::ds)
end
section
variable {P:Program} {w:World} {H:Hp} {h:Heap}
mutual
theorem Dat.reads (ok:HOk P w H h):∀ {x:V} {d:PyData} {u:Value},Dat H x d→RelV x u→∃ as,Reads h u d as
  | _,_,u,.non,r=>by cases (show u=Value.none from r); exact ⟨_,.none⟩
  | _,_,u,.bl b,r=>by cases (show u=Value.bool b from r); exact ⟨_,.bool b⟩
  | _,_,u,.int i,r=>by obtain ⟨t,rfl⟩:=r; exact ⟨_,.int i t⟩
  | _,_,u,.str x,r=>by obtain ⟨t,rfl⟩:=r; exact ⟨_,.str x t⟩
  | _,_,u,.lst (a:=a) e q,r=>by
    cases (show u=Value.ref a from r)
    obtain ⟨_,its,n,rv,g⟩:=ok a _ e
    obtain ⟨as,rs⟩:=Dats.reads ok q rv
    exact ⟨_,.list g rfl rfl rs⟩
  | _,_,u,.tup (a:=a) e q,r=>by
    cases (show u=Value.ref a from r)
    obtain ⟨_,its,rv,o,g,c,n,dd⟩:=ok a _ e
    obtain ⟨as,rs⟩:=Dats.reads ok q rv
    exact ⟨_,.tuple g c dd rs⟩
theorem Dats.reads (ok:HOk P w H h):∀ {xs:List V} {ds:List PyData} {us:List Value},Dats H xs ds→Vals xs us→∃ as,ReadsAll h us ds as
  | _,_,_,.nil,.nil=>⟨_,.nil⟩
  | _,_,_,.cons p q,.cons r s=>by
    obtain ⟨as,x⟩:=Dat.reads ok p r
    obtain ⟨bs,y⟩:=Dats.reads ok q s
    exact ⟨_,.cons x y⟩
end
end
def rEqD (neg:Bool):R2:=fun x y H Q=>∃ d1 d2,Dat H x d1∧Dat H y d2∧SeqAt.shaped d1=true∧SeqAt.shaped d2=true∧Q (.bl (if neg then !PyData.eqv d1 d2 else PyData.eqv d1 d2)) H
section
variable {X:Cx}
theorem op_eqD {k:Nat} (hr:Room k X.A):OpR X (compareOp .Eq) (rEqD false):=by
  intro pins s σ H x y v u Q I rx ry h
  obtain ⟨d1,d2,p,q,s1,s2,h⟩:=h
  obtain ⟨as,r1⟩:=p.reads I.hok rx
  obtain ⟨bs,r2⟩:=q.reads I.hok ry
  exact eq_dataH r1 r2 s1 s2 hr.units ⟨.bl _,H,I,rfl,h⟩
theorem op_neD {k:Nat} (hr:Room k X.A):OpR X (compareOp .NotEq) (rEqD true):=by
  intro pins s σ H x y v u Q I rx ry h
  obtain ⟨d1,d2,p,q,s1,s2,h⟩:=h
  obtain ⟨as,r1⟩:=p.reads I.hok rx
  obtain ⟨bs,r2⟩:=q.reads I.hok ry
  exact ne_dataH r1 r2 s1 s2 hr.units ⟨.bl _,H,I,rfl,h⟩
end
end L2

namespace L2
open PySem PySem.Spec PyProof.Rows
section
variable {X:Cx}
end
section
variable {X:Cx} {K:PySem.W.Frag}

theorem ix_tupK (hK:X.K=K:=by rfl):IxR X (rIxT K):=hK▸ix_tup
end

section
variable {K:PySem.W.Frag} {σ0 cs:St} {k:Nat} {g:TG} {te:TE} {tt:TT} {H1:Hp} {Q:VK}
theorem compC_by {J:It} (n:Nat) (gv:Nat→V→Prop) (Pv:Addr→Nat→List V→Hp→Prop) (hn:n≤sizeLine)
    (hgo:∀ D i ys H,i < n→Pv D i ys H→J.go i H) (hst:∀ D ys H,Pv D n ys H→J.stop n H) (hy:∀ D i ys H x H',i < n→Pv D i ys H→J.yld i H x H'→H'=H∧gv i x)
    (hl:∀ D i ys H,Pv D i ys H→H D=some (.lst ys)∧ys.length≤i) (h0:∀ D,H1 D=none→Pv D 0 [] (upd H1 D (.lst [])))
    (hs:∀ D i x ys H,i < n→gv i x→H1 D=none→Pv D i ys H→g x σ0 H fun σ2 H3=>σ2.drop k=cs∧te σ2 H3 fun y H4=>H4 D=some (.lst ys)∧Pv D (i + 1) (ys++[y]) (upd H4 D (.lst (ys++[y]))))
    (hd:∀ D ys H,H1 D=none→Pv D n ys H→Q (.ref D) H) (mono:∀ x σ H (R R':St→Hp→Prop),(∀ σ' H',R σ' H'→R' σ' H')→g x σ H R→g x σ H R')
    (mono2:∀ σ H (R R':VK),(∀ v H',R v H'→R' v H')→te σ H R→te σ H R'):compKC σ0 k cs g te Q J H1:=by
  intro D hD
  refine ⟨fun i m ys H=>m=n - i∧i≤n∧Pv D i ys H,⟨n,rfl,Nat.zero_le _,h0 D hD⟩,?_⟩
  rintro i m ys H ⟨rfl,hi,p⟩
  obtain ⟨e1,e2⟩:=hl D i ys H p
  refine ⟨e1,?_⟩
  by_cases hlt:i < n
  · refine .inr ⟨hgo D i ys H hlt p,by omega,fun x H' y => ?_⟩
    obtain ⟨rfl,hx⟩:=hy D i ys H x H' hlt p y
    refine mono _ _ _ _ _ (fun σ2 H3 ⟨z1,z2⟩=>⟨z1,mono2 _ _ _ _ (fun v H4 ⟨z3,z4⟩=>⟨z3,n - (i + 1),by omega,rfl,hlt,z4⟩) z2⟩) (hs D i x ys H' hlt hx hD p)
  · have e:i=n:=by omega
    subst e
    exact .inl ⟨hst D ys H p,hd D ys H hD p⟩
theorem compCI_by {J:It} (n:Nat) (gv:Nat→V→Prop) (Pv:Addr→Nat→List V→Hp→Prop) (hn:n≤sizeLine)
    (hgo:∀ D i ys H,i < n→Pv D i ys H→J.go i H) (hst:∀ D ys H,Pv D n ys H→J.stop n H) (hy:∀ D i ys H x H',i < n→Pv D i ys H→J.yld i H x H'→H'=H∧gv i x)
    (hl:∀ D i ys H,Pv D i ys H→H D=some (.lst ys)∧ys.length≤i) (h0:∀ D,H1 D=none→Pv D 0 [] (upd H1 D (.lst [])))
    (hs:∀ D i x ys H,i < n→gv i x→H1 D=none→Pv D i ys H→g x σ0 H fun σ2 H3=>σ2.drop k=cs∧tt σ2 H3 fun b H4=>if b=true then te σ2 H4 fun y H5=>H5 D=some (.lst ys)∧Pv D (i + 1) (ys++[y]) (upd H5 D (.lst (ys++[y]))) else Pv D (i + 1) ys H4)
    (hd:∀ D ys H,H1 D=none→Pv D n ys H→Q (.ref D) H) (mono:∀ x σ H (R R':St→Hp→Prop),(∀ σ' H',R σ' H'→R' σ' H')→g x σ H R→g x σ H R')
    (mono2:∀ σ H (R R':VK),(∀ v H',R v H'→R' v H')→te σ H R→te σ H R') (mono3:∀ σ H (R R':Bool→Hp→Prop),(∀ v H',R v H'→R' v H')→tt σ H R→tt σ H R'):compKCI σ0 k cs g tt te Q J H1:=by
  intro D hD
  refine ⟨fun i m ys H=>m=n - i∧i≤n∧Pv D i ys H,⟨n,rfl,Nat.zero_le _,h0 D hD⟩,?_⟩
  rintro i m ys H ⟨rfl,hi,p⟩
  obtain ⟨e1,e2⟩:=hl D i ys H p
  refine ⟨e1,?_⟩
  by_cases hlt:i < n
  · refine .inr ⟨hgo D i ys H hlt p,by omega,fun x H' y => ?_⟩
    obtain ⟨rfl,hx⟩:=hy D i ys H x H' hlt p y
    refine mono _ _ _ _ _ (fun σ2 H3 ⟨z1,z2⟩=>⟨z1,mono3 _ _ _ _ (fun b H4 z => ?_) z2⟩) (hs D i x ys H' hlt hx hD p)
    cases b with
    | true =>
      rw [if_pos rfl] at z ⊢
      exact mono2 _ _ _ _ (fun v H5 ⟨z3,z4⟩=>⟨z3,n - (i + 1),by omega,rfl,hlt,z4⟩) z
    | false =>
      rw [if_neg (by decide)] at z ⊢
      exact ⟨n - (i + 1),by omega,rfl,hlt,z⟩
  · have e:i=n:=by omega
    subst e
    exact .inl ⟨hst D ys H p,hd D ys H hD p⟩
theorem compC_list {a:Addr} (xs:List V) (Pv:Addr→Nat→List V→Hp→Prop) (hn:xs.length≤sizeLine) (hq:∀ D i ys H,Pv D i ys H→SqL K H a xs)
    (hl:∀ D i ys H,Pv D i ys H→H D=some (.lst ys)∧ys.length≤i) (h0:∀ D,H1 D=none→Pv D 0 [] (upd H1 D (.lst [])))
    (hs:∀ D i x ys H,xs[i]? = some x→H1 D=none→Pv D i ys H→g x σ0 H fun σ2 H3=>σ2.drop k=cs∧te σ2 H3 fun y H4=>H4 D=some (.lst ys)∧Pv D (i + 1) (ys++[y]) (upd H4 D (.lst (ys++[y]))))
    (hd:∀ D ys H,H1 D=none→Pv D xs.length ys H→Q (.ref D) H) (mono:∀ x σ H (R R':St→Hp→Prop),(∀ σ' H',R σ' H'→R' σ' H')→g x σ H R→g x σ H R')
    (mono2:∀ σ H (R R':VK),(∀ v H',R v H'→R' v H')→te σ H R→te σ H R'):compKC σ0 k cs g te Q (Itl K a) H1 :=
  compC_by xs.length (fun i x=>xs[i]? = some x) Pv hn (fun D i ys H hi p=>⟨xs,xs[i],hq D i ys H p,by simp [hi]⟩) (fun D ys H p=>⟨xs,hq D _ ys H p,Nat.le_refl _⟩)
    (fun D i ys H x H' hi p y=>⟨y.1,y.2 xs (hq D i ys H p)⟩) hl h0 (fun D i x ys H hi hx hD p=>hs D i x ys H hx hD p) hd mono mono2
end
inductive Tr where
  | col (i:Int)
  | four (a b c d:Tr)
deriving DecidableEq
def Tr.data:Tr→PyData
  | .col i=>.int i
  | .four a b c d=>.tuple [a.data,b.data,c.data,d.data]
def Tr.deep:Tr→Nat
  | .col _=>0
  | .four a b c d=>max a.deep (max b.deep (max c.deep d.deep)) + 1
def Tr.isCol:Tr→Bool
  | .col _=>true
  | .four ..=>false
inductive TrAt (H:Hp):V→Tr→Prop
  | col (i:Int):TrAt H (.int i) (.col i)
  | four {p:Addr} {a b c d:V} {ta tb tc td:Tr}:H p=some (.tup [a,b,c,d])→TrAt H a ta→TrAt H b tb→TrAt H c tc→TrAt H d td→TrAt H (.ref p) (.four ta tb tc td)

def Tups (H H':Hp):Prop:=∀ b xs,H b=some (.tup xs)→H' b=some (.tup xs)
theorem Same.tups {H H':Hp} (s:Same H H'):Tups H H':=fun b xs e=>s b _ e
theorem Tups.trans {H H' H'':Hp} (s:Tups H H') (t:Tups H' H''):Tups H H'':=fun b xs e=>t b xs (s b xs e)
theorem Tups.lst {H:Hp} {l:Addr} {xs ys:List V} (e:H l=some (.lst xs)):Tups H (upd H l (.lst ys)):=fun b zs q=>by
  rw [upd_ne (ne_of q e (by intro z; cases z))]; exact q
theorem TrAt.up {H H':Hp} (s:Tups H H'):∀ {v:V} {t:Tr},TrAt H v t→TrAt H' v t
  | _,_,.col i=>.col i
  | _,_,.four e a b c d=>.four (s _ _ e) (TrAt.up s a) (TrAt.up s b) (TrAt.up s c) (TrAt.up s d)
theorem TrAt.dat {H:Hp}:∀ {v:V} {t:Tr},TrAt H v t→Dat H v t.data
  | _,_,.col i=>.int i
  | _,_,.four e a b c d=>.tup e (.cons a.dat (.cons b.dat (.cons c.dat (.cons d.dat .nil))))
theorem Tr.eqv:∀ t u:Tr,PyData.eqv t.data u.data=decide (t=u)
  | .col i,.col j=>by
    show (i == j)=_
    by_cases h:i=j <;> simp [h]
  | .col i,.four ..=>by
    show false=_
    simp
  | .four ..,.col j=>by
    show false=_
    simp
  | .four a b c d,.four a' b' c' d'=>by
    show (PyData.eqv a.data a'.data && (PyData.eqv b.data b'.data && (PyData.eqv c.data c'.data && (PyData.eqv d.data d'.data && true))))=_
    rw [Tr.eqv a a',Tr.eqv b b',Tr.eqv c c',Tr.eqv d d']
    by_cases h1:a=a' <;> by_cases h2:b=b' <;> by_cases h3:c=c' <;> by_cases h4:d=d' <;> simp [h1,h2,h3,h4]
theorem Tr.lay:∀ t:Tr,t.data.canLay0=true
  | .col i=>rfl
  | .four a b c d=>by
    show (a.data.canLay0 && (b.data.canLay0 && (c.data.canLay0 && (d.data.canLay0 && true))))=true
    rw [Tr.lay a,Tr.lay b,Tr.lay c,Tr.lay d]; rfl
theorem Tr.depth:∀ t:Tr,t.data.depth=t.deep
  | .col i=>rfl
  | .four a b c d=>by
    show max a.data.depth (max b.data.depth (max c.data.depth (max d.data.depth 0))) + 1=_
    rw [Tr.depth a,Tr.depth b,Tr.depth c,Tr.depth d,Nat.max_zero]; rfl
theorem Tr.shaped {t:Tr} (h:t.deep≤64):SeqAt.shaped t.data=true:=by
  unfold SeqAt.shaped
  rw [Tr.lay,Tr.depth,decide_eq_true h]; rfl
theorem TrAt.ty {K:PySem.W.Frag} {H:Hp} {v:V} {t:Tr} (h:TrAt H v t):TyOf K H v (if t.isCol then .type "int" else .type "tuple"):=by
  cases h with
  | col i=>exact .int i
  | four e=>exact .tup e
end L2

namespace L2
open PySem PySem.Spec PyProof.Rows

section
variable {X:Cx} {elt tg iter cnd:Expr} {scope:Scope} {pos:Pos} {N':List Str} {wi:TI} {g:TG} {te:TE} {tt:TT}
theorem ps_setCI {y:Str} {py spos:Pos} {i0:Nat} (xs caps:List Str) (is:List Nat) (k:Nat) (hclos:closureFor scope X.env=pure (clo X.env xs)) (hin:(xs.all fun x=>(X.env.cells.lookup x).isSome)=true) (hcap:CapsOk X.env scope xs caps) (his:is.map (X.N[·]?)=caps.map some) (hN:N'.drop k=caps) (hk:k≤N'.length)
    (hallB:((relabel scope X.env).names.all fun y => !(y.2 == .cell || y.2 == .free) || xs.contains y.1)=true) (hcell:∀ y∈scope.names,y.2≠.cell) (hkind:scope.kind=.function) (hnames:∀ y∈scope.names,y.2=.local→scope.names.lookup y.1=some .local)
    (hcalm:X.calm=true) (hi:PI X tg iter wi) (hg:∀ C s0 H0 fp pins,PG (cxCompC X N' scope xs C s0 H0 fp pins) tg g) (ht:∀ C s0 H0 fp pins,PT (cxCompC X N' scope xs C s0 H0 fp pins) cnd tt) (he:∀ C s0 H0 fp pins,PE (cxCompC X N' scope xs C s0 H0 fp pins) elt te)
    (hNd:X.N.Nodup) (hi0:X.N[i0]? = some y) (hy:Loc X.env.scope y) (hsw:swapsWith (.ListComp elt [⟨tg,iter,[cnd],0⟩] scope pos) (some (.Name y py)) spos.line X.env=pure true:=by rfl) (hf:X.fn y=true∨X.env.scope.names.lookup y=some .local:=by first | exact .inl rfl | exact .inr rfl | assumption)
    (hs:∀ x,foldedSetIterable iter X.env x=pure x:=by intro _; rfl):PS X (.Assign [.Name y py] (.ListComp elt [⟨tg,iter,[cnd],0⟩] scope pos) spos) (tAsg (tCompCI is k wi g tt te) (gName i0)):=by
  intro pins s σ H D0 I h
  have hall:=all_of hallB
  obtain ⟨vs,hvs,h⟩:=h
  rw [exec_Assign_Name_used _ _ _ _ hsw]
  refine wpAny_bind (wpAny_standAt (wpAny_bind ?_))
  show wpAny _ X.A (do let _ ← comprehension (.ListComp elt [⟨tg,iter,[cnd],0⟩] scope pos) scope X.env _ (newList []) false (eval iter X.env) (some (assign (.Name y py) X.env))) _ _ s
  refine wpAny_bind (wpAny_mono (wpAny_comprehension_free (use:=some (assign (.Name y py) X.env)) (Q:=fun _ s'=>SP X pins D0 .next s') rfl hs hclos hkind hnames (thn (hi pins s σ H _ I h) fun v s1 h1=>thn h1 fun itv s2 h2 => ?_)) (fun _ s' hq=>wpAny_pure (wpAny_pure hq)) fun _ _ e=>e)
  obtain ⟨it,fp,tn,J,H2,e,I2,T,st2,f2,hW⟩:=h2
  subst e
  refine wpAny_newObj_type (wpAny_newFunctionEnv hcell (by intro y hy; simp at hy) (fun h₁ hns₁ hsb₁ => ?_) hkind)
  dsimp only at hns₁ hsb₁ ⊢
  generalize hH2:s2.heap.push { cls:=.type "list",dict:=none,data:=.seq ([]:List Value).toArray }=P2 at hns₁ hsb₁ ⊢
  have hC:P2.objs.size=s2.heap.objs.size + 1:=by rw [← hH2,Heap.size_push]
  have below:∀ b,b < s2.heap.objs.size→b≠P2.objs.size∧b≠s2.heap.objs.size:=fun b hb=>⟨by rw [hC]; exact Nat.ne_of_lt (Nat.lt_succ_of_lt hb),Nat.ne_of_lt hb⟩
  have hDC:s2.heap.objs.size≠P2.objs.size:=by rw [hC]; exact Nat.ne_of_lt (Nat.lt_succ_self _)
  have old:∀ b o,s2.heap.get? b=some o→h₁.get? b=some o:=fun b o e=>hsb₁.extBut b o (below b (Heap.lt_size e)).1 (Heap.get?_push_of_some _ (hH2▸Heap.get?_push_of_some _ e))
  have hD:h₁.get? s2.heap.objs.size=some { cls:=.type "list",dict:=none,data:=.seq ([]:List Value).toArray }:=hsb₁.extBut _ _ hDC (Heap.get?_push_of_some _ (hH2▸Heap.get?_push_size _ rfl))
  have frD:H2 s2.heap.objs.size=none:=I2.hok.fresh (Nat.le_refl _)
  have frC:H2 P2.objs.size=none:=I2.hok.fresh (by rw [hC]; exact Nat.le_succ _)
  have hfp:∀ b∈fp,b < s2.heap.objs.size:=fun b hb=>by
    obtain ⟨o,e,_⟩:=T.obj _ _ st2 b hb
    exact Heap.lt_size e
  have nst:∀ b,b≠X.env.locals→b∉X.fs→b∉frs X.stack:=fun b n1 n2 z=>by
    rcases List.mem_cons.mp (I2.stkSub b z) with e | e
    · exact n1 e
    · exact n2 e
  obtain ⟨W,⟨m0,w0⟩,turn⟩:=hW s2.heap.objs.size frD
  have csub:∀ (x:Str) (c:Addr),(clo X.env xs).lookup x=some c→X.env.cells.lookup x=some c:=fun x c e=>clo_sub hin e
  have cold:∀ (x:Str) (c:Addr),(clo X.env xs).lookup x=some c→∃ v,s2.heap.IsCell c v:=fun x c e=>I2.cell x c (csub x c e)
  have clt:∀ (x:Str) (c:Addr),(clo X.env xs).lookup x=some c→c < s2.heap.objs.size:=fun x c e=>by
    obtain ⟨v,o,ho,_⟩:=cold x c e
    exact Heap.lt_size ho
  have ok':(cxCompC X N' scope xs P2.objs.size s2 H2 fp pins).Ok:=by
    refine ⟨I2.ok.mod,hkind,I2.ok.glob,I2.ok.blt,?_,fun x y c e e'=>I2.ok.inj x y c (csub x c e) (csub y c e'),fun x hx => ?_,(fun x c z _=>by cases z),I2.ok.hd,I2.ok.frames,.inl rfl,fun b hb=>⟨(below b (hfp b hb)).1,fun x c e=>(f2 b hb).2.2.2.2.1 x c (csub x c e)⟩,I2.bs,Nat.le_trans I2.ok.bsz I2.sz,fun b o e hb => ?_,fun b hb=>nst b (f2 b hb).2.1 (f2 b hb).2.2.1,I2.stack,I2.stkFree⟩
    · show s2.heap.objs.size≤P2.objs.size
      rw [hC]; exact Nat.le_succ _
    · have hx':(relabel scope X.env).names.lookup x=some .cell∨(relabel scope X.env).names.lookup x=some .free:=hx
      rcases hx' with z | z
      · exact clo_has (hall _ (PySem.mem_of_lookup z) (.inl rfl))
      · exact clo_has (hall _ (PySem.mem_of_lookup z) (.inr rfl))
    · rcases (f2 b hb).2.2.2.1 with z | z
      · exact I2.ok.noex b o e z
      · exact absurd (Nat.lt_of_lt_of_le (Heap.lt_size (I2.ok.bs b o e).1) z) (Nat.lt_irrefl _)
  have I':Inv (cxCompC X N' scope xs P2.objs.size s2 H2 fp pins) [] (List.replicate k none++vs.map some) (upd H2 s2.heap.objs.size (.lst [])) { s2 with heap:=h₁,toks:=s2.toks + ([]:List (Str × Value)).length }:=by
    refine ⟨ok',rfl,I2.bare,Un.laid old (Nat.le_refl _) frD,⟨_,hns₁,fun i x v e1 e2 e3 => ?_⟩,fun x c e => ?_,?_,fun x c e => ?_,fun p hp => ?_,I2.hok.laid old (Nat.le_refl _) ⟨by simp,[],0,.nil,hD⟩,?_⟩
    · obtain ⟨j,ej,hj1,hj2⟩:=caps_at hvs his hN e1 e2
      obtain ⟨hc1,hc2,hc3⟩:=hcap x hj1
      obtain ⟨m,hn,hl⟩:=I2.loc
      obtain ⟨u,r,l⟩:=hl j x v ej hj2 (.inr (.inl hc1))
      refine ⟨u,r,.inr ⟨.inl hc2,?_⟩⟩
      rcases l with ⟨z,_⟩ | ⟨_,c,ec,⟨o,ho,hd⟩⟩
      · rw [show X.env.kindOf x=some .cell from hc1] at z; cases z
      · exact ⟨c,clo_of hc3 ec,o,old _ _ ho,hd⟩
    · obtain ⟨v,o,ho,hd⟩:=cold x c e
      exact ⟨v,o,old _ _ ho,hd⟩
    · show upd H2 s2.heap.objs.size (.lst []) P2.objs.size=none
      rw [upd_ne (Ne.symm hDC)]; exact frC
    · show upd H2 s2.heap.objs.size (.lst []) c=none
      rw [upd_ne (below _ (clt x c e)).2]; exact I2.freeC x c (csub x c e)
    · have hp':p∈X.pn++pins:=by
        rcases List.mem_append.mp hp with z | z
        · exact z
        · cases z
      obtain ⟨a1,a2,a3,a4,a5⟩:=I2.pin p hp'
      refine ⟨old _ _ a1,?_,(below _ (Heap.lt_size a1)).1,nst _ a3 a4,a5⟩
      rw [upd_ne (below _ (Heap.lt_size a1)).2]; exact a2
    · show (List.replicate k none++vs.map some).length=N'.length
      exact caps_len hvs his hN hk
  have stat:∀ {H':Hp},(∀ b∈fp,H' b=none)→∀ b∈fp,FpOk (cxCompC X N' scope xs P2.objs.size s2 H2 fp pins) [] H' b:=fun {H'} hn b hb =>
    ⟨hn b hb,(below b (hfp b hb)).1,nst b (f2 b hb).2.1 (f2 b hb).2.2.1,.inl hb,fun x c e=>(f2 b hb).2.2.2.2.1 x c (csub x c e),fun p hp=>(f2 b hb).2.2.2.2.2 p (by
      rcases List.mem_append.mp hp with z | z
      · exact z
      · cases z)⟩
  have fin:∀ (ys:List V) (σ':St) (H':Hp) (s':Shared),Inv (cxCompC X N' scope xs P2.objs.size s2 H2 fp pins) [] σ' H' s'→D0.nx (σ.set i0 (some (.ref s2.heap.objs.size))) H' →
      wpAny (model X.prog X.w) X.A (assign (.Name y py) X.env (.ref s2.heap.objs.size)) (fun _ s''=>∃ m,s''.heap.Ns P2.objs.size m∧∀ h',Heap.SameBut P2.objs.size s''.heap h'→SP X pins D0 .next { s'' with heap:=h' }) X.xe s':=by
    intro ys σ' H' s' J1 q
    obtain ⟨m,hm,_⟩:=id J1.loc
    have J2:Inv X pins σ H' s':=I2.call' (s':=s') (ch:=fp) J1.os ⟨J1.base.keep,J1.base.slot,J1.base.free,J1.base.there,J1.base.tups,J1.base.frzs,J1.base.tbls⟩ J1.hok J1.bare fun b hb=>⟨(f2 b hb).2.2.2.1,(f2 b hb).2.1,(f2 b hb).2.2.2.2.1,(f2 b hb).2.2.2.2.2⟩
    have s0C:X.s₀.heap.objs.size≤P2.objs.size:=Nat.le_trans I2.sz (by rw [hC]; exact Nat.le_succ _)
    have neL:P2.objs.size≠X.env.locals:=Ne.symm (below _ I2.lt).1
    have neC:∀ x c,X.env.cells.lookup x=some c→c≠P2.objs.size:=fun x c e=>by
      obtain ⟨v,o,ho,_⟩:=I2.cell x c e
      exact (below _ (Heap.lt_size ho)).1
    have neP:∀ p∈X.pn++pins,p.1≠P2.objs.size:=fun p hp=>(below _ (Heap.lt_size (I2.pin p hp).1)).1
    refine wpAny_assign_Name (store_ok2 J2 hNd hi0 hy (v:=.ref s2.heap.objs.size) rfl (fun s5 J5 hsb => ?_) hf)
    obtain ⟨a,sb,ha⟩:=hsb
    have nea:P2.objs.size≠a:=by
      rcases ha with rfl | ha
      · exact neL
      · exact Ne.symm (neC _ _ ha)
    refine ⟨m,hm.sameBut sb nea,fun h' sb'=>⟨_,H',?_,q⟩⟩
    exact J5.turned (t':=s5.toks) (fun b o hb e=>(sb'.2 b hb).trans e) J1.free neL (.inr s0C) neC neP
  have loop:codeAny (model X.prog X.w) X.A (.compLoop (.ListComp elt [⟨tg,iter,[cnd],0⟩] scope pos) 0 (.ref it) (.ref s2.heap.objs.size) (compEnvC scope (clo X.env xs) P2.objs.size X.env))
      (compPost (model X.prog X.w) X.A X.xe (some (assign (.Name y py) X.env)) (fun _ s'=>SP X pins D0 .next s') (.ref s2.heap.objs.size) P2.objs.size)
      { s2 with heap:=h₁,toks:=s2.toks + ([]:List (Str × Value)).length }:=by
    refine compLoop_if (fun n s'=>∃ i ys σ' H',σ'.drop k=vs.map some∧Inv (cxCompC X N' scope xs P2.objs.size s2 H2 fp pins) [] σ' H' s'∧tn i s'.heap∧(∀ b∈fp,H' b=none)∧W i n ys H') ?_ m0
      ⟨0,[],List.replicate k none++vs.map some,_,by simp,I',T.keep _ _ _ st2 (fun b hb o e=>old b o e),fun b hb=>by rw [upd_ne (below b (hfp b hb)).2]; exact (f2 b hb).1,w0⟩
    rintro n s3 ⟨i,ys,σ3,H3,hd3,J3,st3,fr3,w3⟩
    obtain ⟨hl,q3⟩:=turn i n ys H3 w3
    rcases q3 with ⟨stop,q⟩ | ⟨go,hlt,step⟩
    · refine thn (T.done (cxCompC X N' scope xs P2.objs.size s2 H2 fp pins) rfl rfl rfl hcalm i [] s3 σ3 H3 _ J3 (stat fr3) st3 stop) fun r s4 ⟨hr,J4⟩ => ?_
      subst hr
      exact fin ys σ3 H3 s4 J4 q
    · refine thn (T.item (cxCompC X N' scope xs P2.objs.size s2 H2 fp pins) rfl rfl rfl hcalm i [] s3 σ3 H3 _ J3 (stat fr3) st3 go) fun r s4 ⟨u,hr,h4⟩ => ?_
      subst hr
      refine thn h4 fun _ s5 ⟨x,H5,J5,r5,y5,st5,fr5⟩ => ?_
      have J5':=J5.pinned (stat fr5) (T.obj _ _ st5)
      have J6:Inv (cxCompC X N' scope xs P2.objs.size s2 H2 fp pins) ([]++pinsAt fp s5.heap) (List.replicate k none++vs.map some) H5 s5:=J5'.weak (by rw [J5'.len]; exact caps_len hvs his hN hk) (caps_keep hd3)
      refine wpAny_mono (hg _ _ _ _ _ _ s5 _ H5 x u _ J6 r5 (step x H5 y5)) (fun _ s6 ⟨σ6,H6,J7,hd6,q6⟩ => ?_) fun _ _ z=>False.elim z
      refine wpAny_mono (ht _ _ _ _ _ _ s6 σ6 H6 _ J7 q6) (fun ok s6b ⟨H6b,J7b,q6b⟩ => ?_) fun _ _ z=>False.elim z
      cases ok with
      | false =>
        rw [if_neg (by decide)]
        rw [if_neg (by decide)] at q6b
        obtain ⟨m',hm',w7⟩:=q6b
        have pk:∀ b∈fp,∀ o,s5.heap.get? b=some o→s6b.heap.get? b=some o∧H6b b=none:=fun b hb o e =>
          let z:=J7b.pin (b,o) (List.mem_append_right _ (List.mem_append_right _ (mem_pinsAt hb e)))
          ⟨z.1,z.2.1⟩
        refine ⟨m',hm',i + 1,ys,σ6,_,hd6,J7b.unpinned,T.keep _ _ _ st5 fun b hb o e=>(pk b hb o e).1,fun b hb => ?_,w7⟩
        obtain ⟨o,e,_⟩:=T.obj _ _ st5 b hb
        exact (pk b hb o e).2
      | true =>
        rw [if_pos rfl]
        rw [if_pos rfl] at q6b
        refine wpAny_mono (he _ _ _ _ _ _ s6b σ6 H6b _ J7b q6b) (fun yv s7 ⟨y,H7,J8,r7,q7⟩ => ?_) fun _ _ z=>False.elim z
        obtain ⟨hl7,m',hm',w7⟩:=q7
        refine wpAny_mono (mt_append (X:=cxCompC X N' scope xs P2.objs.size s2 H2 fp pins) _ s7 σ6 H7 (.ref s2.heap.objs.size) [y] (.ref s2.heap.objs.size) [yv] (fun v H8=>H8=upd H7 s2.heap.objs.size (.lst (ys++[y]))) J8 rfl (.cons r7 .nil) ⟨_,ys,y,rfl,rfl,hl7,hlt,rfl⟩) (fun _ s8 ⟨v8,H8,J9,r8,e8⟩ => ?_) fun _ _ z=>False.elim z
        subst e8
        have pk:∀ b∈fp,∀ o,s5.heap.get? b=some o→s8.heap.get? b=some o∧upd H7 s2.heap.objs.size (.lst (ys++[y])) b=none:=fun b hb o e =>
          let z:=J9.pin (b,o) (List.mem_append_right _ (List.mem_append_right _ (mem_pinsAt hb e)))
          ⟨z.1,z.2.1⟩
        refine ⟨m',hm',i + 1,ys++[y],σ6,_,hd6,J9.unpinned,T.keep _ _ _ st5 fun b hb o e=>(pk b hb o e).1,fun b hb => ?_,w7⟩
        obtain ⟨o,e,_⟩:=T.obj _ _ st5 b hb
        exact (pk b hb o e).2
  exact codeAny_compStart_list loop (T.self X.A 0 { s2 with heap:=h₁,toks:=s2.toks + ([]:List (Str × Value)).length } _ _ (T.keep _ _ _ st2 fun b hb o e=>old b o e) loop)
end
end L2

namespace L2
open PySem PySem.Spec PyProof.Rows
section
variable {X:Cx}
end
end L2

namespace L2
open PySem PySem.Spec PyProof.Rows
section
variable {X:Cx} {pos:Pos}

theorem pg_tupK {K:PySem.W.Frag} {es:List Expr} {k:Nat} {t:TGs} {n:Nat} (hc:X.calm=true) (h:PGs X es t) (hK:X.K=K:=by rfl)
    (hn:(assignEach es X.env).length=n:=by rfl) (hst:(assignEach es X.env).findIdx? (·.1)=none:=by rfl):PG X (.Tuple es k pos) (gTup K n t):=by
  subst hK
  exact pg_tup hc h hn hst
end
end L2

namespace L2
open PySem PySem.Spec PyProof.Rows

def tCut (t:TS):TS:=fun D σ H=>∃ Pv:St→Hp→Prop,t { D with nx:=Pv } σ H∧∀ σ' H',Pv σ' H'→D.nx σ' H'
section
variable {X:Cx} {st:Stmt} {t:TS}
theorem ps_cut (h:PS X st t):PS X st (tCut t):=by
  intro pins s σ H D I ⟨Pv,h1,h2⟩
  refine thn (h pins s σ H { D with nx:=Pv } I h1) fun f s1 q => ?_
  cases f with
  | next =>
    obtain ⟨σ',H',I',q⟩:=q
    exact ⟨σ',H',I',h2 _ _ q⟩
  | ret v=>exact q
  | brk=>exact q
  | cont=>exact q
end
end L2

namespace L2
open PySem PySem.Spec PyProof.Rows
section
variable {prog:Program} {w:World} {A:Around} {E:Value→Shared→Prop} {s:Shared}

end
section
variable {prog:Program} {w:World} {A:Around} {E:Value→Shared→Prop} {s:Shared}
end
section
variable {X:Cx} {tg:Expr}
end
end L2

namespace L2
open PySem PySem.Spec PyProof.Rows
section
variable {K:PySem.W.Frag} {σ0 cs:St} {k:Nat} {g:TG} {te:TE} {tt:TT} {H1:Hp} {Q:VK}
theorem compCI_list {a:Addr} (xs:List V) (Pv:Addr→Nat→List V→Hp→Prop) (hn:xs.length≤sizeLine) (hq:∀ D i ys H,Pv D i ys H→SqL K H a xs)
    (hl:∀ D i ys H,Pv D i ys H→H D=some (.lst ys)∧ys.length≤i) (h0:∀ D,H1 D=none→Pv D 0 [] (upd H1 D (.lst [])))
    (hs:∀ D i x ys H,xs[i]? = some x→H1 D=none→Pv D i ys H→g x σ0 H fun σ2 H3=>σ2.drop k=cs∧tt σ2 H3 fun b H4=>if b=true then te σ2 H4 fun y H5=>H5 D=some (.lst ys)∧Pv D (i + 1) (ys++[y]) (upd H5 D (.lst (ys++[y]))) else Pv D (i + 1) ys H4)
    (hd:∀ D ys H,H1 D=none→Pv D xs.length ys H→Q (.ref D) H) (mono:∀ x σ H (R R':St→Hp→Prop),(∀ σ' H',R σ' H'→R' σ' H')→g x σ H R→g x σ H R')
    (mono2:∀ σ H (R R':VK),(∀ v H',R v H'→R' v H')→te σ H R→te σ H R') (mono3:∀ σ H (R R':Bool→Hp→Prop),(∀ v H',R v H'→R' v H')→tt σ H R→tt σ H R'):compKCI σ0 k cs g tt te Q (Itl K a) H1 :=
  compCI_by xs.length (fun i x=>xs[i]? = some x) Pv hn (fun D i ys H hi p=>⟨xs,xs[i],hq D i ys H p,by simp [hi]⟩) (fun D ys H p=>⟨xs,hq D _ ys H p,Nat.le_refl _⟩)
    (fun D i ys H x H' hi p y=>⟨y.1,y.2 xs (hq D i ys H p)⟩) hl h0 (fun D i x ys H hi hx hD p=>hs D i x ys H hx hD p) hd mono mono2 mono3
end
section
variable {X:Cx} {K:PySem.W.Frag} {o e:Expr} {es:List Expr} {to:TE} {t:TA} {name:Str} {apos cpos:Pos} {T id:String} {r:V→List V→Hp→VK→Prop}
end
end L2

namespace L2
open PySem PySem.Spec PySem.Calls PyProof.Rows
section
variable {X:Cx}
end
section
variable {K:PySem.W.Frag} {σ0 cs:St} {k:Nat} {g:TG} {te:TE} {tt:TT} {H1:Hp} {Q:VK}
theorem compC_gen {n:Nat} {g':Nat→V} (Pv:Addr→Nat→List V→Hp→Prop) (hn:n≤sizeLine)
    (hl:∀ D i ys H,Pv D i ys H→H D=some (.lst ys)∧ys.length≤i) (h0:∀ D,H1 D=none→Pv D 0 [] (upd H1 D (.lst [])))
    (hs:∀ D i ys H,i < n→H1 D=none→Pv D i ys H→g (g' i) σ0 H fun σ2 H3=>σ2.drop k=cs∧te σ2 H3 fun y H4=>H4 D=some (.lst ys)∧Pv D (i + 1) (ys++[y]) (upd H4 D (.lst (ys++[y]))))
    (hd:∀ D ys H,H1 D=none→Pv D n ys H→Q (.ref D) H) (mono:∀ x σ H (R R':St→Hp→Prop),(∀ σ' H',R σ' H'→R' σ' H')→g x σ H R→g x σ H R')
    (mono2:∀ σ H (R R':VK),(∀ v H',R v H'→R' v H')→te σ H R→te σ H R'):compKC σ0 k cs g te Q (Itg n g') H1 :=
  compC_by n (fun i x=>x=g' i) Pv hn (fun D i ys H hi p=>hi) (fun D ys H p=>Nat.le_refl _)
    (fun D i ys H x H' hi p y=>y) hl h0 (fun D i x ys H hi hx hD p=>hx▸hs D i ys H hi hD p) hd mono mono2
theorem compC_range {lo:Int} {n:Nat} (Pv:Addr→Nat→List V→Hp→Prop) (hn:n≤sizeLine)
    (hl:∀ D i ys H,Pv D i ys H→H D=some (.lst ys)∧ys.length≤i) (h0:∀ D,H1 D=none→Pv D 0 [] (upd H1 D (.lst [])))
    (hs:∀ D i ys H,i < n→H1 D=none→Pv D i ys H→g (.int (lo + i)) σ0 H fun σ2 H3=>σ2.drop k=cs∧te σ2 H3 fun y H4=>H4 D=some (.lst ys)∧Pv D (i + 1) (ys++[y]) (upd H4 D (.lst (ys++[y]))))
    (hd:∀ D ys H,H1 D=none→Pv D n ys H→Q (.ref D) H) (mono:∀ x σ H (R R':St→Hp→Prop),(∀ σ' H',R σ' H'→R' σ' H')→g x σ H R→g x σ H R')
    (mono2:∀ σ H (R R':VK),(∀ v H',R v H'→R' v H')→te σ H R→te σ H R'):compKC σ0 k cs g te Q (Itr lo n) H1 :=
  compC_by n (fun i x=>x=.int (lo + i)) Pv hn (fun D i ys H hi p=>hi) (fun D ys H p=>Nat.le_refl _)
    (fun D i ys H x H' hi p y=>y) hl h0 (fun D i x ys H hi hx hD p=>hx▸hs D i ys H hi hD p) hd mono mono2
end
end L2

namespace L2
open PySem PySem.Spec PySem.Calls PyProof.Rows
section
variable {X:Cx} {K:PySem.W.Frag}
theorem op_in_seqK (hK:X.K=K:=by rfl):OpR X (compareOp .In) (rIn K false):=hK▸op_in_seq
end
end L2

namespace L2
open PySem PySem.Spec PySem.Calls PyProof.Rows

structure RoomH (k:Nat) (A:Around):Prop where
  dp:A.depth + 3 * k + 5 < recursionLimit
  un:A.units + 16 * k + 200 < cLine
theorem RoomH.mono {j k:Nat} {A:Around} (r:RoomH k A) (h:j≤k):RoomH j A:=⟨by have:=r.dp; omega,by have:=r.un; omega⟩

theorem Room.inX {k:Nat} {X:Cx} {e:Addr} (r:Room k X.A):RoomH k (Xs X e).A:=⟨r.dp,r.un⟩
structure FnOkH (P:Program) (w:World) (K:PySem.W.Frag) (mg:Str→Option Value) (base:Heap) (CX:CXT) (k:Nat) (f:Addr) (fd:FuncData) (ps:List Str) (sp:Sp):Prop where
  len:∀ vs H Q E,sp vs H Q E→vs.length=ps.length
  run:∀ (A:Around) (outer:List Env) (s:Shared) (H:Hp) (args:Args) (us:List Value) (vs:List V) (Q:VK) (E:XK),RoomH k A→Env0 P w K mg base A outer s H→BindsTo s fd args (ps.zip us)→Vals vs us→sp vs H Q E →
    codeAny (model P w) A (.call (.ref f) args) (CR CX outer P w H s Q E) s
abbrev cxH (CX:CXT) (P:Program) (w:World) (K:PySem.W.Frag) (mg:Str→Option Value) (base:Heap) (N:List Str) (qual:Str) (scope:Scope) (f:Addr) (cd:Value) (A:Around) (outer:List Env) (s:Shared) (H:Hp) (E:XK):Cx :=
  { cxOf CX P w K mg base N qual scope f cd A outer s H E with calm:=false }
theorem inv_startH {CX:CXT} {P:Program} {w:World} {K:PySem.W.Frag} {mg:Str→Option Value} {base:Heap} {N ps:List Str} {qual:Str} {scope:Scope} {f:Addr} {cd:Value} {A:Around} {outer:List Env} {s s1:Shared} {H:Hp} {E:XK} {us:List Value} {vs:List V}
    (S:FnScope N ps scope) (e0:Env0 P w K mg base A outer s H) (hl:vs.length=ps.length) (r:Vals vs us)
    (x:InCallC s s.heap.objs.size (bindL (envOfC qual scope s.heap.objs.size f cd).kindOf (ps.zip us) fun _=>none) (cellsFrom (s.heap.objs.size + 1) scope.names []) (bindC (envOfC qual scope s.heap.objs.size f cd).kindOf (ps.zip us) fun _=>none) s1) :
    Inv (cxH CX P w K mg base N qual scope f cd A outer s H E) [] (start N vs) H s1:=by
  have e0':Env0 P w K mg base { A with handled:=none } outer s H:=⟨e0.frames,e0.mod,e0.bs,e0.bsz,e0.funs,e0.frf,e0.hok,e0.bare⟩
  have I:Inv (cxOf CX P w K mg base N qual scope f cd { A with handled:=none } outer s H E) [] (start N vs) H s1:=inv_start S rfl e0' hl r x
  exact ⟨⟨I.ok.mod,I.ok.kind,I.ok.glob,I.ok.blt,I.ok.above,I.ok.inj,I.ok.has,I.ok.cab,(fun z=>nomatch z),Around.frames_deeper e0.frames,I.ok.stk,I.ok.exf,I.ok.bs,I.ok.bsz,I.ok.noex,I.ok.exfs,I.ok.funs,I.ok.frf⟩,I.os,I.bare,I.base,I.loc,I.cell,I.free,I.freeC,I.pin,I.hok,I.len⟩
theorem fnH_of {CX:CXT} {P:Program} {w:World} {K:PySem.W.Frag} {mg:Str→Option Value} {base:Heap} {k:Nat} {f:Addr} {name qual:Str} {params:Arguments} {body:List Stmt} {scope:Scope} {dV kV doc pm cdv ct oc:Value} {an od:Option Addr}
    {osl:Array (Option Value)} {N ps:List Str} {sp:Sp} (lk:K.lookup f=some ⟨oc,od,.func (PySem.W.fnOf name qual params body scope dV kV doc pm an cdv ct),osl⟩) (hcd:PySem.W.codeIn K cdv qual=true) (S:FnScope N ps scope)
    (len:∀ vs H Q E,sp vs H Q E→vs.length=ps.length)
    (hbody:∀ (A:Around) (outer:List Env) (s:Shared) (H:Hp) (vs:List V) (Q:VK) (E:XK),RoomH k (A.deeper (envOfC qual scope s.heap.objs.size f cdv))→sp vs H Q E →
      ∃ t,PSs (cxH CX P w K mg base N qual scope f cdv A outer s H E) body t∧t { nx:=fun _ H'=>Q .non H',rt:=Q } (start N vs) H) :
    FnOkH P w K mg base CX (k + 1) f (PySem.W.fnOf name qual params body scope dV kV doc pm an cdv ct) ps sp:=by
  refine ⟨len,fun A outer s H args us vs Q E hr e0 hb r hsp => ?_⟩
  have hl:=len _ _ _ _ hsp
  have KX:K.In s.heap:=e0.mod.kin.keeps fun b o e=>(e0.bs b o e).1
  have lim:s.heap.NoLimit:=e0.mod.nolimit.keeps fun b o e=>(e0.bs b o e).1
  have hkind:∀ y∈ps.zip us,scope.names.lookup y.1=some .local∨(scope.names.lookup y.1=some .cell∧((cellsFrom (s.heap.objs.size + 1) scope.names []).lookup y.1).isSome=true):=fun ⟨n,v⟩ hy=>by
    rcases S.par n (List.of_mem_zip hy).1 with q | q
    · exact .inl q
    · exact .inr ⟨q,PySem.W.cellsFrom_some _ _ _ (.inl q)⟩
  have dpt:A.depth < recursionLimit:=by have:=hr.dp; omega
  have rd:RoomH k (A.deeper (envOfC qual scope s.heap.objs.size f cdv)):=⟨by have:=hr.dp; show A.depth + 1 + 3 * k + 5 < _; omega,by have:=hr.un; show A.units + 3 + 16 * k + 200 < _; omega⟩
  refine codeAny_call_function dpt (KX _ _ lk) rfl S.co S.gen rfl (PySem.W.codeRec_of KX hcd) (hb _ _ _ _ ?_)
  refine wpAny_newFunctionEnv_cells S.kind hkind fun env he s1 x => ?_
  subst he
  refine ⟨lim.keeps x.toInCall.keep,codeAny_func ?_⟩
  obtain ⟨t,ht,hq⟩:=hbody A outer s H vs Q E rd hsp
  have I:Inv (cxH CX P w K mg base N qual scope f cdv A outer s H E) [] (start N vs) H s1:=inv_startH S e0 hl r x
  refine wpAny_mono (ht [] s1 (start N vs) H _ I hq) (fun fl s' hs => ?_) fun e s' hs=>hs
  have fin:∀ {σ':St} {H':Hp} {v:V} {u:Value},Inv (cxH CX P w K mg base N qual scope f cdv A outer s H E) [] σ' H' s'→RelV v u→Q v H'→CE outer P w H s Q u s' :=
    fun {σ' H' v u} J rv q=>⟨v,H',J.os,J.bare,J.base,J.hok,rv,q⟩
  cases fl with
  | ret u =>
    obtain ⟨v,σ',H',J,rv,q⟩:=hs
    exact fin J rv q
  | next =>
    obtain ⟨σ',H',J,q⟩:=hs
    exact fin (v:=V.non) (u:=Value.none) J rfl q
  | brk =>
    obtain ⟨_,_,_,q⟩:=hs
    exact False.elim q
  | cont =>
    obtain ⟨_,_,_,q⟩:=hs
    exact False.elim q
section
variable {P:Program} {w:World} {K:PySem.W.Frag} {mg:Str→Option Value} {base:Heap}
theorem FunD.okH {x qual:Str} {st:Stmt} {f:Addr} {fd:FuncData} {dV:Value} {N ps:List Str} {k:Nat} {sp:Sp} {CX:CXT} (F:FunD K x qual st f fd dV) (S:FnScope N ps (defScope st)) (len:∀ vs H Q E,sp vs H Q E→vs.length=ps.length)
    (hbody:∀ (cdv:Value) (A:Around) (outer:List Env) (s:Shared) (H:Hp) (vs:List V) (Q:VK) (E:XK),RoomH k (A.deeper (envOfC qual (defScope st) s.heap.objs.size f cdv))→sp vs H Q E →
      ∃ t,PSs (cxH CX P w K mg base N qual (defScope st) f cdv A outer s H E).nox (defBody st) t∧t { nx:=fun _ H'=>Q .non H',rt:=Q } (start N vs) H):FnOkH P w K mg base CX (k + 1) f fd ps sp:=by
  obtain ⟨oc,od,kV,doc,pm,an,cdv,ct,osl,rfl,lk,hcd⟩:=F.ex
  refine fnH_of lk hcd S len fun A outer s H vs Q E hr hsp => ?_
  obtain ⟨t,h,q⟩:=hbody cdv A outer s H vs Q E hr hsp
  exact ⟨t,h.nox,q⟩
structure FokH (P:Program) (w:World) (K:PySem.W.Frag) (mg:Str→Option Value) (base:Heap) (CX:CXT) (j:Nat) (x:Str) (ps:List Str) (sp:Sp):Prop where
  ex:∃ f fd,FnOkH P w K mg base CX j f fd ps sp∧Binds K fd ps []∧PySem.W.keepIn K (.ref f)=true∧mg x=some (.ref f)
theorem fokH {CX:CXT} {j:Nat} {x qual:Str} {st:Stmt} {f:Addr} {fd:FuncData} {dV:Value} {ps:List Str} {sp:Sp} (F:FunD K x qual st f fd dV) (G:FnOkH P w K mg base CX j f fd ps sp) (b:Binds K fd ps []) (m:mg x=some (.ref f)) :
    FokH P w K mg base CX j x ps sp:=⟨f,fd,G,b,F.kp,m⟩
end
section
variable {X:Cx} {CX:CXT} {j k:Nat} {ps:List Str} {sp:Sp} {x:Str} {p pos:Pos} {e:Expr} {es:List Expr} {t:TA}
theorem pe_callH (F:FokH X.prog X.w X.K X.mg X.base CX j x ps sp) (q:Quiet CX) (hr:RoomH k X.A) (ha:PA X (e::es) t) (hj:j≤k:=by decide) (hg:Gl X x:=by rfl)
    (hdb:(x == ("__debug__" : Str))=false:=by decide) (he:starEach (e::es) X.env=(false,eval e X.env)::starEach es X.env:=by rfl) (hpl:(backTo pos (starEach es X.env)).any (·.1)=false:=by rfl) :
    PE X (.Call (.Name x p) (e::es) [] pos) (tCall sp [] E0 t):=by
  obtain ⟨f,fd,G,b,kp,m⟩:=F.ex
  intro pins s σ H Q I h
  refine wpAny_Call_Name_kw (ld_glob I hg m ?_ hdb)
  refine PySem.W.callWith_K (h₀:=X.base) I.ok.mod.kin kp (thn (ha pos pins s σ H _ I h) fun us s1 ⟨vs,H1,I1,r,z⟩=>⟨I1.kIn,?_⟩) he hpl
  have r2:Vals (vs++[]) (us++[]):=by simpa using r
  have hl:(us++([]:List Value)).length=ps.length:=by rw [← r2.length]; exact G.len _ _ _ _ z
  refine wpAny_call (codeAny_mono (G.run X.A X.stack s1 H1 ⟨us,[]⟩ (us++[]) (vs++[]) Q E0 (hr.mono hj) I1.env0 (b s1 us I1.kIn hl) r2 z) fun r s' hq => ?_)
  cases r with
  | error e=>exact (q _ _ _ _ _ hq).elim
  | ok fl =>
    cases fl with
    | ret u=>exact I1.after hq
    | next=>exact False.elim hq
    | brk=>exact False.elim hq
    | cont=>exact False.elim hq

end
end L2


namespace Qs
open PySem L2
theorem len_eq (z:Str):z.length=z.cps.toList.length:=by
  show z.cps.size=z.cps.toList.length
  rw [Array.length_toList]

def IsC (z:Str):Prop:=∀ c∈z.cps.toList,48≤c∧c≤51
def dig (z:Str):List Nat:=z.cps.toList.map (· - 48)
theorem dig_len (z:Str):(dig z).length=z.length:=by simp [dig,len_eq]
theorem dig_at {z:Str} {i:Nat} (h:i < z.length):(dig z)[i]? = some (z.cps.getD i 0 - 48):=by
  have h':i < z.cps.size:=h
  simp [dig,Array.getD_eq_getD_getElem?,h']
theorem sgn_in {z:Str} {i:Nat} (hz:IsC z) (h:i < z.length):48≤z.cps.getD i 0∧z.cps.getD i 0≤51:=by
  have h':i < z.cps.size:=h
  refine hz _ ?_
  have e:z.cps.getD i 0=z.cps[i]:=by simp [Array.getD_eq_getD_getElem?,h']
  rw [e]
  exact Array.getElem_mem_toList h'

def one (d:Nat):Str:=⟨#[48 + d]⟩
theorem sgn_one {z:Str} {i:Nat} (hz:IsC z) (h:i < z.length):∃ d,d < 4∧sgn z i=one d∧z.cps.getD i 0 - 48=d:=by
  obtain ⟨h1,h2⟩:=sgn_in hz h
  refine ⟨z.cps.getD i 0 - 48,by omega,?_,rfl⟩
  unfold sgn one
  have e:48 + (z.cps.getD i 0 - 48)=z.cps.getD i 0:=by omega
  rw [e]
theorem four {P:Nat→Prop} (h0:P 0) (h1:P 1) (h2:P 2) (h3:P 3) {d:Nat} (h:d < 4):P d:=by
  rcases d with _ | _ | _ | _ | d
  · exact h0
  · exact h1
  · exact h2
  · exact h3
  · omega
theorem IsC.nil:IsC ⟨#[]⟩:=fun c h=>by simp at h
theorem IsC.app {a b:Str} (ha:IsC a) (hb:IsC b):IsC (a++b):=fun c h=>by
  have e:(a++b).cps.toList=a.cps.toList++b.cps.toList:=by
    show (a.cps++b.cps).toList=_
    simp
  rw [e] at h
  rcases List.mem_append.mp h with h | h
  · exact ha c h
  · exact hb c h
theorem IsC.one {d:Nat} (h:d < 4):IsC (one d):=fun c hc=>by
  have e:c=48 + d:=by simpa [Qs.one] using hc
  omega
end Qs

namespace L2
open PySem PySem.Spec PyProof.Rows
section
variable {X:Cx}
theorem pe_gint {x:Str} {i:Int} {pos:Pos} (h:∃ t,X.mg x=some (.int i t)) (hg:Gl X x:=by rfl) (hd:(x == ("__debug__" : Str))=false:=by decide):PE X (.Name x pos) (tC (.int i)):=by
  obtain ⟨t,h⟩:=h
  exact pe_glob hg h ⟨t,rfl⟩ hd
theorem pe_gstr {x z:Str} {pos:Pos} (h:∃ t,X.mg x=some (.str z t)) (hg:Gl X x:=by rfl) (hd:(x == ("__debug__" : Str))=false:=by decide):PE X (.Name x pos) (tC (.str z)):=by
  obtain ⟨t,h⟩:=h
  exact pe_glob hg h ⟨t,rfl⟩ hd
end
section
variable {X:Cx}
theorem pe_bty {x:Str} {n:String} {pos:Pos} (hm:X.mg x=none) (hv:bootBuiltins x=some (.type n)) (hg:Gl X x:=by rfl) (hn:x ≠ "__name__" := by decide) (hd:(x == ("__debug__" : Str))=false:=by decide):PE X (.Name x pos) (tC (.ty n)) :=
  pe_bltn hg hm hv rfl hn hd
theorem nd1 (x:Str):[x].Nodup:=by simp
end

theorem comp_of {n:Nat} {g':Nat→V} {g:TG} {te:TE} {N':List Str} {H1:Hp} {Q:VK} (F:Nat→V) (hn:n≤sizeLine)
    (hs:∀ i H' R,i < n→R (F i) H'→g (g' i) (List.replicate N'.length none) H' fun σ2 H3=>te σ2 H3 R) (hd:∀ D,H1 D=none→Q (.ref D) (upd H1 D (.lst ((List.range n).map F)))) :
    compK N' g te Q (Itg n g') H1:=by
  intro D hD
  refine ⟨fun i m ys H2=>m=n - i∧i≤n∧ys=(List.range i).map F∧H2=upd H1 D (.lst ys),⟨n,rfl,Nat.zero_le _,rfl,rfl⟩,?_⟩
  rintro i m ys H2 ⟨rfl,hi,rfl,rfl⟩
  refine ⟨upd_same,?_⟩
  by_cases hlt:i < n
  · refine .inr ⟨hlt,by simp; omega,fun x H' y => ?_⟩
    obtain ⟨e,y⟩:=y
    subst e y
    refine hs i _ _ hlt ⟨upd_same,n - (i + 1),by omega,rfl,hlt,?_,?_⟩
    · rw [List.range_succ,List.map_append]; rfl
    · rw [upd_upd]
  · have e:i=n:=by omega
    subst e
    exact .inl ⟨Nat.le_refl _,hd D hD⟩
theorem Same.new {H:Hp} {p:Addr} (h:H p=none) (o:HO):Same H (upd H p o):=fun b u q=>by rw [upd_ne (ne_of_none q h)]; exact q
theorem Same.set {H:Hp} {H':Hp} {p:Addr} (h:Same H H') (hp:H p=none) (o:HO):Same H (upd H' p o):=fun b u q=>by rw [upd_ne (ne_of_none q hp)]; exact h b u q
theorem small {n:Nat} (h:n≤1000):n≤sizeLine:=Nat.le_of_lt (small1000 h)
end L2

namespace L2
open PySem PySem.Spec PyProof.Rows
def notStar:PySem.Expr→Bool
  | .Starred _ _=>false
  | _=>true
theorem star_of {e:PySem.Expr} {es:List PySem.Expr} {env:Env} (h:notStar e=true):starEach (e::es) env=(false,eval e env)::starEach es env:=by
  cases e <;> first | rfl | (cases h)
theorem pa_c {X:Cx} {e:PySem.Expr} {es:List PySem.Expr} {te:TE} {t:TA} (ha:PE X e te) (hr:PA X es t) (h:notStar e=true:=by rfl):PA X (e::es) (tCons te t):=pa_cons ha hr (star_of h)
end L2
namespace L2
open PySem PySem.Spec PyProof.Rows
end L2
namespace L2
open PySem PySem.Spec PyProof.Rows

structure PAx (X:Cx) (es:List PySem.Expr) (t:TA):Prop where
  h:PA X es t
section
variable {X:Cx} {e:PySem.Expr} {es:List PySem.Expr} {te:TE} {t:TA} {pos:Pos}
theorem pax_nil:PAx X [] tNil:=⟨pa_nil⟩
theorem pax_c (ha:PE X e te) (hr:PAx X es t) (h:notStar e=true:=by rfl):PAx X (e::es) (tCons te t):=⟨pa_c ha hr.h h⟩
theorem pe_tupx {x1} (h:PAx X es t):PE X (.Tuple es x1 pos) (tTup t):=pe_tup h.h
theorem pe_lstx (h:PAx X es t):PE X (.List es pos) (tLst t):=pe_lst h.h
end
end L2

namespace L2
open PySem PySem.Spec PySem.Calls PyProof.Rows

def constV:PySem.Expr→Option V
  | .Constant (.int i) _ _=>some (.int i)
  | .Constant (.bool b) _ _=>some (.bl b)
  | .Constant .none _ _=>some .non
  | .Constant (.str x) _ _=>some (.str x)
  | _=>none
def constVs:List PySem.Expr→Option (List V)
  | []=>some []
  | e::es=>match constV e with
    | none=>none
    | some v=>match constVs es with
      | none=>none
      | some vs=>some (v::vs)
section
variable {X:Cx}
theorem const_pe {e:PySem.Expr} {v:V} (h:constV e=some v):PE X e (tC v)∧notStar e=true:=by
  unfold constV at h
  split at h
  · cases h; exact ⟨pe_int,rfl⟩
  · cases h; exact ⟨pe_bl,rfl⟩
  · cases h; exact ⟨pe_non,rfl⟩
  · cases h; exact ⟨pe_str,rfl⟩
  · cases h
def tPre (vs:List V) (t:TA):TA:=fun σ H Q=>t σ H fun xs H'=>Q (vs++xs) H'
def tKs (vs:List V):TA:=fun _ H Q=>Q vs H
theorem pa_pre:∀ (es1 es2:List PySem.Expr) (vs:List V) (t:TA),constVs es1=some vs→PA X es2 t→PA X (es1++es2) (tPre vs t)
  | [],es2,vs,t,h,k=>by
    have e:vs=[]:=(Option.some.inj h).symm
    subst e
    intro pos pins s σ H Q I q
    exact k pos pins s σ H _ I q
  | e::es1,es2,vs,t,h,k=>by
    unfold constVs at h
    split at h
    · cases h
    · rename_i v hv
      split at h
      · cases h
      · rename_i ws hw
        cases h
        obtain ⟨h1,h2⟩:=const_pe (X:=X) hv
        intro pos pins s σ H Q I q
        exact pa_c h1 (pa_pre es1 es2 ws t hw k) h2 pos pins s σ H Q I q
theorem pax_k {es:List PySem.Expr} {vs:List V} {t:TA} (n:Nat) (hk:constVs (es.take n)=some vs) (hr:PAx X (es.drop n) t):PAx X es (tPre vs t):=⟨by
  have h:=pa_pre (X:=X) (es.take n) (es.drop n) vs t hk hr.h
  rw [List.take_append_drop] at h
  exact h⟩
theorem pax_all {es:List PySem.Expr} {vs:List V} (hk:constVs es=some vs):PAx X es (tKs vs):=⟨by
  have h:=pa_pre (X:=X) es [] vs tNil hk pa_nil
  rw [List.append_nil] at h
  intro pos pins s σ H Q I q
  refine h pos pins s σ H Q I ?_
  show Q (vs++[]) H
  rw [List.append_nil]; exact q⟩
end
def notComp:PySem.Expr→Bool
  | .ListComp _ _ _ _=>false
  | .SetComp _ _ _ _=>false
  | .DictComp _ _ _ _ _=>false
  | _=>true
theorem swaps_of {e:PySem.Expr} {t:Option PySem.Expr} {l:Nat} {env:Env} (h:notComp e=true):swapsWith e t l env=pure false:=by
  cases e <;> first | rfl | (cases h)

structure PEx (X:Cx) (e:PySem.Expr) (t:TE):Prop where
  h:PE X e t
structure PSx (X:Cx) (st:Stmt) (t:TS):Prop where
  h:PS X st t
structure PSsx (X:Cx) (st:List Stmt) (t:TS):Prop where
  h:PSs X st t
section
variable {X:Cx} {st:Stmt} {rest:List Stmt} {t u:TS}
theorem pssx_one (h:PSx X st t):PSsx X [st] t:=⟨pss_one h.h⟩
theorem pssx_cons (h1:PSx X st t) (h2:PSsx X rest u):PSsx X (st::rest) (tSeq t u):=⟨pss_cons h1.h h2.h⟩
theorem pex_lst {es:List PySem.Expr} {ta:TA} {pos:Pos} (h:PAx X es ta):PEx X (.List es pos) (tLst ta):=⟨pe_lst h.h⟩
theorem psx_set {i:Nat} {x:Str} {es:List PySem.Expr} {lp:Pos} {te:TE} {pos pos':Pos} (hN:X.N.Nodup) (hi:X.N[i]? = some x) (hx:Loc X.env.scope x) (he:PEx X (.List es lp) te)
    (hf:X.fn x=true∨X.env.scope.names.lookup x=some .local:=by first | exact .inl rfl | exact .inr rfl | assumption):PSx X (.Assign [.Name x pos'] (.List es lp) pos) (tAsg te (gName i)) :=
  ⟨ps_set hN hi hx he.h (swaps_of rfl) hf⟩
end
section
variable {P:Program} {w:World} {K:PySem.W.Frag} {mg:Str→Option Value} {base:Heap}
theorem FunD.oks {x qual:Str} {st:Stmt} {f:Addr} {fd:FuncData} {dV:Value} {N ps:List Str} {k:Nat} {sp:Sp} {CX:CXT} (F:FunD K x qual st f fd dV) (S:FnScope N ps (defScope st)) (len:∀ vs H Q E,sp vs H Q E→vs.length=ps.length)
    (hbody:∀ (cdv:Value) (A:Around) (outer:List Env) (s:Shared) (H:Hp) (vs:List V) (Q:VK) (E:XK),Room k (A.deeper (envOfC qual (defScope st) s.heap.objs.size f cdv))→sp vs H Q E →
      ∃ t,PSsx (cxOf CX P w K mg base N qual (defScope st) f cdv A outer s H E).nox (defBody st) t∧t { nx:=fun _ H'=>Q .non H',rt:=Q } (start N vs) H):FnOk P w K mg base CX (k + 1) f fd ps sp :=
  F.ok S len fun cdv A outer s H vs Q E hr h=>by
    obtain ⟨t,h1,h2⟩:=hbody cdv A outer s H vs Q E hr h
    exact ⟨t,h1.h,h2⟩
theorem FunD.okHs {x qual:Str} {st:Stmt} {f:Addr} {fd:FuncData} {dV:Value} {N ps:List Str} {k:Nat} {sp:Sp} {CX:CXT} (F:FunD K x qual st f fd dV) (S:FnScope N ps (defScope st)) (len:∀ vs H Q E,sp vs H Q E→vs.length=ps.length)
    (hbody:∀ (cdv:Value) (A:Around) (outer:List Env) (s:Shared) (H:Hp) (vs:List V) (Q:VK) (E:XK),RoomH k (A.deeper (envOfC qual (defScope st) s.heap.objs.size f cdv))→sp vs H Q E →
      ∃ t,PSsx (cxH CX P w K mg base N qual (defScope st) f cdv A outer s H E).nox (defBody st) t∧t { nx:=fun _ H'=>Q .non H',rt:=Q } (start N vs) H):FnOkH P w K mg base CX (k + 1) f fd ps sp :=
  F.okH S len fun cdv A outer s H vs Q E hr h=>by
    obtain ⟨t,h1,h2⟩:=hbody cdv A outer s H vs Q E hr h
    exact ⟨t,h1.h,h2⟩
end
end L2

namespace L2
open PySem PySem.Spec PySem.Calls PyProof.Rows
section
variable {X:Cx}

end

namespace HT
section
variable {prog:Program} {w:World} {A:Around} {E:Value→Shared→Prop} {s:Shared}
end
end HT
section
variable {X:Cx}
end

section
variable {X:Cx}
theorem pax_cx {e:PySem.Expr} {es:List PySem.Expr} {te:TE} {t:TA} (ha:PEx X e te) (hr:PAx X es t) (h:notStar e=true:=by rfl):PAx X (e::es) (tCons te t):=pax_c ha.h hr h
theorem pex_tup {es:List PySem.Expr} {ta:TA} {x1} {pos:Pos} (h:PAx X es ta):PEx X (.Tuple es x1 pos) (tTup ta):=⟨pe_tup h.h⟩
end
end L2

namespace L2
open PySem PySem.Spec PySem.Calls PyProof.Rows
section
variable {K:PySem.W.Frag} {σ0 cs:St} {k:Nat} {g:TG} {te:TE} {H1:Hp} {Q:VK}

end
section
variable {X:Cx}

end
end L2

namespace L2
open PySem PySem.Spec PySem.Calls PyProof.Rows

section
variable {prog:Program} {w:World} {A:Around} {E:Value→Shared→Prop} {s:Shared}
end


section
variable {X:Cx} {pins:List (Addr × Obj)} {σ:St}
end
end L2

namespace L2
open PySem PySem.Spec PySem.Calls PyProof.Rows PySem.W


section
variable {N:Nat} {f:Nat→Int}

end
end L2

namespace L2
open PySem PySem.Spec PySem.Calls PyProof.Rows PySem.W

section
variable {prog:Program} {w:World} {A:Around} {E:Value→Shared→Prop} {s:Shared}

end
end L2

namespace L2
open PySem PySem.Spec PySem.Calls PyProof.Rows PySem.W

theorem bt_sorted:bootBuiltins "sorted" = some (.builtin "sorted"):=by decide +kernel
section
variable {X:Cx} {pins:List (Addr × Obj)} {σ:St} {H H':Hp} {s:Shared} {h':Heap}

theorem sortedHeap_keep {h:Heap} {vs:List Value} {out:Array Value} {b:Addr} {o:Obj} (e:h.get? b=some o):(sortedHeap (h.push (seqObj "list" vs.toArray 0)) h.objs.size vs out).get? b=some o:=by
  rw [sortedHeap_old (Nat.ne_of_lt (Heap.lt_size e)) (by rw [size_push']; exact Nat.lt_succ_of_lt (Heap.lt_size e))]
  exact Heap.get?_push_of_some _ e
theorem sortedHeap_is {h:Heap} {vs:List Value} {out:Array Value}:∃ n,(sortedHeap (h.push (seqObj "list" vs.toArray 0)) h.objs.size vs out).get? h.objs.size=some (seqObj "list" out n) :=
  sortedHeap_at (n:=0) (Heap.get?_push_size _ rfl)

end
end L2

namespace L2
open PySem PySem.Spec PySem.Calls PyProof.Rows

section
variable {X:Cx}
end
end L2

namespace L2
open PySem PySem.Spec PySem.Calls PyProof.Rows PySem.W

def Zs (Z:List (Addr × Obj)) (outer:List Env) (s:Shared) (H:Hp):Prop:=∀ q∈Z,s.heap.get? q.1=some q.2∧H q.1=none∧q.1∉frs outer

structure FnOkZ (Z:List (Addr × Obj)) (P:Program) (w:World) (K:PySem.W.Frag) (mg:Str→Option Value) (base:Heap) (CX:CXT) (k:Nat) (f:Addr) (fd:FuncData) (ps:List Str) (sp:Sp):Prop where
  len:∀ vs H Q E,sp vs H Q E→vs.length=ps.length
  run:∀ (A:Around) (outer:List Env) (s:Shared) (H:Hp) (args:Args) (us:List Value) (vs:List V) (Q:VK) (E:XK),Room k A→Env0 P w K mg base A outer s H→Zs Z outer s H→BindsTo s fd args (ps.zip us)→Vals vs us→sp vs H Q E →
    codeAny (model P w) A (.call (.ref f) args) (CR CX outer P w H s Q E) s
section
variable {X:Cx} {pins:List (Addr × Obj)} {σ:St} {H:Hp} {s:Shared} {Z:List (Addr × Obj)}
theorem Inv.zs (I:Inv X pins σ H s) (hz:Zs Z X.outer X.s₀ X.H₀) (hx:X.ex=[]):Zs Z X.stack s H:=fun q hq=>by
  obtain ⟨h1,h2,h3⟩:=hz q hq
  have nx:q.1∉X.ex:=by rw [hx]; simp
  refine ⟨I.base.keep _ _ h1 h2 h3 nx,I.base.free _ _ h1 h2 nx,fun z => ?_⟩
  rcases I.ok.stk with e | ⟨e,ef⟩
  · rw [e] at z; exact h3 z
  · rw [e] at z
    have z':q.1=X.env.locals∨q.1∈frs X.outer:=by
      have:frs (X.env::X.outer)=X.env.locals::frs X.outer:=by unfold frs; rw [List.filterMap_cons,ef]
      rw [this] at z
      exact List.mem_cons.mp z
    rcases z' with z' | z'
    · have:=Nat.lt_of_lt_of_le (Heap.lt_size h1) I.ok.above
      rw [z'] at this
      exact Nat.lt_irrefl _ this
    · exact h3 z'
end

theorem fnZ_of {Z:List (Addr × Obj)} {CX:CXT} {P:Program} {w:World} {K:PySem.W.Frag} {mg:Str→Option Value} {base:Heap} {k:Nat} {f:Addr} {name qual:Str} {params:Arguments} {body:List Stmt} {scope:Scope} {dV kV doc pm cdv ct oc:Value} {an od:Option Addr}
    {osl:Array (Option Value)} {N ps:List Str} {sp:Sp} (lk:K.lookup f=some ⟨oc,od,.func (PySem.W.fnOf name qual params body scope dV kV doc pm an cdv ct),osl⟩) (hcd:PySem.W.codeIn K cdv qual=true) (S:FnScope N ps scope)
    (len:∀ vs H Q E,sp vs H Q E→vs.length=ps.length)
    (hbody:∀ (A:Around) (outer:List Env) (s:Shared) (H:Hp) (vs:List V) (Q:VK) (E:XK),Room k (A.deeper (envOfC qual scope s.heap.objs.size f cdv))→Zs Z outer s H→sp vs H Q E →
      ∃ t,PSs (cxOf CX P w K mg base N qual scope f cdv A outer s H E) body t∧t { nx:=fun _ H'=>Q .non H',rt:=Q } (start N vs) H) :
    FnOkZ Z P w K mg base CX (k + 1) f (PySem.W.fnOf name qual params body scope dV kV doc pm an cdv ct) ps sp:=by
  refine ⟨len,fun A outer s H args us vs Q E hr e0 hz hb r hsp => ?_⟩
  have hl:=len _ _ _ _ hsp
  have KX:K.In s.heap:=e0.mod.kin.keeps fun b o e=>(e0.bs b o e).1
  have lim:s.heap.NoLimit:=e0.mod.nolimit.keeps fun b o e=>(e0.bs b o e).1
  have hkind:∀ y∈ps.zip us,scope.names.lookup y.1=some .local∨(scope.names.lookup y.1=some .cell∧((cellsFrom (s.heap.objs.size + 1) scope.names []).lookup y.1).isSome=true):=fun ⟨n,v⟩ hy=>by
    rcases S.par n (List.of_mem_zip hy).1 with q | q
    · exact .inl q
    · exact .inr ⟨q,PySem.W.cellsFrom_some _ _ _ (.inl q)⟩
  refine codeAny_call_function hr.depth (KX _ _ lk) rfl S.co S.gen rfl (PySem.W.codeRec_of KX hcd) (hb _ _ _ _ ?_)
  refine wpAny_newFunctionEnv_cells S.kind hkind fun env he s1 x => ?_
  subst he
  refine ⟨lim.keeps x.toInCall.keep,codeAny_func ?_⟩
  obtain ⟨t,ht,hq⟩:=hbody A outer s H vs Q E (hr.deeper _) hz hsp
  have I:Inv (cxOf CX P w K mg base N qual scope f cdv A outer s H E) [] (start N vs) H s1:=inv_start S hr.hd e0 hl r x
  refine wpAny_mono (ht [] s1 (start N vs) H _ I hq) (fun fl s' hs => ?_) fun e s' hs=>hs
  have fin:∀ {σ':St} {H':Hp} {v:V} {u:Value},Inv (cxOf CX P w K mg base N qual scope f cdv A outer s H E) [] σ' H' s'→RelV v u→Q v H'→CE outer P w H s Q u s' :=
    fun {σ' H' v u} J rv q=>⟨v,H',J.os,J.bare,J.base,J.hok,rv,q⟩
  cases fl with
  | ret u =>
    obtain ⟨v,σ',H',J,rv,q⟩:=hs
    exact fin J rv q
  | next =>
    obtain ⟨σ',H',J,q⟩:=hs
    exact fin (v:=V.non) (u:=Value.none) J rfl q
  | brk =>
    obtain ⟨_,_,_,q⟩:=hs
    exact False.elim q
  | cont =>
    obtain ⟨_,_,_,q⟩:=hs
    exact False.elim q
section
variable {P:Program} {w:World} {K:PySem.W.Frag} {mg:Str→Option Value} {base:Heap} {Z:List (Addr × Obj)}
theorem FunD.okZ {x qual:Str} {st:Stmt} {f:Addr} {fd:FuncData} {dV:Value} {N ps:List Str} {k:Nat} {sp:Sp} {CX:CXT} (F:FunD K x qual st f fd dV) (S:FnScope N ps (defScope st)) (len:∀ vs H Q E,sp vs H Q E→vs.length=ps.length)
    (hbody:∀ (cdv:Value) (A:Around) (outer:List Env) (s:Shared) (H:Hp) (vs:List V) (Q:VK) (E:XK),Room k (A.deeper (envOfC qual (defScope st) s.heap.objs.size f cdv))→Zs Z outer s H→sp vs H Q E →
      ∃ t,PSs (cxOf CX P w K mg base N qual (defScope st) f cdv A outer s H E).nox (defBody st) t∧t { nx:=fun _ H'=>Q .non H',rt:=Q } (start N vs) H):FnOkZ Z P w K mg base CX (k + 1) f fd ps sp:=by
  obtain ⟨oc,od,kV,doc,pm,an,cdv,ct,osl,rfl,lk,hcd⟩:=F.ex
  refine fnZ_of lk hcd S len fun A outer s H vs Q E hr hz hsp => ?_
  obtain ⟨t,h,q⟩:=hbody cdv A outer s H vs Q E hr hz hsp
  exact ⟨t,h.nox,q⟩
end

def FokZ (Z:List (Addr × Obj)) (P:Program) (w:World) (K:PySem.W.Frag) (mg:Str→Option Value) (base:Heap) (CX:CXT) (k:Nat) (x:Str) (ps:List Str) (sp:Sp):Prop :=
  ∃ f fd,FnOkZ Z P w K mg base CX k f fd ps sp∧Binds K fd ps []∧PySem.W.keepIn K (.ref f)=true∧mg x=some (.ref f)
section
variable {X:Cx} {CX:CXT} {k j:Nat} {f:Addr} {fd:FuncData} {ps:List Str} {sp:Sp} {x:Str} {p pos:Pos} {e:Expr} {es:List Expr} {t:TA} {Z:List (Addr × Obj)}
theorem run_fnZ {pins:List (Addr × Obj)} {σ:St} {H:Hp} {s:Shared} {Q:VK} {us:List Value} {vs:List V} {E:XK} (F:FnOkZ Z X.prog X.w X.K X.mg X.base CX k f fd ps sp) (hr:Room k X.A) (hb:BindsTo s fd ⟨us,[]⟩ (ps.zip us)) (hx:Passes CX X E)
    (I:Inv X pins σ H s) (hz:Zs Z X.stack s H) (r:Vals vs us) (h:sp vs H Q E):wpAny (model X.prog X.w) X.A (call (.ref f) us) (EP X pins σ Q) X.xe s:=by
  refine wpAny_call (codeAny_mono (F.run X.A X.stack s H ⟨us,[]⟩ us vs Q E hr I.env0 hz hb r h) fun r s' hq => ?_)
  cases r with
  | error e=>exact hx pins σ H s e s' I hq
  | ok fl =>
    cases fl with
    | ret u=>exact I.after hq
    | next=>exact False.elim hq
    | brk=>exact False.elim hq
    | cont=>exact False.elim hq
end

def cxLam (CX:CXT) (P:Program) (w:World) (K:PySem.W.Frag) (mg:Str→Option Value) (base:Heap) (N:List Str) (qual:Str) (scope:Scope) (f:Addr) (cd:Value) (cl:List (Str × Addr)) (A:Around) (outer:List Env) (s:Shared) (H:Hp) (E:XK):Cx where
  prog:=P
  w:=w
  K:=K
  mg:=mg
  base:=base
  A:=A.deeper (envX qual scope s.heap.objs.size f cd cl)
  N:=N
  s₀:=s
  H₀:=H
  env:=envX qual scope s.heap.objs.size f cd cl
  outer:=outer
  stack:=envX qual scope s.heap.objs.size f cd cl::outer
  ex:=[]
  calm:=true
  fn:=fun _=>false
  pn:=[]
  xe:=fun e s'=>wpAny (model P w) (A.deeper (envX qual scope s.heap.objs.size f cd cl)) (leaving (envX qual scope s.heap.objs.size f cd cl) e) (fun _ s''=>CX outer H s E e s'') (fun e' s''=>CX outer H s E e' s'') s'

structure LamScope (ps caps:List Str) (scope:Scope):Prop where
  kind:scope.kind=.function
  gen:scope.isGenerator=false
  co:scope.isCoroutine=false
  nd:ps.Nodup
  loc:∀ x∈ps,scope.names.lookup x=some .local
  nocell:∀ y∈scope.names,y.2≠.cell
  free:∀ y∈scope.names,y.2=.free→y.1∈caps
  caps:∀ x∈caps,scope.names.lookup x=some .free
theorem zip_rev_lookup:∀ {ps:List Str} {us:List Value} {i:Nat} {x:Str} {u:Value},ps.Nodup→ps[i]? = some x→us[i]? = some u→((ps.zip us).reverse.lookup x)=some u
  | [],_,_,_,_,_,h,_=>by simp at h
  | _::_,[],_,_,_,_,_,h=>by simp at h
  | p::ps,w::us,i,x,u,nd,h1,h2=>by
    have nd':=List.nodup_cons.mp nd
    rw [List.zip_cons_cons,List.reverse_cons,List.lookup_append]
    rcases i with _ | i
    · have e1:p=x:=by simpa using h1
      have e2:w=u:=by simpa using h2
      subst e1
      subst e2
      have n:(ps.zip us).reverse.lookup p=none:=by
        rw [List.lookup_eq_none_iff]
        intro y hy
        have hy':=List.mem_reverse.mp hy
        have:=(List.of_mem_zip hy').1
        simp only [bne_iff_ne,ne_eq,beq_eq_false_iff_ne]
        first | (intro z; exact nd'.1 (z▸this)) | (intro z; rw [z] at nd'; exact nd'.1 this)
      rw [n]
      simp
    · rw [zip_rev_lookup nd'.2 (by simpa using h1) (by simpa using h2)]
      rfl
theorem inv_lam {CX:CXT} {P:Program} {w:World} {K:PySem.W.Frag} {mg:Str→Option Value} {base:Heap} {ps caps:List Str} {qual:Str} {scope:Scope} {f:Addr} {cd:Value} {cl:List (Str × Addr)} {A:Around} {outer:List Env} {s:Shared} {H:Hp} {E:XK} {us:List Value} {vs ws:List V} {h':Heap} {tk:Nat}
    (S:LamScope ps caps scope) (hd:A.handled=none) (e0:Env0 P w K mg base A outer s H) (hl:vs.length=ps.length) (r:Vals vs us) (hw:ws.length=caps.length)
    (apart:∀ x y c,cl.lookup x=some c→cl.lookup y=some c→x=y) (hcl:∀ (i:Nat) (x:Str),caps[i]? = some x→∃ c u v,cl.lookup x=some c∧ws[i]? = some v∧RelV v u∧s.heap.IsCell c (some u))
    (hcells:∀ x c,cl.lookup x=some c→(∃ v,s.heap.IsCell c v)∧H c=none)
    (hns:h'.Ns s.heap.objs.size (fun x=>(ps.zip us).reverse.lookup x)) (hk:∀ b o,s.heap.get? b=some o→h'.get? b=some o) :
    Inv (cxLam CX P w K mg base (ps++caps) qual scope f cd cl A outer s H E) [] (vs.map some++ws.map some) H { s with heap:=h',toks:=tk }:=by
  have noA:∀ b:Addr,b∉(cxLam CX P w K mg base (ps++caps) qual scope f cd cl A outer s H E).ex:=fun b z=>absurd (show b∈([]:List Addr) from z) (by simp)
  refine ⟨⟨e0.mod,S.kind,rfl,rfl,Nat.le_refl _,fun y z c h1 h2=>apart y z c h1 h2,fun y hy => ?_,fun y c hf _=>absurd (show false=true from hf) (by decide),fun _=>hd,Around.frames_deeper e0.frames,.inr ⟨rfl,rfl⟩,fun b z=>absurd z (noA b),e0.bs,e0.bsz,fun b _ _=>noA b,fun b z=>absurd z (noA b),e0.funs,e0.frf⟩,
    rfl,e0.bare,Un.kept hk,⟨_,hns,fun i y v h1 h2 h3 => ?_⟩,fun y c h => ?_,e0.hok.fresh (Nat.le_refl _),fun y c h=>(hcells y c h).2,fun p hp=>absurd (show p∈([]:List (Addr × Obj)) from hp) (by simp),e0.hok.kept hk,?_⟩
  · have hy:scope.names.lookup y=some .cell∨scope.names.lookup y=some .free:=hy
    rcases hy with hy | hy
    · exact absurd rfl (S.nocell _ (PySem.mem_of_lookup hy))
    · have hm:=S.free _ (PySem.mem_of_lookup hy) rfl
      obtain ⟨i,hi⟩:=List.getElem?_of_mem hm
      obtain ⟨c,_,_,e,_⟩:=hcl i y hi
      exact ⟨c,e⟩
  · by_cases hi:i < vs.length
    · rw [List.getElem?_append_left (by simpa using hi),List.getElem?_map] at h2
      have ha:vs[i]? = some v:=by
        cases e:vs[i]? with
        | none=>rw [e] at h2; cases h2
        | some a=>rw [e] at h2; cases h2; rfl
      obtain ⟨u,hu,rv⟩:=r.get ha
      have hp:ps[i]? = some y:=by
        have h1':(ps++caps)[i]? = some y:=h1
        rw [List.getElem?_append_left (by omega)] at h1'
        exact h1'
      exact ⟨u,rv,.inl ⟨S.loc y (List.mem_of_getElem? hp),zip_rev_lookup S.nd hp hu⟩⟩
    · have h1':(ps++caps)[i]? = some y:=h1
      rw [List.getElem?_append_right (by omega)] at h1'
      rw [List.getElem?_append_right (by simpa using hi),List.length_map,List.getElem?_map] at h2
      obtain ⟨c,u,v',e1,e2,e3,e4⟩:=hcl _ y h1'
      rw [hl,e2] at h2
      cases h2
      exact ⟨u,e3,.inr ⟨.inr (S.caps y (List.mem_of_getElem? h1')),c,e1,e4.keeps hk⟩⟩
  · obtain ⟨⟨v,hv⟩,_⟩:=hcells y c h
    exact ⟨v,hv.keeps hk⟩
  · show _=(ps++caps).length
    rw [List.length_append,List.length_map,List.length_map,List.length_append,hl,hw]


def codeE (c:Addr) (qual:Str):HO:=.ext fun h=>h.CodeRec (.ref c) qual

def isE (a:Addr) (o:Obj):HO:=.ext fun h=>h.get? a=some o
theorem isE_ok {P:Program} {w:World} {H:Hp} {h:Heap} {a:Addr} {o:Obj} (e:h.get? a=some o):ObjOk P w H h a (isE a o):=⟨e,⟨o,e⟩,fun _ _ e1 k=>k _ e1⟩
theorem codeE_ok {P:Program} {w:World} {H:Hp} {h:Heap} {c:Addr} {qual:Str} (e:h.CodeRec (.ref c) qual):ObjOk P w H h c (codeE c qual):=by
  refine ⟨e,?_,fun h1 h2 e1 k => ?_⟩
  · obtain ⟨_,o,vs,t,z,ho,_⟩:=e
    cases z
    exact ⟨o,ho⟩
  · obtain ⟨_,o,vs,t,z,ho,r⟩:=e1
    cases z
    exact ⟨c,o,vs,t,rfl,k _ ho,r⟩

structure CellsZ (Z:List (Addr × Obj)) (cl:List (Str × Addr)) (caps:List Str) (ws:List V):Prop where
  hw:ws.length=caps.length
  apart:∀ x y c,cl.lookup x=some c→cl.lookup y=some c→x=y
  hcl:∀ (i:Nat) (x:Str),caps[i]? = some x→∃ c u v o,cl.lookup x=some c∧ws[i]? = some v∧RelV v u∧(c,o)∈Z∧o.data=.cell (some u)
  hall:∀ x c,cl.lookup x=some c→∃ o v,(c,o)∈Z∧o.data=.cell v

theorem lam_of {Z:List (Addr × Obj)} {CX:CXT} {P:Program} {w:World} {K:PySem.W.Frag} {mg:Str→Option Value} {base:Heap} {k:Nat} {fa c':Addr} {name qual:Str} {params:Arguments} {body:Expr} {scope:Scope} {cl:List (Str × Addr)} {pm ctv:Value} {ps caps:List Str} {ws:List V} {sp:Sp}
    (S:LamScope ps caps scope) (C:CellsZ Z cl caps ws)
    (len:∀ vs H Q E,sp vs H Q E→vs.length=ps.length) (hcode:∀ vs H Q E,sp vs H Q E→H c'=some (codeE c' qual)∧H fa=some (isE fa (kla_obj name qual params body scope cl pm c' ctv)))
    (hbody:∀ (A:Around) (outer:List Env) (s:Shared) (H:Hp) (vs:List V) (Q:VK) (E:XK),Room k (A.deeper (envX qual scope s.heap.objs.size fa (.ref c') cl))→Zs Z outer s H→sp vs H Q E →
      ∃ t,PE (cxLam CX P w K mg base (ps++caps) qual scope fa (.ref c') cl A outer s H E) body t∧t (vs.map some++ws.map some) H Q) :
    FnOkZ Z P w K mg base CX (k + 1) fa (kla_fn name qual params body scope cl pm (.ref c') ctv) ps sp:=by
  refine ⟨len,fun A outer s H args us vs Q E hr e0 hz hb r hsp => ?_⟩
  have hl:=len _ _ _ _ hsp
  have lim:s.heap.NoLimit:=e0.mod.nolimit.keeps fun b o e=>(e0.bs b o e).1
  have cr:s.heap.CodeRec (.ref c') qual:=(e0.hok c' _ (hcode _ _ _ _ hsp).1).1
  have ho:s.heap.get? fa=some (kla_obj name qual params body scope cl pm c' ctv):=(e0.hok fa _ (hcode _ _ _ _ hsp).2).1
  refine kla_callFunE hr.depth ho rfl S.co S.gen rfl cr (hb _ _ _ _ ?_)
  refine wpAny_newFunctionEnv S.nocell (fun y hy => ?_) (fun h' hns hsb=>⟨lim.fresh _ hsb,?_⟩) S.kind
  · exact S.loc y.1 (List.of_mem_zip (a:=y.1) (b:=y.2) hy).1
  have hk:∀ b o,s.heap.get? b=some o→h'.get? b=some o:=fun b o e=>hsb.extBut b o (Nat.ne_of_lt (Heap.lt_size e)) (Heap.get?_push_of_some _ e)
  refine kla_codeExpr ?_
  obtain ⟨t,ht,hq⟩:=hbody A outer s H vs Q E (hr.deeper _) hz hsp
  have I:=inv_lam (CX:=CX) (E:=E) (qual:=qual) (f:=fa) (cd:=.ref c') (tk:=s.toks + (ps.zip us).length) S hr.hd e0 hl r C.hw C.apart (fun i x hx=>by
    obtain ⟨c,u,v,o,h1,h2,h3,h4,h5⟩:=C.hcl i x hx
    exact ⟨c,u,v,h1,h2,h3,o,(hz _ h4).1,h5⟩) (fun x c e=>by
    obtain ⟨o,v,h1,h2⟩:=C.hall x c e
    exact ⟨⟨v,o,(hz _ h1).1,h2⟩,(hz _ h1).2.1⟩) hns hk
  refine wpAny_mono (ht [] _ _ H _ I hq) (fun u s' hs => ?_) fun e s' hs=>hs
  obtain ⟨v,H',J,rv,q⟩:=hs
  exact ⟨v,H',J.os,J.bare,J.base,J.hok,rv,q⟩
section
variable {X:Cx} {CX:CXT} {k j:Nat} {f:Addr} {fd:FuncData} {ps:List Str} {sp:Sp} {x:Str} {p pos:Pos} {e:Expr} {es:List Expr} {t:TA} {Z:List (Addr × Obj)}

def tCallL (is:List Nat) (W:List V→Prop) (sp:List V→Sp) (t:TA):TE:=fun σ H Q=>∃ ws:List V,is.map (fun i=>σ[i]?)=ws.map (fun v=>some (some v))∧W ws∧t σ H fun vs H1=>sp ws vs H1 Q E0
theorem mem_clo {env:Env} {y:Str × Addr}:∀ {xs:List Str},y∈clo env xs→y.1∈xs∧y.2=(env.cells.lookup y.1).getD 0:=fun {xs} h=>by
  unfold clo at h
  obtain ⟨x,hx,rfl⟩:=List.mem_map.mp h
  exact ⟨hx,rfl⟩
theorem capsL_nil {env:Env} {xs:List Str}:∀ x∈([]:List Str),(env.kindOf x=some .cell∧Vis env.scope x)∧x∈xs:=fun _ h=>by cases h
theorem capsL_cons {env:Env} {xs:List Str} {x:Str} {r:List Str} (h1:env.kindOf x=some .cell) (h2:Vis env.scope x) (h3:x∈xs) (h:∀ y∈r,(env.kindOf y=some .cell∧Vis env.scope y)∧y∈xs):∀ y∈x::r,(env.kindOf y=some .cell∧Vis env.scope y)∧y∈xs:=fun y hy=>by
  rcases List.mem_cons.mp hy with rfl | hy
  · exact ⟨⟨h1,h2⟩,h3⟩
  · exact h y hy
theorem cells_of {pins:List (Addr × Obj)} {σ:St} {H:Hp} {s:Shared} {xs caps:List Str} {is:List Nat} {ws:List V} (I:Inv X pins σ H s) (hin:(xs.all fun x=>(X.env.cells.lookup x).isSome)=true) (hfn:∀ x,X.fn x=true)
    (hcap:∀ x∈caps,(X.env.kindOf x=some .cell∧Vis X.env.scope x)∧x∈xs) (his:is.map (X.N[·]?)=caps.map some) (hws:is.map (fun i=>σ[i]?)=ws.map (fun v=>some (some v))) :
    ∃ Z,CellsZ Z (clo X.env xs) caps ws∧Zs Z X.stack s H:=by
  have hlook:∀ x c,(clo X.env xs).lookup x=some c→X.env.cells.lookup x=some c:=fun x c e=>clo_sub hin e
  refine ⟨(clo X.env xs).filterMap fun q=>(s.heap.get? q.2).map fun o=>(q.2,o),⟨?_,fun x y c e1 e2=>I.ok.inj x y c (hlook x c e1) (hlook y c e2),fun i x hx => ?_,fun x c e => ?_⟩,fun q hq => ?_⟩
  · have h1:=congrArg List.length his
    have h2:=congrArg List.length hws
    simp only [List.length_map] at h1 h2
    omega
  · obtain ⟨⟨hk,hv⟩,hm⟩:=hcap x (List.mem_of_getElem? hx)
    have q1:=congrArg (·[i]?) his
    have q2:=congrArg (·[i]?) hws
    simp only [List.getElem?_map,hx,Option.map_some] at q1 q2
    cases z:is[i]? with
    | none=>rw [z] at q1; cases q1
    | some n =>
      rw [z] at q1 q2
      have q1':X.N[n]? = some x:=Option.some.inj q1
      cases z2:ws[i]? with
      | none=>rw [z2] at q2; cases q2
      | some v =>
        rw [z2] at q2
        have q2':σ[n]? = some (some v):=Option.some.inj q2
        obtain ⟨m,hn,hl⟩:=I.loc
        obtain ⟨u,rv,l⟩:=hl n x v q1' q2' hv
        rcases l with ⟨kl,_⟩ | ⟨_,c,e,o,ho,hd⟩
        · rw [hk] at kl; cases kl
        · refine ⟨c,u,v,o,clo_of hm e,rfl,rv,List.mem_filterMap.mpr ⟨(x,c),?_,by simp [ho]⟩,hd⟩
          exact PySem.mem_of_lookup (clo_of hm e)
  · obtain ⟨v,o,ho,hd⟩:=I.cell x c (hlook x c e)
    exact ⟨o,v,List.mem_filterMap.mpr ⟨(x,c),PySem.mem_of_lookup e,by simp [ho]⟩,hd⟩
  · obtain ⟨y,hy,e⟩:=List.mem_filterMap.mp hq
    obtain ⟨o,ho,e'⟩:=Option.map_eq_some_iff.mp e
    subst e'
    obtain ⟨m1,m2⟩:=mem_clo hy
    have is:=List.all_eq_true.mp hin _ m1
    obtain ⟨c,hc⟩:=Option.isSome_iff_exists.mp is
    rw [hc] at m2
    have m2':y.2=c:=m2
    rw [m2'] at ho ⊢
    refine ⟨ho,I.freeC _ _ hc,fun z => ?_⟩
    rcases List.mem_cons.mp (I.stkSub _ z) with z | z
    · exact I.cne _ _ hc z
    · obtain ⟨_,o',ho',_⟩:=I.ok.funs.mem z
      exact absurd (Nat.lt_of_lt_of_le (Heap.lt_size ho') (I.ok.cab _ _ (hfn _) hc)) (Nat.lt_irrefl _)
theorem pe_callL (xs caps:List Str) (is:List Nat) {W:List V→Prop} {sp:List V→Sp} (F:∀ Z ws,W ws→CellsZ Z (clo X.env xs) caps ws→FokZ Z X.prog X.w X.K X.mg X.base CX j x ps (sp ws)) (q:Quiet CX) (hr:Room k X.A) (hin:(xs.all fun x=>(X.env.cells.lookup x).isSome)=true)
    (hcap:∀ x∈caps,(X.env.kindOf x=some .cell∧Vis X.env.scope x)∧x∈xs) (his:is.map (X.N[·]?)=caps.map some) (ha:PA X (e::es) t) (hj:j≤k:=by decide) (hfn:∀ x,X.fn x=true:=by intro _; rfl) (hg:Gl X x:=by rfl)
    (hdb:(x == ("__debug__" : Str))=false:=by decide) (he:starEach (e::es) X.env=(false,eval e X.env)::starEach es X.env:=by rfl) (hpl:(backTo pos (starEach es X.env)).any (·.1)=false:=by rfl) :
    PE X (.Call (.Name x p) (e::es) [] pos) (tCallL is W sp t):=by
  intro pins s σ H Q I h
  obtain ⟨ws,hws,hW,h⟩:=h
  obtain ⟨Z0,cz0,zs0⟩:=cells_of I hin hfn hcap his hws
  obtain ⟨f,fd,G0,hb,hk,hm⟩:=F Z0 ws hW cz0
  refine wpAny_Call_Name_kw (ld_glob I hg hm ?_ hdb)
  refine PySem.W.callWith_K (h₀:=X.base) I.ok.mod.kin hk (thn (ha pos pins s σ H _ I h) fun us s1 ⟨vs,H1,I1,r,q1⟩=>⟨I1.kIn,?_⟩) he hpl
  obtain ⟨Z,cz,zs⟩:=cells_of I1 hin hfn hcap his hws
  obtain ⟨f',fd',G,hb2,hk2,hm2⟩:=F Z ws hW cz
  have ef:f'=f:=by rw [hm2] at hm; cases hm; rfl
  subst ef
  have q2:sp ws vs H1 Q E0:=q1
  have hl:(us++[]).length=ps.length:=by rw [List.append_nil,← r.length]; exact G.len _ _ _ _ q2
  have hb':=hb2 s1 us I1.kIn hl
  rw [List.append_nil] at hb'
  exact run_fnZ G (hr.mono hj) hb' (passQ q) I1 zs r q2
end

def TabOk (H:Hp) (P:Addr) (qual:Str):Prop:=∃ ps:Array Value,H P=some (.tbl ps)∧TriplesOk ps.toList∧∀ pos cv,codeAmong pos ps.toList=some cv→∃ c',cv=.ref c'∧H c'=some (codeE c' qual)
def Tabs (T:List (Addr × Str)) (H:Hp):Prop:=∀ q∈T,TabOk H q.1 q.2

def SameT (T:List (Addr × Str)) (H H':Hp):Prop:=∀ b o,H b=some o→b∉T.map (·.1)→H' b=some o
theorem Same.toT {T:List (Addr × Str)} {H H':Hp} (s:Same H H'):SameT T H H':=fun b o e _=>s b o e
theorem SameT.trans {T:List (Addr × Str)} {H H1 H2:Hp} (a:SameT T H H1) (b:SameT T H1 H2):SameT T H H2:=fun c o h n=>b c o (a c o h n) n
theorem Same.tabs {T:List (Addr × Str)} {H H':Hp} (s:Same H H') (t:Tabs T H):Tabs T H':=fun q hq=>by
  obtain ⟨ps,h1,h2,h3⟩:=t q hq
  refine ⟨ps,s _ _ h1,h2,fun pos cv e => ?_⟩
  obtain ⟨c',e1,e2⟩:=h3 pos cv e
  exact ⟨c',e1,s _ _ e2⟩

theorem Tabs.apart {T:List (Addr × Str)} {H:Hp} {b:Addr} {o:HO} (t:Tabs T H) (e:H b=some o) (n:∀ ps,o≠.tbl ps):b∉T.map (·.1):=fun hm=>by
  obtain ⟨q,hq,rfl⟩:=List.mem_map.mp hm
  obtain ⟨ps,h1,_⟩:=t q hq
  rw [e] at h1
  cases h1
  exact n ps rfl
theorem SameT.keep {T:List (Addr × Str)} {H H':Hp} {b:Addr} {o:HO} (s:SameT T H H') (t:Tabs T H) (e:H b=some o) (n:∀ ps,o≠.tbl ps):H' b=some o:=s b o e (t.apart e n)
theorem codeAmong_more {pos pos':Pos} {c cv:Value} (l:List Value) (h:TriplesOk l) (e:codeAmong pos (l++[rawInt pos'.line,rawInt pos'.col,c])=some cv):codeAmong pos l=some cv∨cv=c:=by
  fun_induction TriplesOk l with
  | case1 =>
    simp only [List.nil_append,rawInt,codeAmong] at e
    split at e
    · exact .inr (Option.some.inj e).symm
    · cases e
  | case2 a t b u x rest ih =>
    simp only [List.cons_append,codeAmong] at e ⊢
    split at e
    · rename_i hc
      rw [if_pos hc]
      exact .inl e
    · rename_i hc
      rw [if_neg hc]
      exact ih h e
  | case3 l h1 h2=>exact h.elim

def BMain (mg:Str→Option Value) (h:Heap):Prop:=∃ bm ob,mg "__builtins__" = some (.ref bm)∧bm≠builtinsNs∧h.get? bm=some ob∧ob.cls=.type "module" ∧ ob.dict=some builtinsNs∧ob.data=.plain

def tLam (T:List (Addr × Str)) (qual:Str) (mk:Addr→Value→Obj):TE:=fun _ H Q=>Tabs T H∧∀ fa c' ctv H',H fa=none→H' fa=some (isE fa (mk c' ctv))→H' c'=some (codeE c' qual)→Tabs T H'→SameT T H H'→Q (.ref fa) H'
section
variable {X:Cx}
theorem pe_lam {params:Arguments} {body:Expr} {scope:Scope} {pos:Pos} {T:List (Addr × Str)} {c P:Addr} {qual:Str} (xs:List Str) (hB:BMain X.mg X.base) (hC:CodeHd X.base c P) (hcode:X.env.code=.ref c) (hT:(P,qual)∈T) (hnd:(T.map (·.1)).Nodup) (hq:X.env.qual ++ "<lambda>" = qual)
    (hclos:closureFor scope X.env=pure (clo X.env xs)) (hdef:defaultsOf params X.env=([],[]):=by rfl) :
    PE X (.Lambda params body scope pos) (tLam T qual fun c' ctv=>kla_obj "<lambda>" qual params body scope (clo X.env xs) ((X.mg "__name__").getD .none) c' ctv):=by
  intro pins s σ H Q I h
  obtain ⟨hTab,h⟩:=h
  obtain ⟨ps,hP,ht,hall⟩:=hTab (P,qual) hT
  have hPh:s.heap.get? P=some (tabObj ps):=I.hok P _ hP
  have hgs:s.heap.Ns mainGlobals X.mg:=I.ok.mod.glob.keeps I.bk
  have hgP:mainGlobals≠P:=fun q=>by
    obtain ⟨o,es,ep,e,hd,_⟩:=hgs
    rw [q,hPh] at e; cases e; cases hd
  obtain ⟨bm,ob,b1,b2,b3,b4,b5,b6⟩:=hB
  have b3':=I.bk _ _ b3
  have hbP:bm≠P:=fun q=>by
    rw [q,hPh] at b3'; cases b3'; cases b4
  have hbG:bm≠mainGlobals:=fun q=>by
    obtain ⟨o,es,ep,e,hd,_⟩:=hgs
    rw [q,e] at b3'; cases b3'; rw [hd] at b6; cases b6
  have hbt:s.heap.BuiltinsAt X.mg P:=⟨bm,ob,b1,b2,hbG,hbP,b3',b4,b5,b6⟩
  refine kla_eval hdef ?_
  rw [hq]
  cases hf:codeAmong pos ps.toList with
  | none =>
    refine kla_makeFunction hclos I.ok.glob hgs hcode (hC.keeps I.bk) hPh ht hf hgP hbt fun c' ctv h' tk hx hge hlt hrec htb => ?_
    generalize hob:kla_obj "<lambda>" qual params body scope (clo X.env xs) ((X.mg "__name__").getD .none) c' ctv=ob'
    have hPs:P < s.heap.objs.size:=Heap.lt_size hPh
    have hcP:c'≠P:=Nat.ne_of_gt (Nat.lt_of_lt_of_le hPs hge)
    have hfs:s.heap.objs.size≤h'.objs.size:=Nat.le_of_lt (Nat.lt_of_le_of_lt hge hlt)
    have hfP:h'.objs.size≠P:=Nat.ne_of_gt (Nat.lt_of_lt_of_le hPs hfs)
    have hfc:h'.objs.size≠c':=Nat.ne_of_gt hlt
    have nfa:H h'.objs.size=none:=I.hok.fresh hfs
    have nc:H c'=none:=I.hok.fresh hge
    have old:∀ b o,b≠P→s.heap.get? b=some o→(h'.push ob').get? b=some o:=fun b o hb e=>Heap.get?_push_of_some _ (hx b o hb e)
    let H':Hp:=upd (upd (upd H P (.tbl (ps ++ #[rawInt pos.line,rawInt pos.col,.ref c']))) c' (codeE c' qual)) h'.objs.size (isE h'.objs.size ob')
    have e1:H' h'.objs.size=some (isE h'.objs.size ob'):=upd_same
    have e2:H' c'=some (codeE c' qual):=by show upd _ _ _ _=_; rw [upd_ne (Ne.symm hfc),upd_same]
    have e3:H' P=some (.tbl (ps ++ #[rawInt pos.line,rawInt pos.col,.ref c'])):=by show upd _ _ _ _=_; rw [upd_ne (Ne.symm hfP),upd_ne (Ne.symm hcP),upd_same]
    have e4:∀ b,b≠P→b≠c'→b≠h'.objs.size→H' b=H b:=fun b n1 n2 n3=>by show upd _ _ _ _=_; rw [upd_ne n3,upd_ne n2,upd_ne n1]
    have e5:∀ b o,H b=some o→b≠P→H' b=some o:=fun b o e n=>by rw [e4 b n (ne_of_none e nc) (ne_of_none e nfa)]; exact e
    have hrec':(h'.push ob').CodeRec (.ref c') qual:=by
      obtain ⟨c₂,o₂,vs₂,t₂,z,g₂,r₂⟩:=hrec
      exact ⟨c₂,o₂,vs₂,t₂,z,Heap.get?_push_of_some _ g₂,r₂⟩
    have obf:ob'.isFreed=false:=by rw [← hob]; rfl
    have J:Inv X pins σ H' { s with heap:=h'.push ob',toks:=tk }:=by
      refine I.un ⟨fun b u q n _ _=>old b u (fun z=>by rw [z,hP] at n; cases n) q,fun b u q n _ _=>⟨u.slots,old b u (fun z=>by rw [z,hP] at n; cases n) q⟩,fun b u q n _ => ?_,fun b u q _ => ?_,fun b xs q=>e5 b _ q (fun z=>by rw [z,hP] at q; cases q),fun b u xs q=>e5 b _ q (fun z=>by rw [z,hP] at q; cases q),fun b qs q => ?_⟩ fun b u q => ?_
      · have hb:=Heap.lt_size q
        rw [e4 b (fun z=>by rw [z,hP] at n; cases n) (Nat.ne_of_lt (Nat.lt_of_lt_of_le hb hge)) (Nat.ne_of_lt (Nat.lt_of_lt_of_le hb hfs))]
        exact n
      · by_cases hb:b=P
        · rw [hb]; exact ⟨_,Heap.get?_push_of_some _ htb⟩
        · exact ⟨u,old b u hb q⟩
      · by_cases hb:b=P
        · rw [hb,hP] at q; cases q
          exact ⟨_,by rw [hb]; exact e3⟩
        · exact ⟨#[],by rw [e5 b _ q hb]; simp⟩
      · by_cases h1:b=h'.objs.size
        · subst h1
          rw [e1] at q; cases q
          exact isE_ok (Heap.get?_push_size _ obf)
        · by_cases h2:b=c'
          · subst h2
            rw [e2] at q; cases q
            exact codeE_ok hrec'
          · by_cases h3:b=P
            · subst h3
              rw [e3] at q; cases q
              exact Heap.get?_push_of_some _ htb
            · rw [e4 b h3 h2 h1] at q
              refine (I.hok b u q).stay (fun d v hd r=>old d v ?_ r) (fun d r=>e5 d _ r fun z=>by rw [z,hP] at r; cases r) fun d xs r=>e5 d _ r fun z=>by rw [z,hP] at r; cases r
              rcases hd with rfl | hd
              · exact h3
              · intro z; rw [z,hP] at hd; cases hd
    refine ⟨.ref h'.objs.size,H',J,rfl,h _ c' ctv H' nfa (by dsimp only; rw [hob]; exact e1) e2 (fun q hq => ?_) fun b o e n=>e5 b o e fun z=>n (by rw [z]; exact List.mem_map.mpr ⟨_,hT,rfl⟩)⟩
    by_cases hqP:q.1=P
    · have hq2:q=(P,qual):=by
        have:∀ (l:List (Addr × Str)),(l.map (·.1)).Nodup→q∈l→(P,qual)∈l→q.1=P→q=(P,qual):=by
          intro l
          induction l with
          | nil=>intro _ h; cases h
          | cons y r ih =>
            intro nd h1 h2 h3
            rw [List.map_cons,List.nodup_cons] at nd
            rcases List.mem_cons.mp h1 with z1 | z1
            · rcases List.mem_cons.mp h2 with z2 | z2
              · exact z1.trans z2.symm
              · exact absurd (List.mem_map.mpr ⟨_,z2,by rw [← z1]; exact h3.symm⟩) nd.1
            · rcases List.mem_cons.mp h2 with z2 | z2
              · exact absurd (List.mem_map.mpr ⟨_,z1,by rw [← z2]; exact h3⟩) nd.1
              · exact ih nd.2 z1 z2 h3
        exact this T hnd hq hT hqP
      subst hq2
      refine ⟨_,e3,?_,fun pos' cv e => ?_⟩
      · rw [Array.toList_append]; exact TriplesOk_snoc _ _ _ _ ht
      · rw [Array.toList_append] at e
        rcases codeAmong_more _ ht e with e | e
        · obtain ⟨d,z1,z2⟩:=hall _ _ e
          exact ⟨d,z1,e5 d _ z2 fun z=>by rw [z,hP] at z2; cases z2⟩
        · exact ⟨c',e,e2⟩
    · obtain ⟨qs,g1,g2,g3⟩:=hTab q hq
      refine ⟨qs,e5 _ _ g1 hqP,g2,fun pos' cv e => ?_⟩
      obtain ⟨d,z1,z2⟩:=g3 _ _ e
      exact ⟨d,z1,e5 d _ z2 fun z=>by rw [z,hP] at z2; cases z2⟩
  | some cv =>
    obtain ⟨c',rfl,hc'⟩:=hall _ _ hf
    refine kla_makeFunctionHit hclos I.ok.glob hgs hcode (hC.keeps I.bk) hPh ht hf hbt fun ctv h' tk hk hsz => ?_
    show EP X pins σ Q (.ref h'.objs.size) { s with heap:=h'.push (kla_obj "<lambda>" qual params body scope (clo X.env xs) ((X.mg "__name__").getD .none) c' ctv),toks:=tk }
    generalize hob:kla_obj "<lambda>" qual params body scope (clo X.env xs) ((X.mg "__name__").getD .none) c' ctv=ob'
    have obf:ob'.isFreed=false:=by rw [← hob]; rfl
    have nfa:H h'.objs.size=none:=I.hok.fresh hsz
    have sm:Same H (upd H h'.objs.size (isE h'.objs.size ob')):=fun b o e=>by rw [upd_ne (ne_of_none e nfa)]; exact e
    refine ⟨.ref h'.objs.size,_,I.laid (a:=h'.objs.size) (o:=isE h'.objs.size ob') (h':=h'.push ob') (t':=tk) (fun b u e=>Heap.get?_push_of_some _ (hk b u e)) hsz (isE_ok (Heap.get?_push_size _ obf)),rfl,h _ c' ctv _ nfa (by dsimp only; rw [hob]; exact upd_same) (sm _ _ hc') (sm.tabs hTab) sm.toT⟩
end


theorem law_callT {P:Program} {w:World} {K:PySem.W.Frag} {mg mb:Str→Option Value} {CX:CXT} {k:Nat} {fa a:Addr} {fd:FuncData} {x:Str} {sp:Sp} {s₁:Shared} {vs:List Value} {ns:List Int} {Ps:List Addr}
    (KX:K.In s₁.heap) (hns:s₁.heap.Ns mainGlobals mg) (hb:s₁.heap.Ns builtinsNs mb) (hbb:∀ x:Str,x ≠ "__name__" → mb x=bootBuiltins x) (hlim:s₁.heap.NoLimit) (hg:s₁.gens = #[])
    (ha:s₁.heap.get? a=some { cls:=.type "list",data:=.seq vs.toArray }) (hi:IntsAre vs ns) (hl:ns.length≤sizeLine) (hr:Room k callerA)
    (hbm:BMain mg s₁.heap) (hPs:∀ P∈Ps,s₁.heap.get? P=some (tabObj #[])∧K.lookup P=none∧∃ c,CodeHd s₁.heap c P)
    (F:∀ base:Heap,K.In base→base.Ns mainGlobals mg→BMain mg base→FnOk P w K mg base CX k fa fd [x] sp) (hbind:∀ (s:Shared) (u:Value),BindsTo s fd ⟨[u],[]⟩ [(x,u)])
    (hsp:∀ H:Hp,(∀ P∈Ps,H P=some (.tbl #[]))→SqL K H a (ns.map V.int)→sp [.ref a] H (fun v _=>v=.bl true) fun _ _ _=>False)
    (hCX:∀ H e s',CX [] H s₁ (fun _ _ _=>False) e s'→False) :
    codeAny (model P w) callerA (.call (.ref fa) ⟨[.ref a],[]⟩) (fun r s'=>r=.ok (.ret (.bool true))∧OldK s₁.heap s'.heap∧s'.os=s₁.os∧AllBare s'.gens) s₁:=by
  have rv:=vals_ints hi
  have lenV:=hi.length
  have naP:a∉Ps:=fun z=>by
    have:=(hPs a z).1
    rw [ha] at this; cases this
  have core:∀ H:Hp,(∀ b,H b=none∨(b∈Ps∧H b=some (.tbl #[]))∨∃ o xs,H b=some (.frz o (.lst xs)))→(∀ P∈Ps,H P=some (.tbl #[]))→SqL K H a (ns.map V.int)→HOk P w H s₁.heap→(∀ b,H b≠none→b∈Ps∨b=a)→(H a≠none→K.lookup a=none) →
      codeAny (model P w) callerA (.call (.ref fa) ⟨[.ref a],[]⟩) (fun r s'=>r=.ok (.ret (.bool true))∧OldK s₁.heap s'.heap∧s'.os=s₁.os∧AllBare s'.gens) s₁:=by
    intro H hO hT hS hok hA hK
    have base_of:∀ {b:Addr} {o:Obj},s₁.heap.get? b=some o→H b=none→(hidT s₁.heap H).get? b=some o:=fun e n=>hidT_get e n
    have noA:∀ {b:Addr} {o:Obj},s₁.heap.get? b=some o→(∀ qs,o.data≠.fields qs)→(∀ qs n,o.data≠.seq qs n)→H b=none:=fun {b o} e d1 d2=>by
      cases q:H b with
      | none=>rfl
      | some u =>
        rcases hA b (by rw [q]; simp) with e' | e'
        · rw [(hPs b e').1] at e; cases e
          exact absurd rfl (d1 #[])
        · subst e'
          rw [ha] at e; cases e
          exact absurd rfl (d2 _ _)
    have nsK:∀ {b:Addr} {m:Str→Option Value},s₁.heap.Ns b m→(hidT s₁.heap H).Ns b m:=fun {b m} ⟨o,es,ep,e,d,r⟩=>⟨o,es,ep,base_of e (noA e (fun qs z=>by rw [d] at z; cases z) (fun qs n z=>by rw [d] at z; cases z)),d,r⟩
    have hKb:K.In (hidT s₁.heap H):=fun b o e=>base_of (KX b o e) (by
      cases q:H b with
      | none=>rfl
      | some u =>
        rcases hA b (by rw [q]; simp) with e' | e'
        · rw [(hPs b e').2.1] at e; cases e
        · subst e'
          rw [hK (by rw [q]; simp)] at e; cases e)
    have hM:Mod K mg (hidT s₁.heap H):=⟨hKb,nsK hns,⟨mb,nsK hb,hbb⟩,let ⟨mc,h1,h2⟩:=hlim; ⟨mc,nsK h1,h2⟩⟩
    have hBM:BMain mg (hidT s₁.heap H):=by
      obtain ⟨bm,ob,b1,b2,b3,b4,b5,b6⟩:=hbm
      exact ⟨bm,ob,b1,b2,base_of b3 (noA b3 (fun qs z=>by rw [b6] at z; cases z) (fun qs n z=>by rw [b6] at z; cases z)),b4,b5,b6⟩
    have e0:Env0 P w K mg (hidT s₁.heap H) callerA [] s₁ H:=⟨rfl,hM,fun b o e=>of_hidT e,Nat.le_of_eq (hidT_size _ _),trivial,fun b hb=>absurd (show b∈([]:List Addr) from hb) (by simp),hok,.of_eq hg⟩
    refine codeAny_mono ((F _ hKb (nsK hns) hBM).run callerA [] s₁ H ⟨[.ref a],[]⟩ [.ref a] [.ref a] _ _ hr e0 (hbind s₁ (.ref a)) (.cons rfl .nil) (hsp H hT hS)) fun r s' h => ?_
    cases r with
    | error e=>exact (hCX H e s' h).elim
    | ok fl =>
      cases fl with
      | next=>exact False.elim h
      | brk=>exact False.elim h
      | cont=>exact False.elim h
      | ret u =>
        obtain ⟨v,H',os,bare,un,hok',r',q⟩:=h
        have q':v=.bl true:=q
        subst q'
        obtain rfl:u=Value.bool true:=r'
        have nofs:∀ b:Addr,b∉frs []:=fun b z=>absurd (show b∈([]:List Addr) from z) (by simp)
        refine ⟨rfl,⟨fun b o e => ?_,fun b o e=>un.there b o e (by simp)⟩,os,bare⟩
        rcases hO b with q | ⟨hbP,q⟩ | ⟨ob,xs,z⟩
        · exact .inl (un.keep b o e q (nofs b) (by simp))
        · obtain ⟨h1,h2,c,h3⟩:=hPs b hbP
          rw [h1] at e; cases e
          obtain ⟨more,hm⟩:=un.tbls b _ q
          exact .inr (.inl ⟨(h3.tab h1).isCodeTable,rfl,#[],more,rfl,hok' b _ hm⟩)
        · have z2:=un.frzs b ob _ z
          obtain ⟨e1,_⟩:=hok b _ z
          obtain ⟨e2,_⟩:=hok' b _ z2
          rw [e] at e1; cases e1
          exact .inl e2
  cases hk:K.lookup a with
  | some o =>
    have e:=KX a o hk
    rw [ha] at e
    cases e
    refine core (fun b=>if b∈Ps then some (.tbl #[]) else none) (fun b => ?_) (fun P hP=>if_pos hP) (.inr ⟨_,vs.toArray,_,hk,rfl,rfl,rfl,by rw [List.size_toArray,lenV]; exact hl,by simpa using rv⟩) (fun b u z => ?_) (fun b z => ?_) fun z=>absurd (if_neg naP) z
    · by_cases hb:b∈Ps
      · exact .inr (.inl ⟨hb,if_pos hb⟩)
      · exact .inl (if_neg hb)
    · by_cases hb:b∈Ps
      · have z':=(if_pos hb).symm.trans z
        cases z'
        exact (hPs b hb).1
      · have z':=(if_neg hb).symm.trans z
        cases z'
    · by_cases hb:b∈Ps
      · exact .inl hb
      · exact absurd (if_neg hb) z
  | none =>
    refine core (fun b=>if b∈Ps then some (.tbl #[]) else if b=a then some (.frz { cls:=.type "list",data:=.seq vs.toArray } (.lst (ns.map V.int))) else none) (fun b => ?_) (fun P hP=>if_pos hP) (.inl (.inr ⟨{ cls:=.type "list",data:=.seq vs.toArray },(if_neg naP).trans (if_pos rfl)⟩)) (fun b u z => ?_) (fun b z => ?_) fun _=>hk
    · by_cases hb:b∈Ps
      · exact .inr (.inl ⟨hb,if_pos hb⟩)
      · by_cases hb2:b=a
        · exact .inr (.inr ⟨_,_,(if_neg hb).trans (if_pos hb2)⟩)
        · exact .inl ((if_neg hb).trans (if_neg hb2))
    · by_cases hb:b∈Ps
      · have z':=(if_pos hb).symm.trans z
        cases z'
        exact (hPs b hb).1
      · have z:=(if_neg hb).symm.trans z
        by_cases hb2:b=a
        · have z':=(if_pos hb2).symm.trans z
          cases z'
          subst hb2
          exact ⟨ha,by rw [List.length_map]; exact hl,vs,_,rv,ha⟩
        · have z':=(if_neg hb2).symm.trans z
          cases z'
    · by_cases hb:b∈Ps
      · exact .inl hb
      · by_cases hb2:b=a
        · exact .inr hb2
        · exact absurd ((if_neg hb).trans (if_neg hb2)) z

def tabOf (K:PySem.W.Frag) (cd:Value):Option Addr:=match cd with
  | .ref c=>(match K.lookup c with
    | some ⟨_,_,.fields vs,_⟩=>(match (vs[11]? : Option Value) with
      | some (.ref P)=>if codeHdIn K c P=true then some P else none
      | _=>none)
    | _=>none)
  | _=>none
theorem tabOf_hd {K:PySem.W.Frag} {cd:Value} {P:Addr} {h:Heap} (X:K.In h) (e:tabOf K cd=some P):∃ c,cd=.ref c∧CodeHd h c P:=by
  unfold tabOf at e
  split at e
  · rename_i c
    split at e
    · split at e
      · split at e
        · rename_i hc
          cases e
          exact ⟨c,rfl,codeHd_of_K X hc⟩
        · cases e
      · cases e
    · cases e
  · cases e
theorem tabOf_mk {K:PySem.W.Frag} {cd:Value} {c P:Addr} {cl:Value} {od:Option Addr} {vs:Array Value} {sl:Array (Option Value)} (ec:cd=.ref c) (l:K.lookup c=some ⟨cl,od,.fields vs,sl⟩) (e:vs[11]? = some (.ref P)) (h:codeHdIn K c P=true):tabOf K cd=some P:=by
  subst ec
  unfold tabOf
  simp only [l,e,h,if_true]
theorem walk_ofT {l:PySem.W.OpenLaw} {n k:Nat} {q:Program} {loose:List Str} {XP:(Str→Option Value)→Heap→Prop} {YP:World→Heap→Prop} {d:DefRec} {K:Params→PySem.W.Frag} {CX:World→CXT} {x:Str} {ts:List Addr}
    (hn:l.most=some n) (hn2:n≤sizeLine) (hdf:d.params.defaults=[]) (hr:Room k callerA)
    (hY:∀ (w:World) (h:Heap),YP w h→(K w.params).In h) (hT:∀ (w:World) (h:Heap),YP w h→∀ P∈ts,h.get? P=some (tabObj #[]))
    (F:∀ (w:World) (mg:Str→Option Value) (fa:Addr) (h:Heap),(K w.params).In h→h.Ns mainGlobals mg→mg d.name=some (.ref fa) →
      ∃ (fd:FuncData) (Ps:List Addr) (sp:Sp),(∀ (s:Shared) (u:Value),BindsTo s fd ⟨[u],[]⟩ [(x,u)])∧(∀ P∈Ps,P∈ts∧(K w.params).lookup P=none∧∃ c,CodeHd h c P) ∧
        (∀ base:Heap,(K w.params).In base→base.Ns mainGlobals mg→BMain mg base→FnOk l.prog w (K w.params) mg base (CX w) k fa fd [x] sp) ∧
        ∀ (H:Hp) (a:Addr) (ns:List Int),ns.length≤n→(∀ P∈Ps,H P=some (.tbl #[]))→SqL (K w.params) H a (ns.map V.int)→sp [.ref a] H (fun v _=>v=.bl true) fun _ _ _=>False)
    (hCX:∀ (w:World) (H:Hp) (s:Shared) (e:Value) (s':Shared),CX w [] H s (fun _ _ _=>False) e s'→False) :
    PySem.W.WalkO q loose XP YP l.row.toRowW d [] (fun f vs=>PySem.call f vs):=by
  refine Att.attach_call hn hdf fun w s₀ s₁ mg mb fa o pm cd doc a vs ns G Y ho hd hcd hmg hobj hints hlen hg => ?_
  have KX:=hY w _ Y
  obtain ⟨fd,Ps,sp,hb,hP,hF,hsp⟩:=F w mg fa _ KX G.T.g hmg
  exact law_callT (Ps:=Ps) KX G.T.g G.T.b G.T.builtins G.T.nolimit hg hobj hints (Nat.le_trans hlen hn2) hr G.T.bmain (fun P h=>⟨hT w _ Y P (hP P h).1,(hP P h).2.1,(hP P h).2.2⟩) hF hb (fun H hO hS=>hsp H a ns hlen hO hS) fun H e s'=>hCX w H s₁ e s'

theorem FnOkZ.ex {ι:Type} {Z:List (Addr × Obj)} {P:Program} {w:World} {K:PySem.W.Frag} {mg:Str→Option Value} {base:Heap} {CX:CXT} {k:Nat} {f:Addr} {fd:FuncData} {ps:List Str} {sp:ι→Sp} (F:∀ i,FnOkZ Z P w K mg base CX k f fd ps (sp i)) :
    FnOkZ Z P w K mg base CX k f fd ps fun vs H Q E=>∃ i,sp i vs H Q E :=
  ⟨fun vs H Q E ⟨i,h⟩=>(F i).len vs H Q E h,fun A outer s H args us vs Q E hr e0 hz hb hv ⟨i,h⟩=>(F i).run A outer s H args us vs Q E hr e0 hz hb hv h⟩
section
variable {P:Program} {w:World} {K:PySem.W.Frag} {mg:Str→Option Value} {base:Heap} {Z:List (Addr × Obj)}
structure FunT (K:PySem.W.Frag) (x qual:Str) (st:Stmt) (f:Addr) (fd:FuncData) (dV:Value) (P:Addr):Prop where
  ex:∃ (oc:Value) (od:Option Addr) (kV doc pm:Value) (an:Option Addr) (cdv ct:Value) (osl:Array (Option Value)),
    fd=PySem.W.fnOf x qual (defArgs st) (defBody st) (defScope st) dV kV doc pm an cdv ct∧K.lookup f=some ⟨oc,od,.func fd,osl⟩∧PySem.W.codeIn K cdv qual=true∧tabOf K cdv=some P
theorem funT_mk {x qual:Str} {st:Stmt} {f Pt:Addr} {oc:Value} {od an:Option Addr} {osl:Array (Option Value)} {dV kV doc pm cdv ct:Value} (l:K.lookup f=some ⟨oc,od,.func (PySem.W.fnOf x qual (defArgs st) (defBody st) (defScope st) dV kV doc pm an cdv ct),osl⟩)
    (c:PySem.W.codeIn K cdv qual=true) (t:tabOf K cdv=some Pt):FunT K x qual st f (PySem.W.fnOf x qual (defArgs st) (defBody st) (defScope st) dV kV doc pm an cdv ct) dV Pt:=⟨⟨oc,od,kV,doc,pm,an,cdv,ct,osl,rfl,l,c,t⟩⟩
theorem FunT.ok {x qual:Str} {st:Stmt} {f Pt:Addr} {fd:FuncData} {dV:Value} {N ps:List Str} {k:Nat} {sp:Sp} {CX:CXT} (F:FunT K x qual st f fd dV Pt) (KX:K.In base) (S:FnScope N ps (defScope st)) (len:∀ vs H Q E,sp vs H Q E→vs.length=ps.length)
    (hbody:∀ (c:Addr) (A:Around) (outer:List Env) (s:Shared) (H:Hp) (vs:List V) (Q:VK) (E:XK),CodeHd base c Pt→Room k (A.deeper (envOfC qual (defScope st) s.heap.objs.size f (.ref c)))→sp vs H Q E →
      ∃ t,PSs (cxOf CX P w K mg base N qual (defScope st) f (.ref c) A outer s H E).nox (defBody st) t∧t { nx:=fun _ H'=>Q .non H',rt:=Q } (start N vs) H):FnOk P w K mg base CX (k + 1) f fd ps sp:=by
  obtain ⟨oc,od,kV,doc,pm,an,cdv,ct,osl,rfl,lk,hcd,ht⟩:=F.ex
  obtain ⟨c,rfl,hc⟩:=tabOf_hd KX ht
  refine fn_of lk hcd S len fun A outer s H vs Q E hr hsp => ?_
  obtain ⟨t,h,q⟩:=hbody c A outer s H vs Q E hc hr hsp
  exact ⟨t,h.nox,q⟩
end
theorem SameT.tups {T:List (Addr × Str)} {H H':Hp} (s:SameT T H H') (t:Tabs T H):Tups H H':=fun b xs e=>s.keep t e (by intro ps z; cases z)
theorem Tabs.start {T:List (Addr × Str)} {H:Hp} (h:∀ P∈T.map (·.1),H P=some (.tbl #[])):Tabs T H:=fun q hq =>
  ⟨#[],h _ (List.mem_map.mpr ⟨_,hq,rfl⟩),trivial,fun pos cv e=>by cases e⟩

end L2

namespace L2
open PySem PySem.Spec PySem.Calls PyProof.Rows PySem.W
section
variable {X:Cx} {K:PySem.W.Frag}

end
end L2

namespace L2
open PySem PySem.Spec PySem.Calls PyProof.Rows PySem.W

section
variable {prog:Program} {w:World} {A:Around} {E:Value→Shared→Prop} {s:Shared}
end
section
variable {X:Cx}
end
end L2

namespace Tim
open PySem PyProof.Rows

section
variable {prog:Program} {w:World} {A:Around} {E:Value→Shared→Prop} {s:Shared} {a₀:Array Keyed} {κ:SortKind} {key:Keyed→Int}

def LtOk (prog:Program) (w:World) (A:Around) (E:Value→Shared→Prop) (s:Shared) (a₀:Array Keyed) (κ:SortKind) (key:Keyed→Int):Prop :=
  ∀ (x y:Keyed) (C:Bool→Shared→Prop),x∈a₀.toList→y∈a₀.toList→C (decide (key x < key y)) s→wpAny (model prog w) A (keyLt' κ x.1 y.1) C (fun _ _=>False) s
structure SB (a₀:Array Keyed) (κ:SortKind) (st:SortSt):Prop where
  perm:(arrOf st).Perm a₀
  kind:kindOf st=κ
  ok:failedOf st=none
theorem SB.size {st:SortSt} (h:SB a₀ κ st):(arrOf st).size=a₀.size:=h.perm.size_eq
theorem SB.mem {st:SortSt} (h:SB a₀ κ st) {x:Keyed} (hx:x∈(arrOf st).toList):x∈a₀.toList:=(Array.perm_iff_toList_perm.mp h.perm).mem_iff.mp hx
theorem SB.set {st:SortSt} (h:SB a₀ κ st) {xs:Array Keyed} (hp:xs.Perm (arrOf st)):SB a₀ κ (setArr st xs):=⟨hp.trans h.perm,h.kind,h.ok⟩

def kat (key:Keyed→Int) (xs:Array Keyed) (i:Nat):Int:=match xs[i]? with
  | some p=>key p
  | none=>0
theorem kat_of {xs ys:Array Keyed} {i j:Nat} (h:xs[i]? = ys[j]?):kat key xs i=kat key ys j:=by unfold kat; rw [h]
theorem kat_some {xs:Array Keyed} {i:Nat} {p:Keyed} (h:xs[i]? = some p):kat key xs i=key p:=by unfold kat; rw [h]

def Seg (key:Keyed→Int) (xs:Array Keyed) (lo hi:Nat):Prop:=∀ i j,lo≤i→i≤j→j < hi→kat key xs i≤kat key xs j
theorem lt_ok (L:LtOk prog w A E s a₀ κ key) {x y:Keyed} {st:SortSt} {Q:Option Bool→SortSt→Prop} (hk:kindOf st=κ) (hx:x∈a₀.toList) (hy:y∈a₀.toList) (h:Q (some (decide (key x < key y))) st) :
    wpS (model prog w) A E s (lt' x y) Q st:=by
  rw [lt'_eq]
  refine wpS_bind (wpS_get ?_)
  rw [hk]
  refine wpS_bind (wpS_lift (wpAny_attempt (wpAny_mono (L x y (fun b s'=>b=decide (key x < key y)∧s'=s) hx hy ⟨rfl,rfl⟩) (fun b s' hb => ?_) fun _ _ e=>e.elim)))
  obtain ⟨rfl,rfl⟩:=hb
  exact ⟨rfl,wpS_pure h⟩
theorem el_ok {arr:Array Keyed} {i:Nat} {p:Keyed} {st:SortSt} {Q:Keyed→SortSt→Prop} (hi:arr[i]? = some p) (h:Q p st):wpS (model prog w) A E s (elem' arr i) Q st:=by
  rw [elem'_eq,hi]
  exact wpS_pure h
theorem at_mem {xs:Array Keyed} {i:Nat} {p:Keyed} (h:xs[i]? = some p):p∈xs.toList:=by
  have:p∈xs:=Array.mem_of_getElem? h
  exact Array.mem_toList_iff.mpr this
theorem ltAt_ok (L:LtOk prog w A E s a₀ κ key) {i j:Nat} {st:SortSt} {Q:Option Bool→SortSt→Prop} (hB:SB a₀ κ st) (hi:i < a₀.size) (hj:j < a₀.size) (h:Q (some (decide (kat key (arrOf st) i < kat key (arrOf st) j))) st) :
    wpS (model prog w) A E s (ltAt' i j) Q st:=by
  rw [ltAt'_eq]
  refine wpS_bind (wpS_get ?_)
  have e1:(arrOf st)[i]? = some ((arrOf st)[i]'(by rw [hB.size]; exact hi)):=Array.getElem?_eq_getElem _
  have e2:(arrOf st)[j]? = some ((arrOf st)[j]'(by rw [hB.size]; exact hj)):=Array.getElem?_eq_getElem _
  refine wpS_bind (el_ok e1 (wpS_bind (el_ok e2 ?_)))
  refine lt_ok L hB.kind (hB.mem (at_mem e1)) (hB.mem (at_mem e2)) ?_
  rw [kat_some e1,kat_some e2] at h
  exact h

def gallopP:Bool→Keyed→Array Keyed→Nat→Nat→Nat→StateT SortSt Sem (Option Nat):=sortPriv% PySem.Builtin.gallop
def pastP (left:Bool) (x:Keyed) (u:Array Keyed) (base i:Nat):StateT SortSt Sem (Option Bool):=do
  let y ← elem' u (base + i)
  if left then lt' y x else return (← lt' x y).map (!·)
abbrev St3:=Option (Option Nat) × Nat × Nat

def halfL (left:Bool) (x:Keyed) (u:Array Keyed) (base n p q:Nat):StateT SortSt Sem (Option Nat):=do
  let r ← forIn [0:n] ((none,p,q):St3) fun _ r =>
    if r.2.1 ≥ r.2.2 then pure (ForInStep.done (none,r.2.1,r.2.2)) else do
      let y ← pastP left x u base (r.2.1 + (r.2.2 - r.2.1) / 2)
      match y with
      | some more=>if more=true then pure (ForInStep.yield (none,r.2.1 + (r.2.2 - r.2.1) / 2 + 1,r.2.2)) else pure (ForInStep.yield (none,r.2.1,r.2.1 + (r.2.2 - r.2.1) / 2))
      | _=>pure (ForInStep.done (some none,r.2.1,r.2.2))
  match r.1 with
  | some v=>pure v
  | none=>pure (some r.2.2)

def farL (left:Bool) (x:Keyed) (u:Array Keyed) (base n room:Nat) (pl:Nat→Nat) (stop:Bool→Bool):StateT SortSt Sem St3 :=
  forIn [0:n] ((none,0,1):St3) fun _ r =>
    if r.2.2 ≥ room then pure (ForInStep.done (none,r.2.1,r.2.2)) else do
      let y ← pastP left x u base (pl r.2.2)
      match y with
      | some more=>if stop more=true then pure (ForInStep.done (none,r.2.1,r.2.2)) else pure (ForInStep.yield (none,r.2.2,2 * r.2.2 + 1))
      | _=>pure (ForInStep.done (some none,r.2.1,r.2.2))
theorem gallopP_do (left:Bool) (x:Keyed) (u:Array Keyed) (base n hint:Nat):gallopP left x u base n hint=(do
    let mut was:=0
    let mut step:=1
    let mut p:=0
    let mut q:=0
    let some right ← pastP left x u base hint | return none
    if right then
      let room:=n - hint
      for _ in [0:n] do
        if step ≥ room then break
        let some more ← pastP left x u base (hint + step) | return none
        if !more then break
        was:=step
        step:=2 * step + 1
      p:=hint + was + 1
      q:=hint + min step room
    else
      let room:=hint + 1
      for _ in [0:n] do
        if step ≥ room then break
        let some found ← pastP left x u base (hint - step) | return none
        if found then break
        was:=step
        step:=2 * step + 1
      p:=hint + 1 - min step room
      q:=hint - was
    for _ in [0:n] do
      if p ≥ q then break
      let m:=p + (q - p) / 2
      let some more ← pastP left x u base m | return none
      if more then p:=m + 1 else q:=m
    return some q):=rfl
theorem gallopP_eq (left:Bool) (x:Keyed) (u:Array Keyed) (base n hint:Nat):gallopP left x u base n hint=(do
    let y ← pastP left x u base hint
    match y with
    | some right =>
      if right=true then do
        let r ← farL left x u base n (n - hint) (fun k=>hint + k) (fun m => !m)
        match r.1 with
        | some v=>pure v
        | none=>halfL left x u base n (hint + r.2.1 + 1) (hint + min r.2.2 (n - hint))
      else do
        let r ← farL left x u base n (hint + 1) (fun k=>hint - k) (fun m=>m)
        match r.1 with
        | some v=>pure v
        | none=>halfL left x u base n (hint + 1 - min r.2.2 (hint + 1)) (hint - r.2.1)
    | _=>pure none):=by
  rw [gallopP_do]
  unfold farL halfL
  dsimp only
  congr 1
  funext y
  cases y with
  | none=>rfl
  | some r =>
    cases r with
    | true =>
      dsimp only
      rw [if_pos rfl,if_pos rfl]
      congr 1
      funext r
      obtain ⟨r1,r2,r3⟩:=r
      cases r1 with
      | some v=>rfl
      | none =>
        dsimp only
        congr 1
        funext r
        obtain ⟨r1,r2,r3⟩:=r
        cases r1 <;> rfl
    | false =>
      dsimp only
      rw [if_neg (by decide),if_neg (by decide)]
      congr 1
      funext r
      obtain ⟨r1,r2,r3⟩:=r
      cases r1 with
      | some v=>rfl
      | none =>
        dsimp only
        congr 1
        funext r
        obtain ⟨r1,r2,r3⟩:=r
        cases r1 <;> rfl
def isPast (key:Keyed→Int) (left:Bool) (x:Keyed) (u:Array Keyed) (base i:Nat):Bool:=if left then decide (kat key u (base + i) < key x) else !decide (key x < kat key u (base + i))
theorem past_mono {left:Bool} {x:Keyed} {u:Array Keyed} {base n i j:Nat} (sg:Seg key u base (base + n)) (hij:j≤i) (hi:i < n) (h:isPast key left x u base i=true):isPast key left x u base j=true:=by
  have:=sg (base + j) (base + i) (by omega) (by omega) (by omega)
  unfold isPast at h ⊢
  cases left with
  | true =>
    rw [if_pos rfl] at h ⊢
    have h':=of_decide_eq_true h
    exact decide_eq_true (by omega)
  | false =>
    rw [if_neg (by decide)] at h ⊢
    have h':¬ key x < kat key u (base + i):=by simpa using h
    have:¬ key x < kat key u (base + j):=by omega
    simpa using this
theorem past_ok (L:LtOk prog w A E s a₀ κ key) {left:Bool} {x:Keyed} {u:Array Keyed} {base n i:Nat} {st:SortSt} {Q:Option Bool→SortSt→Prop} (hk:kindOf st=κ) (hx:x∈a₀.toList) (hu:∀ y∈u.toList,y∈a₀.toList)
    (hb:base + n≤u.size) (hi:i < n) (h:Q (some (isPast key left x u base i)) st):wpS (model prog w) A E s (pastP left x u base i) Q st:=by
  unfold pastP
  have e1:u[base + i]? = some (u[base + i]'(by omega)):=Array.getElem?_eq_getElem _
  refine wpS_bind (el_ok e1 ?_)
  unfold isPast at h
  rw [kat_some e1] at h
  cases left with
  | true =>
    rw [if_pos rfl] at h ⊢
    exact lt_ok L hk (hu _ (at_mem e1)) hx h
  | false =>
    rw [if_neg (by decide)] at h ⊢
    exact wpS_bind (lt_ok L hk hx (hu _ (at_mem e1)) (wpS_pure h))
theorem half_ok (L:LtOk prog w A E s a₀ κ key) {left:Bool} {x:Keyed} {u:Array Keyed} {base n p q:Nat} {st:SortSt} {Q:Option Nat→SortSt→Prop} (hk:kindOf st=κ) (hx:x∈a₀.toList) (hu:∀ y∈u.toList,y∈a₀.toList)
    (hb:base + n≤u.size) (sg:Seg key u base (base + n)) (hpq:p≤q) (hq:q≤n) (lo:∀ i,i < p→isPast key left x u base i=true) (hi:∀ i,q≤i→i < n→isPast key left x u base i=false)
    (h:∀ k,k≤n→(∀ i,i < k→isPast key left x u base i=true)→(∀ i,k≤i→i < n→isPast key left x u base i=false)→Q (some k) st):wpS (model prog w) A E s (halfL left x u base n p q) Q st:=by
  unfold halfL
  refine wpS_bind (wpS_mono (wpS_forRange (I:=fun t c st'=>st'=st∧∃ p q,c=(none,p,q)∧p≤q∧q≤n∧q - p≤n - t∧(∀ i,i < p→isPast key left x u base i=true)∧(∀ i,q≤i→i < n→isPast key left x u base i=false))
    (Q:=fun c st'=>st'=st∧∃ q,c=(none,q,q)∧q≤n∧(∀ i,i < q→isPast key left x u base i=true)∧(∀ i,q≤i→i < n→isPast key left x u base i=false)) ?step ?fin ⟨rfl,p,q,rfl,hpq,hq,by omega,lo,hi⟩) ?post)
  case post =>
    rintro c st' ⟨rfl,q,rfl,h1,h2,h3⟩
    exact wpS_pure (h q h1 h2 h3)
  case fin =>
    rintro c st' ⟨rfl,p,q,rfl,h1,h2,h3,h4,h5⟩
    have e:p=q:=by omega
    subst e
    exact ⟨rfl,p,rfl,h2,h4,h5⟩
  case step =>
    rintro t c st' _ ht ⟨rfl,p,q,rfl,h1,h2,h3,h4,h5⟩
    dsimp only
    by_cases e:p ≥ q
    · rw [if_pos e]
      have e':p=q:=by omega
      subst e'
      exact wpS_pure ⟨rfl,p,rfl,h2,h4,h5⟩
    · rw [if_neg e]
      refine wpS_bind (past_ok L hk hx hu hb (n:=n) (by omega) ?_)
      dsimp only
      cases hm:isPast key left x u base (p + (q - p) / 2) with
      | true =>
        rw [if_pos rfl]
        exact wpS_pure ⟨rfl,_,_,rfl,by omega,h2,by omega,fun i hi=>past_mono sg (by omega) (by omega) hm,h5⟩
      | false =>
        rw [if_neg (by decide)]
        refine wpS_pure ⟨rfl,_,_,rfl,by omega,by omega,by omega,h4,fun i h6 h7 => ?_⟩
        cases z:isPast key left x u base i with
        | false=>rfl
        | true=>rw [past_mono sg h6 h7 z] at hm; cases hm
theorem far_ok (L:LtOk prog w A E s a₀ κ key) {left:Bool} {x:Keyed} {u:Array Keyed} {base n room:Nat} {pl:Nat→Nat} {good:Bool} {stop:Bool→Bool} (hstop:∀ m,stop m=(m != good)) {st:SortSt} {Q:St3→SortSt→Prop} (hk:kindOf st=κ) (hx:x∈a₀.toList) (hu:∀ y∈u.toList,y∈a₀.toList)
    (hb:base + n≤u.size) (hr:room≤n) (hpl:∀ k,k < room→pl k < n) (h0:isPast key left x u base (pl 0)=good) (hr0:0 < room)
    (h:∀ was step,was < step→was < room→isPast key left x u base (pl was)=good→(room≤step∨isPast key left x u base (pl step) = !good)→Q (none,was,step) st):wpS (model prog w) A E s (farL left x u base n room pl stop) Q st:=by
  unfold farL
  refine wpS_forRange (I:=fun t c st'=>st'=st∧∃ was step,c=(none,was,step)∧was < step∧was < room∧t + 1≤step∧isPast key left x u base (pl was)=good) ?step ?fin ⟨rfl,0,1,rfl,by omega,hr0,by omega,h0⟩
  case fin =>
    rintro c st' ⟨rfl,was,step,rfl,h1,h2,h3,h4⟩
    exact h was step h1 h2 h4 (.inl (by omega))
  case step =>
    rintro t c st' _ ht ⟨rfl,was,step,rfl,h1,h2,h3,h4⟩
    dsimp only
    by_cases e:step ≥ room
    · rw [if_pos e]
      exact wpS_pure (h was step h1 h2 h4 (.inl e))
    · rw [if_neg e]
      refine wpS_bind (past_ok L hk hx hu hb (hpl step (by omega)) ?_)
      dsimp only
      by_cases hm:isPast key left x u base (pl step)=good
      · have e2:stop (isPast key left x u base (pl step))=false:=by rw [hstop,hm]; cases good <;> rfl
        rw [e2,if_neg (by decide)]
        exact wpS_pure ⟨rfl,step,2 * step + 1,rfl,by omega,by omega,by omega,hm⟩
      · have hm':isPast key left x u base (pl step) = !good:=by
          cases q:isPast key left x u base (pl step) <;> cases good <;> simp_all
        have e2:stop (isPast key left x u base (pl step))=true:=by rw [hstop,hm']; cases good <;> rfl
        rw [e2,if_pos rfl]
        exact wpS_pure (h was step h1 h2 h4 (.inr hm'))
theorem gallop_ok (L:LtOk prog w A E s a₀ κ key) {left:Bool} {x:Keyed} {u:Array Keyed} {base n hint:Nat} {st:SortSt} {Q:Option Nat→SortSt→Prop} (hk:kindOf st=κ) (hx:x∈a₀.toList) (hu:∀ y∈u.toList,y∈a₀.toList)
    (hb:base + n≤u.size) (hh:hint < n) (sg:Seg key u base (base + n))
    (h:∀ k,k≤n→(∀ i,i < k→isPast key left x u base i=true)→(∀ i,k≤i→i < n→isPast key left x u base i=false)→Q (some k) st):wpS (model prog w) A E s (gallopP left x u base n hint) Q st:=by
  rw [gallopP_eq]
  have dn:∀ i,i < n→isPast key left x u base i=false→∀ j,i≤j→j < n→isPast key left x u base j=false:=fun i hi e j hj hjn=>by
    cases q:isPast key left x u base j with
    | false=>rfl
    | true=>rw [past_mono sg hj hjn q] at e; cases e
  refine wpS_bind (past_ok L hk hx hu hb hh ?_)
  dsimp only
  cases hp:isPast key left x u base hint with
  | true =>
    rw [if_pos rfl]
    refine wpS_bind (far_ok L (by intro m; cases m <;> rfl) hk hx hu hb (by omega) (fun k hk=>by omega) hp (by omega) fun was step h1 h2 h3 h4 => ?_)
    dsimp only
    refine half_ok L hk hx hu hb sg (by omega) (by omega) (fun i hi=>past_mono sg (by omega) (by omega) h3) (fun i h5 h6 => ?_) h
    rcases h4 with h4 | h4
    · omega
    · by_cases h7:n - hint≤step
      · omega
      · exact dn (hint + step) (by omega) h4 i (by omega) h6
  | false =>
    rw [if_neg (by decide)]
    refine wpS_bind (far_ok L (by intro m; cases m <;> rfl) hk hx hu hb (by omega) (fun k hk=>by omega) hp (by omega) fun was step h1 h2 h3 h4 => ?_)
    dsimp only
    refine half_ok L hk hx hu hb sg (by omega) (by omega) (fun i hi => ?_) (fun i h5 h6=>dn (hint - was) (by omega) h3 i h5 h6) h
    rcases h4 with h4 | h4
    · omega
    · by_cases h7:hint + 1≤step
      · omega
      · exact past_mono sg (by omega) (by omega) h4
end
end Tim

namespace Tim
open PySem PyProof.Rows
section
variable {prog:Program} {w:World} {A:Around} {E:Value→Shared→Prop} {s:Shared} {a₀:Array Keyed} {κ:SortKind} {key:Keyed→Int}
def loP:Array Keyed→Array Keyed→StateT SortSt Sem (Array Keyed):=sortPriv% PySem.Builtin.mergeLo
abbrev setGal (st:SortSt) (g:Nat):SortSt:=SortSt.mk' (kindOf st) (arrOf st) (pendingOf st) g (failedOf st)
abbrev St7:=Option (Array Keyed) × Array Keyed × Nat × Nat × Nat × Nat × Nat
abbrev St6:=Option (Array Keyed) × Array Keyed × Nat × Nat × Nat × Nat
abbrev St5:=Option (Array Keyed) × Array Keyed × Nat × Nat × Nat
def fin1 (u v o:Array Keyed) (i j:Nat):Array Keyed:=o++u.extract i u.size++v.extract j v.size
def fin2 (u v o:Array Keyed) (i j:Nat):Array Keyed:=o++v.extract j v.size++u.extract i u.size

def oneStep (u v:Array Keyed) (g:Nat) (r:St6):StateT SortSt Sem (ForInStep St6):=do
  let y ← elem' v r.2.2.2.1
  let x ← elem' u r.2.2.1
  let z ← lt' y x
  match z with
  | some won =>
    if won=true then do
      let y ← elem' v r.2.2.2.1
      if (r.2.2.2.1 + 1 == v.size)=true then pure (.done (some (fin1 u v (r.2.1.push y) r.2.2.1 (r.2.2.2.1 + 1)),r.2.1.push y,r.2.2.1,r.2.2.2.1 + 1,0,r.2.2.2.2.2 + 1))
      else if r.2.2.2.2.2 + 1 ≥ g then pure (.done (none,r.2.1.push y,r.2.2.1,r.2.2.2.1 + 1,0,r.2.2.2.2.2 + 1))
      else pure (.yield (none,r.2.1.push y,r.2.2.1,r.2.2.2.1 + 1,0,r.2.2.2.2.2 + 1))
    else do
      let x ← elem' u r.2.2.1
      if (r.2.2.1 + 1 + 1 == u.size)=true then pure (.done (some (fin2 u v (r.2.1.push x) (r.2.2.1 + 1) r.2.2.2.1),r.2.1.push x,r.2.2.1 + 1,r.2.2.2.1,r.2.2.2.2.1 + 1,0))
      else if r.2.2.2.2.1 + 1 ≥ g then pure (.done (none,r.2.1.push x,r.2.2.1 + 1,r.2.2.2.1,r.2.2.2.2.1 + 1,0))
      else pure (.yield (none,r.2.1.push x,r.2.2.1 + 1,r.2.2.2.1,r.2.2.2.2.1 + 1,0))
  | _=>pure (.done (some (fin1 u v r.2.1 r.2.2.1 r.2.2.2.1),r.2.1,r.2.2.1,r.2.2.2.1,r.2.2.2.2.1,r.2.2.2.2.2))

def galEnd (u v o:Array Keyed) (i j g ca cb:Nat):StateT SortSt Sem (ForInStep St7):=do
  let x ← elem' u i
  if (i + 1 + 1 == u.size)=true then pure (.done (some (fin2 u v (o.push x) (i + 1) j),o.push x,i + 1,j,g,ca,cb))
  else if (decide (ca < 7) && decide (cb < 7))=true then pure (.done (none,o.push x,i + 1,j,g,ca,cb))
  else pure (.yield (none,o.push x,i + 1,j,g,ca,cb))
def galMid (u v o:Array Keyed) (i j g ca cb:Nat):StateT SortSt Sem (ForInStep St7):=do
  let y ← elem' v j
  if (j + 1 == v.size)=true then pure (.done (some (fin1 u v (o.push y) i (j + 1)),o.push y,i,j + 1,g,ca,cb)) else do
    let x ← elem' u i
    let z ← gallopP true x v (j + 1) (v.size - (j + 1)) 0
    match z with
    | some k =>
      if k > 0 then
        if (j + 1 + k == v.size)=true then pure (.done (some (fin1 u v (o.push y++v.extract (j + 1) (j + 1 + k)) i (j + 1 + k)),o.push y++v.extract (j + 1) (j + 1 + k),i,j + 1 + k,g,ca,k))
        else galEnd u v (o.push y++v.extract (j + 1) (j + 1 + k)) i (j + 1 + k) g ca k
      else galEnd u v (o.push y) i (j + 1) g ca k
    | _=>pure (.done (some (fin1 u v (o.push y) i (j + 1)),o.push y,i,j + 1,g,ca,cb))
def galTop (u v o:Array Keyed) (i j g ca cb:Nat):StateT SortSt Sem (ForInStep St7):=do
  modify fun st=>setGal st g
  let y ← elem' v j
  let z ← gallopP false y u i (u.size - i) 0
  match z with
  | some k =>
    if k > 0 then
      if (i + k + 1 == u.size)=true then pure (.done (some (fin2 u v (o++u.extract i (i + k)) (i + k) j),o++u.extract i (i + k),i + k,j,g,k,cb))
      else if (i + k == u.size)=true then pure (.done (some (fin1 u v (o++u.extract i (i + k)) (i + k) j),o++u.extract i (i + k),i + k,j,g,k,cb))
      else galMid u v (o++u.extract i (i + k)) (i + k) j g k cb
    else galMid u v o i j g k cb
  | _=>pure (.done (some (fin1 u v o i j),o,i,j,g,ca,cb))
def galStep (u v:Array Keyed) (r:St7):StateT SortSt Sem (ForInStep St7) :=
  if r.2.2.2.2.1 > 1 then galTop u v r.2.1 r.2.2.1 r.2.2.2.1 (r.2.2.2.2.1 - 1) r.2.2.2.2.2.1 r.2.2.2.2.2.2 else galTop u v r.2.1 r.2.2.1 r.2.2.2.1 r.2.2.2.2.1 r.2.2.2.2.2.1 r.2.2.2.2.2.2
def roundStep (u v:Array Keyed) (r:St5):StateT SortSt Sem (ForInStep St5):=do
  let q ← forIn [0:u.size + v.size] ((none,r.2.1,r.2.2.1,r.2.2.2.1,0,0):St6) fun _ q=>oneStep u v r.2.2.2.2 q
  match q.1 with
  | some z=>pure (.done (some z,q.2.1,q.2.2.1,q.2.2.2.1,r.2.2.2.2))
  | none=>do
    liftM (rule "list.sort.gallop")
    let p ← forIn [0:u.size + v.size] ((none,q.2.1,q.2.2.1,q.2.2.2.1,r.2.2.2.2 + 1,q.2.2.2.2.1,q.2.2.2.2.2):St7) fun _ p=>galStep u v p
    match p.1 with
    | some z=>pure (.done (some z,p.2.1,p.2.2.1,p.2.2.2.1,p.2.2.2.2.1))
    | none=>do
      modify fun st=>setGal st (p.2.2.2.2.1 + 1)
      pure (.yield (none,p.2.1,p.2.2.1,p.2.2.2.1,p.2.2.2.2.1 + 1))
theorem loP_eq (u v:Array Keyed):loP u v=(do
    liftM (rule "list.sort.merge-lo")
    let y ← elem' v 0
    if (1 == v.size)=true then pure (fin1 u v #[y] 0 1) else
      if (0 + 1 == u.size)=true then pure (fin2 u v #[y] 0 1) else do
        let st ← get
        let r ← forIn [0:u.size + v.size] ((none,#[y],0,1,gallopOf st):St5) fun _ r=>roundStep u v r
        match r.1 with
        | some z=>pure z
        | none=>liftM (unsupported "internal:list.sort.merge-bound" : Sem (Array Keyed))):=by
  kernel_rfl

abbrev Srt (key:Keyed→Int) (l:List Keyed):Prop:=l.Pairwise fun x y=>key x≤key y
theorem srt_seg {u:Array Keyed}:Srt key u.toList↔Seg key u 0 u.size:=by
  constructor
  · intro h i j _ hij hj
    by_cases e:i=j
    · subst e; exact Int.le_refl _
    have e1:u[i]? = some (u.toList[i]'(by simp; omega)):=by simp
    have e2:u[j]? = some (u.toList[j]'(by simp; omega)):=by simp
    rw [kat_some e1,kat_some e2]
    exact List.pairwise_iff_getElem.mp h i j (by simp; omega) (by simp; omega) (by omega)
  · intro h
    refine List.pairwise_iff_getElem.mpr fun i j hi hj hij => ?_
    have hi':i < u.size:=by simpa using hi
    have hj':j < u.size:=by simpa using hj
    have e1:u[i]? = some (u.toList[i]):=by simp
    have e2:u[j]? = some (u.toList[j]):=by simp
    have:=h i j (Nat.zero_le _) (by omega) hj'
    rw [kat_some e1,kat_some e2] at this
    exact this

theorem srt_mid {o m r:List Keyed} (h1:Srt key (o++m)) (h2:Srt key (o++r)) (h3:∀ x∈m,∀ y∈r,key x≤key y):Srt key (o++m++r):=by
  unfold Srt at h1 h2 ⊢
  rw [List.pairwise_append] at h1 h2 ⊢
  refine ⟨List.pairwise_append.mpr h1,h2.2.1,fun x hx y hy => ?_⟩
  rcases List.mem_append.mp hx with hx | hx
  · exact h2.2.2 x hx y hy
  · exact h3 x hx y hy
def Res (key:Keyed→Int) (u v z:Array Keyed):Prop:=z.toList.Perm (u.toList++v.toList)∧Srt key z.toList
structure MI (key:Keyed→Int) (u v o:Array Keyed) (i j:Nat):Prop where
  perm:(o.toList++(u.toList.drop i++v.toList.drop j)).Perm (u.toList++v.toList)
  sa:Srt key (o.toList++u.toList.drop i)
  sb:Srt key (o.toList++v.toList.drop j)
  hi:i≤u.size
  hj:j≤v.size
theorem MI.len {u v o:Array Keyed} {i j:Nat} (h:MI key u v o i j):o.size=i + j:=by
  have:=h.perm.length_eq
  have h1:=h.hi
  have h2:=h.hj
  simp only [List.length_append,List.length_drop,Array.length_toList] at this
  omega
theorem MI.takeA {u v o o':Array Keyed} {i j k:Nat} (h:MI key u v o i j) (ho:o'.toList=o.toList++(u.toList.drop i).take k) (hk:i + k≤u.size) (hl:∀ x∈(u.toList.drop i).take k,∀ y∈v.toList.drop j,key x≤key y):MI key u v o' (i + k) j:=by
  have e:(u.toList.drop i).take k++u.toList.drop (i + k)=u.toList.drop i:=by rw [← List.drop_drop]; exact List.take_append_drop _ _
  refine ⟨?_,?_,?_,hk,h.hj⟩
  · rw [ho]
    have:o.toList++(u.toList.drop i).take k++(u.toList.drop (i + k)++v.toList.drop j)=o.toList++(u.toList.drop i++v.toList.drop j):=by
      rw [List.append_assoc,← List.append_assoc ((u.toList.drop i).take k),e]
    rw [this]; exact h.perm
  · rw [ho,List.append_assoc,e]; exact h.sa
  · rw [ho]
    have h1:Srt key (o.toList++(u.toList.drop i).take k):=by
      have:=h.sa
      rw [← e,← List.append_assoc] at this
      exact (List.pairwise_append.mp this).1
    exact srt_mid h1 h.sb hl
theorem perm_move (o T U D W:List Keyed) (e:T++D=W):(o++T++(U++D)).Perm (o++(U++W)):=by
  rw [← e,List.append_assoc]
  refine List.Perm.append_left _ ?_
  rw [← List.append_assoc,← List.append_assoc]
  exact List.Perm.append_right _ List.perm_append_comm
theorem MI.takeB {u v o o':Array Keyed} {i j k:Nat} (h:MI key u v o i j) (ho:o'.toList=o.toList++(v.toList.drop j).take k) (hk:j + k≤v.size) (hl:∀ x∈(v.toList.drop j).take k,∀ y∈u.toList.drop i,key x≤key y):MI key u v o' i (j + k):=by
  have e:(v.toList.drop j).take k++v.toList.drop (j + k)=v.toList.drop j:=by rw [← List.drop_drop]; exact List.take_append_drop _ _
  refine ⟨?_,?_,?_,h.hi,hk⟩
  · rw [ho]
    exact (perm_move _ _ _ _ _ e).trans h.perm
  · rw [ho]
    have h1:Srt key (o.toList++(v.toList.drop j).take k):=by
      have:=h.sb
      rw [← e,← List.append_assoc] at this
      exact (List.pairwise_append.mp this).1
    exact srt_mid h1 h.sa hl
  · rw [ho,List.append_assoc,e]; exact h.sb
theorem ext_end (u:Array Keyed) (i:Nat):(u.extract i u.size).toList=u.toList.drop i:=by
  rw [Array.toList_extract,List.extract_eq_take_drop,List.take_of_length_le (by simp)]
theorem ext_mid (u:Array Keyed) (i k:Nat):(u.extract i (i + k)).toList=(u.toList.drop i).take k:=by
  rw [Array.toList_extract,List.extract_eq_take_drop]
  congr 1
  omega
theorem fin1_ok {u v o:Array Keyed} {i j:Nat} (h:MI key u v o i j) (he:i=u.size∨j=v.size):Res key u v (fin1 u v o i j):=by
  have e:(fin1 u v o i j).toList=o.toList++u.toList.drop i++v.toList.drop j:=by
    unfold fin1; rw [Array.toList_append,Array.toList_append,ext_end,ext_end]
  refine ⟨by rw [e,List.append_assoc]; exact h.perm,?_⟩
  rw [e]
  rcases he with he | he
  · rw [he,List.drop_of_length_le (by simp),List.append_nil]; exact h.sb
  · rw [he,List.drop_of_length_le (l:=v.toList) (by simp),List.append_nil]; exact h.sa
theorem fin2_ok {u v o:Array Keyed} {i j:Nat} (h:MI key u v o i j) (hl:∀ x∈v.toList.drop j,∀ y∈u.toList.drop i,key x≤key y):Res key u v (fin2 u v o i j):=by
  have e:(fin2 u v o i j).toList=o.toList++v.toList.drop j++u.toList.drop i:=by
    unfold fin2; rw [Array.toList_append,Array.toList_append,ext_end,ext_end]
  refine ⟨?_,?_⟩
  · rw [e,List.append_assoc]
    exact (List.Perm.append_left _ List.perm_append_comm).trans h.perm
  · rw [e]; exact srt_mid h.sb h.sa hl
end
end Tim

namespace Tim
open PySem PyProof.Rows
section
variable {prog:Program} {w:World} {A:Around} {E:Value→Shared→Prop} {s:Shared} {a₀:Array Keyed} {κ:SortKind} {key:Keyed→Int}
structure Pre (a₀:Array Keyed) (key:Keyed→Int) (u v:Array Keyed):Prop where
  mu:∀ y∈u.toList,y∈a₀.toList
  mv:∀ y∈v.toList,y∈a₀.toList
  su:Seg key u 0 u.size
  sv:Seg key v 0 v.size
  hu:1≤u.size
  hv:1≤v.size
  first:kat key v 0 < kat key u 0
  last:kat key v (v.size - 1) < kat key u (u.size - 1)
theorem of_drop {u:Array Keyed} {i:Nat} {y:Keyed} (h:y∈u.toList.drop i):∃ t,i≤t∧t < u.size∧u[t]? = some y:=by
  obtain ⟨t,ht,e⟩:=List.getElem_of_mem h
  rw [List.length_drop,Array.length_toList] at ht
  rw [List.getElem_drop] at e
  refine ⟨i + t,by omega,by omega,?_⟩
  rw [← e,Array.getElem_toList]
  exact Array.getElem?_eq_getElem _
theorem of_take {u:Array Keyed} {i k:Nat} {y:Keyed} (h:y∈(u.toList.drop i).take k):∃ t,i≤t∧t < i + k∧t < u.size∧u[t]? = some y:=by
  obtain ⟨t,ht,e⟩:=List.getElem_of_mem h
  rw [List.length_take,List.length_drop,Array.length_toList] at ht
  rw [List.getElem_take,List.getElem_drop] at e
  refine ⟨i + t,by omega,by omega,by omega,?_⟩
  rw [← e,Array.getElem_toList]
  exact Array.getElem?_eq_getElem _
theorem Pre.lastA {u v:Array Keyed} {i j:Nat} (P:Pre a₀ key u v) (hi:i + 1=u.size):∀ x∈v.toList.drop j,∀ y∈u.toList.drop i,key x≤key y:=fun x hx y hy=>by
  obtain ⟨t,h1,h2,h3⟩:=of_drop hx
  obtain ⟨r,g1,g2,g3⟩:=of_drop hy
  have e:r=u.size - 1:=by omega
  rw [e] at g3
  rw [← kat_some (key:=key) h3,← kat_some (key:=key) g3]
  have:=P.sv t (v.size - 1) (Nat.zero_le _) (by omega) (by omega)
  have:=P.last
  omega
theorem push_list (o:Array Keyed) (u:Array Keyed) {i:Nat} {x:Keyed} (h:u[i]? = some x):(o.push x).toList=o.toList++(u.toList.drop i).take 1:=by
  obtain ⟨hi,e⟩:=Array.getElem?_eq_some_iff.mp h
  have:u.toList.drop i=x::u.toList.drop (i + 1):=by
    rw [List.drop_eq_getElem_cons (by simpa using hi),Array.getElem_toList,e]
  rw [this]; simp
theorem one_ok (L:LtOk prog w A E s a₀ κ key) {u v o:Array Keyed} {i j g ca cb:Nat} {st:SortSt} {Q:ForInStep St6→SortSt→Prop} (hk:kindOf st=κ) (P:Pre a₀ key u v) (M:MI key u v o i j) (hi:i + 1 < u.size) (hj:j < v.size)
    (hd:∀ z r,Res key u v z→Q (.done (some z,r)) st) (hn:∀ o' i' j' ca' cb',MI key u v o' i' j'→i' + 1 < u.size→j' < v.size→o.size < o'.size→Q (.done (none,o',i',j',ca',cb')) st∧Q (.yield (none,o',i',j',ca',cb')) st) :
    wpS (model prog w) A E s (oneStep u v g (none,o,i,j,ca,cb)) Q st:=by
  unfold oneStep
  have e1:v[j]? = some v[j]:=Array.getElem?_eq_getElem hj
  have e2:u[i]? = some u[i]:=Array.getElem?_eq_getElem (by omega)
  dsimp only
  refine wpS_bind (el_ok e1 (wpS_bind (el_ok e2 (wpS_bind (lt_ok L hk (P.mv _ (at_mem e1)) (P.mu _ (at_mem e2)) ?_)))))
  dsimp only
  have ml:=M.len
  by_cases c:key v[j] < key u[i]
  · rw [if_pos (decide_eq_true c)]
    refine wpS_bind (el_ok e1 ?_)
    have M':MI key u v (o.push v[j]) i (j + 1):=M.takeB (push_list o v e1) (by omega) fun x hx y hy=>by
      obtain ⟨t,t1,t2,t3,t4⟩:=of_take hx
      obtain ⟨r,r1,r2,r3⟩:=of_drop hy
      have et:t=j:=by omega
      rw [et,e1] at t4
      have ex:=Option.some.inj t4
      have:=P.su i r (Nat.zero_le _) r1 r2
      rw [kat_some e2,kat_some r3] at this
      rw [← ex]; omega
    have ml':=M'.len
    by_cases e:j + 1=v.size
    · rw [if_pos (by simpa using e)]
      exact wpS_pure (hd _ _ (fin1_ok M' (.inr e)))
    · rw [if_neg (by simpa using e)]
      obtain ⟨q1,q2⟩:=hn _ i (j + 1) 0 (cb + 1) M' hi (by omega) (by omega)
      split
      · exact wpS_pure q1
      · exact wpS_pure q2
  · rw [if_neg (by simpa using c)]
    refine wpS_bind (el_ok e2 ?_)
    have M':MI key u v (o.push u[i]) (i + 1) j:=M.takeA (push_list o u e2) (by omega) fun x hx y hy=>by
      obtain ⟨t,t1,t2,t3,t4⟩:=of_take hx
      obtain ⟨r,r1,r2,r3⟩:=of_drop hy
      have et:t=i:=by omega
      rw [et,e2] at t4
      have ex:=Option.some.inj t4
      have:=P.sv j r (Nat.zero_le _) r1 r2
      rw [kat_some e1,kat_some r3] at this
      rw [← ex]; omega
    have ml':=M'.len
    by_cases e:i + 1 + 1=u.size
    · rw [if_pos (by simpa using e)]
      exact wpS_pure (hd _ _ (fin2_ok M' (P.lastA e)))
    · rw [if_neg (by simpa using e)]
      obtain ⟨q1,q2⟩:=hn _ (i + 1) j (ca + 1) 0 M' (by omega) hj (by omega)
      split
      · exact wpS_pure q1
      · exact wpS_pure q2
theorem galEnd_ok {u v o:Array Keyed} {i j g ca cb n:Nat} {st:SortSt} {Q:ForInStep St7→SortSt→Prop} (P:Pre a₀ key u v) (M:MI key u v o i j) (hi:i + 1 < u.size) (hj:j < v.size) (hx:∀ y∈v.toList.drop j,kat key u i≤key y) (hs:n≤o.size)
    (hd:∀ z r,Res key u v z→Q (.done (some z,r)) st) (hn:∀ o' i' j' g' ca' cb',MI key u v o' i' j'→i' + 1 < u.size→j' < v.size→n < o'.size→Q (.done (none,o',i',j',g',ca',cb')) st∧Q (.yield (none,o',i',j',g',ca',cb')) st) :
    wpS (model prog w) A E s (galEnd u v o i j g ca cb) Q st:=by
  unfold galEnd
  have e2:u[i]? = some u[i]:=Array.getElem?_eq_getElem (by omega)
  refine wpS_bind (el_ok e2 ?_)
  have ml:=M.len
  have M':MI key u v (o.push u[i]) (i + 1) j:=M.takeA (push_list o u e2) (by omega) fun x hx' y hy=>by
    obtain ⟨t,t1,t2,t3,t4⟩:=of_take hx'
    have et:t=i:=by omega
    rw [et,e2] at t4
    have ex:=Option.some.inj t4
    have:=hx y hy
    rw [kat_some e2] at this
    rw [← ex]; exact this
  have ml':=M'.len
  by_cases e:i + 1 + 1=u.size
  · rw [if_pos (by simpa using e)]
    exact wpS_pure (hd _ _ (fin2_ok M' (P.lastA e)))
  · rw [if_neg (by simpa using e)]
    obtain ⟨q1,q2⟩:=hn _ (i + 1) j g ca cb M' (by omega) hj (by omega)
    split
    · exact wpS_pure q1
    · exact wpS_pure q2
theorem app_list (o u:Array Keyed) (i k:Nat):(o++u.extract i (i + k)).toList=o.toList++(u.toList.drop i).take k:=by rw [Array.toList_append,ext_mid]
theorem seg_sub {u:Array Keyed} {a b c d:Nat} (h:Seg key u a b) (h1:a≤c) (h2:d≤b):Seg key u c d:=fun i j x y z=>h i j (by omega) y (by omega)
theorem galMid_ok (L:LtOk prog w A E s a₀ κ key) {u v o:Array Keyed} {i j g ca cb n:Nat} {st:SortSt} {Q:ForInStep St7→SortSt→Prop} (hk:kindOf st=κ) (P:Pre a₀ key u v) (M:MI key u v o i j) (hi:i + 1 < u.size) (hj:j < v.size) (hx:∀ y∈u.toList.drop i,kat key v j≤key y) (hs:n≤o.size)
    (hd:∀ z r,Res key u v z→Q (.done (some z,r)) st) (hn:∀ o' i' j' g' ca' cb',MI key u v o' i' j'→i' + 1 < u.size→j' < v.size→n < o'.size→Q (.done (none,o',i',j',g',ca',cb')) st∧Q (.yield (none,o',i',j',g',ca',cb')) st) :
    wpS (model prog w) A E s (galMid u v o i j g ca cb) Q st:=by
  unfold galMid
  have e1:v[j]? = some v[j]:=Array.getElem?_eq_getElem hj
  have e2:u[i]? = some u[i]:=Array.getElem?_eq_getElem (by omega)
  refine wpS_bind (el_ok e1 ?_)
  have ml:=M.len
  have M':MI key u v (o.push v[j]) i (j + 1):=M.takeB (push_list o v e1) (by omega) fun x hx' y hy=>by
    obtain ⟨t,t1,t2,t3,t4⟩:=of_take hx'
    have et:t=j:=by omega
    rw [et,e1] at t4
    have ex:=Option.some.inj t4
    have:=hx y hy
    rw [kat_some e1] at this
    rw [← ex]; exact this
  have ml':=M'.len
  by_cases e:j + 1=v.size
  · rw [if_pos (by simpa using e)]
    exact wpS_pure (hd _ _ (fin1_ok M' (.inr e)))
  · rw [if_neg (by simpa using e)]
    refine wpS_bind (el_ok e2 (wpS_bind (gallop_ok L hk (P.mu _ (at_mem e2)) P.mv (by omega) (by omega) (seg_sub P.sv (by omega) (by omega)) fun k k1 k2 k3 => ?_)))
    dsimp only
    have lo:∀ t,j + 1≤t→t < j + 1 + k→kat key v t < key u[i]:=fun t t1 t2=>by
      have:=k2 (t - (j + 1)) (by omega)
      unfold isPast at this
      rw [if_pos rfl,show j + 1 + (t - (j + 1))=t by omega] at this
      exact of_decide_eq_true this
    have hi':∀ t,j + 1 + k≤t→t < v.size→key u[i]≤kat key v t:=fun t t1 t2=>by
      have:=k3 (t - (j + 1)) (by omega) (by omega)
      unfold isPast at this
      rw [if_pos rfl,show j + 1 + (t - (j + 1))=t by omega] at this
      have:=of_decide_eq_false this
      omega
    have endx:∀ y∈v.toList.drop (j + 1 + k),kat key u i≤key y:=fun y hy=>by
      obtain ⟨r,r1,r2,r3⟩:=of_drop hy
      have:=hi' r r1 r2
      rw [kat_some r3] at this
      rw [kat_some e2]; exact this
    by_cases hk0:k > 0
    · rw [if_pos hk0]
      have M2:MI key u v (o.push v[j]++v.extract (j + 1) (j + 1 + k)) i (j + 1 + k):=M'.takeB (app_list _ v (j + 1) k) (by omega) fun x hx' y hy=>by
        obtain ⟨t,t1,t2,t3,t4⟩:=of_take hx'
        obtain ⟨r,r1,r2,r3⟩:=of_drop hy
        have a1:=lo t t1 t2
        have a2:=P.su i r (Nat.zero_le _) r1 r2
        rw [kat_some t4] at a1
        rw [kat_some e2,kat_some r3] at a2
        omega
      have ml2:=M2.len
      by_cases e3:j + 1 + k=v.size
      · rw [if_pos (by simpa using e3)]
        exact wpS_pure (hd _ _ (fin1_ok M2 (.inr e3)))
      · rw [if_neg (by simpa using e3)]
        exact galEnd_ok P M2 hi (by omega) endx (by omega) hd hn
    · rw [if_neg hk0]
      have k0:k=0:=by omega
      subst k0
      exact galEnd_ok P M' hi (by omega) endx (by omega) hd hn
theorem galTop_ok (L:LtOk prog w A E s a₀ κ key) {u v o:Array Keyed} {i j g ca cb:Nat} {st:SortSt} {Q:ForInStep St7→SortSt→Prop} (hk:kindOf st=κ) (P:Pre a₀ key u v) (M:MI key u v o i j) (hi:i + 1 < u.size) (hj:j < v.size)
    (hd:∀ z r,Res key u v z→Q (.done (some z,r)) (setGal st g)) (hn:∀ o' i' j' g' ca' cb',MI key u v o' i' j'→i' + 1 < u.size→j' < v.size→o.size < o'.size→Q (.done (none,o',i',j',g',ca',cb')) (setGal st g)∧Q (.yield (none,o',i',j',g',ca',cb')) (setGal st g)) :
    wpS (model prog w) A E s (galTop u v o i j g ca cb) Q st:=by
  unfold galTop
  have e1:v[j]? = some v[j]:=Array.getElem?_eq_getElem hj
  refine wpS_bind (wpS_modify (wpS_bind (el_ok e1 (wpS_bind (gallop_ok L hk (P.mv _ (at_mem e1)) P.mu (by omega) (by omega) (seg_sub P.su (by omega) (by omega)) fun k k1 k2 k3 => ?_)))))
  dsimp only
  have ml:=M.len
  have lo:∀ t,i≤t→t < i + k→kat key u t≤key v[j]:=fun t t1 t2=>by
    have:=k2 (t - i) (by omega)
    unfold isPast at this
    rw [if_neg (by decide),show i + (t - i)=t by omega] at this
    have:¬ key v[j] < kat key u t:=by simpa using this
    omega
  have hi':∀ t,i + k≤t→t < u.size→key v[j] < kat key u t:=fun t t1 t2=>by
    have:=k3 (t - i) (by omega) (by omega)
    unfold isPast at this
    rw [if_neg (by decide),show i + (t - i)=t by omega] at this
    have:key v[j] < kat key u t:=by simpa using this
    exact this
  have midx:∀ y∈u.toList.drop (i + k),kat key v j≤key y:=fun y hy=>by
    obtain ⟨r,r1,r2,r3⟩:=of_drop hy
    have:=hi' r r1 r2
    rw [kat_some r3] at this
    rw [kat_some e1]; omega
  by_cases hk0:k > 0
  · rw [if_pos hk0]
    have M2:MI key u v (o++u.extract i (i + k)) (i + k) j:=M.takeA (app_list _ u i k) (by omega) fun x hx' y hy=>by
      obtain ⟨t,t1,t2,t3,t4⟩:=of_take hx'
      obtain ⟨r,r1,r2,r3⟩:=of_drop hy
      have a1:=lo t t1 t2
      have a2:=P.sv j r (Nat.zero_le _) r1 r2
      rw [kat_some t4] at a1
      rw [kat_some e1,kat_some r3] at a2
      omega
    have ml2:=M2.len
    by_cases e3:i + k + 1=u.size
    · rw [if_pos (by simpa using e3)]
      exact wpS_pure (hd _ _ (fin2_ok M2 (P.lastA e3)))
    · rw [if_neg (by simpa using e3)]
      by_cases e4:i + k=u.size
      · rw [if_pos (by simpa using e4)]
        exact wpS_pure (hd _ _ (fin1_ok M2 (.inl e4)))
      · rw [if_neg (by simpa using e4)]
        exact galMid_ok L (st:=setGal st g) hk P M2 (by omega) hj midx (by omega) hd hn
  · rw [if_neg hk0]
    have k0:k=0:=by omega
    subst k0
    exact galMid_ok L (st:=setGal st g) hk P M hi hj midx (by omega) hd hn
theorem round_ok (L:LtOk prog w A E s a₀ κ key) {u v o:Array Keyed} {i j g:Nat} {st:SortSt} {Q:ForInStep St5→SortSt→Prop} (hk:kindOf st=κ) (P:Pre a₀ key u v) (M:MI key u v o i j) (hi:i + 1 < u.size) (hj:j < v.size)
    (hd:∀ z r g',Res key u v z→Q (.done (some z,r)) (setGal st g')) (hn:∀ o' i' j' g' g'',MI key u v o' i' j'→i' + 1 < u.size→j' < v.size→o.size < o'.size→Q (.yield (none,o',i',j',g')) (setGal st g'')) :
    wpS (model prog w) A E s (roundStep u v (none,o,i,j,g)) Q st:=by
  unfold roundStep
  have ml:=M.len
  refine wpS_bind (wpS_mono (wpS_forRange (I:=fun t c st'=>st'=st∧∃ o' i' j' ca cb,c=(none,o',i',j',ca,cb)∧MI key u v o' i' j'∧i' + 1 < u.size∧j' < v.size∧o.size + t≤o'.size)
    (Q:=fun c st'=>st'=st∧((∃ z r,c=(some z,r)∧Res key u v z)∨∃ o' i' j' ca cb,c=(none,o',i',j',ca,cb)∧MI key u v o' i' j'∧i' + 1 < u.size∧j' < v.size∧o.size < o'.size)) ?step ?fin ⟨rfl,o,i,j,0,0,rfl,M,hi,hj,by omega⟩) ?post)
  case fin =>
    rintro c st' ⟨rfl,o',i',j',ca,cb,rfl,M',h1,h2,h3⟩
    have:=M'.len
    omega
  case step =>
    rintro t c st' _ ht ⟨rfl,o',i',j',ca,cb,rfl,M',h1,h2,h3⟩
    exact one_ok L hk P M' h1 h2 (fun z r hz=>⟨rfl,.inl ⟨z,r,rfl,hz⟩⟩) fun o2 i2 j2 ca2 cb2 M2 g1 g2 g3=>⟨⟨rfl,.inr ⟨o2,i2,j2,ca2,cb2,rfl,M2,g1,g2,by omega⟩⟩,rfl,o2,i2,j2,ca2,cb2,rfl,M2,g1,g2,by omega⟩
  case post =>
    rintro c st' ⟨rfl,h⟩
    rcases h with ⟨z,r,rfl,hz⟩ | ⟨o',i',j',ca,cb,rfl,M',h1,h2,h3⟩
    · exact wpS_pure (hd z _ (gallopOf st') hz)
    · dsimp only
      refine wpS_bind (wpS_lift (wpAny_rule ⟨rfl,?_⟩))
      refine wpS_bind (wpS_mono (wpS_forRange (I:=fun t c st''=>∃ g',st''=setGal st' g'∧∃ o2 i2 j2 g2 ca cb,c=(none,o2,i2,j2,g2,ca,cb)∧MI key u v o2 i2 j2∧i2 + 1 < u.size∧j2 < v.size∧o'.size + t≤o2.size)
        (Q:=fun c st''=>∃ g',st''=setGal st' g'∧((∃ z r,c=(some z,r)∧Res key u v z)∨∃ o2 i2 j2 g2 ca cb,c=(none,o2,i2,j2,g2,ca,cb)∧MI key u v o2 i2 j2∧i2 + 1 < u.size∧j2 < v.size∧o.size < o2.size)) ?gstep ?gfin ⟨gallopOf st',rfl,o',i',j',g + 1,ca,cb,rfl,M',h1,h2,by omega⟩) ?gpost)
      case gfin =>
        rintro c st'' ⟨g',rfl,o2,i2,j2,g2,ca,cb,rfl,M2,q1,q2,q3⟩
        have:=M2.len
        have:=M'.len
        omega
      case gstep =>
        rintro t c st'' _ ht ⟨g',rfl,o2,i2,j2,g2,ca,cb,rfl,M2,q1,q2,q3⟩
        show wpS _ _ _ _ (galStep u v (none,o2,i2,j2,g2,ca,cb)) _ _
        unfold galStep
        dsimp only
        split
        · exact galTop_ok L (st:=setGal st' g') hk P M2 q1 q2 (fun z r hz=>⟨_,rfl,.inl ⟨z,r,rfl,hz⟩⟩) fun o3 i3 j3 g3 ca3 cb3 M3 k1 k2 k3=>⟨⟨_,rfl,.inr ⟨o3,i3,j3,g3,ca3,cb3,rfl,M3,k1,k2,by omega⟩⟩,_,rfl,o3,i3,j3,g3,ca3,cb3,rfl,M3,k1,k2,by omega⟩
        · exact galTop_ok L (st:=setGal st' g') hk P M2 q1 q2 (fun z r hz=>⟨_,rfl,.inl ⟨z,r,rfl,hz⟩⟩) fun o3 i3 j3 g3 ca3 cb3 M3 k1 k2 k3=>⟨⟨_,rfl,.inr ⟨o3,i3,j3,g3,ca3,cb3,rfl,M3,k1,k2,by omega⟩⟩,_,rfl,o3,i3,j3,g3,ca3,cb3,rfl,M3,k1,k2,by omega⟩
      case gpost =>
        rintro c st'' ⟨g',rfl,h⟩
        rcases h with ⟨z,r,rfl,hz⟩ | ⟨o2,i2,j2,g2,ca,cb,rfl,M2,q1,q2,q3⟩
        · exact wpS_pure (hd z _ g' hz)
        · dsimp only
          exact wpS_bind (wpS_modify (wpS_pure (hn o2 i2 j2 _ _ M2 q1 q2 q3)))
theorem lo_ok (L:LtOk prog w A E s a₀ κ key) {u v:Array Keyed} {st:SortSt} {Q:Array Keyed→SortSt→Prop} (hk:kindOf st=κ) (P:Pre a₀ key u v) (hd:∀ z g',Res key u v z→Q z (setGal st g')):wpS (model prog w) A E s (loP u v) Q st:=by
  rw [loP_eq]
  refine wpS_bind (wpS_lift (wpAny_rule ⟨rfl,?_⟩))
  have hu:=P.hu
  have hv:=P.hv
  have e1:v[0]? = some v[0]:=Array.getElem?_eq_getElem (by omega)
  refine wpS_bind (el_ok e1 ?_)
  have M0:MI key u v #[] 0 0:=⟨by simp,by simpa using srt_seg.mpr P.su,by simpa using srt_seg.mpr P.sv,Nat.zero_le _,Nat.zero_le _⟩
  have M:MI key u v #[v[0]] 0 (0 + 1):=M0.takeB (by have:=push_list #[] v e1; simpa using this) (by omega) fun x hx y hy=>by
    obtain ⟨t,t1,t2,t3,t4⟩:=of_take hx
    obtain ⟨r,r1,r2,r3⟩:=of_drop hy
    have et:t=0:=by omega
    rw [et] at t4
    have a1:=P.su 0 r (Nat.zero_le _) r1 r2
    have a2:=P.first
    rw [kat_some t4] at a2
    rw [kat_some r3] at a1
    omega
  rw [Nat.zero_add] at M
  by_cases c1:1=v.size
  · rw [if_pos (by simpa using c1)]
    exact wpS_pure (hd _ (gallopOf st) (fin1_ok M (.inr c1)))
  · rw [if_neg (by simpa using c1)]
    by_cases c2:0 + 1=u.size
    · rw [if_pos (by simpa using c2)]
      exact wpS_pure (hd _ (gallopOf st) (fin2_ok M (P.lastA c2)))
    · rw [if_neg (by simpa using c2)]
      refine wpS_bind (wpS_get ?_)
      refine wpS_bind (wpS_mono (wpS_forRange (I:=fun t c st'=>∃ g',st'=setGal st g'∧∃ o i j g,c=(none,o,i,j,g)∧MI key u v o i j∧i + 1 < u.size∧j < v.size∧t < o.size)
        (Q:=fun c st'=>∃ g',st'=setGal st g'∧∃ z r,c=(some z,r)∧Res key u v z) ?step ?fin ⟨gallopOf st,rfl,#[v[0]],0,1,_,rfl,M,by omega,by omega,by simp⟩) ?post)
      case fin =>
        rintro c st' ⟨g',rfl,o,i,j,g,rfl,M',h1,h2,h3⟩
        have:=M'.len
        omega
      case step =>
        rintro t c st' _ ht ⟨g',rfl,o,i,j,g,rfl,M',h1,h2,h3⟩
        exact round_ok L (st:=setGal st g') hk P M' h1 h2 (fun z r g2 hz=>⟨g2,rfl,z,r,rfl,hz⟩) fun o2 i2 j2 g2 g3 M2 q1 q2 q3=>⟨g3,rfl,o2,i2,j2,g2,rfl,M2,q1,q2,by omega⟩
      case post =>
        rintro c st' ⟨g',rfl,z,r,rfl,hz⟩
        exact wpS_pure (hd z g' hz)
end
end Tim

namespace Tim
open PySem PyProof.Rows
section
variable {prog:Program} {w:World} {A:Around} {E:Value→Shared→Prop} {s:Shared} {a₀:Array Keyed} {κ:SortKind} {key:Keyed→Int}

def hiP:Array Keyed→Array Keyed→StateT SortSt Sem (Array Keyed):=sortPriv% PySem.Builtin.mergeHi
abbrev Sh7:=Option (Array Keyed) × Nat × Nat × Array Keyed × Nat × Nat × Nat
abbrev Sh6:=Option (Array Keyed) × Nat × Nat × Array Keyed × Nat × Nat
abbrev Sh5:=Option (Array Keyed) × Nat × Nat × Array Keyed × Nat
def fih1 (u v o:Array Keyed) (i j:Nat):Array Keyed:=u.extract 0 i++v.extract 0 j++o.reverse
def fih2 (u v o:Array Keyed) (i j:Nat):Array Keyed:=v.extract 0 j++u.extract 0 i++o.reverse
def oneHi (u v:Array Keyed) (g:Nat) (r:Sh6):StateT SortSt Sem (ForInStep Sh6):=do
  let y ← elem' v (r.2.2.1 - 1)
  let x ← elem' u (r.2.1 - 1)
  let z ← lt' y x
  match z with
  | some won =>
    if won=true then do
      let x ← elem' u (r.2.1 - 1)
      if (r.2.1 - 1 == 0)=true then pure (.done (some (fih1 u v (r.2.2.2.1.push x) (r.2.1 - 1) r.2.2.1),r.2.1 - 1,r.2.2.1,r.2.2.2.1.push x,r.2.2.2.2.1 + 1,0))
      else if r.2.2.2.2.1 + 1 ≥ g then pure (.done (none,r.2.1 - 1,r.2.2.1,r.2.2.2.1.push x,r.2.2.2.2.1 + 1,0))
      else pure (.yield (none,r.2.1 - 1,r.2.2.1,r.2.2.2.1.push x,r.2.2.2.2.1 + 1,0))
    else do
      let y ← elem' v (r.2.2.1 - 1)
      if (r.2.2.1 - 1 == 1)=true then pure (.done (some (fih2 u v (r.2.2.2.1.push y) r.2.1 (r.2.2.1 - 1)),r.2.1,r.2.2.1 - 1,r.2.2.2.1.push y,0,r.2.2.2.2.2 + 1))
      else if r.2.2.2.2.2 + 1 ≥ g then pure (.done (none,r.2.1,r.2.2.1 - 1,r.2.2.2.1.push y,0,r.2.2.2.2.2 + 1))
      else pure (.yield (none,r.2.1,r.2.2.1 - 1,r.2.2.2.1.push y,0,r.2.2.2.2.2 + 1))
  | _=>pure (.done (some (fih1 u v r.2.2.2.1 r.2.1 r.2.2.1),r.2.1,r.2.2.1,r.2.2.2.1,r.2.2.2.2.1,r.2.2.2.2.2))
def ghEnd (u v o:Array Keyed) (i j g ca cb:Nat):StateT SortSt Sem (ForInStep Sh7):=do
  let x ← elem' u (i - 1)
  if (i - 1 == 0)=true then pure (.done (some (fih1 u v (o.push x) (i - 1) j),i - 1,j,o.push x,g,ca,cb))
  else if (decide (ca < 7) && decide (cb < 7))=true then pure (.done (none,i - 1,j,o.push x,g,ca,cb))
  else pure (.yield (none,i - 1,j,o.push x,g,ca,cb))
def ghMid (u v o:Array Keyed) (i j g ca cb:Nat):StateT SortSt Sem (ForInStep Sh7):=do
  let y ← elem' v (j - 1)
  if (j - 1 == 1)=true then pure (.done (some (fih2 u v (o.push y) i (j - 1)),i,j - 1,o.push y,g,ca,cb)) else do
    let x ← elem' u (i - 1)
    let z ← gallopP true x v 0 (j - 1) (j - 1 - 1)
    match z with
    | some k =>
      if j - 1 - k > 0 then
        if (k == 1)=true then pure (.done (some (fih2 u v (o.push y++(v.extract k (j - 1)).reverse) i k),i,k,o.push y++(v.extract k (j - 1)).reverse,g,ca,j - 1 - k))
        else if (k == 0)=true then pure (.done (some (fih1 u v (o.push y++(v.extract k (j - 1)).reverse) i k),i,k,o.push y++(v.extract k (j - 1)).reverse,g,ca,j - 1 - k))
        else ghEnd u v (o.push y++(v.extract k (j - 1)).reverse) i k g ca (j - 1 - k)
      else ghEnd u v (o.push y) i (j - 1) g ca (j - 1 - k)
    | _=>pure (.done (some (fih1 u v (o.push y) i (j - 1)),i,j - 1,o.push y,g,ca,cb))
def ghTop (u v o:Array Keyed) (i j g ca cb:Nat):StateT SortSt Sem (ForInStep Sh7):=do
  modify fun st=>setGal st g
  let y ← elem' v (j - 1)
  let z ← gallopP false y u 0 i (i - 1)
  match z with
  | some k =>
    if i - k > 0 then
      if (k == 0)=true then pure (.done (some (fih1 u v (o++(u.extract k i).reverse) k j),k,j,o++(u.extract k i).reverse,g,i - k,cb))
      else ghMid u v (o++(u.extract k i).reverse) k j g (i - k) cb
    else ghMid u v o i j g (i - k) cb
  | _=>pure (.done (some (fih1 u v o i j),i,j,o,g,ca,cb))
def ghStep (u v:Array Keyed) (r:Sh7):StateT SortSt Sem (ForInStep Sh7) :=
  if r.2.2.2.2.1 > 1 then ghTop u v r.2.2.2.1 r.2.1 r.2.2.1 (r.2.2.2.2.1 - 1) r.2.2.2.2.2.1 r.2.2.2.2.2.2 else ghTop u v r.2.2.2.1 r.2.1 r.2.2.1 r.2.2.2.2.1 r.2.2.2.2.2.1 r.2.2.2.2.2.2
def roundHi (u v:Array Keyed) (r:Sh5):StateT SortSt Sem (ForInStep Sh5):=do
  let q ← forIn [0:u.size + v.size] ((none,r.2.1,r.2.2.1,r.2.2.2.1,0,0):Sh6) fun _ q=>oneHi u v r.2.2.2.2 q
  match q.1 with
  | some z=>pure (.done (some z,q.2.1,q.2.2.1,q.2.2.2.1,r.2.2.2.2))
  | none=>do
    liftM (rule "list.sort.gallop")
    let p ← forIn [0:u.size + v.size] ((none,q.2.1,q.2.2.1,q.2.2.2.1,r.2.2.2.2 + 1,q.2.2.2.2.1,q.2.2.2.2.2):Sh7) fun _ p=>ghStep u v p
    match p.1 with
    | some z=>pure (.done (some z,p.2.1,p.2.2.1,p.2.2.2.1,p.2.2.2.2.1))
    | none=>do
      modify fun st=>setGal st (p.2.2.2.2.1 + 1)
      pure (.yield (none,p.2.1,p.2.2.1,p.2.2.2.1,p.2.2.2.2.1 + 1))
theorem hiP_eq (u v:Array Keyed):hiP u v=(do
    liftM (rule "list.sort.merge-hi")
    let x ← elem' u (u.size - 1)
    if (u.size - 1 == 0)=true then pure (fih1 u v #[x] (u.size - 1) v.size) else
      if (v.size == 1)=true then pure (fih2 u v #[x] (u.size - 1) v.size) else do
        let st ← get
        let r ← forIn [0:u.size + v.size] ((none,u.size - 1,v.size,#[x],gallopOf st):Sh5) fun _ r=>roundHi u v r
        match r.1 with
        | some z=>pure z
        | none=>liftM (unsupported "internal:list.sort.merge-bound" : Sem (Array Keyed))):=by
  kernel_rfl
theorem srt_mid2 {o m r:List Keyed} (h1:Srt key (m++o)) (h2:Srt key (r++o)) (h3:∀ x∈r,∀ y∈m,key x≤key y):Srt key (r++(m++o)):=by
  unfold Srt at h1 h2 ⊢
  rw [List.pairwise_append] at h2
  refine List.pairwise_append.mpr ⟨h2.1,h1,fun x hx y hy => ?_⟩
  rcases List.mem_append.mp hy with hy | hy
  · exact h3 x hx y hy
  · exact h2.2.2 x hx y hy
structure HI (key:Keyed→Int) (u v o:Array Keyed) (i j:Nat):Prop where
  perm:(u.toList.take i++v.toList.take j++o.toList.reverse).Perm (u.toList++v.toList)
  sa:Srt key (u.toList.take i++o.toList.reverse)
  sb:Srt key (v.toList.take j++o.toList.reverse)
  hi:i≤u.size
  hj:j≤v.size
theorem HI.len {u v o:Array Keyed} {i j:Nat} (h:HI key u v o i j):o.size + i + j=u.size + v.size:=by
  have:=h.perm.length_eq
  have h1:=h.hi
  have h2:=h.hj
  simp only [List.length_append,List.length_take,List.length_reverse,Array.length_toList] at this
  omega
theorem take_split (l:List Keyed) {k i:Nat} (h:k≤i):l.take k++(l.take i).drop k=l.take i:=by
  have:=List.take_append_drop k (l.take i)
  rwa [List.take_take,Nat.min_eq_left h] at this
theorem perm_a (T D V R W:List Keyed) (e:T++D=W):(T++V++(D++R)).Perm (W++V++R):=by
  rw [← e,List.append_assoc,List.append_assoc,List.append_assoc]
  refine List.Perm.append_left _ ?_
  rw [← List.append_assoc,← List.append_assoc]
  exact List.Perm.append_right _ List.perm_append_comm
theorem perm_b (T D U R W:List Keyed) (e:T++D=W):(U++T++(D++R)).Perm (U++W++R):=by
  rw [← e]
  simp only [List.append_assoc]
  exact List.Perm.refl _
theorem HI.takeA {u v o o':Array Keyed} {i j k:Nat} (h:HI key u v o i j) (ho:o'.toList.reverse=(u.toList.take i).drop k++o.toList.reverse) (hk:k≤i) (hl:∀ x∈v.toList.take j,∀ y∈(u.toList.take i).drop k,key x≤key y):HI key u v o' k j:=by
  have e:=take_split u.toList hk
  have hi:=h.hi
  refine ⟨?_,?_,?_,by omega,h.hj⟩
  · rw [ho]
    exact (perm_a _ _ _ _ _ e).trans h.perm
  · rw [ho,← List.append_assoc,e]; exact h.sa
  · rw [ho]
    have h1:Srt key ((u.toList.take i).drop k++o.toList.reverse):=by
      have:=h.sa
      rw [← e,List.append_assoc] at this
      exact (List.pairwise_append.mp this).2.1
    exact srt_mid2 h1 h.sb hl
theorem HI.takeB {u v o o':Array Keyed} {i j k:Nat} (h:HI key u v o i j) (ho:o'.toList.reverse=(v.toList.take j).drop k++o.toList.reverse) (hk:k≤j) (hl:∀ x∈u.toList.take i,∀ y∈(v.toList.take j).drop k,key x≤key y):HI key u v o' i k:=by
  have e:=take_split v.toList hk
  have hj:=h.hj
  refine ⟨?_,?_,?_,h.hi,by omega⟩
  · rw [ho]
    exact (perm_b _ _ _ _ _ e).trans h.perm
  · rw [ho]
    have h1:Srt key ((v.toList.take j).drop k++o.toList.reverse):=by
      have:=h.sb
      rw [← e,List.append_assoc] at this
      exact (List.pairwise_append.mp this).2.1
    exact srt_mid2 h1 h.sa hl
  · rw [ho,← List.append_assoc,e]; exact h.sb
theorem ext_head (u:Array Keyed) (i:Nat):(u.extract 0 i).toList=u.toList.take i:=by
  rw [Array.toList_extract,List.extract_eq_take_drop]; simp
theorem ext_part (u:Array Keyed) (k i:Nat):(u.extract k i).toList=(u.toList.take i).drop k:=by
  rw [Array.toList_extract,List.extract_eq_take_drop,List.drop_take]
theorem fih1_ok {u v o:Array Keyed} {i j:Nat} (h:HI key u v o i j) (he:i=0∨j=0):Res key u v (fih1 u v o i j):=by
  have e:(fih1 u v o i j).toList=u.toList.take i++v.toList.take j++o.toList.reverse:=by
    unfold fih1; rw [Array.toList_append,Array.toList_append,ext_head,ext_head,Array.toList_reverse]
  refine ⟨by rw [e]; exact h.perm,?_⟩
  rw [e]
  rcases he with he | he
  · rw [he]; simpa using h.sb
  · have:=h.sa
    rw [he]; simpa using this
theorem fih2_ok {u v o:Array Keyed} {i j:Nat} (h:HI key u v o i j) (hl:∀ x∈v.toList.take j,∀ y∈u.toList.take i,key x≤key y):Res key u v (fih2 u v o i j):=by
  have e:(fih2 u v o i j).toList=v.toList.take j++u.toList.take i++o.toList.reverse:=by
    unfold fih2; rw [Array.toList_append,Array.toList_append,ext_head,ext_head,Array.toList_reverse]
  refine ⟨?_,?_⟩
  · rw [e]
    exact (List.Perm.append_right _ List.perm_append_comm).trans h.perm
  · rw [e,List.append_assoc]; exact srt_mid2 h.sa h.sb hl
theorem of_head {u:Array Keyed} {i:Nat} {y:Keyed} (h:y∈u.toList.take i):∃ t,t < i∧t < u.size∧u[t]? = some y:=by
  obtain ⟨t,ht,e⟩:=List.getElem_of_mem h
  rw [List.length_take,Array.length_toList] at ht
  rw [List.getElem_take] at e
  refine ⟨t,by omega,by omega,?_⟩
  rw [← e,Array.getElem_toList]
  exact Array.getElem?_eq_getElem _
theorem of_part {u:Array Keyed} {i k:Nat} {y:Keyed} (h:y∈(u.toList.take i).drop k):∃ t,k≤t∧t < i∧t < u.size∧u[t]? = some y:=by
  rw [List.drop_take] at h
  obtain ⟨t,t1,t2,t3,t4⟩:=of_take h
  exact ⟨t,t1,by omega,t3,t4⟩
theorem Pre.firstB {u v:Array Keyed} {i j:Nat} (P:Pre a₀ key u v) (hj:j=1):∀ x∈v.toList.take j,∀ y∈u.toList.take i,key x≤key y:=fun x hx y hy=>by
  obtain ⟨t,h1,h2,h3⟩:=of_head hx
  obtain ⟨r,g1,g2,g3⟩:=of_head hy
  have e:t=0:=by omega
  rw [e] at h3
  rw [← kat_some (key:=key) h3,← kat_some (key:=key) g3]
  have:=P.su 0 r (Nat.zero_le _) (Nat.zero_le _) g2
  have:=P.first
  omega
theorem push_rev (o u:Array Keyed) {i:Nat} {x:Keyed} (h1:1≤i) (h:u[i - 1]? = some x):(o.push x).toList.reverse=(u.toList.take i).drop (i - 1)++o.toList.reverse:=by
  obtain ⟨hi,e⟩:=Array.getElem?_eq_some_iff.mp h
  have:(u.toList.take i).drop (i - 1)=[x]:=by
    rw [List.drop_take,show i - (i - 1)=1 by omega,List.drop_eq_getElem_cons (by simpa using hi),Array.getElem_toList,e]; rfl
  rw [this]; simp
theorem app_rev (o u:Array Keyed) (k i:Nat):(o++(u.extract k i).reverse).toList.reverse=(u.toList.take i).drop k++o.toList.reverse:=by
  rw [Array.toList_append,Array.toList_reverse,List.reverse_append,List.reverse_reverse,ext_part]
theorem oneHi_ok (L:LtOk prog w A E s a₀ κ key) {u v o:Array Keyed} {i j g ca cb:Nat} {st:SortSt} {Q:ForInStep Sh6→SortSt→Prop} (hk:kindOf st=κ) (P:Pre a₀ key u v) (M:HI key u v o i j) (hi:1≤i) (hj:2≤j)
    (hd:∀ z r,Res key u v z→Q (.done (some z,r)) st) (hn:∀ o' i' j' ca' cb',HI key u v o' i' j'→1≤i'→2≤j'→o.size < o'.size→Q (.done (none,i',j',o',ca',cb')) st∧Q (.yield (none,i',j',o',ca',cb')) st) :
    wpS (model prog w) A E s (oneHi u v g (none,i,j,o,ca,cb)) Q st:=by
  unfold oneHi
  have b1:=M.hi
  have b2:=M.hj
  have e1:v[j - 1]? = some v[j - 1]:=Array.getElem?_eq_getElem (by omega)
  have e2:u[i - 1]? = some u[i - 1]:=Array.getElem?_eq_getElem (by omega)
  dsimp only
  refine wpS_bind (el_ok e1 (wpS_bind (el_ok e2 (wpS_bind (lt_ok L hk (P.mv _ (at_mem e1)) (P.mu _ (at_mem e2)) ?_)))))
  dsimp only
  have ml:=M.len
  by_cases c:key v[j - 1] < key u[i - 1]
  · rw [if_pos (decide_eq_true c)]
    refine wpS_bind (el_ok e2 ?_)
    have M':HI key u v (o.push u[i - 1]) (i - 1) j:=M.takeA (push_rev o u hi e2) (by omega) fun x hx y hy=>by
      obtain ⟨r,r1,r2,r3⟩:=of_head hx
      obtain ⟨t,t1,t2,t3,t4⟩:=of_part hy
      have et:t=i - 1:=by omega
      rw [et,e2] at t4
      have ex:=Option.some.inj t4
      have:=P.sv r (j - 1) (Nat.zero_le _) (by omega) (by omega)
      rw [kat_some e1,kat_some r3] at this
      rw [← ex]; omega
    have ml':=M'.len
    by_cases e:i - 1=0
    · rw [if_pos (by simpa using e)]
      exact wpS_pure (hd _ _ (fih1_ok M' (.inl e)))
    · rw [if_neg (by simpa using e)]
      obtain ⟨q1,q2⟩:=hn _ (i - 1) j (ca + 1) 0 M' (by omega) hj (by omega)
      split
      · exact wpS_pure q1
      · exact wpS_pure q2
  · rw [if_neg (by simpa using c)]
    refine wpS_bind (el_ok e1 ?_)
    have M':HI key u v (o.push v[j - 1]) i (j - 1):=M.takeB (push_rev o v (by omega) e1) (by omega) fun x hx y hy=>by
      obtain ⟨r,r1,r2,r3⟩:=of_head hx
      obtain ⟨t,t1,t2,t3,t4⟩:=of_part hy
      have et:t=j - 1:=by omega
      rw [et,e1] at t4
      have ex:=Option.some.inj t4
      have:=P.su r (i - 1) (Nat.zero_le _) (by omega) (by omega)
      rw [kat_some e2,kat_some r3] at this
      rw [← ex]; omega
    have ml':=M'.len
    by_cases e:j - 1=1
    · rw [if_pos (by simpa using e)]
      exact wpS_pure (hd _ _ (fih2_ok M' (P.firstB e)))
    · rw [if_neg (by simpa using e)]
      obtain ⟨q1,q2⟩:=hn _ i (j - 1) 0 (cb + 1) M' hi (by omega) (by omega)
      split
      · exact wpS_pure q1
      · exact wpS_pure q2
theorem ghEnd_ok {u v o:Array Keyed} {i j g ca cb n:Nat} {st:SortSt} {Q:ForInStep Sh7→SortSt→Prop} (P:Pre a₀ key u v) (M:HI key u v o i j) (hi:1≤i) (hj:2≤j) (hx:∀ y∈v.toList.take j,key y≤kat key u (i - 1)) (hs:n≤o.size)
    (hd:∀ z r,Res key u v z→Q (.done (some z,r)) st) (hn:∀ o' i' j' g' ca' cb',HI key u v o' i' j'→1≤i'→2≤j'→n < o'.size→Q (.done (none,i',j',o',g',ca',cb')) st∧Q (.yield (none,i',j',o',g',ca',cb')) st) :
    wpS (model prog w) A E s (ghEnd u v o i j g ca cb) Q st:=by
  unfold ghEnd
  have b1:=M.hi
  have e2:u[i - 1]? = some u[i - 1]:=Array.getElem?_eq_getElem (by omega)
  refine wpS_bind (el_ok e2 ?_)
  have ml:=M.len
  have M':HI key u v (o.push u[i - 1]) (i - 1) j:=M.takeA (push_rev o u hi e2) (by omega) fun x hx' y hy=>by
    obtain ⟨t,t1,t2,t3,t4⟩:=of_part hy
    have et:t=i - 1:=by omega
    rw [et,e2] at t4
    have ex:=Option.some.inj t4
    have:=hx x hx'
    rw [kat_some e2] at this
    rw [← ex]; exact this
  have ml':=M'.len
  by_cases e:i - 1=0
  · rw [if_pos (by simpa using e)]
    exact wpS_pure (hd _ _ (fih1_ok M' (.inl e)))
  · rw [if_neg (by simpa using e)]
    obtain ⟨q1,q2⟩:=hn _ (i - 1) j g ca cb M' (by omega) hj (by omega)
    split
    · exact wpS_pure q1
    · exact wpS_pure q2
theorem ghMid_ok (L:LtOk prog w A E s a₀ κ key) {u v o:Array Keyed} {i j g ca cb n:Nat} {st:SortSt} {Q:ForInStep Sh7→SortSt→Prop} (hk:kindOf st=κ) (P:Pre a₀ key u v) (M:HI key u v o i j) (hi:1≤i) (hj:2≤j) (hx:∀ y∈u.toList.take i,key y≤kat key v (j - 1)) (hs:n≤o.size)
    (hd:∀ z r,Res key u v z→Q (.done (some z,r)) st) (hn:∀ o' i' j' g' ca' cb',HI key u v o' i' j'→1≤i'→2≤j'→n < o'.size→Q (.done (none,i',j',o',g',ca',cb')) st∧Q (.yield (none,i',j',o',g',ca',cb')) st) :
    wpS (model prog w) A E s (ghMid u v o i j g ca cb) Q st:=by
  unfold ghMid
  have b1:=M.hi
  have b2:=M.hj
  have e1:v[j - 1]? = some v[j - 1]:=Array.getElem?_eq_getElem (by omega)
  have e2:u[i - 1]? = some u[i - 1]:=Array.getElem?_eq_getElem (by omega)
  refine wpS_bind (el_ok e1 ?_)
  have ml:=M.len
  have M':HI key u v (o.push v[j - 1]) i (j - 1):=M.takeB (push_rev o v (by omega) e1) (by omega) fun x hx' y hy=>by
    obtain ⟨t,t1,t2,t3,t4⟩:=of_part hy
    have et:t=j - 1:=by omega
    rw [et,e1] at t4
    have ex:=Option.some.inj t4
    have:=hx x hx'
    rw [kat_some e1] at this
    rw [← ex]; exact this
  have ml':=M'.len
  by_cases e:j - 1=1
  · rw [if_pos (by simpa using e)]
    exact wpS_pure (hd _ _ (fih2_ok M' (P.firstB e)))
  · rw [if_neg (by simpa using e)]
    refine wpS_bind (el_ok e2 (wpS_bind (gallop_ok L hk (P.mu _ (at_mem e2)) P.mv (by omega) (by omega) (seg_sub P.sv (by omega) (by omega)) fun k k1 k2 k3 => ?_)))
    dsimp only
    have lo:∀ t,t < k→kat key v t < key u[i - 1]:=fun t t1=>by
      have:=k2 t t1
      unfold isPast at this
      rw [if_pos rfl,Nat.zero_add] at this
      exact of_decide_eq_true this
    have up:∀ t,k≤t→t < j - 1→key u[i - 1]≤kat key v t:=fun t t1 t2=>by
      have:=k3 t t1 t2
      unfold isPast at this
      rw [if_pos rfl,Nat.zero_add] at this
      have:=of_decide_eq_false this
      omega
    have endx:∀ y∈v.toList.take k,key y≤kat key u (i - 1):=fun y hy=>by
      obtain ⟨r,r1,r2,r3⟩:=of_head hy
      have:=lo r r1
      rw [kat_some r3] at this
      rw [kat_some e2]; omega
    by_cases hk0:j - 1 - k > 0
    · rw [if_pos hk0]
      have M2:HI key u v (o.push v[j - 1]++(v.extract k (j - 1)).reverse) i k:=M'.takeB (app_rev _ v k (j - 1)) (by omega) fun x hx' y hy=>by
        obtain ⟨r,r1,r2,r3⟩:=of_head hx'
        obtain ⟨t,t1,t2,t3,t4⟩:=of_part hy
        have a1:=up t t1 t2
        have a2:=P.su r (i - 1) (Nat.zero_le _) (by omega) (by omega)
        rw [kat_some t4] at a1
        rw [kat_some e2,kat_some r3] at a2
        omega
      have ml2:=M2.len
      by_cases e3:k=1
      · rw [if_pos (by simpa using e3)]
        exact wpS_pure (hd _ _ (fih2_ok M2 (P.firstB e3)))
      · rw [if_neg (by simpa using e3)]
        by_cases e4:k=0
        · rw [if_pos (by simpa using e4)]
          exact wpS_pure (hd _ _ (fih1_ok M2 (.inr e4)))
        · rw [if_neg (by simpa using e4)]
          exact ghEnd_ok P M2 hi (by omega) endx (by omega) hd hn
    · rw [if_neg hk0]
      have k0:k=j - 1:=by omega
      subst k0
      exact ghEnd_ok P M' hi (by omega) endx (by omega) hd hn
theorem ghTop_ok (L:LtOk prog w A E s a₀ κ key) {u v o:Array Keyed} {i j g ca cb:Nat} {st:SortSt} {Q:ForInStep Sh7→SortSt→Prop} (hk:kindOf st=κ) (P:Pre a₀ key u v) (M:HI key u v o i j) (hi:1≤i) (hj:2≤j)
    (hd:∀ z r,Res key u v z→Q (.done (some z,r)) (setGal st g)) (hn:∀ o' i' j' g' ca' cb',HI key u v o' i' j'→1≤i'→2≤j'→o.size < o'.size→Q (.done (none,i',j',o',g',ca',cb')) (setGal st g)∧Q (.yield (none,i',j',o',g',ca',cb')) (setGal st g)) :
    wpS (model prog w) A E s (ghTop u v o i j g ca cb) Q st:=by
  unfold ghTop
  have b1:=M.hi
  have b2:=M.hj
  have e1:v[j - 1]? = some v[j - 1]:=Array.getElem?_eq_getElem (by omega)
  refine wpS_bind (wpS_modify (wpS_bind (el_ok e1 (wpS_bind (gallop_ok L hk (P.mv _ (at_mem e1)) P.mu (by omega) (by omega) (seg_sub P.su (by omega) (by omega)) fun k k1 k2 k3 => ?_)))))
  dsimp only
  have ml:=M.len
  have lo:∀ t,t < k→kat key u t≤key v[j - 1]:=fun t t1=>by
    have:=k2 t t1
    unfold isPast at this
    rw [if_neg (by decide),Nat.zero_add] at this
    have:¬ key v[j - 1] < kat key u t:=by simpa using this
    omega
  have up:∀ t,k≤t→t < i→key v[j - 1] < kat key u t:=fun t t1 t2=>by
    have:=k3 t t1 t2
    unfold isPast at this
    rw [if_neg (by decide),Nat.zero_add] at this
    have:key v[j - 1] < kat key u t:=by simpa using this
    exact this
  have midx:∀ y∈u.toList.take k,key y≤kat key v (j - 1):=fun y hy=>by
    obtain ⟨r,r1,r2,r3⟩:=of_head hy
    have:=lo r r1
    rw [kat_some r3] at this
    rw [kat_some e1]; omega
  by_cases hk0:i - k > 0
  · rw [if_pos hk0]
    have M2:HI key u v (o++(u.extract k i).reverse) k j:=M.takeA (app_rev _ u k i) (by omega) fun x hx' y hy=>by
      obtain ⟨r,r1,r2,r3⟩:=of_head hx'
      obtain ⟨t,t1,t2,t3,t4⟩:=of_part hy
      have a1:=up t t1 t2
      have a2:=P.sv r (j - 1) (Nat.zero_le _) (by omega) (by omega)
      rw [kat_some t4] at a1
      rw [kat_some e1,kat_some r3] at a2
      omega
    have ml2:=M2.len
    by_cases e3:k=0
    · rw [if_pos (by simpa using e3)]
      exact wpS_pure (hd _ _ (fih1_ok M2 (.inl e3)))
    · rw [if_neg (by simpa using e3)]
      exact ghMid_ok L (st:=setGal st g) hk P M2 (by omega) hj midx (by omega) hd hn
  · rw [if_neg hk0]
    have k0:k=i:=by omega
    subst k0
    exact ghMid_ok L (st:=setGal st g) hk P M hi hj midx (by omega) hd hn
theorem roundHi_ok (L:LtOk prog w A E s a₀ κ key) {u v o:Array Keyed} {i j g:Nat} {st:SortSt} {Q:ForInStep Sh5→SortSt→Prop} (hk:kindOf st=κ) (P:Pre a₀ key u v) (M:HI key u v o i j) (hi:1≤i) (hj:2≤j)
    (hd:∀ z r g',Res key u v z→Q (.done (some z,r)) (setGal st g')) (hn:∀ o' i' j' g' g'',HI key u v o' i' j'→1≤i'→2≤j'→o.size < o'.size→Q (.yield (none,i',j',o',g')) (setGal st g'')) :
    wpS (model prog w) A E s (roundHi u v (none,i,j,o,g)) Q st:=by
  unfold roundHi
  have ml:=M.len
  refine wpS_bind (wpS_mono (wpS_forRange (I:=fun t c st'=>st'=st∧∃ o' i' j' ca cb,c=(none,i',j',o',ca,cb)∧HI key u v o' i' j'∧1≤i'∧2≤j'∧o.size + t≤o'.size)
    (Q:=fun c st'=>st'=st∧((∃ z r,c=(some z,r)∧Res key u v z)∨∃ o' i' j' ca cb,c=(none,i',j',o',ca,cb)∧HI key u v o' i' j'∧1≤i'∧2≤j'∧o.size < o'.size)) ?step ?fin ⟨rfl,o,i,j,0,0,rfl,M,hi,hj,by omega⟩) ?post)
  case fin =>
    rintro c st' ⟨rfl,o',i',j',ca,cb,rfl,M',h1,h2,h3⟩
    have:=M'.len
    omega
  case step =>
    rintro t c st' _ ht ⟨rfl,o',i',j',ca,cb,rfl,M',h1,h2,h3⟩
    exact oneHi_ok L hk P M' h1 h2 (fun z r hz=>⟨rfl,.inl ⟨z,r,rfl,hz⟩⟩) fun o2 i2 j2 ca2 cb2 M2 g1 g2 g3=>⟨⟨rfl,.inr ⟨o2,i2,j2,ca2,cb2,rfl,M2,g1,g2,by omega⟩⟩,rfl,o2,i2,j2,ca2,cb2,rfl,M2,g1,g2,by omega⟩
  case post =>
    rintro c st' ⟨rfl,h⟩
    rcases h with ⟨z,r,rfl,hz⟩ | ⟨o',i',j',ca,cb,rfl,M',h1,h2,h3⟩
    · exact wpS_pure (hd z _ (gallopOf st') hz)
    · dsimp only
      refine wpS_bind (wpS_lift (wpAny_rule ⟨rfl,?_⟩))
      refine wpS_bind (wpS_mono (wpS_forRange (I:=fun t c st''=>∃ g',st''=setGal st' g'∧∃ o2 i2 j2 g2 ca cb,c=(none,i2,j2,o2,g2,ca,cb)∧HI key u v o2 i2 j2∧1≤i2∧2≤j2∧o'.size + t≤o2.size)
        (Q:=fun c st''=>∃ g',st''=setGal st' g'∧((∃ z r,c=(some z,r)∧Res key u v z)∨∃ o2 i2 j2 g2 ca cb,c=(none,i2,j2,o2,g2,ca,cb)∧HI key u v o2 i2 j2∧1≤i2∧2≤j2∧o.size < o2.size)) ?gstep ?gfin ⟨gallopOf st',rfl,o',i',j',g + 1,ca,cb,rfl,M',h1,h2,by omega⟩) ?gpost)
      case gfin =>
        rintro c st'' ⟨g',rfl,o2,i2,j2,g2,ca,cb,rfl,M2,q1,q2,q3⟩
        have:=M2.len
        have:=M'.len
        omega
      case gstep =>
        rintro t c st'' _ ht ⟨g',rfl,o2,i2,j2,g2,ca,cb,rfl,M2,q1,q2,q3⟩
        show wpS _ _ _ _ (ghStep u v (none,i2,j2,o2,g2,ca,cb)) _ _
        unfold ghStep
        dsimp only
        split
        · exact ghTop_ok L (st:=setGal st' g') hk P M2 q1 q2 (fun z r hz=>⟨_,rfl,.inl ⟨z,r,rfl,hz⟩⟩) fun o3 i3 j3 g3 ca3 cb3 M3 k1 k2 k3=>⟨⟨_,rfl,.inr ⟨o3,i3,j3,g3,ca3,cb3,rfl,M3,k1,k2,by omega⟩⟩,_,rfl,o3,i3,j3,g3,ca3,cb3,rfl,M3,k1,k2,by omega⟩
        · exact ghTop_ok L (st:=setGal st' g') hk P M2 q1 q2 (fun z r hz=>⟨_,rfl,.inl ⟨z,r,rfl,hz⟩⟩) fun o3 i3 j3 g3 ca3 cb3 M3 k1 k2 k3=>⟨⟨_,rfl,.inr ⟨o3,i3,j3,g3,ca3,cb3,rfl,M3,k1,k2,by omega⟩⟩,_,rfl,o3,i3,j3,g3,ca3,cb3,rfl,M3,k1,k2,by omega⟩
      case gpost =>
        rintro c st'' ⟨g',rfl,h⟩
        rcases h with ⟨z,r,rfl,hz⟩ | ⟨o2,i2,j2,g2,ca,cb,rfl,M2,q1,q2,q3⟩
        · exact wpS_pure (hd z _ g' hz)
        · dsimp only
          exact wpS_bind (wpS_modify (wpS_pure (hn o2 i2 j2 _ _ M2 q1 q2 q3)))
theorem hi_ok (L:LtOk prog w A E s a₀ κ key) {u v:Array Keyed} {st:SortSt} {Q:Array Keyed→SortSt→Prop} (hk:kindOf st=κ) (P:Pre a₀ key u v) (hd:∀ z g',Res key u v z→Q z (setGal st g')):wpS (model prog w) A E s (hiP u v) Q st:=by
  rw [hiP_eq]
  refine wpS_bind (wpS_lift (wpAny_rule ⟨rfl,?_⟩))
  have hu:=P.hu
  have hv:=P.hv
  have e2:u[u.size - 1]? = some u[u.size - 1]:=Array.getElem?_eq_getElem (by omega)
  refine wpS_bind (el_ok e2 ?_)
  have tu:u.toList.take u.size=u.toList:=List.take_of_length_le (by simp)
  have tv:v.toList.take v.size=v.toList:=List.take_of_length_le (by simp)
  have M0:HI key u v #[] u.size v.size:=⟨by rw [tu,tv]; simp,by rw [tu]; simpa using srt_seg.mpr P.su,by rw [tv]; simpa using srt_seg.mpr P.sv,Nat.le_refl _,Nat.le_refl _⟩
  have M:HI key u v #[u[u.size - 1]] (u.size - 1) v.size:=M0.takeA (by have:=push_rev #[] u (by omega) e2; simpa using this) (by omega) fun x hx y hy=>by
    obtain ⟨r,r1,r2,r3⟩:=of_head hx
    obtain ⟨t,t1,t2,t3,t4⟩:=of_part hy
    have et:t=u.size - 1:=by omega
    rw [et] at t4
    have a1:=P.sv r (v.size - 1) (Nat.zero_le _) (by omega) (by omega)
    have a2:=P.last
    rw [kat_some t4] at a2
    rw [kat_some r3] at a1
    omega
  by_cases c1:u.size - 1=0
  · rw [if_pos (by simpa using c1)]
    exact wpS_pure (hd _ (gallopOf st) (fih1_ok M (.inl c1)))
  · rw [if_neg (by simpa using c1)]
    by_cases c2:v.size=1
    · rw [if_pos (by simpa using c2)]
      exact wpS_pure (hd _ (gallopOf st) (fih2_ok M (P.firstB c2)))
    · rw [if_neg (by simpa using c2)]
      refine wpS_bind (wpS_get ?_)
      refine wpS_bind (wpS_mono (wpS_forRange (I:=fun t c st'=>∃ g',st'=setGal st g'∧∃ o i j g,c=(none,i,j,o,g)∧HI key u v o i j∧1≤i∧2≤j∧t < o.size)
        (Q:=fun c st'=>∃ g',st'=setGal st g'∧∃ z r,c=(some z,r)∧Res key u v z) ?step ?fin ⟨gallopOf st,rfl,#[u[u.size - 1]],u.size - 1,v.size,_,rfl,M,by omega,by omega,by simp⟩) ?post)
      case fin =>
        rintro c st' ⟨g',rfl,o,i,j,g,rfl,M',h1,h2,h3⟩
        have:=M'.len
        omega
      case step =>
        rintro t c st' _ ht ⟨g',rfl,o,i,j,g,rfl,M',h1,h2,h3⟩
        exact roundHi_ok L (st:=setGal st g') hk P M' h1 h2 (fun z r g2 hz=>⟨g2,rfl,z,r,rfl,hz⟩) fun o2 i2 j2 g2 g3 M2 q1 q2 q3=>⟨g3,rfl,o2,i2,j2,g2,rfl,M2,q1,q2,by omega⟩
      case post =>
        rintro c st' ⟨g',rfl,z,r,rfl,hz⟩
        exact wpS_pure (hd z g' hz)
end
end Tim

namespace Tim
open PySem PyProof.Rows
section
variable {prog:Program} {w:World} {A:Around} {E:Value→Shared→Prop} {s:Shared} {a₀:Array Keyed} {κ:SortKind} {key:Keyed→Int}

abbrev Sa:=Option (Option Nat) × Nat
abbrev Sd:=Option (Option Nat) × Nat × Nat
def riseL (lo a n:Nat):StateT SortSt Sem Sa :=
  forIn [a:n] ((none,a):Sa) fun _ r=>do
    let z ← ltAt' (lo + r.2) (lo + r.2 - 1)
    match z with
    | some less=>if less=true then pure (.done (none,r.2)) else pure (.yield (none,r.2 + 1))
    | _=>pure (.done (some none,r.2))
def fallL (lo a n:Nat):StateT SortSt Sem Sd :=
  forIn [a:n] ((none,a,0):Sd) fun _ r=>do
    let z ← ltAt' (lo + r.2.1) (lo + r.2.1 - 1)
    match z with
    | some less =>
      if less=true then
        if r.2.2 > 0 then do
          reverseSlice' (lo + r.2.1 - (r.2.2 + 1)) (lo + r.2.1)
          pure (.yield (none,r.2.1 + 1,0))
        else pure (.yield (none,r.2.1 + 1,0))
      else do
        let y ← ltAt' (lo + r.2.1 - 1) (lo + r.2.1)
        match y with
        | some more=>if more=true then pure (.done (none,r.2.1,r.2.2)) else pure (.yield (none,r.2.1 + 1,r.2.2 + 1))
        | _=>pure (.done (some none,r.2.1,r.2.2))
    | _=>pure (.done (some none,r.2.1,r.2.2))
def riseEnd (lo m n:Nat):StateT SortSt Sem (Option Nat):=do
  reverseSlice' lo (lo + m)
  let r ← riseL lo m n
  match r.1 with
  | some v=>pure v
  | none=>pure (some r.2)
def fallPart (lo m n:Nat):StateT SortSt Sem (Option Nat):=do
  liftM (rule "list.sort.descending-run")
  let r ← fallL lo (m + 1) n
  match r.1 with
  | some v=>pure v
  | none =>
    if r.2.2 > 0 then do
      reverseSlice' (lo + r.2.1 - (r.2.2 + 1)) (lo + r.2.1)
      riseEnd lo r.2.1 n
    else riseEnd lo r.2.1 n
theorem run_eq (lo n:Nat):countRun' lo n=(do
    let r ← riseL lo 1 n
    match r.1 with
    | some v=>pure v
    | none =>
      if (r.2 == n)=true then pure (some r.2)
      else if r.2 > 1 then do
        let z ← ltAt' lo (lo + r.2 - 1)
        match z with
        | some up=>if up=true then pure (some r.2) else do
            reverseSlice' lo (lo + r.2)
            fallPart lo r.2 n
        | _=>pure none
      else fallPart lo r.2 n):=by
  kernel_rfl
def Fal (key:Keyed→Int) (xs:Array Keyed) (lo hi:Nat):Prop:=∀ i j,lo≤i→i≤j→j < hi→kat key xs j≤kat key xs i

def Off (xs ys:Array Keyed) (lo hi:Nat):Prop:=∀ t,(t < lo∨hi≤t)→ys[t]? = xs[t]?
theorem Off.refl (xs:Array Keyed) (lo hi:Nat):Off xs xs lo hi:=fun _ _=>rfl
theorem Off.trans {xs ys zs:Array Keyed} {lo hi:Nat} (h:Off xs ys lo hi) (g:Off ys zs lo hi):Off xs zs lo hi:=fun t ht=>(g t ht).trans (h t ht)
theorem kat_mir {xs:Array Keyed} {i j:Nat} (hj:j≤xs.size) (k:Nat):kat key (mirror xs i j ((j - i) / 2)) k=if i≤k∧k < j then kat key xs (i + j - 1 - k) else kat key xs k:=by
  have e:=getElem?_mirror_all (i:=i) hj k
  by_cases h1:i≤k∧k < j
  · rw [if_pos h1] at e ⊢; exact kat_of e
  · rw [if_neg h1] at e ⊢; exact kat_of e
theorem off_mir {xs:Array Keyed} {i j lo hi:Nat} (hj:j≤xs.size) (h1:lo≤i) (h2:j≤hi):Off xs (mirror xs i j ((j - i) / 2)) lo hi:=fun t ht=>by
  rw [getElem?_mirror_all hj,if_neg (by omega)]
theorem kat_mir_same {xs:Array Keyed} {i j:Nat} (hj:j≤xs.size) (he:∀ k,i≤k→k < j→kat key xs k=kat key xs (j - 1)) (k:Nat):kat key (mirror xs i j ((j - i) / 2)) k=kat key xs k:=by
  rw [kat_mir hj]
  split
  · rw [he _ (by omega) (by omega),he k (by omega) (by omega)]
  · rfl
theorem rev_ok {st:SortSt} {i j:Nat} {Q:Unit→SortSt→Prop} (h:Q () (setArr st (mirror (arrOf st) i j ((j - i) / 2)))):wpS (model prog w) A E s (reverseSlice' i j) Q st:=by
  rw [reverseSlice'_eq]; exact wpS_modify h
theorem rise_ok (L:LtOk prog w A E s a₀ κ key) {lo a n:Nat} {st:SortSt} {Q:Sa→SortSt→Prop} (hB:SB a₀ κ st) (hz:lo + n≤a₀.size) (h1:1≤a) (han:a≤n) (hs:Seg key (arrOf st) lo (lo + a))
    (h:∀ m,a≤m→m≤n→Seg key (arrOf st) lo (lo + m)→(m=n∨kat key (arrOf st) (lo + m) < kat key (arrOf st) (lo + m - 1))→Q (none,m) st):wpS (model prog w) A E s (riseL lo a n) Q st:=by
  unfold riseL
  refine wpS_forRange (I:=fun t c st'=>st'=st∧c=(none,t)∧Seg key (arrOf st) lo (lo + t)) ?step ?fin ⟨rfl,rfl,hs⟩
  case fin =>
    rintro c st' ⟨rfl,rfl,hs'⟩
    rw [show max a n=n by omega] at hs' ⊢
    exact h n han (Nat.le_refl _) hs' (.inl rfl)
  case step =>
    rintro t c st' ht htn ⟨rfl,rfl,hs'⟩
    refine wpS_bind (ltAt_ok L hB (by dsimp only; omega) (by dsimp only; omega) ?_)
    dsimp only
    by_cases e:kat key (arrOf st') (lo + t) < kat key (arrOf st') (lo + t - 1)
    · rw [if_pos (decide_eq_true e)]
      exact wpS_pure (h t ht (by omega) hs' (.inr e))
    · rw [if_neg (by simpa using e)]
      refine wpS_pure ⟨rfl,rfl,fun i j x y z => ?_⟩
      by_cases q:j < lo + t
      · exact hs' i j x y q
      · have ej:j=lo + t:=by omega
        subst ej
        by_cases q2:i=lo + t
        · rw [q2]; exact Int.le_refl _
        · have:=hs' i (lo + t - 1) x (by omega) (by omega)
          omega
theorem riseEnd_ok (L:LtOk prog w A E s a₀ κ key) {lo m n:Nat} {st:SortSt} {Q:Option Nat→SortSt→Prop} (hB:SB a₀ κ st) (hz:lo + n≤a₀.size) (h1:1≤m) (hmn:m≤n) (hs:Fal key (arrOf st) lo (lo + m))
    (h:∀ k xs,1≤k→k≤n→xs.Perm (arrOf st)→Off (arrOf st) xs lo (lo + n)→Seg key xs lo (lo + k)→Q (some k) (setArr st xs)):wpS (model prog w) A E s (riseEnd lo m n) Q st:=by
  unfold riseEnd
  have hsz:lo + m≤(arrOf st).size:=by rw [hB.size]; omega
  refine wpS_bind (rev_ok ?_)
  have hp:(mirror (arrOf st) lo (lo + m) ((lo + m - lo) / 2)).Perm (arrOf st):=mirror_perm _ _ _ _
  have hB':=hB.set hp
  refine wpS_bind (rise_ok L hB' hz h1 hmn (fun i j x y z => ?_) fun k k1 k2 k3 _=>wpS_pure (h k _ (by omega) k2 hp (off_mir hsz (by omega) (by omega)) k3))
  show kat key (mirror (arrOf st) lo (lo + m) ((lo + m - lo) / 2)) i≤kat key (mirror (arrOf st) lo (lo + m) ((lo + m - lo) / 2)) j
  rw [kat_mir hsz,kat_mir hsz,if_pos (by omega),if_pos (by omega)]
  exact hs _ _ (by omega) (by omega) (by omega)
theorem fall_ok (L:LtOk prog w A E s a₀ κ key) {lo a n:Nat} {st:SortSt} {Q:Sd→SortSt→Prop} (hB:SB a₀ κ st) (hz:lo + n≤a₀.size) (h1:1≤a) (han:a≤n) (hs:Fal key (arrOf st) lo (lo + a))
    (h:∀ m q xs,a≤m→m≤n→xs.Perm (arrOf st)→Off (arrOf st) xs lo (lo + n)→Fal key xs lo (lo + m)→q + 1≤m→(∀ i,lo + m - (q + 1)≤i→i < lo + m→kat key xs i=kat key xs (lo + m - 1))→Q (none,m,q) (setArr st xs)):wpS (model prog w) A E s (fallL lo a n) Q st:=by
  unfold fallL
  refine wpS_forRange (I:=fun t c st'=>∃ q xs,st'=setArr st xs∧c=(none,t,q)∧xs.Perm (arrOf st)∧Off (arrOf st) xs lo (lo + n)∧Fal key xs lo (lo + t)∧q + 1≤t∧∀ i,lo + t - (q + 1)≤i→i < lo + t→kat key xs i=kat key xs (lo + t - 1)) ?step ?fin
    ⟨0,arrOf st,rfl,rfl,Array.Perm.refl _,Off.refl _ _ _,hs,by omega,fun i x y=>by congr 1; omega⟩
  case fin =>
    rintro c st' ⟨q,xs,rfl,rfl,hp,ho,hf,hq,he⟩
    rw [show max a n=n by omega] at hf hq he ⊢
    exact h n q xs han (Nat.le_refl _) hp ho hf hq he
  case step =>
    rintro t c st' ht htn ⟨q,xs,rfl,rfl,hp,ho,hf,hq,he⟩
    have hB':=hB.set hp
    have hsz:lo + t≤xs.size:=by rw [hp.size_eq,hB.size]; omega
    refine wpS_bind (ltAt_ok L hB' (by dsimp only; omega) (by dsimp only; omega) ?_)
    dsimp only
    show wpS _ _ _ _ (if decide (kat key xs (lo + t) < kat key xs (lo + t - 1))=true then _ else _) _ _
    by_cases e:kat key xs (lo + t) < kat key xs (lo + t - 1)
    · rw [if_pos (decide_eq_true e)]
      have step1:∀ ys:Array Keyed,(∀ k,kat key ys k=kat key xs k)→Fal key ys lo (lo + (t + 1)):=by
        intro ys hk i j x y z
        rw [hk,hk]
        by_cases r:j < lo + t
        · exact hf i j x y r
        · have ej:j=lo + t:=by omega
          subst ej
          by_cases q2:i=lo + t
          · rw [q2]; exact Int.le_refl _
          · have:=hf i (lo + t - 1) x (by omega) (by omega)
            omega
      by_cases hq0:q > 0
      · rw [if_pos hq0]
        refine wpS_bind (rev_ok (wpS_pure ⟨0,mirror xs (lo + t - (q + 1)) (lo + t) ((lo + t - (lo + t - (q + 1))) / 2),rfl,rfl,(mirror_perm _ _ _ _).trans hp,ho.trans (off_mir hsz (by omega) (by omega)),step1 _ (kat_mir_same hsz he),by omega,fun i x y=>by congr 1; omega⟩))
      · rw [if_neg hq0]
        exact wpS_pure ⟨0,xs,rfl,rfl,hp,ho,step1 _ (fun _=>rfl),by omega,fun i x y=>by congr 1; omega⟩
    · rw [if_neg (by simpa using e)]
      refine wpS_bind (ltAt_ok L hB' (by omega) (by omega) ?_)
      dsimp only
      show wpS _ _ _ _ (if decide (kat key xs (lo + t - 1) < kat key xs (lo + t))=true then _ else _) _ _
      by_cases e2:kat key xs (lo + t - 1) < kat key xs (lo + t)
      · rw [if_pos (decide_eq_true e2)]
        exact wpS_pure (h t q xs ht (by omega) hp ho hf hq he)
      · rw [if_neg (by simpa using e2)]
        have eq:kat key xs (lo + t)=kat key xs (lo + t - 1):=by omega
        refine wpS_pure ⟨q + 1,xs,rfl,rfl,hp,ho,fun i j x y z => ?_,by omega,fun i x y => ?_⟩
        · by_cases r:j < lo + t
          · exact hf i j x y r
          · have ej:j=lo + t:=by omega
            subst ej
            by_cases q2:i=lo + t
            · rw [q2]; exact Int.le_refl _
            · rw [eq]; exact hf i (lo + t - 1) x (by omega) (by omega)
        · rw [show lo + (t + 1) - 1=lo + t by omega]
          by_cases q2:i=lo + t
          · rw [q2]
          · rw [eq]; exact he i (by omega) (by omega)
theorem fallPart_ok (L:LtOk prog w A E s a₀ κ key) {lo m n:Nat} {st:SortSt} {Q:Option Nat→SortSt→Prop} (hB:SB a₀ κ st) (hz:lo + n≤a₀.size) (hmn:m + 1≤n) (hs:Fal key (arrOf st) lo (lo + (m + 1)))
    (h:∀ k xs,1≤k→k≤n→xs.Perm (arrOf st)→Off (arrOf st) xs lo (lo + n)→Seg key xs lo (lo + k)→Q (some k) (setArr st xs)):wpS (model prog w) A E s (fallPart lo m n) Q st:=by
  unfold fallPart
  refine wpS_bind (wpS_lift (wpAny_rule ⟨rfl,?_⟩))
  refine wpS_bind (fall_ok L hB hz (by omega) hmn hs fun k q xs k1 k2 hp ho hf hq he => ?_)
  dsimp only
  have hsz:lo + k≤xs.size:=by rw [hp.size_eq,hB.size]; omega
  by_cases hq0:q > 0
  · rw [if_pos hq0]
    refine wpS_bind (rev_ok ?_)
    have hp2:(mirror xs (lo + k - (q + 1)) (lo + k) ((lo + k - (lo + k - (q + 1))) / 2)).Perm (arrOf st):=(mirror_perm _ _ _ _).trans hp
    refine riseEnd_ok L (st:=setArr st (mirror xs (lo + k - (q + 1)) (lo + k) ((lo + k - (lo + k - (q + 1))) / 2))) (hB.set hp2) hz (by omega) k2 (fun i j x y z => ?_) fun r ys r1 r2 r3 r4 r5=>h r ys r1 r2 (r3.trans hp2) ((ho.trans (off_mir hsz (by omega) (by omega))).trans r4) r5
    show kat key (mirror xs _ _ _) j≤kat key (mirror xs _ _ _) i
    rw [kat_mir_same hsz he,kat_mir_same hsz he]
    exact hf i j x y z
  · rw [if_neg hq0]
    exact riseEnd_ok L (st:=setArr st xs) (hB.set hp) hz (by omega) k2 hf fun r ys r1 r2 r3 r4 r5=>h r ys r1 r2 (r3.trans hp) (ho.trans r4) r5
theorem run_ok (L:LtOk prog w A E s a₀ κ key) {lo n:Nat} {st:SortSt} {Q:Option Nat→SortSt→Prop} (hB:SB a₀ κ st) (hz:lo + n≤a₀.size) (h1:1≤n)
    (h:∀ k xs,1≤k→k≤n→xs.Perm (arrOf st)→Off (arrOf st) xs lo (lo + n)→Seg key xs lo (lo + k)→Q (some k) (setArr st xs)):wpS (model prog w) A E s (countRun' lo n) Q st:=by
  rw [run_eq]
  refine wpS_bind (rise_ok L hB hz (Nat.le_refl 1) h1 (fun i j x y z=>by rw [show i=j by omega]; exact Int.le_refl _) fun m m1 m2 hsm hor => ?_)
  dsimp only
  by_cases e:m=n
  · rw [if_pos (by simpa using e)]
    exact wpS_pure (h m (arrOf st) m1 m2 (Array.Perm.refl _) (Off.refl _ _ _) hsm)
  · rw [if_neg (by simpa using e)]
    have lt:kat key (arrOf st) (lo + m) < kat key (arrOf st) (lo + m - 1):=hor.resolve_left e
    by_cases g:m > 1
    · rw [if_pos g]
      refine wpS_bind (ltAt_ok L hB (by omega) (by omega) ?_)
      dsimp only
      by_cases c:kat key (arrOf st) lo < kat key (arrOf st) (lo + m - 1)
      · rw [if_pos (decide_eq_true c)]
        exact wpS_pure (h m (arrOf st) m1 m2 (Array.Perm.refl _) (Off.refl _ _ _) hsm)
      · rw [if_neg (by simpa using c)]
        have hsz:lo + m≤(arrOf st).size:=by rw [hB.size]; omega
        have all:∀ k,lo≤k→k < lo + m→kat key (arrOf st) k=kat key (arrOf st) (lo + m - 1):=by
          intro k x y
          have a1:=hsm lo k (Nat.le_refl _) x y
          have a2:=hsm k (lo + m - 1) x (by omega) (by omega)
          omega
        refine wpS_bind (rev_ok ?_)
        have hp:(mirror (arrOf st) lo (lo + m) ((lo + m - lo) / 2)).Perm (arrOf st):=mirror_perm _ _ _ _
        refine fallPart_ok L (hB.set hp) hz (by omega) (fun i j x y z => ?_) fun r ys r1 r2 r3 r4 r5=>h r ys r1 r2 (r3.trans hp) ((off_mir hsz (by omega) (by omega)).trans r4) r5
        show kat key (mirror (arrOf st) _ _ _) j≤kat key (mirror (arrOf st) _ _ _) i
        rw [kat_mir_same hsz all,kat_mir_same hsz all]
        by_cases q:j < lo + m
        · rw [all i x (by omega),all j (by omega) q]; exact Int.le_refl _
        · have ej:j=lo + m:=by omega
          subst ej
          by_cases q2:i=lo + m
          · rw [q2]; exact Int.le_refl _
          · rw [all i x (by omega)]; omega
    · rw [if_neg g]
      have em:m=1:=by omega
      subst em
      refine fallPart_ok L hB hz (by omega) (fun i j x y z => ?_) h
      by_cases q:i=j
      · rw [q]; exact Int.le_refl _
      · have ei:i=lo:=by omega
        have ej:j=lo + 1:=by omega
        subst ei
        subst ej
        have:i + 1 - 1=i:=by omega
        rw [this] at lt
        omega
end
end Tim

namespace Tim
open PySem PyProof.Rows
section
variable {prog:Program} {w:World} {A:Around} {E:Value→Shared→Prop} {s:Shared} {a₀:Array Keyed} {κ:SortKind} {key:Keyed→Int}
theorem kat_bub {xs:Array Keyed} {src d:Nat} (hs:src < xs.size) (hd:d≤src) (k:Nat):kat key (bubble xs src d) k=if k=src - d then kat key xs src else if src - d < k∧k≤src then kat key xs (k - 1) else kat key xs k:=by
  have e:=getElem?_bubble hs d hd k
  by_cases h1:k=src - d
  · rw [if_pos h1] at e ⊢; exact kat_of e
  · rw [if_neg h1] at e ⊢
    by_cases h2:src - d < k∧k≤src
    · rw [if_pos h2] at e ⊢; exact kat_of e
    · rw [if_neg h2] at e ⊢; exact kat_of e
def findL (lo k:Nat):StateT SortSt Sem (Option Bool × Nat × Nat) :=
  forIn [0:k] ((none,0,k):Option Bool × Nat × Nat) fun _ r =>
    if r.2.1 ≥ r.2.2 then pure (.done (none,r.2.1,r.2.2)) else do
      let z ← ltAt' (lo + k) (lo + (r.2.1 + r.2.2) / 2)
      match z with
      | some less=>if less=true then pure (.yield (none,r.2.1,(r.2.1 + r.2.2) / 2)) else pure (.yield (none,(r.2.1 + r.2.2) / 2 + 1,r.2.2))
      | _=>pure (.done (some false,r.2.1,r.2.2))
def insL (lo n ok:Nat):StateT SortSt Sem (Option Bool × Unit) :=
  forIn [max ok 1:n] ((none,()):Option Bool × Unit) fun k _=>do
    let r ← findL lo k
    match r.1 with
    | some v=>pure (.done (some v,()))
    | none=>do
      moveDown' (lo + k) (lo + r.2.1)
      pure (.yield (none,()))
theorem ins_eq (lo n ok:Nat):binarySort' lo n ok=(do
    let r ← insL lo n ok
    match r.1 with
    | some v=>pure v
    | none=>pure true):=by kernel_rfl
theorem find_ok (L:LtOk prog w A E s a₀ κ key) {lo k:Nat} {st:SortSt} {Q:Option Bool × Nat × Nat→SortSt→Prop} (hB:SB a₀ κ st) (hz:lo + k < a₀.size) (hs:Seg key (arrOf st) lo (lo + k))
    (h:∀ l,l≤k→(∀ i,lo≤i→i < lo + l→kat key (arrOf st) i≤kat key (arrOf st) (lo + k))→(∀ i,lo + l≤i→i < lo + k→kat key (arrOf st) (lo + k) < kat key (arrOf st) i)→Q (none,l,l) st):wpS (model prog w) A E s (findL lo k) Q st:=by
  unfold findL
  refine wpS_forRange (I:=fun t c st'=>st'=st∧∃ l r,c=(none,l,r)∧l≤r∧r≤k∧r - l≤k - t∧(∀ i,lo≤i→i < lo + l→kat key (arrOf st) i≤kat key (arrOf st) (lo + k))∧(∀ i,lo + r≤i→i < lo + k→kat key (arrOf st) (lo + k) < kat key (arrOf st) i)) ?step ?fin
    ⟨rfl,0,k,rfl,by omega,by omega,by omega,fun i x y=>by omega,fun i x y=>by omega⟩
  case fin =>
    rintro c st' ⟨rfl,l,r,rfl,h1,h2,h3,h4,h5⟩
    have e:l=r:=by omega
    subst e
    exact h l h2 h4 h5
  case step =>
    rintro t c st' _ ht ⟨rfl,l,r,rfl,h1,h2,h3,h4,h5⟩
    dsimp only
    by_cases e:l ≥ r
    · rw [if_pos e]
      have e':l=r:=by omega
      subst e'
      exact wpS_pure (h l h2 h4 h5)
    · rw [if_neg e]
      refine wpS_bind (ltAt_ok L hB hz (by omega) ?_)
      dsimp only
      by_cases c:kat key (arrOf st') (lo + k) < kat key (arrOf st') (lo + (l + r) / 2)
      · rw [if_pos (decide_eq_true c)]
        refine wpS_pure ⟨rfl,_,_,rfl,by omega,by omega,by omega,h4,fun i x y => ?_⟩
        have:=hs (lo + (l + r) / 2) i (by omega) x y
        omega
      · rw [if_neg (by simpa using c)]
        refine wpS_pure ⟨rfl,_,_,rfl,by omega,by omega,by omega,fun i x y => ?_,h5⟩
        have:=hs i (lo + (l + r) / 2) x (by omega) (by omega)
        omega
theorem bub_seg {xs:Array Keyed} {lo p q:Nat} (h1:lo≤q) (h2:q≤p) (hks:p < xs.size) (hs:Seg key xs lo p) (h4:∀ i,lo≤i→i < q→kat key xs i≤kat key xs p) (h5:∀ i,q≤i→i < p→kat key xs p < kat key xs i):Seg key (bubble xs p (p - q)) lo (p + 1):=by
  intro i j x y z
  rw [kat_bub hks (Nat.sub_le _ _),kat_bub hks (Nat.sub_le _ _),show p - (p - q)=q from Nat.sub_sub_self h2]
  clear hks
  repeat' split
  all_goals first
    | (exfalso; omega)
    | exact Int.le_refl _
    | exact h4 _ (by omega) (by omega)
    | exact Int.le_of_lt (h5 _ (by omega) (by omega))
    | exact hs _ _ (by omega) (by omega) (by omega)
theorem ins_ok (L:LtOk prog w A E s a₀ κ key) {lo n ok:Nat} {st:SortSt} {Q:Bool→SortSt→Prop} (hB:SB a₀ κ st) (hz:lo + n≤a₀.size) (hok:ok≤n) (hs:Seg key (arrOf st) lo (lo + ok))
    (h:∀ xs,xs.Perm (arrOf st)→Off (arrOf st) xs lo (lo + n)→Seg key xs lo (lo + n)→Q true (setArr st xs)):wpS (model prog w) A E s (binarySort' lo n ok) Q st:=by
  rw [ins_eq]
  unfold insL
  refine wpS_bind (wpS_mono (wpS_forRange (I:=fun t c st'=>c=(none,())∧∃ xs,st'=setArr st xs∧xs.Perm (arrOf st)∧Off (arrOf st) xs lo (lo + n)∧Seg key xs lo (lo + min t n))
    (Q:=fun c st'=>c=(none,())∧∃ xs,st'=setArr st xs∧xs.Perm (arrOf st)∧Off (arrOf st) xs lo (lo + n)∧Seg key xs lo (lo + n)) ?step ?fin ?init) ?post)
  case post =>
    rintro c st' ⟨rfl,xs,rfl,hp,ho,hs'⟩
    exact wpS_pure (h xs hp ho hs')
  case init =>
    refine ⟨rfl,arrOf st,rfl,Array.Perm.refl _,Off.refl _ _ _,fun i j x y z => ?_⟩
    by_cases h1:ok=0
    · rw [show i=j by omega]; exact Int.le_refl _
    · exact hs i j x y (by omega)
  case fin =>
    rintro c st' ⟨rfl,xs,rfl,hp,ho,hs'⟩
    refine ⟨rfl,xs,rfl,hp,ho,?_⟩
    rwa [show min (max (max ok 1) n) n=n by omega] at hs'
  case step =>
    rintro k c st' hk hkn ⟨rfl,xs,rfl,hp,ho,hs'⟩
    rw [show min k n=k by omega] at hs'
    have hB':=hB.set hp
    refine wpS_bind (find_ok L hB' (by omega) hs' fun l hl h4 h5 => ?_)
    dsimp only
    rw [moveDown'_eq]
    refine wpS_bind (wpS_modify (wpS_pure ⟨rfl,bubble xs (lo + k) (lo + k - (lo + l)),rfl,(bubble_perm _ _ _).trans hp,?_,?_⟩))
    · have hks:lo + k < xs.size:=by rw [hp.size_eq,hB.size]; omega
      refine ho.trans fun t ht => ?_
      rw [getElem?_bubble hks _ (by omega),if_neg (by omega),if_neg (by omega)]
    · rw [show min (k + 1) n=k + 1 by omega]
      have hks:lo + k < xs.size:=by rw [hp.size_eq,hB.size]; omega
      exact bub_seg (Nat.le_add_right _ _) (by omega) hks hs' h4 h5

def wback (xs:Array Keyed) (p:Nat) (z:List Keyed):Array Keyed:=z.zipIdx.foldl (fun a q=>a.setIfInBounds (p + q.2) q.1) xs
theorem wback_at (p:Nat):∀ (z:List Keyed) (n:Nat) (xs:Array Keyed),p + n + z.length≤xs.size→∀ t:Nat,((z.zipIdx n).foldl (fun a q=>a.setIfInBounds (p + q.2) q.1) xs)[t]? = if p + n≤t∧t < p + n + z.length then z[t - (p + n)]? else xs[t]?
  | [],n,xs,_,t=>by
    rw [if_neg (by simp)]; rfl
  | x::z,n,xs,h,t=>by
    rw [List.zipIdx_cons,List.foldl_cons]
    have hl:(x::z).length=z.length + 1:=rfl
    rw [wback_at p z (n + 1) _ (by rw [Array.size_setIfInBounds]; omega) t]
    by_cases c:p + n≤t∧t < p + n + (x::z).length
    · rw [if_pos c]
      by_cases c2:t=p + n
      · rw [if_neg (by omega),c2]
        have:p + n < xs.size:=by omega
        simp [Array.getElem?_setIfInBounds,this]
      · rw [if_pos (by omega)]
        have e:t - (p + n)=t - (p + (n + 1)) + 1:=by omega
        rw [e,List.getElem?_cons_succ]
    · rw [if_neg c,if_neg (by omega),Array.getElem?_setIfInBounds]
      have:p + n≠t:=by omega
      simp [this]
theorem wback_get {xs:Array Keyed} {p:Nat} {z:List Keyed} (h:p + z.length≤xs.size) (t:Nat):(wback xs p z)[t]? = if p≤t∧t < p + z.length then z[t - p]? else xs[t]? := by
  have:=wback_at p z 0 xs (by omega) t
  simpa [wback] using this
theorem wback_list {xs:Array Keyed} {p:Nat} {z:List Keyed} (h:p + z.length≤xs.size):(wback xs p z).toList=xs.toList.take p++z++xs.toList.drop (p + z.length):=by
  refine List.ext_getElem? fun t => ?_
  rw [Array.getElem?_toList,wback_get h]
  have lt:(xs.toList.take p).length=p:=by simp; omega
  by_cases c1:t < p
  · rw [if_neg (by omega),List.append_assoc,List.getElem?_append_left (by rw [lt]; exact c1),List.getElem?_take_of_lt c1,Array.getElem?_toList]
  · by_cases c2:t < p + z.length
    · rw [if_pos ⟨by omega,c2⟩,List.getElem?_append_left (by rw [List.length_append,lt]; omega),List.getElem?_append_right (by rw [lt]; omega),lt]
    · rw [if_neg (by omega),List.getElem?_append_right (by rw [List.length_append,lt]; omega),List.length_append,lt,List.getElem?_drop,Array.getElem?_toList]
      congr 1
      omega
abbrev setPen (st:SortSt) (p:Array (Nat × Nat × Nat)):SortSt:=SortSt.mk' (kindOf st) (arrOf st) p (gallopOf st) (failedOf st)
theorem join_eq (i:Nat):mergeAt' i=(do
    let st ← get
    match (pendingOf st)[i]?,(pendingOf st)[i + 1]? with
    | some (sa,na,pw),some (sb,nb,_)=>do
      set (setPen st (((pendingOf st).setIfInBounds i (sa,na + nb,pw)).eraseIdxIfInBounds (i + 1)))
      let y ← elem' (arrOf st) sb
      let z ← gallopP false y (arrOf st) sa na 0
      match z with
      | some k =>
        if (na - k == 0)=true then pure true else do
          let x ← elem' (arrOf st) (sa + k + (na - k) - 1)
          let r ← gallopP true x (arrOf st) sb nb (nb - 1)
          match r with
          | some m =>
            if (m == 0)=true then pure true else do
              let t ← if na - k≤m then loP ((arrOf st).extract (sa + k) sb) ((arrOf st).extract sb (sb + m)) else hiP ((arrOf st).extract (sa + k) sb) ((arrOf st).extract sb (sb + m))
              modify fun st=>setArr st (wback (arrOf st) (sa + k) t.toList)
              let st ← get
              pure (failedOf st).isNone
          | _=>pure false
      | _=>pure false
    | _,_=>liftM (unsupported "internal:list.sort.pending" : Sem Bool)):=by
  kernel_rfl
end
end Tim

namespace Tim
open PySem PyProof.Rows
section
variable {prog:Program} {w:World} {A:Around} {E:Value→Shared→Prop} {s:Shared} {a₀:Array Keyed} {κ:SortKind} {key:Keyed→Int}
abbrev Tri:=Nat × Nat × Nat
theorem pend_at {p:Array Tri} {l1 l2:List Tri} {a b:Tri} (h:p.toList=l1++a::b::l2):p[l1.length]? = some a∧p[l1.length + 1]? = some b:=by
  rw [← Array.getElem?_toList,← Array.getElem?_toList,h]
  constructor
  · rw [List.getElem?_append_right (Nat.le_refl _)]; simp
  · rw [List.getElem?_append_right (by omega)]; simp
theorem pend_new {p:Array Tri} {l1 l2:List Tri} {a b c:Tri} (h:p.toList=l1++a::b::l2):((p.setIfInBounds l1.length c).eraseIdxIfInBounds (l1.length + 1)).toList=l1++c::l2:=by
  have hs:p.size=l1.length + (l2.length + 2):=by rw [← Array.length_toList,h]; simp
  rw [Array.eraseIdxIfInBounds,dif_pos (by rw [Array.size_setIfInBounds]; omega),Array.toList_eraseIdx,Array.toList_setIfInBounds,h]
  rw [List.set_append_right _ _ (Nat.le_refl _),Nat.sub_self,List.set_cons_zero,List.eraseIdx_append_of_length_le (by omega)]
  simp
theorem kat_ext {xs:Array Keyed} {a b i:Nat} (hb:b≤xs.size) (hi:a + i < b):kat key (xs.extract a b) i=kat key xs (a + i):=by
  apply kat_of
  rw [Array.getElem?_extract]
  simp
  omega
theorem ext_size {xs:Array Keyed} {a b:Nat} (hb:b≤xs.size):(xs.extract a b).size=b - a:=by
  rw [Array.size_extract]; omega
theorem ext_sub {xs:Array Keyed} {a b:Nat} {y:Keyed} (h:y∈(xs.extract a b).toList):y∈xs.toList:=by
  rw [ext_part] at h
  exact List.mem_of_mem_take (List.mem_of_mem_drop h)
theorem merged {xs z:Array Keyed} {lo p q r hi:Nat} (h1:lo≤p) (h2:p≤q) (h3:q≤r) (h4:r≤hi) (h5:hi≤xs.size) (R:Res key (xs.extract p q) (xs.extract q r) z) (s1:Seg key xs lo q) (s2:Seg key xs q hi)
    (lo1:∀ t,lo≤t→t < p→kat key xs t≤kat key xs q) (up2:∀ t,r≤t→t < hi→kat key xs (q - 1)≤kat key xs t):(wback xs p z.toList).Perm xs∧Off xs (wback xs p z.toList) lo hi∧Seg key (wback xs p z.toList) lo hi:=by
  obtain ⟨zp,zs⟩:=R
  have zl:z.toList.length=r - p:=by
    have e:=zp.length_eq
    simp only [List.length_append,Array.length_toList] at e ⊢
    rw [ext_size (by omega),ext_size (by omega)] at e
    omega
  have hfit:p + z.toList.length≤xs.size:=by omega
  have em:xs.toList=xs.toList.take p++((xs.extract p q).toList++(xs.extract q r).toList)++xs.toList.drop (p + z.toList.length):=by
    rw [ext_part,ext_part]
    have a1:(xs.toList.take q).drop p++(xs.toList.take r).drop q=(xs.toList.drop p).take z.toList.length:=by
      rw [List.drop_take,List.drop_take,show z.toList.length=(q - p) + (r - q) by omega,List.take_add,List.drop_drop,show p + (q - p)=q by omega]
    have a2:(xs.toList.drop p).take z.toList.length++xs.toList.drop (p + z.toList.length)=xs.toList.drop p:=by
      have:=List.take_append_drop z.toList.length (xs.toList.drop p)
      rwa [List.drop_drop] at this
    rw [a1,List.append_assoc,a2]
    exact (List.take_append_drop _ _).symm
  have zseg:Seg key z 0 z.size:=srt_seg.mp zs
  have old:∀ t,(t < p∨r≤t)→kat key (wback xs p z.toList) t=kat key xs t:=fun t ht=>kat_of (by rw [wback_get hfit,if_neg (by omega)])
  have kz:∀ t,p≤t→t < r→∃ x,x∈z.toList∧(wback xs p z.toList)[t]? = some x∧z[t - p]? = some x:=fun t t1 t2=>by
    have hlt:t - p < z.toList.length:=by omega
    refine ⟨z.toList[t - p],List.getElem_mem hlt,?_,?_⟩
    · rw [wback_get hfit,if_pos ⟨t1,by omega⟩]; exact List.getElem?_eq_getElem hlt
    · rw [← Array.getElem?_toList]; exact List.getElem?_eq_getElem hlt
  have from2:∀ x∈z.toList,∃ t,((p≤t∧t < q)∨(q≤t∧t < r))∧key x=kat key xs t:=fun x hx=>by
    rcases List.mem_append.mp (zp.mem_iff.mp hx) with hx | hx
    · rw [ext_part] at hx
      obtain ⟨t,t1,t2,t3,t4⟩:=of_part hx
      exact ⟨t,.inl ⟨t1,t2⟩,(kat_some t4).symm⟩
    · rw [ext_part] at hx
      obtain ⟨t,t1,t2,t3,t4⟩:=of_part hx
      exact ⟨t,.inr ⟨t1,t2⟩,(kat_some t4).symm⟩
  refine ⟨?_,fun t ht=>by rw [wback_get hfit,if_neg (by omega)],?_⟩
  · rw [Array.perm_iff_toList_perm,wback_list hfit]
    conv=>rhs; rw [em]
    exact List.Perm.append_right _ (List.Perm.append_left _ zp)
  have zz2:z.size=r - p:=by rw [← Array.length_toList]; exact zl
  clear em hfit zl
  intro i j x y zz
  by_cases i1:i < p
  · rw [old i (.inl i1)]
    by_cases j1:j < p
    · rw [old j (.inl j1)]; exact s1 i j x y (Nat.lt_of_lt_of_le j1 h2)
    · by_cases j2:j < r
      · obtain ⟨v,v1,v2,v3⟩:=kz j (Nat.le_of_not_lt j1) j2
        rw [kat_some v2]
        obtain ⟨t,ht,et⟩:=from2 v v1
        rw [et]
        rcases ht with ⟨t1,t2⟩ | ⟨t1,t2⟩
        · exact s1 i t x (Nat.le_trans (Nat.le_of_lt i1) t1) t2
        · exact Int.le_trans (lo1 i x i1) (s2 q t (Nat.le_refl _) t1 (Nat.lt_of_lt_of_le t2 h4))
      · rw [old j (.inr (Nat.le_of_not_lt j2))]
        exact Int.le_trans (lo1 i x i1) (s2 q j (Nat.le_refl _) (Nat.le_trans h3 (Nat.le_of_not_lt j2)) zz)
  · have i1':=Nat.le_of_not_lt i1
    by_cases i2:i < r
    · obtain ⟨u,u1,u2,u3⟩:=kz i i1' i2
      by_cases j2:j < r
      · obtain ⟨v,v1,v2,v3⟩:=kz j (Nat.le_trans i1' y) j2
        rw [kat_some u2,kat_some v2]
        have e:=zseg (i - p) (j - p) (Nat.zero_le _) (Nat.sub_le_sub_right y p) (by rw [zz2]; exact Nat.sub_lt_sub_right (Nat.le_trans i1' y) j2)
        rw [kat_some u3,kat_some v3] at e
        exact e
      · have j2':=Nat.le_of_not_lt j2
        rw [old j (.inr j2'),kat_some u2]
        obtain ⟨t,ht,et⟩:=from2 u u1
        rw [et]
        rcases ht with ⟨t1,t2⟩ | ⟨t1,t2⟩
        · exact Int.le_trans (s1 t (q - 1) (Nat.le_trans h1 t1) (Nat.le_sub_one_of_lt t2) (Nat.sub_one_lt (Nat.ne_of_gt (Nat.lt_of_le_of_lt (Nat.zero_le _) t2)))) (up2 j j2' zz)
        · exact s2 t j t1 (Nat.le_trans (Nat.le_of_lt t2) j2') zz
    · have i2':=Nat.le_of_not_lt i2
      rw [old i (.inr i2'),old j (.inr (Nat.le_trans i2' y))]
      exact s2 i j (Nat.le_trans h3 i2') y zz
theorem parts_pre {xs:Array Keyed} {lo p q r hi:Nat} (h1:lo≤p) (h2:p < q) (h3:q < r) (h4:r≤hi) (h5:hi≤xs.size) (all:∀ y∈xs.toList,y∈a₀.toList) (s1:Seg key xs lo q) (s2:Seg key xs q hi)
    (up1:kat key xs q < kat key xs p) (lo2:kat key xs (r - 1) < kat key xs (q - 1)):Pre a₀ key (xs.extract p q) (xs.extract q r):=by
  have zu:(xs.extract p q).size=q - p:=ext_size (by omega)
  have zv:(xs.extract q r).size=r - q:=ext_size (by omega)
  refine ⟨fun y hy=>all y (ext_sub hy),fun y hy=>all y (ext_sub hy),fun i j x y z => ?_,fun i j x y z => ?_,by omega,by omega,?_,?_⟩
  · rw [zu] at z
    rw [kat_ext (by omega) (by omega),kat_ext (by omega) (by omega)]
    exact s1 _ _ (by omega) (by omega) (by omega)
  · rw [zv] at z
    rw [kat_ext (by omega) (by omega),kat_ext (by omega) (by omega)]
    exact s2 _ _ (by omega) (by omega) (by omega)
  · rw [kat_ext (by omega) (by omega),kat_ext (by omega) (by omega)]
    exact up1
  · rw [zu,zv,kat_ext (by omega) (by omega),kat_ext (by omega) (by omega),show q + (r - q - 1)=r - 1 by omega,show p + (q - p - 1)=q - 1 by omega]
    exact lo2
theorem join_ok (L:LtOk prog w A E s a₀ κ key) {st:SortSt} {Q:Bool→SortSt→Prop} (hB:SB a₀ κ st) {l1 l2:List Tri} {sa na p sb nb q:Nat} (hp:(pendingOf st).toList=l1++(sa,na,p)::(sb,nb,q)::l2) (hsb:sb=sa + na) (h1:1≤na) (h2:1≤nb) (hz:sb + nb≤a₀.size)
    (s1:Seg key (arrOf st) sa sb) (s2:Seg key (arrOf st) sb (sb + nb))
    (h:∀ st',SB a₀ κ st'→(pendingOf st').toList=l1++(sa,na + nb,p)::l2→Seg key (arrOf st') sa (sb + nb)→Off (arrOf st) (arrOf st') sa (sb + nb)→Q true st'):wpS (model prog w) A E s (mergeAt' l1.length) Q st:=by
  rw [join_eq]
  refine wpS_bind (wpS_get ?_)
  obtain ⟨e1,e2⟩:=pend_at hp
  rw [e1,e2]
  dsimp only
  have hsz:=hB.size
  have mem:∀ {i:Nat} {x:Keyed},(arrOf st)[i]? = some x→x∈a₀.toList:=fun e=>hB.mem (at_mem e)
  have all:∀ y∈(arrOf st).toList,y∈a₀.toList:=fun y hy=>hB.mem hy
  refine wpS_bind ?_
  show wpS _ _ _ _ (set _) _ _
  have hset:∀ (t:SortSt) (R:PUnit→SortSt→Prop),R ⟨⟩ t→wpS (model prog w) A E s (set t:StateT SortSt Sem PUnit) R st:=fun t R hr=>by
    unfold wpS; rw [StateT.run_set]; exact wpAny_pure ⟨rfl,hr⟩
  refine hset _ _ ?_
  have pn:=pend_new (c:=(sa,na + nb,p)) hp
  generalize hP:((pendingOf st).setIfInBounds l1.length (sa,na + nb,p)).eraseIdxIfInBounds (l1.length + 1)=P at pn ⊢
  have f1:(arrOf st)[sb]? = some (arrOf st)[sb]:=Array.getElem?_eq_getElem (by omega)
  refine wpS_bind (el_ok f1 (wpS_bind (gallop_ok L (st:=setPen st P) hB.kind (mem f1) all (by omega) (by omega) (by rw [← hsb]; exact s1) fun k k1 k2 k3 => ?_)))
  dsimp only
  have lo1:∀ t,sa≤t→t < sa + k→kat key (arrOf st) t≤kat key (arrOf st) sb:=fun t t1 t2=>by
    have:=k2 (t - sa) (by omega)
    unfold isPast at this
    rw [if_neg (by decide),show sa + (t - sa)=t by omega,← kat_some (key:=key) f1] at this
    have:¬ kat key (arrOf st) sb < kat key (arrOf st) t:=by simpa using this
    omega
  have up1:∀ t,sa + k≤t→t < sb→kat key (arrOf st) sb < kat key (arrOf st) t:=fun t t1 t2=>by
    have:=k3 (t - sa) (by omega) (by omega)
    unfold isPast at this
    rw [if_neg (by decide),show sa + (t - sa)=t by omega,← kat_some (key:=key) f1] at this
    have:kat key (arrOf st) sb < kat key (arrOf st) t:=by simpa using this
    exact this
  have B1:SB a₀ κ (setPen st P):=⟨hB.perm,hB.kind,hB.ok⟩
  by_cases c1:na - k=0
  · rw [if_pos (by simpa using c1)]
    refine wpS_pure (h _ B1 pn (fun i j x y z => ?_) (Off.refl _ _ _))
    show kat key (arrOf st) i≤kat key (arrOf st) j
    by_cases a1:j < sb
    · exact s1 i j x y a1
    · by_cases a2:sb≤i
      · exact s2 i j a2 y z
      · have:=lo1 i x (by omega)
        have:=s2 sb j (Nat.le_refl _) (by omega) z
        omega
  · rw [if_neg (by simpa using c1)]
    have f2:(arrOf st)[sa + k + (na - k) - 1]? = some (arrOf st)[sb - 1]:=by
      rw [show sa + k + (na - k) - 1=sb - 1 by omega]; exact Array.getElem?_eq_getElem (by omega)
    have f3:(arrOf st)[sb - 1]? = some (arrOf st)[sb - 1]:=Array.getElem?_eq_getElem (by omega)
    refine wpS_bind (el_ok f2 (wpS_bind (gallop_ok L (st:=setPen st P) hB.kind (mem f2) all (by omega) (by omega) s2 fun m m1 m2 m3 => ?_)))
    dsimp only
    have lo2:∀ t,sb≤t→t < sb + m→kat key (arrOf st) t < kat key (arrOf st) (sb - 1):=fun t t1 t2=>by
      have:=m2 (t - sb) (by omega)
      unfold isPast at this
      rw [if_pos rfl,show sb + (t - sb)=t by omega,← kat_some (key:=key) f3] at this
      exact of_decide_eq_true this
    have up2:∀ t,sb + m≤t→t < sb + nb→kat key (arrOf st) (sb - 1)≤kat key (arrOf st) t:=fun t t1 t2=>by
      have:=m3 (t - sb) (by omega) (by omega)
      unfold isPast at this
      rw [if_pos rfl,show sb + (t - sb)=t by omega,← kat_some (key:=key) f3] at this
      have:=of_decide_eq_false this
      omega
    by_cases c2:m=0
    · rw [if_pos (by simpa using c2)]
      refine wpS_pure (h _ B1 pn (fun i j x y z => ?_) (Off.refl _ _ _))
      show kat key (arrOf st) i≤kat key (arrOf st) j
      by_cases a1:j < sb
      · exact s1 i j x y a1
      · by_cases a2:sb≤i
        · exact s2 i j a2 y z
        · have:=s1 i (sb - 1) x (by omega) (by omega)
          have:=up2 j (by omega) z
          omega
    · rw [if_neg (by simpa using c2)]
      have o1:sa≤sa + k:=Nat.le_add_right _ _
      have o2:sa + k < sb:=by omega
      have o3:sb < sb + m:=by omega
      have o4:sb + m≤sb + nb:=by omega
      have o5:sb + nb≤(arrOf st).size:=by omega
      have PR:Pre a₀ key ((arrOf st).extract (sa + k) sb) ((arrOf st).extract sb (sb + m)):=parts_pre o1 o2 o3 o4 o5 all s1 s2 (up1 _ (Nat.le_refl _) o2) (lo2 _ (Nat.le_sub_one_of_lt o3) (Nat.sub_one_lt (Nat.ne_of_gt (Nat.lt_of_le_of_lt (Nat.zero_le _) o3))))
      have fin:∀ (z:Array Keyed) (g':Nat),Res key ((arrOf st).extract (sa + k) sb) ((arrOf st).extract sb (sb + m)) z →
          wpS (model prog w) A E s (do
            modify fun st=>setArr st (wback (arrOf st) (sa + k) z.toList)
            let st ← get
            pure (failedOf st).isNone:StateT SortSt Sem Bool) Q (setGal (setPen st P) g'):=fun z g' hz=>by
        obtain ⟨hperm,hoff,hseg⟩:=merged o1 (Nat.le_of_lt o2) (Nat.le_of_lt o3) o4 o5 hz s1 s2 lo1 up2
        refine wpS_bind (wpS_modify (wpS_bind (wpS_get (wpS_pure ?_))))
        have okf:(failedOf (setArr (setGal (setPen st P) g') (wback (arrOf st) (sa + k) z.toList))).isNone=true:=by
          show (failedOf st).isNone=true
          rw [hB.ok]; rfl
        show Q (failedOf (setArr (setGal (setPen st P) g') (wback (arrOf st) (sa + k) z.toList))).isNone _
        rw [okf]
        exact h _ ⟨hperm.trans hB.perm,hB.kind,hB.ok⟩ pn hseg hoff
      split
      · exact wpS_bind (lo_ok L (st:=setPen st P) hB.kind PR fun z g' hz=>fin z g' hz)
      · exact wpS_bind (hi_ok L (st:=setPen st P) hB.kind PR fun z g' hz=>fin z g' hz)
end
end Tim

namespace Tim
open PySem PyProof.Rows
section
variable {prog:Program} {w:World} {A:Around} {E:Value→Shared→Prop} {s:Shared} {a₀:Array Keyed} {κ:SortKind} {key:Keyed→Int}
abbrev So:=Option Unit × Unit
def downL (size pw:Nat):StateT SortSt Sem So :=
  forIn [0:size] ((none,()):So) fun _ _=>do
    let st ← get
    match (if (pendingOf st).size > 1 then (pendingOf st)[(pendingOf st).size - 2]? else none) with
    | some (_,_,older)=>if older≤pw then pure (.done (none,())) else do
        let b ← mergeAt' ((pendingOf st).size - 2)
        if (!b)=true then pure (.done (some (),())) else pure (.yield (none,()))
    | _=>pure (.done (none,()))
def pushEnd (lo n:Nat):StateT SortSt Sem (ForInStep (Option Unit × Nat)):=do
  modify fun st=>setPen st ((pendingOf st).push (lo,n,0))
  pure (.yield (none,lo + n))
def pushRun (size lo n:Nat):StateT SortSt Sem (ForInStep (Option Unit × Nat)):=do
  let st ← get
  match (pendingOf st).back? with
  | some (s1,n1,_)=>do
    let q ← downL size (power' size (2 * s1 + n1) (2 * s1 + n1 + n1 + n) size)
    match q.1 with
    | some v=>pure (.done (some v,lo))
    | none=>do
      modify fun st=>setPen st ((pendingOf st).modify ((pendingOf st).size - 1) fun (a,b,_)=>(a,b,power' size (2 * s1 + n1) (2 * s1 + n1 + n1 + n) size))
      pushEnd lo n
  | _=>pushEnd lo n
def mainStep (size minrun:Nat) (r:Option Unit × Nat):StateT SortSt Sem (ForInStep (Option Unit × Nat)) :=
  if r.2 ≥ size then pure (.done (none,r.2)) else do
    let z ← countRun' r.2 (size - r.2)
    match z with
    | some found =>
      if found < minrun then do
        liftM (rule "list.sort.binary-insertion")
        let b ← binarySort' r.2 (min (size - r.2) minrun) found
        if (!b)=true then pure (.done (some (),r.2)) else pushRun size r.2 (min (size - r.2) minrun)
      else pushRun size r.2 found
    | _=>pure (.done (some (),r.2))
def lastAt (p:Array Tri):Nat:=if (if p.size - 2 > 0 then p[p.size - 2 - 1]?.map (·.2.1) else none).any (· < (p[p.size - 2 + 1]?.elim 0 (·.2.1))) then p.size - 2 - 1 else p.size - 2
def lastL (size:Nat):StateT SortSt Sem So :=
  forIn [0:size] ((none,()):So) fun _ _=>do
    let st ← get
    if (pendingOf st).size≤1 then pure (.done (none,())) else do
      let b ← mergeAt' (lastAt (pendingOf st))
      if (!b)=true then pure (.done (some (),())) else pure (.yield (none,()))
theorem runs_eq:sortRuns'=(do
    let st ← get
    let r ← forIn [0:(arrOf st).size] ((none,0):Option Unit × Nat) fun _ r=>mainStep (arrOf st).size (minRun' (arrOf st).size (arrOf st).size 0) r
    match r.1 with
    | some v=>pure v
    | none=>do
      let q ← lastL (arrOf st).size
      match q.1 with
      | some v=>pure v
      | none=>pure ()):=by kernel_rfl

def Tiles (key:Keyed→Int) (xs:Array Keyed):Nat→List Tri→Nat→Prop
  | a,[],e=>a=e
  | a,t::r,e=>t.1=a∧1≤t.2.1∧Seg key xs a (a + t.2.1)∧Tiles key xs (a + t.2.1) r e
theorem Tiles.le {xs:Array Keyed}:∀ {l:List Tri} {a e:Nat},Tiles key xs a l e→a + l.length≤e
  | [],a,e,h=>by have:a=e:=h; simp; omega
  | t::r,a,e,h=>by
    obtain ⟨_,h1,_,h2⟩:=h
    have:=Tiles.le h2
    simp; omega
theorem tiles_app {xs:Array Keyed} {l2:List Tri} {e:Nat}:∀ {l1:List Tri} {a:Nat},Tiles key xs a (l1++l2) e↔∃ m,Tiles key xs a l1 m∧Tiles key xs m l2 e
  | [],a=>⟨fun h=>⟨a,rfl,h⟩,fun ⟨m,h1,h2⟩=>by have:a=m:=h1; subst this; exact h2⟩
  | t::r,a=>by
    constructor
    · rintro ⟨h1,h2,h3,h4⟩
      obtain ⟨m,g1,g2⟩:=tiles_app.mp h4
      exact ⟨m,⟨h1,h2,h3,g1⟩,g2⟩
    · rintro ⟨m,⟨h1,h2,h3,g1⟩,g2⟩
      exact ⟨h1,h2,h3,tiles_app.mpr ⟨m,g1,g2⟩⟩
theorem Tiles.same {xs ys:Array Keyed}:∀ {l:List Tri} {a e:Nat},Tiles key xs a l e→(∀ t,a≤t→t < e→ys[t]? = xs[t]?)→Tiles key ys a l e
  | [],a,e,h,_=>h
  | t::r,a,e,h,g=>by
    obtain ⟨h1,h2,h3,h4⟩:=h
    have l4:=h4.le
    refine ⟨h1,h2,fun i j x y z => ?_,Tiles.same h4 fun t x y=>g t (by omega) y⟩
    rw [kat_of (g i x (by omega)),kat_of (g j (by omega) (by omega))]
    exact h3 i j x y z
theorem Tiles.alike {xs:Array Keyed}:∀ {l l':List Tri} {a e:Nat},Tiles key xs a l e→l'.map (fun t=>(t.1,t.2.1))=l.map (fun t=>(t.1,t.2.1))→Tiles key xs a l' e
  | [],[],_,_,h,_=>h
  | [],_::_,_,_,_,g=>by simp at g
  | _::_,[],_,_,_,g=>by simp at g
  | t::r,t'::r',a,e,h,g=>by
    obtain ⟨h1,h2,h3,h4⟩:=h
    rw [List.map_cons,List.map_cons,List.cons.injEq,Prod.mk.injEq] at g
    obtain ⟨⟨g1,g2⟩,g3⟩:=g
    exact ⟨by rw [g1]; exact h1,by rw [g2]; exact h2,by rw [g2]; exact h3,by rw [g2]; exact Tiles.alike h4 g3⟩
theorem split2 {α:Type} {l:List α} {i:Nat} (h:i + 1 < l.length):∃ l1 a b l2,l=l1++a::b::l2∧l1.length=i:=by
  refine ⟨l.take i,l[i],l[i + 1],l.drop (i + 2),?_,by rw [List.length_take]; omega⟩
  have e1:l.drop i=l[i]::l.drop (i + 1):=List.drop_eq_getElem_cons (by omega)
  have e2:l.drop (i + 1)=l[i + 1]::l.drop (i + 2):=List.drop_eq_getElem_cons h
  rw [← e2,← e1,List.take_append_drop]
theorem joinT (L:LtOk prog w A E s a₀ κ key) {st:SortSt} {Q:Bool→SortSt→Prop} {i e:Nat} (hB:SB a₀ κ st) (T:Tiles key (arrOf st) 0 (pendingOf st).toList e) (he:e≤a₀.size) (hi:i + 1 < (pendingOf st).size)
    (h:∀ st',SB a₀ κ st'→Tiles key (arrOf st') 0 (pendingOf st').toList e→(pendingOf st').size + 1=(pendingOf st).size→Off (arrOf st) (arrOf st') 0 e→Q true st'):wpS (model prog w) A E s (mergeAt' i) Q st:=by
  obtain ⟨l1,⟨sa,na,p⟩,⟨sb,nb,q⟩,l2,hl,rfl⟩:=split2 (l:=(pendingOf st).toList) (i:=i) (by simpa using hi)
  have T':=T
  rw [hl] at T'
  obtain ⟨m,T1,⟨a1,a2,a3,b1,b2,b3,T2⟩⟩:=tiles_app.mp T'
  have l2e:=T2.le
  have l1e:=T1.le
  dsimp only at a1 a2 a3 b1 b2 b3 T2 l2e
  subst a1
  subst b1
  refine join_ok L hB hl rfl a2 b2 (by omega) a3 b3 fun st' B' P' S' O' => ?_
  have sz:(pendingOf st').size + 1=(pendingOf st).size:=by
    rw [← Array.length_toList,← Array.length_toList,P',hl]; simp; omega
  refine h st' B' ?_ sz fun t ht=>O' t (by omega)
  rw [P']
  refine tiles_app.mpr ⟨sa,T1.same fun t x y=>O' t (.inl y),rfl,by dsimp only; omega,?_,?_⟩
  · dsimp only; rw [← Nat.add_assoc]; exact S'
  · dsimp only
    rw [← Nat.add_assoc]
    exact T2.same fun t x y=>O' t (.inr x)
theorem down_ok (L:LtOk prog w A E s a₀ κ key) {st:SortSt} {Q:So→SortSt→Prop} {pw e size:Nat} (hB:SB a₀ κ st) (T:Tiles key (arrOf st) 0 (pendingOf st).toList e) (he:e≤a₀.size) (hp:1≤(pendingOf st).size)
    (h:∀ st',SB a₀ κ st'→Tiles key (arrOf st') 0 (pendingOf st').toList e→1≤(pendingOf st').size→Off (arrOf st) (arrOf st') 0 e→Q (none,()) st'):wpS (model prog w) A E s (downL size pw) Q st:=by
  unfold downL
  refine wpS_forRange (I:=fun _ c st'=>c=(none,())∧SB a₀ κ st'∧Tiles key (arrOf st') 0 (pendingOf st').toList e∧1≤(pendingOf st').size∧Off (arrOf st) (arrOf st') 0 e) ?step ?fin ⟨rfl,hB,T,hp,Off.refl _ _ _⟩
  case fin =>
    rintro c st' ⟨rfl,B',T',P',O'⟩
    exact h st' B' T' P' O'
  case step =>
    rintro t c st' _ _ ⟨rfl,B',T',P',O'⟩
    refine wpS_bind (wpS_get ?_)
    by_cases g:(pendingOf st').size > 1
    · rw [if_pos g,Array.getElem?_eq_getElem (show (pendingOf st').size - 2 < (pendingOf st').size by omega)]
      dsimp only
      split
      · exact wpS_pure (h st' B' T' P' O')
      · refine wpS_bind (joinT L B' T' he (by omega) fun st2 B2 T2 P2 O2 => ?_)
        rw [if_neg (by decide)]
        exact wpS_pure ⟨rfl,B2,T2,by omega,O'.trans O2⟩
    · rw [if_neg g]
      exact wpS_pure (h st' B' T' P' O')
theorem pushEnd_ok {st:SortSt} {Q:ForInStep (Option Unit × Nat)→SortSt→Prop} {lo n:Nat} (hB:SB a₀ κ st) (T:Tiles key (arrOf st) 0 (pendingOf st).toList lo) (h1:1≤n) (hs:Seg key (arrOf st) lo (lo + n))
    (h:∀ st',SB a₀ κ st'→Tiles key (arrOf st') 0 (pendingOf st').toList (lo + n)→Q (.yield (none,lo + n)) st'):wpS (model prog w) A E s (pushEnd lo n) Q st:=by
  unfold pushEnd
  refine wpS_bind (wpS_modify (wpS_pure (h _ ⟨hB.perm,hB.kind,hB.ok⟩ ?_)))
  show Tiles key (arrOf st) 0 ((pendingOf st).push (lo,n,0)).toList (lo + n)
  rw [Array.toList_push]
  exact tiles_app.mpr ⟨lo,T,rfl,h1,hs,rfl⟩
theorem pushRun_ok (L:LtOk prog w A E s a₀ κ key) {st:SortSt} {Q:ForInStep (Option Unit × Nat)→SortSt→Prop} {lo n size:Nat} (hB:SB a₀ κ st) (T:Tiles key (arrOf st) 0 (pendingOf st).toList lo) (hz:lo + n≤a₀.size) (h1:1≤n) (hs:Seg key (arrOf st) lo (lo + n))
    (h:∀ st',SB a₀ κ st'→Tiles key (arrOf st') 0 (pendingOf st').toList (lo + n)→Q (.yield (none,lo + n)) st'):wpS (model prog w) A E s (pushRun size lo n) Q st:=by
  unfold pushRun
  refine wpS_bind (wpS_get ?_)
  cases hb:(pendingOf st).back? with
  | none=>exact pushEnd_ok hB T h1 hs h
  | some t =>
    obtain ⟨s1,n1,p1⟩:=t
    dsimp only
    have ne:1≤(pendingOf st).size:=by
      rcases Nat.eq_zero_or_pos (pendingOf st).size with e | e
      · have:pendingOf st = #[]:=Array.eq_empty_of_size_eq_zero e
        rw [this] at hb; cases hb
      · exact e
    refine wpS_bind (down_ok L hB T (by omega) ne fun st' B' T' P' O' => ?_)
    dsimp only
    refine wpS_bind (wpS_modify ?_)
    refine pushEnd_ok (key:=key) (a₀:=a₀) (κ:=κ) ⟨B'.perm,B'.kind,B'.ok⟩ ?_ h1 (fun i j x y z => ?_) h
    · show Tiles key (arrOf st') 0 ((pendingOf st').modify ((pendingOf st').size - 1) _).toList lo
      refine T'.alike ?_
      rw [Array.toList_modify]
      refine List.ext_getElem? fun k => ?_
      rw [List.getElem?_map,List.getElem?_map,List.getElem?_modify]
      split
      · cases (pendingOf st').toList[k]? <;> rfl
      · cases (pendingOf st').toList[k]? <;> rfl
    · show kat key (arrOf st') i≤kat key (arrOf st') j
      rw [kat_of (O' i (.inr x)),kat_of (O' j (.inr (by omega)))]
      exact hs i j x y z
theorem main_ok (L:LtOk prog w A E s a₀ κ key) {st:SortSt} {Q:ForInStep (Option Unit × Nat)→SortSt→Prop} {lo minrun:Nat} (hB:SB a₀ κ st) (T:Tiles key (arrOf st) 0 (pendingOf st).toList lo) (hlo:lo≤a₀.size)
    (hd:a₀.size≤lo→Q (.done (none,lo)) st) (h:∀ st' lo',lo < lo'→lo'≤a₀.size→SB a₀ κ st'→Tiles key (arrOf st') 0 (pendingOf st').toList lo'→Q (.yield (none,lo')) st'):wpS (model prog w) A E s (mainStep a₀.size minrun (none,lo)) Q st:=by
  unfold mainStep
  dsimp only
  by_cases e:lo ≥ a₀.size
  · rw [if_pos e]
    exact wpS_pure (hd e)
  · rw [if_neg e]
    refine wpS_bind (run_ok L hB (by omega) (by omega) fun k xs k1 k2 hp ho hs => ?_)
    dsimp only
    have T1:Tiles key xs 0 (pendingOf st).toList lo:=T.same fun t x y=>ho t (.inl y)
    by_cases c:k < minrun
    · rw [if_pos c]
      refine wpS_bind (wpS_lift (wpAny_rule ⟨rfl,?_⟩))
      refine wpS_bind (ins_ok L (st:=setArr st xs) (hB.set hp) (by omega) (by omega) hs fun ys yp yo ys' => ?_)
      rw [if_neg (by decide)]
      refine pushRun_ok L (st:=setArr st ys) (hB.set (yp.trans hp)) ?_ (by omega) (by omega) ys' fun st' B' T'=>h st' _ (by omega) (by omega) B' T'
      exact T1.same fun t x y=>yo t (.inl y)
    · rw [if_neg c]
      exact pushRun_ok L (st:=setArr st xs) (hB.set hp) T1 (by omega) k1 hs fun st' B' T'=>h st' _ (by omega) (by omega) B' T'
theorem lastAt_lt {p:Array Tri} (h:1 < p.size):lastAt p + 1 < p.size:=by
  unfold lastAt
  by_cases g:p.size - 2 > 0
  · have e:∀ (c:Bool),(if c=true then p.size - 2 - 1 else p.size - 2) + 1 < p.size:=fun c=>by cases c <;> simp <;> omega
    exact e _
  · rw [if_neg (show ¬ ((if p.size - 2 > 0 then p[p.size - 2 - 1]?.map (·.2.1) else none).any (· < (p[p.size - 2 + 1]?.elim 0 (·.2.1))))=true by rw [if_neg g]; simp)]
    omega
theorem last_ok (L:LtOk prog w A E s a₀ κ key) {st:SortSt} {Q:So→SortSt→Prop} (hB:SB a₀ κ st) (T:Tiles key (arrOf st) 0 (pendingOf st).toList a₀.size)
    (h:∀ st',SB a₀ κ st'→Seg key (arrOf st') 0 a₀.size→Q (none,()) st'):wpS (model prog w) A E s (lastL a₀.size) Q st:=by
  unfold lastL
  have fin:∀ st',SB a₀ κ st'→Tiles key (arrOf st') 0 (pendingOf st').toList a₀.size→(pendingOf st').size≤1→Q (none,()) st':=fun st' B' T' h1=>by
    refine h st' B' fun i j x y z => ?_
    cases hl:(pendingOf st').toList with
    | nil =>
      rw [hl] at T'
      have:0=a₀.size:=T'
      omega
    | cons t r =>
      have hr:r=[]:=by
        have:=congrArg List.length hl
        rw [Array.length_toList,List.length_cons] at this
        exact List.length_eq_zero_iff.mp (by omega)
      rw [hl,hr] at T'
      obtain ⟨h2,h3,h4,h5⟩:=T'
      have h5':0 + t.2.1=a₀.size:=h5
      exact h4 i j x y (by omega)
  refine wpS_forRange (I:=fun t c st'=>c=(none,())∧SB a₀ κ st'∧Tiles key (arrOf st') 0 (pendingOf st').toList a₀.size∧((pendingOf st').size≤1∨(pendingOf st').size + t≤a₀.size)) ?step ?fin ⟨rfl,hB,T,.inr (by have:=T.le; rw [Array.length_toList] at this; omega)⟩
  case fin =>
    rintro c st' ⟨rfl,B',T',P'⟩
    exact fin st' B' T' (by omega)
  case step =>
    rintro t c st' _ _ ⟨rfl,B',T',P'⟩
    refine wpS_bind (wpS_get ?_)
    by_cases g:(pendingOf st').size≤1
    · rw [if_pos g]
      exact wpS_pure (fin st' B' T' g)
    · rw [if_neg g]
      refine wpS_bind (joinT L B' T' (Nat.le_refl _) (lastAt_lt (by omega)) fun st2 B2 T2 P2 O2 => ?_)
      rw [if_neg (by decide)]
      exact wpS_pure ⟨rfl,B2,T2,by omega⟩

theorem runs_ok (L:LtOk prog w A E s a₀ κ key) {st:SortSt} {Q:Unit→SortSt→Prop} (hB:SB a₀ κ st) (hp:pendingOf st = #[])
    (h:∀ st',SB a₀ κ st'→Seg key (arrOf st') 0 a₀.size→Q () st'):wpS (model prog w) A E s sortRuns' Q st:=by
  rw [runs_eq]
  refine wpS_bind (wpS_get ?_)
  rw [hB.size]
  refine wpS_bind (wpS_mono (wpS_forRange (I:=fun t c st'=>∃ lo,c=(none,lo)∧t≤lo∧lo≤a₀.size∧SB a₀ κ st'∧Tiles key (arrOf st') 0 (pendingOf st').toList lo)
    (Q:=fun c st'=>c=(none,a₀.size)∧SB a₀ κ st'∧Tiles key (arrOf st') 0 (pendingOf st').toList a₀.size) ?step ?fin ⟨0,rfl,Nat.le_refl _,Nat.zero_le _,hB,by rw [hp]; rfl⟩) ?post)
  case fin =>
    rintro c st' ⟨lo,rfl,h1,h2,B',T'⟩
    have e:lo=a₀.size:=by omega
    subst e
    exact ⟨rfl,B',T'⟩
  case step =>
    rintro t c st' _ _ ⟨lo,rfl,h1,h2,B',T'⟩
    refine main_ok L B' T' h2 (fun e => ?_) fun st2 lo2 g1 g2 B2 T2=>⟨lo2,rfl,by omega,g2,B2,T2⟩
    have e':lo=a₀.size:=by omega
    subst e'
    exact ⟨rfl,B',T'⟩
  case post =>
    rintro c st' ⟨rfl,B',T'⟩
    dsimp only
    exact wpS_bind (last_ok L B' T' fun st2 B2 S2=>wpS_pure (h st2 B2 S2))
end
end Tim

namespace L2
open PySem PySem.Spec PySem.Calls PyProof.Rows PySem.W

structure Lin {α:Type} (lt:α→α→Bool):Prop where
  irr:∀ x,lt x x=false
  tr:∀ x y z,lt x y=true→lt y z=true→lt x z=true
  tot:∀ x y,lt x y=false→lt y x=false→x=y
theorem countP_less {α:Type} {p q:α→Bool} {a:α}:∀ {l:List α},(∀ x∈l,p x=true→q x=true)→a∈l→p a=false→q a=true→l.countP p < l.countP q
  | [],_,h,_,_=>by simp at h
  | x::l,hm,ha,hp,hq=>by
    have m:l.countP p≤l.countP q:=List.countP_mono_left fun y hy=>hm y (by simp [hy])
    rw [List.countP_cons,List.countP_cons]
    rcases List.mem_cons.mp ha with rfl | ha
    · rw [hp,hq]
      simp
      omega
    · have:=countP_less (fun y hy=>hm y (by simp [hy])) ha hp hq
      have hx:=hm x (by simp)
      cases e:p x with
      | true=>rw [hx e]; simp; omega
      | false=>simp; split <;> omega
def rnk {α:Type} (lt:α→α→Bool) (ks:List α) (x:α):Int:=((ks.countP fun k=>lt k x:Nat):Int)
theorem rnk_lt {α:Type} {lt:α→α→Bool} (L:Lin lt) {ks:List α} {x y:α} (hx:x∈ks) (hy:y∈ks):decide (rnk lt ks x < rnk lt ks y)=lt x y:=by
  unfold rnk
  cases e:lt x y with
  | true =>
    have:=countP_less (l:=ks) (p:=fun k=>lt k x) (q:=fun k=>lt k y) (fun k _ h=>L.tr _ _ _ h e) hx (L.irr x) e
    simp
    exact this
  | false =>
    cases e2:lt y x with
    | true =>
      have:=countP_less (l:=ks) (p:=fun k=>lt k y) (q:=fun k=>lt k x) (fun k _ h=>L.tr _ _ _ h e2) hy (L.irr y) e2
      simp
      omega
    | false =>
      have:=L.tot _ _ e e2
      subst this
      simp
section
variable {prog:Program} {w:World} {A:Around} {E:Value→Shared→Prop} {s:Shared} {α:Type} {lt:α→α→Bool} {kf:Value→α}
structure SrtA (prog:Program) (w:World) (vs:List Value) {α:Type} (kf:Value→α) (lt:α→α→Bool) (κ:SortKind) (s:Shared):Prop where
  kind:∀ (A:Around),2≤vs.length→∀ Q:SortKind→Shared→Prop,Q κ s→wpAny (model prog w) A (keyKind' vs.toArray) Q (fun _ _=>False) s
  less:∀ (A:Around) (x y:Value) (C:Bool→Shared→Prop),x∈vs→y∈vs→C (lt (kf x) (kf y)) s→wpAny (model prog w) A (keyLt' κ x y) C (fun _ _=>False) s
theorem zip_self {vs:List Value} {p:Keyed} (h:p∈(vs.toArray.zip vs.toArray).toList):p.1=p.2∧p.2∈vs:=by
  rw [Array.toList_zip] at h
  obtain ⟨i,hi⟩:=List.mem_iff_getElem?.mp h
  rw [List.getElem?_zip_eq_some] at hi
  have e:=hi.1.symm.trans hi.2
  exact ⟨Option.some.inj e,List.mem_iff_getElem?.mpr ⟨i,hi.2⟩⟩
theorem zip_snd (vs:List Value):(vs.toArray.zip vs.toArray).toList.map (·.2)=vs:=by
  rw [Array.toList_zip]
  exact List.map_snd_zip (Nat.le_refl _)
theorem list_sort_all {a:Addr} {vs:List Value} {n:Nat} {κ:SortKind} {P:PySem.Fin→Shared→Prop} (L:Lin lt) (ho:s.heap.get? a=some (seqObj "list" vs.toArray n)) (sz:vs.length≤sizeLine)
    (hs:∀ h',(∀ b o,b≠a→s.heap.get? b=some o→h'.get? b=some o)→SrtA prog w vs kf lt κ { s with heap:=h' })
    (h:∀ out:List Value,out.Perm vs→out.Pairwise (fun x y=>lt (kf y) (kf x)=false)→P (.done (.ret .none)) { s with heap:=sortedHeap s.heap a vs out.toArray }) :
    wpAny (model prog w) A (Builtin.«list.sort» ⟨[.ref a],[]⟩) P E s:=by
  have ha:a < s.heap.objs.size:=Heap.lt_size ho
  rw [list_sort_plain]
  refine wpAny_bind (listItems_at ho rfl ?_)
  refine wpAny_bind (listUpdate_at ho rfl ?_ (by rw [List.size_toArray]; exact sz) (Nat.zero_le _))
  obtain ⟨e1,ho1⟩:∃ e1,(s.heap.update a (Obj.mapSeq fun _=>(#[]:Array Value))).get? a=some (seqObj "list" #[] e1):=⟨_,get?_update_seq ho fun _ => #[]⟩
  refine wpAny_bind (seqEpoch_at ho1 rfl ?_)
  refine wpAny_bind (wpAny_newTuple ?_ (by show vs.length≤_; exact sz))
  refine wpAny_bind (wpAny_newList ?_ (Nat.zero_le _))
  refine wpAny_holding ?_
  show wpAny (model prog w) A _ P E { s with heap:=((s.heap.update a (Obj.mapSeq fun _=>(#[]:Array Value))).push (seqObj "tuple" vs.toArray 0)).push (seqObj "list" #[] 0) }
  dsimp only
  have ho6:(((s.heap.update a (Obj.mapSeq fun _=>(#[]:Array Value))).push (seqObj "tuple" vs.toArray 0)).push (seqObj "list" #[] 0)).get? a=some (seqObj "list" #[] e1):=Heap.get?_push_of_some _ (Heap.get?_push_of_some _ ho1)
  have kp:∀ b o,b≠a→s.heap.get? b=some o→(((s.heap.update a (Obj.mapSeq fun _=>(#[]:Array Value))).push (seqObj "tuple" vs.toArray 0)).push (seqObj "list" #[] 0)).get? b=some o:=fun b o hb e =>
    Heap.get?_push_of_some _ (Heap.get?_push_of_some _ ((Heap.get?_update_other _ _ (Ne.symm hb)).trans e))
  have S:=hs _ kp
  by_cases h2:vs.toArray.size < 2
  · rw [if_pos h2,if_pos h2]
    refine wpAny_bind (wpAny_pure ?_)
    rw [StateT.run_pure]
    refine wpAny_bind (wpAny_pure ?_)
    dsimp only
    refine wpAny_bind (seqEpoch_at ho6 rfl ?_)
    have ez:(vs.toArray.zip vs.toArray).map (·.2)=vs.toArray:=by
      apply Array.toList_inj.mp
      rw [Array.toList_map,zip_snd]
    refine wpAny_bind (listUpdate_at ho6 rfl ?_ (hsz2:=by rw [Array.size_map,Array.size_zip]; simp; omega))
    simp only [bne_self_eq_false,Bool.false_eq_true,if_false]
    refine wpAny_pure ?_
    have:=h vs (List.Perm.refl _) (by
      rw [List.size_toArray] at h2
      match vs,h2 with
      | [],_=>exact List.Pairwise.nil
      | [x],_=>exact List.pairwise_singleton _ _
      | _::_::_,h2=>exact absurd h2 (by simp))
    show P _ { s with heap:=Heap.update _ a (Obj.mapSeq fun _=>(vs.toArray.zip vs.toArray).map (·.2)) }
    rw [ez]
    exact this
  · rw [if_neg h2,if_neg h2]
    have h2':2≤vs.length:=by rw [List.size_toArray] at h2; omega
    refine wpAny_bind (wpAny_mono (S.kind A h2' (fun κ' s'=>κ'=κ∧s'=_) ⟨rfl,rfl⟩) (fun κ' s' hk => ?_) fun _ _ x=>x.elim)
    obtain ⟨rfl,rfl⟩:=hk
    have LO:Tim.LtOk prog w A E { s with heap:=((s.heap.update a (Obj.mapSeq fun _=>(#[]:Array Value))).push (seqObj "tuple" vs.toArray 0)).push (seqObj "list" #[] 0) } (vs.toArray.zip vs.toArray) κ' (fun p=>rnk lt (vs.map kf) (kf p.2)):=fun x y C hx hy hC=>by
      obtain ⟨x1,x2⟩:=zip_self hx
      obtain ⟨y1,y2⟩:=zip_self hy
      rw [x1,y1]
      refine S.less A x.2 y.2 C x2 y2 ?_
      rw [← rnk_lt L (List.mem_map_of_mem x2) (List.mem_map_of_mem y2)]
      exact hC
    refine wpAny_bind (wpAny_mono (Tim.runs_ok LO (st:=SortSt.mk' κ' (vs.toArray.zip vs.toArray) #[] 7 none) (Q:=fun _ st'=>Tim.SB (vs.toArray.zip vs.toArray) κ' st'∧Tim.Seg (fun p=>rnk lt (vs.map kf) (kf p.2)) (arrOf st') 0 (vs.toArray.zip vs.toArray).size) ⟨Array.Perm.refl _,rfl,rfl⟩ rfl fun st' B S'=>⟨B,S'⟩) ?_ fun _ _ e=>e)
    rintro ⟨⟨⟩,st'⟩ s' ⟨rfl,B,S'⟩
    dsimp only at B S' ⊢
    refine wpAny_bind (seqEpoch_at ho6 rfl ?_)
    have hp:((arrOf st').toList.map (·.2)).Perm vs:=by
      have:=(Array.perm_iff_toList_perm.mp B.perm).map (·.2)
      rw [zip_snd] at this
      exact this
    have hout:(arrOf st').map (·.2)=((arrOf st').toList.map (·.2)).toArray:=by
      apply Array.toList_inj.mp
      rw [Array.toList_map]
    rw [hout]
    refine wpAny_bind (listUpdate_at ho6 rfl ?_ (Nat.zero_le _) (by rw [List.size_toArray,hp.length_eq]; omega))
    rw [B.ok]
    simp only [bne_self_eq_false,Bool.false_eq_true,if_false]
    refine wpAny_pure (h _ hp ?_)
    rw [List.pairwise_map,List.pairwise_iff_getElem]
    intro i j hi hj hij
    rw [Array.length_toList] at hi hj
    have q:=S' i j (Nat.zero_le _) (Nat.le_of_lt hij) (by rw [← B.size]; exact hj)
    rw [Tim.kat_some (Array.getElem?_eq_getElem hi),Tim.kat_some (Array.getElem?_eq_getElem hj)] at q
    have m1:(arrOf st')[i].2∈vs:=hp.mem_iff.mp (List.mem_map_of_mem (by simp))
    have m2:(arrOf st')[j].2∈vs:=hp.mem_iff.mp (List.mem_map_of_mem (by simp))
    have:=rnk_lt L (ks:=vs.map kf) (List.mem_map_of_mem m2) (List.mem_map_of_mem m1)
    show lt (kf (arrOf st')[j].2) (kf (arrOf st')[i].2)=false
    rw [← this]
    exact decide_eq_false (by omega)
theorem sorted_all {r:Addr} {Q:Value→Shared→Prop} (L:Lin lt) (hcol:wpAny (model prog w) A.in1 (collect (.ref r)) (fun vs s1=>vs.length≤sizeLine∧∃ (κ:SortKind),(∀ h',(∀ b o,s1.heap.get? b=some o→h'.get? b=some o)→SrtA prog w vs kf lt κ { s1 with heap:=h' }) ∧
      ∀ out:List Value,out.Perm vs→out.Pairwise (fun x y=>lt (kf y) (kf x)=false)→Q (.ref s1.heap.objs.size) { s1 with heap:=sortedHeap (s1.heap.push (seqObj "list" vs.toArray 0)) s1.heap.objs.size vs out.toArray }) E s) :
    wpAny (model prog w) A (call (.builtin "sorted") [.ref r]) Q E s:=by
  refine Calls.call_function_entry kind_sorted plain_sorted entry_sorted (args_sorted1 _) ?_
  unfold Builtin.«sorted»
  refine wpAny_bind (m:=checkCount "sorted" 1 1 _) (wpAny_pure ?_)
  refine wpAny_bind (wpAny_mono hcol (fun vs s1 ⟨sz,κ,hS,hq⟩ => ?_) fun _ _ e=>e)
  refine wpAny_bind (wpAny_newList ?_ sz)
  have hoL:(s1.heap.push (seqObj "list" vs.toArray 0)).get? s1.heap.objs.size=some (seqObj "list" vs.toArray 0):=Heap.get?_push_size _ rfl
  show wpAny _ _ _ _ _ { s1 with heap:=s1.heap.push (seqObj "list" vs.toArray 0) }
  refine wpAny_bind (wpAny_holding (wpAny_call_entry slot_list_sort ⟨_,hoL,rfl⟩ entry_list_sort (list_sort_all (kf:=kf) (κ:=κ) L hoL sz (fun h' kp=>hS h' fun b o e => ?_) fun out o u=>⟨_,rfl,?_⟩) (args_list_sort _)))
  · exact kp b o (Nat.ne_of_lt (Heap.lt_size e)) (Heap.get?_push_of_some _ e)
  · exact wpAny_pure ⟨_,rfl,hq out o u⟩
end

theorem lin_txt:Lin (fun (a b:List Nat)=>decide (a < b)):=by
  refine ⟨fun a=>by simpa using List.lt_irrefl a,fun a b c h1 h2 => ?_,fun a b h1 h2 => ?_⟩
  · simp only [decide_eq_true_eq] at *
    exact List.lt_trans h1 h2
  · simp only [decide_eq_false_iff_not] at *
    exact List.le_antisymm (List.not_lt.mp h2) (List.not_lt.mp h1)
def txtOf:Value→Str
  | .str x _=>x
  | _=>default
section
variable {prog:Program} {w:World} {s:Shared}
theorem srt_txts {vs:List Value} {ss:List Str} (r:Vals (ss.map V.str) vs):SrtA prog w vs (fun v=>(txtOf v).cps.toList) (fun a b=>decide (a < b)) oneType' s:=by
  have ht:∀ v∈vs,∃ x t,v=.str x t:=fun v hv=>by
    obtain ⟨j,hj⟩:=List.mem_iff_getElem?.mp hv
    have hl:=r.length
    rw [List.length_map] at hl
    obtain ⟨hj',_⟩:=List.getElem?_eq_some_iff.mp hj
    obtain ⟨u,e1,e2⟩:=r.get (i:=j) (x:=V.str (ss[j]'(by omega))) (by simp [show j < ss.length by omega])
    rw [hj] at e1
    cases e1
    exact ⟨_,e2⟩
  refine ⟨fun A h2 Q q => ?_,fun A x y C hx hy q => ?_⟩
  · refine kas_kind (T:=.type "str") h2 (fun v hv => ?_) (by decide) (by decide) q
    obtain ⟨x,t,rfl⟩:=ht v hv
    exact Looks.now
  · obtain ⟨a,t,rfl⟩:=ht x hx
    obtain ⟨b,u,rfl⟩:=ht y hy
    rw [keyLt'_oneType]
    exact oneLt_str q
end
section
variable {X:Cx}
theorem Inv.sortd {pins:List (Addr × Obj)} {σ:St} {H:Hp} {s:Shared} {a:Addr} {its out:List Value} {us:List V} (I:Inv X pins σ H s) (hz:us.length≤sizeLine) (ho:Vals us out) :
    ∃ S,H S=none∧Inv X pins σ (upd H S (.lst us)) { s with heap:=sortedHeap (((s.heap.push (seqObj "list" #[] 0)).update s.heap.objs.size (Obj.mapSeq (· ++ its.toArray))).push (seqObj "list" its.toArray 0)) ((s.heap.push (seqObj "list" #[] 0)).update s.heap.objs.size (Obj.mapSeq (· ++ its.toArray))).objs.size its out.toArray } ∧
      S=((s.heap.push (seqObj "list" #[] 0)).update s.heap.objs.size (Obj.mapSeq (· ++ its.toArray))).objs.size:=by
  have kp:∀ b o,s.heap.get? b=some o→((s.heap.push (seqObj "list" #[] 0)).update s.heap.objs.size (Obj.mapSeq (· ++ its.toArray))).get? b=some o:=fun b o e =>
    (Heap.get?_update_other _ _ (Ne.symm (Nat.ne_of_lt (Heap.lt_size e)))).trans (Heap.get?_push_of_some _ e)
  have I1:Inv X pins σ H { s with heap:=(s.heap.push (seqObj "list" #[] 0)).update s.heap.objs.size (Obj.mapSeq (· ++ its.toArray)) }:=I.kept (t':=s.toks) kp
  obtain ⟨n2,hS⟩:=sortedHeap_is (h:=(s.heap.push (seqObj "list" #[] 0)).update s.heap.objs.size (Obj.mapSeq (· ++ its.toArray))) (vs:=its) (out:=out.toArray)
  refine ⟨_,I1.hok.fresh (Nat.le_refl _),I1.laid (t':=s.toks) (fun b o e=>sortedHeap_keep e) (Nat.le_refl _) ⟨hz,out,n2,ho,hS⟩,rfl⟩
theorem call_sortS (hc:X.calm=true):CallR X (.builtin "sorted") (fun xs H Q=>∃ (a:Addr) (ss:List Str),xs=[.ref a]∧SqL X.K H a (ss.map V.str) ∧
    ∀ (S:Addr) (ss':List Str),H S=none→ss'.Perm ss→ss'.Pairwise (fun x y=>¬ y.cps.toList < x.cps.toList)→Q (.ref S) (upd H S (.lst (ss'.map V.str)))):=by
  intro pins s σ H xs us Q I r h
  obtain ⟨a,ss,rfl,hS,q⟩:=h
  obtain ⟨u,rfl,ru⟩:=vals1 r
  cases ru
  obtain ⟨its,rv,pl,sz⟩:=I.list hS
  have sz':its.length≤sizeLine:=by rw [← rv.length]; exact sz
  refine sorted_all (kf:=fun v=>(txtOf v).cps.toList) lin_txt (collect_list pl.isList ?_ sz')
  refine ⟨sz',oneType',fun h' kp=>srt_txts rv,fun out hp hw => ?_⟩
  have e1:its.map txtOf=ss:=by
    have:∀ {ss:List Str} {its:List Value},Vals (ss.map V.str) its→its.map txtOf=ss:=fun {ss}=>by
      induction ss with
      | nil=>intro its r; cases r; rfl
      | cons x ss ih =>
        intro its r
        cases r with
        | cons h t =>
          obtain ⟨tk,rfl⟩:=h
          rw [List.map_cons,ih t]
          rfl
    exact this rv
  have pm:(out.map txtOf).Perm ss:=e1▸hp.map txtOf
  have al:∀ v∈its,∃ x t,v=.str x t:=by
    have:∀ {ss:List Str} {its:List Value},Vals (ss.map V.str) its→∀ v∈its,∃ x t,v=.str x t:=fun {ss}=>by
      induction ss with
      | nil=>intro its r; cases r; intro v hv; cases hv
      | cons x ss ih =>
        intro its r
        cases r with
        | cons h t =>
          intro v hv
          rcases List.mem_cons.mp hv with rfl | hv
          · exact ⟨_,h⟩
          · exact ih t v hv
    exact this rv
  have ro:Vals ((out.map txtOf).map V.str) out:=by
    have:∀ {out:List Value},(∀ v∈out,∃ x t,v=.str x t)→Vals ((out.map txtOf).map V.str) out:=fun {out}=>by
      induction out with
      | nil=>intro _; exact .nil
      | cons v out ih =>
        intro hv
        refine .cons ?_ (ih fun v' hv'=>hv v' (by simp [hv']))
        obtain ⟨x,t,rfl⟩:=hv v (by simp)
        exact ⟨t,rfl⟩
    exact this fun v hv=>al v (hp.mem_iff.mp hv)
  obtain ⟨S,h1,h2,h3⟩:=I.sortd (a:=a) (its:=its) (by rw [ro.length,hp.length_eq]; exact sz') ro
  subst h3
  refine ⟨.ref _,_,h2,rfl,q _ _ h1 pm ?_⟩
  rw [List.pairwise_map]
  exact hw.imp fun h=>by simpa using h
end
end L2

namespace L2
open PySem PySem.Spec PySem.Calls PyProof.Rows PySem.W


section
variable {prog:Program} {w:World} {A:Around} {s:Shared}
end
section
variable {X:Cx}
end
end L2

namespace L2
open PySem PySem.Spec PySem.Calls PyProof.Rows PySem.W

section
variable {X:Cx} {e lo st:Expr} {te:TE} {tl ts:TO} {p2 pos:Pos}
end
end L2

namespace L2
open PySem PySem.Spec PySem.Calls PyProof.Rows PySem.W

section
variable {prog:Program} {w:World} {A:Around} {E:Value→Shared→Prop} {s:Shared} {a:Addr} {o:Obj} {xs:Array Value} {k:Nat}
end
section
variable {prog:Program} {w:World} {A:Around} {E:Value→Shared→Prop} {s:Shared}
end

section
variable {X:Cx}
end

section
variable {X:Cx}
end
end L2

namespace L2
open PySem PySem.Spec PySem.Calls PyProof.Rows PySem.W

section
variable {P:Program} {w:World} {K:PySem.W.Frag} {mg:Str→Option Value} {base:Heap} {N:List Str} {qual:Str} {scope:Scope} {f:Addr} {cd:Value} {cl:List (Str × Addr)} {A:Around} {outer:List Env} {s0:Shared} {H0:Hp} {E:XK}
theorem leave_onL {pins:List (Addr × Obj)} {σ:St} {H:Hp} {s s':Shared} {e:Value} (I:Inv (cxLam (CXe P w) P w K mg base N qual scope f cd cl A outer s0 H0 E) pins σ H s)
    (c:CXe P w (cxLam (CXe P w) P w K mg base N qual scope f cd cl A outer s0 H0 E).stack H s E e s'):(cxLam (CXe P w) P w K mg base N qual scope f cd cl A outer s0 H0 E).xe e s':=by
  obtain ⟨ea,cls,H',rfl,c1,c2,c3,c4,⟨⟨oe,vs,a0,T,oT,ts,f1,f2,f3,f4,f5,f6,f7,f8,f9⟩,fn,fu⟩,q⟩:=c
  have J:=I.call' (s':=s') (ch:=[]) c1 c3 c4 c2 (fun b z=>by cases z)
  have fr:s'.heap.FunFrames _ (cxLam (CXe P w) P w K mg base N qual scope f cd cl A outer s0 H0 E).stack:=J.stack
  have hh:∀ b∈[ea,T],s.heap.get? b=none∧H' b=none:=fun b hb=>by
    rcases List.mem_cons.mp hb with rfl | hb
    · exact ⟨fn,fu⟩
    · rcases List.mem_cons.mp hb with rfl | hb
      · exact f5
      · cases hb
  refine leave3 (base:=less s'.heap ([ea,T]++frs (cxLam (CXe P w) P w K mg base N qual scope f cd cl A outer s0 H0 E).stack)) (L:=s0.heap.objs.size) (cls:=cls) (a0:=a0) I.ok.frames rfl
    ⟨less_stays _ _,PySem.W.hideAll_none _ (by simp),rebase fr fun a ha=>PySem.W.hideAll_none _ (List.mem_append_right _ ha),oe,vs,T,oT,ts,f1,f2,f3,f4,PySem.W.hideAll_none _ (by simp),f6,f7,f8,f9⟩ fun h'' x1 x4 => ?_
  obtain ⟨y1,y2,y3,oe',vs',T',oT',ts',z1,z2,z3,z4,z5,z6,z7,z8,z9⟩:=x1
  obtain ⟨u,ok⟩:=un_upto c3 c4 fr J.stkFree hh y1 x4
  have J':=I.call' (s':={ s' with heap:=h'' }) (ch:=[]) c1 u ok c2 (fun b z=>by cases z)
  obtain ⟨n1,n2⟩:=entry_new c3 c4 fr hh x4 z7 z8 z5
  exact ⟨ea,cls,H',rfl,J'.os,J'.bare,J'.base,ok,⟨⟨oe',vs',_,T',oT',ts',z1,z2,z3,z4,⟨back I.base n1,n2⟩,z6,z7,z8,z9⟩,back I.base fn,fu⟩,q⟩
theorem passL:Passes (CXe P w) (cxLam (CXe P w) P w K mg base N qual scope f cd cl A outer s0 H0 E) E:=fun _ _ _ _ _ _ I c=>leave_onL I c
end

def tCallVS (i:Nat) (fa:Addr) (o:Obj) (sp:Sp) (R:Value→St→Hp→Prop):TE:=fun σ H Q=>σ[i]? = some (some (.ref fa))∧H fa=some (isE fa o)∧sp [] H Q (fun cls _ H'=>R cls σ H')
section
variable {X:Cx}
theorem pe_callVS {W:Value→Shared→Prop} {pn:List (Addr × Obj)} {R:Value→St→Hp→Prop} {Z:List (Addr × Obj)} {j k i:Nat} {x:Str} {fa:Addr} {o:Obj} {fd:FuncData} {sp:Sp} {p pos:Pos}
    (G:FnOkZ Z X.prog X.w X.K X.mg X.base (CXe X.prog X.w) j fa fd [] sp) (hd:o.data=.func fd) (hb:bindArgs fd ⟨[],[]⟩=pure []) (hz:Zs Z X.outer X.s₀ X.H₀) (hr:Room k X.A) (pt:PassT X W pn R) (hj:j≤k:=by decide) (hex:X.ex=[]:=by rfl)
    (hN:X.N[i]? = some x:=by rfl) (hv:Vis X.env.scope x:=by first | exact Or.inl rfl | exact Or.inr (Or.inl rfl) | exact Or.inr (Or.inr rfl))
    (hdb:(x == ("__debug__" : Str))=false:=by decide) (hcd:(x == ("__classdict__" : Str))=false:=by decide) :
    PE (Xb X W pn) (.Call (.Name x p) [] [] pos) (tCallVS i fa o sp R):=by
  intro pins s σ H Q I h
  obtain ⟨hi,hfa,h⟩:=h
  refine wpAny_Call_Name_kw ?_
  have pv:=pe_var (X:=Xb X W pn) (pos:=p) hN hv hdb hcd pins s σ H (fun v H'=>v=.ref fa∧H'=H) I ⟨_,hi,rfl,rfl⟩
  refine thn pv fun u s1 ⟨v,H1,I1,r1,e1,e2⟩ => ?_
  subst e1
  subst e2
  cases r1
  refine callWith_function (o:=o) (fd:=fd) (PyProof.Rows.evalArgs_none ⟨⟨(I1.hok fa _ hfa).1,hd⟩,?_⟩)
  have zs:Zs Z X.stack s1 _:=I1.zs hz hex
  refine wpAny_call (codeAny_mono (G.run X.A X.stack s1 _ ⟨[],[]⟩ [] [] Q _ (hr.mono hj) I1.env0 zs (.of_eq hb) .nil h) fun r s' hq => ?_)
  cases r with
  | error e=>exact pt pins σ _ s1 e s' I1 hq
  | ok fl =>
    cases fl with
    | ret u=>exact I1.after hq
    | next=>exact False.elim hq
    | brk=>exact False.elim hq
    | cont=>exact False.elim hq
end

def sp_deed (fa c':Addr) (o:Obj) (qual:Str) (R:Hp→Prop) (cls:Value):Sp:=fun vs H _ E=>vs=[]∧H c'=some (codeE c' qual)∧H fa=some (isE fa o)∧R H∧∀ H',Same H H'→E cls none H'

def sp_ref (fa c':Addr) (o:Obj) (qual:Str) (R:Hp→Prop) (zs:List V):Sp:=fun vs H Q _=>vs=.ref fa::zs∧H c'=some (codeE c' qual)∧H fa=some (isE fa o)∧R H∧∀ H',Same H H'→Q (.bl true) H'

structure RefOk (P:Program) (w:World) (K:PySem.W.Frag) (mg:Str→Option Value) (base:Heap) (kd kr:Nat) (x:Str) (ps:List Str) (Kd:Value→List V→Prop):Prop where
  ex:∃ f fd,Binds K fd ps []∧PySem.W.keepIn K (.ref f)=true∧mg x=some (.ref f)∧∀ (Z:List (Addr × Obj)) (fa c':Addr) (o:Obj) (qual:Str) (R:Hp→Prop) (cls:Value) (zs:List V) (fdl:FuncData),
    o.data=.func fdl→bindArgs fdl ⟨[],[]⟩=pure []→FnOkZ Z P w K mg base (CXe P w) kd fa fdl [] (sp_deed fa c' o qual R cls)→Kd cls zs→FnOkZ Z P w K mg base (CXe P w) kr f fd ps (sp_ref fa c' o qual R zs)

def tDeed (T:List (Addr × Str)) (is:List Nat) (Kd:Value→List V→Prop) (tb:XK→TE) (te:TA):TE:=fun σ H Q=>∃ (ws:List V) (cls:Value),is.map (fun i=>σ[i]?)=ws.map (fun v=>some (some v))∧Tabs T H ∧
  ∀ H1,SameT T H H1→Tabs T H1→te σ H1 fun zs H2=>H2=H1∧Kd cls zs∧(∀ (E:XK) (Q':VK),(∀ H',Same H1 H'→E cls none H')→tb E (ws.map some) H1 Q')∧∀ H',SameT T H H'→Tabs T H'→Q (.bl true) H'
section
variable {X:Cx}
theorem pe_deed {params:Arguments} {body:Expr} {scope:Scope} {lpos p pos:Pos} {T:List (Addr × Str)} {c Pt:Addr} {qual x:Str} {es:List Expr} {te:TA} {tb:XK→TE} {Kd:Value→List V→Prop} {ps:List Str} {kl j k:Nat} (xs caps:List Str) (is:List Nat)
    (RO:RefOk X.prog X.w X.K X.mg X.base (kl + 1) j x ps Kd) (hr:Room k X.A) (hin:(xs.all fun x=>(X.env.cells.lookup x).isSome)=true)
    (hcap:∀ x∈caps,(X.env.kindOf x=some .cell∧Vis X.env.scope x)∧x∈xs) (his:is.map (X.N[·]?)=caps.map some) (hB:BMain X.mg X.base) (hC:CodeHd X.base c Pt) (hcode:X.env.code=.ref c) (hT:(Pt,qual)∈T) (hnd:(T.map (·.1)).Nodup) (hq:X.env.qual ++ "<lambda>" = qual)
    (hclos:closureFor scope X.env=pure (clo X.env xs)) (S:LamScope [] caps scope) (hpar:∀ pm c' ctv,bindArgs (kla_fn "<lambda>" qual params body scope (clo X.env xs) pm (.ref c') ctv) ⟨[],[]⟩=pure [])
    (hb:∀ (fa c':Addr) (A:Around) (outer:List Env) (s:Shared) (H:Hp) (E:XK),Room kl (A.deeper (envX qual scope s.heap.objs.size fa (.ref c') (clo X.env xs))) →
      PE (cxLam (CXe X.prog X.w) X.prog X.w X.K X.mg X.base caps qual scope fa (.ref c') (clo X.env xs) A outer s H E) body (tb E))
    (h2:PA X es te) (hm:∀ σ H Q Q',(∀ v H,Q v H→Q' v H)→te σ H Q→te σ H Q')
    (hj:j≤k:=by decide) (hfn:∀ x,X.fn x=true:=by intro _; rfl) (hg:Gl X x:=by rfl) (hdb:(x == ("__debug__" : Str))=false:=by decide)
    (hdef:defaultsOf params X.env=([],[]):=by rfl)
    (he:starEach (.Lambda params body scope lpos::es) X.env=(false,eval (.Lambda params body scope lpos) X.env)::starEach es X.env:=by rfl) (hpl:(backTo pos (starEach es X.env)).any (·.1)=false:=by rfl) :
    PE X (.Call (.Name x p) (.Lambda params body scope lpos::es) [] pos) (tDeed T is Kd tb te):=by
  let mk:Addr→Value→Obj:=fun c' ctv=>kla_obj "<lambda>" qual params body scope (clo X.env xs) ((X.mg "__name__").getD .none) c' ctv
  let R:List V→Value→Hp→Prop:=fun ws cls H=>∀ (E:XK) (Q':VK),(∀ H',Same H H'→E cls none H')→tb E (ws.map some) H Q'
  let ι:Type:={ i:Addr × Addr × Value × Value × List V // Kd i.2.2.2.1 i.2.2.2.2 }
  let sp:List V→Sp:=fun ws vs H Q E=>∃ i:ι,sp_ref i.1.1 i.1.2.1 (mk i.1.2.1 i.1.2.2.1) qual (R ws i.1.2.2.2.1) i.1.2.2.2.2 vs H Q E
  have FL:∀ Z ws,True→CellsZ Z (clo X.env xs) caps ws→FokZ Z X.prog X.w X.K X.mg X.base (CXe X.prog X.w) j x ps (sp ws):=by
    intro Z ws _ cz
    obtain ⟨f,fd,b,kp,m,G⟩:=RO.ex
    refine ⟨f,fd,FnOkZ.ex (ι:=ι) fun i => ?_,b,kp,m⟩
    refine G Z i.1.1 i.1.2.1 (mk i.1.2.1 i.1.2.2.1) qual (R ws i.1.2.2.2.1) i.1.2.2.2.1 i.1.2.2.2.2 _ rfl (hpar _ _ _) ?_ i.2
    refine lam_of (k:=kl) S cz (fun vs H Q E h => ?_) (fun vs H Q E h => ?_) fun A outer s H vs Q E hr hz h => ?_
    · obtain ⟨rfl,_⟩:=h
      rfl
    · obtain ⟨_,h1,h2,_⟩:=h
      exact ⟨h1,h2⟩
    · obtain ⟨rfl,h1,h2,hR,hE⟩:=h
      exact ⟨tb E,hb _ _ _ _ _ _ _ hr,hR E Q hE⟩
  have base:=pe_callL (p:=p) (pos:=pos) xs caps is (W:=fun _=>True) (sp:=sp) FL quietE hr hin hcap his (pa_cons (pe_lam (pos:=lpos) xs hB hC hcode hT hnd hq hclos hdef) h2 he) hj hfn hg hdb he hpl
  intro pins s σ H Q I h
  obtain ⟨ws,cls,hws,hTb,h⟩:=h
  refine base pins s σ H Q I ⟨ws,hws,trivial,hTb,fun fa c' ctv H1 nfa e1 e2 tb1 st1 => ?_⟩
  refine hm _ _ _ _ (fun zs H2 hz => ?_) (h H1 st1 tb1)
  obtain ⟨rfl,kd,hR,hQ⟩:=hz
  exact ⟨⟨(fa,c',ctv,cls,zs),kd⟩,rfl,e2,e1,hR,fun H' s'=>hQ H' (st1.trans s'.toT) (s'.tabs tb1)⟩
end
end L2

namespace L2
open PySem PySem.Spec PySem.Calls PyProof.Rows

section
variable {X:Cx} {st:Stmt} {rest:List Stmt} {t u:TS} {pos:Pos} {e a b:PySem.Expr} {te ta tb:TE}
theorem pssx_nil:PSsx X [] tNext:=⟨pss_nil⟩
theorem psx_ret (h:PEx X e te):PSx X (.Return (some e) pos) (tRet te):=⟨ps_ret h.h⟩
theorem psx_if {c:PySem.Expr} {l r:List Stmt} {tc:TT} (hc:PT X c tc) (ha:PSsx X l t) (hb:PSsx X r u):PSx X (.If c l r pos) (tIfS tc t u):=⟨ps_if hc ha.h hb.h⟩
theorem pex_ix {r:R2} (hr:IxR X r) (ha:PEx X a ta) (hb:PE X b tb) (hs:PlainIx b):PEx X (.Subscript a b pos) (tOp r ta tb):=⟨pe_ix hr ha.h hb hs⟩
end
section
variable {P:Program} {w:World} {K:PySem.W.Frag} {mg:Str→Option Value} {base:Heap}
end
end L2

namespace L2
open PySem PySem.Spec PySem.Calls PyProof.Rows

section
variable {X:Cx} {tg:Expr}
end

section
variable {X:Cx}
end
end L2

namespace L2
open PySem PySem.Spec PySem.Calls PyProof.Rows PySem.W

section
variable {prog:Program} {w:World} {A:Around} {E:Value→Shared→Prop} {s:Shared}
end
section
variable {X:Cx}
end

section
variable {prog:Program} {w:World} {A:Around} {E:Value→Shared→Prop} {s:Shared}
end
section
variable {prog:Program} {w:World} {A:Around} {E:Value→Shared→Prop} {s:Shared}
end
section
variable {X:Cx}

end
section
variable {X:Cx} {K:PySem.W.Frag}

end
end L2

namespace L2
open PySem PySem.Spec PySem.Calls PyProof.Rows PySem.W

section
variable {prog:Program} {w:World} {K:Type} [DecidableEq K] {knd:HeapKind prog w K} {A:Around} {E:Value→Shared→Prop} {s:Shared} {d b:Addr} {k:K} {ps:List (K × Addr × Value)}
end
section
variable {X:Cx} {o e f:Expr} {apos cpos:Pos} {td ty tx:TE}
end

section
open PySem.SeqAt
open PySem.AutoSeq1 (wpAny_loadPart')
open PySem.MeetsSeq PySem.MeetsSeq2 PySem.MeetsSeq3
end
section
variable {X:Cx}
end
end L2

namespace L2
open PySem PySem.Spec PySem.Calls PyProof.Rows PySem.W

section
variable {X:Cx} {tg:Expr}
end
section
variable {σ0 cs:St} {k:Nat} {g:TG} {te:TE} {tt:TT} {H1:Hp} {Q:VK}
end
end L2

namespace L2
open PySem PySem.Spec PySem.Calls PyProof.Rows PySem.W

section
variable {prog:Program} {w:World} {A:Around} {E:Value→Shared→Prop} {s:Shared} {α:Type} {lt:α→α→Bool}
end
section
variable {X:Cx}
end
end L2

namespace L2
open PySem PySem.Spec PySem.Calls PyProof.Rows PySem.W

section
variable {X:Cx}
end
section
variable {prog:Program} {w:World} {A:Around} {E:Value→Shared→Prop} {s:Shared}
end

section
variable {X:Cx}
end
end L2

namespace L2
open PySem PySem.Spec PySem.Calls PyProof.Rows PySem.W

section
variable {prog:Program} {w:World} {A:Around} {E:Value→Shared→Prop} {s:Shared}
end
section
variable {X:Cx}
end
section
variable {X:Cx}
end

section
variable {prog:Program} {w:World} {κ:Type} [DecidableEq κ] {knd:HeapKind prog w κ} {A:Around} {E:Value→Shared→Prop} {s:Shared}
end
section
variable {X:Cx}
end

section
variable {X:Cx}
end
section
variable {X:Cx}
end
end L2

namespace L2
open PySem PySem.Spec PySem.Calls PyProof.Rows

theorem unchain_e:entryFor table "proto.unchain" = some Builtin.«proto.unchain» := entryFor_of_tree (by kernel_rfl)
section
variable {prog:Program} {w:World} {A:Around} {E:Value→Shared→Prop} {s:Shared}

theorem raise_on {α:Type} {e x:Addr} {oe ox:Obj} {ve vs:Array Value} {Q:α→Shared→Prop} (hh:A.handled=some (.ref x)) (ne:x≠e) (hx:s.heap.get? x=some ox) (dx:ox.data=.fields vs) (h2:vs[2]? = some .none)
    (he:s.heap.get? e=some oe) (de:oe.data=.fields ve) (l2:2 < ve.size) (h:E (.ref e) { s with heap:=s.heap.update e (Obj.mapFields (·.setIfInBounds 2 (.ref x))) }):wpAny (model prog w) A (raiseNew (.ref e):Sem α) Q E s:=by
  unfold raiseNew
  refine wpAny_bind (wpAny_handled ?_)
  rw [hh]
  dsimp only
  rw [if_pos (by simpa using ne)]
  refine wpAny_bind (wpAny_holding (wpAny_runValue (codeAny_builtin unchain_e ?_)))
  unfold Builtin.«proto.unchain»
  dsimp only
  refine wpAny_bind (wpAny_field hx dx h2 ?_)
  rw [if_pos (by simp)]
  refine wpAny_pure ?_
  dsimp only
  refine wpAny_bind ?_
  unfold updateField
  refine wpAny_bind (wpAny_load he ?_)
  rw [de]
  dsimp only
  rw [if_pos l2]
  exact wpAny_update he (wpAny_throw h)

theorem range_endH {it x:Addr} {a left step:Int} {cls:Value} {Q:Option Value→Shared→Prop} (hh:A.handled=some (.ref x)) (hx:ExcIs x cls s.heap) (hit:IsRangeIter s.heap it a left step) (hl:left≤0)
    (q:∀ h',Heap.ExtBut it s.heap h'→Q none { s with heap:=h' }):wpAny (model prog w) A (pyNext (.ref it)) Q E s:=by
  obtain ⟨ox,vs,hx,_,dx,h2⟩:=hx
  have ty:s.TypeIs (.ref it) "range_iterator" := ⟨_,hit,rfl⟩
  unfold pyNext
  refine wpAny_bind (wpAny_attempt (wpAny_callSpecial?_slot (name:=Str.ofString "__next__") ty F.slot_range_iterator_next (wpAny_call_entry F.slot_range_iterator_next ty F.entry_range_iterator_next ?_ (F.args_range_iterator_next_1 _))))
  refine wpAny_bind (m:=field (.ref it) 0) (wpAny_field hit rfl (x:=rawInt a) rfl (wpAny_bind (m:=field (.ref it) 1) (wpAny_field hit rfl (x:=rawInt left) rfl (wpAny_bind (m:=field (.ref it) 2) (wpAny_field hit rfl (x:=rawInt step) rfl ?_)))))
  refine wpAny_ite ?_
  rw [if_pos hl]
  refine wpAny_bind (wpAny_rule (wpAny_bind (wpAny_bind (m:=newExc (.type "StopIteration") []) ?_)))
  unfold newExc newTuple
  refine wpAny_bind (wpAny_newObj_type (wpAny_bind (m:=firstArgMember _ _) (wpAny_of_eq (a:=Value.none) (by simp only [firstArgMember]; rfl) (wpAny_newObj_type ?_ (by size_fits)))) (by size_fits))
  obtain ⟨h0,e0⟩:∃ h0,h0=s.heap.push { cls:=.type "tuple",dict:=none,data:=.seq ([]:List Value).toArray }:=⟨_,rfl⟩
  have lt:x < s.heap.objs.size:=Heap.lt_size hx
  have ls:h0.objs.size=s.heap.objs.size + 1:=by rw [e0,Heap.size_push]
  have kp:∀ b o,s.heap.get? b=some o→h0.get? b=some o:=fun b o e=>by rw [e0]; exact Heap.get?_push_of_some _ e
  rw [show (s.heap.push { cls:=Value.type "tuple",data:=Data.seq #[] })=h0 from e0.symm]
  refine raise_on (A:=A.in1) (x:=x) hh (Nat.ne_of_lt (by show x < h0.objs.size; rw [ls]; exact Nat.lt_succ_of_lt lt)) (Heap.get?_push_of_some _ (kp _ _ hx)) dx h2 (Heap.get?_push_size _ rfl) rfl (by simp only [Array.size_append]; exact Nat.lt_of_lt_of_le (by decide:2 < 6) (Nat.le_add_right _ _)) ?_
  refine wpAny_bind (wpAny_isInstance (T := "StopIteration") (b:=true) ⟨_,Heap.get?_update_self _ (Heap.get?_push_size _ rfl) rfl,rfl⟩ isSubtype_stop ?_)
  refine wpAny_pure (q _ fun b o _ e => ?_)
  have ne:h0.objs.size≠b:=Nat.ne_of_gt (by rw [ls]; exact Nat.lt_succ_of_lt (Heap.lt_size e))
  rw [Heap.get?_update_other _ _ ne]
  exact Heap.get?_push_of_some _ (kp b o e)
end

structure TurnH (P:Program) (w:World) (K:PySem.W.Frag) (tg:Expr) (J:It) (fp:List Addr) (it:Addr) (tn:Nat→Heap→Prop):Prop where
  mem:it∈fp
  obj:∀ i h,tn i h→∀ b∈fp,∃ o,h.get? b=some o∧∀ v,o.data≠.cell v
  keep:∀ i h h',tn i h→(∀ b∈fp,∀ o,h.get? b=some o→h'.get? b=some o)→tn i h'
  item:∀ (X:Cx),X.prog=P→X.w=w→X.K=K→∀ (i:Nat) (pins:List (Addr × Obj)) (s:Shared) (σ:St) (H:Hp) (E:Value→Shared→Prop),Inv X pins σ H s→(∀ b∈fp,FpOk X pins H b)→tn i s.heap→J.go i H →
    wpAny (model P w) X.A (pyNext (.ref it)) (fun r s1=>∃ u,r=some u∧wpAny (model P w) X.A (letOwnedTupleGo tg (.ref it) u) (fun _ s2=>∃ x H',Inv X pins σ H' s2∧RelV x u∧J.yld i H x H'∧tn (i + 1) s2.heap∧∀ b∈fp,H' b=none) E s1) E s
  done:∀ (X:Cx),X.prog=P→X.w=w→X.K=K→∀ (i:Nat) (pins:List (Addr × Obj)) (s:Shared) (σ:St) (H:Hp) (E:Value→Shared→Prop),Inv X pins σ H s→(∀ b∈fp,FpOk X pins H b)→tn i s.heap→J.stop i H →
    (∃ e cls,X.A.handled=some (.ref e)∧H e=some (.ext (ExcIs e cls)))→wpAny (model P w) X.A (pyNext (.ref it)) (fun r s1=>r=none∧Inv X pins σ H s1) E s
  self:∀ (A:Around) (i:Nat) (s:Shared) (Q:Value→Shared→Prop) (E:Value→Shared→Prop),tn i s.heap→Q (.ref it) s→wpAny (model P w) A (pyIter (.ref it)) Q E s
theorem turnH_range {P:Program} {w:World} {K:PySem.W.Frag} {tg:Expr} (it:Addr) (n:Nat):TurnH P w K tg (Itr 0 n) [it] it (fun i h=>i≤n∧IsRangeIter h it (i:Int) ((n:Int) - (i:Int)) 1) where
  mem:=by simp
  obj:=fun i h st b hb=>by
    have e:b=it:=by simpa using hb
    subst e
    exact ⟨_,st.2,fun v z=>by cases (show Data.fields _=Data.cell v from z)⟩
  keep:=fun i h h' st k=>⟨st.1,k it (by simp) _ st.2⟩
  item:=by
    intro X hP hw hK i pins s σ H E I hf st hg
    subst hP hw hK
    obtain ⟨f0,f1,f2,f3,f4,f5⟩:=hf it (by simp)
    have hg':i < n:=hg
    refine wpAny_pyNext_range_item st.2 (by omega) fun h' st' sb => ?_
    have st2:IsRangeIter h' it (((i + 1:Nat):Int)) ((n:Int) - ((i + 1:Nat):Int)) 1:=by
      rw [show ((n:Int) - ((i + 1:Nat):Int))=(n:Int) - (i:Int) - 1 by omega]
      exact st'
    have I1:Inv X pins σ H { s with heap:=h',toks:=s.toks + 1 }:=I.turned (fun b o hb e=>(sb.2 b hb).trans e) f0 f1 f3 f4 f5
    refine ⟨_,rfl,go_of (s:={ s with heap:=h',toks:=s.toks + 1 }) (n := "range_iterator") st2 rfl rfl (by decide) ⟨.int (i:Int),H,I1,⟨_,rfl⟩,⟨rfl,by simp⟩,⟨hg',st2⟩,fun b hb=>(hf b hb).1⟩⟩
  done:=by
    intro X hP hw hK i pins s σ H E I hf st hg hx
    subst hP hw hK
    obtain ⟨e,cls,hA,he⟩:=hx
    obtain ⟨f0,f1,f2,f3,f4,f5⟩:=hf it (by simp)
    exact range_endH hA (I.hok e _ he).1 st.2 (by have:n≤i:=hg; omega) fun h' eb=>⟨rfl,I.turned (t':=s.toks) (fun b o hb e=>eb b o hb e) f0 f1 f3 f4 f5⟩
  self:=fun _ _ _ _ _ st h=>wpAny_pyIter_rangeiter st.2 h
def PIEH (X:Cx) (pins:List (Addr × Obj)) (σ:St) (tg:Expr) (R:It→Hp→Prop) (itv:Value) (s2:Shared):Prop :=
  ∃ (it:Addr) (fp:List Addr) (tn:Nat→Heap→Prop) (J:It) (H':Hp),itv=.ref it∧Inv X pins σ H' s2∧TurnH X.prog X.w X.K tg J fp it tn∧tn 0 s2.heap∧(∀ b∈fp,FpOk X pins H' b)∧R J H'
def PIH (X:Cx) (tg iter:Expr) (wi:TI):Prop :=
  ∀ (pins:List (Addr × Obj)) (s:Shared) (σ:St) (H:Hp) (R:It→Hp→Prop),Inv X pins σ H s→wi σ H R →
    wpAny (model X.prog X.w) X.A (eval iter X.env) (fun v s1=>wpAny (model X.prog X.w) X.A (pyIter v) (PIEH X pins σ tg R) X.xe s1) X.xe s
def compKH (ea:Addr) (σ0:St) (k:Nat) (cs:St) (g:TG) (te:TE) (Q:VK):It→Hp→Prop:=fun J H1=>∀ D,H1 D=none→∃ W:Nat→Nat→List V→Hp→Prop,(∃ m,W 0 m [] (upd H1 D (.lst []))) ∧
  ∀ i m ys H2,W i m ys H2→H2 D=some (.lst ys)∧((J.stop i H2∧(∃ cls,H2 ea=some (.ext (ExcIs ea cls)))∧Q (.ref D) H2)∨(J.go i H2∧ys.length < sizeLine ∧
    ∀ x H',J.yld i H2 x H'→g x σ0 H' fun σ2 H3=>σ2.drop k=cs∧te σ2 H3 fun y H4=>H4 D=some (.lst ys)∧∃ m',m' < m∧W (i + 1) m' (ys++[y]) (upd H4 D (.lst (ys++[y])))))
def tCompH (ea:Addr) (is:List Nat) (k:Nat) (wi:TI) (g:TG) (te:TE):TE:=fun σ H Q=>∃ vs:List V,is.map (fun i=>σ[i]?)=vs.map (fun v=>some (some v))∧wi σ H (compKH ea (List.replicate k none++vs.map some) k (vs.map some) g te Q)
section
variable {X:Cx} {tg:Expr}
theorem pih_range1 {a:Expr} {ta:TA} {p pos:Pos} (hg:Gl X "range") (hm:X.mg "range" = none) (ha:PA X [a] ta) (hs:starEach [a] X.env=[(false,eval a X.env)]:=by rfl):PIH X tg (.Call (.Name "range" p) [a] [] pos) (iRng1 ta):=by
  intro pins s σ H R I h
  refine Call_ (ld_blt I hg hm boot_range (PyProof.Rows.callWith_type1 (thn (ha pos pins s σ H _ I h) fun us s1 ⟨vs,H1,I1,r1,q1⟩ => ?_) hs rfl))
  obtain ⟨j,e,q1,q2,q⟩:=q1
  subst e
  cases r1 with
  | cons r rr =>
    cases rr
    obtain ⟨t,rfl⟩:=r
    refine call_range_1 (wpAny_pyIter_range (IsRange.new ..) (small_one (by omega) (by omega) q1 q2) ?_)
    refine ⟨_,[_],_,_,H1,rfl,(I1.kept (t':=s1.toks + 2) fun b o e=>Heap.get?_push_of_some _ (Heap.get?_push_of_some _ e)),turnH_range _ j.toNat,⟨Nat.zero_le _,?_⟩,fun b hb => ?_,q⟩
    · have e2:((j.toNat:Nat):Int) - ((0:Nat):Int)=Builtin.Range.rangeSize 0 j 1:=by rw [rangeSize_one]; split <;> omega
      rw [e2]
      exact Heap.get?_push_size _ rfl
    · have e:=List.mem_singleton.mp hb
      subst e
      have le:s1.heap.objs.size≤(s1.heap.push { cls:=.type "range",data:=.fields #[.int 0 s1.toks,.int j t,.int 1 (s1.toks + 1)] }).objs.size:=by rw [Heap.size_push]; exact Nat.le_succ _
      exact I1.fpOk le (I1.hok.fresh le)
end
section
variable {X:Cx} {elt tg iter cnd:Expr} {scope:Scope} {pos:Pos} {N':List Str} {wi:TI} {g:TG} {te:TE} {tt:TT}
theorem pe_compH (ea:Addr) (hA:X.A.handled=some (.ref ea)) (xs caps:List Str) (is:List Nat) (k:Nat) (hclos:closureFor scope X.env=pure (clo X.env xs)) (hin:(xs.all fun x=>(X.env.cells.lookup x).isSome)=true) (hcap:CapsOk X.env scope xs caps) (his:is.map (X.N[·]?)=caps.map some) (hN:N'.drop k=caps) (hk:k≤N'.length)
    (hallB:((relabel scope X.env).names.all fun y => !(y.2 == .cell || y.2 == .free) || xs.contains y.1)=true) (hcell:∀ y∈scope.names,y.2≠.cell) (hkind:scope.kind=.function) (hnames:∀ y∈scope.names,y.2=.local→scope.names.lookup y.1=some .local)
    (hi:PIH X tg iter wi) (hg:∀ C s0 H0 fp pins,PG (cxCompC X N' scope xs C s0 H0 fp pins) tg g) (he:∀ C s0 H0 fp pins,PE (cxCompC X N' scope xs C s0 H0 fp pins) elt te)
    (hs:∀ x,foldedSetIterable iter X.env x=pure x:=by intro _; rfl):PE X (.ListComp elt [⟨tg,iter,[],0⟩] scope pos) (tCompH ea is k wi g te):=by
  intro pins s σ H Q I h
  have hall:=all_of hallB
  obtain ⟨vs,hvs,h⟩:=h
  rw [eval_ListComp]
  refine wpAny_comprehension_free (use:=none) rfl hs hclos hkind hnames (thn (hi pins s σ H _ I h) fun v s1 h1=>thn h1 fun itv s2 h2 => ?_)
  obtain ⟨it,fp,tn,J,H2,e,I2,T,st2,f2,hW⟩:=h2
  subst e
  refine wpAny_newObj_type (wpAny_newFunctionEnv hcell (by intro y hy; simp at hy) (fun h₁ hns₁ hsb₁ => ?_) hkind)
  dsimp only at hns₁ hsb₁ ⊢
  generalize hH2:s2.heap.push { cls:=.type "list",dict:=none,data:=.seq ([]:List Value).toArray }=P2 at hns₁ hsb₁ ⊢
  have hC:P2.objs.size=s2.heap.objs.size + 1:=by rw [← hH2,Heap.size_push]
  have below:∀ b,b < s2.heap.objs.size→b≠P2.objs.size∧b≠s2.heap.objs.size:=fun b hb=>⟨by rw [hC]; exact Nat.ne_of_lt (Nat.lt_succ_of_lt hb),Nat.ne_of_lt hb⟩
  have hDC:s2.heap.objs.size≠P2.objs.size:=by rw [hC]; exact Nat.ne_of_lt (Nat.lt_succ_self _)
  have old:∀ b o,s2.heap.get? b=some o→h₁.get? b=some o:=fun b o e=>hsb₁.extBut b o (below b (Heap.lt_size e)).1 (Heap.get?_push_of_some _ (hH2▸Heap.get?_push_of_some _ e))
  have hD:h₁.get? s2.heap.objs.size=some { cls:=.type "list",dict:=none,data:=.seq ([]:List Value).toArray }:=hsb₁.extBut _ _ hDC (Heap.get?_push_of_some _ (hH2▸Heap.get?_push_size _ rfl))
  have frD:H2 s2.heap.objs.size=none:=I2.hok.fresh (Nat.le_refl _)
  have frC:H2 P2.objs.size=none:=I2.hok.fresh (by rw [hC]; exact Nat.le_succ _)
  have hfp:∀ b∈fp,b < s2.heap.objs.size:=fun b hb=>by
    obtain ⟨o,e,_⟩:=T.obj _ _ st2 b hb
    exact Heap.lt_size e
  have nst:∀ b,b≠X.env.locals→b∉X.fs→b∉frs X.stack:=fun b n1 n2 z=>by
    rcases List.mem_cons.mp (I2.stkSub b z) with e | e
    · exact n1 e
    · exact n2 e
  obtain ⟨W,⟨m0,w0⟩,turn⟩:=hW s2.heap.objs.size frD
  have csub:∀ (x:Str) (c:Addr),(clo X.env xs).lookup x=some c→X.env.cells.lookup x=some c:=fun x c e=>clo_sub hin e
  have cold:∀ (x:Str) (c:Addr),(clo X.env xs).lookup x=some c→∃ v,s2.heap.IsCell c v:=fun x c e=>I2.cell x c (csub x c e)
  have clt:∀ (x:Str) (c:Addr),(clo X.env xs).lookup x=some c→c < s2.heap.objs.size:=fun x c e=>by
    obtain ⟨v,o,ho,_⟩:=cold x c e
    exact Heap.lt_size ho
  have ok':(cxCompC X N' scope xs P2.objs.size s2 H2 fp pins).Ok:=by
    refine ⟨I2.ok.mod,hkind,I2.ok.glob,I2.ok.blt,?_,fun x y c e e'=>I2.ok.inj x y c (csub x c e) (csub y c e'),fun x hx => ?_,(fun x c z _=>by cases z),I2.ok.hd,I2.ok.frames,.inl rfl,fun b hb=>⟨(below b (hfp b hb)).1,fun x c e=>(f2 b hb).2.2.2.2.1 x c (csub x c e)⟩,I2.bs,Nat.le_trans I2.ok.bsz I2.sz,fun b o e hb => ?_,fun b hb=>nst b (f2 b hb).2.1 (f2 b hb).2.2.1,I2.stack,I2.stkFree⟩
    · show s2.heap.objs.size≤P2.objs.size
      rw [hC]; exact Nat.le_succ _
    · have hx':(relabel scope X.env).names.lookup x=some .cell∨(relabel scope X.env).names.lookup x=some .free:=hx
      rcases hx' with z | z
      · exact clo_has (hall _ (PySem.mem_of_lookup z) (.inl rfl))
      · exact clo_has (hall _ (PySem.mem_of_lookup z) (.inr rfl))
    · rcases (f2 b hb).2.2.2.1 with z | z
      · exact I2.ok.noex b o e z
      · exact absurd (Nat.lt_of_lt_of_le (Heap.lt_size (I2.ok.bs b o e).1) z) (Nat.lt_irrefl _)
  have I':Inv (cxCompC X N' scope xs P2.objs.size s2 H2 fp pins) [] (List.replicate k none++vs.map some) (upd H2 s2.heap.objs.size (.lst [])) { s2 with heap:=h₁,toks:=s2.toks + ([]:List (Str × Value)).length }:=by
    refine ⟨ok',rfl,I2.bare,Un.laid old (Nat.le_refl _) frD,⟨_,hns₁,fun i x v e1 e2 e3 => ?_⟩,fun x c e => ?_,?_,fun x c e => ?_,fun p hp => ?_,I2.hok.laid old (Nat.le_refl _) ⟨by simp,[],0,.nil,hD⟩,?_⟩
    · obtain ⟨j,ej,hj1,hj2⟩:=caps_at hvs his hN e1 e2
      obtain ⟨hc1,hc2,hc3⟩:=hcap x hj1
      obtain ⟨m,hn,hl⟩:=I2.loc
      obtain ⟨u,r,l⟩:=hl j x v ej hj2 (.inr (.inl hc1))
      refine ⟨u,r,.inr ⟨.inl hc2,?_⟩⟩
      rcases l with ⟨z,_⟩ | ⟨_,c,ec,⟨o,ho,hd⟩⟩
      · rw [show X.env.kindOf x=some .cell from hc1] at z; cases z
      · exact ⟨c,clo_of hc3 ec,o,old _ _ ho,hd⟩
    · obtain ⟨v,o,ho,hd⟩:=cold x c e
      exact ⟨v,o,old _ _ ho,hd⟩
    · show upd H2 s2.heap.objs.size (.lst []) P2.objs.size=none
      rw [upd_ne (Ne.symm hDC)]; exact frC
    · show upd H2 s2.heap.objs.size (.lst []) c=none
      rw [upd_ne (below _ (clt x c e)).2]; exact I2.freeC x c (csub x c e)
    · have hp':p∈X.pn++pins:=by
        rcases List.mem_append.mp hp with z | z
        · exact z
        · cases z
      obtain ⟨a1,a2,a3,a4,a5⟩:=I2.pin p hp'
      refine ⟨old _ _ a1,?_,(below _ (Heap.lt_size a1)).1,nst _ a3 a4,a5⟩
      rw [upd_ne (below _ (Heap.lt_size a1)).2]; exact a2
    · show (List.replicate k none++vs.map some).length=N'.length
      exact caps_len hvs his hN hk
  have stat:∀ {H':Hp},(∀ b∈fp,H' b=none)→∀ b∈fp,FpOk (cxCompC X N' scope xs P2.objs.size s2 H2 fp pins) [] H' b:=fun {H'} hn b hb =>
    ⟨hn b hb,(below b (hfp b hb)).1,nst b (f2 b hb).2.1 (f2 b hb).2.2.1,.inl hb,fun x c e=>(f2 b hb).2.2.2.2.1 x c (csub x c e),fun p hp=>(f2 b hb).2.2.2.2.2 p (by
      rcases List.mem_append.mp hp with z | z
      · exact z
      · cases z)⟩
  have fin:∀ (ys:List V) (σ':St) (H':Hp) (s':Shared),Inv (cxCompC X N' scope xs P2.objs.size s2 H2 fp pins) [] σ' H' s'→Q (.ref s2.heap.objs.size) H' →
      ∃ m,s'.heap.Ns P2.objs.size m∧∀ h',Heap.SameBut P2.objs.size s'.heap h'→EP X pins σ Q (.ref s2.heap.objs.size) { s' with heap:=h' }:=by
    intro ys σ' H' s' J1 q
    obtain ⟨m,hm,_⟩:=id J1.loc
    refine ⟨m,hm,fun h' sb=>⟨.ref s2.heap.objs.size,H',?_,rfl,q⟩⟩
    have ne:∀ b o,s2.heap.get? b=some o→b≠P2.objs.size:=fun b o e=>(below b (Heap.lt_size e)).1
    refine I2.call' (s':={ s' with heap:=h' }) (ch:=fp) J1.os ⟨fun b o e n hb hx => ?_,fun b o e n hb hx => ?_,fun b o e n hx=>J1.base.free b o e n hx,fun b o e hx => ?_,J1.base.tups,J1.base.frzs,J1.base.tbls⟩ (J1.hok.but J1.free fun b u hb q=>(sb.2 b hb).trans q) J1.bare fun b hb=>⟨(f2 b hb).2.2.2.1,(f2 b hb).2.1,(f2 b hb).2.2.2.2.1,(f2 b hb).2.2.2.2.2⟩
    · exact (sb.2 b (ne b o e)).trans (J1.base.keep b o e n hb hx)
    · obtain ⟨sl,z⟩:=J1.base.slot b o e n hb hx
      exact ⟨sl,(sb.2 b (ne b o e)).trans z⟩
    · obtain ⟨o',z⟩:=J1.base.there b o e hx
      exact ⟨o',(sb.2 b (ne b o e)).trans z⟩
  have loop:codeAny (model X.prog X.w) X.A (.compLoop (.ListComp elt [⟨tg,iter,[],0⟩] scope pos) 0 (.ref it) (.ref s2.heap.objs.size) (compEnvC scope (clo X.env xs) P2.objs.size X.env))
      (compPost (model X.prog X.w) X.A X.xe none (EP X pins σ Q) (.ref s2.heap.objs.size) P2.objs.size)
      { s2 with heap:=h₁,toks:=s2.toks + ([]:List (Str × Value)).length }:=by
    refine compLoop_go (fun n s'=>∃ i ys σ' H',σ'.drop k=vs.map some∧Inv (cxCompC X N' scope xs P2.objs.size s2 H2 fp pins) [] σ' H' s'∧tn i s'.heap∧(∀ b∈fp,H' b=none)∧W i n ys H') ?_ m0
      ⟨0,[],List.replicate k none++vs.map some,_,by simp,I',T.keep _ _ _ st2 (fun b hb o e=>old b o e),fun b hb=>by rw [upd_ne (below b (hfp b hb)).2]; exact (f2 b hb).1,w0⟩
    rintro n s3 ⟨i,ys,σ3,H3,hd3,J3,st3,fr3,w3⟩
    obtain ⟨hl,q3⟩:=turn i n ys H3 w3
    rcases q3 with ⟨stop,⟨cls,hea⟩,q⟩ | ⟨go,hlt,step⟩
    · refine thn (T.done (cxCompC X N' scope xs P2.objs.size s2 H2 fp pins) rfl rfl rfl i [] s3 σ3 H3 _ J3 (stat fr3) st3 stop ⟨ea,cls,hA,hea⟩) fun r s4 ⟨hr,J4⟩ => ?_
      subst hr
      exact fin ys σ3 H3 s4 J4 q
    · refine thn (T.item (cxCompC X N' scope xs P2.objs.size s2 H2 fp pins) rfl rfl rfl i [] s3 σ3 H3 _ J3 (stat fr3) st3 go) fun r s4 ⟨u,hr,h4⟩ => ?_
      subst hr
      refine thn h4 fun _ s5 ⟨x,H5,J5,r5,y5,st5,fr5⟩ => ?_
      have J5':=J5.pinned (stat fr5) (T.obj _ _ st5)
      have J6:Inv (cxCompC X N' scope xs P2.objs.size s2 H2 fp pins) ([]++pinsAt fp s5.heap) (List.replicate k none++vs.map some) H5 s5:=J5'.weak (by rw [J5'.len]; exact caps_len hvs his hN hk) (caps_keep hd3)
      refine wpAny_mono (hg _ _ _ _ _ _ s5 _ H5 x u _ J6 r5 (step x H5 y5)) (fun _ s6 ⟨σ6,H6,J7,hd6,q6⟩ => ?_) fun _ _ z=>False.elim z
      refine wpAny_mono (he _ _ _ _ _ _ s6 σ6 H6 _ J7 q6) (fun yv s7 ⟨y,H7,J8,r7,q7⟩ => ?_) fun _ _ z=>False.elim z
      obtain ⟨hl7,m',hm',w7⟩:=q7
      refine wpAny_mono (mt_append (X:=cxCompC X N' scope xs P2.objs.size s2 H2 fp pins) _ s7 σ6 H7 (.ref s2.heap.objs.size) [y] (.ref s2.heap.objs.size) [yv] (fun v H8=>H8=upd H7 s2.heap.objs.size (.lst (ys++[y]))) J8 rfl (.cons r7 .nil) ⟨_,ys,y,rfl,rfl,hl7,hlt,rfl⟩) (fun _ s8 ⟨v8,H8,J9,r8,e8⟩ => ?_) fun _ _ z=>False.elim z
      subst e8
      have pk:∀ b∈fp,∀ o,s5.heap.get? b=some o→s8.heap.get? b=some o∧upd H7 s2.heap.objs.size (.lst (ys++[y])) b=none:=fun b hb o e =>
        let z:=J9.pin (b,o) (List.mem_append_right _ (List.mem_append_right _ (mem_pinsAt hb e)))
        ⟨z.1,z.2.1⟩
      refine ⟨m',hm',i + 1,ys++[y],σ6,_,hd6,J9.unpinned,T.keep _ _ _ st5 fun b hb o e=>(pk b hb o e).1,fun b hb => ?_,w7⟩
      obtain ⟨o,e,_⟩:=T.obj _ _ st5 b hb
      exact (pk b hb o e).2
  exact codeAny_compStart_list loop (T.self X.A 0 { s2 with heap:=h₁,toks:=s2.toks + ([]:List (Str × Value)).length } _ _ (T.keep _ _ _ st2 fun b hb o e=>old b o e) loop)
end
theorem op_eqH {X:Cx} {k:Nat} (hr:RoomH k X.A):OpR X (compareOp .Eq) (rEqD false):=by
  intro pins s σ H x y v u Q I rx ry h
  obtain ⟨d1,d2,p,q,s1,s2,h⟩:=h
  obtain ⟨as,r1⟩:=p.reads I.hok rx
  obtain ⟨bs,r2⟩:=q.reads I.hok ry
  exact eq_dataH r1 r2 s1 s2 (by have:=hr.un; omega) ⟨.bl _,H,I,rfl,h⟩
theorem compKH_of {ea:Addr} {σ0:St} {k:Nat} {cs:St} {g:TG} {te:TE} {Q:VK} {J:It} {H1:Hp} (h:compKC σ0 k cs g te (fun v H=>(∃ cls,H ea=some (.ext (ExcIs ea cls)))∧Q v H) J H1):compKH ea σ0 k cs g te Q J H1:=h
end L2

namespace L2
open PySem PySem.Spec PySem.Calls PyProof.Rows

def rInsert:V→List V→Hp→VK→Prop:=fun x vs H Q=>∃ (l:Addr) (xs:List V) (k:Nat) (y:V),x=.ref l∧vs=[.int (k:Int),y]∧H l=some (.lst xs)∧k≤xs.length∧xs.length≤100000∧Q .non (upd H l (.lst (xs.take k++y::xs.drop k)))
section
variable {X:Cx}
theorem mt_insert:MtM X "list.insert" rInsert:=by
  intro pins s σ H x vs v us Q I rx rv h
  obtain ⟨l,xs,k,y,rfl,rfl,hH,hk,hx,q⟩:=h
  cases rx
  obtain ⟨u1,u2,rfl,r1,r2⟩:=vals2 rv
  obtain ⟨t,rfl⟩:=r1
  obtain ⟨z,its,n,r,hl,e⟩:=I.lstM hH
  have lk:k≤its.length:=Nat.le_trans hk (Nat.le_of_eq hl)
  have lx:its.length≤100000:=Nat.le_trans (Nat.le_of_eq hl.symm) hx
  have k1:(k:Int)≤100000:=Int.ofNat_le.mpr (Nat.le_trans lk lx)
  have fit:¬ (!Builtin.List.listFitsIndex (k:Int))=true:=by
    unfold Builtin.List.listFitsIndex
    rw [decide_eq_true (show -(2 ^ 63:Int)≤(k:Int) from Int.le_trans (by decide) (Int.natCast_nonneg k)),decide_eq_true (show (k:Int) < 2 ^ 63 from Int.lt_of_le_of_lt k1 (by decide))]
    decide
  have sl:(100001:Nat)≤sizeLine:=by decide
  have s0:(100000:Nat)≤sizeLine:=Nat.le_of_succ_le sl
  have sz:its.toArray.size≤sizeLine:=by rw [List.size_toArray]; exact Nat.le_trans lx s0
  obtain ⟨xi,exi⟩:∃ xi:Int,xi=(k:Int):=⟨_,rfl⟩
  rw [← exi] at fit ⊢
  have M:=PySem.AutoSeq1.list_insert_list_int_val_1 l its.toArray n xi t u2 fit sz
  refine call_meets PySem.F.slot_list_insert ⟨_,e,rfl⟩ PySem.F.entry_list_insert (PySem.F.args_list_insert_3 _ _ _) M ⟨e,?_⟩
  refine ⟨.non,_,I.lset (its':=its.take k++u2::its.drop k) hH e ?_ ?_ ?_,rfl,q⟩
  · show ((its.toArray.extract 0 (if xi < 0 then (xi + (its.toArray.size:Int)).toNat else min xi.toNat its.toArray.size)).push u2++its.toArray.extract (if xi < 0 then (xi + (its.toArray.size:Int)).toNat else min xi.toNat its.toArray.size))=(its.take k++u2::its.drop k).toArray
    rw [exi,if_neg (by omega),Int.toNat_natCast,List.size_toArray,Nat.min_eq_left lk]
    apply Array.ext'
    simp
    exact List.take_of_length_le (by rw [List.length_drop]; exact Nat.le_refl _)
  · exact (r.take k).append (.cons r2 (r.drop k))
  · have:=List.length_take_le k xs
    have h2:(xs.take k++y::xs.drop k).length=xs.length + 1:=by
      rw [List.length_append,List.length_cons,List.length_take,List.length_drop]; omega
    rw [h2]
    exact Nat.le_trans (Nat.succ_le_succ hx) sl
end
end L2

namespace Qs
open PySem L2

def top (i:Nat):Stmt:=PySem.Challenge.pw_quartersheet_k25_covers_refused.main.body.getD i (.Pass ⟨0,0,0,0⟩)

structure Tx (K:PySem.W.Frag) (mg:Str→Option Value):Prop where
  b_isinstance:mg "isinstance" = none
  b_int:mg "int" = none
  b_bool:mg "bool" = none
  c_MOST:∃ t,mg "MOST" = some (.int 40 t)
  c_LAST_COLOUR:∃ t,mg "LAST_COLOUR" = some (.int 35 t)
  b_all:mg "all" = none
  b_str:mg "str" = none
  b_len:mg "len" = none
  c_QUARTERS:∃ t,mg "QUARTERS" = some (.str "0123" t)
  b_range:mg "range" = none
  b_tuple:mg "tuple" = none
  b_sorted:mg "sorted" = none
  b_min:mg "min" = none
  b_ValueError:mg "ValueError" = none
  b_list:mg "list" = none
  b_enumerate:mg "enumerate" = none
end Qs
namespace Qs
open PySem L2

def txt (ds:List Nat):Str:=⟨(ds.map (48 + ·)).toArray⟩
theorem txt_len (ds:List Nat):(txt ds).length=ds.length:=by
  rw [len_eq]; simp [txt]
theorem txt_isC {ds:List Nat} (h:∀ d∈ds,d < 4):IsC (txt ds):=fun c hc=>by
  have hc':∃ d∈ds,48 + d=c:=by simpa [txt] using hc
  obtain ⟨d,hd,e⟩:=hc'
  have:=h d hd
  omega
theorem dig_txt (ds:List Nat):dig (txt ds)=ds:=by
  unfold dig txt
  rw [List.map_map]
  have e:((fun x=>x - 48) ∘ fun x=>48 + x)=(id:Nat→Nat):=by funext x; show 48 + x - 48=x; omega
  rw [e,List.map_id]
theorem str_ext {a b:Str} (h:a.cps.toList=b.cps.toList):a=b:=by
  obtain ⟨a⟩:=a
  obtain ⟨b⟩:=b
  have h':a.toList=b.toList:=h
  have e:a=b:=Array.toList_inj.mp h'
  rw [e]
theorem txt_dig {z:Str} (h:IsC z):txt (dig z)=z:=by
  refine str_ext ?_
  have e:(txt (dig z)).cps.toList=(z.cps.toList.map (· - 48)).map (48 + ·):=rfl
  rw [e,List.map_map]
  have e2:∀ c∈z.cps.toList,((fun x=>48 + x) ∘ fun x=>x - 48) c=id c:=fun c hc=>by
    have:=h c hc
    show 48 + (c - 48)=c
    omega
  rw [List.map_congr_left e2,List.map_id]
theorem empty_eq:("" : Str)=⟨#[]⟩:=by decide +kernel
theorem join_one:∀ ds:List Nat,Txt.join ("" : Str) (ds.map one)=txt ds:=by
  intro ds
  have key:∀ ds:List Nat,Str.join ⟨#[]⟩ (ds.map one)=txt ds:=by
    intro ds
    induction ds with
    | nil=>rfl
    | cons d r ih =>
      cases r with
      | nil=>rfl
      | cons e r =>
        refine str_ext ?_
        show (one d++⟨#[]⟩++Str.join ⟨#[]⟩ ((e::r).map one)).cps.toList=_
        rw [ih]
        show ((#[48 + d] ++ #[])++(txt (e::r)).cps).toList=_
        simp [txt]
  rw [empty_eq]
  show Builtin.Str.glued ⟨#[]⟩ (ds.map one)=_
  rw [StrLaws.glued_eq_join]
  exact key ds

def pre (z:Str) (k:Nat):Str:=⟨(z.cps.toList.take k).toArray⟩
theorem slice_pre (z:Str) (k:Nat):Txt.slice z none (some (k:Int))=pre z k:=by
  by_cases h:k≤z.length
  · have e:=PyProof.Rows.slice_closes_to (x:=z) (j:=(k:Int)) ⟨by omega,by rw [← len_eq]; omega⟩
    rw [beq_iff_eq] at e
    rw [e]
    unfold pre
    simp
  · have e:Builtin.Str.strSliceIndices none (some (k:Int)) 1 z.length=(List.range z.length).map fun j:Nat=>(0 + 1 * (j:Int)).toNat:=by
      unfold Builtin.Str.strSliceIndices
      dsimp only
      unfold sliceRange
      have h1:¬ (k:Int) < 0:=by omega
      have h2:max (0:Int) (min (k:Int) (z.length:Int))=(z.length:Int):=by omega
      simp only [show (1:Int) > 0 by decide,if_true,h1,if_false,h2]
      by_cases h0:(0:Int) < (z.length:Int)
      · rw [if_pos h0]
        have e3:(((z.length:Int) - 0 + 1 - 1) / 1).toNat=z.length:=by omega
        rw [e3]
      · rw [if_neg h0]
        have e3:z.length=0:=by omega
        rw [e3]; rfl
    unfold Txt.slice
    rw [e,List.length_map,List.length_range]
    rw [if_pos (by simp)]
    refine str_ext ?_
    unfold pre
    rw [List.take_of_length_le (by rw [← len_eq]; omega)]
theorem pre_len (z:Str) (k:Nat):(pre z k).length=min k z.length:=by
  rw [len_eq,len_eq]; simp [pre]
theorem pre_isC {z:Str} (h:IsC z) (k:Nat):IsC (pre z k):=fun c hc=>h c (by
  have hc':c∈z.cps.toList.take k:=by simpa [pre] using hc
  exact List.mem_of_mem_take hc')

theorem app_len (a b:Str):(a++b).length=a.length + b.length:=by
  show (a.cps++b.cps).size=_
  rw [Array.size_append]; rfl
theorem at_q {d:Nat} (h:d < 4):atI ("0123" : Str).cps.toList (d:Int)=some (48 + d) :=
  four (P:=fun d=>atI ("0123" : Str).cps.toList (d:Int)=some (48 + d)) (by decide +kernel) (by decide +kernel) (by decide +kernel) (by decide +kernel) h
theorem q_len:("0123" : Str).length≤sizeLine:=by decide +kernel
end Qs
namespace Qs
open PySem L2

def oneB (a b c d:Tr):Bool:=a.isCol && (decide (a=a) && (decide (b=a) && (decide (c=a) && (decide (d=a) && true))))
def gath (a b c d:Tr):Tr:=if oneB a b c d then a else .four a b c d
def q0:Tr→Tr | .col i=>.col i | .four a _ _ _=>a
def q1:Tr→Tr | .col i=>.col i | .four _ b _ _=>b
def q2:Tr→Tr | .col i=>.col i | .four _ _ c _=>c
def q3:Tr→Tr | .col i=>.col i | .four _ _ _ d=>d
theorem oneB_iff {a b c d:Tr}:oneB a b c d=true↔a.isCol=true∧b=a∧c=a∧d=a:=by
  unfold oneB
  simp only [Bool.and_eq_true,decide_eq_true_eq,and_true,true_and]
theorem gath_parts (a b c d:Tr):q0 (gath a b c d)=a∧q1 (gath a b c d)=b∧q2 (gath a b c d)=c∧q3 (gath a b c d)=d:=by
  unfold gath
  by_cases h:oneB a b c d=true
  · rw [if_pos h]
    obtain ⟨h1,rfl,rfl,rfl⟩:=oneB_iff.mp h
    cases d with
    | col i=>exact ⟨rfl,rfl,rfl,rfl⟩
    | four=>cases h1
  · rw [if_neg h]; exact ⟨rfl,rfl,rfl,rfl⟩
def ShAt (H:Hp) (v:V) (n:Int) (t:Tr):Prop:=∃ p x,v=.ref p∧H p=some (.tup [.int n,x])∧TrAt H x t
theorem ShAt.up {H H':Hp} {v:V} {n:Int} {t:Tr} (h:ShAt H v n t) (s:Tups H H'):ShAt H' v n t:=by
  obtain ⟨p,x,e,hp,ht⟩:=h
  exact ⟨p,x,e,s _ _ hp,ht.up s⟩
theorem kit_it {K:PySem.W.Frag}:PySem.W.kitOne K (.type "int") (.type "tuple")=some false:=by kernel_rfl

def qk (t:Tr):Nat→Tr
  | 0=>q0 t
  | 1=>q1 t
  | 2=>q2 t
  | _=>q3 t
def put4 (t:Tr) (d:Nat) (x:Tr):Tr:=gath (if d=0 then x else q0 t) (if d=1 then x else q1 t) (if d=2 then x else q2 t) (if d=3 then x else q3 t)
def plant (t:Tr):List Nat→Tr→Tr
  | [],o=>o
  | d::ds,o=>put4 t d (plant (qk t d) ds o)
theorem qk_put4 {t x:Tr} {d k:Nat} (hd:d < 4) (hk:k < 4):qk (put4 t d x) k=if k=d then x else qk t k:=by
  unfold put4
  obtain ⟨g0,g1,g2,g3⟩:=gath_parts (if d=0 then x else q0 t) (if d=1 then x else q1 t) (if d=2 then x else q2 t) (if d=3 then x else q3 t)
  rcases k with _ | _ | _ | _ | k
  · show q0 _=_
    rw [g0]
    by_cases h:d=0
    · rw [if_pos h,if_pos h.symm]
    · rw [if_neg h,if_neg (Ne.symm h)]; rfl
  · show q1 _=_
    rw [g1]
    by_cases h:d=1
    · rw [if_pos h,if_pos h.symm]
    · rw [if_neg h,if_neg (Ne.symm h)]; rfl
  · show q2 _=_
    rw [g2]
    by_cases h:d=2
    · rw [if_pos h,if_pos h.symm]
    · rw [if_neg h,if_neg (Ne.symm h)]; rfl
  · show q3 _=_
    rw [g3]
    by_cases h:d=3
    · rw [if_pos h,if_pos h.symm]
    · rw [if_neg h,if_neg (Ne.symm h)]; rfl
  · omega

def Good:Nat→Tr→Prop
  | _,.col i=>0≤i∧i≤35
  | 0,.four ..=>False
  | n + 1,.four a b c d=>Good n a∧Good n b∧Good n c∧Good n d∧oneB a b c d=false
theorem Good.deep:∀ {n:Nat} {t:Tr},Good n t→t.deep≤n
  | _,.col i,_=>Nat.zero_le _
  | 0,.four ..,h=>h.elim
  | n + 1,.four a b c d,⟨ha,hb,hc,hd,_⟩=>by
    have:=ha.deep
    have:=hb.deep
    have:=hc.deep
    have:=hd.deep
    show max a.deep (max b.deep (max c.deep d.deep)) + 1≤n + 1
    omega
theorem Good.col {n:Nat} {i:Int} (h:0≤i∧i≤35):Good n (.col i):=by cases n <;> exact h
theorem Good.q {n:Nat} {t:Tr} (h:Good (n + 1) t) (k:Nat):Good n (qk t k):=by
  cases t with
  | col i =>
    have z:Good n (.col i):=Good.col h
    rcases k with _ | _ | _ | k <;> exact z
  | four a b c d =>
    obtain ⟨ha,hb,hc,hd,_⟩:=h
    rcases k with _ | _ | _ | k
    · exact ha
    · exact hb
    · exact hc
    · exact hd
theorem Good.up {n:Nat} {t:Tr} (h:Good n t):Good (n + 1) t:=by
  induction t generalizing n with
  | col i=>exact Good.col (by cases n <;> exact h)
  | four a b c d ia ib ic id =>
    cases n with
    | zero=>exact h.elim
    | succ n =>
      obtain ⟨ha,hb,hc,hd,ho⟩:=h
      exact ⟨ia ha,ib hb,ic hc,id hd,ho⟩
theorem good_gath {n:Nat} {a b c d:Tr} (ha:Good n a) (hb:Good n b) (hc:Good n c) (hd:Good n d):Good (n + 1) (gath a b c d):=by
  unfold gath
  split
  · exact ha.up
  · rename_i h
    exact ⟨ha,hb,hc,hd,by simpa using h⟩
theorem good_put4 {n d:Nat} {t x:Tr} (h:Good (n + 1) t) (hx:Good n x):Good (n + 1) (put4 t d x):=by
  unfold put4
  have h0:=h.q 0
  have h1:=h.q 1
  have h2:=h.q 2
  have h3:=h.q 3
  refine good_gath ?_ ?_ ?_ ?_ <;> split <;> assumption
theorem good_plant:∀ {n:Nat} {ds:List Nat} {t o:Tr},ds.length≤n→Good n t→Good (n - ds.length) o→Good n (plant t ds o)
  | n,[],t,o,_,_,h=>h
  | 0,d::ds,t,o,hl,_,_=>by simp at hl
  | n + 1,d::ds,t,o,hl,ht,ho=>by
    have hl':ds.length≤n:=by simpa using hl
    refine good_put4 ht (good_plant hl' (ht.q d) ?_)
    have e:n + 1 - (d::ds).length=n - ds.length:=by simp
    rw [e] at ho
    exact ho
section
variable {P:Program} {w:World} {K:PySem.W.Frag} {mg:Str→Option Value} {base:Heap} {CX:CXT} {f:Addr} {fd:FuncData}
theorem at4 {α:Type} {a b c d x:α} {i:Nat} (h:[a,b,c,d][i]? = some x):(i=0∧x=a)∨(i=1∧x=b)∨(i=2∧x=c)∨(i=3∧x=d):=by
  rcases i with _ | _ | _ | _ | i
  · exact .inl ⟨rfl,(Option.some.inj h).symm⟩
  · exact .inr (.inl ⟨rfl,(Option.some.inj h).symm⟩)
  · exact .inr (.inr (.inl ⟨rfl,(Option.some.inj h).symm⟩))
  · exact .inr (.inr (.inr ⟨rfl,(Option.some.inj h).symm⟩))
  · simp at h
theorem str_eq_nil {z:Str}:(z=("" : Str))↔z.length=0:=by
  constructor
  · rintro rfl; decide +kernel
  · intro h
    apply str_ext
    have e:z.cps.toList=[]:=List.eq_nil_of_length_eq_zero (by rw [← len_eq]; exact h)
    rw [e]; decide +kernel

def rst (z:Str):Str:=⟨(z.cps.toList.drop 1).toArray⟩
theorem slice_rst {z:Str} (h:0 < z.length):Txt.slice z (some 1) none=rst z:=by
  have e:=PyProof.Rows.slice_closes_from (x:=z) (i:=1) ⟨by decide,by rw [← len_eq]; omega⟩
  rw [beq_iff_eq] at e
  rw [e]
  unfold rst
  congr 2
  show (z.cps.toList.drop 1).take ((z.cps.toList.length:Int) - 1).toNat=_
  rw [List.take_of_length_le]
  rw [List.length_drop,← len_eq]; omega
theorem rst_len (z:Str):(rst z).length=z.length - 1:=by rw [len_eq,len_eq]; simp [rst]
theorem rst_isC {z:Str} (h:IsC z):IsC (rst z):=fun c hc=>h c (by
  have hc':c∈z.cps.toList.drop 1:=by simpa [rst] using hc
  exact List.mem_of_mem_drop hc')
theorem at_zero {z:Str} (h:0 < z.length):atI z.cps.toList 0=some (z.cps.getD 0 0):=by
  have hs:0 < z.cps.size:=h
  refine atI_nat (j:=0) ?_
  simp [Array.getD_eq_getD_getElem?,hs]
theorem Same.none {H H':Hp} {l:Addr} (s:Same H H') (h:H' l=none):H l=none:=by
  cases q:H l with
  | none=>rfl
  | some o=>rw [s _ _ q] at h; cases h
theorem dig_empty:dig ("" : Str)=[]:=by decide +kernel
theorem dig_rst {z:Str} (h:0 < z.length):dig z=(z.cps.getD 0 0 - 48)::dig (rst z):=by
  have hs:0 < z.cps.size:=h
  have hl:0 < z.cps.toList.length:=by simpa using hs
  have e:z.cps.toList=z.cps.getD 0 0::z.cps.toList.drop 1:=by
    have e1:=List.drop_eq_getElem_cons (l:=z.cps.toList) (i:=0) hl
    rw [List.drop_zero] at e1
    have e2:z.cps.getD 0 0=z.cps.toList[0]:=by simp [Array.getD_eq_getD_getElem?,hs]
    rw [e2]; exact e1
  unfold dig rst
  conv=>lhs; rw [e]
  rfl
end
end Qs
namespace Qs
open PySem L2
def cnt:Tr→Nat
  | .col _=>1
  | .four a b c d=>cnt a + cnt b + cnt c + cnt d
theorem cnt_gath (a b c d:Tr):cnt (gath a b c d)≤cnt a + cnt b + cnt c + cnt d:=by
  unfold gath
  split
  · omega
  · exact Nat.le_refl _
theorem cnt_q {t:Tr}:cnt (q0 t) + cnt (q1 t) + cnt (q2 t) + cnt (q3 t)≤cnt t + 3:=by
  cases t with
  | col i=>show 1 + 1 + 1 + 1≤1 + 3; decide
  | four a b c d=>show cnt a + cnt b + cnt c + cnt d≤cnt a + cnt b + cnt c + cnt d + 3; omega
theorem cnt_put4 {t x:Tr} {d:Nat} (hd:d < 4):cnt (put4 t d x) + cnt (qk t d)≤cnt t + 3 + cnt x:=by
  unfold put4
  have h:=cnt_gath (if d=0 then x else q0 t) (if d=1 then x else q1 t) (if d=2 then x else q2 t) (if d=3 then x else q3 t)
  have h2:=cnt_q (t:=t)
  generalize gath (if d=0 then x else q0 t) (if d=1 then x else q1 t) (if d=2 then x else q2 t) (if d=3 then x else q3 t)=g at *
  rcases d with _ | _ | _ | _ | d
  · have h':cnt g≤cnt x + cnt (q1 t) + cnt (q2 t) + cnt (q3 t):=h
    show cnt g + cnt (q0 t)≤_
    omega
  · have h':cnt g≤cnt (q0 t) + cnt x + cnt (q2 t) + cnt (q3 t):=h
    show cnt g + cnt (q1 t)≤_
    omega
  · have h':cnt g≤cnt (q0 t) + cnt (q1 t) + cnt x + cnt (q3 t):=h
    show cnt g + cnt (q2 t)≤_
    omega
  · have h':cnt g≤cnt (q0 t) + cnt (q1 t) + cnt (q2 t) + cnt x:=h
    show cnt g + cnt (q3 t)≤_
    omega
  · omega
theorem cnt_plant:∀ (ds:List Nat) (t o:Tr),(∀ d∈ds,d < 4)→cnt (plant t ds o)≤cnt t + 3 * ds.length + cnt o
  | [],t,o,_=>by show cnt o≤_; omega
  | d::ds,t,o,h=>by
    have h1:=cnt_put4 (t:=t) (x:=plant (qk t d) ds o) (h d List.mem_cons_self)
    have h2:=cnt_plant ds (qk t d) o fun x hx=>h x (List.mem_cons_of_mem _ hx)
    show cnt (put4 t d (plant (qk t d) ds o))≤_
    rw [List.length_cons]
    omega
theorem four_of (m:Int):∃ d:Nat,d < 4∧m % 4=(d:Int):=⟨(m % 4).toNat,by omega,by omega⟩
theorem dig_lt {z:Str} (hz:IsC z):∀ d∈dig z,d < 4:=fun d h=>by
  obtain ⟨c,hc,rfl⟩:=List.mem_map.mp h
  have:=hz c hc
  omega
def dgt (x y m:Nat):Nat:=x / 2 ^ m % 2 + 2 * (y / 2 ^ m % 2)
def low (n x y:Nat):List Nat:=(List.range n).map fun k=>dgt x y (n - 1 - k)
theorem dgt_lt (x y m:Nat):dgt x y m < 4:=by unfold dgt; omega
theorem low_len (n x y:Nat):(low n x y).length=n:=by simp [low]
theorem low_succ (i x y:Nat):low (i + 1) x y=dgt x y i::low i x y:=by
  unfold low
  rw [List.range_succ_eq_map,List.map_cons,List.map_map]
  refine congr (congrArg List.cons ?_) (List.map_congr_left fun k hk => ?_)
  · rfl
  · have:=List.mem_range.mp hk
    show dgt x y (i + 1 - 1 - (k + 1))=dgt x y (i - 1 - k)
    congr 1
    omega
def paintAll (t:Tr) (L:List (List Nat × Int)):Tr:=L.foldl (fun t p=>plant t p.1 (.col p.2)) t
theorem paintAll_snoc (t:Tr) (L:List (List Nat × Int)) (p:List Nat × Int):paintAll t (L++[p])=plant (paintAll t L) p.1 (.col p.2):=by unfold paintAll; rw [List.foldl_append]; rfl

def POk (n:Nat) (p:List Nat × Int):Prop:=(∀ d∈p.1,d < 4)∧p.1.length≤n∧0≤p.2∧p.2≤35
theorem good_all {n:Nat}:∀ (L:List (List Nat × Int)) (t:Tr),(∀ p∈L,POk n p)→Good n t→Good n (paintAll t L)
  | [],_,_,g=>g
  | p::L,t,h,g=>by
    obtain ⟨_,h2,h3⟩:=h p List.mem_cons_self
    exact good_all L _ (fun q hq=>h q (List.mem_cons_of_mem _ hq)) (good_plant h2 g (Good.col h3))

def subP (d:Nat):List (List Nat × Int)→List (List Nat × Int)
  | []=>[]
  | ([],_)::M=>subP d M
  | (e::ds,c)::M=>if e=d then (ds,c)::subP d M else subP d M
theorem subP_app (d:Nat):∀ A B:List (List Nat × Int),subP d (A++B)=subP d A++subP d B
  | [],_=>rfl
  | ([],_)::A,B=>subP_app d A B
  | (e::ds,c)::A,B=>by
    show (if e=d then (ds,c)::subP d (A++B) else subP d (A++B))=(if e=d then (ds,c)::subP d A else subP d A)++subP d B
    by_cases h:e=d
    · rw [if_pos h,if_pos h,subP_app d A B]; rfl
    · rw [if_neg h,if_neg h,subP_app d A B]
theorem gath_qk (a b c d:Tr):gath (qk (gath a b c d) 0) (qk (gath a b c d) 1) (qk (gath a b c d) 2) (qk (gath a b c d) 3)=gath a b c d:=by
  obtain ⟨h0,h1,h2,h3⟩:=gath_parts a b c d
  show gath (q0 _) (q1 _) (q2 _) (q3 _)=_
  rw [h0,h1,h2,h3]
theorem paintAll_four:∀ (M:List (List Nat × Int)) (t:Tr),(∀ p∈M,p.1≠[]∧∀ d∈p.1,d < 4)→gath (qk t 0) (qk t 1) (qk t 2) (qk t 3)=t →
    paintAll t M=gath (paintAll (qk t 0) (subP 0 M)) (paintAll (qk t 1) (subP 1 M)) (paintAll (qk t 2) (subP 2 M)) (paintAll (qk t 3) (subP 3 M))
  | [],t,_,h=>h.symm
  | ([],c)::M,t,h,_=>absurd rfl (h _ List.mem_cons_self).1
  | (e::ds,c)::M,t,h,_=>by
    have he:e < 4:=(h _ List.mem_cons_self).2 e List.mem_cons_self
    have ih:=paintAll_four M (put4 t e (plant (qk t e) ds (.col c))) (fun p hp=>h p (List.mem_cons_of_mem _ hp)) (gath_qk _ _ _ _)
    have key:∀ d,d < 4→paintAll (qk (put4 t e (plant (qk t e) ds (.col c))) d) (subP d M)=paintAll (qk t d) (subP d ((e::ds,c)::M)):=fun d hd=>by
      rw [qk_put4 he hd]
      show _=paintAll (qk t d) (if e=d then (ds,c)::subP d M else subP d M)
      by_cases k:d=e
      · rw [if_pos k,if_pos k.symm,k]; rfl
      · rw [if_neg k,if_neg (Ne.symm k)]
    show paintAll (plant t (e::ds) (.col c)) M=_
    rw [← key 0 (by decide),← key 1 (by decide),← key 2 (by decide),← key 3 (by decide),← ih]
    rfl
theorem POk.le {n m:Nat} {p:List Nat × Int} (h:POk n p) (hm:n≤m):POk m p:=⟨h.1,Nat.le_trans h.2.1 hm,h.2.2⟩
theorem subP_ok {n:Nat} (d:Nat):∀ M:List (List Nat × Int),(∀ p∈M,POk n p)→∀ p∈subP d M,POk (n - 1) p
  | [],_,p,h=>by cases h
  | ([],_)::M,h,p,hp=>subP_ok d M (fun q hq=>h q (List.mem_cons_of_mem _ hq)) p hp
  | (e::ds,c)::M,h,p,hp=>by
    have ih:=subP_ok d M (fun q hq=>h q (List.mem_cons_of_mem _ hq))
    obtain ⟨h1,h2,h3⟩:=h _ List.mem_cons_self
    have hp':p∈(if e=d then (ds,c)::subP d M else subP d M):=hp
    by_cases k:e=d
    · rw [if_pos k] at hp'
      rcases List.mem_cons.mp hp' with rfl | hp'
      · have h2':ds.length + 1≤n:=h2
        exact ⟨fun x hx=>h1 x (List.mem_cons_of_mem _ hx),by show ds.length≤n - 1; omega,h3⟩
      · exact ih p hp'
    · rw [if_neg k] at hp'
      exact ih p hp'
theorem one_inj {d e:Nat} (h:one d=one e):d=e:=by
  have h':=congrArg (fun s:Str=>s.cps.toList) h
  have h2:[48 + d]=[48 + e]:=h'
  simpa using h2

def lvs:List Nat→Tr→List (List Nat × Int)
  | z,.col i=>[(z,i)]
  | z,.four a b c d=>lvs (z++[0]) a++(lvs (z++[1]) b++(lvs (z++[2]) c++lvs (z++[3]) d))
theorem lvs_count:∀ (t:Tr) (z:List Nat),(lvs z t).length=cnt t
  | .col _,_=>rfl
  | .four a b c d,z=>by
    show (lvs (z++[0]) a++(lvs (z++[1]) b++(lvs (z++[2]) c++lvs (z++[3]) d))).length=cnt a + cnt b + cnt c + cnt d
    rw [List.length_append,List.length_append,List.length_append,lvs_count a,lvs_count b,lvs_count c,lvs_count d]; omega

abbrev Lf:Type:=List Nat × Int
def pfx (d:Nat) (C:List Lf):List Lf:=C.map fun q=>(d::q.1,q.2)
def pfs (p:List Nat) (C:List Lf):List Lf:=C.map fun q=>(p++q.1,q.2)
def Cv:Nat→Tr→List Lf→Prop
  | 0,t,C=>∃ c,t=.col c∧C=[([],c)]
  | k + 1,t,C=>(∃ c,t=.col c∧C=[([],c)])∨∃ C0 C1 C2 C3,C.Perm (pfx 0 C0++(pfx 1 C1++(pfx 2 C2++pfx 3 C3)))∧Cv k (qk t 0) C0∧Cv k (qk t 1) C1∧Cv k (qk t 2) C2∧Cv k (qk t 3) C3
theorem Cv.one (k:Nat) (c:Int):Cv k (.col c) [([],c)]:=by
  cases k with
  | zero=>exact ⟨c,rfl,rfl⟩
  | succ k=>exact .inl ⟨c,rfl,rfl⟩
def Apt (a b:Lf):Prop:=¬ a.1 <+: b.1∧¬ b.1 <+: a.1
theorem Apt.symm {a b:Lf} (h:Apt a b):Apt b a:=⟨h.2,h.1⟩
theorem pfx_apt {d:Nat} {C:List Lf} (h:C.Pairwise Apt):(pfx d C).Pairwise Apt:=by
  unfold pfx
  rw [List.pairwise_map]
  exact h.imp fun h=>⟨fun c=>h.1 (List.cons_prefix_cons.mp c).2,fun c=>h.2 (List.cons_prefix_cons.mp c).2⟩
theorem pfx_two {d e:Nat} (hde:d≠e) {C D:List Lf}:∀ a∈pfx d C,∀ b∈pfx e D,Apt a b:=fun a ha b hb=>by
  obtain ⟨x,_,rfl⟩:=List.mem_map.mp ha
  obtain ⟨y,_,rfl⟩:=List.mem_map.mp hb
  exact ⟨fun c=>hde (List.cons_prefix_cons.mp c).1,fun c=>hde (List.cons_prefix_cons.mp c).1.symm⟩
theorem Cv.apt:∀ {k:Nat} {t:Tr} {C:List Lf},Cv k t C→C.Pairwise Apt
  | 0,t,C,⟨c,e1,e2⟩=>by rw [e2]; exact List.pairwise_singleton _ _
  | k + 1,t,C,.inl ⟨c,e1,e2⟩=>by rw [e2]; exact List.pairwise_singleton _ _
  | k + 1,t,C,.inr ⟨C0,C1,C2,C3,p,h0,h1,h2,h3⟩=>by
    refine (p.pairwise_iff (fun h=>h.symm)).mpr ?_
    refine List.pairwise_append.mpr ⟨pfx_apt h0.apt,List.pairwise_append.mpr ⟨pfx_apt h1.apt,List.pairwise_append.mpr ⟨pfx_apt h2.apt,pfx_apt h3.apt,pfx_two (by decide)⟩,?_⟩,?_⟩
    · intro a ha b hb
      rcases List.mem_append.mp hb with hb | hb
      · exact pfx_two (by decide) a ha b hb
      · exact pfx_two (by decide) a ha b hb
    · intro a ha b hb
      rcases List.mem_append.mp hb with hb | hb
      · exact pfx_two (by decide) a ha b hb
      rcases List.mem_append.mp hb with hb | hb
      · exact pfx_two (by decide) a ha b hb
      · exact pfx_two (by decide) a ha b hb

def sub (d:Nat) (C:List Lf):List Lf:=(C.filter fun q=>q.1.head? == some d).map fun q=>(q.1.drop 1,q.2)
theorem sub_app (d:Nat) (C D:List Lf):sub d (C++D)=sub d C++sub d D:=by
  unfold sub
  rw [List.filter_append,List.map_append]
def Prt (n:Nat):List Lf→List Lf→Prop
  | [],D=>D=[]
  | q::A,D=>∃ E D',D=pfs q.1 E++D'∧Cv (n - q.1.length) (.col q.2) E∧Prt n A D'
theorem Prt.cut {n:Nat}:∀ {A B D:List Lf},Prt n (A++B) D→∃ D1 D2,D=D1++D2∧Prt n A D1∧Prt n B D2
  | [],B,D,h=>⟨[],D,rfl,rfl,h⟩
  | q::A,B,D,⟨E,D',e,hE,h⟩=>by
    obtain ⟨D1,D2,e',h1,h2⟩:=Prt.cut h
    exact ⟨pfs q.1 E++D1,D2,by rw [e,e',List.append_assoc],⟨E,D1,rfl,hE,h1⟩,h2⟩
theorem pfs_pfs (p:List Nat) (e:Nat) (C:List Lf):pfs (p++[e]) C=pfs p (pfs [e] C):=by
  unfold pfs
  rw [List.map_map]
  refine List.map_congr_left fun q _ => ?_
  simp
theorem lvs_at_pre:∀ (t:Tr) (p:List Nat),lvs p t=pfs p (lvs [] t)
  | .col c,p=>by
    show [(p,c)]=[(p++[],c)]
    rw [List.append_nil]
  | .four a b c d,p=>by
    show lvs (p++[0]) a++(lvs (p++[1]) b++(lvs (p++[2]) c++lvs (p++[3]) d))=pfs p (lvs [0] a++(lvs [1] b++(lvs [2] c++lvs [3] d)))
    rw [lvs_at_pre a (p++[0]),lvs_at_pre b (p++[1]),lvs_at_pre c (p++[2]),lvs_at_pre d (p++[3]),lvs_at_pre a [0],lvs_at_pre b [1],lvs_at_pre c [2],lvs_at_pre d [3],pfs_pfs,pfs_pfs,pfs_pfs,pfs_pfs]
    unfold pfs
    rw [List.map_append,List.map_append,List.map_append]
theorem Prt.down {n d:Nat}:∀ {A D:List Lf},Prt (n + 1) (pfs [d] A) D→∃ D',D=pfx d D'∧Prt n A D'
  | [],D,h=>⟨[],h,rfl⟩
  | q::A,D,⟨E,D',e,hE,h⟩=>by
    obtain ⟨D2,e2,h2⟩:=Prt.down h
    refine ⟨pfs q.1 E++D2,?_,E,D2,rfl,?_,h2⟩
    · rw [e,e2]
      unfold pfs pfx
      rw [List.map_append,List.map_map]
      rfl
    · have e3:n + 1 - ([d]++q.1).length=n - q.1.length:=by rw [List.length_append]; show n + 1 - (1 + q.1.length)=_; omega
      rw [e3] at hE
      exact hE
theorem Prt.cv:∀ {n:Nat} {t:Tr} {D:List Lf},Good n t→Prt n (lvs [] t) D→Cv n t D
  | n,.col c,D,_,⟨E,D',e,hE,h⟩=>by
    have h':D'=[]:=h
    have e2:pfs [] E=E:=by unfold pfs; exact List.map_id E
    have e3:D=pfs [] E++D':=e
    rw [e3,h',List.append_nil,e2]
    exact hE
  | 0,.four ..,D,g,_=>g.elim
  | n + 1,.four a b c d,D,⟨ga,gb,gc,gd,_⟩,h=>by
    have h':Prt (n + 1) (lvs [0] a++(lvs [1] b++(lvs [2] c++lvs [3] d))) D:=h
    rw [lvs_at_pre a [0],lvs_at_pre b [1],lvs_at_pre c [2],lvs_at_pre d [3]] at h'
    obtain ⟨D0,R0,e0,h0,h'⟩:=h'.cut
    obtain ⟨D1,R1,e1,h1,h'⟩:=h'.cut
    obtain ⟨D2,D3,e2,h2,h3⟩:=h'.cut
    obtain ⟨X0,f0,h0⟩:=h0.down
    obtain ⟨X1,f1,h1⟩:=h1.down
    obtain ⟨X2,f2,h2⟩:=h2.down
    obtain ⟨X3,f3,h3⟩:=h3.down
    refine .inr ⟨X0,X1,X2,X3,?_,Prt.cv ga h0,Prt.cv gb h1,Prt.cv gc h2,Prt.cv gd h3⟩
    rw [e0,e1,e2,f0,f1,f2,f3]

def ar (k:Nat):List Lf→Nat
  | []=>0
  | q::C=>4 ^ (k - q.1.length) + ar k C
def OkC (k:Nat) (C:List Lf):Prop:=∀ q∈C,q.1.length≤k∧∀ d∈q.1,d < 4
theorem OkC.tail {k:Nat} {q:Lf} {C:List Lf} (h:OkC k (q::C)):OkC k C:=fun r hr=>h r (List.mem_cons_of_mem _ hr)
theorem ar_app (k:Nat):∀ C D:List Lf,ar k (C++D)=ar k C + ar k D
  | [],D=>(Nat.zero_add _).symm
  | q::C,D=>by
    show 4 ^ (k - q.1.length) + ar k (C++D)=4 ^ (k - q.1.length) + ar k C + ar k D
    rw [ar_app k C D,Nat.add_assoc]
theorem sub_hit {d:Nat} {q:Lf} {w:List Nat} (h:q.1=d::w) (C:List Lf):sub d (q::C)=(w,q.2)::sub d C:=by
  unfold sub
  rw [List.filter_cons_of_pos (by rw [h]; simp),List.map_cons,h]
  rfl
theorem sub_miss {d e:Nat} {q:Lf} {w:List Nat} (h:q.1=e::w) (ne:e≠d) (C:List Lf):sub d (q::C)=sub d C:=by
  unfold sub
  rw [List.filter_cons_of_neg (by rw [h]; simp [ne])]
theorem sub_void {d:Nat} {q:Lf} (h:q.1=[]) (C:List Lf):sub d (q::C)=sub d C:=by
  unfold sub
  rw [List.filter_cons_of_neg (by rw [h]; simp)]
theorem mem_sub {d:Nat} {r:Lf}:∀ {C:List Lf},r∈sub d C→∃ q∈C,q.1=d::r.1∧q.2=r.2
  | [],h=>by cases h
  | q::C,h=>by
    cases hq:q.1 with
    | nil =>
      rw [sub_void hq] at h
      obtain ⟨q',m,e⟩:=mem_sub h
      exact ⟨q',List.mem_cons_of_mem _ m,e⟩
    | cons e w =>
      by_cases ed:e=d
      · subst ed
        rw [sub_hit hq] at h
        rcases List.mem_cons.mp h with rfl | h
        · exact ⟨q,List.mem_cons_self,hq,rfl⟩
        · obtain ⟨q',m,e'⟩:=mem_sub h
          exact ⟨q',List.mem_cons_of_mem _ m,e'⟩
      · rw [sub_miss hq ed] at h
        obtain ⟨q',m,e'⟩:=mem_sub h
        exact ⟨q',List.mem_cons_of_mem _ m,e'⟩
theorem sub_ok {k d:Nat} {C:List Lf} (h:OkC (k + 1) C):OkC k (sub d C):=fun r hr=>by
  obtain ⟨q,m,e,_⟩:=mem_sub hr
  obtain ⟨h1,h2⟩:=h q m
  rw [e] at h1 h2
  exact ⟨Nat.le_of_succ_le_succ h1,fun x hx=>h2 x (List.mem_cons_of_mem _ hx)⟩
theorem sub_apt {d:Nat}:∀ {C:List Lf},C.Pairwise Apt→(sub d C).Pairwise Apt
  | [],_=>.nil
  | q::C,h=>by
    obtain ⟨h1,h2⟩:=List.pairwise_cons.mp h
    have ih:=sub_apt (d:=d) h2
    cases hq:q.1 with
    | nil=>rw [sub_void hq]; exact ih
    | cons e w =>
      by_cases ed:e=d
      · subst ed
        rw [sub_hit hq]
        refine List.pairwise_cons.mpr ⟨fun r hr => ?_,ih⟩
        obtain ⟨q',m,e',_⟩:=mem_sub hr
        obtain ⟨a1,a2⟩:=h1 q' m
        rw [hq,e'] at a1 a2
        exact ⟨fun z=>a1 (List.cons_prefix_cons.mpr ⟨rfl,z⟩),fun z=>a2 (List.cons_prefix_cons.mpr ⟨rfl,z⟩)⟩
      · rw [sub_miss hq ed]; exact ih
theorem ar_split {k:Nat}:∀ {C:List Lf},OkC (k + 1) C→(∀ q∈C,q.1≠[])→ar (k + 1) C=ar k (sub 0 C) + ar k (sub 1 C) + ar k (sub 2 C) + ar k (sub 3 C)
  | [],_,_=>rfl
  | q::C,ok,ne=>by
    have ih:=ar_split ok.tail fun r hr=>ne r (List.mem_cons_of_mem _ hr)
    obtain ⟨h1,h2⟩:=ok q List.mem_cons_self
    have n0:=ne q List.mem_cons_self
    cases hq:q.1 with
    | nil=>exact absurd hq n0
    | cons e w =>
      rw [hq] at h1 h2
      have he:e < 4:=h2 e List.mem_cons_self
      have ea:ar (k + 1) (q::C)=4 ^ (k - w.length) + ar (k + 1) C:=by
        show 4 ^ (k + 1 - q.1.length) + ar (k + 1) C=_
        rw [hq,List.length_cons,Nat.add_sub_add_right]
      have hit:∀ d,e=d→ar k (sub d (q::C))=4 ^ (k - w.length) + ar k (sub d C):=fun d hd=>by
        subst hd
        rw [sub_hit hq]; rfl
      have mis:∀ d,e≠d→ar k (sub d (q::C))=ar k (sub d C):=fun d hd=>by rw [sub_miss hq hd]
      rw [ea,ih]
      have cs:e=0∨e=1∨e=2∨e=3:=by omega
      rcases cs with h | h | h | h
      · rw [hit 0 h,mis 1 (by omega),mis 2 (by omega),mis 3 (by omega)]; omega
      · rw [hit 1 h,mis 0 (by omega),mis 2 (by omega),mis 3 (by omega)]; omega
      · rw [hit 2 h,mis 0 (by omega),mis 1 (by omega),mis 3 (by omega)]; omega
      · rw [hit 3 h,mis 0 (by omega),mis 1 (by omega),mis 2 (by omega)]; omega
theorem only_top {C:List Lf} (h:C.Pairwise Apt) {q:Lf} (m:q∈C) (e:q.1=[]):C=[q]:=by
  cases C with
  | nil=>cases m
  | cons r D =>
    obtain ⟨h1,_⟩:=List.pairwise_cons.mp h
    rcases List.mem_cons.mp m with rfl | m
    · cases D with
      | nil=>rfl
      | cons s D=>exact absurd (by rw [e]; exact List.nil_prefix) (h1 s List.mem_cons_self).1
    · exact absurd (by rw [e]; exact List.nil_prefix) (h1 q m).2
theorem kraft:∀ (k:Nat) {C:List Lf},OkC k C→C.Pairwise Apt→ar k C≤4 ^ k
  | k,C,ok,ap=>by
    by_cases h:∃ q∈C,q.1=[]
    · obtain ⟨q,m,e⟩:=h
      rw [only_top ap m e]
      show 4 ^ (k - q.1.length) + 0≤_
      rw [e]
      exact Nat.le_refl _
    · have ne:∀ q∈C,q.1≠[]:=fun q m e=>h ⟨q,m,e⟩
      match k,ok with
      | 0,ok =>
        cases C with
        | nil=>exact Nat.zero_le _
        | cons q C=>exact absurd (List.eq_nil_of_length_eq_zero (Nat.le_zero.mp (ok q List.mem_cons_self).1)) (ne q List.mem_cons_self)
      | k + 1,ok =>
        have:=fun d=>kraft k (sub_ok (d:=d) ok) (sub_apt ap)
        have a0:=this 0
        have a1:=this 1
        have a2:=this 2
        have a3:=this 3
        rw [ar_split ok ne,Nat.pow_succ]
        omega

theorem squeeze:∀ (x y z:List Nat),x <+: y→¬ z < x→¬ y < z→x <+: z
  | [],_,_,_,_,_=>List.nil_prefix
  | a::x,[],_,h,_,_=>by simp at h
  | a::x,b::y,[],h,h1,_=>absurd (List.nil_lt_cons a x) h1
  | a::x,b::y,c::z,h,h1,h2=>by
    obtain ⟨rfl,hp⟩:=List.cons_prefix_cons.mp h
    rw [List.cons_lt_cons_iff] at h1 h2
    have e:a=c:=by
      rcases Nat.lt_trichotomy a c with g | g | g
      · exact absurd (.inl g) h2
      · exact g
      · exact absurd (.inl g) h1
    subst e
    exact List.cons_prefix_cons.mpr ⟨rfl,squeeze x y z hp (fun g=>h1 (.inr ⟨rfl,g⟩)) (fun g=>h2 (.inr ⟨rfl,g⟩))⟩
theorem pre_lt:∀ (x y:List Nat),x <+: y→x=y∨x < y
  | [],[],_=>.inl rfl
  | [],b::y,_=>.inr (List.nil_lt_cons b y)
  | a::x,[],h=>by simp at h
  | a::x,b::y,h=>by
    obtain ⟨rfl,hp⟩:=List.cons_prefix_cons.mp h
    rcases pre_lt x y hp with rfl | g
    · exact .inl rfl
    · exact .inr (List.cons_lt_cons_iff.mpr (.inr ⟨rfl,g⟩))
theorem adj_apart {ss:List (List Nat)} (pw:ss.Pairwise fun x y=>¬ y < x) (adj:∀ (i:Nat) (h:i + 1 < ss.length),¬ ss[i] <+: ss[i + 1]):ss.Pairwise fun x y=>¬ x <+: y∧¬ y <+: x:=by
  have pg:=List.pairwise_iff_getElem.mp pw
  refine List.pairwise_iff_getElem.mpr fun i j hi hj hij => ?_
  have one:¬ ss[i] <+: ss[j]:=fun h=>by
    by_cases e:j=i + 1
    · subst e
      exact adj i hj h
    · exact adj i (by omega) (squeeze _ _ _ h (pg i (i + 1) hi (by omega) (by omega)) (pg (i + 1) j (by omega) hj (by omega)))
  refine ⟨one,fun h => ?_⟩
  rcases pre_lt _ _ h with e | g
  · exact one (by rw [e]; exact List.prefix_refl _)
  · exact pg i j hi hj hij g
theorem iteDT {c A B:Prop} [Decidable c] (hc:c) (h:A):if decide c=true then A else B:=by rw [if_pos (decide_eq_true hc)]; exact h
theorem TyOf.up {K:PySem.W.Frag} {H H':Hp} {x:V} {t:Value} (sm:Same H H') (h:TyOf K H x t):TyOf K H' x t:=by
  cases h with
  | non=>exact .non
  | bl x=>exact .bl x
  | int i=>exact .int i
  | str x=>exact .str x
  | flt x=>exact .flt x
  | lst e=>exact .lst (sm _ _ e)
  | frz e=>exact .frz (sm _ _ e)
  | tup e=>exact .tup (sm _ _ e)
  | dK e=>exact .dK (sm _ _ e)
  | dT e=>exact .dT (sm _ _ e)
  | ins e cl ha hn htk hm=>exact .ins (sm _ _ e) cl ha hn htk hm
theorem div_two (x m:Nat):x / 2 ^ m / 2=x / 2 ^ (m + 1):=by rw [Nat.div_div_eq_div_mul,Nat.pow_succ]
theorem str_one {d:Nat} (h:d < 4):Str.ofString (toString ((d:Nat):Int))=one d :=
  four (P:=fun d=>Str.ofString (toString ((d:Nat):Int))=one d) (by decide +kernel) (by decide +kernel) (by decide +kernel) (by decide +kernel) h
theorem one_txt (d:Nat) (ds:List Nat):one d++txt ds=txt (d::ds):=by
  apply str_ext
  show (#[48 + d]++(ds.map (48 + ·)).toArray).toList=_
  simp [txt]
end Qs


namespace Qs
open PySem L2
section
variable {P:Program} {w:World} {K:PySem.W.Frag} {mg:Str→Option Value} {base:Heap} {CX:CXT} {f:Addr} {fd:FuncData}
abbrev s_is_whole:Stmt:=top 18
theorem sc_is_whole:FnScope ["thing"] ["thing"] (defScope s_is_whole):=⟨rfl,rfl,rfl,by decide +kernel,rfl,by decide +kernel,by decide +kernel⟩
def sp_is_whole (K:PySem.W.Frag):Sp:=fun vs H Q _=>∃ x,vs=[x]∧((∃ i,x=.int i∧Q (.bl true) H)∨(∃ b,x=.bl b∧Q (.bl false) H)∨∃ t,TyOf K H x t∧PySem.W.kitOne K t (.type "int")=some false∧Q (.bl false) H)
theorem ok_is_whole (T:Tx K mg) (F:FunD K "is_whole" "is_whole" s_is_whole f fd .none):FnOk P w K mg base CX 1 f fd ["thing"] (sp_is_whole K):=by
  refine F.ok sc_is_whole (fun vs H Q E h => ?_) (fun cdv A outer s H vs Q E hr h => ?_)
  · obtain ⟨x,rfl,_⟩:=h
    rfl
  obtain ⟨x,rfl,h⟩:=h
  refine ⟨_,(pss_one (ps_ret (pe_and (pe_callB (call_isiT "int") rfl T.b_isinstance bb_isinstance (pa_cons (pv 0) (pa_cons (pe_bty T.b_int bt_int) pa_nil))) (pe_one (pe_not (pe_callB (call_isiT "bool") rfl T.b_isinstance bb_isinstance (pa_cons (pv 0) (pa_cons (pe_bty T.b_bool bt_bool) pa_nil)))))))),?_⟩
  rcases h with ⟨i,rfl,q⟩ | ⟨b,rfl,q⟩ | ⟨t,ty,hk,q⟩
  · refine ⟨_,rfl,_,_,_,rfl,.int i,kit_ii,_,rfl,iteT ?_⟩
    exact ⟨_,rfl,_,_,_,rfl,.int i,kit_ib,_,rfl,q⟩
  · refine ⟨_,rfl,_,_,_,rfl,.bl b,kit_bi,_,rfl,iteT ?_⟩
    exact ⟨_,rfl,_,_,_,rfl,.bl b,kit_bb,_,rfl,q⟩
  · exact ⟨_,rfl,_,_,_,rfl,ty,hk,_,rfl,iteF q⟩

def NoInt (K:PySem.W.Frag) (H:Hp) (x:V):Prop:=(∃ b,x=.bl b)∨∃ t,TyOf K H x t∧PySem.W.kitOne K t (.type "int")=some false
abbrev s_is_level:Stmt:=top 19
theorem sc_is_level:FnScope ["thing"] ["thing"] (defScope s_is_level):=⟨rfl,rfl,rfl,by decide +kernel,rfl,by decide +kernel,by decide +kernel⟩
def gsp_upto (K:PySem.W.Frag) (m:Int):Sp:=fun vs H Q _=>∃ x,vs=[x]∧((∃ i,x=.int i∧Q (.bl (decide (0≤i∧i≤m))) H)∨(NoInt K H x∧Q (.bl false) H))
theorem gok_is_level (T:Tx K mg) (q:Quiet CX) (F:FunD K "is_level" "is_level" s_is_level f fd .none) (C_is_whole:Fok P w K mg base CX 1 "is_whole" ["thing"] [] (sp_is_whole K)):FnOk P w K mg base CX 2 f fd ["thing"] (gsp_upto K 40):=by
  refine F.ok sc_is_level (fun vs H Q E h => ?_) (fun cdv A outer s H vs Q E hr h => ?_)
  · obtain ⟨x,rfl,_⟩:=h
    rfl
  obtain ⟨x,rfl,h⟩:=h
  refine ⟨_,(pss_one (ps_ret (pe_and (pe_callF C_is_whole q hr (pa_cons (pv 0) pa_nil)) (pe_one (pe_chain op_le op_le pe_int (pv 0) (pe_gint T.c_MOST)))))),?_⟩
  rcases h with ⟨i,rfl,h⟩ | ⟨no,h⟩
  · refine ⟨_,rfl,_,rfl,.inl ⟨i,rfl,_,rfl,iteT ?_⟩⟩
    refine ⟨_,rfl,_,_,rfl,rfl,_,rfl,ite2 (fun c => ?_) (fun c => ?_)⟩
    · have c':(0:Int)≤i:=of_decide_eq_true c
      refine ⟨_,_,rfl,rfl,?_⟩
      show Q (.bl (decide (i≤40))) H
      have e:decide (i≤40)=decide (0≤i∧i≤40):=decide_eq_decide.mpr ⟨fun z=>⟨c',z⟩,fun z=>z.2⟩
      rw [e]; exact h
    · have e:decide (0≤i∧i≤40)=false:=decide_eq_false fun z=>c (decide_eq_true z.1)
      rw [e] at h; exact h
  · rcases no with ⟨b,rfl⟩ | ⟨t,ty,hk⟩
    · exact ⟨_,rfl,_,rfl,.inr (.inl ⟨b,rfl,_,rfl,iteF h⟩)⟩
    · exact ⟨_,rfl,_,rfl,.inr (.inr ⟨t,ty,hk,_,rfl,iteF h⟩)⟩
abbrev s_is_colour:Stmt:=top 20
theorem sc_is_colour:FnScope ["thing"] ["thing"] (defScope s_is_colour):=⟨rfl,rfl,rfl,by decide +kernel,rfl,by decide +kernel,by decide +kernel⟩
theorem gok_is_colour (T:Tx K mg) (q:Quiet CX) (F:FunD K "is_colour" "is_colour" s_is_colour f fd .none) (C_is_whole:Fok P w K mg base CX 1 "is_whole" ["thing"] [] (sp_is_whole K)):FnOk P w K mg base CX 2 f fd ["thing"] (gsp_upto K 35):=by
  refine F.ok sc_is_colour (fun vs H Q E h => ?_) (fun cdv A outer s H vs Q E hr h => ?_)
  · obtain ⟨x,rfl,_⟩:=h
    rfl
  obtain ⟨x,rfl,h⟩:=h
  refine ⟨_,(pss_one (ps_ret (pe_and (pe_callF C_is_whole q hr (pa_cons (pv 0) pa_nil)) (pe_one (pe_chain op_le op_le pe_int (pv 0) (pe_gint T.c_LAST_COLOUR)))))),?_⟩
  rcases h with ⟨i,rfl,h⟩ | ⟨no,h⟩
  · refine ⟨_,rfl,_,rfl,.inl ⟨i,rfl,_,rfl,iteT ?_⟩⟩
    refine ⟨_,rfl,_,_,rfl,rfl,_,rfl,ite2 (fun c => ?_) (fun c => ?_)⟩
    · have c':(0:Int)≤i:=of_decide_eq_true c
      refine ⟨_,_,rfl,rfl,?_⟩
      show Q (.bl (decide (i≤35))) H
      have e:decide (i≤35)=decide (0≤i∧i≤35):=decide_eq_decide.mpr ⟨fun z=>⟨c',z⟩,fun z=>z.2⟩
      rw [e]; exact h
    · have e:decide (0≤i∧i≤35)=false:=decide_eq_false fun z=>c (decide_eq_true z.1)
      rw [e] at h; exact h
  · rcases no with ⟨b,rfl⟩ | ⟨t,ty,hk⟩
    · exact ⟨_,rfl,_,rfl,.inr (.inl ⟨b,rfl,_,rfl,iteF h⟩)⟩
    · exact ⟨_,rfl,_,rfl,.inr (.inr ⟨t,ty,hk,_,rfl,iteF h⟩)⟩
abbrev s_is_code:Stmt:=top 21
theorem sc_is_code:FnScope ["thing"] ["thing"] (defScope s_is_code):=⟨rfl,rfl,rfl,by decide +kernel,rfl,by decide +kernel,by decide +kernel⟩

def sB (c:Nat):Bool:=decide (c∈("0123" : Str).cps.toList)
theorem q_mem (c:Nat):c∈("0123" : Str).cps.toList↔48≤c∧c≤51:=by
  have e:("0123" : Str).cps.toList=[48,49,50,51]:=by decide +kernel
  rw [e]
  simp only [List.mem_cons,List.not_mem_nil,or_false]
  omega
def cB (z:Str):Bool:=decide (z.length≤40) && (List.range z.length).all fun i=>sB (z.cps.getD i 0)
theorem cB_iff (z:Str):cB z=true↔z.length≤40∧IsC z:=by
  unfold cB
  rw [Bool.and_eq_true,decide_eq_true_eq,List.all_eq_true]
  refine and_congr_right fun _=>⟨fun h c hc => ?_,fun h i hi => ?_⟩
  · obtain ⟨i,hi,e⟩:=List.mem_iff_getElem.mp hc
    have hi':i < z.length:=by rw [len_eq]; exact hi
    have:=h i (List.mem_range.mpr hi')
    unfold sB at this
    rw [decide_eq_true_eq,q_mem] at this
    have e2:z.cps.getD i 0=c:=by
      have hi2:i < z.cps.size:=hi'
      rw [← e]; simp [Array.getD_eq_getD_getElem?,hi2]
    rw [e2] at this; exact this
  · unfold sB
    rw [decide_eq_true_eq,q_mem]
    exact sgn_in h (List.mem_range.mp hi)
def gsp_is_code (K:PySem.W.Frag):Sp:=fun vs H Q _=>∃ x,vs=[x]∧((∃ z,x=.str z∧z.length≤1000∧∀ H',Same H H'→Q (.bl (cB z)) H')∨((∃ t,TyOf K H x t∧PySem.W.kitOne K t (.type "str")=some false)∧Q (.bl false) H))
theorem gok_is_code (T:Tx K mg) (F:FunD K "is_code" "is_code" s_is_code f fd .none):FnOk P w K mg base CX 1 f fd ["thing"] (gsp_is_code K):=by
  refine F.ok sc_is_code (fun vs H Q E h => ?_) (fun cdv A outer s H vs Q E hr h => ?_)
  · obtain ⟨x,rfl,_⟩:=h
    rfl
  obtain ⟨x,rfl,h⟩:=h
  refine ⟨_,(pss_cons (ps_if (PW.pt (pw_or (pt_not (pt_val (pe_callB (call_isiT "str") rfl T.b_isinstance bb_isinstance (pa_cons (pv 0) (pa_cons (pe_bty T.b_str bt_str) pa_nil))))) (pw_or1 (pt_cmpR op_gt (pe_callB call_len rfl T.b_len bb_len (pa_cons (pv 0) pa_nil)) (pe_gint T.c_MOST) (nomark _))))) (pss_one (ps_ret pe_bl)) pss_nil) (pss_one (ps_ret (pe_callB (call_all rfl) rfl T.b_all bb_all (pa_cons (pe_comp (N':=["sign"]) (by decide +kernel) (by decide +kernel) rfl (by decide +kernel) rfl (pi_str (pv 0)) (fun C s0 H0 fp pins=>(pg_name (i:=0) (nd1 _) rfl (Or.inl rfl))) (fun C s0 H0 fp pins=>(pe_cmpR op_in_str (pv 0) (pe_gstr T.c_QUARTERS) (by with_unfolding_all rfl)))) pa_nil))))),?_⟩
  rcases h with ⟨z,rfl,hl,q⟩ | ⟨⟨t,ty,hk⟩,q⟩
  · have hs:z.length≤sizeLine:=small hl
    refine ⟨_,rfl,_,_,_,rfl,.str z,kit_ss,_,rfl,iteF ?_⟩
    refine ⟨_,rfl,_,_,rfl,⟨hs,rfl⟩,_,_,rfl,rfl,_,rfl,ite2 (fun c => ?_) (fun c => ?_)⟩
    · have c':(40:Int) < (z.length:Int):=of_decide_eq_true c
      have e:cB z=false:=by unfold cB; rw [decide_eq_false (by omega)]; rfl
      have:=q H (Same.refl H)
      rw [e] at this; exact this
    · have c':¬ (40:Int) < (z.length:Int):=fun w=>c (decide_eq_true w)
      refine ⟨_,rfl,_,rfl,comp_of (fun i=>.bl (!(Builtin.Str.occurrences ("0123" : Str) (sgn z i) 0 ("0123" : Str).length 1).isEmpty)) hs (fun i H' R hi hR=>⟨_,rfl,_,_,rfl,rfl,hR⟩) fun D hD => ?_⟩
      have e:(List.range z.length).map (fun i=>V.bl (!(Builtin.Str.occurrences ("0123" : Str) (sgn z i) 0 ("0123" : Str).length 1).isEmpty))=((List.range z.length).map fun i=>sB (z.cps.getD i 0)).map V.bl:=by
        rw [List.map_map]
        refine List.map_congr_left fun i _ => ?_
        show V.bl (!(Builtin.Str.occurrences ("0123" : Str) (⟨#[z.cps.getD i 0]⟩:Str) 0 ("0123" : Str).length 1).isEmpty)=_
        rw [PySem.StrLaws.found_one]
        rfl
      refine ⟨D,(List.range z.length).map fun i=>sB (z.cps.getD i 0),rfl,SqL.of (by rw [upd_same,e]),?_⟩
      have e2:(((List.range z.length).map fun i=>sB (z.cps.getD i 0)).all id)=cB z:=by
        unfold cB
        rw [decide_eq_true (by omega),List.all_map]
        rfl
      rw [e2]
      exact q _ (Same.new hD _)
  · exact ⟨_,rfl,_,_,_,rfl,ty,hk,_,rfl,iteT q⟩
abbrev s_width_of:Stmt:=top 27
theorem sc_width_of:FnScope ["level","wide","step"] ["level"] (defScope s_width_of):=⟨rfl,rfl,rfl,by decide +kernel,rfl,by decide +kernel,by decide +kernel⟩
def sp_width_of:Sp:=fun vs H Q _=>∃ n:Nat,vs=[.int n]∧n≤64∧Q (.int ((2 ^ n:Nat):Int)) H
theorem ok_width_of (T:Tx K mg) (F:FunD K "width_of" "width_of" s_width_of f fd .none):FnOk P w K mg base CX 1 f fd ["level"] sp_width_of:=by
  refine F.ok sc_width_of (fun vs H Q E h => ?_) (fun cdv A outer s H vs Q E hr h => ?_)
  · obtain ⟨x,rfl,_⟩:=h
    rfl
  obtain ⟨n,rfl,hn,q'⟩:=h
  refine ⟨_,(pss_cons (ps_set (i:=1) sc_width_of.nd rfl (Or.inl rfl) pe_int) (pss_cons (ps_for PassesOwn.never rfl (pi_range1 rfl T.b_range (pa_cons (pv 0) pa_nil)) (pg_name (i:=2) sc_width_of.nd rfl (Or.inl rfl)) (pss_one (ps_set (i:=1) sc_width_of.nd rfl (Or.inl rfl) (pe_op op_mul (pv 1) pe_int)))) (pss_one (ps_ret (pv 1))))),?_⟩
  refine ⟨_,rfl,_,rfl,by omega,by omega,for_range (fun i σ H2=>H2=H∧∃ x v,x=((2 ^ i:Nat):Int)∧σ=[some (.int n),some (.int x),v]) ⟨rfl,1,none,rfl,rfl⟩ ?_ ?_⟩
  · rintro i σ H2 hi ⟨rfl,x,v,rfl,rfl⟩
    refine ⟨_,rfl,_,_,rfl,rfl,.inr ⟨by decide,by decide⟩,rfl,_,_,?_,rfl⟩
    rw [Nat.pow_succ,Int.natCast_mul]; rfl
  · rintro σ H2 ⟨rfl,x,v,rfl,rfl⟩
    have e:((n:Int)).toNat=n:=Int.toNat_natCast n
    refine ⟨_,rfl,?_⟩
    rw [e]
    exact q'
end
end Qs
namespace Qs
open PySem L2
set_option genInjectivity false in
structure Yx (K:PySem.W.Frag) (mg:Str→Option Value) where
  c_NoLevel:Addr
  c_NoCode:Addr
  c_NoColour:Addr
  c_NoPlace:Addr
  c_NoSide:Addr
  c_NoLeaf:Addr
  c_Twice:Addr
  c_Gap:Addr
  c_NoText:Addr
  c_NoName:Addr
  c_NoNumber:Addr
  c_NoRow:Addr
  c_SheetError:Addr
  m_NoLevel:mg "NoLevel" = some (.ref c_NoLevel)
  m_NoCode:mg "NoCode" = some (.ref c_NoCode)
  m_NoColour:mg "NoColour" = some (.ref c_NoColour)
  m_NoPlace:mg "NoPlace" = some (.ref c_NoPlace)
  m_NoSide:mg "NoSide" = some (.ref c_NoSide)
  m_NoLeaf:mg "NoLeaf" = some (.ref c_NoLeaf)
  m_Twice:mg "Twice" = some (.ref c_Twice)
  m_Gap:mg "Gap" = some (.ref c_Gap)
  m_NoText:mg "NoText" = some (.ref c_NoText)
  m_NoName:mg "NoName" = some (.ref c_NoName)
  m_NoNumber:mg "NoNumber" = some (.ref c_NoNumber)
  m_NoRow:mg "NoRow" = some (.ref c_NoRow)
  m_SheetError:mg "SheetError" = some (.ref c_SheetError)
  x_NoLevel:OwnX K mg "NoLevel" c_NoLevel
  k_NoLevel:ExcC K c_NoLevel
  s_NoLevel:PySem.W.exmOne K (.ref c_NoLevel) (.ref c_SheetError)=some true
  v_NoLevel:PySem.W.kitOne K (.ref c_NoLevel) (.type "ValueError")=some true
  t_NoLevel_NoCode:PySem.W.kitOne K (.ref c_NoLevel) (.ref c_NoCode)=some false
  t_NoLevel_NoColour:PySem.W.kitOne K (.ref c_NoLevel) (.ref c_NoColour)=some false
  t_NoLevel_NoPlace:PySem.W.kitOne K (.ref c_NoLevel) (.ref c_NoPlace)=some false
  t_NoLevel_NoSide:PySem.W.kitOne K (.ref c_NoLevel) (.ref c_NoSide)=some false
  t_NoLevel_NoLeaf:PySem.W.kitOne K (.ref c_NoLevel) (.ref c_NoLeaf)=some false
  t_NoLevel_Twice:PySem.W.kitOne K (.ref c_NoLevel) (.ref c_Twice)=some false
  t_NoLevel_Gap:PySem.W.kitOne K (.ref c_NoLevel) (.ref c_Gap)=some false
  t_NoLevel_NoText:PySem.W.kitOne K (.ref c_NoLevel) (.ref c_NoText)=some false
  t_NoLevel_NoName:PySem.W.kitOne K (.ref c_NoLevel) (.ref c_NoName)=some false
  t_NoLevel_NoNumber:PySem.W.kitOne K (.ref c_NoLevel) (.ref c_NoNumber)=some false
  t_NoLevel_NoRow:PySem.W.kitOne K (.ref c_NoLevel) (.ref c_NoRow)=some false
  x_NoCode:OwnX K mg "NoCode" c_NoCode
  k_NoCode:ExcC K c_NoCode
  s_NoCode:PySem.W.exmOne K (.ref c_NoCode) (.ref c_SheetError)=some true
  v_NoCode:PySem.W.kitOne K (.ref c_NoCode) (.type "ValueError")=some true
  t_NoCode_NoLevel:PySem.W.kitOne K (.ref c_NoCode) (.ref c_NoLevel)=some false
  t_NoCode_NoColour:PySem.W.kitOne K (.ref c_NoCode) (.ref c_NoColour)=some false
  t_NoCode_NoPlace:PySem.W.kitOne K (.ref c_NoCode) (.ref c_NoPlace)=some false
  t_NoCode_NoSide:PySem.W.kitOne K (.ref c_NoCode) (.ref c_NoSide)=some false
  t_NoCode_NoLeaf:PySem.W.kitOne K (.ref c_NoCode) (.ref c_NoLeaf)=some false
  t_NoCode_Twice:PySem.W.kitOne K (.ref c_NoCode) (.ref c_Twice)=some false
  t_NoCode_Gap:PySem.W.kitOne K (.ref c_NoCode) (.ref c_Gap)=some false
  t_NoCode_NoText:PySem.W.kitOne K (.ref c_NoCode) (.ref c_NoText)=some false
  t_NoCode_NoName:PySem.W.kitOne K (.ref c_NoCode) (.ref c_NoName)=some false
  t_NoCode_NoNumber:PySem.W.kitOne K (.ref c_NoCode) (.ref c_NoNumber)=some false
  t_NoCode_NoRow:PySem.W.kitOne K (.ref c_NoCode) (.ref c_NoRow)=some false
  x_NoColour:OwnX K mg "NoColour" c_NoColour
  k_NoColour:ExcC K c_NoColour
  s_NoColour:PySem.W.exmOne K (.ref c_NoColour) (.ref c_SheetError)=some true
  v_NoColour:PySem.W.kitOne K (.ref c_NoColour) (.type "ValueError")=some true
  t_NoColour_NoLevel:PySem.W.kitOne K (.ref c_NoColour) (.ref c_NoLevel)=some false
  t_NoColour_NoCode:PySem.W.kitOne K (.ref c_NoColour) (.ref c_NoCode)=some false
  t_NoColour_NoPlace:PySem.W.kitOne K (.ref c_NoColour) (.ref c_NoPlace)=some false
  t_NoColour_NoSide:PySem.W.kitOne K (.ref c_NoColour) (.ref c_NoSide)=some false
  t_NoColour_NoLeaf:PySem.W.kitOne K (.ref c_NoColour) (.ref c_NoLeaf)=some false
  t_NoColour_Twice:PySem.W.kitOne K (.ref c_NoColour) (.ref c_Twice)=some false
  t_NoColour_Gap:PySem.W.kitOne K (.ref c_NoColour) (.ref c_Gap)=some false
  t_NoColour_NoText:PySem.W.kitOne K (.ref c_NoColour) (.ref c_NoText)=some false
  t_NoColour_NoName:PySem.W.kitOne K (.ref c_NoColour) (.ref c_NoName)=some false
  t_NoColour_NoNumber:PySem.W.kitOne K (.ref c_NoColour) (.ref c_NoNumber)=some false
  t_NoColour_NoRow:PySem.W.kitOne K (.ref c_NoColour) (.ref c_NoRow)=some false
  x_NoPlace:OwnX K mg "NoPlace" c_NoPlace
  k_NoPlace:ExcC K c_NoPlace
  s_NoPlace:PySem.W.exmOne K (.ref c_NoPlace) (.ref c_SheetError)=some true
  v_NoPlace:PySem.W.kitOne K (.ref c_NoPlace) (.type "ValueError")=some true
  t_NoPlace_NoLevel:PySem.W.kitOne K (.ref c_NoPlace) (.ref c_NoLevel)=some false
  t_NoPlace_NoCode:PySem.W.kitOne K (.ref c_NoPlace) (.ref c_NoCode)=some false
  t_NoPlace_NoColour:PySem.W.kitOne K (.ref c_NoPlace) (.ref c_NoColour)=some false
  t_NoPlace_NoSide:PySem.W.kitOne K (.ref c_NoPlace) (.ref c_NoSide)=some false
  t_NoPlace_NoLeaf:PySem.W.kitOne K (.ref c_NoPlace) (.ref c_NoLeaf)=some false
  t_NoPlace_Twice:PySem.W.kitOne K (.ref c_NoPlace) (.ref c_Twice)=some false
  t_NoPlace_Gap:PySem.W.kitOne K (.ref c_NoPlace) (.ref c_Gap)=some false
  t_NoPlace_NoText:PySem.W.kitOne K (.ref c_NoPlace) (.ref c_NoText)=some false
  t_NoPlace_NoName:PySem.W.kitOne K (.ref c_NoPlace) (.ref c_NoName)=some false
  t_NoPlace_NoNumber:PySem.W.kitOne K (.ref c_NoPlace) (.ref c_NoNumber)=some false
  t_NoPlace_NoRow:PySem.W.kitOne K (.ref c_NoPlace) (.ref c_NoRow)=some false
  x_Twice:OwnX K mg "Twice" c_Twice
  k_Twice:ExcC K c_Twice
  s_Twice:PySem.W.exmOne K (.ref c_Twice) (.ref c_SheetError)=some true
  v_Twice:PySem.W.kitOne K (.ref c_Twice) (.type "ValueError")=some true
  t_Twice_NoLevel:PySem.W.kitOne K (.ref c_Twice) (.ref c_NoLevel)=some false
  t_Twice_NoCode:PySem.W.kitOne K (.ref c_Twice) (.ref c_NoCode)=some false
  t_Twice_NoColour:PySem.W.kitOne K (.ref c_Twice) (.ref c_NoColour)=some false
  t_Twice_NoPlace:PySem.W.kitOne K (.ref c_Twice) (.ref c_NoPlace)=some false
  t_Twice_NoSide:PySem.W.kitOne K (.ref c_Twice) (.ref c_NoSide)=some false
  t_Twice_NoLeaf:PySem.W.kitOne K (.ref c_Twice) (.ref c_NoLeaf)=some false
  t_Twice_Gap:PySem.W.kitOne K (.ref c_Twice) (.ref c_Gap)=some false
  t_Twice_NoText:PySem.W.kitOne K (.ref c_Twice) (.ref c_NoText)=some false
  t_Twice_NoName:PySem.W.kitOne K (.ref c_Twice) (.ref c_NoName)=some false
  t_Twice_NoNumber:PySem.W.kitOne K (.ref c_Twice) (.ref c_NoNumber)=some false
  t_Twice_NoRow:PySem.W.kitOne K (.ref c_Twice) (.ref c_NoRow)=some false
  x_Gap:OwnX K mg "Gap" c_Gap
  k_Gap:ExcC K c_Gap
  s_Gap:PySem.W.exmOne K (.ref c_Gap) (.ref c_SheetError)=some true
  v_Gap:PySem.W.kitOne K (.ref c_Gap) (.type "ValueError")=some true
  t_Gap_NoLevel:PySem.W.kitOne K (.ref c_Gap) (.ref c_NoLevel)=some false
  t_Gap_NoCode:PySem.W.kitOne K (.ref c_Gap) (.ref c_NoCode)=some false
  t_Gap_NoColour:PySem.W.kitOne K (.ref c_Gap) (.ref c_NoColour)=some false
  t_Gap_NoPlace:PySem.W.kitOne K (.ref c_Gap) (.ref c_NoPlace)=some false
  t_Gap_NoSide:PySem.W.kitOne K (.ref c_Gap) (.ref c_NoSide)=some false
  t_Gap_NoLeaf:PySem.W.kitOne K (.ref c_Gap) (.ref c_NoLeaf)=some false
  t_Gap_Twice:PySem.W.kitOne K (.ref c_Gap) (.ref c_Twice)=some false
  t_Gap_NoText:PySem.W.kitOne K (.ref c_Gap) (.ref c_NoText)=some false
  t_Gap_NoName:PySem.W.kitOne K (.ref c_Gap) (.ref c_NoName)=some false
  t_Gap_NoNumber:PySem.W.kitOne K (.ref c_Gap) (.ref c_NoNumber)=some false
  t_Gap_NoRow:PySem.W.kitOne K (.ref c_Gap) (.ref c_NoRow)=some false
theorem kit_same {K:PySem.W.Frag} {v:Value}:PySem.W.kitOne K v v=some true:=by unfold PySem.W.kitOne; simp


def GoodC (n:Nat) (x:V) (z:Str):Prop:=x=.str z∧IsC z∧z.length≤n
def BadC (K:PySem.W.Frag) (H:Hp) (n:Nat) (x:V):Prop:=(∃ z,x=.str z∧z.length≤1000∧¬ (IsC z∧z.length≤n))∨∃ ty,TyOf K H x ty∧PySem.W.kitOne K ty (.type "str")=some false
theorem BadC.up {K:PySem.W.Frag} {H H':Hp} {n:Nat} {x:V} (h:BadC K H n x) (s:Same H H'):BadC K H' n x:=h.imp id fun ⟨ty,h1,h2⟩=>⟨ty,TyOf.up s h1,h2⟩

def BadI (K:PySem.W.Frag) (H:Hp) (m:Int) (x:V):Prop:=(∃ i,x=.int i∧¬ (0≤i∧i≤m))∨NoInt K H x
theorem NoInt.up {K:PySem.W.Frag} {H H':Hp} {x:V} (h:NoInt K H x) (s:Same H H'):NoInt K H' x:=h.imp id fun ⟨ty,h1,h2⟩=>⟨ty,TyOf.up s h1,h2⟩
theorem BadI.up {K:PySem.W.Frag} {H H':Hp} {m:Int} {x:V} (h:BadI K H m x) (s:Same H H'):BadI K H' m x:=h.imp id fun b=>b.up s
def BadL (K:PySem.W.Frag) (H:Hp) (m:Int) (x:V):Prop:=(∃ i,x=.int i∧¬ ((0≤i∧i≤40)∧m≤i))∨NoInt K H x
def GoodP (n:Nat) (x:V):Prop:=∃ i:Int,x=.int i∧0≤i∧i < ((2 ^ n:Nat):Int)
def BadP (K:PySem.W.Frag) (H:Hp) (n:Nat) (x:V):Prop:=(∃ i,x=.int i∧¬ (0≤i∧i < ((2 ^ n:Nat):Int)))∨NoInt K H x
theorem BadP.up {K:PySem.W.Frag} {H H':Hp} {n:Nat} {x:V} (h:BadP K H n x) (s:Same H H'):BadP K H' n x:=h.imp id fun h=>h.up s
theorem iteNF {c A R:Prop} [Decidable c] (h:¬ c) (r:A):if (!decide c)=true then A else R:=by rw [decide_eq_false h]; exact r
theorem iteDF {c A R:Prop} [Decidable c] (h:¬ c) (r:R):if decide c=true then A else R:=by rw [decide_eq_false h]; exact r


section
variable {P:Program} {w:World} {K:PySem.W.Frag} {mg:Str→Option Value} {base:Heap} {CX:CXT} {f:Addr} {fd:FuncData}
abbrev s_need_level:Stmt:=top 22
theorem sc_need_level:FnScope ["level","least"] ["level","least"] (defScope s_need_level):=⟨rfl,rfl,rfl,by decide +kernel,rfl,by decide +kernel,by decide +kernel⟩
def sp_nlX (Y:Yx K mg):Sp:=fun vs H Q E=>∃ (x:V) (m:Int),vs=[x,.int m]∧((∃ l:Int,x=.int l∧(0≤l∧l≤40)∧m≤l∧Q .non H)∨(BadL K H m x∧E (.ref Y.c_NoLevel) none H))
theorem ok_need_level {dV:Value} (T:Tx K mg) (Y:Yx K mg) (q:Quiet (CXe P w)) (F:FunD K "need_level" "need_level" s_need_level f fd dV) (C_is_level:Fok P w K mg base (CXe P w) 2 "is_level" ["thing"] [] (gsp_upto K 40)):FnOk P w K mg base (CXe P w) 3 f fd ["level","least"] (sp_nlX Y):=by
  refine F.okX sc_need_level (fun vs H Q E h => ?_) (fun cdv A outer s H vs Q E hr h => ?_)
  · obtain ⟨_,_,rfl,_⟩:=h
    rfl
  obtain ⟨x,m,rfl,h⟩:=h
  refine ⟨_,(pss_one (ps_if (PW.pt (pw_or (pt_not (pt_val (pe_callF C_is_level q hr (pa_cons (pv 0) pa_nil)))) (pw_or1 (pt_cmpR op_lt (pv 0) (pv 1) (nomark _))))) (pss_one (ps_raise Y.x_NoLevel raisesE pe_str)) pss_nil)),?_⟩
  rcases h with ⟨l,rfl,hl,hm,q'⟩ | ⟨⟨i,rfl,hi⟩ | no,q'⟩
  · refine ⟨_,rfl,_,rfl,.inl ⟨l,rfl,?_⟩⟩
    rw [decide_eq_true hl]
    exact ⟨_,rfl,iteF ⟨_,rfl,_,rfl,_,_,rfl,rfl,_,rfl,iteDF (by omega) q'⟩⟩
  · refine ⟨_,rfl,_,rfl,.inl ⟨i,rfl,?_⟩⟩
    by_cases c:0≤i∧i≤40
    · rw [decide_eq_true c]
      exact ⟨_,rfl,iteF ⟨_,rfl,_,rfl,_,_,rfl,rfl,_,rfl,iteDT (by omega) q'⟩⟩
    · rw [decide_eq_false c]
      exact ⟨_,rfl,iteT q'⟩
  · exact ⟨_,rfl,_,rfl,.inr ⟨no,_,rfl,iteT q'⟩⟩
abbrev s_need_code_within:Stmt:=top 24
theorem sc_need_code_within:FnScope ["code","level"] ["code","level"] (defScope s_need_code_within):=⟨rfl,rfl,rfl,by decide +kernel,rfl,by decide +kernel,by decide +kernel⟩
def sp_cwX (Y:Yx K mg):Sp:=fun vs H Q E=>∃ (x:V) (n:Nat),vs=[x,.int n]∧n≤40∧((∃ z,GoodC n x z∧∀ H',Same H H'→Q .non H')∨(BadC K H n x∧∀ H',Same H H'→E (.ref Y.c_NoCode) none H'))
theorem ok_need_code_within (T:Tx K mg) (Y:Yx K mg) (q:Quiet (CXe P w)) (F:FunD K "need_code_within" "need_code_within" s_need_code_within f fd .none) (C_is_code:Fok P w K mg base (CXe P w) 1 "is_code" ["thing"] [] (gsp_is_code K)):FnOk P w K mg base (CXe P w) 2 f fd ["code","level"] (sp_cwX Y):=by
  refine F.okX sc_need_code_within (fun vs H Q E h => ?_) (fun cdv A outer s H vs Q E hr h => ?_)
  · obtain ⟨_,_,rfl,_⟩:=h
    rfl
  obtain ⟨x,n,rfl,hn,h⟩:=h
  refine ⟨_,(pss_one (ps_if (PW.pt (pw_or (pt_not (pt_val (pe_callF C_is_code q hr (pa_cons (pv 0) pa_nil)))) (pw_or1 (pt_cmpR op_gt (pe_callB call_len rfl T.b_len bb_len (pa_cons (pv 0) pa_nil)) (pv 1) (nomark _))))) (pss_one (ps_raise Y.x_NoCode raisesE pe_str)) pss_nil)),?_⟩
  rcases h with ⟨z,⟨rfl,hz,hl⟩,q'⟩ | ⟨⟨z,rfl,lz,hb⟩ | ⟨ty,h1,h2⟩,q'⟩
  · refine ⟨_,rfl,_,rfl,.inl ⟨z,rfl,by omega,fun H1 s1 => ?_⟩⟩
    rw [(cB_iff z).mpr ⟨by omega,hz⟩]
    refine ⟨_,rfl,iteF ?_⟩
    refine ⟨_,rfl,_,_,rfl,⟨small (by omega),rfl⟩,_,rfl,_,_,rfl,rfl,_,rfl,ite2 (fun c => ?_) (fun _=>q' H1 s1)⟩
    have c':(n:Int) < (z.length:Int):=of_decide_eq_true c
    omega
  · refine ⟨_,rfl,_,rfl,.inl ⟨z,rfl,lz,fun H1 s1 => ?_⟩⟩
    cases hcb:cB z with
    | false=>exact ⟨_,rfl,iteT (q' H1 s1)⟩
    | true =>
      refine ⟨_,rfl,iteF ?_⟩
      obtain ⟨l4,hz⟩:=(cB_iff z).mp hcb
      refine ⟨_,rfl,_,_,rfl,⟨small (by omega),rfl⟩,_,rfl,_,_,rfl,rfl,_,rfl,ite2 (fun _=>q' H1 s1) (fun c => ?_)⟩
      have c':¬ (n:Int) < (z.length:Int):=fun h=>c (decide_eq_true h)
      exact absurd ⟨hz,by omega⟩ hb
  · exact ⟨_,rfl,_,rfl,.inr ⟨⟨ty,h1,h2⟩,_,rfl,iteT (q' H (Same.refl H))⟩⟩
abbrev s_need_colour:Stmt:=top 25
theorem sc_need_colour:FnScope ["colour"] ["colour"] (defScope s_need_colour):=⟨rfl,rfl,rfl,by decide +kernel,rfl,by decide +kernel,by decide +kernel⟩
def sp_ncX (Y:Yx K mg):Sp:=fun vs H Q E=>∃ x:V,vs=[x]∧((∃ i:Int,x=.int i∧(0≤i∧i≤35)∧Q .non H)∨(BadI K H 35 x∧E (.ref Y.c_NoColour) none H))
theorem ok_need_colour (T:Tx K mg) (Y:Yx K mg) (q:Quiet (CXe P w)) (F:FunD K "need_colour" "need_colour" s_need_colour f fd .none) (C_is_colour:Fok P w K mg base (CXe P w) 2 "is_colour" ["thing"] [] (gsp_upto K 35)):FnOk P w K mg base (CXe P w) 3 f fd ["colour"] (sp_ncX Y):=by
  refine F.okX sc_need_colour (fun vs H Q E h => ?_) (fun cdv A outer s H vs Q E hr h => ?_)
  · obtain ⟨_,rfl,_⟩:=h
    rfl
  obtain ⟨x,rfl,h⟩:=h
  refine ⟨_,(pss_one (ps_if (pt_not (pt_val (pe_callF C_is_colour q hr (pa_cons (pv 0) pa_nil)))) (pss_one (ps_raise Y.x_NoColour raisesE pe_str)) pss_nil)),?_⟩
  rcases h with ⟨i,rfl,hi,q'⟩ | ⟨⟨i,rfl,hi⟩ | no,q'⟩
  · refine ⟨_,rfl,_,rfl,.inl ⟨i,rfl,?_⟩⟩
    rw [show decide (0≤i∧i≤35)=true from decide_eq_true hi]
    exact ⟨_,rfl,iteF q'⟩
  · refine ⟨_,rfl,_,rfl,.inl ⟨i,rfl,?_⟩⟩
    rw [show decide (0≤i∧i≤35)=false from decide_eq_false hi]
    exact ⟨_,rfl,iteT q'⟩
  · exact ⟨_,rfl,_,rfl,.inr ⟨no,_,rfl,iteT q'⟩⟩
abbrev s_need_place:Stmt:=top 28
theorem sc_need_place:FnScope ["x","y","level","wide","along"] ["x","y","level"] (defScope s_need_place):=⟨rfl,rfl,rfl,by decide +kernel,rfl,by decide +kernel,by decide +kernel⟩
def sp_npX (Y:Yx K mg):Sp:=fun vs H Q E=>∃ (x y:V) (n:Nat),vs=[x,y,.int n]∧n≤40∧((GoodP n x∧GoodP n y∧∀ H',Same H H'→Q .non H')∨((BadP K H n x∨(GoodP n x∧BadP K H n y))∧∀ H',Same H H'→E (.ref Y.c_NoPlace) none H'))
theorem ok_need_place (T:Tx K mg) (Y:Yx K mg) (q:Quiet (CXe P w)) (F:FunD K "need_place" "need_place" s_need_place f fd .none) (C_width_of:Fok P w K mg base (CXe P w) 1 "width_of" ["level"] [] sp_width_of) (C_is_whole:Fok P w K mg base (CXe P w) 1 "is_whole" ["thing"] [] (sp_is_whole K)) :
    FnOk P w K mg base (CXe P w) 2 f fd ["x","y","level"] (sp_npX Y):=by
  refine F.okX sc_need_place (fun vs H Q E h => ?_) (fun cdv A outer s H vs Q E hr h => ?_)
  · obtain ⟨_,_,_,rfl,_⟩:=h
    rfl
  obtain ⟨x,y,n,rfl,hn,h⟩:=h
  refine ⟨_,(pss_cons (ps_set (i:=3) sc_need_place.nd rfl (Or.inl rfl) (pe_callF C_width_of q hr (pa_cons (pv 2) pa_nil))) (pss_one (ps_for PassesOwn.leaving rfl (pi_tup (pe_tupx (pax_c (pv 0) (pax_c (pv 1) pax_nil)))) (pg_name (i:=4) sc_need_place.nd rfl (Or.inl rfl)) (pss_one (ps_if (PW.pt (pw_or (pt_not (pt_val (pe_callF C_is_whole q hr (pa_cons (pv 4) pa_nil)))) (pw_or1 (pt_not (pt_chain op_le op_lt pe_int (pv 4) (pv 3)))))) (pss_one (ps_raise Y.x_NoPlace raisesE pe_str)) pss_nil))))),?_⟩
  refine ⟨_,rfl,n,rfl,by omega,?_⟩
  rcases h with ⟨gx,gy,q'⟩ | ⟨hx,q'⟩
  · refine ⟨_,rfl,_,rfl,(by show 2≤sizeLine; decide),fun p hp=>⟨p,rfl,⟨_,SqT.of upd_same⟩,for_tup (xs:=[x,y]) (fun i σ H2=>H2=upd H p (.tup [x,y])∧∃ v,σ=[some x,some y,some (.int n),some (.int ((2 ^ n:Nat):Int)),v]) ⟨rfl,none,rfl⟩ (fun i σ H2 _ h2=>by rw [h2.1]; exact SqT.of upd_same) ?_ ?_⟩⟩
    · rintro i u σ H2 hu ⟨rfl,v,rfl⟩
      obtain ⟨a,rfl,ha⟩:GoodP n u:=by
        rcases i with _ | _ | i
        · rw [← Option.some.inj hu]; exact gx
        · rw [← Option.some.inj hu]; exact gy
        · cases hu
      refine ⟨_,rfl,_,rfl,.inl ⟨a,rfl,_,rfl,iteF ?_⟩⟩
      refine ⟨_,rfl,_,_,rfl,rfl,_,rfl,ite2 (fun _ => ?_) (fun c=>absurd (decide_eq_true ha.1) c)⟩
      exact ⟨_,rfl,_,_,rfl,rfl,_,rfl,iteNS ha.2 ⟨rfl,_,rfl⟩⟩
    · rintro σ H2 ⟨rfl,v,rfl⟩
      exact q' _ (Same.new hp _)
  refine ⟨_,rfl,_,rfl,(by show 2≤sizeLine; decide),fun p hp=>⟨p,rfl,⟨_,SqT.of upd_same⟩,for_tup (xs:=[x,y]) (fun i σ H2=>(i=0∨(i=1∧GoodP n x∧BadP K H n y))∧H2=upd H p (.tup [x,y])∧∃ v,σ=[some x,some y,some (.int n),some (.int ((2 ^ n:Nat):Int)),v]) ⟨.inl rfl,rfl,none,rfl⟩ (fun i σ H2 _ h2=>by rw [h2.2.1]; exact SqT.of upd_same) ?_ ?_⟩⟩
  · rintro i u σ H2 hu ⟨hi,rfl,v,rfl⟩
    have sm:=Same.new hp (.tup [x,y])
    have bad:∀ u,BadP K H n u→BadP K (upd H p (.tup [x,y])) n u:=fun u h=>h.up sm
    have key:(GoodP n u∧i=0∧GoodP n x∧BadP K H n y)∨BadP K H n u:=by
      rcases hi with rfl | ⟨rfl,gx,by'⟩
      · have e:x=u:=Option.some.inj hu
        subst e
        rcases hx with hx | ⟨hx,hy⟩
        · exact .inr hx
        · exact .inl ⟨hx,rfl,hx,hy⟩
      · have e:y=u:=Option.some.inj hu
        subst e
        exact .inr by'
    rcases key with ⟨⟨a,rfl,h0,h1⟩,rfl,gx,by'⟩ | hb
    · refine ⟨_,rfl,_,rfl,.inl ⟨a,rfl,_,rfl,iteF ?_⟩⟩
      refine ⟨_,rfl,_,_,rfl,rfl,_,rfl,ite2 (fun _ => ?_) (fun c=>absurd (decide_eq_true h0) c)⟩
      exact ⟨_,rfl,_,_,rfl,rfl,_,rfl,iteNS h1 ⟨.inr ⟨rfl,gx,by'⟩,rfl,_,rfl⟩⟩
    · rcases bad u hb with ⟨a,rfl,ha⟩ | ⟨b,rfl⟩ | ⟨t,ty,hk⟩
      · refine ⟨_,rfl,_,rfl,.inl ⟨a,rfl,_,rfl,iteF ?_⟩⟩
        refine ⟨_,rfl,_,_,rfl,rfl,_,rfl,ite2 (fun c => ?_) (fun c => ?_)⟩
        · have c':(0:Int)≤a:=of_decide_eq_true c
          exact ⟨_,rfl,_,_,rfl,rfl,_,rfl,iteNF (by omega) (q' _ sm)⟩
        · exact ⟨_,rfl,iteT (q' _ sm)⟩
      · exact ⟨_,rfl,_,rfl,.inr (.inl ⟨b,rfl,_,rfl,iteT (q' _ sm)⟩)⟩
      · exact ⟨_,rfl,_,rfl,.inr (.inr ⟨t,ty,hk,_,rfl,iteT (q' _ sm)⟩)⟩
  · rintro σ H2 ⟨hi,rfl,v,rfl⟩
    rcases hi with hi | ⟨hi,_⟩ <;> cases hi
abbrev s_code_at:Stmt:=top 29
theorem sc_code_at:FnScope ["x","y","level","code","step"] ["x","y","level"] (defScope s_code_at):=⟨rfl,rfl,rfl,by decide +kernel,rfl,by decide +kernel,by decide +kernel⟩
def sp_code_atX (Y:Yx K mg):Sp:=fun vs H Q E=>∃ (x y:V) (n:Nat),vs=[x,y,.int (n:Int)]∧n≤40∧((∃ i j:Nat,x=.int (i:Int)∧y=.int (j:Int)∧i < 2 ^ n∧j < 2 ^ n∧∀ H',Same H H'→Q (.str (txt (low n i j))) H')∨((BadP K H n x∨(GoodP n x∧BadP K H n y))∧∀ H',Same H H'→E (.ref Y.c_NoPlace) none H'))
theorem ok_code_at (T:Tx K mg) (Y:Yx K mg) (q:Quiet (CXe P w)) (F:FunD K "code_at" "code_at" s_code_at f fd .none) (C_need_level_1:Fok P w K mg base (CXe P w) 3 "need_level" ["level","least"] [.int 0] (sp_nlX Y)) (C_need_place:Fok P w K mg base (CXe P w) 2 "need_place" ["x","y","level"] [] (sp_npX Y)) :
    FnOk P w K mg base (CXe P w) 4 f fd ["x","y","level"] (sp_code_atX Y):=by
  refine F.okX sc_code_at (fun vs H Q E h => ?_) (fun cdv A outer s H vs Q E hr h => ?_)
  · obtain ⟨_,_,_,rfl,_⟩:=h
    rfl
  obtain ⟨xv,yv,n,rfl,hn,h⟩:=h
  refine ⟨_,(pss_cons (ps_expr (pe_callX C_need_level_1 hr passE (pa_cons (pv 2) pa_nil))) (pss_cons (ps_expr (pe_callX C_need_place hr passE (pa_cons (pv 0) (pa_cons (pv 1) (pa_cons (pv 2) pa_nil))))) (pss_cons (ps_set (i:=3) sc_code_at.nd rfl (Or.inl rfl) pe_str) (pss_cons (ps_for PassesOwn.leaving rfl (pi_range1 rfl T.b_range (pa_cons (pv 2) pa_nil)) (pg_name (i:=4) sc_code_at.nd rfl (Or.inl rfl)) (pss_cons (ps_set (i:=3) sc_code_at.nd rfl (Or.inl rfl) (pe_op op_add_str (pe_callTy call_str_int rfl T.b_str bt_str (pa_cons (pe_op op_add (pe_op op_mul (pe_op op_mod (pv 1) pe_int) pe_int) (pe_op op_mod (pv 0) pe_int)) pa_nil)) (pv 3))) (pss_cons (ps_set (i:=0) sc_code_at.nd rfl (Or.inl rfl) (pe_op op_fdivW (pv 0) pe_int)) (pss_one (ps_set (i:=1) sc_code_at.nd rfl (Or.inl rfl) (pe_op op_fdivW (pv 1) pe_int)))))) (pss_one (ps_ret (pv 3))))))),?_⟩
  refine ⟨_,rfl,_,0,rfl,.inl ⟨(n:Int),rfl,⟨by omega,by omega⟩,by omega,?_⟩⟩
  rcases h with ⟨x,y,rfl,rfl,hx,hy,q'⟩ | ⟨bp,q'⟩
  rotate_left
  · exact ⟨_,rfl,_,rfl,_,rfl,xv,yv,n,rfl,hn,.inr ⟨bp,q'⟩⟩
  refine ⟨_,rfl,_,rfl,_,rfl,_,_,n,rfl,hn,.inl ⟨⟨(x:Int),rfl,by omega,by omega⟩,⟨(y:Int),rfl,by omega,by omega⟩,fun H1 s1 => ?_⟩⟩
  refine ⟨_,rfl,_,rfl,by omega,by omega,for_range (fun i σ H2=>H2=H1∧∃ z a b v,z=txt (low i x y)∧a=((x / 2 ^ i:Nat):Int)∧b=((y / 2 ^ i:Nat):Int)∧σ=[some (.int a),some (.int b),some (.int n),some (.str z),v]) ⟨rfl,_,_,_,none,empty_eq,by simp,by simp,rfl⟩ ?_ ?_⟩
  · rintro i σ H2 hi ⟨rfl,z,a,b,v,rfl,rfl,rfl,rfl⟩
    have hi':i < n:=by omega
    have ed:((y / 2 ^ i:Nat):Int) % 2 * 2 + ((x / 2 ^ i:Nat):Int) % 2=((dgt x y i:Nat):Int):=by
      unfold dgt
      generalize x / 2 ^ i=a
      generalize y / 2 ^ i=b
      omega
    have hd:=dgt_lt x y i
    have lg:((dgt x y i:Nat):Int).natAbs.log2 < 1920:=by
      rw [Int.natAbs_natCast]
      exact four (P:=fun d=>d.log2 < 1920) (by decide +kernel) (by decide +kernel) (by decide +kernel) (by decide +kernel) hd
    refine ⟨_,rfl,_,_,rfl,rfl,(by show (0:Int) < 2; decide),_,_,rfl,rfl,.inr ⟨by decide,by decide⟩,_,rfl,_,_,rfl,rfl,(by show (0:Int) < 2; decide),_,_,rfl,rfl,((dgt x y i:Nat):Int),(by show [V.int _]=[V.int _]; rw [ed]),lg,?_⟩
    rw [str_one hd]
    refine ⟨_,rfl,_,_,rfl,rfl,small (by rw [txt_len,low_len]; show 1 + i≤1000; omega),?_⟩
    refine ⟨_,rfl,_,_,rfl,rfl,cdivW (by decide) (by decide),_,rfl,_,_,rfl,rfl,cdivW (by decide) (by decide),rfl,_,_,_,_,?_,?_,?_,rfl⟩
    · rw [one_txt,low_succ]
    · rw [← div_two]; rfl
    · rw [← div_two]; rfl
  · rintro σ H2 ⟨rfl,z,a,b,v,rfl,rfl,rfl,rfl⟩
    have e:((n:Int)).toNat=n:=Int.toNat_natCast n
    refine ⟨_,rfl,?_⟩
    rw [e]
    exact q' _ s1
end
end Qs
namespace Qs
open PySem L2
section
variable {P:Program} {w:World} {K:PySem.W.Frag} {mg:Str→Option Value} {base:Heap} {CX:CXT} {f:Addr} {fd:FuncData}
abbrev s_need_code:Stmt:=top 23
theorem sc_need_code:FnScope ["code"] ["code"] (defScope s_need_code):=⟨rfl,rfl,rfl,by decide +kernel,rfl,by decide +kernel,by decide +kernel⟩
def sp_need_code:Sp:=fun vs H Q _=>∃ z,vs=[.str z]∧IsC z∧z.length≤40∧∀ H',Same H H'→Q .non H'
theorem ok_need_code (T:Tx K mg) (q:Quiet CX) (F:FunD K "need_code" "need_code" s_need_code f fd .none) (C_is_code:Fok P w K mg base CX 1 "is_code" ["thing"] [] (gsp_is_code K)):FnOk P w K mg base CX 2 f fd ["code"] sp_need_code:=by
  refine F.ok sc_need_code (fun vs H Q E h => ?_) (fun cdv A outer s H vs Q E hr h => ?_)
  · obtain ⟨x,rfl,_⟩:=h
    rfl
  obtain ⟨z,rfl,hz,hl,q'⟩:=h
  refine ⟨_,(pss_one (ps_if (pt_not (pt_val (pe_callF C_is_code q hr (pa_cons (pv 0) pa_nil)))) (pss_one ps_never) pss_nil)),?_⟩
  refine ⟨_,rfl,_,rfl,.inl ⟨z,rfl,by omega,fun H' sm => ?_⟩⟩
  rw [(cB_iff z).mpr ⟨hl,hz⟩]
  exact ⟨_,rfl,iteF (q' H' sm)⟩
abbrev s_is_of_one_colour:Stmt:=top 32
theorem sc_is_of_one_colour:FnScope ["parts","first"] ["parts"] (defScope s_is_of_one_colour):=⟨rfl,rfl,rfl,by decide +kernel,rfl,by decide +kernel,by decide +kernel⟩
def sp_is_one:Sp:=fun vs H Q _=>∃ (l:Addr) (a b c d:V) (ta tb tc td:Tr),vs=[.ref l]∧H l=some (.lst [a,b,c,d])∧TrAt H a ta∧TrAt H b tb∧TrAt H c tc∧TrAt H d td ∧
  (ta.deep≤60∧tb.deep≤60∧tc.deep≤60∧td.deep≤60)∧∀ H',Same H H'→Q (.bl (oneB ta tb tc td)) H'
theorem ok_is_of_one_colour (T:Tx K mg) (F:FunD K "is_of_one_colour" "is_of_one_colour" s_is_of_one_colour f fd .none):FnOk P w K mg base CX 1 f fd ["parts"] sp_is_one:=by
  refine F.ok sc_is_of_one_colour (fun vs H Q E h => ?_) (fun cdv A outer s H vs Q E hr h => ?_)
  · obtain ⟨_,_,_,_,_,_,_,_,_,rfl,_⟩:=h
    rfl
  obtain ⟨l,a,b,c,d,ta,tb,tc,td,rfl,hl,ha,hb,hc,hd,⟨da,db,dc,dd⟩,q'⟩:=h
  refine ⟨_,(pss_cons (ps_set (i:=1) sc_is_of_one_colour.nd rfl (Or.inr rfl) (pe_ix ix_list (pv 0) pe_int (fun _ _=>rfl))) (pss_cons (ps_if (pt_val (pe_callB (call_isiT "tuple") rfl T.b_isinstance bb_isinstance (pa_cons (pv 1) (pa_cons (pe_bty T.b_tuple bt_tuple) pa_nil)))) (pss_one (ps_ret pe_bl)) pss_nil) (pss_one (ps_ret (pe_callB (call_all rfl) rfl T.b_all bb_all (pa_cons (pe_compC (N':=["part","first"]) ["first"] ["first"] [1] 1 (by with_unfolding_all rfl) rfl (capsOk_cons rfl rfl (by decide) capsOk_nil) rfl rfl (by decide) rfl (by decide +kernel) rfl (by decide +kernel) rfl (pi_list (pv 0)) (fun C s0 H0 fp pins=>(pg_name (i:=0) (show (["part","first"]:List Str).Nodup by decide +kernel) rfl (Or.inl rfl) (Or.inr rfl))) (fun C s0 H0 fp pins=>(pe_cmpR (op_eqD hr) (pv 0) (pv 1) (nomark _)))) pa_nil)))))),?_⟩
  refine ⟨_,rfl,l,_,_,a,rfl,rfl,SqL.of hl,rfl,?_⟩
  cases ha with
  | four e =>
    refine ⟨_,rfl,_,_,_,rfl,.tup e,kit_tt,_,rfl,iteT ?_⟩
    exact q' H (Same.refl H)
  | col i =>
    refine ⟨_,rfl,_,_,_,rfl,.int i,kit_it,_,rfl,iteF ?_⟩
    have full:∃ bs:List Bool,bs=[decide (Tr.col i=Tr.col i),decide (tb=.col i),decide (tc=.col i),decide (td=.col i)]:=⟨_,rfl⟩
    obtain ⟨bs,ebs⟩:=full
    have hi:TrAt H (.int i) (.col i):=.col i
    refine ⟨[.int i],rfl,_,rfl,l,rfl,⟨_,SqL.of hl⟩,compC_list [.int i,b,c,d] (fun D j ys H'=>Same H H'∧H' D=some (.lst ys)∧j≤4∧ys=(bs.take j).map V.bl) (by show 4≤sizeLine; decide) (fun D j ys H' h=>SqL.of (h.1 _ _ hl))
      (fun D j ys H' h=>⟨h.2.1,by rw [h.2.2.2]; simp; omega⟩) (fun D hD=>⟨Same.new hD _,upd_same,by decide,rfl⟩) ?_ ?_ (fun _ _ _ _ _ k h=>k _ _ h) ?_⟩
    · rintro D j x ys H' hx hD ⟨s1,s2,s3,s4⟩
      have key:∃ tx,TrAt H x tx∧tx.deep≤60∧bs[j]? = some (decide (tx=.col i)):=by
        rcases at4 hx with ⟨rfl,rfl⟩ | ⟨rfl,rfl⟩ | ⟨rfl,rfl⟩ | ⟨rfl,rfl⟩
        · exact ⟨_,hi,Nat.zero_le _,by rw [ebs]; rfl⟩
        · exact ⟨_,hb,db,by rw [ebs]; rfl⟩
        · exact ⟨_,hc,dc,by rw [ebs]; rfl⟩
        · exact ⟨_,hd,dd,by rw [ebs]; rfl⟩
      obtain ⟨tx,htx,dx,ex⟩:=key
      refine ⟨rfl,_,rfl,_,rfl,tx.data,(Tr.col i).data,(htx.up s1.tups).dat,.int i,Tr.shaped (by omega),Tr.shaped (Nat.zero_le _),s2,Same.set s1 hD _,upd_same,?_,?_⟩
      · have:=(List.getElem?_eq_some_iff.mp hx).1
        exact this
      · rw [Tr.eqv,List.take_add_one,ex,s4,List.map_append]; rfl
    · rintro D ys H' hD ⟨s1,s2,s3,s4⟩
      refine ⟨D,bs,rfl,SqL.of (by rw [s2,s4]; congr 2; rw [ebs]; rfl),?_⟩
      have e:bs.all id=oneB (.col i) tb tc td:=by rw [ebs]; rfl
      rw [e]
      exact q' H' s1
    · intro σ H' R R' k h
      obtain ⟨x1,e1,x2,e2,d1,d2,p1,p2,p3,p4,h⟩:=h
      exact ⟨x1,e1,x2,e2,d1,d2,p1,p2,p3,p4,k _ _ h⟩
abbrev s_gathered:Stmt:=top 33
theorem sc_gathered:FnScope ["parts"] ["parts"] (defScope s_gathered):=⟨rfl,rfl,rfl,by decide +kernel,rfl,by decide +kernel,by decide +kernel⟩
def sp_gathered:Sp:=fun vs H Q _=>∃ (l:Addr) (a b c d:V) (ta tb tc td:Tr),vs=[.ref l]∧H l=some (.lst [a,b,c,d])∧TrAt H a ta∧TrAt H b tb∧TrAt H c tc∧TrAt H d td ∧
  (ta.deep≤60∧tb.deep≤60∧tc.deep≤60∧td.deep≤60)∧∀ v H',Same H H'→TrAt H' v (gath ta tb tc td)→Q v H'
theorem ok_gathered (T:Tx K mg) (q:Quiet CX) (F:FunD K "gathered" "gathered" s_gathered f fd .none) (C_is_of_one_colour:Fok P w K mg base CX 1 "is_of_one_colour" ["parts"] [] sp_is_one):FnOk P w K mg base CX 2 f fd ["parts"] sp_gathered:=by
  refine F.ok sc_gathered (fun vs H Q E h => ?_) (fun cdv A outer s H vs Q E hr h => ?_)
  · obtain ⟨_,_,_,_,_,_,_,_,_,rfl,_⟩:=h
    rfl
  obtain ⟨l,a,b,c,d,ta,tb,tc,td,rfl,hl,ha,hb,hc,hd,dp,q'⟩:=h
  refine ⟨_,(pss_cons (ps_if (pt_val (pe_callF C_is_of_one_colour q hr (pa_cons (pv 0) pa_nil))) (pss_one (ps_ret (pe_ix ix_list (pv 0) pe_int (fun _ _=>rfl)))) pss_nil) (pss_one (ps_ret (pe_callTy call_tuple_of rfl T.b_tuple bt_tuple (pa_cons (pv 0) pa_nil))))),?_⟩
  refine ⟨_,rfl,l,a,b,c,d,ta,tb,tc,td,rfl,hl,ha,hb,hc,hd,dp,fun H1 s1=>⟨_,rfl,ite2 (fun e => ?_) (fun e => ?_)⟩⟩
  · refine ⟨_,rfl,l,_,_,a,rfl,rfl,SqL.of (s1 _ _ hl),rfl,q' a H1 s1 ?_⟩
    unfold gath
    rw [if_pos e]
    exact ha.up s1.tups
  · refine ⟨_,rfl,l,_,rfl,.inl ⟨SqL.of (s1 _ _ hl),fun p hp=>q' _ _ (s1.trans (Same.new hp _)) ?_⟩⟩
    unfold gath
    rw [if_neg e]
    have s2:=(s1.trans (Same.new hp (.tup [a,b,c,d]))).tups
    exact .four upd_same (ha.up s2) (hb.up s2) (hc.up s2) (hd.up s2)
end
end Qs


namespace Qs
open PySem L2

def suf (z:Str) (k:Nat):Str:=⟨(z.cps.toList.drop k).toArray⟩
theorem slice_suf {z:Str} {k:Nat} (h:k≤z.length):Txt.slice z (some (k:Int)) none=suf z k:=by
  have e:=PyProof.Rows.slice_closes_from (x:=z) (i:=(k:Int)) ⟨by omega,by rw [← len_eq]; omega⟩
  rw [beq_iff_eq] at e
  rw [e]
  unfold suf
  congr 2
  rw [Int.toNat_natCast,List.take_of_length_le]
  rw [List.length_drop,← len_eq]; omega
theorem suf_len (z:Str) (k:Nat):(suf z k).length=z.length - k:=by rw [len_eq,len_eq]; simp [suf]
theorem suf_isC {z:Str} (h:IsC z) (k:Nat):IsC (suf z k):=fun c hc=>h c (by
  have hc':c∈z.cps.toList.drop k:=by simpa [suf] using hc
  exact List.mem_of_mem_drop hc')
end Qs
namespace Qs
open PySem L2
theorem slice_suf' (z:Str) (k:Nat):Txt.slice z (some (k:Int)) none=suf z k:=by
  by_cases h:k≤z.length
  · exact slice_suf h
  · have e:Builtin.Str.strSliceIndices (some (k:Int)) none 1 z.length=[]:=by
      unfold Builtin.Str.strSliceIndices
      dsimp only
      unfold sliceRange
      have h1:¬ (k:Int) < 0:=by omega
      have h2:max (0:Int) (min (k:Int) (z.length:Int))=(z.length:Int):=by omega
      simp only [show (1:Int) > 0 by decide,if_true,h1,if_false,h2]
      rw [if_neg (by omega)]
      first | rfl | simp
    unfold Txt.slice
    rw [e]
    refine str_ext ?_
    unfold suf
    rw [List.drop_of_length_le (by rw [← len_eq]; omega)]
    by_cases h0:z.length=0
    · rw [str_eq_nil.mpr h0]; decide +kernel
    · first | rw [if_neg (by simp; omega)] | skip
      first | rfl | simp
end Qs
namespace Qs
open PySem L2
def cell (ns:List Int) (k:Nat):Int:=(ns[k]?).getD 0
theorem ones (ds:List Nat):((ds.map one).map (·.length)).sum=ds.length:=by
  induction ds with
  | nil=>rfl
  | cons d r ih =>
    rw [List.map_cons,List.map_cons,List.sum_cons,ih,List.length_cons]
    show 1 + _=_
    omega

def signsOf (ds:List Nat):List V:=ds.map fun d=>V.str (one d)
section
variable {P:Program} {w:World} {K:PySem.W.Frag} {mg:Str→Option Value} {base:Heap} {CX:CXT} {f:Addr} {fd:FuncData}
abbrev s_law_at:Stmt:=top 40
theorem sc_law_at:FnScope ["_law_script","_law_k"] ["_law_script","_law_k"] (defScope s_law_at):=⟨rfl,rfl,rfl,by decide +kernel,rfl,by decide +kernel,by decide +kernel⟩
def sp_law_at (K:PySem.W.Frag):Sp:=fun vs H Q _=>∃ (a:Addr) (ns:List Int) (k:Nat),vs=[.ref a,.int k]∧SqL K H a (ns.map V.int)∧ns.length≤63∧Q (.int (cell ns k)) H
theorem ok_law_at (T:Tx K mg) (F:FunD K "_law_at" "_law_at" s_law_at f fd .none):FnOk P w K mg base CX 1 f fd ["_law_script","_law_k"] (sp_law_at K):=by
  refine F.ok sc_law_at (fun vs H Q E h => ?_) (fun cdv A outer s H vs Q E hr h => ?_)
  · obtain ⟨_,_,_,rfl,_⟩:=h
    rfl
  obtain ⟨a,ns,k,rfl,hS,hl,q'⟩:=h
  refine ⟨_,(pss_cons (ps_if (pt_cmpR op_lt (pv 1) (pe_callB call_len rfl T.b_len bb_len (pa_cons (pv 0) pa_nil)) (nomark _)) (pss_one (ps_ret (pe_ix ix_list (pv 0) (pv 1) (fun _ _=>rfl)))) pss_nil) (pss_one (ps_ret pe_int))),?_⟩
  refine ⟨_,rfl,_,rfl,_,_,rfl,.inl ⟨_,hS,rfl⟩,_,_,rfl,rfl,_,rfl,ite2 (fun c => ?_) (fun c => ?_)⟩
  · have c':(k:Int) < (((ns.map V.int).length:Nat):Int):=of_decide_eq_true c
    rw [List.length_map] at c'
    have hk:k < ns.length:=by omega
    have e:(ns.map V.int)[k]? = some (.int (cell ns k)):=by simp [cell,hk]
    exact ⟨_,rfl,_,rfl,a,_,_,_,rfl,rfl,hS,atI_nat e,q'⟩
  · have c':¬ (k:Int) < (((ns.map V.int).length:Nat):Int):=fun z=>c (decide_eq_true z)
    rw [List.length_map] at c'
    have e:cell ns k=0:=by
      have:ns[k]? = none:=List.getElem?_eq_none (by omega)
      simp [cell,this]
    rw [e] at q'
    exact q'
abbrev s_law_code:Stmt:=top 41
theorem sc_law_code:FnScope ["_law_cell","_law_size","_law_signs","_law_rest","_law_k"] ["_law_cell","_law_size"] (defScope s_law_code):=⟨rfl,rfl,rfl,by decide +kernel,rfl,by decide +kernel,by decide +kernel⟩
def sp_law_code:Sp:=fun vs H Q _=>∃ (c:Int) (n:Nat),vs=[.int c,.int n]∧n≤64∧∀ ds H',ds.length=n→(∀ d∈ds,d < 4)→Same H H'→Q (.str (txt ds)) H'
theorem signs_len (ds:List Nat):(signsOf ds).length=ds.length:=List.length_map _
theorem ok_law_code (T:Tx K mg) (F:FunD K "_law_code" "_law_code" s_law_code f fd .none):FnOk P w K mg base CX 1 f fd ["_law_cell","_law_size"] sp_law_code:=by
  refine F.ok sc_law_code (fun vs H Q E h => ?_) (fun cdv A outer s H vs Q E hr h => ?_)
  · obtain ⟨_,_,rfl,_⟩:=h
    rfl
  obtain ⟨c,n,rfl,hn,q'⟩:=h
  refine ⟨_,(pss_cons (ps_set (i:=2) sc_law_code.nd rfl (Or.inl rfl) (pe_lstx pax_nil)) (pss_cons (ps_set (i:=3) sc_law_code.nd rfl (Or.inl rfl) (pv 0)) (pss_cons (ps_for PassesOwn.never rfl (pi_range1 rfl T.b_range (pa_cons (pv 1) pa_nil)) (pg_name (i:=4) sc_law_code.nd rfl (Or.inl rfl)) (pss_cons (ps_expr (pe_bm PySem.F.plainAttrs_list PySem.F.slot_list_append PySem.F.type_list_append mt_append (pv 2) (pa_cons (pe_ix ix_str pe_str (pe_op op_mod (pe_op op_add (pv 3) (pe_op op_mul (pv 4) (pe_op op_mod (pv 0) pe_int))) pe_int) (fun _ _=>rfl)) pa_nil))) (pss_one (ps_set (i:=3) sc_law_code.nd rfl (Or.inl rfl) (pe_op op_fdivW (pv 3) pe_int))))) (pss_one (ps_ret (pe_bm PySem.F.plainAttrs_str PySem.F.slot_str_join PySem.F.type_str_join mt_join pe_str (pa_cons (pv 2) pa_nil))))))),?_⟩
  refine ⟨(by show 0≤sizeLine; decide),fun l hl => ?_⟩
  refine ⟨_,rfl,?_⟩
  refine ⟨_,rfl,_,rfl,by omega,by omega,for_range (fun i σ H2=>∃ (ds:List Nat) (rest:Int) (v:Option V),ds.length=i∧(∀ d∈ds,d < 4)∧σ=[some (.int c),some (.int n),some (.ref l),some (.int rest),v]∧H2=upd H l (.lst (signsOf ds)))
    ⟨[],c,none,rfl,(fun _ z=>by cases z),rfl,rfl⟩ ?_ ?_⟩
  · rintro i σ H2 hi ⟨ds,rest,v,hds,h4,rfl,rfl⟩
    obtain ⟨d,hd,ed⟩:=four_of (rest + (0 + (i:Int)) * (c % 5))
    refine ⟨_,rfl,.inl ⟨rfl,_,SqL.of upd_same⟩,?_⟩
    refine ⟨_,rfl,_,rfl,_,rfl,_,_,rfl,rfl,(by show (0:Int) < 5; decide),_,_,rfl,rfl,.inl ⟨by omega,by omega⟩,_,_,rfl,rfl,_,_,rfl,rfl,(by show (0:Int) < 4; decide),_,_,48 + d,rfl,rfl,q_len,by rw [ed]; exact at_q hd,?_⟩
    refine ⟨l,signsOf ds,_,rfl,rfl,upd_same,small1000 (by rw [signs_len]; omega),?_⟩
    refine ⟨_,rfl,_,_,rfl,rfl,cdivW (by decide) (by decide),?_⟩
    refine ⟨ds++[d],_,_,by rw [List.length_append,hds]; rfl,fun e he => ?_,rfl,?_⟩
    · rcases List.mem_append.mp he with he | he
      · exact h4 e he
      · rw [List.mem_singleton.mp he]; exact hd
    · rw [upd_upd]
      unfold signsOf
      rw [List.map_append]
      rfl
  · rintro σ H2 ⟨ds,rest,v,hds,h4,rfl,rfl⟩
    have hds':ds.length=n:=by rw [hds]; exact Int.toNat_natCast n
    refine ⟨rfl,_,rfl,("" : Str),l,ds.map one,rfl,rfl,SqL.of (by rw [upd_same]; unfold signsOf; simp [List.map_map]; try rfl),?_,?_⟩
    · have e0:("" : Str).length=0:=by decide +kernel
      have e1:=ones ds
      rw [e0,e1]; omega
    · rw [join_one]
      exact q' ds _ hds' h4 (Same.new hl _)
end
end Qs
namespace Qs
open PySem L2

def PaAt (H:Hp) (u:V) (n:Nat):Prop:=∃ p z c,u=.ref p∧H p=some (.tup [.str z,.int c])∧IsC z∧z.length≤n∧0≤c∧c≤35
theorem PaAt.up {H H':Hp} {u:V} {n:Nat} (h:PaAt H u n) (s:Tups H H'):PaAt H' u n:=by
  obtain ⟨p,z,c,e,hp,h⟩:=h
  exact ⟨p,z,c,e,s _ _ hp,h⟩
theorem rng12 {M:Int} (h0:0≤M) (h1:M≤63):∃ n:Nat,Builtin.Range.small 1 M 2=true∧Builtin.Range.rangeSize 1 M 2=(n:Int)∧n≤31:=by
  have e:∀ m:Nat,m < 64→Builtin.Range.small 1 (m:Int) 2=true∧Builtin.Range.rangeSize 1 (m:Int) 2=((m / 2:Nat):Int):=by decide +kernel
  obtain ⟨m,rfl⟩:∃ m:Nat,M=(m:Int):=⟨M.toNat,by omega⟩
  obtain ⟨e1,e2⟩:=e m (by omega)
  exact ⟨m / 2,e1,e2,by omega⟩
section
variable {P:Program} {w:World} {K:PySem.W.Frag} {mg:Str→Option Value} {base:Heap} {CX:CXT} {f:Addr} {fd:FuncData}
abbrev s_law_colour:Stmt:=top 43
theorem sc_law_colour:FnScope ["_law_cell"] ["_law_cell"] (defScope s_law_colour):=⟨rfl,rfl,rfl,by decide +kernel,rfl,by decide +kernel,by decide +kernel⟩
def sp_law_colour:Sp:=fun vs H Q _=>∃ c:Int,vs=[.int c]∧∀ i:Int,0≤i→i≤35→Q (.int i) H
theorem ok_law_colour (T:Tx K mg) (F:FunD K "_law_colour" "_law_colour" s_law_colour f fd .none):FnOk P w K mg base CX 1 f fd ["_law_cell"] sp_law_colour:=by
  refine F.ok sc_law_colour (fun vs H Q E h => ?_) (fun cdv A outer s H vs Q E hr h => ?_)
  · obtain ⟨_,rfl,_⟩:=h
    rfl
  obtain ⟨c,rfl,q'⟩:=h
  refine ⟨_,(pss_cons (ps_if (pt_cmpR op_lt (pe_op op_mod (pv 0) pe_int) pe_int (nomark _)) (pss_one (ps_ret (pe_op op_mod (pe_op op_fdivW (pv 0) pe_int) pe_int))) pss_nil) (pss_one (ps_ret (pe_op op_mod (pe_op op_fdivW (pv 0) pe_int) pe_int)))),?_⟩
  refine ⟨_,rfl,_,_,rfl,rfl,(by show (0:Int) < 3; decide),_,_,rfl,rfl,_,rfl,ite2 (fun _ => ?_) (fun _ => ?_)⟩
  · exact ⟨_,rfl,_,_,rfl,rfl,cdivW (by decide) (by decide),_,_,rfl,rfl,(by show (0:Int) < 2; decide),q' _ (by show 0≤c / 3 % 2; omega) (by show c / 3 % 2≤35; omega)⟩
  · exact ⟨_,rfl,_,_,rfl,rfl,cdivW (by decide) (by decide),_,_,rfl,rfl,(by show (0:Int) < 36; decide),q' _ (by show 0≤c / 3 % 36; omega) (by show c / 3 % 36≤35; omega)⟩
def sp_law_paints (K:PySem.W.Frag):Sp:=fun vs H Q _=>∃ (a:Addr) (ns:List Int) (most n:Nat),vs=[.ref a,.int 1,.int most,.int n]∧SqL K H a (ns.map V.int)∧ns.length≤63∧most≤31∧n≤40 ∧
  ∀ l xs H',Same H H'→H l=none→H' l=some (.lst xs)→xs.length≤31→(∀ u∈xs,PaAt H' u n)→Q (.ref l) H'
abbrev s_law_paints:Stmt:=top 42
theorem sc_law_paints:FnScope ["_law_script","_law_first","_law_most","_law_level","_law_paints_here","_law_code_here","_law_at_here","_law_cell","_law_keep"] ["_law_script","_law_first","_law_most","_law_level"] (defScope s_law_paints):=⟨rfl,rfl,rfl,by decide +kernel,rfl,by decide +kernel,by decide +kernel⟩
theorem ok_law_paints (T:Tx K mg) (q:Quiet CX) (F:FunD K "_law_paints" "_law_paints" s_law_paints f fd .none) (C__law_at:Fok P w K mg base CX 1 "_law_at" ["_law_script","_law_k"] [] (sp_law_at K)) (C__law_code:Fok P w K mg base CX 1 "_law_code" ["_law_cell","_law_size"] [] sp_law_code) (C__law_colour:Fok P w K mg base CX 1 "_law_colour" ["_law_cell"] [] sp_law_colour) :
    FnOk P w K mg base CX 3 f fd ["_law_script","_law_first","_law_most","_law_level"] (sp_law_paints K):=by
  refine F.ok sc_law_paints (fun vs H Q E h => ?_) (fun cdv A outer s H vs Q E hr h => ?_)
  · obtain ⟨_,_,_,_,rfl,_⟩:=h
    rfl
  obtain ⟨a,ns,most,n,rfl,hS,h63,hmost,hn,q'⟩:=h
  refine ⟨_,(pss_cons (ps_set (i:=4) sc_law_paints.nd rfl (Or.inl rfl) (pe_lstx pax_nil)) (pss_cons (ps_set (i:=5) sc_law_paints.nd rfl (Or.inl rfl) pe_str) (pss_cons (ps_for PassesOwn.never rfl (pi_range3 rfl T.b_range (pa_cons (pv 1) (pa_cons (pe_callB (call_min2 rfl) rfl T.b_min bb_min (pa_cons (pe_callB call_len rfl T.b_len bb_len (pa_cons (pv 0) pa_nil)) (pa_cons (pe_op op_add (pv 1) (pe_op op_mul pe_int (pv 2))) pa_nil))) (pa_cons pe_int pa_nil)))) (pg_name (i:=6) sc_law_paints.nd rfl (Or.inl rfl)) (pss_cons (ps_set (i:=7) sc_law_paints.nd rfl (Or.inl rfl) (pe_callF C__law_at q hr (pa_cons (pv 0) (pa_cons (pv 6) pa_nil)))) (pss_cons (ps_set (i:=8) sc_law_paints.nd rfl (Or.inl rfl) (pe_op op_mod (pe_op op_fdivW (pv 7) pe_int) (pe_op op_add (pe_callB call_len rfl T.b_len bb_len (pa_cons (pv 5) pa_nil)) pe_int))) (pss_cons (ps_cut (ps_if (pt_cmpR op_eq (pe_op op_mod (pv 7) pe_int) pe_int (nomark _)) (pss_one (ps_set (i:=5) sc_law_paints.nd rfl (Or.inl rfl) (pe_slice sl_str (pv 5) po_none (po_some (pv 8))))) (pss_one (ps_if (pt_cmpR op_eq (pe_op op_mod (pv 7) pe_int) pe_int (nomark _)) (pss_one (ps_set (i:=5) sc_law_paints.nd rfl (Or.inl rfl) (pe_op op_add_str (pe_op op_add_str (pe_slice sl_str (pv 5) po_none (po_some (pv 8))) (pe_ix ix_str pe_str (pe_op op_mod (pe_op op_fdivW (pv 7) pe_int) pe_int) (fun _ _=>rfl))) (pe_slice sl_str (pv 5) (po_some (pe_op op_add (pv 8) pe_int)) po_none)))) (pss_one (ps_set (i:=5) sc_law_paints.nd rfl (Or.inl rfl) (pe_op op_add_str (pe_slice sl_str (pv 5) po_none (po_some (pv 8))) (pe_callF C__law_code q hr (pa_cons (pe_op op_fdivW (pv 7) pe_int) (pa_cons (pe_op op_mod (pe_op op_fdivW (pv 7) pe_int) (pe_op op_add (pv 3) pe_int)) pa_nil)))))))))) (pss_cons (ps_set (i:=5) sc_law_paints.nd rfl (Or.inl rfl) (pe_slice sl_str (pv 5) po_none (po_some (pv 3)))) (pss_one (ps_expr (pe_bm PySem.F.plainAttrs_list PySem.F.slot_list_append PySem.F.type_list_append mt_append (pv 4) (pa_cons (pe_tupx (pax_c (pv 5) (pax_c (pe_callF C__law_colour q hr (pa_cons (pe_callF C__law_at q hr (pa_cons (pv 0) (pa_cons (pe_op op_add (pv 6) pe_int) pa_nil))) pa_nil)) pax_nil))) pa_nil))))))))) (pss_one (ps_ret (pv 4)))))),?_⟩
  refine ⟨(by show 0≤sizeLine; decide),fun l hl => ?_⟩
  have s1:=Same.new hl (.lst [])
  have u1:upd H l (.lst []) l=some (.lst []):=upd_same
  generalize upd H l (.lst [])=H1 at *
  refine ⟨_,rfl,_,rfl,_,_,rfl,.inl ⟨_,s1.seq hS,rfl⟩,_,rfl,_,rfl,_,_,rfl,rfl,.inl ⟨by decide,by decide⟩,_,_,rfl,rfl,_,_,rfl,?_⟩
  obtain ⟨M,eM,hM⟩:∃ M:Int,M=(if 1 + 2 * (most:Int) < (((ns.map V.int).length:Nat):Int) then 1 + 2 * (most:Int) else (((ns.map V.int).length:Nat):Int))∧(0≤M∧M≤63):=⟨_,rfl,by rw [List.length_map]; split <;> omega⟩
  obtain ⟨N,sm,sz,hN⟩:=rng12 hM.1 hM.2
  refine ⟨1,M,2,N,(by show [V.int 1,V.int _,V.int 2]=[V.int 1,V.int M,V.int 2]; rw [eM]),by decide,by decide,sm,sz,for_gen (fun i σ H2=>Same H H2∧∃ (xs:List V) (z:Str) (o6 o7 o8:Option V),H2 l=some (.lst xs)∧xs.length=i∧(∀ u∈xs,PaAt H2 u n)∧IsC z∧z.length≤n∧σ=[some (.ref a),some (.int 1),some (.int most),some (.int n),some (.ref l),some (.str z),o6,o7,o8]) ⟨s1,[],_,_,_,_,u1,rfl,fun u hu=>absurd hu (by simp),empty_eq▸IsC.nil,(by rw [show ("" : Str).length=0 by decide +kernel]; omega),rfl⟩ ?_ ?_⟩
  · rintro k σ H2 hk ⟨s2,xs,z,o6,o7,o8,u2,lx,hxs,hz,lz,rfl⟩
    have hS2:=s2.seq hS
    have zs:z.length≤sizeLine:=small (by omega)
    refine ⟨_,rfl,_,rfl,a,ns,1 + k * 2,rfl,hS2,h63,?_⟩
    have pI:(0:Int) < (z.length:Int) + 1:=by omega
    refine ⟨_,rfl,_,_,rfl,rfl,cdivW (by decide) (by decide),_,rfl,_,_,rfl,⟨zs,rfl⟩,_,_,rfl,rfl,_,_,rfl,rfl,pI,?_⟩
    obtain ⟨kp,hkp,ekp⟩:∃ kp:Nat,kp≤z.length∧cell ns (1 + k * 2) / 4 % ((z.length:Int) + 1)=(kp:Int):=by
      have h1:=Int.emod_nonneg (cell ns (1 + k * 2) / 4) (show (z.length:Int) + 1≠0 by omega)
      have h2:=Int.emod_lt_of_pos (cell ns (1 + k * 2) / 4) pI
      exact ⟨(cell ns (1 + k * 2) / 4 % ((z.length:Int) + 1)).toNat,by omega,by omega⟩
    rw [show (fun i j:Int=>V.int (i % j)) (cell ns (1 + k * 2) / 4) ((z.length:Int) + 1)=V.int (kp:Int) from congrArg V.int ekp]
    refine ⟨fun σ H3=>Same H2 H3∧∃ z:Str,IsC z∧z.length≤200∧σ=[some (.ref a),some (.int 1),some (.int most),some (.int n),some (.ref l),some (.str z),some (.int (1 + (k:Int) * 2)),some (.int (cell ns (1 + k * 2))),some (.int (kp:Int))],?_,?_⟩
    · have lp:=pre_len z kp
      have hp:=pre_isC hz kp
      refine ⟨_,rfl,_,_,rfl,rfl,(by show (0:Int) < 4; decide),rfl,_,rfl,ite2 (fun _ => ?_) (fun _=>⟨_,rfl,_,_,rfl,rfl,(by show (0:Int) < 4; decide),rfl,_,rfl,ite2 (fun _ => ?_) (fun _ => ?_)⟩)⟩
      · refine ⟨_,rfl,_,rfl,_,rfl,z,rfl,zs,Same.refl _,pre z kp,hp,by omega,?_⟩
        rw [slice_pre]; rfl
      · obtain ⟨d,hd,ed⟩:=four_of (cell ns (1 + k * 2) / 164)
        refine ⟨_,rfl,_,rfl,_,rfl,z,rfl,zs,_,rfl,_,_,rfl,rfl,cdivW (by decide) (by decide),_,_,rfl,rfl,(by show (0:Int) < 4; decide),_,_,48 + d,rfl,rfl,q_len,by rw [ed]; exact at_q hd,?_⟩
        rw [slice_pre]
        refine ⟨_,_,rfl,rfl,(by show (pre z kp).length + 1≤sizeLine; exact small (by omega)),_,rfl,_,rfl,_,_,rfl,rfl,_,rfl,z,rfl,zs,?_⟩
        have es:Txt.slice z (some ((kp:Int) + 1)) none=suf z (kp + 1):=slice_suf' z (kp + 1)
        dsimp only
        rw [es]
        have ls:=suf_len z (kp + 1)
        have l1:(pre z kp++(one d)).length=(pre z kp).length + 1:=by rw [app_len]; rfl
        refine ⟨_,_,rfl,rfl,(by show (pre z kp++(one d)).length + (suf z (kp + 1)).length≤sizeLine; exact small (by omega)),Same.refl _,pre z kp++one d++suf z (kp + 1),IsC.app (IsC.app hp (IsC.one hd)) (suf_isC hz _),by rw [app_len]; omega,rfl⟩
      · have pn:(0:Int) < (n:Int) + 1:=by omega
        obtain ⟨sg,hsg,esg⟩:∃ sg:Nat,sg≤n∧cell ns (1 + k * 2) / 7 % ((n:Int) + 1)=(sg:Int):=by
          have h1:=Int.emod_nonneg (cell ns (1 + k * 2) / 7) (show (n:Int) + 1≠0 by omega)
          have h2:=Int.emod_lt_of_pos (cell ns (1 + k * 2) / 7) pn
          exact ⟨(cell ns (1 + k * 2) / 7 % ((n:Int) + 1)).toNat,by omega,by omega⟩
        refine ⟨_,rfl,_,rfl,_,rfl,z,rfl,zs,_,rfl,_,_,rfl,rfl,cdivW (by decide) (by decide),_,rfl,_,_,rfl,rfl,cdivW (by decide) (by decide),_,rfl,_,_,rfl,rfl,_,_,rfl,rfl,pn,cell ns (1 + k * 2) / 164,sg,(by show [V.int _,V.int (cell ns (1 + k * 2) / 7 % ((n:Int) + 1))]=[V.int _,V.int _]; rw [esg]),by omega,fun ds H4 ld h4 s4 => ?_⟩
        rw [slice_pre]
        have lt:=txt_len ds
        exact ⟨_,_,rfl,rfl,small (by omega),s4,pre z kp++txt ds,IsC.app hp (txt_isC h4),by rw [app_len]; omega,rfl⟩
    · rintro σ H3 ⟨s3,z',hz',lz',rfl⟩
      have u3:=s3 _ _ u2
      have hS3:=s3.seq hS2
      refine ⟨_,rfl,_,rfl,_,rfl,z',rfl,small (by omega),?_⟩
      rw [slice_pre]
      have lp:=pre_len z' n
      have hp':=pre_isC hz' n
      generalize pre z' n=zz at *
      refine ⟨_,rfl,.inl ⟨rfl,_,SqL.of u3⟩,_,rfl,_,rfl,_,rfl,_,_,rfl,rfl,a,ns,1 + k * 2 + 1,rfl,hS3,h63,cell ns (1 + k * 2 + 1),rfl,fun c hc0 hc1=>⟨(by show 2≤sizeLine; decide),fun p hp => ?_⟩⟩
      have s5:=Same.new hp (.tup [.str zz,.int c])
      have p5:upd H3 p (.tup [.str zz,.int c]) p=some (.tup [.str zz,.int c]):=upd_same
      have u5:=s5 _ _ u3
      have tl:=Tups.lst (ys:=xs++[V.ref p]) u5
      refine ⟨l,xs,_,rfl,rfl,u5,small1000 (by omega),Same.set (s2.trans (s3.trans s5)) hl _,xs++[V.ref p],zz,_,_,_,upd_same,by rw [List.length_append,lx]; rfl,fun u hu => ?_,hp',by omega,rfl⟩
      rcases List.mem_append.mp hu with hu | hu
      · exact (hxs u hu).up ((s3.trans s5).tups.trans tl)
      · rw [List.mem_singleton.mp hu]
        exact ⟨p,zz,c,rfl,tl _ _ p5,hp',by omega,hc0,hc1⟩
  · rintro σ H2 ⟨s2,xs,z,o6,o7,o8,u2,lx,hxs,hz,lz,rfl⟩
    exact ⟨_,rfl,q' l xs H2 s2 hl u2 (by omega) hxs⟩
end
end Qs


namespace Qs
open PySem L2

def PaV (H:Hp) (n:Nat) (u:V) (q:List Nat × Int):Prop:=∃ p z,u=.ref p∧H p=some (.tup [.str z,.int q.2])∧IsC z∧dig z=q.1∧z.length≤n∧0≤q.2∧q.2≤35
theorem PaV.up {H H':Hp} {n:Nat} {u:V} {q:List Nat × Int} (h:PaV H n u q) (s:Tups H H'):PaV H' n u q:=by
  obtain ⟨p,z,e,hp,h⟩:=h
  exact ⟨p,z,e,s _ _ hp,h⟩
inductive PasAt (H:Hp) (n:Nat):List V→List (List Nat × Int)→Prop
  | nil:PasAt H n [] []
  | cons {u:V} {q:List Nat × Int} {us:List V} {L:List (List Nat × Int)}:PaV H n u q→PasAt H n us L→PasAt H n (u::us) (q::L)
theorem PasAt.up {H H':Hp} {n:Nat} {us:List V} {L:List (List Nat × Int)} (h:PasAt H n us L) (s:Tups H H'):PasAt H' n us L:=by
  induction h with
  | nil=>exact .nil
  | cons p _ ih=>exact .cons (p.up s) ih
theorem PasAt.len {H:Hp} {n:Nat} {us:List V} {L:List (List Nat × Int)} (h:PasAt H n us L):us.length=L.length:=by
  induction h with
  | nil=>rfl
  | cons p _ ih=>simp [ih]
theorem PasAt.app {H:Hp} {n:Nat} {us vs:List V} {L M:List (List Nat × Int)} (h:PasAt H n us L) (k:PasAt H n vs M):PasAt H n (us++vs) (L++M):=by
  induction h with
  | nil=>exact k
  | cons p _ ih=>exact .cons p ih
theorem PasAt.get {H:Hp} {n:Nat} {us:List V} {L:List (List Nat × Int)} (h:PasAt H n us L):∀ {i:Nat} {u:V},us[i]? = some u→∃ q,L[i]? = some q∧PaV H n u q:=by
  induction h with
  | nil=>intro i u e; simp at e
  | cons p _ ih =>
    intro i u e
    rcases i with _ | i
    · exact ⟨_,rfl,by rw [← Option.some.inj e]; exact p⟩
    · exact ih (by simpa using e)
theorem PasAt.take {H:Hp} {n:Nat} {us:List V} {L:List (List Nat × Int)} (h:PasAt H n us L):∀ k,PasAt H n (us.take k) (L.take k):=by
  induction h with
  | nil=>intro k; simp; exact .nil
  | cons p _ ih =>
    intro k
    rcases k with _ | k
    · exact .nil
    · exact .cons p (ih k)
theorem PaV.ok {H:Hp} {n:Nat} {u:V} {q:List Nat × Int} (h:PaV H n u q):POk n q:=by
  obtain ⟨p,z,_,_,hz,e,hl,h0⟩:=h
  rw [POk,← e,dig_len]
  exact ⟨dig_lt hz,hl,h0⟩
theorem PasAt.ok {H:Hp} {n:Nat} {us:List V} {L:List (List Nat × Int)} (h:PasAt H n us L):∀ p∈L,POk n p:=by
  induction h with
  | nil=>intro p hp; cases hp
  | cons p _ ih =>
    intro q hq
    rcases List.mem_cons.mp hq with rfl | hq
    · exact p.ok
    · exact ih q hq
theorem PasAt.of {H:Hp} {n:Nat}:∀ {us:List V},(∀ u∈us,PaAt H u n)→∃ L,PasAt H n us L
  | [],_=>⟨[],.nil⟩
  | u::us,h=>by
    obtain ⟨L,hL⟩:=PasAt.of (us:=us) (fun v hv=>h v (List.mem_cons_of_mem _ hv))
    obtain ⟨p,z,c,e,hp,hz,hl,h0⟩:=h u List.mem_cons_self
    exact ⟨(dig z,c)::L,.cons ⟨p,z,e,hp,hz,rfl,hl,h0⟩ hL⟩
def paData (q:Str × Int):PyData:=.tuple [.str q.1,.int q.2]
theorem strOk_isC {z:Str} (h:IsC z):PyData.strOk z=true:=by
  unfold PyData.strOk
  rw [← Array.all_toList,List.all_eq_true]
  intro c hc
  have:=h c hc
  exact decide_eq_true (by omega)
theorem PasAt.dats {H:Hp} {n:Nat} {us:List V} {L:List (List Nat × Int)} (h:PasAt H n us L):∃ ds:List (Str × Int),ds.length=L.length∧(∀ q∈ds,PyData.strOk q.1=true)∧Dats H us (ds.map paData):=by
  induction h with
  | nil=>exact ⟨[],rfl,fun q hq=>(by cases hq),.nil⟩
  | @cons u q us L p _ ih =>
    obtain ⟨ds,e,ho,k⟩:=ih
    obtain ⟨a,z,rfl,ha,hz,_⟩:=p
    refine ⟨(z,q.2)::ds,by simp [e],fun r hr => ?_,.cons (.tup ha (.cons (.str z) (.cons (.int _) .nil))) k⟩
    rcases List.mem_cons.mp hr with rfl | hr
    · exact strOk_isC hz
    · exact ho r hr
theorem paList_shaped {ds:List (Str × Int)} (h:∀ q∈ds,PyData.strOk q.1=true):SeqAt.shaped (.list (ds.map paData))=true:=by
  have e:PyData.canLayAll0 (ds.map paData)=true∧PyData.depthAll (ds.map paData)≤1:=by
    induction ds with
    | nil=>exact ⟨rfl,Nat.zero_le _⟩
    | cons q r ih =>
      obtain ⟨i1,i2⟩:=ih (fun p hp=>h p (List.mem_cons_of_mem _ hp))
      refine ⟨?_,?_⟩
      · show ((PyData.strOk q.1 && (true && true)) && PyData.canLayAll0 (r.map paData))=true
        rw [h q List.mem_cons_self,i1]; rfl
      · show max (max 0 (max 0 0) + 1) (PyData.depthAll (r.map paData))≤1
        omega
  unfold SeqAt.shaped
  show (PyData.canLayAll0 (ds.map paData) && decide (PyData.depthAll (ds.map paData) + 1≤64))=true
  rw [e.1,decide_eq_true (by omega)]; rfl
theorem cons_case {α:Type} (l:List α):l=[]∨∃ a r,l=a::r:=by cases l <;> simp
theorem good_norm {c:Int}:gath (qk (.col c) 0) (qk (.col c) 1) (qk (.col c) 2) (qk (.col c) 3)=.col c:=by
  show gath (.col c) (.col c) (.col c) (.col c)=.col c
  unfold gath
  rw [if_pos (oneB_iff.mpr ⟨rfl,rfl,rfl,rfl⟩)]
section
variable {P:Program} {w:World} {K:PySem.W.Frag} {mg:Str→Option Value} {base:Heap} {CX:CXT} {f:Addr} {fd:FuncData}
abbrev s_law_tree_of:Stmt:=top 44
theorem sc_law_tree_of:FnScope ["_law_a","_law_b","_law_c","_law_d"] ["_law_a","_law_b","_law_c","_law_d"] (defScope s_law_tree_of):=⟨rfl,rfl,rfl,by decide +kernel,rfl,by decide +kernel,by decide +kernel⟩
def sp_law_tree_of:Sp:=fun vs H Q _=>∃ (a b c d:V) (ta tb tc td:Tr),vs=[a,b,c,d]∧TrAt H a ta∧TrAt H b tb∧TrAt H c tc∧TrAt H d td∧(ta.deep≤60∧tb.deep≤60∧tc.deep≤60∧td.deep≤60)∧∀ v H',Same H H'→TrAt H' v (gath ta tb tc td)→Q v H'
theorem ok_law_tree_of (T:Tx K mg) (F:FunD K "_law_tree_of" "_law_tree_of" s_law_tree_of f fd .none):FnOk P w K mg base CX 1 f fd ["_law_a","_law_b","_law_c","_law_d"] sp_law_tree_of:=by
  refine F.ok sc_law_tree_of (fun vs H Q E h => ?_) (fun cdv A outer s H vs Q E hr h => ?_)
  · obtain ⟨_,_,_,_,_,_,_,_,rfl,_⟩:=h
    rfl
  obtain ⟨a,b,c,d,ta,tb,tc,td,rfl,ha,hb,hc,hd,⟨da,db,dc,dd⟩,q'⟩:=h
  refine ⟨_,(pss_cons (ps_if (PW.pt (pw_and (pt_not (pt_val (pe_callB (call_isiT "tuple") rfl T.b_isinstance bb_isinstance (pa_cons (pv 0) (pa_cons (pe_bty T.b_tuple bt_tuple) pa_nil))))) (pw_and (pt_cmpR (op_eqD hr) (pv 0) (pv 1) (nomark _)) (pw_and (pt_cmpR (op_eqD hr) (pv 0) (pv 2) (nomark _)) (pw_and1 (pt_cmpR (op_eqD hr) (pv 0) (pv 3) (nomark _))))))) (pss_one (ps_ret (pv 0))) pss_nil) (pss_one (ps_ret (pe_tupx (pax_c (pv 0) (pax_c (pv 1) (pax_c (pv 2) (pax_c (pv 3) pax_nil)))))))),?_⟩
  have ty:=ha.ty (K:=K)
  have fin:gath ta tb tc td=.four ta tb tc td→∀ p,H p=none→Q (.ref p) (upd H p (.tup [a,b,c,d])):=fun hg p hp=>by
    refine q' _ _ (Same.new hp _) ?_
    rw [hg]
    have sn:=(Same.new hp (.tup [a,b,c,d])).tups
    exact .four upd_same (ha.up sn) (hb.up sn) (hc.up sn) (hd.up sn)
  have f4:4≤sizeLine:=by decide
  have no:¬ (ta.isCol=true∧tb=ta∧tc=ta∧td=ta)→gath ta tb tc td=.four ta tb tc td:=fun h=>by
    unfold gath; rw [if_neg (fun z=>h (oneB_iff.mp z))]
  cases hta:ta.isCol with
  | false =>
    rw [hta] at ty
    refine ⟨_,rfl,_,_,_,rfl,ty,kit_tt,_,rfl,iteF (iteF ?_)⟩
    exact ⟨_,rfl,_,rfl,_,rfl,_,rfl,f4,fin (no fun z=>by rw [hta] at z; cases z.1)⟩
  | true =>
    rw [hta] at ty
    refine ⟨_,rfl,_,_,_,rfl,ty,kit_it,_,rfl,iteT ?_⟩
    have e1:∀ {u:Tr},PyData.eqv ta.data u.data=true→u=ta:=fun z=>by rw [Tr.eqv] at z; exact (of_decide_eq_true z).symm
    have e2:∀ {u:Tr},¬ PyData.eqv ta.data u.data=true→u≠ta:=fun z h=>z (by rw [Tr.eqv]; exact decide_eq_true h.symm)
    refine ⟨_,rfl,_,rfl,_,_,ha.dat,hb.dat,Tr.shaped (by omega),Tr.shaped (by omega),_,rfl,ite2 (fun z1 => ?_) (fun z1=>iteF ?_)⟩
    · refine ⟨_,rfl,_,rfl,_,_,ha.dat,hc.dat,Tr.shaped (by omega),Tr.shaped (by omega),_,rfl,ite2 (fun z2 => ?_) (fun z2=>iteF ?_)⟩
      · refine ⟨_,rfl,_,rfl,_,_,ha.dat,hd.dat,Tr.shaped (by omega),Tr.shaped (by omega),_,rfl,ite2 (fun z3 => ?_) (fun z3 => ?_)⟩
        · refine ⟨_,rfl,q' _ _ (Same.refl H) ?_⟩
          unfold gath
          rw [if_pos (oneB_iff.mpr ⟨hta,e1 z1,e1 z2,e1 z3⟩)]
          exact ha
        · exact ⟨_,rfl,_,rfl,_,rfl,_,rfl,f4,fin (no fun z=>e2 z3 z.2.2.2)⟩
      · exact ⟨_,rfl,_,rfl,_,rfl,_,rfl,f4,fin (no fun z=>e2 z2 z.2.2.1)⟩
    · exact ⟨_,rfl,_,rfl,_,rfl,_,rfl,f4,fin (no fun z=>e2 z1 z.2.1)⟩
abbrev s_law_tree_by:Stmt:=top 45
theorem sc_law_tree_by:FnScope ["_law_paints_here","_law_base","_law_later","_law_code_here","_law_colour_here","_law_trees","_law_sign","_law_some"] ["_law_paints_here"] (defScope s_law_tree_by):=⟨rfl,rfl,rfl,by decide +kernel,rfl,by decide +kernel,by decide +kernel⟩
def sp_law_tree_by (m:Nat):Sp:=fun vs H Q _=>∃ (l:Addr) (xs:List V) (L:List (List Nat × Int)) (n:Nat),vs=[.ref l]∧H l=some (.lst xs)∧PasAt H n xs L∧n < m∧m≤41∧xs.length + n≤200∧∀ v H',Same H H'→TrAt H' v (paintAll (.col 0) L)→Q v H'
theorem ok_law_tree_by (T:Tx K mg) (q:Quiet CX) (F:FunD K "_law_tree_by" "_law_tree_by" s_law_tree_by f fd .none) (C__law_tree_of:Fok P w K mg base CX 1 "_law_tree_of" ["_law_a","_law_b","_law_c","_law_d"] [] sp_law_tree_of) (b:Binds K fd ["_law_paints_here"] []) (m:mg "_law_tree_by" = some (.ref f)) :
    ∀ n,FnOk P w K mg base CX (2 + n) f fd ["_law_paints_here"] (sp_law_tree_by n)
  | 0=>by
    refine F.ok sc_law_tree_by (fun vs H Q E h => ?_) (fun cdv A outer s H vs Q E hr h => ?_)
    · obtain ⟨_,_,_,_,rfl,_⟩:=h
      rfl
    obtain ⟨_,_,_,_,_,_,_,h,_⟩:=h
    exact absurd h (Nat.not_lt_zero _)
  | m' + 1=>by
    have C__law_tree_by:Fok P w K mg base CX (2 + m') "_law_tree_by" ["_law_paints_here"] [] (sp_law_tree_by m'):=fok F (ok_law_tree_by T q F C__law_tree_of b m m') b m
    refine F.ok sc_law_tree_by (fun vs H Q E h => ?_) (fun cdv A outer s H vs Q E hr h => ?_)
    · obtain ⟨_,_,_,_,rfl,_⟩:=h
      rfl
    obtain ⟨l,xs,L,n,rfl,hl,hL,hn,hm,hb,q'⟩:=h
    refine ⟨_,(pss_cons (ps_set (i:=1) sc_law_tree_by.nd rfl (Or.inl rfl) pe_int) (pss_cons (ps_set (i:=2) sc_law_tree_by.nd rfl (Or.inl rfl) (pe_lstx pax_nil)) (pss_cons (ps_for PassesOwn.never rfl (pi_list (pv 0)) (pg_tup rfl (pgs_cons (pg_name (i:=3) sc_law_tree_by.nd rfl (Or.inl rfl)) (pgs_cons (pg_name (i:=4) sc_law_tree_by.nd rfl (Or.inl rfl)) pgs_nil))) (pss_one (ps_if (pt_cmpR op_eq (pv 3) pe_str (nomark _)) (pss_cons (ps_set (i:=1) sc_law_tree_by.nd rfl (Or.inl rfl) (pv 4)) (pss_one (ps_set (i:=2) sc_law_tree_by.nd rfl (Or.inl rfl) (pe_lstx pax_nil)))) (pss_one (ps_expr (pe_bm PySem.F.plainAttrs_list PySem.F.slot_list_append PySem.F.type_list_append mt_append (pv 2) (pa_cons (pe_tupx (pax_c (pv 3) (pax_c (pv 4) pax_nil))) pa_nil))))))) (pss_cons (ps_if (pt_cmpR (op_eqD hr) (pv 2) (pe_lstx pax_nil) (nomark _)) (pss_one (ps_ret (pv 1))) pss_nil) (pss_cons (ps_set (i:=5) sc_law_tree_by.nd rfl (Or.inl rfl) (pe_lstx pax_nil)) (pss_cons (ps_for PassesOwn.never rfl (pi_str pe_str) (pg_name (i:=6) sc_law_tree_by.nd rfl (Or.inr rfl)) (pss_cons (ps_set (i:=7) sc_law_tree_by.nd rfl (Or.inl rfl) (pe_op op_cat (pe_lstx (pax_c (pe_tupx (pax_c pe_str (pax_c (pv 1) pax_nil))) pax_nil)) (pe_compCI (N':=["_law_code_here","_law_colour_here","_law_sign"]) ["_law_sign"] ["_law_sign"] [6] 2 (by with_unfolding_all rfl) rfl (capsOk_cons rfl rfl (by decide) capsOk_nil) rfl rfl (by decide) rfl (by decide +kernel) rfl (by decide +kernel) rfl (pi_list (pv 2)) (fun C s0 H0 fp pins=>(pg_tupK (K:=K) (n:=2) rfl (pgs_cons (pg_name (i:=0) (show (["_law_code_here","_law_colour_here","_law_sign"]:List Str).Nodup by decide +kernel) rfl (Or.inl rfl) (Or.inr rfl)) (pgs_cons (pg_name (i:=1) (show (["_law_code_here","_law_colour_here","_law_sign"]:List Str).Nodup by decide +kernel) rfl (Or.inl rfl) (Or.inr rfl)) pgs_nil)))) (fun C s0 H0 fp pins=>(pt_cmpR op_eq (pe_ix ix_str (pv 0) pe_int (fun _ _=>rfl)) (pv 2) (nomark _))) (fun C s0 H0 fp pins=>(pe_tupx (pax_c (pe_slice sl_str (pv 0) (po_some pe_int) po_none) (pax_c (pv 1) pax_nil))))))) (pss_one (ps_expr (pe_bm PySem.F.plainAttrs_list PySem.F.slot_list_append PySem.F.type_list_append mt_append (pv 5) (pa_cons (pe_callF C__law_tree_by q hr (pa_cons (pv 7) pa_nil) (hj:=by first | decide | omega | (simp only [Nat.add_eq]; omega))) pa_nil)))))) (pss_one (ps_ret (pe_callF C__law_tree_of q hr (pa_cons (pe_ix ix_list (pv 5) pe_int (fun _ _=>rfl)) (pa_cons (pe_ix ix_list (pv 5) pe_int (fun _ _=>rfl)) (pa_cons (pe_ix ix_list (pv 5) pe_int (fun _ _=>rfl)) (pa_cons (pe_ix ix_list (pv 5) pe_int (fun _ _=>rfl)) pa_nil)))) (hj:=by first | decide | omega | (simp only [Nat.add_eq]; omega))))))))))),?_⟩
    refine ⟨(by show 0≤sizeLine; decide),fun lt0 hlt0 => ?_⟩
    have s1:=Same.new hlt0 (.lst [])
    have u1:upd H lt0 (.lst []) lt0=some (.lst []):=upd_same
    generalize upd H lt0 (.lst [])=H1 at *
    refine ⟨_,rfl,l,rfl,⟨_,SqL.of (s1 _ _ hl)⟩,for_list (xs:=xs) (fun i σ H2=>Same H H2∧∃ (b:Int) (lt:Addr) (ms:List V) (M:List (List Nat × Int)) (o3 o4:Option V),H2 lt=some (.lst ms)∧H lt=none∧PasAt H2 n ms M∧(∀ p∈M,p.1≠[])∧ms.length≤i∧paintAll (.col 0) (L.take i)=paintAll (.col b) M∧(0≤b∧b≤35)∧σ=[some (.ref l),some (.int b),some (.ref lt),o3,o4,none,none,none]) ⟨s1,0,lt0,[],[],none,none,u1,hlt0,.nil,fun p hp=>(by cases hp),Nat.le_refl _,rfl,⟨by decide,by decide⟩,rfl⟩ (fun i σ H2 _ h=>SqL.of (h.1 _ _ hl)) ?_ ?_⟩
    · rintro i u σ H2 hu ⟨s2,b0,lt,ms,M,o3,o4,u2,hlt,hM,hne,lm,ep,hb0,rfl⟩
      obtain ⟨pq,eq,p,z,rfl,hp,hz,ez,lz,hc⟩:=hL.get hu
      have et:L.take (i + 1)=L.take i++[pq]:=by rw [List.take_add_one,eq]; rfl
      refine ⟨p,_,rfl,SqT.of (s2 _ _ hp),rfl,_,_,rfl,_,_,rfl,rfl,?_⟩
      refine ⟨_,rfl,rfl,_,rfl,ite2 (fun c => ?_) (fun c => ?_)⟩
      · have e:z=("" : Str):=by simpa using c
        have ed:pq.1=[]:=by rw [← ez,e]; exact dig_empty
        refine ⟨_,rfl,(by show 0≤sizeLine; decide),fun lt' hlt' => ?_⟩
        refine ⟨Same.trans s2 (Same.new hlt' _),pq.2,lt',[],[],_,_,upd_same,Same.none s2 hlt',.nil,fun p hp=>(by cases hp),Nat.zero_le _,?_,hc,rfl⟩
        rw [et,paintAll_snoc,ed]; rfl
      · have nz:pq.1≠[]:=fun h=>by
          have h0:z.length=0:=by rw [← dig_len,ez,h]; rfl
          exact c (by simp [str_eq_nil.mpr h0])
        refine ⟨_,rfl,.inl ⟨rfl,_,SqL.of u2⟩,_,rfl,_,rfl,(by show 2≤sizeLine; decide),fun p' hp' => ?_⟩
        have s3:=Same.new hp' (.tup [.str z,.int pq.2])
        have p3:upd H2 p' (.tup [.str z,.int pq.2]) p'=some (.tup [.str z,.int pq.2]):=upd_same
        have u3:=s3 _ _ u2
        generalize upd H2 p' (.tup [.str z,.int pq.2])=H3 at *
        have tl:=Tups.lst (ys:=ms++[V.ref p']) u3
        have hi:i < xs.length:=(List.getElem?_eq_some_iff.mp hu).1
        refine ⟨lt,ms,_,rfl,rfl,u3,small1000 (by omega),Same.set (s2.trans s3) hlt _,b0,lt,ms++[V.ref p'],M++[pq],_,_,upd_same,hlt,(hM.up (s3.tups.trans tl)).app (.cons ⟨p',z,rfl,tl _ _ p3,hz,ez,lz,hc⟩ .nil),fun r hr => ?_,by rw [List.length_append]; show ms.length + 1≤i + 1; omega,?_,hb0,rfl⟩
        · rcases List.mem_append.mp hr with hr | hr
          · exact hne r hr
          · rw [List.mem_singleton.mp hr]; exact nz
        · rw [et,paintAll_snoc,paintAll_snoc,ep]
    · rintro σ H2 ⟨s2,b0,lt,ms,M,o3,o4,u2,hlt,hM,hne,lm,ep,hb0,rfl⟩
      have eL:L.take xs.length=L:=List.take_of_length_le (by rw [hL.len]; exact Nat.le_refl _)
      rw [eL] at ep
      rw [ep] at q'
      obtain ⟨ds,ld,hds,kds⟩:=hM.dats
      refine ⟨_,rfl,(by show 0≤sizeLine; decide),fun le hle => ?_⟩
      have s3:=s2.trans (Same.new hle (.lst []))
      have u3:=(Same.new hle (.lst [])) _ _ u2
      have ue:upd H2 le (.lst []) le=some (.lst []):=upd_same
      have hM3:=hM.up (Same.new hle (.lst [])).tups
      obtain ⟨ds,ld,hds,kds⟩:=hM3.dats
      generalize upd H2 le (.lst [])=H3 at *
      refine ⟨_,_,.lst u3 kds,.lst ue .nil,paList_shaped hds,by decide,?_⟩
      rcases cons_case ds with rfl | ⟨d0,dr,rfl⟩
      · have eM:M=[]:=List.eq_nil_of_length_eq_zero ld.symm
        rw [eM] at q'
        exact ⟨_,rfl,iteT ⟨_,rfl,q' _ _ s3 (.col b0)⟩⟩
      have pm:0 < M.length:=by rw [← ld]; show 0 < dr.length + 1; omega
      refine ⟨_,rfl,iteF ?_⟩
      refine ⟨(by show 0≤sizeLine; decide),fun lw hlw => ?_⟩
      have s4:=Same.new hlw (.lst [])
      have hM4:=hM3.up s4.tups
      have u4:=s4 _ _ u3
      have hlw0:H lw=none:=Same.none s3 hlw
      have s04:=s3.trans s4
      have w4:upd H3 lw (.lst []) lw=some (.lst []):=upd_same
      have nlw:lt≠lw:=ne_of_none u3 hlw
      generalize upd H3 lw (.lst [])=H4 at *
      have hn1:0 < n:=by
        rcases Nat.eq_zero_or_pos n with h0 | h0
        · obtain ⟨p0,hp0⟩:∃ p0,M[0]? = some p0:=⟨_,List.getElem?_eq_getElem pm⟩
          have h1:=(hM.ok p0 (List.mem_of_getElem? hp0)).2.1
          exact absurd (List.eq_nil_of_length_eq_zero (by omega)) (hne p0 (List.mem_of_getElem? hp0))
        · exact h0
      refine ⟨_,rfl,for_gen (fun j σ H5=>Same H H5∧H5 lt=some (.lst ms)∧PasAt H5 n ms M∧∃ (ts:List V) (o6 o7:Option V),H5 lw=some (.lst ts)∧ts.length=j∧(∀ k v,ts[k]? = some v→TrAt H5 v (paintAll (.col b0) (subP k M)))∧σ=[some (.ref l),some (.int b0),some (.ref lt),o3,o4,some (.ref lw),o6,o7]) ⟨s04,u4,hM4,[],none,none,w4,rfl,fun k v h=>(by simp at h),rfl⟩ ?_ ?_⟩
      · rintro j σ H5 hj ⟨s5,u5,hM5,ts,o6,o7,w5,lts,hts,rfl⟩
        have hj4:j < 4:=by rw [show ("0123" : Str).length=4 by decide +kernel] at hj; exact hj
        have ej:sgn ("0123" : Str) j=one j:=four (P:=fun d=>sgn ("0123" : Str) d=one d) (by decide +kernel) (by decide +kernel) (by decide +kernel) (by decide +kernel) hj4
        rw [ej]
        refine ⟨_,rfl,(by show 2≤sizeLine; decide),fun p0 hp0 => ?_⟩
        have s6:=Same.new hp0 (.tup [.str ("" : Str),.int b0])
        have v6:upd H5 p0 (.tup [.str ("" : Str),.int b0]) p0=some (.tup [.str ("" : Str),.int b0]):=upd_same
        generalize upd H5 p0 (.tup [.str ("" : Str),.int b0])=H6 at *
        refine ⟨(by show 1≤sizeLine; decide),fun la hla => ?_⟩
        have s7:=Same.new hla (.lst [.ref p0])
        have v7:=s7 _ _ v6
        have w7:upd H6 la (.lst [.ref p0]) la=some (.lst [.ref p0]):=upd_same
        generalize upd H6 la (.lst [.ref p0])=H7 at *
        have s57:=s6.trans s7
        have u7:=s57 _ _ u5
        have hM7:=hM5.up s57.tups
        have hms:ms.length≤200:=by omega
        refine ⟨[.str (one j)],rfl,_,rfl,lt,rfl,⟨_,SqL.of u7⟩,compCI_list ms (fun D i ys H'=>Same H7 H'∧H' D=some (.lst ys)∧ys.length≤i∧PasAt H' (n - 1) ys (subP j (M.take i))) (small (by omega)) (fun D i ys H' h=>SqL.of (h.1 _ _ u7)) (fun D i ys H' h=>⟨h.2.1,h.2.2.1⟩) (fun D hD=>⟨Same.new hD _,upd_same,Nat.le_refl _,.nil⟩) ?_ ?_ ?_ ?_ ?_⟩
        · rintro D i x ys H' hx hD ⟨c1,c2,c3,c4⟩
          obtain ⟨pq,epq,p,z,rfl,hp,hz,ez,lz,hc⟩:=hM7.get hx
          have et:M.take (i + 1)=M.take i++[pq]:=by rw [List.take_add_one,epq]; rfl
          have nz:=hne pq (List.mem_of_getElem? epq)
          have pz:0 < z.length:=by
            rcases Nat.eq_zero_or_pos z.length with h0 | h0
            · exact absurd (List.eq_nil_of_length_eq_zero (by rw [← ez,dig_len]; exact h0)) nz
            · exact h0
          have hs:z.length≤sizeLine:=small (by omega)
          obtain ⟨e,he,e1,e2⟩:=sgn_one hz pz
          have epq2:pq=(e::dig (rst z),pq.2):=by rw [← e2,← dig_rst pz,ez]
          have sub1:subP j [pq]=if e=j then [(dig (rst z),pq.2)] else []:=by rw [epq2]; rfl
          refine ⟨p,_,rfl,SqT.of (c1 _ _ hp),rfl,_,_,rfl,_,_,rfl,rfl,rfl,?_⟩
          refine ⟨_,rfl,z,0,z.cps.getD 0 0,rfl,rfl,hs,at_zero pz,_,rfl,rfl,_,rfl,ite2 (fun c => ?_) (fun c => ?_)⟩
          · have c':V.str (sgn z 0)=V.str (one j):=of_decide_eq_true c
            have c2':sgn z 0=one j:=by injection c'
            rw [e1] at c2'
            have eej:=one_inj c2'
            rw [if_pos eej] at sub1
            refine ⟨_,rfl,_,rfl,z,rfl,hs,_,rfl,(by show 2≤sizeLine; decide),fun pn hpn => ?_⟩
            have er:Txt.slice z (some 1) none=rst z:=slice_rst pz
            dsimp only
            rw [er]
            have sn:=Same.new hpn (.tup [.str (rst z),.int pq.2])
            have uD:=sn _ _ c2
            have un:upd H' pn (.tup [.str (rst z),.int pq.2]) pn=some (.tup [.str (rst z),.int pq.2]):=upd_same
            have tl:=Tups.lst (ys:=ys++[V.ref pn]) uD
            have rl:=rst_len z
            refine ⟨uD,Same.set (c1.trans sn) hD _,upd_same,by rw [List.length_append]; show ys.length + 1≤i + 1; omega,?_⟩
            rw [et,subP_app,sub1]
            exact (c4.up (sn.tups.trans tl)).app (.cons ⟨pn,rst z,rfl,tl _ _ un,rst_isC hz,rfl,by omega,hc⟩ .nil)
          · have nej:¬ e=j:=fun h=>c (decide_eq_true (by show V.str (sgn z 0)=V.str (one j); rw [e1,h]))
            rw [if_neg nej] at sub1
            refine ⟨c1,c2,by omega,?_⟩
            rw [et,subP_app,sub1,List.append_nil]
            exact c4
        · rintro D ys H' hD ⟨c1,c2,c3,c4⟩
          have eM:M.take ms.length=M:=List.take_of_length_le (by rw [hM.len]; exact Nat.le_refl _)
          rw [eM] at c4
          refine ⟨la,D,_,_,rfl,rfl,c1 _ _ w7,c2,small (by show 1 + ys.length≤_; omega),fun lc hlc => ?_⟩
          have s8:=Same.new hlc (.lst ([V.ref p0]++ys))
          have w8:upd H' lc (.lst ([V.ref p0]++ys)) lc=some (.lst ([V.ref p0]++ys)):=upd_same
          generalize upd H' lc (.lst ([V.ref p0]++ys))=H8 at *
          have s58:=s57.trans (c1.trans s8)
          have k8:PasAt H8 (n - 1) ([V.ref p0]++ys) ([([],b0)]++subP j M):=PasAt.app (.cons ⟨p0,("" : Str),rfl,(c1.trans s8) _ _ v7,empty_eq▸IsC.nil,dig_empty,by rw [show ("" : Str).length=0 by decide +kernel]; omega,hb0⟩ .nil) (c4.up s8.tups)
          refine ⟨_,rfl,.inl ⟨rfl,_,SqL.of (s58 _ _ w5)⟩,_,rfl,lc,_,_,n - 1,rfl,w8,k8,by omega,by omega,by rw [List.length_append]; show 1 + ys.length + (n - 1)≤200; omega,fun v H9 s9 hv => ?_⟩
          have s59:=s58.trans s9
          have w9:=s59 _ _ w5
          have tl:=Tups.lst (ys:=ts++[v]) w9
          refine ⟨lw,ts,_,rfl,rfl,w9,small1000 (by omega),Same.set (s5.trans s59) hlw0 _,by rw [upd_ne nlw]; exact s59 _ _ u5,hM5.up (s59.tups.trans tl),ts++[v],_,_,upd_same,by rw [List.length_append,lts]; rfl,fun k g hg => ?_,rfl⟩
          rcases Nat.lt_or_ge k ts.length with hk | hk
          · rw [List.getElem?_append_left hk] at hg
            exact (hts k g hg).up (s59.tups.trans tl)
          · rw [List.getElem?_append_right hk] at hg
            have hk0:k - ts.length=0:=by
              rcases h:k - ts.length with _ | k
              · rfl
              · rw [h] at hg; simp at hg
            rw [hk0] at hg
            have ek:k=j:=by omega
            rw [ek,← Option.some.inj hg]
            exact hv.up tl
        · rintro x σ H' R R' k ⟨a,xs,e1,h1,h2,y1,r1,f1,y2,r2,f2,f6,h⟩
          exact ⟨a,xs,e1,h1,h2,y1,r1,f1,y2,r2,f2,f6,k _ _ h⟩
        · rintro σ H' R R' k ⟨a1,e1,lo,e2,z,e3,hs,a2,e4,h1,h2⟩
          exact ⟨a1,e1,lo,e2,z,e3,hs,a2,e4,h1,fun p hp=>k _ _ (h2 p hp)⟩
        · rintro σ H' R R' k ⟨a1,e1,z,i,c,e2,e3,hs,ha,a2,e4,e5,b,e6,h⟩
          exact ⟨a1,e1,z,i,c,e2,e3,hs,ha,a2,e4,e5,b,e6,k _ _ h⟩
      · rintro σ H5 ⟨s5,u5,hM5,ts,o6,o7,w5,lts,hts,rfl⟩
        obtain ⟨va,vb,vc,vd,rfl⟩:∃ a b c d,ts=[a,b,c,d]:=by
          rw [show ("0123" : Str).length=4 by decide +kernel] at lts
          match ts,lts with
          | [a,b,c,d],_=>exact ⟨a,b,c,d,rfl⟩
        have ka:=hts 0 va rfl
        have kb:=hts 1 vb rfl
        have kc:=hts 2 vc rfl
        have kd:=hts 3 vd rfl
        have okM:=hM5.ok
        have dg:∀ k,(paintAll (.col b0) (subP k M)).deep≤60:=fun k=>by
          have:=(good_all (n:=40) (subP k M) (.col b0) (fun p hp=>(subP_ok k M okM p hp).le (by omega)) (Good.col hb0)).deep
          omega
        refine ⟨_,rfl,lw,_,_,_,rfl,rfl,SqL.of w5,rfl,_,rfl,lw,_,_,_,rfl,rfl,SqL.of w5,rfl,_,rfl,lw,_,_,_,rfl,rfl,SqL.of w5,rfl,_,rfl,lw,_,_,_,rfl,rfl,SqL.of w5,rfl,va,vb,vc,vd,_,_,_,_,rfl,ka,kb,kc,kd,⟨dg 0,dg 1,dg 2,dg 3⟩,fun v H6 s6 hv=>q' v H6 (s5.trans s6) ?_⟩
        rw [paintAll_four M (.col b0) (fun p hp=>⟨hne p hp,(okM p hp).1⟩) good_norm]
        exact hv
end
end Qs


namespace Qs
open PySem L2

def RowOk (H:Hp) (lw:Addr) (r:V) (m j:Nat):Prop:=∃ (lr:Addr) (xs:List V),r=.ref lr∧lr≠lw∧H lr=some (.lst xs)∧xs.length=m∧∀ x∈xs,∃ t,TrAt H x t∧Good j t∧cnt t≤4 ^ j
theorem RowOk.up {H H':Hp} {lw:Addr} {r:V} {m j:Nat} (h:RowOk H lw r m j) (s:Same H H'):RowOk H' lw r m j:=by
  obtain ⟨lr,xs,e,n,hl,hx,ht⟩:=h
  refine ⟨lr,xs,e,n,s _ _ hl,hx,fun x h => ?_⟩
  obtain ⟨t,h1,h2⟩:=ht x h
  exact ⟨t,h1.up s.tups,h2⟩
theorem RowOk.set {H:Hp} {lw:Addr} {r:V} {m j:Nat} {xs ys:List V} (h:RowOk H lw r m j) (e:H lw=some (.lst xs)):RowOk (upd H lw (.lst ys)) lw r m j:=by
  obtain ⟨lr,zs,e',n,hl,hx,ht⟩:=h
  refine ⟨lr,zs,e',n,by rw [upd_ne n]; exact hl,hx,fun x h => ?_⟩
  obtain ⟨t,h1,h2⟩:=ht x h
  exact ⟨t,h1.up (Tups.lst e),h2⟩
def RowsAt (H:Hp) (l:Addr) (m j:Nat):Prop:=∃ rs,H l=some (.lst rs)∧rs.length=m∧∀ r∈rs,RowOk H l r m j
theorem rng2:∀ k:Nat,k < 4→Builtin.Range.small 0 ((2 ^ (k + 1):Nat):Int) 2=true∧Builtin.Range.rangeSize 0 ((2 ^ (k + 1):Nat):Int) 2=((2 ^ k:Nat):Int):=by decide +kernel
theorem few_ix:∀ s:Nat,s < 5→∃ m:Nat,atI [V.int 2,V.int 2,V.int 3,V.int 4,V.int 4] (s:Int)=some (V.int (m:Int))∧0 < m∧m≤4:=by
  intro s hs
  rcases s with _ | _ | _ | _ | _ | s
  · exact ⟨2,rfl,by decide,by decide⟩
  · exact ⟨2,rfl,by decide,by decide⟩
  · exact ⟨3,rfl,by decide,by decide⟩
  · exact ⟨4,rfl,by decide,by decide⟩
  · exact ⟨4,rfl,by decide,by decide⟩
  · omega
theorem cnt_all {n:Nat}:∀ (L:List (List Nat × Int)) (t:Tr),(∀ p∈L,POk n p)→cnt (paintAll t L)≤cnt t + (3 * n + 1) * L.length
  | [],t,_=>Nat.le_add_right _ _
  | p::L,t,h=>by
    obtain ⟨h1,h2,_⟩:=h p List.mem_cons_self
    have ih:=cnt_all L (plant t p.1 (.col p.2)) (fun q hq=>h q (List.mem_cons_of_mem _ hq))
    have c:=cnt_plant p.1 t (.col p.2) h1
    have c1:cnt (Tr.col p.2)=1:=rfl
    show cnt (paintAll (plant t p.1 (.col p.2)) L)≤cnt t + (3 * n + 1) * (L.length + 1)
    rw [Nat.mul_succ]
    omega
section
variable {P:Program} {w:World} {K:PySem.W.Frag} {mg:Str→Option Value} {base:Heap} {CX:CXT} {f:Addr} {fd:FuncData}
abbrev s_law_grid:Stmt:=top 46
theorem sc_law_grid:FnScope ["_law_script","_law_first","_law_level","_law_wide","_law_share","_law_few","_law_rows","_law_y","_law_cell","_law_row","_law_x","_law_value"] ["_law_script","_law_first","_law_level"] (defScope s_law_grid):=⟨rfl,rfl,rfl,by decide +kernel,rfl,by decide +kernel,by decide +kernel⟩
def sp_law_grid (K:PySem.W.Frag):Sp:=fun vs H Q _=>∃ (a:Addr) (ns:List Int) (n:Nat),vs=[.ref a,.int 1,.int n]∧SqL K H a (ns.map V.int)∧ns.length≤63∧n≤3∧∀ l H',Same H H'→RowsAt H' l (2 ^ n) 0→Q (.ref l) H'
theorem ok_law_grid (T:Tx K mg) (q:Quiet CX) (F:FunD K "_law_grid" "_law_grid" s_law_grid f fd .none) (C__law_at:Fok P w K mg base CX 1 "_law_at" ["_law_script","_law_k"] [] (sp_law_at K)):FnOk P w K mg base CX 2 f fd ["_law_script","_law_first","_law_level"] (sp_law_grid K):=by
  refine F.ok sc_law_grid (fun vs H Q E h => ?_) (fun cdv A outer s H vs Q E hr h => ?_)
  · obtain ⟨_,_,_,rfl,_⟩:=h
    rfl
  obtain ⟨a,ns,n,rfl,hS,h63,hn,q'⟩:=h
  refine ⟨_,(pss_cons (ps_set (i:=3) sc_law_grid.nd rfl (Or.inl rfl) (pe_op op_shl pe_int (pv 2))) (pss_cons (ps_set (i:=4) sc_law_grid.nd rfl (Or.inl rfl) (pe_op op_mod (pe_callF C__law_at q hr (pa_cons (pv 0) (pa_cons (pv 1) pa_nil))) pe_int)) (pss_cons (ps_set (i:=5) sc_law_grid.nd rfl (Or.inl rfl) (pe_lstx (pax_c pe_int (pax_c pe_int (pax_c (pe_op op_mod (pe_op op_fdivW (pe_callF C__law_at q hr (pa_cons (pv 0) (pa_cons (pv 1) pa_nil))) pe_int) pe_int) (pax_c (pe_op op_mod (pe_op op_fdivW (pe_callF C__law_at q hr (pa_cons (pv 0) (pa_cons (pv 1) pa_nil))) pe_int) pe_int) pax_nil)))))) (pss_cons (ps_set (i:=6) sc_law_grid.nd rfl (Or.inl rfl) (pe_lstx pax_nil)) (pss_cons (ps_for PassesOwn.never rfl (pi_range1 rfl T.b_range (pa_cons (pv 3) pa_nil)) (pg_name (i:=7) sc_law_grid.nd rfl (Or.inl rfl)) (pss_cons (ps_set (i:=8) sc_law_grid.nd rfl (Or.inl rfl) (pe_op op_add (pe_callF C__law_at q hr (pa_cons (pv 0) (pa_cons (pe_op op_add (pe_op op_add (pv 1) pe_int) (pe_op op_fdivW (pv 7) pe_int)) pa_nil))) (pe_op op_mul pe_int (pe_op op_mod (pv 7) pe_int)))) (pss_cons (ps_set (i:=9) sc_law_grid.nd rfl (Or.inl rfl) (pe_lstx pax_nil)) (pss_cons (ps_for PassesOwn.never rfl (pi_range1 rfl T.b_range (pa_cons (pv 3) pa_nil)) (pg_name (i:=10) sc_law_grid.nd rfl (Or.inl rfl)) (pss_cons (ps_set (i:=11) sc_law_grid.nd rfl (Or.inl rfl) (pe_op op_fdivW (pe_op op_mod (pe_op op_mul (pe_op op_add (pe_op op_add (pe_op op_mod (pv 8) pe_int) (pe_op op_mul pe_int (pe_op op_fdivW (pv 10) (pe_op op_add pe_int (pe_op op_mod (pv 4) pe_int))))) pe_int) pe_int) pe_int) pe_int)) (pss_one (ps_expr (pe_bm PySem.F.plainAttrs_list PySem.F.slot_list_append PySem.F.type_list_append mt_append (pv 9) (pa_cons (pe_ix ix_list (pv 5) (pe_op op_mod (pv 11) (pe_ix ix_list (pe_lstx (pax_c pe_int (pax_c pe_int (pax_c pe_int (pax_c pe_int (pax_c pe_int pax_nil)))))) (pv 4) (fun _ _=>rfl))) (fun _ _=>rfl)) pa_nil)))))) (pss_one (ps_expr (pe_bm PySem.F.plainAttrs_list PySem.F.slot_list_append PySem.F.type_list_append mt_append (pv 6) (pa_cons (pv 9) pa_nil)))))))) (pss_one (ps_ret (pv 6)))))))),?_⟩
  have cpow:CPow 1 (n:Int):=⟨by omega,by omega,by decide⟩
  have ew:(1:Int) * 2 ^ ((n:Int)).toNat=((2 ^ n:Nat):Int):=by rw [Int.toNat_natCast]; simp
  have pw8:2 ^ n≤8:=Nat.le_trans (Nat.pow_le_pow_right (by decide) hn) (by decide)
  refine ⟨_,rfl,_,_,rfl,rfl,cpow,?_⟩
  generalize 2 ^ n=W at ew pw8 q'
  rw [show (fun i j:Int=>V.int (i * 2 ^ j.toNat)) 1 (n:Int)=V.int ((W:Nat):Int) from congrArg V.int ew]
  refine ⟨_,rfl,_,rfl,a,ns,1,rfl,hS,h63,_,_,rfl,rfl,(by show (0:Int) < 5; decide),?_⟩
  obtain ⟨sh,hsh,esh⟩:∃ sh:Nat,sh < 5∧cell ns 1 % 5=(sh:Int):=⟨(cell ns 1 % 5).toNat,by omega,by omega⟩
  rw [show (fun i j:Int=>V.int (i % j)) (cell ns 1) 5=V.int (sh:Int) from congrArg V.int esh]
  refine ⟨_,rfl,_,rfl,a,ns,1,rfl,hS,h63,_,_,rfl,rfl,cdivW (by decide) (by decide),_,_,rfl,rfl,(by show (0:Int) < 36; decide),?_⟩
  refine ⟨_,rfl,_,rfl,a,ns,1,rfl,hS,h63,_,_,rfl,rfl,cdivW (by decide) (by decide),_,_,rfl,rfl,(by show (0:Int) < 36; decide),(by show 4≤sizeLine; decide),fun lf hlf => ?_⟩
  obtain ⟨c2,ec2,hc2⟩:∃ c2:Int,cell ns 1 / 5 % 36=c2∧(0≤c2∧c2≤35):=⟨_,rfl,by omega⟩
  obtain ⟨c3,ec3,hc3⟩:∃ c3:Int,cell ns 1 / 180 % 36=c3∧(0≤c3∧c3≤35):=⟨_,rfl,by omega⟩
  rw [show (fun i j:Int=>V.int (i % j)) (cell ns 1 / 5) 36=V.int c2 from congrArg V.int ec2,show (fun i j:Int=>V.int (i % j)) (cell ns 1 / 180) 36=V.int c3 from congrArg V.int ec3]
  have s1:=Same.new hlf (.lst [.int 0,.int 1,.int c2,.int c3])
  have u1:upd H lf (.lst [.int 0,.int 1,.int c2,.int c3]) lf=some (.lst [.int 0,.int 1,.int c2,.int c3]):=upd_same
  generalize upd H lf (.lst [.int 0,.int 1,.int c2,.int c3])=H1 at *
  refine ⟨(by show 0≤sizeLine; decide),fun lw hlw => ?_⟩
  have s2:=Same.new hlw (.lst [])
  have u2:=s2 _ _ u1
  have w2:upd H1 lw (.lst []) lw=some (.lst []):=upd_same
  generalize upd H1 lw (.lst [])=H2 at *
  have hS1:=s1.seq hS
  refine ⟨_,rfl,_,rfl,by omega,by omega,for_range (fun i σ H3=>Same H1 H3∧∃ (rs:List V) (o7 o8 o9 o10 o11:Option V),H3 lw=some (.lst rs)∧rs.length=i∧(∀ r∈rs,RowOk H3 lw r W 0)∧σ=[some (.ref a),some (.int 1),some (.int (n:Int)),some (.int ((W:Nat):Int)),some (.int (sh:Int)),some (.ref lf),some (.ref lw),o7,o8,o9,o10,o11]) ⟨s2,[],none,none,none,none,none,w2,rfl,fun r h=>(by cases h),rfl⟩ ?_ ?_⟩
  · rintro i σ H3 hi ⟨s3,rs,o7,o8,o9,o10,o11,w3,lrs,hrs,rfl⟩
    have hi':i < W:=by omega
    rw [show (0:Int) + (i:Int)=(i:Int) from Int.zero_add _]
    have ed:(1:Int) + 1 + (i:Int) / 2=((1 + 1 + i / 2:Nat):Int):=by omega
    refine ⟨_,rfl,_,rfl,_,_,rfl,rfl,_,rfl,_,_,rfl,rfl,cdivW (by decide) (by decide),_,_,rfl,rfl,a,ns,1 + 1 + i / 2,(by show [V.ref a,V.int ((1:Int) + 1 + (i:Int) / 2)]=_; rw [ed]),s3.seq hS1,h63,?_⟩
    refine ⟨_,rfl,_,_,rfl,rfl,(by show (0:Int) < 2; decide),_,_,rfl,rfl,.inl ⟨by decide,by decide⟩,_,_,rfl,rfl,?_⟩
    obtain ⟨cl,ecl⟩:∃ cl:Int,cell ns (1 + 1 + i / 2) + 7 * ((i:Int) % 2)=cl:=⟨_,rfl⟩
    rw [show (fun i j:Int=>V.int (i + j)) (cell ns (1 + 1 + i / 2)) (7 * ((i:Int) % 2))=V.int cl from congrArg V.int ecl]
    refine ⟨(by show 0≤sizeLine; decide),fun lrw hlrw => ?_⟩
    have s4:=Same.new hlrw (.lst [])
    have w4:upd H3 lrw (.lst []) lrw=some (.lst []):=upd_same
    generalize upd H3 lrw (.lst [])=H4 at *
    have nlr:lw≠lrw:=ne_of_none w3 hlrw
    refine ⟨_,rfl,_,rfl,by omega,by omega,for_range (fun x σ H5=>Same H3 H5∧∃ (xs:List V) (o10 o11:Option V),H5 lrw=some (.lst xs)∧xs.length=x∧(∀ x∈xs,∃ t,TrAt H5 x t∧Good 0 t∧cnt t≤4 ^ 0)∧σ=[some (.ref a),some (.int 1),some (.int (n:Int)),some (.int ((W:Nat):Int)),some (.int (sh:Int)),some (.ref lf),some (.ref lw),some (.int (i:Int)),some (.int cl),some (.ref lrw),o10,o11]) ⟨s4,[],o10,o11,w4,rfl,fun r h=>(by cases h),rfl⟩ ?_ ?_⟩
    · rintro x σ H5 hx ⟨s5,xs,o10,o11,w5,lxs,hxs,rfl⟩
      rw [show (0:Int) + (x:Int)=(x:Int) from Int.zero_add _]
      have pd:(0:Int) < 1 + (sh:Int) % 3:=by omega
      refine ⟨_,rfl,_,_,rfl,rfl,(by show (0:Int) < 999983; decide),_,rfl,_,rfl,_,_,rfl,rfl,(by show (0:Int) < 3; decide),_,_,rfl,rfl,_,_,rfl,rfl,cdivW pd (by show 1 + (sh:Int) % 3 < _; omega),_,_,rfl,rfl,.inl ⟨by decide,by decide⟩,_,_,rfl,rfl,_,_,rfl,rfl,_,_,rfl,rfl,.inr ⟨by decide,by decide⟩,_,_,rfl,rfl,(by show (0:Int) < 2147483647; decide),_,_,rfl,rfl,cdivW (by decide) (by decide),?_⟩
      dsimp only
      generalize ((cl % 999983 + 31 * ((x:Int) / (1 + (sh:Int) % 3)) + 3) * 48271 % 2147483647) / 7=val
      obtain ⟨m,em,hm0,hm4⟩:=few_ix sh hsh
      refine ⟨_,rfl,.inl ⟨rfl,_,SqL.of w5⟩,_,rfl,_,rfl,(by show 5≤sizeLine; decide),fun l5 hl5 => ?_⟩
      have s6:=Same.new hl5 (.lst [.int 2,.int 2,.int 3,.int 4,.int 4])
      have u6:upd H5 l5 (.lst [.int 2,.int 2,.int 3,.int 4,.int 4]) l5=some (.lst [.int 2,.int 2,.int 3,.int 4,.int 4]):=upd_same
      have w6:=s6 _ _ w5
      generalize upd H5 l5 (.lst [.int 2,.int 2,.int 3,.int 4,.int 4])=H6 at *
      have s36:=s5.trans s6
      have pm:(0:Int) < (m:Int):=by omega
      refine ⟨_,rfl,l5,_,_,_,rfl,rfl,SqL.of u6,em,_,_,rfl,rfl,pm,?_⟩
      obtain ⟨d,hd,ed⟩:∃ d:Nat,d < 4∧val % (m:Int)=(d:Int):=by
        have h1:=Int.emod_nonneg val (show (m:Int)≠0 by omega)
        have h2:=Int.emod_lt_of_pos val pm
        exact ⟨(val % (m:Int)).toNat,by omega,by omega⟩
      have key:∃ c:Int,atI [V.int 0,V.int 1,V.int c2,V.int c3] (d:Int)=some (.int c)∧(0≤c∧c≤35):=by
        rcases d with _ | _ | _ | _ | d
        · exact ⟨0,rfl,by decide,by decide⟩
        · exact ⟨1,rfl,by decide,by decide⟩
        · exact ⟨c2,rfl,hc2⟩
        · exact ⟨c3,rfl,hc3⟩
        · omega
      obtain ⟨c,ec,hc⟩:=key
      have tl:=Tups.lst (ys:=xs++[V.int c]) w6
      refine ⟨lf,_,_,.int c,rfl,rfl,SqL.of ((s3.trans s36) _ _ u1),by rw [ed]; exact ec,lrw,xs,_,rfl,rfl,w6,small1000 (by omega),Same.set s36 hlrw _,xs++[V.int c],_,_,upd_same,by rw [List.length_append,lxs]; rfl,fun y hy => ?_,rfl⟩
      rcases List.mem_append.mp hy with hy | hy
      · obtain ⟨t,h1,h2⟩:=hxs y hy
        exact ⟨t,h1.up (s6.tups.trans tl),h2⟩
      · rw [List.mem_singleton.mp hy]
        exact ⟨.col c,.col c,Good.col hc,Nat.le_refl _⟩
    · rintro σ H5 ⟨s5,xs,o10',o11',w5,lxs,hxs,rfl⟩
      have w5':=s5 _ _ w3
      refine ⟨_,rfl,.inl ⟨rfl,_,SqL.of w5'⟩,_,rfl,lw,rs,_,rfl,rfl,w5',small1000 (by omega),Same.set (s3.trans s5) hlw _,rs++[V.ref lrw],_,_,_,_,_,upd_same,by rw [List.length_append,lrs]; rfl,fun r hr => ?_,rfl⟩
      rcases List.mem_append.mp hr with hr | hr
      · exact ((hrs r hr).up s5).set w5'
      · rw [List.mem_singleton.mp hr]
        exact RowOk.set ⟨lrw,xs,rfl,nlr.symm,w5,by omega,hxs⟩ w5'
  · rintro σ H3 ⟨s3,rs,o7,o8,o9,o10,o11,w3,lrs,hrs,rfl⟩
    exact ⟨_,rfl,q' lw H3 (s1.trans s3) ⟨rs,w3,by omega,hrs⟩⟩
abbrev s_law_tree_of_rows:Stmt:=top 47
theorem sc_law_tree_of_rows:FnScope ["_law_rows","_law_above","_law_y","_law_row","_law_x"] ["_law_rows"] (defScope s_law_tree_of_rows):=⟨rfl,rfl,rfl,by decide +kernel,rfl,by decide +kernel,by decide +kernel⟩
def sp_law_tree_of_rows:Sp:=fun vs H Q _=>∃ (l:Addr) (n:Nat),vs=[.ref l]∧RowsAt H l (2 ^ n) 0∧n≤3∧∀ v t H',Same H H'→TrAt H' v t→Good n t→cnt t≤4 ^ n→Q v H'
theorem ok_law_tree_of_rows (T:Tx K mg) (q:Quiet CX) (F:FunD K "_law_tree_of_rows" "_law_tree_of_rows" s_law_tree_of_rows f fd .none) (C__law_tree_of:Fok P w K mg base CX 1 "_law_tree_of" ["_law_a","_law_b","_law_c","_law_d"] [] sp_law_tree_of):FnOk P w K mg base CX 2 f fd ["_law_rows"] sp_law_tree_of_rows:=by
  refine F.ok sc_law_tree_of_rows (fun vs H Q E h => ?_) (fun cdv A outer s H vs Q E hr h => ?_)
  · obtain ⟨_,_,rfl,_⟩:=h
    rfl
  obtain ⟨l0,n,rfl,hR0,hn,q'⟩:=h
  refine ⟨_,(pss_cons (ps_while PassesOwn.never (pt_cmpR op_gt (pe_callB call_len rfl T.b_len bb_len (pa_cons (pv 0) pa_nil)) pe_int (nomark _)) (pss_cons (ps_set (i:=1) sc_law_tree_of_rows.nd rfl (Or.inl rfl) (pe_lstx pax_nil)) (pss_cons (ps_for PassesOwn.never rfl (pi_range3 rfl T.b_range (pa_cons pe_int (pa_cons (pe_callB call_len rfl T.b_len bb_len (pa_cons (pv 0) pa_nil)) (pa_cons pe_int pa_nil)))) (pg_name (i:=2) sc_law_tree_of_rows.nd rfl (Or.inl rfl)) (pss_cons (ps_set (i:=3) sc_law_tree_of_rows.nd rfl (Or.inl rfl) (pe_lstx pax_nil)) (pss_cons (ps_for PassesOwn.never rfl (pi_range3 rfl T.b_range (pa_cons pe_int (pa_cons (pe_callB call_len rfl T.b_len bb_len (pa_cons (pv 0) pa_nil)) (pa_cons pe_int pa_nil)))) (pg_name (i:=4) sc_law_tree_of_rows.nd rfl (Or.inl rfl)) (pss_one (ps_expr (pe_bm PySem.F.plainAttrs_list PySem.F.slot_list_append PySem.F.type_list_append mt_append (pv 3) (pa_cons (pe_callF C__law_tree_of q hr (pa_cons (pe_ix ix_list (pe_ix ix_list (pv 0) (pv 2) (fun _ _=>rfl)) (pv 4) (fun _ _=>rfl)) (pa_cons (pe_ix ix_list (pe_ix ix_list (pv 0) (pv 2) (fun _ _=>rfl)) (pe_op op_add (pv 4) pe_int) (fun _ _=>rfl)) (pa_cons (pe_ix ix_list (pe_ix ix_list (pv 0) (pe_op op_add (pv 2) pe_int) (fun _ _=>rfl)) (pv 4) (fun _ _=>rfl)) (pa_cons (pe_ix ix_list (pe_ix ix_list (pv 0) (pe_op op_add (pv 2) pe_int) (fun _ _=>rfl)) (pe_op op_add (pv 4) pe_int) (fun _ _=>rfl)) pa_nil))))) pa_nil))))) (pss_one (ps_expr (pe_bm PySem.F.plainAttrs_list PySem.F.slot_list_append PySem.F.type_list_append mt_append (pv 1) (pa_cons (pv 3) pa_nil))))))) (pss_one (ps_set (i:=0) sc_law_tree_of_rows.nd rfl (Or.inl rfl) (pv 1)))))) (pss_one (ps_ret (pe_ix ix_list (pe_ix ix_list (pv 0) pe_int (fun _ _=>rfl)) pe_int (fun _ _=>rfl))))),?_⟩
  refine while_by (fun σ H2=>Same H H2∧∃ (l:Addr) (k j:Nat) (o1 o2 o3 o4:Option V),RowsAt H2 l (2 ^ k) j∧j + k=n∧σ=[some (.ref l),o1,o2,o3,o4]) (fun σ H2=>match σ with | some (.ref l)::_=>(match H2 l with | some (.lst rs)=>rs.length | _=>0) | _=>0) ⟨Same.refl H,l0,n,0,none,none,none,none,hR0,by omega,rfl⟩ ?_ ?_
  · rintro σ H2 ⟨s2,l,k,j,o1,o2,o3,o4,hR,hjk,rfl⟩
    obtain ⟨rs,hl,lrs,hrs⟩:=id hR
    have p8:2 ^ k≤8:=Nat.le_trans (Nat.pow_le_pow_right (by decide) (show k≤3 by omega)) (by decide)
    refine ⟨_,rfl,_,_,rfl,.inl ⟨_,SqL.of hl,rfl⟩,_,_,rfl,rfl,_,rfl,ite2 (fun hc => ?_) (fun hc => ?_)⟩
    · have hc':(1:Int) < ((rs.length:Nat):Int):=of_decide_eq_true hc
      obtain ⟨k,rfl⟩:∃ k',k=k' + 1:=by
        rcases k with _ | k
        · have e1:rs.length=1:=lrs
          omega
        · exact ⟨k,rfl⟩
      have e2:2 ^ (k + 1)=2 * 2 ^ k:=by rw [Nat.pow_succ]; omega
      obtain ⟨sm,sz⟩:=rng2 k (by omega)
      have get:∀ a b,a < 2 ^ (k + 1)→b < 2 ^ (k + 1)→∃ lr xs v t,rs[a]? = some (V.ref lr)∧H2 lr=some (.lst xs)∧xs[b]? = some v∧TrAt H2 v t∧Good j t∧cnt t≤4 ^ j:=fun a b ha hb=>by
        obtain ⟨r,er⟩:∃ r,rs[a]? = some r:=⟨_,List.getElem?_eq_getElem (by omega)⟩
        obtain ⟨lr,xs,rfl,_,h1,h2,h3⟩:=hrs r (List.mem_of_getElem? er)
        obtain ⟨v,ev⟩:∃ v,xs[b]? = some v:=⟨_,List.getElem?_eq_getElem (by omega)⟩
        obtain ⟨t,h4,h5⟩:=h3 v (List.mem_of_getElem? ev)
        exact ⟨lr,xs,v,t,er,h1,ev,h4,h5⟩
      refine ⟨(by show 0≤sizeLine; decide),fun la hla => ?_⟩
      have s3:=Same.new hla (.lst [])
      have w3:upd H2 la (.lst []) la=some (.lst []):=upd_same
      generalize upd H2 la (.lst [])=H3 at *
      have el:((rs.length:Nat):Int)=((2 ^ (k + 1):Nat):Int):=by rw [lrs]
      refine ⟨_,rfl,_,_,rfl,.inl ⟨_,SqL.of (s3 _ _ hl),rfl⟩,0,((2 ^ (k + 1):Nat):Int),2,2 ^ k,(by show [V.int 0,V.int ((rs.length:Nat):Int),V.int 2]=_; rw [el]),by decide,by decide,sm,sz,for_gen (fun i σ H4=>Same H2 H4∧∃ (as:List V) (o2 o3 o4:Option V),H4 la=some (.lst as)∧as.length=i∧(∀ r∈as,RowOk H4 la r (2 ^ k) (j + 1))∧σ=[some (.ref l),some (.ref la),o2,o3,o4]) ⟨s3,[],o2,o3,o4,w3,rfl,fun r h=>(by cases h),rfl⟩ ?_ ?_⟩
      · rintro i σ H4 hi ⟨s4,as,o2,o3,o4,w4,las,has,rfl⟩
        refine ⟨(by show 0≤sizeLine; decide),fun lrw hlrw => ?_⟩
        have s5:=Same.new hlrw (.lst [])
        have w5:upd H4 lrw (.lst []) lrw=some (.lst []):=upd_same
        generalize upd H4 lrw (.lst [])=H5 at *
        have nla:la≠lrw:=ne_of_none w4 hlrw
        refine ⟨_,rfl,_,_,rfl,.inl ⟨_,SqL.of ((s4.trans s5) _ _ hl),rfl⟩,0,((2 ^ (k + 1):Nat):Int),2,2 ^ k,(by show [V.int 0,V.int ((rs.length:Nat):Int),V.int 2]=_; rw [el]),by decide,by decide,sm,sz,for_gen (fun x σ H6=>Same H4 H6∧∃ (xs:List V) (o4:Option V),H6 lrw=some (.lst xs)∧xs.length=x∧(∀ v∈xs,∃ t,TrAt H6 v t∧Good (j + 1) t∧cnt t≤4 ^ (j + 1))∧σ=[some (.ref l),some (.ref la),some (.int (0 + (i:Int) * 2)),some (.ref lrw),o4]) ⟨s5,[],o4,w5,rfl,fun r h=>(by cases h),rfl⟩ ?_ ?_⟩
        · rintro x σ H6 hx ⟨s6,xs,o4,w6,lxs,hxs,rfl⟩
          have s26:=s4.trans s6
          obtain ⟨l0,x0,va,ta,ea,ua,fa,ka,ga,ca⟩:=get (2 * i) (2 * x) (by omega) (by omega)
          obtain ⟨l1,x1,vb,tb,eb,ub,fb,kb,gb,cb⟩:=get (2 * i) (2 * x + 1) (by omega) (by omega)
          obtain ⟨l2,x2,vc,tc,ec,uc,fc,kc,gc,cc⟩:=get (2 * i + 1) (2 * x) (by omega) (by omega)
          obtain ⟨l3,x3,vd,td,ed,ud,fd',kd,gd,cd⟩:=get (2 * i + 1) (2 * x + 1) (by omega) (by omega)
          have iy:(0:Int) + (i:Int) * 2=((2 * i:Nat):Int):=by omega
          have iy1:(0:Int) + (i:Int) * 2 + 1=((2 * i + 1:Nat):Int):=by omega
          have ix:(0:Int) + (x:Int) * 2=((2 * x:Nat):Int):=by omega
          have ix1:(0:Int) + (x:Int) * 2 + 1=((2 * x + 1:Nat):Int):=by omega
          have da:=ga.deep
          have db:=gb.deep
          have dc:=gc.deep
          have dd:=gd.deep
          have sl:=SqL.of (K:=K) (s26 _ _ hl)
          refine ⟨_,rfl,.inl ⟨rfl,_,SqL.of w6⟩,_,rfl,_,rfl,l,_,_,.ref l0,rfl,rfl,sl,(by rw [iy]; exact atI_nat ea),_,rfl,l0,_,_,va,rfl,rfl,SqL.of (s26 _ _ ua),(by rw [ix]; exact atI_nat fa),?_⟩
          refine ⟨_,rfl,_,rfl,l,_,_,.ref l1,rfl,rfl,sl,(by rw [iy]; exact atI_nat eb),_,rfl,_,_,rfl,rfl,l1,_,_,vb,rfl,rfl,SqL.of (s26 _ _ ub),(by rw [ix1]; exact atI_nat fb),?_⟩
          refine ⟨_,rfl,_,rfl,_,_,rfl,rfl,l,_,_,.ref l2,rfl,rfl,sl,(by rw [iy1]; exact atI_nat ec),_,rfl,l2,_,_,vc,rfl,rfl,SqL.of (s26 _ _ uc),(by rw [ix]; exact atI_nat fc),?_⟩
          refine ⟨_,rfl,_,rfl,_,_,rfl,rfl,l,_,_,.ref l3,rfl,rfl,sl,(by rw [iy1]; exact atI_nat ed),_,rfl,_,_,rfl,rfl,l3,_,_,vd,rfl,rfl,SqL.of (s26 _ _ ud),(by rw [ix1]; exact atI_nat fd'),?_⟩
          refine ⟨va,vb,vc,vd,ta,tb,tc,td,rfl,ka.up s26.tups,kb.up s26.tups,kc.up s26.tups,kd.up s26.tups,⟨by omega,by omega,by omega,by omega⟩,fun v' H7 s7 hv' => ?_⟩
          have w7:=s7 _ _ w6
          have tl:=Tups.lst (ys:=xs++[v']) w7
          refine ⟨lrw,xs,_,rfl,rfl,w7,small1000 (by omega),Same.set (s6.trans s7) hlrw _,xs++[v'],_,upd_same,by rw [List.length_append,lxs]; rfl,fun y hy => ?_,rfl⟩
          rcases List.mem_append.mp hy with hy | hy
          · obtain ⟨t,h1,h2⟩:=hxs y hy
            exact ⟨t,h1.up (s7.tups.trans tl),h2⟩
          · rw [List.mem_singleton.mp hy]
            have cg:=cnt_gath ta tb tc td
            exact ⟨_,hv'.up tl,good_gath ga gb gc gd,by rw [Nat.pow_succ]; omega⟩
        · rintro σ H6 ⟨s6,xs,o4',w6,lxs,hxs,rfl⟩
          have w6':=s6 _ _ w4
          refine ⟨_,rfl,.inl ⟨rfl,_,SqL.of w6'⟩,_,rfl,la,as,_,rfl,rfl,w6',small1000 (by omega),Same.set (s4.trans s6) hla _,as++[V.ref lrw],_,_,_,upd_same,by rw [List.length_append,las]; rfl,fun r hr => ?_,rfl⟩
          rcases List.mem_append.mp hr with hr | hr
          · exact ((has r hr).up s6).set w6'
          · rw [List.mem_singleton.mp hr]
            exact RowOk.set ⟨lrw,xs,rfl,nla.symm,w6,by omega,hxs⟩ w6'
      · rintro σ H4 ⟨s4,as,o2,o3,o4,w4,las,has,rfl⟩
        refine ⟨_,rfl,⟨s2.trans s4,la,k,j + 1,_,_,_,_,⟨as,w4,las,has⟩,by omega,rfl⟩,?_⟩
        show (match H4 la with | some (.lst rs)=>rs.length | _=>0) < (match H2 l with | some (.lst rs)=>rs.length | _=>0)
        rw [w4,hl]
        show as.length < rs.length
        omega
    · have hc':¬ (1:Int) < ((rs.length:Nat):Int):=fun z=>hc (decide_eq_true z)
      have k0:k=0:=by
        rcases k with _ | k
        · rfl
        · have:2≤2 ^ (k + 1):=by rw [Nat.pow_succ]; have:=Nat.two_pow_pos k; omega
          omega
      subst k0
      obtain ⟨r,er⟩:∃ r,rs[0]? = some r:=⟨_,List.getElem?_eq_getElem (by rw [lrs]; decide)⟩
      obtain ⟨lr,xs,rfl,_,h1,h2,h3⟩:=hrs r (List.mem_of_getElem? er)
      obtain ⟨v,ev⟩:∃ v,xs[0]? = some v:=⟨_,List.getElem?_eq_getElem (by rw [h2]; decide)⟩
      obtain ⟨t,h4,h5,h6⟩:=h3 v (List.mem_of_getElem? ev)
      have ej:j=n:=by omega
      subst ej
      exact ⟨_,rfl,l,_,_,.ref lr,rfl,rfl,SqL.of hl,atI_nat er,lr,_,_,v,rfl,rfl,SqL.of h1,atI_nat ev,q' v t H2 s2 h4 h5 h6⟩
  · rintro σ H' Q1 Q2 hq ⟨a1,e1,a2,a3,e2,e3,a4,a5,e4,e5,b,e6,h⟩
    exact ⟨a1,e1,a2,a3,e2,e3,a4,a5,e4,e5,b,e6,hq _ _ h⟩
abbrev s_law_sheet:Stmt:=top 48
theorem sc_law_sheet:FnScope ["_law_script","_law_most","_law_level","_law_paints_here"] ["_law_script","_law_most"] (defScope s_law_sheet):=⟨rfl,rfl,rfl,by decide +kernel,rfl,by decide +kernel,by decide +kernel⟩
def sp_law_sheet (K:PySem.W.Frag):Sp:=fun vs H Q _=>∃ (a:Addr) (ns:List Int) (most:Nat),vs=[.ref a,.int most]∧SqL K H a (ns.map V.int)∧ns.length≤63∧most≤31∧∀ v n t H',Same H H'→ShAt H' v ((n:Nat):Int) t→n≤40→Good n t→cnt t≤4000→Q v H'
theorem ok_law_sheet (T:Tx K mg) (q:Quiet CX) (F:FunD K "_law_sheet" "_law_sheet" s_law_sheet f fd .none) (C__law_at:Fok P w K mg base CX 1 "_law_at" ["_law_script","_law_k"] [] (sp_law_at K)) (C__law_tree_of_rows:Fok P w K mg base CX 2 "_law_tree_of_rows" ["_law_rows"] [] sp_law_tree_of_rows) (C__law_grid:Fok P w K mg base CX 2 "_law_grid" ["_law_script","_law_first","_law_level"] [] (sp_law_grid K)) (C__law_paints:Fok P w K mg base CX 3 "_law_paints" ["_law_script","_law_first","_law_most","_law_level"] [] (sp_law_paints K)) (C__law_colour:Fok P w K mg base CX 1 "_law_colour" ["_law_cell"] [] sp_law_colour) (C__law_tree_by:Fok P w K mg base CX 43 "_law_tree_by" ["_law_paints_here"] [] (sp_law_tree_by 41)):FnOk P w K mg base CX 44 f fd ["_law_script","_law_most"] (sp_law_sheet K):=by
  refine F.ok sc_law_sheet (fun vs H Q E h => ?_) (fun cdv A outer s H vs Q E hr h => ?_)
  · obtain ⟨_,_,_,rfl,_⟩:=h
    rfl
  obtain ⟨a,ns,most,rfl,hS,h63,hmost,q'⟩:=h
  refine ⟨_,(pss_cons (ps_if (pt_cmpR op_eq (pe_op op_mod (pe_callF C__law_at q hr (pa_cons (pv 0) (pa_cons pe_int pa_nil))) pe_int) pe_int (nomark _)) (pss_cons (ps_set (i:=2) sc_law_sheet.nd rfl (Or.inl rfl) (pe_op op_mod (pe_op op_fdivW (pe_callF C__law_at q hr (pa_cons (pv 0) (pa_cons pe_int pa_nil))) pe_int) pe_int)) (pss_one (ps_ret (pe_tupx (pax_c (pv 2) (pax_c (pe_callF C__law_tree_of_rows q hr (pa_cons (pe_callF C__law_grid q hr (pa_cons (pv 0) (pa_cons pe_int (pa_cons (pv 2) pa_nil)))) pa_nil)) pax_nil)))))) pss_nil) (pss_cons (ps_set (i:=2) sc_law_sheet.nd rfl (Or.inl rfl) (pe_op op_mod (pe_op op_add (pe_callF C__law_at q hr (pa_cons (pv 0) (pa_cons pe_int pa_nil))) pe_int) pe_int)) (pss_cons (ps_set (i:=3) sc_law_sheet.nd rfl (Or.inl rfl) (pe_callF C__law_paints q hr (pa_cons (pv 0) (pa_cons pe_int (pa_cons (pv 1) (pa_cons (pv 2) pa_nil)))))) (pss_one (ps_ret (pe_tupx (pax_c (pv 2) (pax_c (pe_callF C__law_tree_by q hr (pa_cons (pe_op op_cat (pe_lstx (pax_c (pe_tupx (pax_c pe_str (pax_c (pe_callF C__law_colour q hr (pa_cons (pe_op op_fdivW (pe_callF C__law_at q hr (pa_cons (pv 0) (pa_cons pe_int pa_nil))) pe_int) pa_nil)) pax_nil))) pax_nil)) (pv 3)) pa_nil)) pax_nil)))))))),?_⟩
  have two:2≤sizeLine:=by decide
  refine ⟨_,rfl,a,ns,0,rfl,hS,h63,_,_,rfl,rfl,(by show (0:Int) < 3; decide),rfl,_,rfl,ite2 (fun _ => ?_) (fun _ => ?_)⟩
  · obtain ⟨n,hn,en⟩:∃ n:Nat,n≤3∧cell ns 0 / 3 % 4=(n:Int):=⟨(cell ns 0 / 3 % 4).toNat,by omega,by omega⟩
    refine ⟨_,rfl,a,ns,0,rfl,hS,h63,_,_,rfl,rfl,cdivW (by decide) (by decide),_,_,rfl,rfl,(by show (0:Int) < 4; decide),?_⟩
    rw [show (fun i j:Int=>V.int (i % j)) (cell ns 0 / 3) 4=V.int (n:Int) from congrArg V.int en]
    refine ⟨_,rfl,_,rfl,_,rfl,a,ns,n,rfl,hS,h63,hn,fun l H1 s1 hR=>⟨l,n,rfl,hR,hn,fun v t H2 s2 hv gt ct=>⟨two,fun p hp => ?_⟩⟩⟩
    have s3:=Same.new hp (.tup [.int (n:Int),v])
    have c64:4 ^ n≤64:=Nat.le_trans (Nat.pow_le_pow_right (by decide) hn) (by decide)
    exact q' _ n t _ (s1.trans (s2.trans s3)) ⟨p,v,rfl,upd_same,hv.up s3.tups⟩ (by omega) gt (by omega)
  · obtain ⟨n,hn,en⟩:∃ n:Nat,n≤40∧(cell ns 0 + 3) % 41=(n:Int):=⟨((cell ns 0 + 3) % 41).toNat,by omega,by omega⟩
    refine ⟨_,rfl,a,ns,0,rfl,hS,h63,_,_,rfl,rfl,_,_,rfl,rfl,(by show (0:Int) < 41; decide),?_⟩
    rw [show (fun i j:Int=>V.int (i % j)) (cell ns 0 + 3) 41=V.int (n:Int) from congrArg V.int en]
    refine ⟨_,rfl,_,rfl,_,rfl,a,ns,most,n,rfl,hS,h63,hmost,hn,fun lpa pas H1 s1 hlpa u1 lpas hpas => ?_⟩
    obtain ⟨L,hL⟩:=PasAt.of hpas
    refine ⟨_,rfl,_,rfl,a,ns,0,rfl,s1.seq hS,h63,_,_,rfl,rfl,cdivW (by decide) (by decide),cell ns 0 / 41,rfl,fun c0 hc0 hc1=>⟨two,fun p0 hp0 => ?_⟩⟩
    have e1:=Same.new hp0 (.tup [.str ("" : Str),.int c0])
    have v1:upd H1 p0 (.tup [.str ("" : Str),.int c0]) p0=some (.tup [.str ("" : Str),.int c0]):=upd_same
    generalize upd H1 p0 (.tup [.str ("" : Str),.int c0])=H2 at *
    refine ⟨(by show 1≤sizeLine; decide),fun la hla => ?_⟩
    have e2:=Same.new hla (.lst [.ref p0])
    have v2:=e2 _ _ v1
    have w2:upd H2 la (.lst [.ref p0]) la=some (.lst [.ref p0]):=upd_same
    generalize upd H2 la (.lst [.ref p0])=H3 at *
    have e12:=e1.trans e2
    refine ⟨_,rfl,la,lpa,_,_,rfl,rfl,w2,e12 _ _ u1,small (by show 1 + pas.length≤_; omega),fun lc hlc => ?_⟩
    have e3:=Same.new hlc (.lst ([V.ref p0]++pas))
    have w3:upd H3 lc (.lst ([V.ref p0]++pas)) lc=some (.lst ([V.ref p0]++pas)):=upd_same
    have v3:=e3 _ _ v2
    generalize upd H3 lc (.lst ([V.ref p0]++pas))=H4 at *
    have e13:=e12.trans e3
    have hLt:=hL.up e13.tups
    have k8:PasAt H4 n ([V.ref p0]++pas) ([([],c0)]++L):=PasAt.app (.cons ⟨p0,("" : Str),rfl,v3,empty_eq▸IsC.nil,dig_empty,by rw [show ("" : Str).length=0 by decide +kernel]; omega,⟨hc0,hc1⟩⟩ .nil) hLt
    refine ⟨lc,_,_,n,rfl,w3,k8,by omega,by decide,by rw [List.length_append]; show 1 + pas.length + n≤200; omega,fun vd H5 e4 hvd=>⟨two,fun p hp => ?_⟩⟩
    have hvd':TrAt H5 vd (paintAll (.col c0) L):=hvd
    have e5:=Same.new hp (.tup [.int (n:Int),vd])
    have ca:=cnt_all L (.col c0) hL.ok
    have ll:=hL.len
    have c1:cnt (Tr.col c0)=1:=rfl
    have cb:(3 * n + 1) * L.length≤121 * 31:=Nat.mul_le_mul (by omega) (by omega)
    exact q' _ n _ _ (s1.trans (e13.trans (e4.trans e5))) ⟨p,vd,rfl,upd_same,hvd'.up e5.tups⟩ hn (good_all L _ hL.ok (Good.col ⟨hc0,hc1⟩)) (by omega)
end
end Qs


namespace Qs
open PySem L2
theorem dig_app (a b:Str):dig (a++b)=dig a++dig b:=by
  unfold dig
  show (a.cps++b.cps).toList.map _=_
  simp
theorem dig_one (d:Nat):dig (one d)=[d]:=by
  show [48 + d - 48]=[d]
  rw [show 48 + d - 48=d by omega]
theorem idx_q {d:Nat} (h:d < 4):Builtin.Str.occurrences ("0123" : Str) (one d) 0 ("0123" : Str).length 1=[d] :=
  four (P:=fun d=>Builtin.Str.occurrences ("0123" : Str) (one d) 0 ("0123" : Str).length 1=[d]) (by decide +kernel) (by decide +kernel) (by decide +kernel) (by decide +kernel) h
theorem big {n:Nat} (h:n≤1000000):n≤sizeLine:=Nat.le_trans h (by decide)
theorem starts_no {z y:Str} (h:¬ dig z <+: dig y):Txt.startswith y z=false:=by
  unfold Txt.startswith
  by_cases hl:y.length < z.length
  · rw [decide_eq_false (by omega),Bool.false_and]
  · rw [decide_eq_true (by omega),Bool.true_and,PySem.StrLaws.subAt_eq,List.drop_zero]
    rw [Bool.eq_false_iff]
    intro c
    have c':y.cps.toList.take z.length=z.cps.toList:=by simpa using c
    refine h ?_
    have:(dig y).take z.length=dig z:=by unfold dig; rw [← List.map_take,c']
    rw [← this]
    exact List.take_prefix _ _
theorem cps_dig {z:Str} (h:IsC z):z.cps.toList=(dig z).map (48 + ·):=by
  have e:=congrArg (fun s:Str=>s.cps.toList) (txt_dig h)
  exact e.symm.trans (by show ((dig z).map (48 + ·)).toArray.toList=_; simp)
theorem pre_cps {a b:Str} (ha:IsC a) (hb:IsC b):dig a <+: dig b↔a.cps.toList <+: b.cps.toList:=by
  refine ⟨fun h => ?_,fun h => ?_⟩
  · rw [cps_dig ha,cps_dig hb]; exact h.map _
  · unfold dig; exact h.map _
theorem starts_yes {z y:Str} (hz:IsC z) (hy:IsC y) (h:dig z <+: dig y):Txt.startswith y z=true:=by
  have hp:=(pre_cps hz hy).mp h
  have hl:=hp.length_le
  rw [← len_eq,← len_eq] at hl
  unfold Txt.startswith
  rw [decide_eq_true (by omega),Bool.true_and,PySem.StrLaws.subAt_eq,List.drop_zero]
  have e:y.cps.toList.take z.length=z.cps.toList:=by rw [len_eq]; exact (List.prefix_iff_eq_take.mp hp).symm
  simpa using e
theorem starts_is {z y:Str} (hz:IsC z) (hy:IsC y):Txt.startswith y z=decide (dig z <+: dig y):=by
  by_cases h:dig z <+: dig y
  · rw [decide_eq_true h]; exact starts_yes hz hy h
  · rw [decide_eq_false h]; exact starts_no h
theorem PasAt.isC {H:Hp} {n:Nat} {us:List V} {L:List (List Nat × Int)} (h:PasAt H n us L):∀ q∈L,IsC (txt q.1)∧q.1.length≤n:=by
  induction h with
  | nil=>intro q hq; cases hq
  | cons p _ ih =>
    intro q hq
    rcases List.mem_cons.mp hq with rfl | hq
    · obtain ⟨_,z,_,_,hz,ez,lz,_⟩:=p
      rw [← ez,txt_dig hz,dig_len]
      exact ⟨hz,lz⟩
    · exact ih q hq
theorem pfs_app (p:List Nat) (C D:List Lf):pfs p (C++D)=pfs p C++pfs p D:=List.map_append

inductive EK
  | ok (q:Lf)
  | noCode
  | noCol
def EntAt (K:PySem.W.Frag) (H:Hp) (n:Nat) (u:V):EK→Prop
  | .ok q=>PaV H n u q
  | .noCode=>∃ p x y,u=.ref p∧H p=some (.tup [x,y])∧BadC K H n x
  | .noCol=>∃ p z y,u=.ref p∧H p=some (.tup [.str z,y])∧IsC z∧z.length≤n∧BadI K H 35 y
theorem EntAt.up {K:PySem.W.Frag} {H H':Hp} {n:Nat} {u:V} {e:EK} (h:EntAt K H n u e) (s:Same H H'):EntAt K H' n u e:=by
  cases e with
  | ok q =>
    obtain ⟨p,z,e1,e2,r⟩:=h
    exact ⟨p,z,e1,s _ _ e2,r⟩
  | noCode =>
    obtain ⟨p,x,y,e1,e2,r⟩:=h
    exact ⟨p,x,y,e1,s _ _ e2,r.up s⟩
  | noCol =>
    obtain ⟨p,z,y,e1,e2,hz,lz,r⟩:=h
    exact ⟨p,z,y,e1,s _ _ e2,hz,lz,r.up s⟩
theorem ents_pas {K:PySem.W.Frag} {H:Hp} {n:Nat}:∀ {us:List V} {C:List Lf},Paired (EntAt K H n) us (C.map .ok)→PasAt H n us C
  | [],[],_=>.nil
  | u::us,q::C,.cons h r=>.cons h (ents_pas r)

def DueIs (n:Nat) (es:List EK) (d:Int):Prop :=
  (∃ (C:List Lf) (es':List EK),es=C.map .ok++.noCode::es'∧d=1)∨(∃ (C:List Lf) (es':List EK),es=C.map .ok++.noCol::es'∧d=2) ∨
  ∃ C:List Lf,es=C.map .ok∧((¬ C.Pairwise Apt∧d=6)∨(C.Pairwise Apt∧ar n C < 4 ^ n∧d=7)∨(C.Pairwise Apt∧ar n C=4 ^ n∧d=-1))
theorem PasAt.okC {H:Hp} {n:Nat} {us:List V} {C:List Lf} (h:PasAt H n us C):OkC n C:=fun q hq=>by
  obtain ⟨h1,h2⟩:=h.isC q hq
  refine ⟨h2,fun d hd => ?_⟩
  have:=dig_lt h1 d (by rw [dig_txt]; exact hd)
  exact this
section
variable {P:Program} {w:World} {K:PySem.W.Frag} {mg:Str→Option Value} {base:Heap} {CX:CXT} {f:Addr} {fd:FuncData}
abbrev s_holds:Stmt:=top 30
theorem sc_holds:FnScope ["code","other"] ["code","other"] (defScope s_holds):=⟨rfl,rfl,rfl,by decide +kernel,rfl,by decide +kernel,by decide +kernel⟩
def sp_holds:Sp:=fun vs H Q _=>∃ a b:Str,vs=[.str a,.str b]∧(IsC a∧a.length≤40)∧(IsC b∧b.length≤40)∧∀ H',Same H H'→Q (.bl (decide (dig a <+: dig b))) H'
theorem ok_holds (T:Tx K mg) (q:Quiet CX) (F:FunD K "holds" "holds" s_holds f fd .none) (C_need_code:Fok P w K mg base CX 2 "need_code" ["code"] [] sp_need_code):FnOk P w K mg base CX 3 f fd ["code","other"] sp_holds:=by
  refine F.ok sc_holds (fun vs H Q E h => ?_) (fun cdv A outer s H vs Q E hr h => ?_)
  · obtain ⟨_,_,rfl,_⟩:=h
    rfl
  obtain ⟨a,b,rfl,⟨ha,la⟩,⟨hb,lb⟩,q'⟩:=h
  refine ⟨_,(pss_cons (ps_expr (pe_callF C_need_code q hr (pa_cons (pv 0) pa_nil))) (pss_cons (ps_expr (pe_callF C_need_code q hr (pa_cons (pv 1) pa_nil))) (pss_one (ps_ret (pe_bm PySem.F.plainAttrs_str PySem.F.slot_str_startswith PySem.F.type_str_startswith mt_startswith (pv 1) (pa_cons (pv 0) pa_nil)))))),?_⟩
  refine ⟨_,rfl,a,rfl,ha,la,fun H1 s1=>⟨_,rfl,b,rfl,hb,lb,fun H2 s2=>⟨_,rfl,rfl,_,rfl,b,a,rfl,rfl,?_⟩⟩⟩
  rw [starts_is ha hb]
  exact q' _ (s1.trans s2)
abbrev s_need_apart:Stmt:=top 36
theorem sc_need_apart:FnScope ["codes","in_order","at"] ["codes"] (defScope s_need_apart):=⟨rfl,rfl,rfl,by decide +kernel,rfl,by decide +kernel,by decide +kernel⟩
def AptS (a b:Str):Prop:=¬ dig a <+: dig b∧¬ dig b <+: dig a
def sp_need_apartX (Y:Yx K mg):Sp:=fun vs H Q E=>∃ (l:Addr) (ss:List Str),vs=[.ref l]∧H l=some (.lst (ss.map V.str))∧(∀ s∈ss,IsC s∧s.length≤40)∧ss.length≤100000∧((ss.Pairwise AptS∧∀ H',Same H H'→Q .non H')∨(¬ ss.Pairwise AptS∧∀ H',Same H H'→E (.ref Y.c_Twice) none H'))
theorem ok_need_apart (T:Tx K mg) (Y:Yx K mg) (q:Quiet (CXe P w)) (F:FunD K "need_apart" "need_apart" s_need_apart f fd .none) (C_holds:Fok P w K mg base (CXe P w) 3 "holds" ["code","other"] [] sp_holds):FnOk P w K mg base (CXe P w) 4 f fd ["codes"] (sp_need_apartX Y):=by
  refine F.okX sc_need_apart (fun vs H Q E h => ?_) (fun cdv A outer s H vs Q E hr h => ?_)
  · obtain ⟨_,_,rfl,_⟩:=h
    rfl
  obtain ⟨l,ss,rfl,hl,hC,hn,h⟩:=h
  refine ⟨_,(pss_cons (ps_set (i:=1) sc_need_apart.nd rfl (Or.inl rfl) (pe_callB (call_sortS rfl) rfl T.b_sorted bt_sorted (pa_cons (pv 0) pa_nil))) (pss_one (ps_for PassesOwn.leaving rfl (pi_range2 rfl T.b_range (pa_cons pe_int (pa_cons (pe_callB call_len rfl T.b_len bb_len (pa_cons (pv 1) pa_nil)) pa_nil))) (pg_name (i:=2) sc_need_apart.nd rfl (Or.inl rfl)) (pss_one (ps_if (pt_val (pe_callF C_holds q hr (pa_cons (pe_ix ix_list (pv 1) (pe_op op_sub (pv 2) pe_int) (fun _ _=>rfl)) (pa_cons (pe_ix ix_list (pv 1) (pv 2) (fun _ _=>rfl)) pa_nil)))) (pss_one (ps_raise Y.x_Twice raisesE pe_str)) pss_nil))))),?_⟩
  refine ⟨_,rfl,l,ss,rfl,SqL.of hl,fun S ss' hS pm pw => ?_⟩
  have s1:=Same.new hS (.lst (ss'.map V.str))
  have u1:upd H S (.lst (ss'.map V.str)) S=some (.lst (ss'.map V.str)):=upd_same
  generalize upd H S (.lst (ss'.map V.str))=H1 at *
  have lp:=pm.length_eq
  have per:ss'.Pairwise AptS↔ss.Pairwise AptS:=pm.pairwise_iff (fun h=>⟨h.2,h.1⟩)
  have ll:((ss'.map V.str).length:Int)=(ss'.length:Int):=by rw [List.length_map]
  refine ⟨_,rfl,_,_,rfl,.inl ⟨_,SqL.of u1,rfl⟩,_,_,rfl,⟨by decide,by decide,by omega,by omega⟩,for_range (fun (i:Nat) σ H2=>Same H1 H2∧(∀ (k:Nat) (h:k + 1 < ss'.length),k < i→¬ dig ss'[k] <+: dig ss'[k + 1])∧∃ o,σ=[some (.ref l),some (.ref S),o]) ⟨Same.refl _,fun k _ h=>absurd h (Nat.not_lt_zero _),none,rfl⟩ ?_ ?_⟩
  · rintro i σ H2 hi ⟨s2,hk,o,rfl⟩
    have u2:=s2 _ _ u1
    have hi':i + 1 < ss'.length:=by omega
    have a1:atI (ss'.map V.str) ((1:Int) + (i:Int) - 1)=some (V.str ss'[i]):=by
      rw [show (1:Int) + (i:Int) - 1=((i:Nat):Int) by omega]
      exact atI_nat (by rw [List.getElem?_map,List.getElem?_eq_getElem (by omega)]; rfl)
    have a2:atI (ss'.map V.str) ((1:Int) + (i:Int))=some (V.str ss'[i + 1]):=by
      rw [show (1:Int) + (i:Int)=((i + 1:Nat):Int) by omega]
      exact atI_nat (by rw [List.getElem?_map,List.getElem?_eq_getElem hi']; rfl)
    have m1:ss'[i]∈ss:=pm.mem_iff.mp (List.getElem_mem _)
    have m2:ss'[i + 1]∈ss:=pm.mem_iff.mp (List.getElem_mem _)
    refine ⟨_,rfl,_,rfl,_,_,rfl,rfl,S,_,_,_,rfl,rfl,SqL.of u2,a1,_,rfl,_,rfl,S,_,_,_,rfl,rfl,SqL.of u2,a2,ss'[i],ss'[i + 1],rfl,hC _ m1,hC _ m2,fun H3 s3=>⟨_,rfl,ite2 (fun c => ?_) (fun c => ?_)⟩⟩
    · have c':dig ss'[i] <+: dig ss'[i + 1]:=of_decide_eq_true c
      rcases h with ⟨hA,_⟩ | ⟨_,q'⟩
      · exact absurd c' ((List.pairwise_iff_getElem.mp (per.mpr hA)) i (i + 1) (by omega) hi' (by omega)).1
      · exact q' _ (s1.trans (s2.trans s3))
    · refine ⟨s2.trans s3,fun k hk1 hk2 => ?_,_,rfl⟩
      by_cases e:k=i
      · subst e
        exact fun z=>c (decide_eq_true z)
      · exact hk k hk1 (by omega)
  · rintro σ H2 ⟨s2,hk,o,rfl⟩
    have all:ss'.Pairwise AptS:=by
      have hc':∀ s∈ss',IsC s:=fun s hs=>(hC s (pm.mem_iff.mp hs)).1
      have pw':(ss'.map fun s=>s.cps.toList).Pairwise fun x y=>¬ y < x:=List.pairwise_map.mpr pw
      have aa:=adj_apart pw' fun i hi=>by
        rw [List.length_map] at hi
        rw [List.getElem_map,List.getElem_map]
        exact fun z=>hk i hi (by omega) ((pre_cps (hc' _ (List.getElem_mem _)) (hc' _ (List.getElem_mem _))).mpr z)
      refine (List.pairwise_map.mp aa).imp_of_mem fun {a b} ma mb hab => ?_
      exact ⟨fun z=>hab.1 ((pre_cps (hc' a ma) (hc' b mb)).mp z),fun z=>hab.2 ((pre_cps (hc' b mb) (hc' a ma)).mp z)⟩
    rcases h with ⟨_,q'⟩ | ⟨hA,_⟩
    · exact q' _ (s1.trans s2)
    · exact absurd (per.mp all) hA
end
end Qs


namespace Qs
open PySem L2
theorem paired_get {α β:Type} {F:α→β→Prop}:∀ {l:List α} {r:List β} {i:Nat} {x:α},Paired F l r→l[i]? = some x→∃ y,r[i]? = some y∧F x y
  | _::_,_::_,0,_,.cons h _,e=>⟨_,rfl,by cases e; exact h⟩
  | _::_,_::_,i + 1,_,.cons _ h,e=>paired_get (i:=i) h e
  | [],[],i,_,.nil,e=>by simp at e
end Qs
namespace Qs
open PySem L2
section
variable {P:Program} {w:World} {K:PySem.W.Frag} {mg:Str→Option Value} {base:Heap} {CX:CXT} {f:Addr} {fd:FuncData}
abbrev s_tree_of:Stmt:=top 37
theorem sc_tree_of:FnScope ["cover","signs","parts","sign","part"] ["cover","signs"] (defScope s_tree_of):=⟨rfl,rfl,rfl,by decide +kernel,rfl,by decide +kernel,by decide +kernel⟩
def sp_tree_ofX (Y:Yx K mg) (m:Nat):Sp:=fun vs H Q E=>∃ (l:Addr) (us:List V) (p:List Nat) (C:List Lf) (n k:Nat),vs=[.ref l,.int (p.length:Int)]∧H l=some (.lst us)∧PasAt H n us (pfs p C)∧C.Pairwise Apt∧OkC k C∧us.length≤100000∧n≤40∧k < m∧m≤41 ∧
  ((ar k C=4 ^ k∧∀ v t H',Same H H'→TrAt H' v t→Good k t→Q v H')∨(ar k C < 4 ^ k∧∀ H',Same H H'→E (.ref Y.c_Gap) none H'))
theorem ok_tree_of (T:Tx K mg) (Y:Yx K mg) (q:Quiet (CXe P w)) (F:FunD K "tree_of" "tree_of" s_tree_of f fd .none) (C_gathered:Fok P w K mg base (CXe P w) 2 "gathered" ["parts"] [] sp_gathered) (b:Binds K fd ["cover","signs"] []) (m:mg "tree_of" = some (.ref f)) :
    ∀ n,FnOk P w K mg base (CXe P w) (3 + n) f fd ["cover","signs"] (sp_tree_ofX Y n)
  | 0=>by
    refine F.okX sc_tree_of (fun vs H Q E h => ?_) (fun cdv A outer s H vs Q E hr h => ?_)
    · obtain ⟨_,_,_,_,_,_,rfl,_⟩:=h
      rfl
    obtain ⟨_,_,_,_,_,_,_,_,_,_,_,_,_,h,_⟩:=h
    exact absurd h (Nat.not_lt_zero _)
  | m' + 1=>by
    have C_tree_of:Fok P w K mg base (CXe P w) (3 + m') "tree_of" ["cover","signs"] [] (sp_tree_ofX Y m'):=fok F (ok_tree_of T Y q F C_gathered b m m') b m
    refine F.okX sc_tree_of (fun vs H Q E h => ?_) (fun cdv A outer s H vs Q E hr h => ?_)
    · obtain ⟨_,_,_,_,_,_,rfl,_⟩:=h
      rfl
    obtain ⟨l,us,p,C,n,k,rfl,hl,hus,hA,hO,lu,hn,hk,hm,h⟩:=h
    refine ⟨_,(pss_cons (ps_if (pt_cmpR op_eq (pe_callB call_len rfl T.b_len bb_len (pa_cons (pv 0) pa_nil)) pe_int (nomark _)) (pss_one (ps_raise Y.x_Gap raisesE pe_str)) pss_nil) (pss_cons (ps_if (pt_cmpR op_eq (pe_callB call_len rfl T.b_len bb_len (pa_cons (pe_ix ix_tup (pe_ix ix_list (pv 0) pe_int (fun _ _=>rfl)) pe_int (fun _ _=>rfl)) pa_nil)) (pv 1) (nomark _)) (pss_one (ps_ret (pe_ix ix_tup (pe_ix ix_list (pv 0) pe_int (fun _ _=>rfl)) pe_int (fun _ _=>rfl)))) pss_nil) (pss_cons (ps_set (i:=2) sc_tree_of.nd rfl (Or.inl rfl) (pe_lstx pax_nil)) (pss_cons (ps_for PassesOwn.leaving rfl (pi_str (pe_gstr T.c_QUARTERS)) (pg_name (i:=3) sc_tree_of.nd rfl (Or.inr rfl)) (pss_cons (ps_setCI (i0:=4) (N':=["leaf","sign","signs"]) ["signs","sign"] ["sign","signs"] [3,1] 1 (by with_unfolding_all rfl) rfl (capsOk_cons rfl rfl (by decide) (capsOk_cons rfl rfl (by decide) capsOk_nil)) rfl rfl (by decide) rfl (by decide +kernel) rfl (by decide +kernel) rfl (pi_list (pv 0)) (fun C s0 H0 fp pins=>(pg_name (i:=0) (show (["leaf","sign","signs"]:List Str).Nodup by decide +kernel) rfl (Or.inl rfl) (Or.inr rfl))) (fun C s0 H0 fp pins=>(pt_cmpR op_eq (pe_ix ix_str (pe_ix (ix_tupK (K:=K)) (pv 0) pe_int (fun _ _=>rfl)) (pv 2) (fun _ _=>rfl)) (pv 1) (nomark _))) (fun C s0 H0 fp pins=>(pv 0)) sc_tree_of.nd rfl (Or.inl rfl)) (pss_one (ps_expr (pe_bm PySem.F.plainAttrs_list PySem.F.slot_list_append PySem.F.type_list_append mt_append (pv 2) (pa_cons (pe_callX C_tree_of hr passE (pa_cons (pv 4) (pa_cons (pe_op op_add (pv 1) pe_int) pa_nil)) (hj:=by first | decide | omega | (simp only [Nat.add_eq]; omega))) pa_nil)))))) (pss_one (ps_ret (pe_callF C_gathered q hr (pa_cons (pv 2) pa_nil) (hj:=by first | decide | omega | (simp only [Nat.add_eq]; omega))))))))),?_⟩
    have lus:=hus.len
    have lpf:(pfs p C).length=C.length:=by unfold pfs; rw [List.length_map]
    have p4:0 < 4 ^ k:=Nat.pow_pos (by decide)
    refine ⟨_,rfl,_,_,rfl,.inl ⟨_,SqL.of hl,rfl⟩,rfl,_,rfl,ite2 (fun c => ?_) (fun c => ?_)⟩
    · have c':=of_decide_eq_true c
      injection c' with c'
      have e0:C=[]:=List.eq_nil_of_length_eq_zero (by omega)
      subst e0
      rcases h with ⟨h,_⟩ | ⟨_,q'⟩
      · exact absurd h (Nat.ne_of_lt p4)
      · exact q' H (Same.refl H)
    have hne:C≠[]:=fun e=>c (decide_eq_true (congrArg V.int (by rw [lus,lpf,e]; rfl)))
    obtain ⟨q0,C',rfl⟩:∃ q0 C',C=q0::C':=List.exists_cons_of_ne_nil hne
    obtain ⟨u0,us',rfl⟩:∃ u0 us',us=u0::us':=by
      cases us with
      | nil=>rw [lpf] at lus; cases lus
      | cons u us=>exact ⟨u,us,rfl⟩
    obtain ⟨d0,ed0,p0,z0,rfl,hp0,hz0,ez0,lz0,hc0⟩:=hus.get (i:=0) rfl
    have ed0':d0=(p++q0.1,q0.2):=(Option.some.inj ed0).symm
    subst ed0'
    have lz0':z0.length=p.length + q0.1.length:=by rw [← dig_len,ez0,List.length_append]
    have zs:z0.length≤sizeLine:=small (by omega)
    have a00:atI (V.ref p0::us') 0=some (V.ref p0):=atI_nat (j:=0) rfl
    refine ⟨_,rfl,l,_,_,_,rfl,rfl,SqL.of hl,a00,p0,_,0,_,rfl,rfl,SqT.of hp0,rfl,_,_,rfl,⟨zs,rfl⟩,_,rfl,rfl,_,rfl,ite2 (fun c => ?_) (fun c => ?_)⟩
    · have c':=of_decide_eq_true c
      injection c' with c'
      have e0:q0.1=[]:=List.eq_nil_of_length_eq_zero (by omega)
      have e1:=only_top hA List.mem_cons_self e0
      rcases h with ⟨_,q'⟩ | ⟨h,_⟩
      · exact ⟨_,rfl,l,_,_,_,rfl,rfl,SqL.of hl,a00,p0,_,1,_,rfl,rfl,SqT.of hp0,rfl,q' _ _ H (Same.refl H) (.col _) (Good.col hc0)⟩
      · rw [e1] at h
        exact absurd h (by show ¬ (4 ^ (k - q0.1.length) + 0 < 4 ^ k); rw [e0]; exact Nat.lt_irrefl _)
    have ne:q0.1≠[]:=fun e=>c (decide_eq_true (congrArg V.int (by rw [lz0',e]; simp)))
    have hne':∀ r∈q0::C',r.1≠[]:=fun r hr e=>by
      have e1:=only_top hA hr e
      injection e1 with e1 _
      rw [e1] at ne
      exact ne e
    have hall:∀ r∈q0::C',∃ d w,r.1=d::w∧d < 4:=fun r hr=>by
      cases hr1:r.1 with
      | nil=>exact absurd hr1 (hne' r hr)
      | cons d w=>exact ⟨d,w,rfl,(hO r hr).2 d (by rw [hr1]; exact List.mem_cons_self)⟩
    obtain ⟨k',rfl⟩:∃ k',k=k' + 1:=by
      have h1:=(hO q0 List.mem_cons_self).1
      have h2:0 < q0.1.length:=List.length_pos_iff.mpr ne
      exact ⟨k - 1,by omega⟩
    have spl:=ar_split hO hne'
    have kr:∀ d,ar k' (sub d (q0::C'))≤4 ^ k':=fun d=>kraft k' (sub_ok hO) (sub_apt hA)
    have ps4:4 ^ (k' + 1)=4 ^ k' * 4:=Nat.pow_succ ..
    obtain ⟨us,eus⟩:∃ us,us=V.ref p0::us':=⟨_,rfl⟩
    rw [← eus] at hl hus lus lu
    obtain ⟨C,eC⟩:∃ C,C=q0::C':=⟨_,rfl⟩
    rw [← eC] at hus lus lpf hall hA hO h spl kr
    refine ⟨(by show 0≤sizeLine; decide),fun lp hlp => ?_⟩
    have s1:=Same.new hlp (.lst [])
    have u1:upd H lp (.lst []) lp=some (.lst []):=upd_same
    generalize upd H lp (.lst [])=H1 at *
    refine ⟨_,rfl,for_gen (fun (j:Nat) σ H2=>Same H H2∧∃ (ys:List V) (ts:List Tr) (o3 o4:Option V),H2 lp=some (.lst ys)∧j≤4∧ts.length=j∧Paired (TrAt H2) ys ts∧(∀ t∈ts,Good k' t)∧(∀ i,i < j→ar k' (sub i C)=4 ^ k')∧σ=[some (.ref l),some (.int (p.length:Int)),some (.ref lp),o3,o4]) ⟨s1,[],[],none,none,u1,by decide,rfl,.nil,(fun _ h=>by cases h),(fun i h=>absurd h (Nat.not_lt_zero _)),rfl⟩ ?_ ?_⟩
    · rintro j σ H2 hj ⟨s2,ys,ts,o3,o4,u2,_,lts,hys,hg,har,rfl⟩
      have hj4:j < 4:=by rw [show ("0123" : Str).length=4 by decide +kernel] at hj; exact hj
      have ej:sgn ("0123" : Str) j=one j:=four (P:=fun d=>sgn ("0123" : Str) d=one d) (by decide +kernel) (by decide +kernel) (by decide +kernel) (by decide +kernel) hj4
      rw [ej]
      have hl2:=s2 _ _ hl
      refine ⟨[.str (one j),.int (p.length:Int)],rfl,_,rfl,l,rfl,⟨_,SqL.of hl2⟩,compCI_list us (fun D (i:Nat) zs H'=>Same H2 H'∧H' D=some (.lst zs)∧zs.length≤i∧PasAt H' n zs (pfs (p++[j]) (sub j (C.take i)))) (big (by omega)) (fun D i zs H' h=>SqL.of (h.1 _ _ hl2)) (fun D i zs H' h=>⟨h.2.1,h.2.2.1⟩) (fun D hD=>⟨Same.new hD _,upd_same,Nat.le_refl _,.nil⟩) ?_ ?_ (fun _ _ _ _ _ k h=>k _ _ h) ?_ ?_⟩
      · rintro D i y zs H' hy hD ⟨c1,c2,c3,c4⟩
        obtain ⟨d1,ed1,r,z,rfl,hr',hz,ez,lz,hcc⟩:=hus.get hy
        unfold pfs at ed1
        rw [List.getElem?_map] at ed1
        obtain ⟨w1,ew1,rfl⟩:=Option.map_eq_some_iff.mp ed1
        obtain ⟨d,w,ew,hd4⟩:=hall w1 (List.mem_of_getElem? ew1)
        have ez':dig z=p++d::w:=by rw [ez,ew]
        have lz2:p.length < z.length:=by rw [← dig_len,ez',List.length_append,List.length_cons]; omega
        obtain ⟨d',hd',e1,e2⟩:=sgn_one hz lz2
        have edd:d'=d:=by
          have h1:=dig_at lz2
          rw [ez',List.getElem?_append_right (Nat.le_refl _),Nat.sub_self,e2] at h1
          exact (Option.some.inj h1).symm
        subst edd
        have hat:z.cps.toList[p.length]? = some (48 + d'):=by
          have hk2:p.length < z.cps.size:=lz2
          have hin:=sgn_in hz lz2
          have e3:z.cps.getD p.length 0=48 + d':=by omega
          rw [← e3]; simp [Array.getD_eq_getD_getElem?,hk2]
        have et:C.take (i + 1)=C.take i++[w1]:=by rw [List.take_add_one,ew1]; rfl
        refine ⟨rfl,_,rfl,r,_,0,_,rfl,rfl,SqT.of (s2.trans c1 _ _ hr'),rfl,_,rfl,z,_,48 + d',rfl,rfl,small (by omega),atI_nat hat,_,rfl,rfl,_,rfl,ite2 (fun c => ?_) (fun c => ?_)⟩
        · have c':=of_decide_eq_true c
          have ejd:d'=j:=by
            have h1:one d'=one j:=V.str.inj c'
            have h2:(48 + d')=48 + j:=by
              have:=congrArg (fun x:Str=>x.cps.toList) h1
              exact (List.cons.inj this).1
            omega
          subst ejd
          have tl:=Tups.lst (ys:=zs++[V.ref r]) c2
          refine ⟨_,rfl,c2,Same.set c1 hD _,upd_same,by rw [List.length_append]; show zs.length + 1≤i + 1; omega,?_⟩
          have e4:sub d' [w1]=[(w,w1.2)]:=by
            unfold sub
            rw [List.filter_cons_of_pos (by rw [ew]; simp)]
            show [(w1.1.drop 1,w1.2)]=_
            rw [ew]
            rfl
          rw [et,sub_app,pfs_app,e4]
          exact (c4.up tl).app (.cons ⟨r,z,rfl,tl _ _ (s2.trans c1 _ _ hr'),hz,by rw [ez']; simp,lz,hcc⟩ .nil)
        · have e4:sub j [w1]=[]:=by
            unfold sub
            rw [List.filter_cons_of_neg]
            · rfl
            · rw [ew]
              intro h
              have h1:d'=j:=by simpa using h
              exact c (by rw [h1]; exact decide_eq_true rfl)
          refine ⟨c1,c2,by omega,?_⟩
          rw [et,sub_app,e4,List.append_nil]
          exact c4
      · rintro D zs H3 hD ⟨c1,c2,c3,c4⟩
        rw [List.take_of_length_le (by omega)] at c4
        have s3:=s2.trans c1
        have u3:=c1 _ _ u2
        have lys:=Paired.length hys
        refine ⟨_,rfl,.inl ⟨rfl,_,SqL.of u3⟩,_,rfl,_,rfl,_,_,rfl,rfl,D,zs,p++[j],sub j C,n,k',?_,c2,c4,sub_apt hA,sub_ok hO,by omega,hn,by omega,by omega,?_⟩
        · show [V.ref D,V.int ((p.length:Int) + 1)]=[V.ref D,V.int (((p++[j]).length:Nat):Int)]
          rw [List.length_append]
          rfl
        have k0:=kr 0
        have k1:=kr 1
        have k2:=kr 2
        have k3:=kr 3
        rcases Nat.lt_or_eq_of_le (kr j) with lt | eq
        · refine .inr ⟨lt,fun H4 s4 => ?_⟩
          have tot:ar (k' + 1) C < 4 ^ (k' + 1):=by
            rw [spl,ps4]
            have cs:j=0∨j=1∨j=2∨j=3:=by omega
            rcases cs with rfl | rfl | rfl | rfl <;> omega
          rcases h with ⟨h,_⟩ | ⟨_,q'⟩
          · omega
          · exact q' _ (s3.trans s4)
        refine .inl ⟨eq,fun v t H4 s4 hv gv => ?_⟩
        have u4:=s4 _ _ u3
        have tl:=Tups.lst (ys:=ys++[v]) u4
        refine ⟨lp,ys,v,rfl,rfl,u4,small1000 (by omega),Same.set (s3.trans s4) hlp _,ys++[v],ts++[t],_,_,upd_same,hj4,by rw [List.length_append,lts]; rfl,Paired.snoc (Paired.mapP hys fun _ _ h=>h.up ((c1.trans s4).tups.trans tl)) (hv.up tl),fun x hx => ?_,fun i hi => ?_,rfl⟩
        · rcases List.mem_append.mp hx with hx | hx
          · exact hg x hx
          · rw [List.mem_singleton.mp hx]; exact gv
        · by_cases e:i=j
          · rw [e]; exact eq
          · exact har i (by omega)
      · rintro σ H' R R' k ⟨a1,e1,h⟩
        exact ⟨a1,e1,k _ _ h⟩
      · rintro σ H' R R' k ⟨a1,e1,r,xs,i,x,e2,e3,h1,h2,a2,e4,z,ix,ch,e5,e6,h3,h4,a3,e7,h5,b,eb,h⟩
        exact ⟨a1,e1,r,xs,i,x,e2,e3,h1,h2,a2,e4,z,ix,ch,e5,e6,h3,h4,a3,e7,h5,b,eb,k _ _ h⟩
    · rintro σ H2 ⟨s2,ys,ts,o3,o4,u2,_,lts,hys,hg,har,rfl⟩
      rw [show ("0123" : Str).length=4 by decide +kernel] at lts har
      obtain ⟨t0,t1,t2,t3,rfl⟩:∃ a b c d,ts=[a,b,c,d]:=by
        match ts,lts with
        | [a,b,c,d],_=>exact ⟨a,b,c,d,rfl⟩
      cases hys with
      | cons h0 r=>cases r with
        | cons h1 r=>cases r with
          | cons h2 r=>cases r with
            | cons h3 r =>
              cases r
              have g0:=hg t0 (by simp)
              have g1:=hg t1 (by simp)
              have g2:=hg t2 (by simp)
              have g3:=hg t3 (by simp)
              have d0:=g0.deep
              have d1:=g1.deep
              have d2:=g2.deep
              have d3:=g3.deep
              refine ⟨_,rfl,lp,_,_,_,_,_,_,_,_,rfl,u2,h0,h1,h2,h3,⟨by omega,by omega,by omega,by omega⟩,fun v H3 s3 hv => ?_⟩
              rcases h with ⟨_,q'⟩ | ⟨h,_⟩
              · exact q' v _ H3 (s2.trans s3) hv (good_gath g0 g1 g2 g3)
              · rw [spl,har 0 (by decide),har 1 (by decide),har 2 (by decide),har 3 (by decide),ps4] at h
                omega
abbrev s_sheet_of:Stmt:=top 38
theorem sc_sheet_of:FnScope ["level","cover","code","colour"] ["level","cover"] (defScope s_sheet_of):=⟨rfl,rfl,rfl,by decide +kernel,rfl,by decide +kernel,by decide +kernel⟩
def sp_sheet_ofX (Y:Yx K mg):Sp:=fun vs H Q E=>∃ (x:V) (l:Addr) (us:List V),vs=[x,.ref l]∧((BadL K H 0 x∧∀ H',Same H H'→E (.ref Y.c_NoLevel) none H')∨∃ (n:Nat) (es:List EK) (d:Int),x=.int (n:Int)∧n≤40∧H l=some (.lst us)∧Paired (EntAt K H n) us es∧us.length≤100000∧DueIs n es d ∧
  (d=1→∀ H',Same H H'→E (.ref Y.c_NoCode) none H')∧(d=2→∀ H',Same H H'→E (.ref Y.c_NoColour) none H')∧(d=6→∀ H',Same H H'→E (.ref Y.c_Twice) none H')∧(d=7→∀ H',Same H H'→E (.ref Y.c_Gap) none H')∧(d=-1→∀ v t H',Same H H'→ShAt H' v n t→Good n t→Q v H'))
theorem ok_sheet_of (T:Tx K mg) (Y:Yx K mg) (q:Quiet (CXe P w)) (F:FunD K "sheet_of" "sheet_of" s_sheet_of f fd .none) (C_need_level_1:Fok P w K mg base (CXe P w) 3 "need_level" ["level","least"] [.int 0] (sp_nlX Y)) (C_need_code_within:Fok P w K mg base (CXe P w) 2 "need_code_within" ["code","level"] [] (sp_cwX Y)) (C_need_colour:Fok P w K mg base (CXe P w) 3 "need_colour" ["colour"] [] (sp_ncX Y)) (C_need_apart:Fok P w K mg base (CXe P w) 4 "need_apart" ["codes"] [] (sp_need_apartX Y)) (C_tree_of:Fok P w K mg base (CXe P w) 44 "tree_of" ["cover","signs"] [] (sp_tree_ofX Y 41)):FnOk P w K mg base (CXe P w) 45 f fd ["level","cover"] (sp_sheet_ofX Y):=by
  refine F.okX sc_sheet_of (fun vs H Q E h => ?_) (fun cdv A outer s H vs Q E hr h => ?_)
  · obtain ⟨_,_,_,rfl,_⟩:=h
    rfl
  obtain ⟨x,l,us,rfl,h⟩:=h
  refine ⟨_,(pss_cons (ps_expr (pe_callX C_need_level_1 hr passE (pa_cons (pv 0) pa_nil))) (pss_cons (ps_for PassesOwn.leaving rfl (pi_list (pv 1)) (pg_tup rfl (pgs_cons (pg_name (i:=2) sc_sheet_of.nd rfl (Or.inl rfl)) (pgs_cons (pg_name (i:=3) sc_sheet_of.nd rfl (Or.inl rfl)) pgs_nil))) (pss_cons (ps_expr (pe_callX C_need_code_within hr passE (pa_cons (pv 2) (pa_cons (pv 0) pa_nil)))) (pss_one (ps_expr (pe_callX C_need_colour hr passE (pa_cons (pv 3) pa_nil)))))) (pss_cons (ps_expr (pe_callX C_need_apart hr passE (pa_cons (pe_compC (N':=["code","colour"]) [] [] [] 2 (by with_unfolding_all rfl) rfl capsOk_nil rfl rfl (by decide) rfl (by decide +kernel) rfl (by decide +kernel) rfl (pi_list (pv 1)) (fun C s0 H0 fp pins=>(pg_tupK (K:=K) (n:=2) rfl (pgs_cons (pg_name (i:=0) (show (["code","colour"]:List Str).Nodup by decide +kernel) rfl (Or.inl rfl) (Or.inr rfl)) (pgs_cons (pg_name (i:=1) (show (["code","colour"]:List Str).Nodup by decide +kernel) rfl (Or.inl rfl) (Or.inr rfl)) pgs_nil)))) (fun C s0 H0 fp pins=>(pv 0))) pa_nil))) (pss_one (ps_ret (pe_tupx (pax_c (pv 0) (pax_c (pe_callX C_tree_of hr passE (pa_cons (pv 1) (pa_cons pe_int pa_nil))) pax_nil)))))))),?_⟩
  rcases h with ⟨bl,q'⟩ | ⟨n,es,d,rfl,hn,hl,hus,lu,due,e1,e2,e6,e7,q'⟩
  · exact ⟨_,rfl,_,0,rfl,.inr ⟨bl,q' _ (Same.refl H)⟩⟩
  refine ⟨_,rfl,_,0,rfl,.inl ⟨(n:Int),rfl,⟨by omega,by omega⟩,by omega,?_⟩⟩
  have lus:=Paired.length hus
  refine ⟨_,rfl,l,rfl,⟨_,SqL.of hl⟩,for_list (xs:=us) (fun (i:Nat) σ H2=>Same H H2∧(∀ (k:Nat) (e:EK),k < i→es[k]? = some e→∃ r,e=.ok r)∧∃ o2 o3:Option V,σ=[some (.int (n:Int)),some (.ref l),o2,o3]) ⟨Same.refl H,(fun k e h=>absurd h (Nat.not_lt_zero _)),none,none,rfl⟩ (fun i σ H2 _ h=>SqL.of (h.1 _ _ hl)) ?_ ?_⟩
  · rintro i u σ H2 hu ⟨s2,hk,o2,o3,rfl⟩
    obtain ⟨e,ee,he⟩:=paired_get hus hu
    have first:∀ (C:List Lf) (e':EK) (es':List EK),(∀ r,e'≠.ok r)→es=C.map .ok++e'::es'→(∀ r,e≠.ok r)→e=e':=fun C e' es' hno hes hn'=>by
      rw [hes] at ee hk
      rcases Nat.lt_trichotomy i C.length with g | g | g
      · rw [List.getElem?_append_left (by rw [List.length_map]; exact g),List.getElem?_map] at ee
        obtain ⟨r,_,er⟩:=Option.map_eq_some_iff.mp ee
        exact absurd er.symm (hn' r)
      · rw [List.getElem?_append_right (by rw [List.length_map]; omega),List.length_map,g,Nat.sub_self] at ee
        exact (Option.some.inj ee).symm
      · obtain ⟨r,er⟩:=hk C.length e' g (by rw [List.getElem?_append_right (by rw [List.length_map]; exact Nat.le_refl _),List.length_map,Nat.sub_self]; rfl)
        exact absurd er (hno r)
    cases e with
    | ok r =>
      obtain ⟨p,z,rfl,hp,hz,ez,lz,hcc⟩:=he
      refine ⟨p,_,rfl,SqT.of (s2 _ _ hp),rfl,_,_,rfl,_,_,rfl,rfl,?_⟩
      refine ⟨_,rfl,_,rfl,_,n,rfl,hn,.inl ⟨z,⟨rfl,hz,lz⟩,fun H3 s3=>⟨_,rfl,_,rfl,.inl ⟨r.2,rfl,hcc,s2.trans s3,fun k e h1 h2 => ?_,_,_,rfl⟩⟩⟩⟩
      by_cases ek:k=i
      · rw [ek,ee] at h2
        exact ⟨r,(Option.some.inj h2).symm⟩
      · exact hk k e (by omega) h2
    | noCode =>
      obtain ⟨p,x,y,rfl,hp,bx⟩:=he
      refine ⟨p,_,rfl,SqT.of (s2 _ _ hp),rfl,_,_,rfl,_,_,rfl,rfl,?_⟩
      refine ⟨_,rfl,_,rfl,x,n,rfl,hn,.inr ⟨bx.up s2,fun H3 s3 => ?_⟩⟩
      rcases due with ⟨C,es',hes,hd⟩ | ⟨C,es',hes,hd⟩ | ⟨C,hes,_⟩
      · exact e1 hd _ (s2.trans s3)
      · exact absurd (first C _ es' (by intro r z; cases z) hes (by intro r z; cases z)) (by intro z; cases z)
      · rw [hes,List.getElem?_map] at ee
        obtain ⟨r,_,er⟩:=Option.map_eq_some_iff.mp ee
        cases er
    | noCol =>
      obtain ⟨p,z,y,rfl,hp,hz,lz,by'⟩:=he
      refine ⟨p,_,rfl,SqT.of (s2 _ _ hp),rfl,_,_,rfl,_,_,rfl,rfl,?_⟩
      refine ⟨_,rfl,_,rfl,_,n,rfl,hn,.inl ⟨z,⟨rfl,hz,lz⟩,fun H3 s3=>⟨_,rfl,_,rfl,.inr ⟨by'.up (s2.trans s3),?_⟩⟩⟩⟩
      rcases due with ⟨C,es',hes,hd⟩ | ⟨C,es',hes,hd⟩ | ⟨C,hes,_⟩
      · exact absurd (first C _ es' (by intro r z; cases z) hes (by intro r z; cases z)) (by intro z; cases z)
      · exact e2 hd _ (s2.trans s3)
      · rw [hes,List.getElem?_map] at ee
        obtain ⟨r,_,er⟩:=Option.map_eq_some_iff.mp ee
        cases er
  · rintro σ H2 ⟨s2,hk,o2,o3,rfl⟩
    obtain ⟨C,hes,hdue⟩:∃ C:List Lf,es=C.map .ok∧((¬ C.Pairwise Apt∧d=6)∨(C.Pairwise Apt∧ar n C < 4 ^ n∧d=7)∨(C.Pairwise Apt∧ar n C=4 ^ n∧d=-1)):=by
      have bad:∀ (C:List Lf) (e':EK) (es':List EK),(∀ r,e'≠.ok r)→es≠C.map .ok++e'::es':=fun C e' es' hno hes=>by
        have hl':C.length < us.length:=by rw [lus,hes,List.length_append,List.length_map,List.length_cons]; omega
        obtain ⟨r,er⟩:=hk C.length e' hl' (by rw [hes,List.getElem?_append_right (by rw [List.length_map]; exact Nat.le_refl _),List.length_map,Nat.sub_self]; rfl)
        exact hno r er
      rcases due with ⟨C,es',hes,hd⟩ | ⟨C,es',hes,hd⟩ | h
      · exact absurd hes (bad C _ es' (by intro r z; cases z))
      · exact absurd hes (bad C _ es' (by intro r z; cases z))
      · exact h
    subst hes
    have hus:PasAt H n us C:=ents_pas hus
    have lus:=hus.len
    have hl2:=s2 _ _ hl
    have hus2:=hus.up s2.tups
    refine ⟨[],rfl,_,rfl,l,rfl,⟨_,SqL.of hl2⟩,compC_list us (fun D (j:Nat) ys H'=>Same H2 H'∧H' D=some (.lst ys)∧j≤us.length∧ys=(C.take j).map fun q=>V.str (txt q.1)) (big (by omega)) (fun D j ys H' h=>SqL.of (h.1 _ _ hl2))
      (fun D j ys H' h=>⟨h.2.1,by rw [h.2.2.2]; simp; omega⟩) (fun D hD=>⟨Same.new hD _,upd_same,Nat.zero_le _,rfl⟩) ?_ ?_ ?_ ?_⟩
    · rintro D j x ys H' hx hD ⟨c1,c2,c3,c4⟩
      obtain ⟨pq,epq,r,z,rfl,hr',hz,ez,_⟩:=hus2.get hx
      refine ⟨r,_,rfl,SqT.of (c1 _ _ hr'),rfl,_,_,rfl,_,_,rfl,rfl,rfl,_,rfl,c2,Same.set c1 hD _,upd_same,(List.getElem?_eq_some_iff.mp hx).1,?_⟩
      rw [List.take_add_one,epq,c4,List.map_append]
      show _++[V.str z]=_++[V.str (txt pq.1)]
      rw [← ez,txt_dig hz]
    · rintro D ys H3 hD ⟨c1,uD,c3,c4⟩
      rw [List.take_of_length_le (by omega)] at c4
      subst c4
      have s3:=s2.trans c1
      have apt:(C.map fun q=>txt q.1).Pairwise AptS↔C.Pairwise Apt:=by
        rw [List.pairwise_map]
        refine ⟨fun h=>h.imp fun {a b} h => ?_,fun h=>h.imp fun {a b} h => ?_⟩
        · unfold AptS at h
          rw [dig_txt,dig_txt] at h
          exact h
        · unfold AptS
          rw [dig_txt,dig_txt]
          exact h
      refine ⟨D,C.map fun q=>txt q.1,rfl,by rw [uD,List.map_map]; rfl,fun x hx => ?_,by rw [List.length_map]; omega,?_⟩
      · obtain ⟨q,hq,rfl⟩:=List.mem_map.mp hx
        obtain ⟨h1,h2⟩:=hus.isC q hq
        exact ⟨h1,by rw [txt_len]; omega⟩
      rcases hdue with ⟨hA,hd⟩ | hA
      · exact .inr ⟨fun z=>hA (apt.mp z),fun H4 s4=>e6 hd _ (s3.trans s4)⟩
      have hAp:C.Pairwise Apt:=hA.elim (·.1) (·.1)
      refine .inl ⟨apt.mpr hAp,fun H4 s4 => ?_⟩
      have s14:=s3.trans s4
      have e0:pfs [] C=C:=by unfold pfs; exact List.map_id C
      refine ⟨_,rfl,_,rfl,l,us,[],C,n,n,rfl,s14 _ _ hl,by rw [e0]; exact hus.up s14.tups,hAp,hus.okC,lu,hn,by omega,by decide,?_⟩
      rcases hA with ⟨_,h7,hd⟩ | ⟨_,h1,hd⟩
      · exact .inr ⟨h7,fun H5 s5=>e7 hd _ (s14.trans s5)⟩
      · refine .inl ⟨h1,fun v t H5 s5 hv gv=>⟨(by show 2≤sizeLine; decide),fun ps hps => ?_⟩⟩
        have s6:=Same.new hps (.tup [.int (n:Int),v])
        exact q' hd _ t _ (s14.trans (s5.trans s6)) ⟨ps,v,rfl,upd_same,hv.up s6.tups⟩ gv
    · rintro x σ H' R R' k ⟨a,xs,e1,h1,h2,y1,r1,f1,y2,r2,f2,f6,h⟩
      exact ⟨a,xs,e1,h1,h2,y1,r1,f1,y2,r2,f2,f6,k _ _ h⟩
    · rintro σ H' R R' k ⟨a1,e1,h⟩
      exact ⟨a1,e1,k _ _ h⟩
abbrev s_leaf_at:Stmt:=top 35
theorem sc_leaf_at:FnScope ["sheet","x","y","code","tree","signs"] ["sheet","x","y"] (defScope s_leaf_at):=⟨rfl,rfl,rfl,by decide +kernel,rfl,by decide +kernel,by decide +kernel⟩
def sp_leaf_atX (Y:Yx K mg):Sp:=fun vs H Q E=>∃ (v x y:V) (n:Nat) (t:Tr),vs=[v,x,y]∧ShAt H v n t∧n≤40∧(BadP K H n x∨(GoodP n x∧BadP K H n y))∧∀ H',Same H H'→E (.ref Y.c_NoPlace) none H'
theorem ok_leaf_at (T:Tx K mg) (Y:Yx K mg) (q:Quiet (CXe P w)) (F:FunD K "leaf_at" "leaf_at" s_leaf_at f fd .none) (C_code_at:Fok P w K mg base (CXe P w) 4 "code_at" ["x","y","level"] [] (sp_code_atX Y)):FnOk P w K mg base (CXe P w) 5 f fd ["sheet","x","y"] (sp_leaf_atX Y):=by
  refine F.okX sc_leaf_at (fun vs H Q E h => ?_) (fun cdv A outer s H vs Q E hr h => ?_)
  · obtain ⟨_,_,_,_,_,rfl,_⟩:=h
    rfl
  obtain ⟨v,x,y,n,t,rfl,⟨p,vt,rfl,hp,ht⟩,hn,bp,q'⟩:=h
  refine ⟨_,(pss_cons (ps_set (i:=3) sc_leaf_at.nd rfl (Or.inl rfl) (pe_callX C_code_at hr passE (pa_cons (pv 1) (pa_cons (pv 2) (pa_cons (pe_ix ix_tup (pv 0) pe_int (fun _ _=>rfl)) pa_nil))))) (pss_cons (ps_set (i:=4) sc_leaf_at.nd rfl (Or.inl rfl) (pe_ix ix_tup (pv 0) pe_int (fun _ _=>rfl))) (pss_cons (ps_set (i:=5) sc_leaf_at.nd rfl (Or.inl rfl) pe_int) (pss_cons (ps_while PassesOwn.leaving (pt_val (pe_callB (call_isiT "tuple") rfl T.b_isinstance bb_isinstance (pa_cons (pv 4) (pa_cons (pe_bty T.b_tuple bt_tuple) pa_nil)))) (pss_cons (ps_set (i:=4) sc_leaf_at.nd rfl (Or.inl rfl) (pe_ix ix_tup (pv 4) (pe_callTy call_int_str rfl T.b_int bt_int (pa_cons (pe_ix ix_str (pv 3) (pv 5) (fun _ _=>rfl)) pa_nil)) (fun _ _=>rfl))) (pss_one (ps_set (i:=5) sc_leaf_at.nd rfl (Or.inl rfl) (pe_op op_add (pv 5) pe_int))))) (pss_one (ps_ret (pe_slice sl_str (pv 3) po_none (po_some (pv 5))))))))),?_⟩
  exact ⟨_,rfl,_,rfl,_,rfl,p,_,_,_,rfl,rfl,SqT.of hp,rfl,x,y,n,rfl,hn,.inr ⟨bp,q'⟩⟩
end
end Qs


namespace Qs
open PySem L2
section
variable {P:Program} {w:World} {K:PySem.W.Frag} {mg:Str→Option Value} {base:Heap} {CX:CXT} {f:Addr} {fd:FuncData}
abbrev s_law_leaves:Stmt:=top 49
theorem sc_law_leaves:FnScope ["_law_tree","_law_code_here","_law_found","_law_sign"] ["_law_tree","_law_code_here"] (defScope s_law_leaves):=⟨rfl,rfl,rfl,by decide +kernel,rfl,by decide +kernel,by decide +kernel⟩
def sp_law_leaves (m:Nat):Sp:=fun vs H Q _=>∃ (v:V) (t:Tr) (z:Str) (k n:Nat),vs=[v,.str z]∧TrAt H v t∧Good k t∧IsC z∧z.length + k≤n∧n≤40∧k < m∧m≤41∧cnt t≤4000∧∀ l us H',Same H H'→H l=none→H' l=some (.lst us)→PasAt H' n us (lvs (dig z) t)→Q (.ref l) H'
theorem ok_law_leaves (T:Tx K mg) (q:Quiet CX) (F:FunD K "_law_leaves" "_law_leaves" s_law_leaves f fd .none) (b:Binds K fd ["_law_tree","_law_code_here"] []) (m:mg "_law_leaves" = some (.ref f)) :
    ∀ n,FnOk P w K mg base CX (1 + n) f fd ["_law_tree","_law_code_here"] (sp_law_leaves n)
  | 0=>by
    refine F.ok sc_law_leaves (fun vs H Q E h => ?_) (fun cdv A outer s H vs Q E hr h => ?_)
    · obtain ⟨_,_,_,_,_,rfl,_⟩:=h
      rfl
    obtain ⟨_,_,_,_,_,_,_,_,_,_,_,h,_⟩:=h
    exact absurd h (Nat.not_lt_zero _)
  | m' + 1=>by
    have C__law_leaves:Fok P w K mg base CX (1 + m') "_law_leaves" ["_law_tree","_law_code_here"] [] (sp_law_leaves m'):=fok F (ok_law_leaves T q F b m m') b m
    refine F.ok sc_law_leaves (fun vs H Q E h => ?_) (fun cdv A outer s H vs Q E hr h => ?_)
    · obtain ⟨_,_,_,_,_,rfl,_⟩:=h
      rfl
    obtain ⟨v,t,z,k,n,rfl,ht,gt,hz,hl,hn,hk,hm,hc,q'⟩:=h
    refine ⟨_,(pss_cons (ps_if (pt_not (pt_val (pe_callB (call_isiT "tuple") rfl T.b_isinstance bb_isinstance (pa_cons (pv 0) (pa_cons (pe_bty T.b_tuple bt_tuple) pa_nil))))) (pss_one (ps_ret (pe_lstx (pax_c (pe_tupx (pax_c (pv 1) (pax_c (pv 0) pax_nil))) pax_nil)))) pss_nil) (pss_cons (ps_set (i:=2) sc_law_leaves.nd rfl (Or.inl rfl) (pe_lstx pax_nil)) (pss_cons (ps_for PassesOwn.never rfl (pi_str pe_str) (pg_name (i:=3) sc_law_leaves.nd rfl (Or.inl rfl)) (pss_one (ps_set (i:=2) sc_law_leaves.nd rfl (Or.inl rfl) (pe_op op_cat (pv 2) (pe_callF C__law_leaves q hr (pa_cons (pe_ix ix_tup (pv 0) (pe_bm PySem.F.plainAttrs_str PySem.F.slot_str_index PySem.F.type_str_index mt_index pe_str (pa_cons (pv 3) pa_nil)) (fun _ _=>rfl)) (pa_cons (pe_op op_add_str (pv 1) (pv 3)) pa_nil)) (hj:=by first | decide | omega | (simp only [Nat.add_eq]; omega))))))) (pss_one (ps_ret (pv 2)))))),?_⟩
    cases ht with
    | col i =>
      have g':0≤i∧i≤35:=by cases k <;> exact gt
      refine ⟨_,rfl,_,_,_,rfl,.int _,kit_it,_,rfl,iteT ?_⟩
      refine ⟨_,rfl,_,rfl,(by show 2≤sizeLine; decide),fun p hp => ?_⟩
      have s1:=Same.new hp (.tup [.str z,.int i])
      have u1:upd H p (.tup [.str z,.int i]) p=some (.tup [.str z,.int i]):=upd_same
      generalize upd H p (.tup [.str z,.int i])=H1 at *
      refine ⟨(by show 1≤sizeLine; decide),fun l hl1 => ?_⟩
      have s2:=Same.new hl1 (.lst [.ref p])
      exact q' l _ _ (s1.trans s2) (Same.none s1 hl1) upd_same (.cons ⟨p,z,rfl,s2 _ _ u1,hz,rfl,by omega,g'⟩ .nil)
    | @four p xa xb xc xd ta tb tc td e ja jb jc jd =>
      rcases k with _ | k
      · exact gt.elim
      obtain ⟨ga,gb,gc,gd,ho⟩:=gt
      have hc':cnt ta + cnt tb + cnt tc + cnt td≤4000:=hc
      refine ⟨_,rfl,_,_,_,rfl,.tup e,kit_tt,_,rfl,iteF ?_⟩
      refine ⟨(by show 0≤sizeLine; decide),fun l0 hl0 => ?_⟩
      have s1:=Same.new hl0 (.lst [])
      have u1:upd H l0 (.lst []) l0=some (.lst []):=upd_same
      generalize upd H l0 (.lst [])=H1 at *
      obtain ⟨tt,ett⟩:∃ tt:List Tr,tt=[ta,tb,tc,td]:=⟨_,rfl⟩
      obtain ⟨ps,eps⟩:∃ ps:List (List (List Nat × Int)),ps=[lvs (dig z++[0]) ta,lvs (dig z++[1]) tb,lvs (dig z++[2]) tc,lvs (dig z++[3]) td]:=⟨_,rfl⟩
      have lps:ps.length=4:=by rw [eps]; rfl
      have tot:ps.flatten.length≤4000:=by
        rw [eps]
        simp only [List.flatten_cons,List.flatten_nil,List.append_nil,List.length_append,lvs_count]
        omega
      refine ⟨_,rfl,for_gen (fun j σ H2=>Same H H2∧∃ (l:Addr) (us:List V) (o3:Option V),H l=none∧H2 l=some (.lst us)∧j≤4∧PasAt H2 n us (ps.take j).flatten∧σ=[some (.ref p),some (.str z),some (.ref l),o3]) ⟨s1,l0,[],none,hl0,u1,by decide,.nil,rfl⟩ ?_ ?_⟩
      · rintro j σ H2 hj ⟨s2,l,us,o3,hl1,u2,hj4,hus,rfl⟩
        have hj4:j < 4:=by rw [show ("0123" : Str).length=4 by decide +kernel] at hj; exact hj
        have ej:sgn ("0123" : Str) j=one j:=four (P:=fun d=>sgn ("0123" : Str) d=one d) (by decide +kernel) (by decide +kernel) (by decide +kernel) (by decide +kernel) hj4
        rw [ej]
        have key:∃ x t',atI [xa,xb,xc,xd] (j:Int)=some x∧TrAt H x t'∧Good k t'∧cnt t'≤4000∧ps[j]? = some (lvs (dig z++[j]) t'):=by
          rw [eps]
          rcases j with _ | _ | _ | _ | j
          · exact ⟨xa,ta,rfl,ja,ga,by omega,rfl⟩
          · exact ⟨xb,tb,rfl,jb,gb,by omega,rfl⟩
          · exact ⟨xc,tc,rfl,jc,gc,by omega,rfl⟩
          · exact ⟨xd,td,rfl,jd,gd,by omega,rfl⟩
          · omega
        obtain ⟨x,t',k1,k2,k3,k4,k5⟩:=key
        have l1:(one j).length=1:=rfl
        refine ⟨_,rfl,_,rfl,rfl,_,rfl,_,_,j,[],rfl,rfl,idx_q hj4,p,_,_,x,rfl,rfl,SqT.of (s2 _ _ e),k1,_,rfl,_,rfl,_,_,rfl,rfl,(by rw [l1]; exact small (by omega)),x,t',z++one j,k,n,rfl,k2.up s2.tups,k3,IsC.app hz (IsC.one hj4),by rw [app_len,l1]; omega,hn,by omega,by omega,k4,fun l2 us2 H3 s3 hl2 u3 hus2 => ?_⟩
        rw [dig_app,dig_one] at hus2
        have u2':=s3 _ _ u2
        have et:(ps.take (j + 1)).flatten=(ps.take j).flatten++lvs (dig z++[j]) t':=by rw [List.take_add_one,k5,List.flatten_append]; simp
        have n1:=hus.len
        have n2:=hus2.len
        have n3:(ps.take j).flatten.length≤ps.flatten.length:=by
          conv=>rhs; rw [← List.take_append_drop j ps,List.flatten_append,List.length_append]
          omega
        have n4:=lvs_count t' (dig z++[j])
        refine ⟨l,l2,_,_,rfl,rfl,u2',u3,big (by omega),fun l3 hl3 => ?_⟩
        have s4:=Same.new hl3 (.lst (us++us2))
        refine ⟨s2.trans (s3.trans s4),l3,us++us2,_,Same.none (s2.trans s3) hl3,upd_same,hj4,?_,rfl⟩
        rw [et]
        exact (hus.up (s3.trans s4).tups).app (hus2.up s4.tups)
      · rintro σ H2 ⟨s2,l,us,o3,hl1,u2,hj4,hus,rfl⟩
        have e4:(ps.take ("0123" : Str).length).flatten=lvs (dig z) (.four ta tb tc td):=by
          rw [show ("0123" : Str).length=4 by decide +kernel,List.take_of_length_le (by omega),eps]
          simp [lvs]
        rw [e4] at hus
        exact ⟨_,rfl,q' l us H2 s2 hl1 u2 hus⟩
end
end Qs
namespace Qs
open PySem L2
theorem cutV_drop (xs:List V) {k:Nat} (h:k≤xs.length):cutV xs (some (k:Int)) none=xs.drop k:=by
  unfold cutV
  have e0:HT.sIx xs.length 0 (some (k:Int))=k:=by
    unfold HT.sIx
    first | (simp; omega) | (dsimp only; split <;> omega)
  have e1:HT.sIx xs.length xs.length none=xs.length:=rfl
  rw [e0,e1]
  exact List.take_of_length_le (by rw [List.length_drop]; exact Nat.le_refl _)
theorem cutV_take (xs:List V) {k:Nat} (h:k≤xs.length):cutV xs none (some (k:Int))=xs.take k:=by
  unfold cutV
  have e0:HT.sIx xs.length 0 none=0:=rfl
  have e1:HT.sIx xs.length xs.length (some (k:Int))=k:=by
    unfold HT.sIx
    first | (simp; omega) | (dsimp only; split <;> omega)
  rw [e0,e1,List.drop_zero,Nat.sub_zero]
theorem drop_get {α:Type} {L:List α} {i:Nat} {q:α} (h:L[i]? = some q):L.drop i=q::L.drop (i + 1):=by
  obtain ⟨hi,e⟩:=List.getElem?_eq_some_iff.mp h
  rw [← e]; exact List.drop_eq_getElem_cons hi
theorem shl_one (n:Nat):(1:Int) * 2 ^ ((n:Int)).toNat=((2 ^ n:Nat):Int):=by
  rw [Int.toNat_natCast,Int.one_mul,Int.natCast_pow]; rfl
end Qs
namespace Qs
open PySem L2

theorem bt_ValueError:bootBuiltins "ValueError" = some (.type "ValueError"):=by decide +kernel
theorem cps_app (a b:Str):(a++b).cps.toList=a.cps.toList++b.cps.toList:=by
  show (a.cps++b.cps).toList=_
  simp
theorem sign_no {a b:Str} {c n:Nat} (h:¬ (48≤c∧c≤51)):¬ (IsC (a++(⟨#[c]⟩:Str)++b)∧(a++(⟨#[c]⟩:Str)++b).length≤n):=fun z=>h (z.1 c (by rw [cps_app,cps_app]; simp))
theorem odd_four (k:Nat) (h:k < 4):∃ c:Nat,atI ("4a -" : Str).cps.toList (k:Int)=some c∧¬ (48≤c∧c≤51)∧c < 128:=by
  have e:("4a -" : Str).cps.toList=[52,97,32,45]:=by decide +kernel
  rw [e]
  rcases k with _ | _ | _ | _ | k
  all_goals first | omega | exact ⟨_,rfl,by decide,by decide⟩

def DX (H:Hp) (x:V):Prop:=∃ d,Dat H x d∧d.canLay0=true∧d.depth≤1
theorem DX.int {H:Hp} (i:Int):DX H (.int i):=⟨_,.int i,rfl,Nat.zero_le _⟩
theorem DX.bl {H:Hp} (b:Bool):DX H (.bl b):=⟨_,.bl b,rfl,Nat.zero_le _⟩
theorem DX.non {H:Hp}:DX H .non:=⟨_,.non,rfl,Nat.zero_le _⟩
theorem DX.str {H:Hp} {z:Str} (h:PyData.strOk z=true):DX H (.str z):=⟨_,.str z,h,Nat.zero_le _⟩
theorem DX.four {H:Hp} {p:Addr} {a b c d:Int} (h:H p=some (.tup [.int a,.int b,.int c,.int d])):DX H (.ref p):=⟨_,.tup h (.cons (.int _) (.cons (.int _) (.cons (.int _) (.cons (.int _) .nil)))),rfl,Nat.le_refl 1⟩
theorem DX.oneS {H:Hp} {p:Addr} {z:Str} (k:PyData.strOk z=true) (h:H p=some (.lst [.str z])):DX H (.ref p):=⟨_,.lst h (.cons (.str _) .nil),(by show (PyData.strOk z && true)=true; rw [k]; rfl),Nat.le_refl 1⟩
theorem strOk_app {a b:Str} (ha:PyData.strOk a=true) (hb:PyData.strOk b=true):PyData.strOk (a++b)=true:=by
  unfold PyData.strOk at *
  show (a.cps++b.cps).all _=true
  rw [Array.all_append,ha,hb]
  rfl
theorem strOk_one {c:Nat} (h:c < 128):PyData.strOk (⟨#[c]⟩:Str)=true:=by
  unfold PyData.strOk
  show (#[c]:Array Nat).all _=true
  simp
  omega
theorem pos_pow30:(0:Int) < 10 ^ ((30:Int)).toNat:=by decide +kernel

structure F12 {K:PySem.W.Frag} {mg:Str→Option Value} (Y:Yx K mg) (C:Addr) (j:Nat):Prop where
  k:ExcC K C
  s:PySem.W.exmOne K (.ref C) (.ref Y.c_SheetError)=some true
  v:PySem.W.kitOne K (.ref C) (.type "ValueError")=some true
  i_NoLevel:PySem.W.kitOne K (.ref C) (.ref Y.c_NoLevel)=some (decide (j=0))
  i_NoCode:PySem.W.kitOne K (.ref C) (.ref Y.c_NoCode)=some (decide (j=1))
  i_NoColour:PySem.W.kitOne K (.ref C) (.ref Y.c_NoColour)=some (decide (j=2))
  i_NoPlace:PySem.W.kitOne K (.ref C) (.ref Y.c_NoPlace)=some (decide (j=3))
  i_NoSide:PySem.W.kitOne K (.ref C) (.ref Y.c_NoSide)=some (decide (j=4))
  i_NoLeaf:PySem.W.kitOne K (.ref C) (.ref Y.c_NoLeaf)=some (decide (j=5))
  i_Twice:PySem.W.kitOne K (.ref C) (.ref Y.c_Twice)=some (decide (j=6))
  i_Gap:PySem.W.kitOne K (.ref C) (.ref Y.c_Gap)=some (decide (j=7))
  i_NoText:PySem.W.kitOne K (.ref C) (.ref Y.c_NoText)=some (decide (j=8))
  i_NoName:PySem.W.kitOne K (.ref C) (.ref Y.c_NoName)=some (decide (j=9))
  i_NoNumber:PySem.W.kitOne K (.ref C) (.ref Y.c_NoNumber)=some (decide (j=10))
  i_NoRow:PySem.W.kitOne K (.ref C) (.ref Y.c_NoRow)=some (decide (j=11))
section
variable {P:Program} {w:World} {K:PySem.W.Frag} {mg:Str→Option Value} {base:Heap} {CX:CXT} {f:Addr} {fd:FuncData}
theorem f12_NoLevel (Y:Yx K mg):F12 Y Y.c_NoLevel 0:=⟨Y.k_NoLevel,Y.s_NoLevel,Y.v_NoLevel,kit_same,Y.t_NoLevel_NoCode,Y.t_NoLevel_NoColour,Y.t_NoLevel_NoPlace,Y.t_NoLevel_NoSide,Y.t_NoLevel_NoLeaf,Y.t_NoLevel_Twice,Y.t_NoLevel_Gap,Y.t_NoLevel_NoText,Y.t_NoLevel_NoName,Y.t_NoLevel_NoNumber,Y.t_NoLevel_NoRow⟩
theorem f12_NoCode (Y:Yx K mg):F12 Y Y.c_NoCode 1:=⟨Y.k_NoCode,Y.s_NoCode,Y.v_NoCode,Y.t_NoCode_NoLevel,kit_same,Y.t_NoCode_NoColour,Y.t_NoCode_NoPlace,Y.t_NoCode_NoSide,Y.t_NoCode_NoLeaf,Y.t_NoCode_Twice,Y.t_NoCode_Gap,Y.t_NoCode_NoText,Y.t_NoCode_NoName,Y.t_NoCode_NoNumber,Y.t_NoCode_NoRow⟩
theorem f12_NoColour (Y:Yx K mg):F12 Y Y.c_NoColour 2:=⟨Y.k_NoColour,Y.s_NoColour,Y.v_NoColour,Y.t_NoColour_NoLevel,Y.t_NoColour_NoCode,kit_same,Y.t_NoColour_NoPlace,Y.t_NoColour_NoSide,Y.t_NoColour_NoLeaf,Y.t_NoColour_Twice,Y.t_NoColour_Gap,Y.t_NoColour_NoText,Y.t_NoColour_NoName,Y.t_NoColour_NoNumber,Y.t_NoColour_NoRow⟩
theorem f12_NoPlace (Y:Yx K mg):F12 Y Y.c_NoPlace 3:=⟨Y.k_NoPlace,Y.s_NoPlace,Y.v_NoPlace,Y.t_NoPlace_NoLevel,Y.t_NoPlace_NoCode,Y.t_NoPlace_NoColour,kit_same,Y.t_NoPlace_NoSide,Y.t_NoPlace_NoLeaf,Y.t_NoPlace_Twice,Y.t_NoPlace_Gap,Y.t_NoPlace_NoText,Y.t_NoPlace_NoName,Y.t_NoPlace_NoNumber,Y.t_NoPlace_NoRow⟩
theorem f12_Twice (Y:Yx K mg):F12 Y Y.c_Twice 6:=⟨Y.k_Twice,Y.s_Twice,Y.v_Twice,Y.t_Twice_NoLevel,Y.t_Twice_NoCode,Y.t_Twice_NoColour,Y.t_Twice_NoPlace,Y.t_Twice_NoSide,Y.t_Twice_NoLeaf,kit_same,Y.t_Twice_Gap,Y.t_Twice_NoText,Y.t_Twice_NoName,Y.t_Twice_NoNumber,Y.t_Twice_NoRow⟩
theorem f12_Gap (Y:Yx K mg):F12 Y Y.c_Gap 7:=⟨Y.k_Gap,Y.s_Gap,Y.v_Gap,Y.t_Gap_NoLevel,Y.t_Gap_NoCode,Y.t_Gap_NoColour,Y.t_Gap_NoPlace,Y.t_Gap_NoSide,Y.t_Gap_NoLeaf,Y.t_Gap_Twice,kit_same,Y.t_Gap_NoText,Y.t_Gap_NoName,Y.t_Gap_NoNumber,Y.t_Gap_NoRow⟩
abbrev s_law_no_level:Stmt:=top 50
theorem sc_law_no_level:FnScope ["_law_cell","_law_rest"] ["_law_cell"] (defScope s_law_no_level):=⟨rfl,rfl,rfl,by decide +kernel,rfl,by decide +kernel,by decide +kernel⟩
def sp_law_no_level (K:PySem.W.Frag):Sp:=fun vs H Q _=>∃ c:Int,vs=[.int c]∧∀ (x:V) (H':Hp),Same H H'→BadL K H' 0 x→Q x H'
theorem ok_law_no_level (T:Tx K mg) (F:FunD K "_law_no_level" "_law_no_level" s_law_no_level f fd .none):FnOk P w K mg base CX 1 f fd ["_law_cell"] (sp_law_no_level K):=by
  refine F.oks sc_law_no_level (fun vs H Q E h => ?_) (fun cdv A outer s H vs Q E hr h => ?_)
  · obtain ⟨_,rfl,_⟩:=h
    rfl
  obtain ⟨c,rfl,q'⟩:=h
  refine ⟨_,(pssx_cons (PSx.mk (ps_set (i:=1) sc_law_no_level.nd rfl (Or.inl rfl) (pe_op op_fdivW (pv 0) pe_int) (hs:=swaps_of rfl))) (pssx_cons (psx_if (pt_cmpR op_eq (pe_op op_mod (pv 0) pe_int) pe_int (nomark _)) (pssx_one (PSx.mk (ps_ret (pe_op op_sub (pe_un un_neg pe_int) (pe_op op_mod (pv 1) (pe_op op_pow pe_int pe_int)))))) pssx_nil) (pssx_cons (psx_if (pt_cmpR op_eq (pe_op op_mod (pv 0) pe_int) pe_int (nomark _)) (pssx_one (PSx.mk (ps_ret (pe_op op_add pe_int (pe_op op_mod (pv 1) (pe_op op_pow pe_int pe_int)))))) pssx_nil) (pssx_one (psx_ret (pex_ix ix_list (pex_lst (pax_k 4 rfl (pax_cx (PEx.mk (pe_un un_neg pe_int)) (pax_cx (pex_tup (pax_cx (PEx.mk pe_int) pax_nil)) pax_nil)))) (pe_op op_mod (pv 1) pe_int) (fun _ _=>rfl))))))),?_⟩
  refine ⟨_,rfl,_,_,rfl,rfl,cdivW (by decide) (by decide),?_⟩
  have f0:0≤c / 3 % 10 ^ ((30:Int)).toNat:=Int.emod_nonneg _ (Int.ne_of_gt pos_pow30)
  refine ⟨_,rfl,_,_,rfl,rfl,(by show (0:Int) < 3; decide),rfl,_,rfl,ite2 (fun _ => ?_) (fun _ => ?_)⟩
  · exact ⟨_,rfl,_,rfl,_,_,rfl,rfl,⟨by decide,by decide,by decide⟩,_,_,rfl,rfl,pos_pow30,_,_,rfl,rfl,q' _ H (Same.refl H) (.inl ⟨_,rfl,by omega⟩)⟩
  refine ⟨_,rfl,_,_,rfl,rfl,(by show (0:Int) < 3; decide),rfl,_,rfl,ite2 (fun _ => ?_) (fun _ => ?_)⟩
  · exact ⟨_,rfl,_,_,rfl,rfl,⟨by decide,by decide,by decide⟩,_,_,rfl,rfl,pos_pow30,_,_,rfl,rfl,q' _ H (Same.refl H) (.inl ⟨_,rfl,by omega⟩)⟩
  refine ⟨1,rfl,(by show 1≤sizeLine; decide),fun p1 g1 => ?_⟩
  generalize e1:upd H p1 _=A1
  have t1:Same H A1:=e1▸Same.new g1 _
  have u1:A1 p1=some (.tup [.int 3]):=by rw [← e1]; exact upd_same
  refine ⟨(by show 6≤sizeLine; decide),fun p2 g2 => ?_⟩
  have t2:=Same.new g2 (.lst ([V.bl true,.non,.str "3",.int 41]++[V.int (-1),.ref p1]))
  have u2:upd A1 p2 (.lst ([V.bl true,.non,.str "3",.int 41]++[V.int (-1),.ref p1])) p2=some (.lst [V.bl true,.non,.str "3",.int 41,V.int (-1),.ref p1]):=upd_same
  have v1:=t2 _ _ u1
  generalize upd A1 p2 (.lst ([V.bl true,.non,.str "3",.int 41]++[V.int (-1),.ref p1]))=A2 at *
  obtain ⟨k,hk,ek⟩:∃ k:Nat,k < 6∧c / 3 % 6=(k:Int):=⟨(c / 3 % 6).toNat,by omega,by omega⟩
  have pick:∃ x,atI [V.bl true,.non,.str "3",.int 41,V.int (-1),.ref p1] (c / 3 % 6)=some x∧BadL K A2 0 x:=by
    rw [ek]
    rcases k with _ | _ | _ | _ | _ | _ | k
    · exact ⟨_,rfl,.inr (.inl ⟨_,rfl⟩)⟩
    · exact ⟨_,rfl,.inr (.inr ⟨_,.non,kit_ni⟩)⟩
    · exact ⟨_,rfl,.inr (.inr ⟨_,.str _,kit_si⟩)⟩
    · exact ⟨_,rfl,.inl ⟨_,rfl,by omega⟩⟩
    · exact ⟨_,rfl,.inl ⟨_,rfl,by omega⟩⟩
    · exact ⟨_,rfl,.inr (.inr ⟨_,.tup v1,kit_ti⟩)⟩
    · omega
  obtain ⟨x,ex,bx⟩:=pick
  exact ⟨_,rfl,_,_,rfl,rfl,(by show (0:Int) < 6; decide),p2,_,_,x,rfl,rfl,SqL.of u2,ex,q' x _ (t1.trans t2) bx⟩
abbrev s_law_no_colour:Stmt:=top 51
theorem sc_law_no_colour:FnScope ["_law_cell","_law_rest"] ["_law_cell"] (defScope s_law_no_colour):=⟨rfl,rfl,rfl,by decide +kernel,rfl,by decide +kernel,by decide +kernel⟩
def sp_law_no_colour (K:PySem.W.Frag):Sp:=fun vs H Q _=>∃ c:Int,vs=[.int c]∧∀ (x:V) (H':Hp),Same H H'→BadI K H' 35 x→DX H' x→Q x H'
theorem ok_law_no_colour (T:Tx K mg) (F:FunD K "_law_no_colour" "_law_no_colour" s_law_no_colour f fd .none):FnOk P w K mg base CX 1 f fd ["_law_cell"] (sp_law_no_colour K):=by
  refine F.oks sc_law_no_colour (fun vs H Q E h => ?_) (fun cdv A outer s H vs Q E hr h => ?_)
  · obtain ⟨_,rfl,_⟩:=h
    rfl
  obtain ⟨c,rfl,q'⟩:=h
  refine ⟨_,(pssx_cons (PSx.mk (ps_set (i:=1) sc_law_no_colour.nd rfl (Or.inl rfl) (pe_op op_fdivW (pv 0) pe_int) (hs:=swaps_of rfl))) (pssx_cons (psx_if (pt_cmpR op_eq (pe_op op_mod (pv 0) pe_int) pe_int (nomark _)) (pssx_one (PSx.mk (ps_ret (pe_op op_sub (pe_un un_neg pe_int) (pe_op op_mod (pv 1) (pe_op op_pow pe_int pe_int)))))) pssx_nil) (pssx_cons (psx_if (pt_cmpR op_eq (pe_op op_mod (pv 0) pe_int) pe_int (nomark _)) (pssx_one (PSx.mk (ps_ret (pe_op op_add pe_int (pe_op op_mod (pv 1) (pe_op op_pow pe_int pe_int)))))) pssx_nil) (pssx_one (psx_ret (pex_ix ix_list (pex_lst (pax_k 4 rfl (pax_cx (PEx.mk (pe_un un_neg pe_int)) (pax_cx (pex_tup (pax_all rfl)) pax_nil)))) (pe_op op_mod (pv 1) pe_int) (fun _ _=>rfl))))))),?_⟩
  refine ⟨_,rfl,_,_,rfl,rfl,cdivW (by decide) (by decide),?_⟩
  have f0:0≤c / 3 % 10 ^ ((30:Int)).toNat:=Int.emod_nonneg _ (Int.ne_of_gt pos_pow30)
  refine ⟨_,rfl,_,_,rfl,rfl,(by show (0:Int) < 3; decide),rfl,_,rfl,ite2 (fun _ => ?_) (fun _ => ?_)⟩
  · exact ⟨_,rfl,_,rfl,_,_,rfl,rfl,⟨by decide,by decide,by decide⟩,_,_,rfl,rfl,pos_pow30,_,_,rfl,rfl,q' _ H (Same.refl H) (.inl ⟨_,rfl,by omega⟩) (DX.int _)⟩
  refine ⟨_,rfl,_,_,rfl,rfl,(by show (0:Int) < 3; decide),rfl,_,rfl,ite2 (fun _ => ?_) (fun _ => ?_)⟩
  · exact ⟨_,rfl,_,_,rfl,rfl,⟨by decide,by decide,by decide⟩,_,_,rfl,rfl,pos_pow30,_,_,rfl,rfl,q' _ H (Same.refl H) (.inl ⟨_,rfl,by omega⟩) (DX.int _)⟩
  refine ⟨1,rfl,(by show 4≤sizeLine; decide),fun p1 g1 => ?_⟩
  generalize e1:upd H p1 _=A1
  have t1:Same H A1:=e1▸Same.new g1 _
  have u1:A1 p1=some (.tup [.int 1,.int 2,.int 3,.int 4]):=by rw [← e1]; exact upd_same
  refine ⟨(by show 6≤sizeLine; decide),fun p2 g2 => ?_⟩
  have t2:=Same.new g2 (.lst ([V.bl false,.non,.str "3",.int 36]++[V.int (-1),.ref p1]))
  have u2:upd A1 p2 (.lst ([V.bl false,.non,.str "3",.int 36]++[V.int (-1),.ref p1])) p2=some (.lst [V.bl false,.non,.str "3",.int 36,V.int (-1),.ref p1]):=upd_same
  have v1:=t2 _ _ u1
  generalize upd A1 p2 (.lst ([V.bl false,.non,.str "3",.int 36]++[V.int (-1),.ref p1]))=A2 at *
  obtain ⟨k,hk,ek⟩:∃ k:Nat,k < 6∧c / 3 % 6=(k:Int):=⟨(c / 3 % 6).toNat,by omega,by omega⟩
  have pick:∃ x,atI [V.bl false,.non,.str "3",.int 36,V.int (-1),.ref p1] (c / 3 % 6)=some x∧BadI K A2 35 x∧DX A2 x:=by
    rw [ek]
    rcases k with _ | _ | _ | _ | _ | _ | k
    · exact ⟨_,rfl,.inr (.inl ⟨_,rfl⟩),DX.bl _⟩
    · exact ⟨_,rfl,.inr (.inr ⟨_,.non,kit_ni⟩),DX.non⟩
    · exact ⟨_,rfl,.inr (.inr ⟨_,.str _,kit_si⟩),DX.str (by decide +kernel)⟩
    · exact ⟨_,rfl,.inl ⟨_,rfl,by omega⟩,DX.int _⟩
    · exact ⟨_,rfl,.inl ⟨_,rfl,by omega⟩,DX.int _⟩
    · exact ⟨_,rfl,.inr (.inr ⟨_,.tup v1,kit_ti⟩),DX.four v1⟩
    · omega
  obtain ⟨x,ex,bx,dx⟩:=pick
  exact ⟨_,rfl,_,_,rfl,rfl,(by show (0:Int) < 6; decide),p2,_,_,x,rfl,rfl,SqL.of u2,ex,q' x _ (t1.trans t2) bx dx⟩
abbrev s_law_no_code:Stmt:=top 52
theorem sc_law_no_code:FnScope ["_law_cell","_law_level","_law_rest"] ["_law_cell","_law_level"] (defScope s_law_no_code):=⟨rfl,rfl,rfl,by decide +kernel,rfl,by decide +kernel,by decide +kernel⟩
def sp_law_no_code (K:PySem.W.Frag):Sp:=fun vs H Q _=>∃ (c:Int) (n:Nat),vs=[.int c,.int (n:Int)]∧n≤40∧∀ (x:V) (H':Hp),Same H H'→BadC K H' n x→DX H' x→Q x H'
theorem ok_law_no_code (T:Tx K mg) (q:Quiet CX) (F:FunD K "_law_no_code" "_law_no_code" s_law_no_code f fd .none) (C__law_code:Fok P w K mg base CX 1 "_law_code" ["_law_cell","_law_size"] [] sp_law_code):FnOk P w K mg base CX 2 f fd ["_law_cell","_law_level"] (sp_law_no_code K):=by
  refine F.oks sc_law_no_code (fun vs H Q E h => ?_) (fun cdv A outer s H vs Q E hr h => ?_)
  · obtain ⟨_,_,rfl,_⟩:=h
    rfl
  obtain ⟨c,n,rfl,hn,q'⟩:=h
  refine ⟨_,(pssx_cons (PSx.mk (ps_set (i:=2) sc_law_no_code.nd rfl (Or.inl rfl) (pe_op op_fdivW (pv 0) pe_int) (hs:=swaps_of rfl))) (pssx_cons (psx_if (pt_cmpR op_eq (pe_op op_mod (pv 0) pe_int) pe_int (nomark _)) (pssx_one (PSx.mk (ps_ret (pe_callF C__law_code q hr (pa_cons (pv 2) (pa_cons (pe_op op_add (pe_op op_add (pv 1) pe_int) (pe_op op_mod (pv 2) pe_int)) pa_nil)))))) pssx_nil) (pssx_cons (psx_if (pt_cmpR op_eq (pe_op op_mod (pv 0) pe_int) pe_int (nomark _)) (pssx_one (PSx.mk (ps_ret (pe_op op_add_str (pe_op op_add_str (pe_callF C__law_code q hr (pa_cons (pv 2) (pa_cons (pe_op op_fdivW (pv 1) pe_int) pa_nil))) (pe_ix ix_str pe_str (pe_op op_mod (pv 2) pe_int) (fun _ _=>rfl))) (pe_callF C__law_code q hr (pa_cons (pe_op op_fdivW (pv 2) pe_int) (pa_cons (pe_op op_fdivW (pv 1) pe_int) pa_nil))))))) pssx_nil) (pssx_one (psx_ret (pex_ix ix_list (pex_lst (pax_k 3 rfl (pax_cx (pex_lst (pax_cx (PEx.mk pe_str) pax_nil)) (pax_cx (PEx.mk pe_str) (pax_cx (PEx.mk (pe_un un_neg pe_int)) pax_nil))))) (pe_op op_mod (pv 2) pe_int) (fun _ _=>rfl))))))),?_⟩
  refine ⟨_,rfl,_,_,rfl,rfl,cdivW (by decide) (by decide),?_⟩
  refine ⟨_,rfl,_,_,rfl,rfl,(by show (0:Int) < 3; decide),rfl,_,rfl,ite2 (fun _ => ?_) (fun _ => ?_)⟩
  · refine ⟨_,rfl,_,rfl,_,_,rfl,rfl,_,rfl,_,_,rfl,rfl,(by show (0:Int) < 3; decide),_,_,rfl,rfl,c / 3,((n:Int) + 1 + c / 3 % 3).toNat,(by show [V.int (c / 3),V.int ((n:Int) + 1 + c / 3 % 3)]=[V.int (c / 3),V.int _]; rw [Int.toNat_of_nonneg (by omega)]),by omega,fun ds H' hl hd sm => ?_⟩
    have l:(txt ds).length=((n:Int) + 1 + c / 3 % 3).toNat:=by rw [txt_len,hl]
    exact q' _ _ sm (.inl ⟨_,rfl,by omega,fun z=>by omega⟩) (DX.str (strOk_isC (txt_isC hd)))
  refine ⟨_,rfl,_,_,rfl,rfl,(by show (0:Int) < 3; decide),rfl,_,rfl,ite2 (fun _ => ?_) (fun _ => ?_)⟩
  · have e2:(n:Int) / 2=((n / 2:Nat):Int):=by omega
    have e3:(n:Int) / 3=((n / 3:Nat):Int):=by omega
    refine ⟨_,rfl,_,rfl,_,_,rfl,rfl,cdivW (by decide) (by decide),c / 3,n / 2,(by show [V.int (c / 3),V.int ((n:Int) / 2)]=[V.int (c / 3),V.int _]; rw [e2]),by omega,fun ds H1 hl hd s1 => ?_⟩
    have l1:(txt ds).length=n / 2:=by rw [txt_len,hl]
    have o1:=strOk_isC (txt_isC hd)
    generalize txt ds=z1 at *
    obtain ⟨k,hk,ek⟩:∃ k:Nat,k < 4∧c / 3 % 4=(k:Int):=⟨(c / 3 % 4).toNat,by omega,by omega⟩
    obtain ⟨sg,esg,bsg,lsg⟩:=odd_four k hk
    refine ⟨_,rfl,_,_,rfl,rfl,(by show (0:Int) < 4; decide),_,_,sg,rfl,rfl,(by show 4≤sizeLine; decide),by rw [ek]; exact esg,_,_,rfl,rfl,(by show z1.length + 1≤sizeLine; exact small (by omega)),?_⟩
    refine ⟨_,rfl,_,_,rfl,rfl,cdivW (by decide) (by decide),_,rfl,_,_,rfl,rfl,cdivW (by decide) (by decide),c / 3 / 5,n / 3,(by show [V.int (c / 3 / 5),V.int ((n:Int) / 3)]=[V.int (c / 3 / 5),V.int _]; rw [e3]),by omega,fun ds2 H2 hl2 hd2 s2 => ?_⟩
    have l2:(txt ds2).length=n / 3:=by rw [txt_len,hl2]
    have o2:=strOk_isC (txt_isC hd2)
    generalize txt ds2=z2 at *
    have l3:(z1++(⟨#[sg]⟩:Str)).length=z1.length + 1:=by rw [app_len]; rfl
    exact ⟨_,_,rfl,rfl,(by show (z1++(⟨#[sg]⟩:Str)).length + z2.length≤sizeLine; exact small (by omega)),q' _ _ (s1.trans s2) (.inl ⟨_,rfl,by rw [app_len]; omega,sign_no bsg⟩) (DX.str (strOk_app (strOk_app o1 (strOk_one lsg)) o2))⟩
  refine ⟨(by show 1≤sizeLine; decide),fun p1 g1 => ?_⟩
  generalize e1:upd H p1 _=A1
  have t1:Same H A1:=e1▸Same.new g1 _
  have u1:A1 p1=some (.lst [.str "0"]):=by rw [← e1]; exact upd_same
  refine ⟨1,rfl,(by show 6≤sizeLine; decide),fun p2 g2 => ?_⟩
  have t2:=Same.new g2 (.lst ([V.int 0,.non,.bl true]++[V.ref p1,.str "x",.int (-1)]))
  have u2:upd A1 p2 (.lst ([V.int 0,.non,.bl true]++[V.ref p1,.str "x",.int (-1)])) p2=some (.lst [V.int 0,.non,.bl true,V.ref p1,.str "x",.int (-1)]):=upd_same
  have v1:=t2 _ _ u1
  generalize upd A1 p2 (.lst ([V.int 0,.non,.bl true]++[V.ref p1,.str "x",.int (-1)]))=A2 at *
  obtain ⟨k,hk,ek⟩:∃ k:Nat,k < 6∧c / 3 % 6=(k:Int):=⟨(c / 3 % 6).toNat,by omega,by omega⟩
  have pick:∃ x,atI [V.int 0,.non,.bl true,V.ref p1,.str "x",.int (-1)] (c / 3 % 6)=some x∧BadC K A2 n x∧DX A2 x:=by
    rw [ek]
    rcases k with _ | _ | _ | _ | _ | _ | k
    · exact ⟨_,rfl,.inr ⟨_,.int _,kit_is⟩,DX.int _⟩
    · exact ⟨_,rfl,.inr ⟨_,.non,kit_ns⟩,DX.non⟩
    · exact ⟨_,rfl,.inr ⟨_,.bl _,kit_bs⟩,DX.bl _⟩
    · exact ⟨_,rfl,.inr ⟨_,.lst v1,kit_ls⟩,DX.oneS (by decide +kernel) v1⟩
    · exact ⟨_,rfl,.inl ⟨_,rfl,by decide +kernel,fun z=>absurd (z.1 120 (by decide +kernel)) (by decide)⟩,DX.str (by decide +kernel)⟩
    · exact ⟨_,rfl,.inr ⟨_,.int _,kit_is⟩,DX.int _⟩
    · omega
  obtain ⟨x,ex,bx,dx⟩:=pick
  exact ⟨_,rfl,_,_,rfl,rfl,(by show (0:Int) < 6; decide),p2,_,_,x,rfl,rfl,SqL.of u2,ex,q' x _ (t1.trans t2) bx dx⟩
abbrev s_law_no_place:Stmt:=top 53
theorem sc_law_no_place:FnScope ["_law_cell","_law_wide","_law_rest"] ["_law_cell","_law_wide"] (defScope s_law_no_place):=⟨rfl,rfl,rfl,by decide +kernel,rfl,by decide +kernel,by decide +kernel⟩
def sp_law_no_place (K:PySem.W.Frag):Sp:=fun vs H Q _=>∃ (c:Int) (n:Nat),vs=[.int c,.int ((2 ^ n:Nat):Int)]∧∀ (x:V) (H':Hp),Same H H'→BadP K H' n x→Q x H'
theorem ok_law_no_place (T:Tx K mg) (F:FunD K "_law_no_place" "_law_no_place" s_law_no_place f fd .none):FnOk P w K mg base CX 1 f fd ["_law_cell","_law_wide"] (sp_law_no_place K):=by
  refine F.oks sc_law_no_place (fun vs H Q E h => ?_) (fun cdv A outer s H vs Q E hr h => ?_)
  · obtain ⟨_,_,rfl,_⟩:=h
    rfl
  obtain ⟨c,n,rfl,q'⟩:=h
  refine ⟨_,(pssx_cons (PSx.mk (ps_set (i:=2) sc_law_no_place.nd rfl (Or.inl rfl) (pe_op op_fdivW (pv 0) pe_int) (hs:=swaps_of rfl))) (pssx_cons (psx_if (pt_cmpR op_eq (pe_op op_mod (pv 0) pe_int) pe_int (nomark _)) (pssx_one (PSx.mk (ps_ret (pe_op op_add (pv 1) (pe_op op_mod (pv 2) (pe_op op_pow pe_int pe_int)))))) pssx_nil) (pssx_cons (psx_if (pt_cmpR op_eq (pe_op op_mod (pv 0) pe_int) pe_int (nomark _)) (pssx_one (PSx.mk (ps_ret (pe_op op_sub (pe_un un_neg pe_int) (pe_op op_mod (pv 2) (pe_op op_pow pe_int pe_int)))))) pssx_nil) (pssx_one (psx_ret (pex_ix ix_list (pex_lst (pax_cx (PEx.mk (pv 1)) (pax_cx (PEx.mk (pe_un un_neg pe_int)) (pax_cx (PEx.mk pe_bl) (pax_cx (PEx.mk pe_non) (pax_cx (PEx.mk pe_str) (pax_cx (pex_tup (pax_cx (PEx.mk pe_int) pax_nil)) pax_nil))))))) (pe_op op_mod (pv 2) pe_int) (fun _ _=>rfl))))))),?_⟩
  refine ⟨_,rfl,_,_,rfl,rfl,cdivW (by decide) (by decide),?_⟩
  have f0:0≤c / 3 % 10 ^ ((30:Int)).toNat:=Int.emod_nonneg _ (Int.ne_of_gt pos_pow30)
  refine ⟨_,rfl,_,_,rfl,rfl,(by show (0:Int) < 3; decide),rfl,_,rfl,ite2 (fun _ => ?_) (fun _ => ?_)⟩
  · refine ⟨_,rfl,_,rfl,_,_,rfl,rfl,⟨by decide,by decide,by decide⟩,_,_,rfl,rfl,pos_pow30,_,_,rfl,rfl,q' _ H (Same.refl H) (.inl ⟨_,rfl,by omega⟩)⟩
  refine ⟨_,rfl,_,_,rfl,rfl,(by show (0:Int) < 3; decide),rfl,_,rfl,ite2 (fun _ => ?_) (fun _ => ?_)⟩
  · refine ⟨_,rfl,_,rfl,_,_,rfl,rfl,⟨by decide,by decide,by decide⟩,_,_,rfl,rfl,pos_pow30,_,_,rfl,rfl,q' _ H (Same.refl H) (.inl ⟨_,rfl,by omega⟩)⟩
  refine ⟨_,rfl,1,rfl,(by show 1≤sizeLine; decide),fun p1 g1 => ?_⟩
  generalize e1:upd H p1 _=A1
  have t1:Same H A1:=e1▸Same.new g1 _
  have u1:A1 p1=some (.tup [.int 0]):=by rw [← e1]; exact upd_same
  refine ⟨(by show 6≤sizeLine; decide),fun p2 g2 => ?_⟩
  have t2:=Same.new g2 (.lst [V.int ((2 ^ n:Nat):Int),.int (-1),.bl false,.non,.str "0",.ref p1])
  have u2:upd A1 p2 (.lst [V.int ((2 ^ n:Nat):Int),.int (-1),.bl false,.non,.str "0",.ref p1]) p2=some (.lst [V.int ((2 ^ n:Nat):Int),.int (-1),.bl false,.non,.str "0",.ref p1]):=upd_same
  have v1:=t2 _ _ u1
  obtain ⟨k,hk,ek⟩:∃ k:Nat,k < 6∧c / 3 % 6=(k:Int):=⟨(c / 3 % 6).toNat,by omega,by omega⟩
  have pick:∃ x,atI [V.int ((2 ^ n:Nat):Int),.int (-1),.bl false,.non,.str "0",.ref p1] (c / 3 % 6)=some x∧BadP K (upd A1 p2 (.lst [V.int ((2 ^ n:Nat):Int),.int (-1),.bl false,.non,.str "0",.ref p1])) n x:=by
    rw [ek]
    rcases k with _ | _ | _ | _ | _ | _ | k
    · exact ⟨_,rfl,.inl ⟨_,rfl,by omega⟩⟩
    · exact ⟨_,rfl,.inl ⟨_,rfl,by omega⟩⟩
    · exact ⟨_,rfl,.inr (.inl ⟨_,rfl⟩)⟩
    · exact ⟨_,rfl,.inr (.inr ⟨_,.non,kit_ni⟩)⟩
    · exact ⟨_,rfl,.inr (.inr ⟨_,.str _,kit_si⟩)⟩
    · exact ⟨_,rfl,.inr (.inr ⟨_,.tup v1,kit_ti⟩)⟩
    · omega
  obtain ⟨x,ex,bx⟩:=pick
  exact ⟨_,rfl,_,_,rfl,rfl,(by show (0:Int) < 6; decide),p2,_,_,x,rfl,rfl,SqL.of u2,ex,q' x _ (t1.trans t2) bx⟩
abbrev s_law_kinds:Stmt:=top 54
theorem sc_law_kinds:FnScope ["_law_e","_law_some"] ["_law_e"] (defScope s_law_kinds):=⟨rfl,rfl,rfl,by decide +kernel,rfl,by decide +kernel,by decide +kernel⟩
def sp_law_kinds (Y:Yx K mg):Sp:=fun vs H Q _=>∃ e C j,vs=[.ref e]∧H e=some (.ext (ExcIs e (.ref C)))∧F12 Y C j∧∀ l H',Same H H'→H' l=some (.lst ((List.range 12).map fun k=>V.bl (decide (j=k))))→Q (.ref l) H'
theorem ok_law_kinds (T:Tx K mg) (Y:Yx K mg) (F:FunD K "_law_kinds" "_law_kinds" s_law_kinds f fd .none):FnOkH P w K mg base CX 1 f fd ["_law_e"] (sp_law_kinds Y):=by
  refine F.okHs sc_law_kinds (fun vs H Q E h => ?_) (fun cdv A outer s H vs Q E hr h => ?_)
  · obtain ⟨_,_,_,rfl,_⟩:=h
    rfl
  obtain ⟨e,C,j,rfl,he,h12,q'⟩:=h
  refine ⟨_,(pssx_cons (psx_set (i:=1) sc_law_kinds.nd rfl (Or.inl rfl) (pex_lst (pax_c (pe_callB (call_isxC (K:=K)) rfl T.b_isinstance bb_isinstance (pa_cons (pv 0) (pa_cons (pe_glob (v:=.ref _) rfl Y.m_NoLevel rfl) pa_nil))) (pax_c (pe_callB (call_isxC (K:=K)) rfl T.b_isinstance bb_isinstance (pa_cons (pv 0) (pa_cons (pe_glob (v:=.ref _) rfl Y.m_NoCode rfl) pa_nil))) (pax_c (pe_callB (call_isxC (K:=K)) rfl T.b_isinstance bb_isinstance (pa_cons (pv 0) (pa_cons (pe_glob (v:=.ref _) rfl Y.m_NoColour rfl) pa_nil))) (pax_c (pe_callB (call_isxC (K:=K)) rfl T.b_isinstance bb_isinstance (pa_cons (pv 0) (pa_cons (pe_glob (v:=.ref _) rfl Y.m_NoPlace rfl) pa_nil))) pax_nil)))))) (pssx_cons (PSx.mk (ps_set (i:=1) sc_law_kinds.nd rfl (Or.inl rfl) (pe_op op_cat (pv 1) (pe_lstx (pax_c (pe_callB (call_isxC (K:=K)) rfl T.b_isinstance bb_isinstance (pa_cons (pv 0) (pa_cons (pe_glob (v:=.ref _) rfl Y.m_NoSide rfl) pa_nil))) (pax_c (pe_callB (call_isxC (K:=K)) rfl T.b_isinstance bb_isinstance (pa_cons (pv 0) (pa_cons (pe_glob (v:=.ref _) rfl Y.m_NoLeaf rfl) pa_nil))) (pax_c (pe_callB (call_isxC (K:=K)) rfl T.b_isinstance bb_isinstance (pa_cons (pv 0) (pa_cons (pe_glob (v:=.ref _) rfl Y.m_Twice rfl) pa_nil))) (pax_c (pe_callB (call_isxC (K:=K)) rfl T.b_isinstance bb_isinstance (pa_cons (pv 0) (pa_cons (pe_glob (v:=.ref _) rfl Y.m_Gap rfl) pa_nil))) pax_nil)))))) (hs:=swaps_of rfl))) (pssx_cons (PSx.mk (ps_set (i:=1) sc_law_kinds.nd rfl (Or.inl rfl) (pe_op op_cat (pv 1) (pe_lstx (pax_c (pe_callB (call_isxC (K:=K)) rfl T.b_isinstance bb_isinstance (pa_cons (pv 0) (pa_cons (pe_glob (v:=.ref _) rfl Y.m_NoText rfl) pa_nil))) (pax_c (pe_callB (call_isxC (K:=K)) rfl T.b_isinstance bb_isinstance (pa_cons (pv 0) (pa_cons (pe_glob (v:=.ref _) rfl Y.m_NoName rfl) pa_nil))) (pax_c (pe_callB (call_isxC (K:=K)) rfl T.b_isinstance bb_isinstance (pa_cons (pv 0) (pa_cons (pe_glob (v:=.ref _) rfl Y.m_NoNumber rfl) pa_nil))) (pax_c (pe_callB (call_isxC (K:=K)) rfl T.b_isinstance bb_isinstance (pa_cons (pv 0) (pa_cons (pe_glob (v:=.ref _) rfl Y.m_NoRow rfl) pa_nil))) pax_nil)))))) (hs:=swaps_of rfl))) (pssx_one (PSx.mk (ps_ret (pv 1))))))),?_⟩
  refine ⟨_,rfl,e,C,Y.c_NoLevel,_,rfl,he,h12.k,h12.i_NoLevel,_,rfl,e,C,Y.c_NoCode,_,rfl,he,h12.k,h12.i_NoCode,_,rfl,e,C,Y.c_NoColour,_,rfl,he,h12.k,h12.i_NoColour,_,rfl,e,C,Y.c_NoPlace,_,rfl,he,h12.k,h12.i_NoPlace,(by show 4≤sizeLine; decide),fun p1 g1 => ?_⟩
  generalize e1:upd H p1 _=A1
  have t1:Same H A1:=e1▸Same.new g1 _
  have u1:A1 p1=some (.lst [V.bl (decide (j=0)),V.bl (decide (j=1)),V.bl (decide (j=2)),V.bl (decide (j=3))]):=by rw [← e1]; exact upd_same
  refine ⟨_,rfl,_,rfl,e,C,Y.c_NoSide,_,rfl,t1 _ _ he,h12.k,h12.i_NoSide,_,rfl,e,C,Y.c_NoLeaf,_,rfl,t1 _ _ he,h12.k,h12.i_NoLeaf,_,rfl,e,C,Y.c_Twice,_,rfl,t1 _ _ he,h12.k,h12.i_Twice,_,rfl,e,C,Y.c_Gap,_,rfl,t1 _ _ he,h12.k,h12.i_Gap,(by show 4≤sizeLine; decide),fun p2 g2 => ?_⟩
  generalize e2:upd A1 p2 _=A2
  have t2:Same A1 A2:=e2▸Same.new g2 _
  have u2:A2 p2=some (.lst [V.bl (decide (j=4)),V.bl (decide (j=5)),V.bl (decide (j=6)),V.bl (decide (j=7))]):=by rw [← e2]; exact upd_same
  refine ⟨p1,p2,_,_,rfl,rfl,t2 _ _ u1,u2,(by show 8≤sizeLine; decide),fun p3 g3 => ?_⟩
  generalize e3:upd A2 p3 _=A3
  have t3:Same A2 A3:=e3▸Same.new g3 _
  have u3:A3 p3=some (.lst [V.bl (decide (j=0)),V.bl (decide (j=1)),V.bl (decide (j=2)),V.bl (decide (j=3)),V.bl (decide (j=4)),V.bl (decide (j=5)),V.bl (decide (j=6)),V.bl (decide (j=7))]):=by rw [← e3]; exact upd_same
  have w3:=t1.trans (t2.trans t3)
  refine ⟨_,rfl,_,rfl,e,C,Y.c_NoText,_,rfl,w3 _ _ he,h12.k,h12.i_NoText,_,rfl,e,C,Y.c_NoName,_,rfl,w3 _ _ he,h12.k,h12.i_NoName,_,rfl,e,C,Y.c_NoNumber,_,rfl,w3 _ _ he,h12.k,h12.i_NoNumber,_,rfl,e,C,Y.c_NoRow,_,rfl,w3 _ _ he,h12.k,h12.i_NoRow,(by show 4≤sizeLine; decide),fun p4 g4 => ?_⟩
  generalize e4:upd A3 p4 _=A4
  have t4:Same A3 A4:=e4▸Same.new g4 _
  have u4:A4 p4=some (.lst [V.bl (decide (j=8)),V.bl (decide (j=9)),V.bl (decide (j=10)),V.bl (decide (j=11))]):=by rw [← e4]; exact upd_same
  refine ⟨p3,p4,_,_,rfl,rfl,t4 _ _ u3,u4,(by show 12≤sizeLine; decide),fun p5 g5 => ?_⟩
  exact ⟨_,rfl,q' p5 _ (w3.trans (t4.trans (Same.new g5 _))) upd_same⟩
abbrev s_law_refused:Stmt:=top 55
theorem sc_law_refused:FnScope ["_law_deed","_law_due_here","_law_e"] ["_law_deed","_law_due_here"] (defScope s_law_refused):=⟨rfl,rfl,rfl,by decide +kernel,rfl,by decide +kernel,by decide +kernel⟩
abbrev RefD (P:Program) (w:World) (K:PySem.W.Frag) (mg:Str→Option Value) (base:Heap) (Y:Yx K mg):Prop:=RefOk P w K mg base 47 48 "_law_refused" ["_law_deed","_law_due_here"] (fun cls zs=>∃ (C:Addr) (j:Nat),cls=.ref C∧zs=[.int (j:Int)]∧F12 Y C j)
theorem ok_law_refused (T:Tx K mg) (Y:Yx K mg) (q:Quiet (CXe P w)) (F:FunD K "_law_refused" "_law_refused" s_law_refused f fd .none) (b:Binds K fd ["_law_deed","_law_due_here"] []) (m:mg "_law_refused" = some (.ref f)) (C__law_kinds:FokH P w K mg base (CXe P w) 1 "_law_kinds" ["_law_e"] (sp_law_kinds Y)):RefD P w K mg base Y:=by
  refine ⟨f,fd,b,F.kp,m,fun Z fa c' o qual R cls zs fdl hdl hbl G hk => ?_⟩
  obtain ⟨C,j,rfl,rfl,h12⟩:=hk
  refine F.okZ sc_law_refused (fun vs H Q E h => ?_) (fun cdv A outer s H vs Q E hr hz h => ?_)
  · obtain ⟨rfl,_⟩:=h
    rfl
  obtain ⟨rfl,h1,h2,hR,q'⟩:=h
  refine ⟨_,(pss_cons (ps_try sc_law_refused.nd (i:=2) rfl rfl rfl rfl rfl Y.m_SheetError rfl (by decide) (fun W pn R pt=>(pss_one (ps_expr (pe_callVS (i:=0) G hdl hbl hz hr pt)))) (fun e=>(pss_one (ps_ret (pe_and (pe_callB (call_isxT (K:=K) "ValueError") rfl T.b_isinstance bb_isinstance (pa_cons (pv 2) (pa_cons (pe_bty T.b_ValueError bt_ValueError) pa_nil))) (pe_one (pe_cmpR (op_eqH hr.inX) (pe_callH C__law_kinds q hr.inX (pa_cons (pv 2) pa_nil)) (pe_compH (N':=["_law_k","_law_due_here"]) e rfl ["_law_due_here"] ["_law_due_here"] [1] 1 (by with_unfolding_all rfl) rfl (capsOk_cons rfl rfl (by decide) capsOk_nil) rfl rfl (by decide) rfl (by decide +kernel) rfl (by decide +kernel) (pih_range1 rfl T.b_range (pa_cons pe_int pa_nil)) (fun C s0 H0 fp pins=>(pg_name (i:=0) (show (["_law_k","_law_due_here"]:List Str).Nodup by decide +kernel) rfl (Or.inl rfl) (Or.inr rfl))) (fun C s0 H0 fp pins=>(pe_cmpR op_eq (pv 1) (pv 0) (nomark _)))) (nomark _)))))))) (pss_one (ps_ret pe_bl))),?_⟩
  refine ⟨rfl,h2,rfl,h1,h2,hR,fun H' s'=>⟨h12.s,fun e he => ?_⟩⟩
  have sE:=Same.new he (.ext (ExcIs e (.ref C)))
  have uE:upd H' e (.ext (ExcIs e (.ref C))) e=some (.ext (ExcIs e (.ref C))):=upd_same
  generalize upd H' e (.ext (ExcIs e (.ref C)))=H1 at *
  refine ⟨_,rfl,e,C,true,rfl,uE,h12.k,h12.v,_,rfl,iteT ?_⟩
  refine ⟨_,rfl,e,C,j,rfl,uE,h12,fun l H3 s3 hl => ?_⟩
  have uE3:=s3 _ _ uE
  have dj:∀ i:Nat,decide (V.int (j:Int)=V.int ((0:Int) + (i:Int)))=decide (j=i):=fun i=>decide_eq_decide.mpr ⟨fun z=>by injection z; omega,fun z=>by rw [z,Int.zero_add]⟩
  refine ⟨[.int (j:Int)],rfl,12,rfl,by decide,by decide,?_⟩
  refine compKH_of (compC_range (lo:=0) (n:=12) (fun D i ys H'=>Same H3 H'∧H' D=some (.lst ys)∧ys=(List.range i).map fun k=>V.bl (decide (j=k))) (by decide) (fun D i ys H' h=>⟨h.2.1,by rw [h.2.2]; simp⟩) (fun D hD=>⟨Same.new hD _,upd_same,rfl⟩) ?_ ?_ (fun _ _ _ _ _ k h=>k _ _ h) ?_)
  · rintro D i ys H' hi hD ⟨c1,c2,c3⟩
    refine ⟨rfl,_,rfl,_,rfl,rfl,c2,Same.set c1 hD _,upd_same,?_⟩
    rw [c3,dj,List.range_succ,List.map_append]
    rfl
  rotate_left
  · rintro σ H' R R' k ⟨a1,e1,a2,e2,h1,h2⟩
    exact ⟨a1,e1,a2,e2,h1,k _ _ h2⟩
  rintro D ys H' hD ⟨c1,c2,c3⟩
  subst c3
  have dat:∀ {a:Addr},H' a=some (.lst ((List.range 12).map fun k=>V.bl (decide (j=k))))→Dat H' (.ref a) (.list ((List.range 12).map fun k=>.bool (decide (j=k)))):=fun {a} h=>.lst h (.cons (.bl _) (.cons (.bl _) (.cons (.bl _) (.cons (.bl _) (.cons (.bl _) (.cons (.bl _) (.cons (.bl _) (.cons (.bl _) (.cons (.bl _) (.cons (.bl _) (.cons (.bl _) (.cons (.bl _) .nil))))))))))))
  refine ⟨⟨_,c1 _ _ uE3⟩,_,_,dat (c1 _ _ hl),dat c2,rfl,rfl,?_⟩
  rw [SeqAt.eqv_refl _ rfl]
  exact q' _ (s'.trans (sE.trans (s3.trans c1)))

end
end Qs


namespace Qs
open PySem L2
theorem in_four (c:Nat):inV (.str (⟨#[c]⟩:Str)) [.str "0",.str "1",.str "2",.str "3"]=sB c:=by
  have e:∀ (d:Nat) (s:String),(Str.ofString s).cps = #[d]→eqV (.str (Str.ofString s)) (.str (⟨#[c]⟩:Str))=decide (c=d):=fun d s h=>by
    have h':Str.ofString s=⟨#[d]⟩:=by
      cases hs:Str.ofString s
      rw [hs] at h
      exact congrArg _ h
    rw [h']
    show (decide ((⟨#[d]⟩:Str)=⟨#[c]⟩))=_
    refine decide_eq_decide.mpr ⟨fun z => ?_,fun z=>by rw [z]⟩
    have:=congrArg (fun s:Str=>s.cps.toList) z
    exact (List.cons.inj this).1.symm
  unfold inV sB
  show (eqV (.str "0") _ || (eqV (.str "1") _ || (eqV (.str "2") _ || (eqV (.str "3") _ || false))))=_
  rw [e 48 "0" (by decide +kernel),e 49 "1" (by decide +kernel),e 50 "2" (by decide +kernel),e 51 "3" (by decide +kernel),Bool.or_false,← Bool.decide_or,← Bool.decide_or,← Bool.decide_or]
  refine decide_eq_decide.mpr ?_
  rw [q_mem]
  omega
theorem takes_ok {es:List EK}:∀ (i:Nat),i≤es.length→(∀ (k:Nat) (e:EK),k < i→es[k]? = some e→∃ r,e=.ok r)→∃ C:List Lf,C.length=i∧es.take i=C.map .ok
  | 0,_,_=>⟨[],rfl,rfl⟩
  | i + 1,hi,h=>by
    obtain ⟨C,lC,eC⟩:=takes_ok i (by omega) fun k e hk he=>h k e (by omega) he
    have g:es[i]? = some es[i]:=List.getElem?_eq_getElem hi
    obtain ⟨r,er⟩:=h i es[i] (by omega) g
    refine ⟨C++[r],by rw [List.length_append,lC]; rfl,?_⟩
    rw [List.take_add_one,g,eC,List.map_append,er]
    rfl
theorem pw_snoc {C:List Lf} {k:Nat} {q:Lf} (hq:C[k]? = some q) (h:(C.take k).Pairwise Apt) (ha:∀ r∈C.take k,Apt r q):(C.take (k + 1)).Pairwise Apt:=by
  rw [List.take_add_one,hq]
  exact List.pairwise_append.mpr ⟨h,List.pairwise_singleton _ _,fun a ma b mb=>by rw [List.mem_singleton.mp mb]; exact ha a ma⟩
section
variable {P:Program} {w:World} {K:PySem.W.Frag} {mg:Str→Option Value} {base:Heap} {CX:CXT} {f:Addr} {fd:FuncData}
abbrev s_law_good:Stmt:=top 58
theorem sc_law_good:FnScope ["_law_code_here","_law_level"] ["_law_code_here","_law_level"] (defScope s_law_good):=⟨rfl,rfl,rfl,by decide +kernel,rfl,by decide +kernel,by decide +kernel⟩
def sp_law_good (K:PySem.W.Frag):Sp:=fun vs H Q _=>∃ (x:V) (n:Nat),vs=[x,.int (n:Int)]∧n≤40∧((∃ z,GoodC n x z∧∀ H',Same H H'→Q (.bl true) H')∨(BadC K H n x∧∀ H',Same H H'→Q (.bl false) H'))
theorem ok_law_good (T:Tx K mg) (F:FunD K "_law_good" "_law_good" s_law_good f fd .none):FnOk P w K mg base CX 1 f fd ["_law_code_here","_law_level"] (sp_law_good K):=by
  refine F.ok sc_law_good (fun vs H Q E h => ?_) (fun cdv A outer s H vs Q E hr h => ?_)
  · obtain ⟨_,_,rfl,_⟩:=h
    rfl
  obtain ⟨x,n,rfl,hn,h⟩:=h
  refine ⟨_,(pss_cons (ps_if (PW.pt (pw_or (pt_not (pt_val (pe_callB (call_isiT "str") rfl T.b_isinstance bb_isinstance (pa_cons (pv 0) (pa_cons (pe_bty T.b_str bt_str) pa_nil))))) (pw_or1 (pt_cmpR op_gt (pe_callB call_len rfl T.b_len bb_len (pa_cons (pv 0) pa_nil)) (pv 1) (nomark _))))) (pss_one (ps_ret pe_bl)) pss_nil) (pss_one (ps_ret (pe_callB (call_all rfl) rfl T.b_all bb_all (pa_cons (pe_compC (N':=["_law_sign"]) [] [] [] 1 (by with_unfolding_all rfl) rfl capsOk_nil rfl rfl (by decide) rfl (by decide +kernel) rfl (by decide +kernel) rfl (pi_str (pv 0)) (fun C s0 H0 fp pins=>(pg_name (i:=0) (show (["_law_sign"]:List Str).Nodup by decide +kernel) rfl (Or.inl rfl) (Or.inr rfl))) (fun C s0 H0 fp pins=>(pe_cmpR (op_in_seqK (K:=K)) (pv 0) (pe_lstx (pax_c pe_str (pax_c pe_str (pax_c pe_str (pax_c pe_str pax_nil))))) (by with_unfolding_all rfl)))) pa_nil))))),?_⟩
  rcases h with ⟨z,⟨rfl,hz,lz⟩,q'⟩ | ⟨⟨z,rfl,lz,hb⟩ | ⟨ty,h1,h2⟩,q'⟩
  · have zs:z.length≤sizeLine:=small (by omega)
    refine ⟨_,rfl,_,_,_,rfl,.str z,kit_ss,_,rfl,iteF ?_⟩
    refine ⟨_,rfl,_,_,rfl,⟨zs,rfl⟩,_,rfl,_,_,rfl,rfl,_,rfl,ite2 (fun c => ?_) (fun c => ?_)⟩
    · have c':(n:Int) < (z.length:Int):=of_decide_eq_true c
      omega
    · have c':¬ (n:Int) < (z.length:Int):=fun w=>c (decide_eq_true w)
      refine ⟨[],rfl,_,rfl,_,rfl,compC_gen (fun D j ys H'=>Same H H'∧H' D=some (.lst ys)∧ys=((List.range j).map fun i=>sB (z.cps.getD i 0)).map V.bl) zs (fun D j ys H' h=>⟨h.2.1,by rw [h.2.2]; simp⟩) (fun D hD=>⟨Same.new hD _,upd_same,rfl⟩) ?_ ?_ (fun _ _ _ _ _ k h=>k _ _ h) ?_⟩
      · rintro D j ys H' hj hD ⟨c1,c2,c3⟩
        refine ⟨rfl,_,rfl,(by show 4≤sizeLine; decide),fun l hl => ?_⟩
        have sl:=Same.new hl (.lst [V.str "0",.str "1",.str "2",.str "3"])
        have c1l:=c1.trans sl
        refine ⟨l,_,rfl,.inl (SqL.of upd_same),rfl,rfl,sl _ _ c2,Same.set c1l hD _,upd_same,?_⟩
        rw [show inV (.str (sgn z j)) [V.str "0",.str "1",.str "2",.str "3"]=sB (z.cps.getD j 0) from in_four _,c3,List.range_succ,List.map_append,List.map_append]
        rfl
      · rintro D ys H' hD ⟨c1,c2,c3⟩
        refine ⟨D,(List.range z.length).map fun i=>sB (z.cps.getD i 0),rfl,SqL.of (by rw [c2,c3]),?_⟩
        have e2:(((List.range z.length).map fun i=>sB (z.cps.getD i 0)).all id)=cB z:=by
          unfold cB
          rw [decide_eq_true (by omega),List.all_map]
          rfl
        rw [e2]
        rw [(cB_iff z).mpr ⟨by omega,hz⟩]
        exact q' H' c1
      · rintro σ H' R R' k ⟨a1,e1,h1,h2⟩
        exact ⟨a1,e1,h1,fun l hl=>by
          obtain ⟨p,xs,f1,f2,f3,f4,f5⟩:=h2 l hl
          exact ⟨p,xs,f1,f2,f3,f4,k _ _ f5⟩⟩
  · have zs:z.length≤sizeLine:=small lz
    refine ⟨_,rfl,_,_,_,rfl,.str z,kit_ss,_,rfl,iteF ?_⟩
    refine ⟨_,rfl,_,_,rfl,⟨zs,rfl⟩,_,rfl,_,_,rfl,rfl,_,rfl,ite2 (fun c => ?_) (fun c => ?_)⟩
    · exact q' H (Same.refl H)
    · have c':¬ (n:Int) < (z.length:Int):=fun w=>c (decide_eq_true w)
      refine ⟨[],rfl,_,rfl,_,rfl,compC_gen (fun D j ys H'=>Same H H'∧H' D=some (.lst ys)∧ys=((List.range j).map fun i=>sB (z.cps.getD i 0)).map V.bl) zs (fun D j ys H' h=>⟨h.2.1,by rw [h.2.2]; simp⟩) (fun D hD=>⟨Same.new hD _,upd_same,rfl⟩) ?_ ?_ (fun _ _ _ _ _ k h=>k _ _ h) ?_⟩
      · rintro D j ys H' hj hD ⟨c1,c2,c3⟩
        refine ⟨rfl,_,rfl,(by show 4≤sizeLine; decide),fun l hl => ?_⟩
        have sl:=Same.new hl (.lst [V.str "0",.str "1",.str "2",.str "3"])
        have c1l:=c1.trans sl
        refine ⟨l,_,rfl,.inl (SqL.of upd_same),rfl,rfl,sl _ _ c2,Same.set c1l hD _,upd_same,?_⟩
        rw [show inV (.str (sgn z j)) [V.str "0",.str "1",.str "2",.str "3"]=sB (z.cps.getD j 0) from in_four _,c3,List.range_succ,List.map_append,List.map_append]
        rfl
      · rintro D ys H' hD ⟨c1,c2,c3⟩
        refine ⟨D,(List.range z.length).map fun i=>sB (z.cps.getD i 0),rfl,SqL.of (by rw [c2,c3]),?_⟩
        have e2:(((List.range z.length).map fun i=>sB (z.cps.getD i 0)).all id)=cB z:=by
          unfold cB
          rw [decide_eq_true (by omega),List.all_map]
          rfl
        rw [e2]
        have e3:cB z=false:=by
          cases h:cB z with
          | false=>rfl
          | true=>exact absurd ⟨((cB_iff z).mp h).2,by omega⟩ hb
        rw [e3]
        exact q' H' c1
      · rintro σ H' R R' k ⟨a1,e1,h1,h2⟩
        exact ⟨a1,e1,h1,fun l hl=>by
          obtain ⟨p,xs,f1,f2,f3,f4,f5⟩:=h2 l hl
          exact ⟨p,xs,f1,f2,f3,f4,k _ _ f5⟩⟩
  · exact ⟨_,rfl,_,_,_,rfl,h1,h2,_,rfl,iteT (q' H (Same.refl H))⟩
abbrev s_law_due:Stmt:=top 59
theorem sc_law_due:FnScope ["_law_cover","_law_level","_law_code_here","_law_colour_here","_law_many","_law_k","_law_one","_law_other"] ["_law_cover","_law_level"] (defScope s_law_due):=⟨rfl,rfl,rfl,by decide +kernel,rfl,by decide +kernel,by decide +kernel⟩
def sp_law_due (K:PySem.W.Frag):Sp:=fun vs H Q _=>∃ (l:Addr) (us:List V) (es:List EK) (n:Nat),vs=[.ref l,.int (n:Int)]∧H l=some (.lst us)∧Paired (EntAt K H n) us es∧us.length≤900∧n≤40∧∀ d H',Same H H'→DueIs n es d→Q (.int d) H'
theorem ok_law_due (T:Tx K mg) (q:Quiet CX) (F:FunD K "_law_due" "_law_due" s_law_due f fd .none) (C__law_good:Fok P w K mg base CX 1 "_law_good" ["_law_code_here","_law_level"] [] (sp_law_good K)):FnOk P w K mg base CX 2 f fd ["_law_cover","_law_level"] (sp_law_due K):=by
  refine F.ok sc_law_due (fun vs H Q E h => ?_) (fun cdv A outer s H vs Q E hr h => ?_)
  · obtain ⟨_,_,_,_,rfl,_⟩:=h
    rfl
  obtain ⟨l,us,es,n,rfl,hl,hus,lu,hn,q'⟩:=h
  refine ⟨_,(pss_cons (ps_for PassesOwn.never rfl (pi_list (pv 0)) (pg_tup rfl (pgs_cons (pg_name (i:=2) sc_law_due.nd rfl (Or.inl rfl)) (pgs_cons (pg_name (i:=3) sc_law_due.nd rfl (Or.inl rfl)) pgs_nil))) (pss_cons (ps_if (pt_not (pt_val (pe_callF C__law_good q hr (pa_cons (pv 2) (pa_cons (pv 1) pa_nil))))) (pss_one (ps_ret pe_int)) pss_nil) (pss_one (ps_if (PW.pt (pw_or (pt_not (pt_val (pe_callB (call_isiT "int") rfl T.b_isinstance bb_isinstance (pa_cons (pv 3) (pa_cons (pe_bty T.b_int bt_int) pa_nil))))) (pw_or (pt_val (pe_callB (call_isiT "bool") rfl T.b_isinstance bb_isinstance (pa_cons (pv 3) (pa_cons (pe_bty T.b_bool bt_bool) pa_nil)))) (pw_or1 (pt_not (pt_chain op_le op_le pe_int (pv 3) pe_int)))))) (pss_one (ps_ret pe_int)) pss_nil)))) (pss_cons (ps_set (i:=4) sc_law_due.nd rfl (Or.inl rfl) pe_int) (pss_cons (ps_for PassesOwn.never rfl (pi_enumerate rfl T.b_enumerate (pa_cons (pv 0) pa_nil)) (pg_tup rfl (pgs_cons (pg_name (i:=5) sc_law_due.nd rfl (Or.inl rfl)) (pgs_cons (pg_name (i:=6) sc_law_due.nd rfl (Or.inl rfl)) pgs_nil))) (pss_cons (ps_for PassesOwn.never rfl (pi_list (pe_slice sl_list (pv 0) po_none (po_some (pv 5)))) (pg_name (i:=7) sc_law_due.nd rfl (Or.inl rfl)) (pss_one (ps_if (PW.pt (pw_or (pt_val (pe_bm PySem.F.plainAttrs_str PySem.F.slot_str_startswith PySem.F.type_str_startswith mt_startswith (pe_ix ix_tup (pv 6) pe_int (fun _ _=>rfl)) (pa_cons (pe_ix ix_tup (pv 7) pe_int (fun _ _=>rfl)) pa_nil))) (pw_or1 (pt_val (pe_bm PySem.F.plainAttrs_str PySem.F.slot_str_startswith PySem.F.type_str_startswith mt_startswith (pe_ix ix_tup (pv 7) pe_int (fun _ _=>rfl)) (pa_cons (pe_ix ix_tup (pv 6) pe_int (fun _ _=>rfl)) pa_nil)))))) (pss_one (ps_ret pe_int)) pss_nil))) (pss_one (ps_set (i:=4) sc_law_due.nd rfl (Or.inl rfl) (pe_op op_add (pv 4) (pe_op op_shl pe_int (pe_op op_mul pe_int (pe_op op_sub (pv 1) (pe_callB call_len rfl T.b_len bb_len (pa_cons (pe_ix ix_tup (pv 6) pe_int (fun _ _=>rfl)) pa_nil)))))))))) (pss_cons (ps_if (pt_cmpR op_lt (pv 4) (pe_op op_shl pe_int (pe_op op_mul pe_int (pv 1))) (nomark _)) (pss_one (ps_ret pe_int)) pss_nil) (pss_one (ps_ret (pe_un un_neg pe_int))))))),?_⟩
  have lus:=Paired.length hus
  refine ⟨_,rfl,l,rfl,⟨_,SqL.of hl⟩,for_list (xs:=us) (fun (i:Nat) σ H2=>Same H H2∧i≤us.length∧(∀ (k:Nat) (e:EK),k < i→es[k]? = some e→∃ r,e=.ok r)∧∃ o2 o3:Option V,σ=[some (.ref l),some (.int (n:Int)),o2,o3,none,none,none,none]) ⟨Same.refl H,Nat.zero_le _,(fun k e h=>absurd h (Nat.not_lt_zero _)),none,none,rfl⟩ (fun i σ H2 _ h=>SqL.of (h.1 _ _ hl)) ?_ ?_⟩
  · rintro i u σ H2 hu ⟨s2,hi,hk,o2,o3,rfl⟩
    have hiu:i < us.length:=(List.getElem?_eq_some_iff.mp hu).1
    obtain ⟨e,ee,he⟩:=paired_get hus hu
    obtain ⟨C,lC,eC⟩:=takes_ok i (by omega) hk
    have split:es=C.map .ok++e::es.drop (i + 1):=by
      have h1:=List.take_append_drop i es
      rw [eC] at h1
      have h2:es.drop i=e::es.drop (i + 1):=drop_get ee
      rw [h2] at h1
      exact h1.symm
    cases e with
    | ok r =>
      obtain ⟨p,z,rfl,hp,hz,ez,lz,hcc⟩:=he
      refine ⟨p,_,rfl,SqT.of (s2 _ _ hp),rfl,_,_,rfl,_,_,rfl,rfl,?_⟩
      refine ⟨_,rfl,_,rfl,_,n,rfl,hn,.inl ⟨z,⟨rfl,hz,lz⟩,fun H3 s3=>⟨_,rfl,iteF ?_⟩⟩⟩
      refine ⟨_,rfl,_,_,_,rfl,.int r.2,kit_ii,_,rfl,iteF ?_⟩
      refine ⟨_,rfl,_,_,_,rfl,.int r.2,kit_ib,_,rfl,iteF ?_⟩
      have fin:Same H H3∧i + 1≤us.length∧(∀ (k:Nat) (e:EK),k < i + 1→es[k]? = some e→∃ r,e=.ok r)∧∃ o2 o3:Option V,[some (V.ref l),some (.int (n:Int)),some (.str z),some (.int r.2),none,none,none,none]=[some (.ref l),some (.int (n:Int)),o2,o3,none,none,none,none]:=by
        refine ⟨s2.trans s3,hiu,fun k e h1 h2 => ?_,_,_,rfl⟩
        by_cases ek:k=i
        · rw [ek,ee] at h2
          exact ⟨r,(Option.some.inj h2).symm⟩
        · exact hk k e (by omega) h2
      refine ⟨_,rfl,_,_,rfl,rfl,_,rfl,ite2 (fun _ => ?_) (fun c=>absurd (decide_eq_true hcc.1) c)⟩
      exact ⟨_,_,rfl,rfl,_,rfl,iteNS hcc.2 fin⟩
    | noCode =>
      obtain ⟨p,x,y,rfl,hp,bx⟩:=he
      refine ⟨p,_,rfl,SqT.of (s2 _ _ hp),rfl,_,_,rfl,_,_,rfl,rfl,?_⟩
      exact ⟨_,rfl,_,rfl,x,n,rfl,hn,.inr ⟨bx.up s2,fun H3 s3=>⟨_,rfl,iteT (q' 1 _ (s2.trans s3) (.inl ⟨C,_,split,rfl⟩))⟩⟩⟩
    | noCol =>
      obtain ⟨p,z,y,rfl,hp,hz,lz,by'⟩:=he
      refine ⟨p,_,rfl,SqT.of (s2 _ _ hp),rfl,_,_,rfl,_,_,rfl,rfl,?_⟩
      refine ⟨_,rfl,_,rfl,_,n,rfl,hn,.inl ⟨z,⟨rfl,hz,lz⟩,fun H3 s3=>⟨_,rfl,iteF ?_⟩⟩⟩
      have fin:=q' 2 _ (s2.trans s3) (.inr (.inl ⟨C,_,split,rfl⟩))
      rcases by'.up (s2.trans s3) with ⟨a,rfl,ha⟩ | ⟨b,rfl⟩ | ⟨t,ty,hk'⟩
      · refine ⟨_,rfl,_,_,_,rfl,.int a,kit_ii,_,rfl,iteF ?_⟩
        refine ⟨_,rfl,_,_,_,rfl,.int a,kit_ib,_,rfl,iteF ?_⟩
        refine ⟨_,rfl,_,_,rfl,rfl,_,rfl,ite2 (fun c => ?_) (fun _=>⟨_,rfl,iteT fin⟩)⟩
        have c':(0:Int)≤a:=of_decide_eq_true c
        refine ⟨_,_,rfl,rfl,_,rfl,?_⟩
        rw [decide_eq_false (show ¬ a≤35 by omega)]
        exact iteT fin
      · refine ⟨_,rfl,_,_,_,rfl,.bl b,kit_bi,_,rfl,iteF ?_⟩
        exact ⟨_,rfl,_,_,_,rfl,.bl b,kit_bb,_,rfl,iteT fin⟩
      · exact ⟨_,rfl,_,_,_,rfl,ty,hk',_,rfl,iteT fin⟩
  · rintro σ H2 ⟨s2,_,hk,o2,o3,rfl⟩
    obtain ⟨C,lC,eC⟩:=takes_ok us.length (by omega) hk
    rw [List.take_of_length_le (by omega)] at eC
    subst eC
    have hpa:PasAt H n us C:=ents_pas hus
    have hpa2:=hpa.up s2.tups
    have hl2:=s2 _ _ hl
    have okc:=hpa.okC
    refine ⟨_,rfl,l,rfl,⟨_,SqL.of hl2⟩,for_enum (xs:=us) (fun (i:Nat) σ H3=>Same H2 H3∧i≤us.length∧(C.take i).Pairwise Apt∧∃ (m:Int) (o5 o6 o7:Option V),m=((ar n (C.take i):Nat):Int)∧σ=[some (.ref l),some (.int (n:Int)),o2,o3,some (.int m),o5,o6,o7]) ⟨Same.refl H2,Nat.zero_le _,.nil,0,none,none,none,rfl,rfl⟩ (fun i σ H3 h=>SqL.of (h.1 _ _ hl2)) ?_ ?_⟩
    · rintro i u p σ H3 hu ⟨s3,hi,hA,m,o5,o6,o7,rfl,rfl⟩ hp
      have hiu:i < us.length:=(List.getElem?_eq_some_iff.mp hu).1
      obtain ⟨r,er,pr,z,rfl,hpr,hz,ez,lz,hcc⟩:=hpa2.get hu
      have td:=Same.new hp (.tup [.int (i:Int),.ref pr])
      refine ⟨p,_,rfl,SqT.of upd_same,rfl,_,_,rfl,_,_,rfl,rfl,?_⟩
      generalize upd H3 p (.tup [.int (i:Int),.ref pr])=H4 at *
      have s24:=s3.trans td
      refine ⟨_,rfl,_,rfl,_,rfl,l,us,rfl,SqL.of (s24 _ _ hl2),fun ls hls => ?_⟩
      have ec:cutV us none (some (i:Int))=us.take i:=cutV_take us (by omega)
      rw [ec]
      have te:=Same.new hls (.lst (us.take i))
      have ue:upd H4 ls (.lst (us.take i)) ls=some (.lst (us.take i)):=upd_same
      generalize upd H4 ls (.lst (us.take i))=H5 at *
      have s25:=s24.trans te
      have hpr5:=s25 _ _ hpr
      have zs:z.length≤sizeLine:=small (by omega)
      refine ⟨ls,rfl,⟨_,SqL.of ue⟩,for_list (xs:=us.take i) (fun (j:Nat) σ H6=>Same H5 H6∧(∀ (k:Nat) (t:Lf),k < j→(C.take i)[k]? = some t→Apt t r)∧∃ o7:Option V,σ=[some (.ref l),some (.int (n:Int)),o2,o3,some (.int ((ar n (C.take i):Nat):Int)),some (.int (i:Int)),some (.ref pr),o7]) ⟨Same.refl H5,(fun k t h=>absurd h (Nat.not_lt_zero _)),o7,rfl⟩ (fun j σ H6 _ h=>SqL.of (h.1 _ _ ue)) ?_ ?_⟩
      · rintro j v σ H6 hv ⟨s6,hj,o7',rfl⟩
        obtain ⟨t,et,pt,y,rfl,hpt,hy,ey,ly,_⟩:=(hpa2.take i).get hv
        have hpr6:=s6 _ _ hpr5
        have hpt6:=s6 _ _ (s25 _ _ hpt)
        have nap:(dig y <+: dig z∨dig z <+: dig y)→¬ C.Pairwise Apt:=fun hh hp'=>by
          have hjl:j < i:=by
            have:=(List.getElem?_eq_some_iff.mp hv).1
            rw [List.length_take] at this
            omega
          rw [List.getElem?_take_of_lt hjl] at et
          have hjC:j < C.length:=(List.getElem?_eq_some_iff.mp et).1
          have hiC:i < C.length:=(List.getElem?_eq_some_iff.mp er).1
          have a:=(List.pairwise_iff_getElem.mp hp') j i hjC hiC hjl
          rw [(List.getElem?_eq_some_iff.mp et).2,(List.getElem?_eq_some_iff.mp er).2] at a
          rw [ey,ez] at hh
          exact hh.elim a.1 a.2
        have six:¬ C.Pairwise Apt→Q (.int 6) H6:=fun hh=>q' 6 _ (s2.trans (s25.trans s6)) (.inr (.inr ⟨C,rfl,.inl ⟨hh,rfl⟩⟩))
        refine ⟨_,rfl,pr,_,0,_,rfl,rfl,SqT.of hpr6,rfl,rfl,_,rfl,pt,_,0,_,rfl,rfl,SqT.of hpt6,rfl,z,y,rfl,rfl,?_⟩
        rw [starts_is hy hz]
        refine ⟨_,rfl,ite2 (fun c=>six (nap (.inl (of_decide_eq_true c)))) (fun c => ?_)⟩
        refine ⟨_,rfl,pt,_,0,_,rfl,rfl,SqT.of hpt6,rfl,rfl,_,rfl,pr,_,0,_,rfl,rfl,SqT.of hpr6,rfl,y,z,rfl,rfl,?_⟩
        rw [starts_is hz hy]
        refine ⟨_,rfl,ite2 (fun c2=>six (nap (.inr (of_decide_eq_true c2)))) (fun c2 => ?_)⟩
        refine ⟨s6,fun k t' h1 h2 => ?_,_,rfl⟩
        by_cases ek:k=j
        · rw [ek,et] at h2
          rw [← Option.some.inj h2]
          exact ⟨fun w=>c (decide_eq_true (by rw [ey,ez]; exact w)),fun w=>c2 (decide_eq_true (by rw [ey,ez]; exact w))⟩
        · exact hj k t' (by omega) h2
      · rintro σ H6 ⟨s6,hj,o7',rfl⟩
        have hpr6:=s6 _ _ hpr5
        have lt':(us.take i).length=i:=by rw [List.length_take]; omega
        rw [lt'] at hj
        have e2:(2:Int) * ((n:Int) - (z.length:Int))=((2 * (n - z.length):Nat):Int):=by omega
        have e4:(1:Int) * 2 ^ ((2:Int) * ((n:Int) - (z.length:Int))).toNat=((4 ^ (n - z.length):Nat):Int):=by rw [e2,shl_one,Nat.pow_mul]
        refine ⟨_,rfl,_,rfl,_,rfl,pr,_,0,_,rfl,rfl,SqT.of hpr6,rfl,_,_,rfl,⟨zs,rfl⟩,_,_,rfl,rfl,_,_,rfl,rfl,.inl ⟨by decide,by decide⟩,_,_,rfl,rfl,⟨by omega,by omega,by omega⟩,_,_,rfl,rfl,?_⟩
        have er':C.take (i + 1)=C.take i++[r]:=by rw [List.take_add_one,er]; rfl
        refine ⟨s25.trans s6,hiu,pw_snoc er hA fun t ht => ?_,_,_,_,_,?_,rfl⟩
        · obtain ⟨k,hk'⟩:=List.getElem?_of_mem ht
          have hki:k < i:=by
            have:=(List.getElem?_eq_some_iff.mp hk').1
            rw [List.length_take] at this
            omega
          exact hj k t hki hk'
        · rw [er',ar_app]
          show _=((ar n (C.take i) + (4 ^ (n - r.1.length) + 0):Nat):Int)
          have lr:r.1.length=z.length:=by rw [← ez,dig_len]
          rw [e4,lr]
          omega
    · rintro σ H3 ⟨s3,_,hA,m,o5,o6,o7,rfl,rfl⟩
      rw [List.take_of_length_le (by omega)] at hA
      rw [List.take_of_length_le (by omega)]
      have kr:=kraft n okc hA
      have e4:(1:Int) * 2 ^ ((2:Int) * (n:Int)).toNat=((4 ^ n:Nat):Int):=by rw [show (2:Int) * (n:Int)=((2 * n:Nat):Int) by omega,shl_one,Nat.pow_mul]
      refine ⟨_,rfl,_,rfl,_,_,rfl,rfl,.inl ⟨by decide,by decide⟩,_,_,rfl,rfl,⟨by omega,by omega,by omega⟩,_,_,rfl,rfl,_,rfl,ite2 (fun c => ?_) (fun c => ?_)⟩
      · have c':=of_decide_eq_true c
        rw [e4] at c'
        exact q' 7 _ (s2.trans s3) (.inr (.inr ⟨C,rfl,.inr (.inl ⟨hA,by omega,rfl⟩)⟩))
      · have c':¬ ((ar n C:Nat):Int) < (1:Int) * 2 ^ ((2:Int) * (n:Int)).toNat:=fun w=>c (decide_eq_true w)
        rw [e4] at c'
        exact ⟨1,rfl,q' (-1) _ (s2.trans s3) (.inr (.inr ⟨C,rfl,.inr (.inr ⟨hA,by omega,rfl⟩)⟩))⟩
end
end Qs


namespace Qs
open PySem L2
theorem Paired.app' {α β:Type} {F:α→β→Prop}:∀ {a c:List α} {b d:List β},Paired F a b→Paired F c d→Paired F (a++c) (b++d)
  | [],_,[],_,.nil,r=>r
  | _::_,_,_::_,_,.cons h r,s=>.cons h (Paired.app' r s)
theorem Paired.takeN {α β:Type} {F:α→β→Prop}:∀ {a:List α} {b:List β} (k:Nat),Paired F a b→Paired F (a.take k) (b.take k)
  | _,_,0,_=>.nil
  | [],[],_ + 1,.nil=>.nil
  | _::_,_::_,k + 1,.cons h r=>.cons h (Paired.takeN k r)
theorem Paired.dropN {α β:Type} {F:α→β→Prop}:∀ {a:List α} {b:List β} (k:Nat),Paired F a b→Paired F (a.drop k) (b.drop k)
  | _,_,0,r=>r
  | [],[],_ + 1,.nil=>.nil
  | _::_,_::_,k + 1,.cons _ r=>Paired.dropN k r

def DU (H:Hp) (u:V):Prop:=∃ d,Dat H u d∧d.canLay0=true∧d.depth≤2
theorem DU.two {H:Hp} {p:Addr} {x y:V} (h:H p=some (.tup [x,y])) (dx:DX H x) (dy:DX H y):DU H (.ref p):=by
  obtain ⟨a,h1,h2,h3⟩:=dx
  obtain ⟨b,k1,k2,k3⟩:=dy
  refine ⟨.tuple [a,b],.tup h (.cons h1 (.cons k1 .nil)),?_,?_⟩
  · show (a.canLay0 && (b.canLay0 && true))=true
    rw [h2,k2]; rfl
  · show max a.depth (max b.depth 0) + 1≤2
    omega
mutual
theorem Dat.upS {H H':Hp} (s:Same H H'):∀ {x:V} {d:PyData},Dat H x d→Dat H' x d
  | _,_,.non=>.non
  | _,_,.bl b=>.bl b
  | _,_,.int i=>.int i
  | _,_,.str x=>.str x
  | _,_,.lst h r=>.lst (s _ _ h) (Dats.upS s r)
  | _,_,.tup h r=>.tup (s _ _ h) (Dats.upS s r)
theorem Dats.upS {H H':Hp} (s:Same H H'):∀ {xs:List V} {ds:List PyData},Dats H xs ds→Dats H' xs ds
  | _,_,.nil=>.nil
  | _,_,.cons h r=>.cons (Dat.upS s h) (Dats.upS s r)
end
theorem DX.up {H H':Hp} {x:V} (h:DX H x) (s:Same H H'):DX H' x:=by
  obtain ⟨d,h1,h2⟩:=h
  exact ⟨d,Dat.upS s h1,h2⟩
theorem DU.up {H H':Hp} {x:V} (h:DU H x) (s:Same H H'):DU H' x:=by
  obtain ⟨d,h1,h2⟩:=h
  exact ⟨d,Dat.upS s h1,h2⟩

def FS (K:PySem.W.Frag) (H:Hp) (n:Nat) (us:List V):Prop:=(∃ es,Paired (EntAt K H n) us es)∧∀ u∈us,DU H u
theorem FS.up {K:PySem.W.Frag} {H H':Hp} {n:Nat} {us:List V} (h:FS K H n us) (s:Same H H'):FS K H' n us:=by
  obtain ⟨⟨es,h1⟩,h2⟩:=h
  exact ⟨⟨es,Paired.mapP h1 fun _ _ z=>z.up s⟩,fun u hu=>(h2 u hu).up s⟩
theorem FS.put {K:PySem.W.Frag} {H:Hp} {n:Nat} {us:List V} {u:V} {e:EK} (h:FS K H n us) (hu:EntAt K H n u e) (du:DU H u) (j:Nat):FS K H n (us.take j++u::us.drop j):=by
  obtain ⟨⟨es,h1⟩,h2⟩:=h
  refine ⟨⟨_,Paired.app' (Paired.takeN j h1) (.cons hu (Paired.dropN j h1))⟩,fun v hv => ?_⟩
  rcases List.mem_append.mp hv with hv | hv
  · exact h2 v (List.mem_of_mem_take hv)
  · rcases List.mem_cons.mp hv with rfl | hv
    · exact du
    · exact h2 v (List.mem_of_mem_drop hv)
theorem FS.out {K:PySem.W.Frag} {H:Hp} {n:Nat} {us:List V} (h:FS K H n us) (j:Nat):FS K H n (us.take j++us.drop (j + 1)):=by
  obtain ⟨⟨es,h1⟩,h2⟩:=h
  refine ⟨⟨_,Paired.app' (Paired.takeN j h1) (Paired.dropN (j + 1) h1)⟩,fun v hv => ?_⟩
  rcases List.mem_append.mp hv with hv | hv
  · exact h2 v (List.mem_of_mem_take hv)
  · exact h2 v (List.mem_of_mem_drop hv)
section
variable {P:Program} {w:World} {K:PySem.W.Frag} {mg:Str→Option Value} {base:Heap} {CX:CXT} {f:Addr} {fd:FuncData}
abbrev s_law_put:Stmt:=top 56
theorem sc_law_put:FnScope ["_law_cover","_law_at_here","_law_one","_law_some"] ["_law_cover","_law_at_here","_law_one"] (defScope s_law_put):=⟨rfl,rfl,rfl,by decide +kernel,rfl,by decide +kernel,by decide +kernel⟩
def sp_law_put:Sp:=fun vs H Q _=>∃ (l:Addr) (us:List V) (k:Int) (u:V),vs=[.ref l,.int k,u]∧H l=some (.lst us)∧us.length≤900∧∀ (j:Nat) l' H',j≤us.length→Same H H'→H' l'=some (.lst (us.take j++u::us.drop j))→Q (.ref l') H'
theorem ok_law_put (T:Tx K mg) (F:FunD K "_law_put" "_law_put" s_law_put f fd .none):FnOk P w K mg base CX 1 f fd ["_law_cover","_law_at_here","_law_one"] sp_law_put:=by
  refine F.ok sc_law_put (fun vs H Q E h => ?_) (fun cdv A outer s H vs Q E hr h => ?_)
  · obtain ⟨_,_,_,_,rfl,_⟩:=h
    rfl
  obtain ⟨l,us,k,u,rfl,hl,lu,q'⟩:=h
  refine ⟨_,(pss_cons (ps_set (i:=3) sc_law_put.nd rfl (Or.inl rfl) (pe_callTy call_list_of rfl T.b_list bt_list (pa_cons (pv 0) pa_nil))) (pss_cons (ps_expr (pe_bm PySem.F.plainAttrs_list PySem.F.slot_list_insert PySem.F.type_list_insert mt_insert (pv 3) (pa_cons (pe_op op_mod (pv 1) (pe_op op_add (pe_callB call_len rfl T.b_len bb_len (pa_cons (pv 0) pa_nil)) pe_int)) (pa_cons (pv 2) pa_nil)))) (pss_one (ps_ret (pv 3))))),?_⟩
  refine ⟨_,rfl,l,us,rfl,.inl (SqL.of hl),fun p hp => ?_⟩
  have s1:=Same.new hp (.lst us)
  have u1:upd H p (.lst us) p=some (.lst us):=upd_same
  have pj:(0:Int) < (us.length:Int) + 1:=by omega
  obtain ⟨j,hj,ej⟩:∃ j:Nat,j≤us.length∧k % ((us.length:Int) + 1)=(j:Int):=by
    have h1:=Int.emod_nonneg k (show (us.length:Int) + 1≠0 by omega)
    have h2:=Int.emod_lt_of_pos k pj
    exact ⟨(k % ((us.length:Int) + 1)).toNat,by omega,by omega⟩
  refine ⟨_,rfl,.inl ⟨rfl,_,SqL.of u1⟩,_,rfl,_,rfl,_,_,rfl,.inl ⟨_,SqL.of (s1 _ _ hl),rfl⟩,_,_,rfl,rfl,_,_,rfl,rfl,pj,_,rfl,p,us,j,u,rfl,(by show [V.int (k % ((us.length:Int) + 1)),u]=[V.int (j:Int),u]; rw [ej]),u1,hj,by omega,?_⟩
  exact ⟨_,rfl,q' j p _ hj (Same.set s1 hp _) upd_same⟩
abbrev s_law_faulty:Stmt:=top 57
theorem sc_law_faulty:FnScope ["_law_script","_law_cover","_law_level","_law_cell","_law_other","_law_some","_law_at_here","_law_code_here","_law_more","_law_colour_here"] ["_law_script","_law_cover","_law_level"] (defScope s_law_faulty):=⟨rfl,rfl,rfl,by decide +kernel,rfl,by decide +kernel,by decide +kernel⟩
def sp_law_faulty (K:PySem.W.Frag):Sp:=fun vs H Q _=>∃ (a:Addr) (ns:List Int) (l:Addr) (us:List V) (C:List Lf) (n:Nat),vs=[.ref a,.ref l,.int (n:Int)]∧SqL K H a (ns.map V.int)∧ns.length≤63∧H l=some (.lst us)∧PasAt H n us C∧0 < us.length∧us.length≤800∧n≤40∧∀ l' us' H',Same H H'→H' l'=some (.lst us')→FS K H' n us'→us'.length≤810→Q (.ref l') H'
theorem ok_law_faulty (T:Tx K mg) (q:Quiet CX) (F:FunD K "_law_faulty" "_law_faulty" s_law_faulty f fd .none) (C__law_at:Fok P w K mg base CX 1 "_law_at" ["_law_script","_law_k"] [] (sp_law_at K)) (C__law_code:Fok P w K mg base CX 1 "_law_code" ["_law_cell","_law_size"] [] sp_law_code) (C__law_put:Fok P w K mg base CX 1 "_law_put" ["_law_cover","_law_at_here","_law_one"] [] sp_law_put) (C__law_no_colour:Fok P w K mg base CX 1 "_law_no_colour" ["_law_cell"] [] (sp_law_no_colour K)) (C__law_no_code:Fok P w K mg base CX 2 "_law_no_code" ["_law_cell","_law_level"] [] (sp_law_no_code K)):FnOk P w K mg base CX 3 f fd ["_law_script","_law_cover","_law_level"] (sp_law_faulty K):=by
  refine F.ok sc_law_faulty (fun vs H Q E h => ?_) (fun cdv A outer s H vs Q E hr h => ?_)
  · obtain ⟨_,_,_,_,_,_,rfl,_⟩:=h
    rfl
  obtain ⟨a,ns,l,us,C,n,rfl,hS,h63,hl,hpa,lu0,lu,hn,q'⟩:=h
  refine ⟨_,(pss_cons (ps_set (i:=3) sc_law_faulty.nd rfl (Or.inl rfl) (pe_callF C__law_at q hr (pa_cons (pv 0) (pa_cons pe_int pa_nil)))) (pss_cons (ps_set (i:=4) sc_law_faulty.nd rfl (Or.inl rfl) (pe_callF C__law_at q hr (pa_cons (pv 0) (pa_cons pe_int pa_nil)))) (pss_cons (ps_set (i:=5) sc_law_faulty.nd rfl (Or.inl rfl) (pe_callTy call_list_of rfl T.b_list bt_list (pa_cons (pv 1) pa_nil))) (pss_cons (ps_cut (ps_if (pt_cmpR op_eq (pe_op op_mod (pe_op op_fdivW (pv 3) pe_int) pe_int) pe_int (nomark _)) (pss_cons (ps_set (i:=6) sc_law_faulty.nd rfl (Or.inl rfl) (pe_op op_mod (pv 4) (pe_callB call_len rfl T.b_len bb_len (pa_cons (pv 5) pa_nil)))) (pss_one (ps_set (i:=5) sc_law_faulty.nd rfl (Or.inl rfl) (pe_op op_cat (pe_slice sl_list (pv 5) po_none (po_some (pv 6))) (pe_slice sl_list (pv 5) (po_some (pe_op op_add (pv 6) pe_int)) po_none))))) pss_nil)) (pss_cons (ps_cut (ps_if (pt_cmpR op_eq (pe_op op_mod (pv 3) pe_int) pe_int (nomark _)) (pss_cons (ps_set (i:=7) sc_law_faulty.nd rfl (Or.inl rfl) (pe_ix ix_tup (pe_ix ix_list (pv 1) (pe_op op_mod (pe_op op_fdivW (pv 4) pe_int) (pe_callB call_len rfl T.b_len bb_len (pa_cons (pv 1) pa_nil))) (fun _ _=>rfl)) pe_int (fun _ _=>rfl))) (pss_cons (ps_set (i:=8) sc_law_faulty.nd rfl (Or.inl rfl) (pv 7)) (pss_cons (ps_cut (ps_if (pt_cmpR op_eq (pe_op op_mod (pe_op op_fdivW (pv 3) pe_int) pe_int) pe_int (nomark _)) (pss_one (ps_set (i:=8) sc_law_faulty.nd rfl (Or.inl rfl) (pe_slice sl_str (pe_op op_add_str (pv 7) (pe_callF C__law_code q hr (pa_cons (pv 4) (pa_cons pe_int pa_nil)))) po_none (po_some (pv 2))))) pss_nil)) (pss_cons (ps_cut (ps_if (pt_cmpR op_eq (pe_op op_mod (pe_op op_fdivW (pv 3) pe_int) pe_int) pe_int (nomark _)) (pss_one (ps_set (i:=8) sc_law_faulty.nd rfl (Or.inl rfl) (pe_slice sl_str (pv 7) po_none (po_some (pe_op op_mod (pe_op op_fdivW (pv 4) pe_int) (pe_op op_add (pe_callB call_len rfl T.b_len bb_len (pa_cons (pv 7) pa_nil)) pe_int)))))) pss_nil)) (pss_one (ps_set (i:=5) sc_law_faulty.nd rfl (Or.inl rfl) (pe_callF C__law_put q hr (pa_cons (pv 5) (pa_cons (pe_op op_fdivW (pv 4) pe_int) (pa_cons (pe_tupx (pax_c (pv 8) (pax_c (pe_op op_mod (pv 4) pe_int) pax_nil))) pa_nil)))))))))) pss_nil)) (pss_cons (ps_cut (ps_if (pt_cmpR op_eq (pe_op op_mod (pe_op op_fdivW (pv 3) pe_int) pe_int) pe_int (nomark _)) (pss_cons (ps_set (i:=9) sc_law_faulty.nd rfl (Or.inl rfl) (pe_ix ix_list (pe_lstx (pax_c pe_int (pax_c (pe_callF C__law_no_colour q hr (pa_cons (pv 3) pa_nil)) pax_nil))) (pe_op op_mod (pv 4) pe_int) (fun _ _=>rfl))) (pss_one (ps_set (i:=5) sc_law_faulty.nd rfl (Or.inl rfl) (pe_callF C__law_put q hr (pa_cons (pv 5) (pa_cons (pe_op op_fdivW (pv 4) pe_int) (pa_cons (pe_tupx (pax_c (pe_callF C__law_no_code q hr (pa_cons (pv 4) (pa_cons (pv 2) pa_nil))) (pax_c (pv 9) pax_nil))) pa_nil))))))) pss_nil)) (pss_cons (ps_cut (ps_if (pt_cmpR op_eq (pe_op op_mod (pe_op op_fdivW (pv 3) pe_int) pe_int) pe_int (nomark _)) (pss_cons (ps_set (i:=7) sc_law_faulty.nd rfl (Or.inl rfl) (pe_callF C__law_code q hr (pa_cons (pv 4) (pa_cons (pe_op op_mod (pv 4) (pe_op op_add (pv 2) pe_int)) pa_nil)))) (pss_one (ps_set (i:=5) sc_law_faulty.nd rfl (Or.inl rfl) (pe_callF C__law_put q hr (pa_cons (pv 5) (pa_cons (pe_op op_fdivW (pv 4) pe_int) (pa_cons (pe_tupx (pax_c (pv 7) (pax_c (pe_callF C__law_no_colour q hr (pa_cons (pe_op op_fdivW (pv 4) pe_int) pa_nil)) pax_nil))) pa_nil))))))) pss_nil)) (pss_cons (ps_cut (ps_if (pt_cmpR op_eq (pe_op op_mod (pe_op op_fdivW (pv 3) pe_int) pe_int) pe_int (nomark _)) (pss_one (ps_set (i:=5) sc_law_faulty.nd rfl (Or.inl rfl) (pe_lstx pax_nil))) pss_nil)) (pss_one (ps_ret (pv 5))))))))))),?_⟩
  refine ⟨_,rfl,a,ns,10,rfl,hS,h63,_,rfl,a,ns,11,rfl,hS,h63,?_⟩
  generalize cell ns 10=ce
  generalize cell ns 11=ot
  refine ⟨_,rfl,l,us,rfl,.inl (SqL.of hl),fun p0 hp0 => ?_⟩
  have s1:=Same.new hp0 (.lst us)
  have u1:upd H p0 (.lst us) p0=some (.lst us):=upd_same
  generalize upd H p0 (.lst us)=H1 at *
  have fs0:FS K H n us:=by
    refine ⟨⟨C.map .ok,?_⟩,fun u hu => ?_⟩
    · clear u1 s1 hp0 lu0 lu hl
      induction hpa with
      | nil=>exact .nil
      | cons h _ ih=>exact .cons h ih
    · obtain ⟨i,hi⟩:=List.getElem?_of_mem hu
      obtain ⟨r,_,pr,z,rfl,hpr,hz,_⟩:=hpa.get hi
      exact DU.two hpr (DX.str (strOk_isC hz)) (DX.int _)
  have len:=hpa.len
  let S:Nat→St→Hp→Prop:=fun B σ H2=>Same H H2∧∃ (lx:Addr) (xs:List V) (o6 o7 o8 o9:Option V),H2 lx=some (.lst xs)∧FS K H2 n xs∧xs.length≤B∧σ=[some (.ref a),some (.ref l),some (.int (n:Int)),some (.int ce),some (.int ot),some (.ref lx),o6,o7,o8,o9]
  refine ⟨S 800,?_,?_⟩
  · have pu:(0:Int) < (us.length:Int):=by omega
    refine ⟨_,rfl,_,_,rfl,rfl,cdivW (by decide) (by decide),_,_,rfl,rfl,(by show (0:Int) < 4; decide),rfl,_,rfl,ite2 (fun _ => ?_) (fun _=>⟨s1,p0,us,none,none,none,none,u1,fs0.up s1,lu,rfl⟩)⟩
    obtain ⟨k,hk,ek⟩:∃ k:Nat,k < us.length∧ot % (us.length:Int)=(k:Int):=by
      have h1:=Int.emod_nonneg ot (show (us.length:Int)≠0 by omega)
      have h2:=Int.emod_lt_of_pos ot pu
      exact ⟨(ot % (us.length:Int)).toNat,by omega,by omega⟩
    refine ⟨_,rfl,_,rfl,_,_,rfl,.inl ⟨_,SqL.of u1,rfl⟩,_,_,rfl,rfl,pu,?_⟩
    rw [show (fun i j:Int=>V.int (i % j)) ot (us.length:Int)=V.int (k:Int) from congrArg V.int ek]
    refine ⟨_,rfl,_,rfl,_,rfl,p0,us,rfl,SqL.of u1,fun pa ga => ?_⟩
    rw [cutV_take us (k:=k) (by omega)]
    have s2:=Same.new ga (.lst (us.take k))
    have u2:upd H1 pa (.lst (us.take k)) pa=some (.lst (us.take k)):=upd_same
    generalize upd H1 pa (.lst (us.take k))=H2 at *
    refine ⟨_,rfl,_,rfl,_,_,rfl,rfl,_,rfl,p0,us,rfl,SqL.of (s2 _ _ u1),fun pb gb => ?_⟩
    rw [show cutV us (some ((k:Int) + 1)) none=us.drop (k + 1) from cutV_drop us (k:=k + 1) (by omega)]
    have s3:=Same.new gb (.lst (us.drop (k + 1)))
    have u3:upd H2 pb (.lst (us.drop (k + 1))) pb=some (.lst (us.drop (k + 1))):=upd_same
    generalize upd H2 pb (.lst (us.drop (k + 1)))=H3 at *
    have ll:(us.take k++us.drop (k + 1)).length≤800:=by rw [List.length_append,List.length_take,List.length_drop]; omega
    refine ⟨pa,pb,_,_,rfl,rfl,s3 _ _ u2,u3,(by rw [← List.length_append]; exact small (by omega)),fun pc gc => ?_⟩
    have s4:=Same.new gc (.lst (us.take k++us.drop (k + 1)))
    have s14:=s1.trans (s2.trans (s3.trans s4))
    exact ⟨s14,pc,_,_,_,_,_,upd_same,(fs0.up s14).out k,ll,rfl⟩
  rintro σ H2 ⟨s2,lx,xs,o6,o7,o8,o9,ux,fx,lxs,rfl⟩
  refine ⟨S 801,?_,?_⟩
  · refine ⟨_,rfl,_,_,rfl,rfl,(by show (0:Int) < 3; decide),rfl,_,rfl,ite2 (fun _ => ?_) (fun _=>⟨s2,lx,xs,_,_,_,_,ux,fx,by omega,rfl⟩)⟩
    have pu:(0:Int) < (us.length:Int):=by omega
    obtain ⟨k,hk,ek⟩:∃ k:Nat,k < us.length∧ot / 3 % (us.length:Int)=(k:Int):=by
      have h1:=Int.emod_nonneg (ot / 3) (show (us.length:Int)≠0 by omega)
      have h2:=Int.emod_lt_of_pos (ot / 3) pu
      exact ⟨(ot / 3 % (us.length:Int)).toNat,by omega,by omega⟩
    have hu:us[k]? = some us[k]:=List.getElem?_eq_getElem hk
    obtain ⟨r,_,pr,z,epr,hpr,hz,ez,lz,hcc⟩:=hpa.get hu
    have hl2:=s2 _ _ hl
    have zs:z.length≤sizeLine:=small (by omega)
    refine ⟨_,rfl,_,rfl,_,_,rfl,rfl,cdivW (by decide) (by decide),_,rfl,_,_,rfl,.inl ⟨_,SqL.of hl2,rfl⟩,_,_,rfl,rfl,pu,l,_,_,.ref pr,rfl,rfl,SqL.of hl2,(by rw [ek,← epr]; exact atI_nat hu),pr,_,0,_,rfl,rfl,SqT.of (s2 _ _ hpr),rfl,?_⟩
    refine ⟨_,rfl,?_⟩
    let M:St→Hp→Prop:=fun σ H3=>Same H2 H3∧∃ y:Str,IsC y∧y.length≤n∧σ=[some (.ref a),some (.ref l),some (.int (n:Int)),some (.int ce),some (.int ot),some (.ref lx),o6,some (.str z),some (.str y),o9]
    refine ⟨M,?_,?_⟩
    · refine ⟨_,rfl,_,_,rfl,rfl,cdivW (by decide) (by decide),_,_,rfl,rfl,(by show (0:Int) < 3; decide),rfl,_,rfl,ite2 (fun _ => ?_) (fun _=>⟨Same.refl H2,z,hz,lz,rfl⟩)⟩
      refine ⟨_,rfl,_,rfl,ot,2,rfl,by decide,fun ds H3 ld h4 s3 => ?_⟩
      have lt:=txt_len ds
      have hy:=IsC.app hz (txt_isC h4)
      refine ⟨_,_,rfl,rfl,small (by omega),_,rfl,_,rfl,_,rfl,small (by rw [app_len]; omega),?_⟩
      rw [slice_pre]
      exact ⟨s3,_,pre_isC hy n,by rw [pre_len]; exact Nat.min_le_left _ _,rfl⟩
    rintro σ H3 ⟨s3,y,hy,ly,rfl⟩
    let M2:St→Hp→Prop:=fun σ H4=>Same H3 H4∧∃ y:Str,IsC y∧y.length≤n∧σ=[some (.ref a),some (.ref l),some (.int (n:Int)),some (.int ce),some (.int ot),some (.ref lx),o6,some (.str z),some (.str y),o9]
    refine ⟨M2,?_,?_⟩
    · refine ⟨_,rfl,_,_,rfl,rfl,cdivW (by decide) (by decide),_,_,rfl,rfl,(by show (0:Int) < 3; decide),rfl,_,rfl,ite2 (fun _ => ?_) (fun _=>⟨Same.refl H3,y,hy,ly,rfl⟩)⟩
      have pz:(0:Int) < (z.length:Int) + 1:=by omega
      obtain ⟨kz,hkz,ekz⟩:∃ k:Nat,k≤z.length∧ot / 9 % ((z.length:Int) + 1)=(k:Int):=by
        have h1:=Int.emod_nonneg (ot / 9) (show (z.length:Int) + 1≠0 by omega)
        have h2:=Int.emod_lt_of_pos (ot / 9) pz
        exact ⟨(ot / 9 % ((z.length:Int) + 1)).toNat,by omega,by omega⟩
      refine ⟨_,rfl,_,rfl,_,_,rfl,rfl,cdivW (by decide) (by decide),_,rfl,_,_,rfl,⟨zs,rfl⟩,_,_,rfl,rfl,_,_,rfl,rfl,pz,_,rfl,z,rfl,zs,?_⟩
      rw [ekz,slice_pre]
      exact ⟨Same.refl H3,_,pre_isC hz kz,by rw [pre_len]; omega,rfl⟩
    rintro σ H4 ⟨s4,y,hy,ly,rfl⟩
    have s24:=s3.trans s4
    refine ⟨_,rfl,_,rfl,_,_,rfl,rfl,cdivW (by decide) (by decide),_,rfl,_,rfl,_,_,rfl,rfl,(by show (0:Int) < 36; decide),(by show 2≤sizeLine; decide),fun pt gt => ?_⟩
    have s5:=Same.new gt (.tup [.str y,.int (ot % 36)])
    have u5:upd H4 pt (.tup [.str y,.int (ot % 36)]) pt=some (.tup [.str y,.int (ot % 36)]):=upd_same
    generalize upd H4 pt (.tup [.str y,.int (ot % 36)])=H5 at *
    have s25:=s24.trans s5
    refine ⟨lx,xs,_,.ref pt,rfl,s25 _ _ ux,by omega,fun j l' H6 hj s6 u6 => ?_⟩
    have s26:=s25.trans s6
    refine ⟨s2.trans s26,l',_,_,_,_,_,u6,(fx.up s26).put (e:=.ok (dig y,ot % 36)) ⟨pt,y,rfl,s6 _ _ u5,hy,rfl,ly,(by show 0≤ot % 36∧ot % 36≤35; omega)⟩ (DU.two (s6 _ _ u5) (DX.str (strOk_isC hy)) (DX.int _)) j,?_,rfl⟩
    rw [List.length_append,List.length_cons,List.length_take,List.length_drop]
    omega
  rintro σ H3 ⟨s3,lx,xs,o6,o7,o8,o9,ux,fx,lxs,rfl⟩
  refine ⟨S 802,?_,?_⟩
  · refine ⟨_,rfl,_,_,rfl,rfl,cdivW (by decide) (by decide),_,_,rfl,rfl,(by show (0:Int) < 4; decide),rfl,_,rfl,ite2 (fun _ => ?_) (fun _=>⟨s3,lx,xs,_,_,_,_,ux,fx,by omega,rfl⟩)⟩
    refine ⟨_,rfl,ce,rfl,fun xc H4 s4 _ dc=>⟨(by show 2≤sizeLine; decide),fun pl gl => ?_⟩⟩
    have s5:=Same.new gl (.lst [V.int 3,xc])
    have u5:upd H4 pl (.lst [V.int 3,xc]) pl=some (.lst [V.int 3,xc]):=upd_same
    generalize upd H4 pl (.lst [V.int 3,xc])=H5 at *
    obtain ⟨xd,exd,dd⟩:∃ x,atI [V.int 3,xc] (ot % 2)=some x∧DX H5 x:=by
      have c2:ot % 2=0∨ot % 2=1:=by omega
      rcases c2 with e | e
      · rw [e]; exact ⟨_,rfl,DX.int _⟩
      · rw [e]; exact ⟨_,rfl,dc.up s5⟩
    refine ⟨_,rfl,_,_,rfl,rfl,(by show (0:Int) < 2; decide),pl,_,_,xd,rfl,rfl,SqL.of u5,exd,?_⟩
    have s35:=s4.trans s5
    refine ⟨_,rfl,_,rfl,_,_,rfl,rfl,cdivW (by decide) (by decide),_,rfl,_,rfl,ot,n,rfl,hn,fun xb H6 s6 bb db => ?_⟩
    refine ⟨_,rfl,(by show 2≤sizeLine; decide),fun pt gt => ?_⟩
    have s7:=Same.new gt (.tup [xb,xd])
    have u7:upd H6 pt (.tup [xb,xd]) pt=some (.tup [xb,xd]):=upd_same
    generalize upd H6 pt (.tup [xb,xd])=H7 at *
    have s37:=s35.trans (s6.trans s7)
    refine ⟨lx,xs,_,.ref pt,rfl,s37 _ _ ux,by omega,fun j l' H8 hj s8 u8 => ?_⟩
    have s38:=s37.trans s8
    refine ⟨s3.trans s38,l',_,_,_,_,_,u8,(fx.up s38).put (e:=.noCode) ⟨pt,xb,xd,rfl,s8 _ _ u7,bb.up (s7.trans s8)⟩ (DU.two (s8 _ _ u7) (db.up (s7.trans s8)) (dd.up (s6.trans (s7.trans s8)))) j,?_,rfl⟩
    rw [List.length_append,List.length_cons,List.length_take,List.length_drop]
    omega
  rintro σ H4 ⟨s4,lx,xs,o6,o7,o8,o9,ux,fx,lxs,rfl⟩
  refine ⟨S 803,?_,?_⟩
  · refine ⟨_,rfl,_,_,rfl,rfl,cdivW (by decide) (by decide),_,_,rfl,rfl,(by show (0:Int) < 4; decide),rfl,_,rfl,ite2 (fun _ => ?_) (fun _=>⟨s4,lx,xs,_,_,_,_,ux,fx,by omega,rfl⟩)⟩
    have pn:(0:Int) < (n:Int) + 1:=by omega
    obtain ⟨sg,hsg,esg⟩:∃ sg:Nat,sg≤n∧ot % ((n:Int) + 1)=(sg:Int):=by
      have h1:=Int.emod_nonneg ot (show (n:Int) + 1≠0 by omega)
      have h2:=Int.emod_lt_of_pos ot pn
      exact ⟨(ot % ((n:Int) + 1)).toNat,by omega,by omega⟩
    refine ⟨_,rfl,_,rfl,_,rfl,_,_,rfl,rfl,_,_,rfl,rfl,pn,ot,sg,(by show [V.int ot,V.int (ot % ((n:Int) + 1))]=[V.int ot,V.int _]; rw [esg]),by omega,fun ds H5 ld h4 s5 => ?_⟩
    have hz:=txt_isC h4
    have lz:(txt ds).length≤n:=by rw [txt_len,ld]; exact hsg
    generalize txt ds=z at *
    refine ⟨_,rfl,_,rfl,_,_,rfl,rfl,cdivW (by decide) (by decide),_,rfl,_,rfl,_,_,rfl,rfl,cdivW (by decide) (by decide),ot / 4,rfl,fun xc H6 s6 bc dc=>⟨(by show 2≤sizeLine; decide),fun pt gt => ?_⟩⟩
    have s7:=Same.new gt (.tup [.str z,xc])
    have u7:upd H6 pt (.tup [.str z,xc]) pt=some (.tup [.str z,xc]):=upd_same
    generalize upd H6 pt (.tup [.str z,xc])=H7 at *
    have s47:=s5.trans (s6.trans s7)
    refine ⟨lx,xs,_,.ref pt,rfl,s47 _ _ ux,by omega,fun j l' H8 hj s8 u8 => ?_⟩
    have s48:=s47.trans s8
    refine ⟨s4.trans s48,l',_,_,_,_,_,u8,(fx.up s48).put (e:=.noCol) ⟨pt,z,xc,rfl,s8 _ _ u7,hz,lz,bc.up (s7.trans s8)⟩ (DU.two (s8 _ _ u7) (DX.str (strOk_isC hz)) (dc.up (s7.trans s8))) j,?_,rfl⟩
    rw [List.length_append,List.length_cons,List.length_take,List.length_drop]
    omega
  rintro σ H5 ⟨s5,lx,xs,o6,o7,o8,o9,ux,fx,lxs,rfl⟩
  refine ⟨S 804,?_,?_⟩
  · refine ⟨_,rfl,_,_,rfl,rfl,cdivW (by decide) (by decide),_,_,rfl,rfl,(by show (0:Int) < 16; decide),rfl,_,rfl,ite2 (fun _ => ?_) (fun _=>⟨s5,lx,xs,_,_,_,_,ux,fx,by omega,rfl⟩)⟩
    refine ⟨(by show 0≤sizeLine; decide),fun pl gl => ?_⟩
    exact ⟨s5.trans (Same.new gl _),pl,[],_,_,_,_,upd_same,⟨⟨[],.nil⟩,fun u hu=>by cases hu⟩,Nat.zero_le _,rfl⟩
  rintro σ H6 ⟨s6,lx,xs,o6,o7,o8,o9,ux,fx,lxs,rfl⟩
  exact ⟨_,rfl,q' lx xs H6 s6 ux fx (by omega)⟩
end
end Qs


namespace Qs
open PySem L2
theorem cutV_whole (xs:List V) {k:Nat} (h:xs.length≤k):cutV xs none (some (k:Int))=xs:=by
  unfold cutV
  have e0:HT.sIx xs.length 0 none=0:=rfl
  have e1:HT.sIx xs.length xs.length (some (k:Int))=xs.length:=by
    unfold HT.sIx
    first | (simp; omega) | (dsimp only; split <;> omega)
  rw [e0,e1,List.drop_zero,Nat.sub_zero]
  exact List.take_length
theorem prt_refl {n:Nat}:∀ A:List Lf,Prt n A A
  | []=>rfl
  | q::A=>⟨[([],q.2)],A,by unfold pfs; rw [List.map_cons,List.map_nil,List.append_nil]; rfl,Cv.one _ _,prt_refl A⟩
theorem ar_lvs (n:Nat):∀ (t:Tr) (p:List Nat),p.length + t.deep≤n→ar n (lvs p t)=4 ^ (n - p.length)
  | .col c,p,_=>rfl
  | .four a b c d,p,h=>by
    have hd:=h
    simp only [Tr.deep] at hd
    have l1:∀ i:Nat,(p++[i]).length=p.length + 1:=fun i=>by rw [List.length_append]; rfl
    show ar n (lvs (p++[0]) a++(lvs (p++[1]) b++(lvs (p++[2]) c++lvs (p++[3]) d)))=_
    rw [ar_app,ar_app,ar_app,ar_lvs n a _ (by rw [l1]; omega),ar_lvs n b _ (by rw [l1]; omega),ar_lvs n c _ (by rw [l1]; omega),ar_lvs n d _ (by rw [l1]; omega),l1,l1,l1,l1]
    have e:n - p.length=(n - (p.length + 1)) + 1:=by omega
    rw [e,Nat.pow_succ]
    omega
theorem TyOf.upT {Tb:List (Addr × Str)} {K:PySem.W.Frag} {H H':Hp} {x:V} {t:Value} (tb:Tabs Tb H) (st:SameT Tb H H') (h:TyOf K H x t):TyOf K H' x t:=by
  cases h with
  | non=>exact .non
  | bl x=>exact .bl x
  | int i=>exact .int i
  | str x=>exact .str x
  | flt x=>exact .flt x
  | lst e=>exact .lst (st.keep tb e (by intro ps z; cases z))
  | frz e=>exact .frz (st.keep tb e (by intro ps z; cases z))
  | tup e=>exact .tup (st.keep tb e (by intro ps z; cases z))
  | dK e=>exact .dK (st.keep tb e (by intro ps z; cases z))
  | dT e=>exact .dT (st.keep tb e (by intro ps z; cases z))
  | ins e cl ha hn htk hm=>exact .ins (st.keep tb e (by intro ps z; cases z)) cl ha hn htk hm

theorem NoInt.upT {Tb:List (Addr × Str)} {K:PySem.W.Frag} {H H':Hp} {x:V} (h:NoInt K H x) (tb:Tabs Tb H) (st:SameT Tb H H'):NoInt K H' x:=h.imp id fun ⟨ty,h1,h2⟩=>⟨ty,TyOf.upT tb st h1,h2⟩
theorem BadC.upT {Tb:List (Addr × Str)} {K:PySem.W.Frag} {H H':Hp} {n:Nat} {x:V} (h:BadC K H n x) (tb:Tabs Tb H) (st:SameT Tb H H'):BadC K H' n x:=h.imp id fun ⟨ty,h1,h2⟩=>⟨ty,TyOf.upT tb st h1,h2⟩
theorem BadL.upT {Tb:List (Addr × Str)} {K:PySem.W.Frag} {H H':Hp} {m:Int} {x:V} (h:BadL K H m x) (tb:Tabs Tb H) (st:SameT Tb H H'):BadL K H' m x:=h.imp id fun h=>h.upT tb st
theorem BadI.upT {Tb:List (Addr × Str)} {K:PySem.W.Frag} {H H':Hp} {m:Int} {x:V} (h:BadI K H m x) (tb:Tabs Tb H) (st:SameT Tb H H'):BadI K H' m x:=h.imp id fun h=>h.upT tb st
theorem BadP.upT {Tb:List (Addr × Str)} {K:PySem.W.Frag} {H H':Hp} {n:Nat} {x:V} (h:BadP K H n x) (tb:Tabs Tb H) (st:SameT Tb H H'):BadP K H' n x:=h.imp id fun h=>h.upT tb st
theorem EntAt.upT {Tb:List (Addr × Str)} {K:PySem.W.Frag} {H H':Hp} {n:Nat} {u:V} {e:EK} (h:EntAt K H n u e) (tb:Tabs Tb H) (st:SameT Tb H H'):EntAt K H' n u e:=by
  have kp:∀ {p:Addr} {xs:List V},H p=some (.tup xs)→H' p=some (.tup xs):=fun h=>st.keep tb h (by intro ps z; cases z)
  cases e with
  | ok q =>
    obtain ⟨p,z,e1,e2,r⟩:=h
    exact ⟨p,z,e1,kp e2,r⟩
  | noCode =>
    obtain ⟨p,x,y,e1,e2,r⟩:=h
    exact ⟨p,x,y,e1,kp e2,r.upT tb st⟩
  | noCol =>
    obtain ⟨p,z,y,e1,e2,hz,lz,r⟩:=h
    exact ⟨p,z,y,e1,kp e2,hz,lz,r.upT tb st⟩
mutual
theorem Dat.upX {Tb:List (Addr × Str)} {H H':Hp} (tb:Tabs Tb H) (st:SameT Tb H H'):∀ {x:V} {d:PyData},Dat H x d→Dat H' x d
  | _,_,.non=>.non
  | _,_,.bl b=>.bl b
  | _,_,.int i=>.int i
  | _,_,.str x=>.str x
  | _,_,.lst h r=>.lst (st.keep tb h (by intro ps z; cases z)) (Dats.upX tb st r)
  | _,_,.tup h r=>.tup (st.keep tb h (by intro ps z; cases z)) (Dats.upX tb st r)
theorem Dats.upX {Tb:List (Addr × Str)} {H H':Hp} (tb:Tabs Tb H) (st:SameT Tb H H'):∀ {xs:List V} {ds:List PyData},Dats H xs ds→Dats H' xs ds
  | _,_,.nil=>.nil
  | _,_,.cons h r=>.cons (Dat.upX tb st h) (Dats.upX tb st r)
end
theorem dats_of {H:Hp}:∀ {us:List V},(∀ u∈us,DU H u)→∃ ds,Dats H us ds∧PyData.canLayAll0 ds=true∧PyData.depthAll ds≤2
  | [],_=>⟨[],.nil,rfl,Nat.zero_le _⟩
  | u::us,h=>by
    obtain ⟨d,h1,h2,h3⟩:=h u List.mem_cons_self
    obtain ⟨ds,k1,k2,k3⟩:=dats_of fun v hv=>h v (List.mem_cons_of_mem _ hv)
    refine ⟨d::ds,.cons h1 k1,?_,?_⟩
    · show (d.canLay0 && PyData.canLayAll0 ds)=true
      rw [h2,k2]; rfl
    · show max d.depth (PyData.depthAll ds)≤2
      omega
theorem seqT {T:List (Addr × Str)} {K:PySem.W.Frag} {H H':Hp} {a:Addr} {xs:List V} (s:SameT T H H') (t:Tabs T H) (h:SqL K H a xs):SqL K H' a xs:=by
  rcases h with (h | ⟨o,h⟩) | h
  · exact .inl (.inl (s.keep t h (by intro ps z; cases z)))
  · exact .inl (.inr ⟨o,s.keep t h (by intro ps z; cases z)⟩)
  · exact .inr h

theorem due_f12 {K:PySem.W.Frag} {mg:Str→Option Value} (Y:Yx K mg) {n:Nat} {es:List EK} {d:Int} (h:DueIs n es d) (h0:¬ d < 0):∃ (C:Addr) (j:Nat),d=(j:Int)∧F12 Y C j∧(d=1→C=Y.c_NoCode)∧(d=2→C=Y.c_NoColour)∧(d=6→C=Y.c_Twice)∧(d=7→C=Y.c_Gap)∧(d≠-1):=by
  rcases h with ⟨_,_,_,rfl⟩ | ⟨_,_,_,rfl⟩ | ⟨_,_,⟨_,rfl⟩ | ⟨_,_,rfl⟩ | ⟨_,_,rfl⟩⟩
  · exact ⟨_,1,rfl,f12_NoCode Y,fun _=>rfl,fun z=>absurd z (by decide),fun z=>absurd z (by decide),fun z=>absurd z (by decide),by decide⟩
  · exact ⟨_,2,rfl,f12_NoColour Y,fun z=>absurd z (by decide),fun _=>rfl,fun z=>absurd z (by decide),fun z=>absurd z (by decide),by decide⟩
  · exact ⟨_,6,rfl,f12_Twice Y,fun z=>absurd z (by decide),fun z=>absurd z (by decide),fun _=>rfl,fun z=>absurd z (by decide),by decide⟩
  · exact ⟨_,7,rfl,f12_Gap Y,fun z=>absurd z (by decide),fun z=>absurd z (by decide),fun z=>absurd z (by decide),fun _=>rfl,by decide⟩
  · exact absurd (by decide) h0
section
variable {P:Program} {w:World} {K:PySem.W.Frag} {mg:Str→Option Value} {base:Heap} {CX:CXT} {f:Addr} {fd:FuncData}
abbrev s_law:Stmt:=top 60
theorem sc_law:FnScope ["_law_script","_law_level","_law_tree","_law_cover","_law_some","_law_due_here","_law_handed","_law_none","_law_sheet_here","_law_far"] ["_law_script"] (defScope s_law):=⟨rfl,rfl,rfl,by decide +kernel,rfl,by decide +kernel,by decide +kernel⟩
abbrev qLaw:Str:=("law" : Str) ++ ".<locals>." ++ "<lambda>"
def sp_law (K:PySem.W.Frag) (Tb:List (Addr × Str)):Sp:=fun vs H Q _=>∃ (a:Addr) (ns:List Int),vs=[.ref a]∧SqL K H a (ns.map V.int)∧ns.length≤63∧Tabs Tb H∧∀ H',Q (.bl true) H'
theorem ok_law (T:Tx K mg) (Y:Yx K mg) (q:Quiet (CXe P w)) {Tb:List (Addr × Str)} {Pt:Addr} (F:FunT K "law" "law" s_law f fd .none Pt) (KX:K.In base) (hB:BMain mg base) (hT:(Pt,qLaw)∈Tb) (hnd:(Tb.map (·.1)).Nodup)
    (C__law_sheet:Fok P w K mg base (CXe P w) 44 "_law_sheet" ["_law_script","_law_most"] [] (sp_law_sheet K)) (C__law_leaves:Fok P w K mg base (CXe P w) 42 "_law_leaves" ["_law_tree","_law_code_here"] [] (sp_law_leaves 41)) (C__law_faulty:Fok P w K mg base (CXe P w) 3 "_law_faulty" ["_law_script","_law_cover","_law_level"] [] (sp_law_faulty K)) (C__law_due:Fok P w K mg base (CXe P w) 2 "_law_due" ["_law_cover","_law_level"] [] (sp_law_due K)) (C_sheet_of:Fok P w K mg base (CXe P w) 45 "sheet_of" ["level","cover"] [] (sp_sheet_ofX Y)) (R__law_refused:RefD P w K mg base Y)
    (C__law_no_level:Fok P w K mg base (CXe P w) 1 "_law_no_level" ["_law_cell"] [] (sp_law_no_level K)) (C__law_at:Fok P w K mg base (CXe P w) 1 "_law_at" ["_law_script","_law_k"] [] (sp_law_at K)) (C__law_no_place:Fok P w K mg base (CXe P w) 1 "_law_no_place" ["_law_cell","_law_wide"] [] (sp_law_no_place K)) (C_leaf_at:Fok P w K mg base (CXe P w) 5 "leaf_at" ["sheet","x","y"] [] (sp_leaf_atX Y)) :
    FnOk P w K mg base (CXe P w) 50 f fd ["_law_script"] (sp_law K Tb):=by
  refine F.ok KX sc_law (fun vs H Q E h => ?_) (fun c A outer s H vs Q E hC hr h => ?_)
  · obtain ⟨_,_,rfl,_⟩:=h
    rfl
  obtain ⟨a,ns,rfl,hS,h63,hTb,q'⟩:=h
  refine ⟨_,(pss_cons (ps_asg (pe_callF C__law_sheet q hr (pa_cons (pv 0) (pa_cons pe_int pa_nil))) (pg_tup rfl (pgs_cons (pg_name (i:=1) sc_law.nd rfl (Or.inr rfl)) (pgs_cons (pg_name (i:=2) sc_law.nd rfl (Or.inl rfl)) pgs_nil)))) (pss_cons (ps_set (i:=3) sc_law.nd rfl (Or.inl rfl) (pe_slice sl_list (pe_callF C__law_leaves q hr (pa_cons (pv 2) (pa_cons pe_str pa_nil))) po_none (po_some pe_int))) (pss_cons (ps_cut (PSx.h (psx_if (pt_cmpR op_eq (pe_callB call_len rfl T.b_len bb_len (pa_cons (pv 3) pa_nil)) pe_int (nomark _)) (pssx_cons (PSx.mk (ps_set (i:=1) sc_law.nd rfl (Or.inr rfl) pe_int)) (pssx_one (psx_set (i:=3) sc_law.nd rfl (Or.inl rfl) (pex_lst (pax_cx (pex_tup (pax_cx (PEx.mk pe_str) (pax_cx (PEx.mk pe_int) pax_nil))) (pax_cx (pex_tup (pax_cx (PEx.mk pe_str) (pax_cx (PEx.mk pe_int) pax_nil))) (pax_cx (pex_tup (pax_cx (PEx.mk pe_str) (pax_cx (PEx.mk pe_int) pax_nil))) (pax_cx (pex_tup (pax_cx (PEx.mk pe_str) (pax_cx (PEx.mk pe_int) pax_nil))) pax_nil)))))))) pssx_nil))) (pss_cons (ps_set (i:=4) sc_law.nd rfl (Or.inl rfl) (pe_callF C__law_faulty q hr (pa_cons (pv 0) (pa_cons (pv 3) (pa_cons (pv 1) pa_nil))))) (pss_cons (ps_set (i:=5) sc_law.nd rfl (Or.inl rfl) (pe_callF C__law_due q hr (pa_cons (pv 4) (pa_cons (pv 1) pa_nil)))) (pss_cons (ps_set (i:=6) sc_law.nd rfl (Or.inr rfl) (pe_callTy call_list_of rfl T.b_list bt_list (pa_cons (pv 4) pa_nil))) (pss_cons (ps_cut (PSx.h (psx_if (pt_cmpR op_lt (pv 5) pe_int (nomark _)) (pssx_one (psx_if (pt_cmpR op_ne (pe_ix ix_tup (pe_callF C_sheet_of q hr (pa_cons (pv 1) (pa_cons (pv 6) pa_nil))) pe_int (fun _ _=>rfl)) (pv 1) (nomark _)) (pssx_one (PSx.mk (ps_ret pe_bl))) pssx_nil)) (pssx_one (psx_if (pt_not (pt_val (pe_deed ["_law_level","_law_handed"] ["_law_level","_law_handed"] [1,6] R__law_refused hr rfl (capsL_cons rfl (Or.inr (Or.inl rfl)) (by decide) (capsL_cons rfl (Or.inr (Or.inl rfl)) (by decide) capsL_nil)) rfl hB hC rfl hT hnd rfl (by with_unfolding_all rfl) (by exact ⟨rfl,rfl,rfl,by decide +kernel,by decide +kernel,by decide +kernel,by decide +kernel,by decide +kernel⟩) (fun _ _ _=>rfl) (fun fa c' A outer s H E hr=>(pe_callX C_sheet_of hr passL (pa_cons (pv 0) (pa_cons (pv 1) pa_nil)))) (pa_cons (pv 5) pa_nil) (fun _ _ _ _ k ⟨v,e,h⟩=>⟨v,e,k _ _ h⟩)))) (pssx_one (PSx.mk (ps_ret pe_bl))) pssx_nil))))) (pss_cons (PSx.h (psx_if (pt_cmpR (op_neD hr) (pv 6) (pv 4) (nomark _)) (pssx_one (PSx.mk (ps_ret pe_bl))) pssx_nil)) (pss_cons (ps_set (i:=7) sc_law.nd rfl (Or.inr rfl) (pe_callF C__law_no_level q hr (pa_cons (pe_callF C__law_at q hr (pa_cons (pv 0) (pa_cons pe_int pa_nil))) pa_nil))) (pss_cons (PSx.h (psx_if (pt_not (pt_val (pe_deed ["_law_none","_law_handed"] ["_law_none","_law_handed"] [7,6] R__law_refused hr rfl (capsL_cons rfl (Or.inr (Or.inl rfl)) (by decide) (capsL_cons rfl (Or.inr (Or.inl rfl)) (by decide) capsL_nil)) rfl hB hC rfl hT hnd rfl (by with_unfolding_all rfl) (by exact ⟨rfl,rfl,rfl,by decide +kernel,by decide +kernel,by decide +kernel,by decide +kernel,by decide +kernel⟩) (fun _ _ _=>rfl) (fun fa c' A outer s H E hr=>(pe_callX C_sheet_of hr passL (pa_cons (pv 0) (pa_cons (pv 1) pa_nil)))) (pa_cons pe_int pa_nil) (fun _ _ _ _ k h=>k _ _ h)))) (pssx_one (PSx.mk (ps_ret pe_bl))) pssx_nil)) (pss_cons (ps_set (i:=8) sc_law.nd rfl (Or.inr rfl) (pe_callF C_sheet_of q hr (pa_cons (pv 1) (pa_cons (pe_callTy call_list_of rfl T.b_list bt_list (pa_cons (pv 3) pa_nil)) pa_nil)))) (pss_cons (ps_set (i:=9) sc_law.nd rfl (Or.inr rfl) (pe_callF C__law_no_place q hr (pa_cons (pe_op op_fdivW (pe_callF C__law_at q hr (pa_cons (pv 0) (pa_cons pe_int pa_nil))) pe_int) (pa_cons (pe_op op_shl pe_int (pv 1)) pa_nil)))) (pss_cons (PSx.h (psx_if (pt_not (pt_val (pe_deed ["_law_sheet_here","_law_far"] ["_law_sheet_here","_law_far"] [8,9] R__law_refused hr rfl (capsL_cons rfl (Or.inr (Or.inl rfl)) (by decide) (capsL_cons rfl (Or.inr (Or.inl rfl)) (by decide) capsL_nil)) rfl hB hC rfl hT hnd rfl (by with_unfolding_all rfl) (by exact ⟨rfl,rfl,rfl,by decide +kernel,by decide +kernel,by decide +kernel,by decide +kernel,by decide +kernel⟩) (fun _ _ _=>rfl) (fun fa c' A outer s H E hr=>(pe_callX C_leaf_at hr passL (pa_cons (pv 0) (pa_cons (pv 1) (pa_cons pe_int pa_nil))))) (pa_cons pe_int pa_nil) (fun _ _ _ _ k h=>k _ _ h)))) (pssx_one (PSx.mk (ps_ret pe_bl))) pssx_nil)) (pss_one (ps_ret (pe_and (pe_cmpR op_eq (pe_ix ix_tup (pv 8) pe_int (fun _ _=>rfl)) (pv 1) (nomark _)) (pe_one (pe_deed ["_law_sheet_here","_law_far"] ["_law_sheet_here","_law_far"] [8,9] R__law_refused hr rfl (capsL_cons rfl (Or.inr (Or.inl rfl)) (by decide) (capsL_cons rfl (Or.inr (Or.inl rfl)) (by decide) capsL_nil)) rfl hB hC rfl hT hnd rfl (by with_unfolding_all rfl) (by exact ⟨rfl,rfl,rfl,by decide +kernel,by decide +kernel,by decide +kernel,by decide +kernel,by decide +kernel⟩) (fun _ _ _=>rfl) (fun fa c' A outer s H E hr=>(pe_callX C_leaf_at hr passL (pa_cons (pv 0) (pa_cons pe_int (pa_cons (pv 1) pa_nil))))) (pa_cons pe_int pa_nil) (fun _ _ _ _ k h=>k _ _ h))))))))))))))))))),?_⟩
  have e0:("" : Str).length=0:=by decide +kernel
  refine ⟨_,rfl,a,ns,4,rfl,hS,h63,by decide,fun vs n0 t H1 s1 hsh hn0 gt ct => ?_⟩
  obtain ⟨ps,vt,rfl,hps,ht⟩:=id hsh
  refine ⟨ps,_,rfl,SqT.of hps,rfl,_,_,rfl,_,_,rfl,rfl,?_⟩
  refine ⟨_,rfl,vt,t,("" : Str),n0,n0,rfl,ht,gt,empty_eq▸IsC.nil,by rw [e0]; omega,hn0,by omega,by decide,ct,fun lt ts H2 s2 hlt u2 hts => ?_⟩
  rw [dig_empty] at hts
  refine ⟨_,rfl,lt,ts,rfl,SqL.of u2,fun lc hlc => ?_⟩
  have lts:=hts.len
  have apt:(lvs [] t).Pairwise Apt:=(Prt.cv gt (prt_refl _)).apt
  have arf:ar n0 (lvs [] t)=4 ^ n0:=by
    have:=ar_lvs n0 t [] (by show 0 + t.deep≤n0; have:=gt.deep; omega)
    exact this
  have lpos:0 < (lvs [] t).length:=by
    cases h:lvs [] t with
    | nil =>
      rw [h] at arf
      exact absurd arf (Nat.ne_of_lt (Nat.pow_pos (by decide)))
    | cons _ _=>exact Nat.succ_pos _
  let S:St→Hp→Prop:=fun σ H3=>Same H H3∧∃ (n:Nat) (lc:Addr) (us:List V) (C:List Lf),n≤40∧H3 lc=some (.lst us)∧PasAt H3 n us C∧C.Pairwise Apt∧ar n C=4 ^ n∧0 < us.length∧us.length≤200∧σ=[some (.ref a),some (.int (n:Int)),some vt,some (.ref lc),none,none,none,none,none,none]
  have s12:=s1.trans s2
  have ec:cutV ts none (some 160)=ts.take 160:=by
    by_cases h:160≤ts.length
    · exact cutV_take ts (k:=160) h
    · rw [List.take_of_length_le (by omega)]
      exact cutV_whole ts (k:=160) (by omega)
  rw [ec]
  have s3:=Same.new hlc (.lst (ts.take 160))
  have u3:upd H2 lc (.lst (ts.take 160)) lc=some (.lst (ts.take 160)):=upd_same
  generalize upd H2 lc (.lst (ts.take 160))=H3 at *
  have s13:=s12.trans s3
  refine ⟨S,?_,?_⟩
  · refine ⟨_,rfl,_,_,rfl,.inl ⟨_,SqL.of u3,rfl⟩,rfl,_,rfl,ite2 (fun c => ?_) (fun c => ?_)⟩
    · refine ⟨(by show 2≤sizeLine; decide),fun p1 g1 => ?_⟩
      generalize e1:upd H3 p1 _=A1
      have t1:Same H3 A1:=e1▸Same.new g1 _
      have w1:A1 p1=some (.tup [.str "2",.int 5]):=by rw [← e1]; exact upd_same
      refine ⟨(by show 2≤sizeLine; decide),fun p2 g2 => ?_⟩
      generalize e2:upd A1 p2 _=A2
      have t2:Same A1 A2:=e2▸Same.new g2 _
      have w2:A2 p2=some (.tup [.str "0",.int 0]):=by rw [← e2]; exact upd_same
      refine ⟨(by show 2≤sizeLine; decide),fun p3 g3 => ?_⟩
      generalize e3:upd A2 p3 _=A3
      have t3:Same A2 A3:=e3▸Same.new g3 _
      have w3:A3 p3=some (.tup [.str "3",.int 5]):=by rw [← e3]; exact upd_same
      refine ⟨(by show 2≤sizeLine; decide),fun p4 g4 => ?_⟩
      generalize e4:upd A3 p4 _=A4
      have t4:Same A3 A4:=e4▸Same.new g4 _
      have w4:A4 p4=some (.tup [.str "1",.int 7]):=by rw [← e4]; exact upd_same
      refine ⟨(by show 4≤sizeLine; decide),fun p5 g5 => ?_⟩
      have t5:=Same.new g5 (.lst [V.ref p1,.ref p2,.ref p3,.ref p4])
      have w5:upd A4 p5 (.lst [V.ref p1,.ref p2,.ref p3,.ref p4]) p5=some (.lst [V.ref p1,.ref p2,.ref p3,.ref p4]):=upd_same
      generalize upd A4 p5 (.lst [V.ref p1,.ref p2,.ref p3,.ref p4])=A5 at *
      have sA:=t1.trans (t2.trans (t3.trans (t4.trans t5)))
      have pa:PasAt A5 1 [V.ref p1,.ref p2,.ref p3,.ref p4] [([2],5),([0],0),([3],5),([1],7)] :=
        .cons ⟨p1,_,rfl,(t2.trans (t3.trans (t4.trans t5))) _ _ w1,by unfold IsC; decide +kernel,by decide +kernel,by decide +kernel,by decide,by decide⟩ (.cons ⟨p2,_,rfl,(t3.trans (t4.trans t5)) _ _ w2,by unfold IsC; decide +kernel,by decide +kernel,by decide +kernel,by decide,by decide⟩ (.cons ⟨p3,_,rfl,(t4.trans t5) _ _ w3,by unfold IsC; decide +kernel,by decide +kernel,by decide +kernel,by decide,by decide⟩ (.cons ⟨p4,_,rfl,t5 _ _ w4,by unfold IsC; decide +kernel,by decide +kernel,by decide +kernel,by decide,by decide⟩ .nil)))
      exact ⟨s13.trans sA,1,p5,_,_,by decide,w5,pa,by unfold Apt; decide +kernel,by decide +kernel,by simp,by simp,rfl⟩
    · have lt160:ts.length < 160:=by
        rcases Nat.lt_or_ge ts.length 160 with g | g
        · exact g
        · exact absurd (decide_eq_true (by rw [List.length_take,Nat.min_eq_left g]; rfl)) c
      rw [List.take_of_length_le (by omega)] at u3
      exact ⟨s13,n0,lc,ts,lvs [] t,hn0,u3,hts.up s3.tups,apt,arf,by omega,by omega,rfl⟩
  rintro σ H4 ⟨s4,n,lc,us,C,hn,ul,hpa,hA,hf,lu0,lu,rfl⟩
  have tb4:=s4.tabs hTb
  have pas_ents:Paired (EntAt K H4 n) us (C.map .ok):=by
    clear hf hA ul lu lu0
    induction hpa with
    | nil=>exact .nil
    | cons h _ ih=>exact .cons h ih
  refine ⟨_,rfl,_,rfl,_,rfl,a,ns,lc,us,C,n,rfl,s4.seq hS,h63,ul,hpa,lu0,by omega,hn,fun lx xs H5 s5 ux fx lxs => ?_⟩
  have s05:=s4.trans s5
  obtain ⟨⟨es,hes⟩,hdu⟩:=id fx
  refine ⟨_,rfl,_,rfl,lx,xs,es,n,rfl,ux,hes,by omega,hn,fun d H6 s6 due => ?_⟩
  have s06:=s05.trans s6
  refine ⟨_,rfl,lx,xs,rfl,.inl (SqL.of (s6 _ _ ux)),fun lh hlh => ?_⟩
  have s7:=Same.new hlh (.lst xs)
  have u7:upd H6 lh (.lst xs) lh=some (.lst xs):=upd_same
  generalize upd H6 lh (.lst xs)=H7 at *
  have s57:=s6.trans s7
  have s07:=s05.trans s57
  have st7:=Same.toT (T:=Tb) s07
  have tb7:=s07.tabs hTb
  have hes7:Paired (EntAt K H7 n) xs es:=Paired.mapP hes fun _ _ h=>h.up s57
  have ux7:=s57 _ _ ux
  let S2:St→Hp→Prop:=fun σ H8=>SameT Tb H7 H8∧Tabs Tb H8∧σ=[some (.ref a),some (.int (n:Int)),some vt,some (.ref lc),some (.ref lx),some (.int d),some (.ref lh),none,none,none]
  refine ⟨S2,?_,?_⟩
  · refine ⟨_,rfl,_,_,rfl,rfl,_,rfl,ite2 (fun c0 => ?_) (fun c0 => ?_)⟩
    · have d0:d < 0:=of_decide_eq_true c0
      refine ⟨_,rfl,_,rfl,.int (n:Int),lh,xs,rfl,.inr ⟨n,es,d,rfl,hn,u7,hes7,by omega,due,(fun z=>by omega),(fun z=>by omega),(fun z=>by omega),(fun z=>by omega),fun _ v tt H8 s8 hv _ => ?_⟩⟩
      obtain ⟨pv,vv,rfl,hpv,_⟩:=hv
      exact ⟨pv,_,_,_,rfl,rfl,SqT.of hpv,rfl,_,rfl,rfl,_,rfl,iteNS rfl ⟨Same.toT (T:=Tb) s8,s8.tabs tb7,rfl⟩⟩
    · have d0:¬ d < 0:=fun z=>c0 (decide_eq_true z)
      obtain ⟨Cx,j,ej,h12,k1,k2,k6,k7,km⟩:=due_f12 Y due d0
      refine ⟨[.int (n:Int),.ref lh],.ref Cx,rfl,tb7,fun H8 st8 tb8=>⟨_,rfl,rfl,⟨Cx,j,rfl,by rw [ej],h12⟩,fun E' Q' hE => ?_,fun H9 st9 tb9=>⟨_,rfl,iteF ⟨st9,tb9,rfl⟩⟩⟩⟩
      exact ⟨_,rfl,_,rfl,.int (n:Int),lh,xs,rfl,.inr ⟨n,es,d,rfl,hn,st8.keep tb7 u7 (by intro ps z; cases z),Paired.mapP hes7 fun _ _ h=>h.upT tb7 st8,by omega,due,(fun z=>by rw [← k1 z]; exact hE),(fun z=>by rw [← k2 z]; exact hE),(fun z=>by rw [← k6 z]; exact hE),(fun z=>by rw [← k7 z]; exact hE),fun z=>absurd z km⟩⟩
  rintro σ H8 ⟨st8,tb8,rfl⟩
  have ux8:=st8.keep tb7 ux7 (by intro ps z; cases z)
  have uh8:=st8.keep tb7 u7 (by intro ps z; cases z)
  obtain ⟨ds,hds,cl,dp⟩:=dats_of hdu
  have hds8:Dats H8 xs ds:=Dats.upX tb7 st8 (Dats.upS s57 hds)
  have shp:SeqAt.shaped (.list ds)=true:=by
    unfold SeqAt.shaped
    show (PyData.canLayAll0 ds && decide (PyData.depthAll ds + 1≤64))=true
    rw [cl,decide_eq_true (by omega)]
    rfl
  refine ⟨_,rfl,_,rfl,.list ds,.list ds,.lst uh8 hds8,.lst ux8 hds8,shp,shp,?_⟩
  rw [SeqAt.eqv_refl _ (SeqAt.canLay_of_shaped shp)]
  refine ⟨_,rfl,iteF ?_⟩
  have st08:=st7.trans st8
  refine ⟨_,rfl,a,ns,12,rfl,seqT st08 hTb hS,h63,_,rfl,fun xn H9 s9 bn => ?_⟩
  have st9:=st8.trans (Same.toT (T:=Tb) s9)
  have tb9:=s9.tabs tb8
  refine ⟨[xn,.ref lh],.ref Y.c_NoLevel,rfl,tb9,fun Ha sta tba=>⟨rfl,⟨_,0,rfl,rfl,f12_NoLevel Y⟩,fun E' Q' hE => ?_,fun Hb stb tbb=>⟨_,rfl,iteF ?_⟩⟩⟩
  · exact ⟨_,rfl,_,rfl,xn,lh,xs,rfl,.inl ⟨bn.upT tb9 sta,hE⟩⟩
  have st7b:=st9.trans stb
  have s47:=s5.trans s57
  have ul7:=s47 _ _ ul
  have ulb:=st7b.keep tb7 ul7 (by intro ps z; cases z)
  refine ⟨_,rfl,_,rfl,lc,us,rfl,.inl (SqL.of ulb),fun l2 hl2 => ?_⟩
  have sc:=Same.new hl2 (.lst us)
  have uc:upd Hb l2 (.lst us) l2=some (.lst us):=upd_same
  generalize upd Hb l2 (.lst us)=Hc at *
  have st7c:=st7b.trans (Same.toT (T:=Tb) sc)
  have tbc:=sc.tabs tbb
  have entc:Paired (EntAt K Hc n) us (C.map .ok):=Paired.mapP pas_ents fun _ _ h=>(h.up s47).upT tb7 st7c
  refine ⟨.int (n:Int),l2,us,rfl,.inr ⟨n,C.map .ok,-1,rfl,hn,uc,entc,by omega,.inr (.inr ⟨C,rfl,.inr (.inr ⟨hA,hf,rfl⟩)⟩),(fun z=>by cases z),(fun z=>by cases z),(fun z=>by cases z),(fun z=>by cases z),fun _ vS tS Hd sd hvS gS => ?_⟩⟩
  have st7d:=st7c.trans (Same.toT (T:=Tb) sd)
  have tbd:=sd.tabs tbc
  have p2:=shl_one n
  refine ⟨_,rfl,a,ns,12,rfl,seqT (st7.trans st7d) hTb hS,h63,_,_,rfl,rfl,cdivW (by decide) (by decide),_,rfl,_,_,rfl,rfl,⟨by omega,by omega,by omega⟩,cell ns 12 / 3,n,(by show [V.int (cell ns 12 / 3),V.int (1 * 2 ^ ((n:Int)).toNat)]=_; rw [p2]),fun fr He se bf => ?_⟩
  have tbe:=se.tabs tbd
  have hve:=hvS.up se.tups
  have g0:GoodP n (.int 0):=⟨0,rfl,by decide,by have:=Nat.two_pow_pos n; omega⟩
  refine ⟨[vS,fr],.ref Y.c_NoPlace,rfl,tbe,fun Hf stf tbf=>⟨rfl,⟨_,3,rfl,rfl,f12_NoPlace Y⟩,fun E' Q' hE => ?_,fun Hg stg tbg=>⟨_,rfl,iteF ?_⟩⟩⟩
  · exact ⟨_,rfl,_,rfl,vS,fr,.int 0,n,tS,rfl,hve.up (stf.tups tbe),hn,.inl (bf.upT tbe stf),hE⟩
  obtain ⟨pS,vv,rfl,hpS,htS⟩:=id hve
  have hpg:=stg.keep tbe hpS (by intro ps z; cases z)
  refine ⟨_,rfl,pS,_,_,_,rfl,rfl,SqT.of hpg,rfl,_,rfl,rfl,_,rfl,?_⟩
  rw [decide_eq_true rfl]
  refine iteT ?_
  refine ⟨[.ref pS,fr],.ref Y.c_NoPlace,rfl,tbg,fun Hh sth tbh=>⟨rfl,⟨_,3,rfl,rfl,f12_NoPlace Y⟩,fun E' Q' hE => ?_,fun Hi sti tbi=>q' _⟩⟩
  have st:=stg.trans sth
  exact ⟨_,rfl,_,rfl,.ref pS,.int 0,fr,n,tS,rfl,hve.up (st.tups tbe),hn,.inr ⟨g0,bf.upT tbe st⟩,hE⟩
end
end Qs


namespace Qs
open PySem L2
theorem lenKS {us:List Value} {n:Nat} (h:us.length=n + 1):∃ a t,us=a::t∧t.length=n:=by
  cases us with
  | nil=>cases h
  | cons a t=>exact ⟨a,t,rfl,Nat.succ.inj h⟩
theorem lenK1 {us:List Value} (h:us.length=1):∃ a,us=[a]:=by
  obtain ⟨a,u0,e0,h⟩:=lenKS h
  have e:=List.eq_nil_of_length_eq_zero h
  subst e
  subst e0
  exact ⟨a,rfl⟩
theorem lenK2 {us:List Value} (h:us.length=2):∃ a b,us=[a,b]:=by
  obtain ⟨a,u0,e0,h⟩:=lenKS h
  obtain ⟨b,u1,e1,h⟩:=lenKS h
  have e:=List.eq_nil_of_length_eq_zero h
  subst e
  subst e1
  subst e0
  exact ⟨a,b,rfl⟩
theorem lenK3 {us:List Value} (h:us.length=3):∃ a b c,us=[a,b,c]:=by
  obtain ⟨a,u0,e0,h⟩:=lenKS h
  obtain ⟨b,u1,e1,h⟩:=lenKS h
  obtain ⟨c,u2,e2,h⟩:=lenKS h
  have e:=List.eq_nil_of_length_eq_zero h
  subst e
  subst e2
  subst e1
  subst e0
  exact ⟨a,b,c,rfl⟩
theorem lenK4 {us:List Value} (h:us.length=4):∃ a b c d,us=[a,b,c,d]:=by
  obtain ⟨a,u0,e0,h⟩:=lenKS h
  obtain ⟨b,u1,e1,h⟩:=lenKS h
  obtain ⟨c,u2,e2,h⟩:=lenKS h
  obtain ⟨d,u3,e3,h⟩:=lenKS h
  have e:=List.eq_nil_of_length_eq_zero h
  subst e
  subst e3
  subst e2
  subst e1
  subst e0
  exact ⟨a,b,c,d,rfl⟩
theorem len1 {us:List Value} {d:Value} (h:(us++[d]).length=2):∃ a,us=[a]:=by
  match us,h with
  | [a],_=>exact ⟨a,rfl⟩
  | [],h=>simp at h
  | _::_::_,h=>simp at h
theorem all_mk {l:PySem.W.OpenLaw} {w:World} {K:PySem.W.Frag} {h:Heap} {mg:Str→Option Value} {fa f0 f1 f2 f3 f4 f5 f6 f7 f8 f9 f10 f11 f12 f13 f14 f15 f16 f17 f18 f19 f20 f21 f22 f23 f24 f25 f26 f27 f28 f29 f30 f31 f32 f33 f34 f35 f36 f37 f38:Addr} (X:K.In h) (G:h.Ns mainGlobals mg) (hfa:mg "law" = some (.ref fa))
    {od0 an0 od1 an1 od2 an2 od3 an3 od4 an4 od5 an5 od6 an6 od7 an7 od8 an8 od9 an9 od10 an10 od11 an11 od12 an12 od13 an13 od14 an14 od15 an15 od16 an16 od17 an17 od18 an18 od19 an19 od20 an20 od21 an21 od22 an22 od23 an23 od24 an24 od25 an25 od26 an26 od27 an27 od28 an28 od29 an29 od30 an30 od31 an31 od32 an32 od33 an33 od34 an34 od35 an35 od36 an36 od37 an37 od38 an38:Option Addr} {sl0 sl1 sl2 sl3 sl4 sl5 sl6 sl7 sl8 sl9 sl10 sl11 sl12 sl13 sl14 sl15 sl16 sl17 sl18 sl19 sl20 sl21 sl22 sl23 sl24 sl25 sl26 sl27 sl28 sl29 sl30 sl31 sl32 sl33 sl34 sl35 sl36 sl37 sl38:Array (Option Value)} {oc0 kV0 dc0 pm0 cd0 ct0 oc1 kV1 dc1 pm1 cd1 ct1 oc2 kV2 dc2 pm2 cd2 ct2 oc3 kV3 dc3 pm3 cd3 ct3 oc4 kV4 dc4 pm4 cd4 ct4 oc5 kV5 dc5 pm5 cd5 ct5 oc6 kV6 dc6 pm6 cd6 ct6 oc7 kV7 dc7 pm7 cd7 ct7 oc8 kV8 dc8 pm8 cd8 ct8 oc9 kV9 dc9 pm9 cd9 ct9 oc10 kV10 dc10 pm10 cd10 ct10 oc11 kV11 dc11 pm11 cd11 ct11 oc12 kV12 dc12 pm12 cd12 ct12 oc13 kV13 dc13 pm13 cd13 ct13 oc14 kV14 dc14 pm14 cd14 ct14 oc15 kV15 dc15 pm15 cd15 ct15 oc16 kV16 dc16 pm16 cd16 ct16 oc17 kV17 dc17 pm17 cd17 ct17 oc18 kV18 dc18 pm18 cd18 ct18 oc19 kV19 dc19 pm19 cd19 ct19 oc20 kV20 dc20 pm20 cd20 ct20 oc21 kV21 dc21 pm21 cd21 ct21 oc22 kV22 dc22 pm22 cd22 ct22 oc23 kV23 dc23 pm23 cd23 ct23 oc24 kV24 dc24 pm24 cd24 ct24 oc25 kV25 dc25 pm25 cd25 ct25 oc26 kV26 dc26 pm26 cd26 ct26 oc27 kV27 dc27 pm27 cd27 ct27 oc28 kV28 dc28 pm28 cd28 ct28 oc29 kV29 dc29 pm29 cd29 ct29 oc30 kV30 dc30 pm30 cd30 ct30 oc31 kV31 dc31 pm31 cd31 ct31 oc32 kV32 dc32 pm32 cd32 ct32 oc33 kV33 dc33 pm33 cd33 ct33 oc34 kV34 dc34 pm34 cd34 ct34 oc35 kV35 dc35 pm35 cd35 ct35 oc36 kV36 dc36 pm36 cd36 ct36 oc37 kV37 dc37 pm37 cd37 ct37 oc38 kV38 dc38 pm38 cd38 ct38:Value}
    {dt5:Addr} {do5:Option Addr} {dn5:Nat} {dsl5:Array (Option Value)} {dk5:Tok}
    (a0:PySem.W.nsIn K mainGlobals "is_whole" = some (some (.ref f0))) (l0:K.lookup f0=some ⟨oc0,od0,.func (PySem.W.fnOf "is_whole" "is_whole" (defArgs s_is_whole) (defBody s_is_whole) (defScope s_is_whole) .none kV0 dc0 pm0 an0 cd0 ct0),sl0⟩) (c0:PySem.W.codeIn K cd0 "is_whole" = true) (k0:PySem.W.keepIn K (.ref f0)=true)
    (a1:PySem.W.nsIn K mainGlobals "is_code" = some (some (.ref f1))) (l1:K.lookup f1=some ⟨oc1,od1,.func (PySem.W.fnOf "is_code" "is_code" (defArgs s_is_code) (defBody s_is_code) (defScope s_is_code) .none kV1 dc1 pm1 an1 cd1 ct1),sl1⟩) (c1:PySem.W.codeIn K cd1 "is_code" = true) (k1:PySem.W.keepIn K (.ref f1)=true)
    (a2:PySem.W.nsIn K mainGlobals "width_of" = some (some (.ref f2))) (l2:K.lookup f2=some ⟨oc2,od2,.func (PySem.W.fnOf "width_of" "width_of" (defArgs s_width_of) (defBody s_width_of) (defScope s_width_of) .none kV2 dc2 pm2 an2 cd2 ct2),sl2⟩) (c2:PySem.W.codeIn K cd2 "width_of" = true) (k2:PySem.W.keepIn K (.ref f2)=true)
    (a3:PySem.W.nsIn K mainGlobals "is_colour" = some (some (.ref f3))) (l3:K.lookup f3=some ⟨oc3,od3,.func (PySem.W.fnOf "is_colour" "is_colour" (defArgs s_is_colour) (defBody s_is_colour) (defScope s_is_colour) .none kV3 dc3 pm3 an3 cd3 ct3),sl3⟩) (c3:PySem.W.codeIn K cd3 "is_colour" = true) (k3:PySem.W.keepIn K (.ref f3)=true)
    (a4:PySem.W.nsIn K mainGlobals "is_level" = some (some (.ref f4))) (l4:K.lookup f4=some ⟨oc4,od4,.func (PySem.W.fnOf "is_level" "is_level" (defArgs s_is_level) (defBody s_is_level) (defScope s_is_level) .none kV4 dc4 pm4 an4 cd4 ct4),sl4⟩) (c4:PySem.W.codeIn K cd4 "is_level" = true) (k4:PySem.W.keepIn K (.ref f4)=true)
    (a5:PySem.W.nsIn K mainGlobals "need_level" = some (some (.ref f5))) (l5:K.lookup f5=some ⟨oc5,od5,.func (PySem.W.fnOf "need_level" "need_level" (defArgs s_need_level) (defBody s_need_level) (defScope s_need_level) (.ref dt5) kV5 dc5 pm5 an5 cd5 ct5),sl5⟩) (c5:PySem.W.codeIn K cd5 "need_level" = true) (k5:PySem.W.keepIn K (.ref f5)=true)
    (d5:K.lookup dt5=some ⟨.type "tuple",do5,.seq #[.int 0 dk5] dn5,dsl5⟩)
    (a6:PySem.W.nsIn K mainGlobals "need_code_within" = some (some (.ref f6))) (l6:K.lookup f6=some ⟨oc6,od6,.func (PySem.W.fnOf "need_code_within" "need_code_within" (defArgs s_need_code_within) (defBody s_need_code_within) (defScope s_need_code_within) .none kV6 dc6 pm6 an6 cd6 ct6),sl6⟩) (c6:PySem.W.codeIn K cd6 "need_code_within" = true) (k6:PySem.W.keepIn K (.ref f6)=true)
    (a7:PySem.W.nsIn K mainGlobals "need_colour" = some (some (.ref f7))) (l7:K.lookup f7=some ⟨oc7,od7,.func (PySem.W.fnOf "need_colour" "need_colour" (defArgs s_need_colour) (defBody s_need_colour) (defScope s_need_colour) .none kV7 dc7 pm7 an7 cd7 ct7),sl7⟩) (c7:PySem.W.codeIn K cd7 "need_colour" = true) (k7:PySem.W.keepIn K (.ref f7)=true)
    (a8:PySem.W.nsIn K mainGlobals "need_place" = some (some (.ref f8))) (l8:K.lookup f8=some ⟨oc8,od8,.func (PySem.W.fnOf "need_place" "need_place" (defArgs s_need_place) (defBody s_need_place) (defScope s_need_place) .none kV8 dc8 pm8 an8 cd8 ct8),sl8⟩) (c8:PySem.W.codeIn K cd8 "need_place" = true) (k8:PySem.W.keepIn K (.ref f8)=true)
    (a9:PySem.W.nsIn K mainGlobals "code_at" = some (some (.ref f9))) (l9:K.lookup f9=some ⟨oc9,od9,.func (PySem.W.fnOf "code_at" "code_at" (defArgs s_code_at) (defBody s_code_at) (defScope s_code_at) .none kV9 dc9 pm9 an9 cd9 ct9),sl9⟩) (c9:PySem.W.codeIn K cd9 "code_at" = true) (k9:PySem.W.keepIn K (.ref f9)=true)
    (a10:PySem.W.nsIn K mainGlobals "need_code" = some (some (.ref f10))) (l10:K.lookup f10=some ⟨oc10,od10,.func (PySem.W.fnOf "need_code" "need_code" (defArgs s_need_code) (defBody s_need_code) (defScope s_need_code) .none kV10 dc10 pm10 an10 cd10 ct10),sl10⟩) (c10:PySem.W.codeIn K cd10 "need_code" = true) (k10:PySem.W.keepIn K (.ref f10)=true)
    (a11:PySem.W.nsIn K mainGlobals "is_of_one_colour" = some (some (.ref f11))) (l11:K.lookup f11=some ⟨oc11,od11,.func (PySem.W.fnOf "is_of_one_colour" "is_of_one_colour" (defArgs s_is_of_one_colour) (defBody s_is_of_one_colour) (defScope s_is_of_one_colour) .none kV11 dc11 pm11 an11 cd11 ct11),sl11⟩) (c11:PySem.W.codeIn K cd11 "is_of_one_colour" = true) (k11:PySem.W.keepIn K (.ref f11)=true)
    (a12:PySem.W.nsIn K mainGlobals "gathered" = some (some (.ref f12))) (l12:K.lookup f12=some ⟨oc12,od12,.func (PySem.W.fnOf "gathered" "gathered" (defArgs s_gathered) (defBody s_gathered) (defScope s_gathered) .none kV12 dc12 pm12 an12 cd12 ct12),sl12⟩) (c12:PySem.W.codeIn K cd12 "gathered" = true) (k12:PySem.W.keepIn K (.ref f12)=true)
    (a13:PySem.W.nsIn K mainGlobals "holds" = some (some (.ref f13))) (l13:K.lookup f13=some ⟨oc13,od13,.func (PySem.W.fnOf "holds" "holds" (defArgs s_holds) (defBody s_holds) (defScope s_holds) .none kV13 dc13 pm13 an13 cd13 ct13),sl13⟩) (c13:PySem.W.codeIn K cd13 "holds" = true) (k13:PySem.W.keepIn K (.ref f13)=true)
    (a14:PySem.W.nsIn K mainGlobals "need_apart" = some (some (.ref f14))) (l14:K.lookup f14=some ⟨oc14,od14,.func (PySem.W.fnOf "need_apart" "need_apart" (defArgs s_need_apart) (defBody s_need_apart) (defScope s_need_apart) .none kV14 dc14 pm14 an14 cd14 ct14),sl14⟩) (c14:PySem.W.codeIn K cd14 "need_apart" = true) (k14:PySem.W.keepIn K (.ref f14)=true)
    (a15:PySem.W.nsIn K mainGlobals "tree_of" = some (some (.ref f15))) (l15:K.lookup f15=some ⟨oc15,od15,.func (PySem.W.fnOf "tree_of" "tree_of" (defArgs s_tree_of) (defBody s_tree_of) (defScope s_tree_of) .none kV15 dc15 pm15 an15 cd15 ct15),sl15⟩) (c15:PySem.W.codeIn K cd15 "tree_of" = true) (k15:PySem.W.keepIn K (.ref f15)=true)
    (a16:PySem.W.nsIn K mainGlobals "sheet_of" = some (some (.ref f16))) (l16:K.lookup f16=some ⟨oc16,od16,.func (PySem.W.fnOf "sheet_of" "sheet_of" (defArgs s_sheet_of) (defBody s_sheet_of) (defScope s_sheet_of) .none kV16 dc16 pm16 an16 cd16 ct16),sl16⟩) (c16:PySem.W.codeIn K cd16 "sheet_of" = true) (k16:PySem.W.keepIn K (.ref f16)=true)
    (a17:PySem.W.nsIn K mainGlobals "leaf_at" = some (some (.ref f17))) (l17:K.lookup f17=some ⟨oc17,od17,.func (PySem.W.fnOf "leaf_at" "leaf_at" (defArgs s_leaf_at) (defBody s_leaf_at) (defScope s_leaf_at) .none kV17 dc17 pm17 an17 cd17 ct17),sl17⟩) (c17:PySem.W.codeIn K cd17 "leaf_at" = true) (k17:PySem.W.keepIn K (.ref f17)=true)
    (a18:PySem.W.nsIn K mainGlobals "_law_at" = some (some (.ref f18))) (l18:K.lookup f18=some ⟨oc18,od18,.func (PySem.W.fnOf "_law_at" "_law_at" (defArgs s_law_at) (defBody s_law_at) (defScope s_law_at) .none kV18 dc18 pm18 an18 cd18 ct18),sl18⟩) (c18:PySem.W.codeIn K cd18 "_law_at" = true) (k18:PySem.W.keepIn K (.ref f18)=true)
    (a19:PySem.W.nsIn K mainGlobals "_law_code" = some (some (.ref f19))) (l19:K.lookup f19=some ⟨oc19,od19,.func (PySem.W.fnOf "_law_code" "_law_code" (defArgs s_law_code) (defBody s_law_code) (defScope s_law_code) .none kV19 dc19 pm19 an19 cd19 ct19),sl19⟩) (c19:PySem.W.codeIn K cd19 "_law_code" = true) (k19:PySem.W.keepIn K (.ref f19)=true)
    (a20:PySem.W.nsIn K mainGlobals "_law_colour" = some (some (.ref f20))) (l20:K.lookup f20=some ⟨oc20,od20,.func (PySem.W.fnOf "_law_colour" "_law_colour" (defArgs s_law_colour) (defBody s_law_colour) (defScope s_law_colour) .none kV20 dc20 pm20 an20 cd20 ct20),sl20⟩) (c20:PySem.W.codeIn K cd20 "_law_colour" = true) (k20:PySem.W.keepIn K (.ref f20)=true)
    (a21:PySem.W.nsIn K mainGlobals "_law_paints" = some (some (.ref f21))) (l21:K.lookup f21=some ⟨oc21,od21,.func (PySem.W.fnOf "_law_paints" "_law_paints" (defArgs s_law_paints) (defBody s_law_paints) (defScope s_law_paints) .none kV21 dc21 pm21 an21 cd21 ct21),sl21⟩) (c21:PySem.W.codeIn K cd21 "_law_paints" = true) (k21:PySem.W.keepIn K (.ref f21)=true)
    (a22:PySem.W.nsIn K mainGlobals "_law_tree_of" = some (some (.ref f22))) (l22:K.lookup f22=some ⟨oc22,od22,.func (PySem.W.fnOf "_law_tree_of" "_law_tree_of" (defArgs s_law_tree_of) (defBody s_law_tree_of) (defScope s_law_tree_of) .none kV22 dc22 pm22 an22 cd22 ct22),sl22⟩) (c22:PySem.W.codeIn K cd22 "_law_tree_of" = true) (k22:PySem.W.keepIn K (.ref f22)=true)
    (a23:PySem.W.nsIn K mainGlobals "_law_tree_by" = some (some (.ref f23))) (l23:K.lookup f23=some ⟨oc23,od23,.func (PySem.W.fnOf "_law_tree_by" "_law_tree_by" (defArgs s_law_tree_by) (defBody s_law_tree_by) (defScope s_law_tree_by) .none kV23 dc23 pm23 an23 cd23 ct23),sl23⟩) (c23:PySem.W.codeIn K cd23 "_law_tree_by" = true) (k23:PySem.W.keepIn K (.ref f23)=true)
    (a24:PySem.W.nsIn K mainGlobals "_law_grid" = some (some (.ref f24))) (l24:K.lookup f24=some ⟨oc24,od24,.func (PySem.W.fnOf "_law_grid" "_law_grid" (defArgs s_law_grid) (defBody s_law_grid) (defScope s_law_grid) .none kV24 dc24 pm24 an24 cd24 ct24),sl24⟩) (c24:PySem.W.codeIn K cd24 "_law_grid" = true) (k24:PySem.W.keepIn K (.ref f24)=true)
    (a25:PySem.W.nsIn K mainGlobals "_law_tree_of_rows" = some (some (.ref f25))) (l25:K.lookup f25=some ⟨oc25,od25,.func (PySem.W.fnOf "_law_tree_of_rows" "_law_tree_of_rows" (defArgs s_law_tree_of_rows) (defBody s_law_tree_of_rows) (defScope s_law_tree_of_rows) .none kV25 dc25 pm25 an25 cd25 ct25),sl25⟩) (c25:PySem.W.codeIn K cd25 "_law_tree_of_rows" = true) (k25:PySem.W.keepIn K (.ref f25)=true)
    (a26:PySem.W.nsIn K mainGlobals "_law_sheet" = some (some (.ref f26))) (l26:K.lookup f26=some ⟨oc26,od26,.func (PySem.W.fnOf "_law_sheet" "_law_sheet" (defArgs s_law_sheet) (defBody s_law_sheet) (defScope s_law_sheet) .none kV26 dc26 pm26 an26 cd26 ct26),sl26⟩) (c26:PySem.W.codeIn K cd26 "_law_sheet" = true) (k26:PySem.W.keepIn K (.ref f26)=true)
    (a27:PySem.W.nsIn K mainGlobals "_law_leaves" = some (some (.ref f27))) (l27:K.lookup f27=some ⟨oc27,od27,.func (PySem.W.fnOf "_law_leaves" "_law_leaves" (defArgs s_law_leaves) (defBody s_law_leaves) (defScope s_law_leaves) .none kV27 dc27 pm27 an27 cd27 ct27),sl27⟩) (c27:PySem.W.codeIn K cd27 "_law_leaves" = true) (k27:PySem.W.keepIn K (.ref f27)=true)
    (a28:PySem.W.nsIn K mainGlobals "_law_no_level" = some (some (.ref f28))) (l28:K.lookup f28=some ⟨oc28,od28,.func (PySem.W.fnOf "_law_no_level" "_law_no_level" (defArgs s_law_no_level) (defBody s_law_no_level) (defScope s_law_no_level) .none kV28 dc28 pm28 an28 cd28 ct28),sl28⟩) (c28:PySem.W.codeIn K cd28 "_law_no_level" = true) (k28:PySem.W.keepIn K (.ref f28)=true)
    (a29:PySem.W.nsIn K mainGlobals "_law_no_colour" = some (some (.ref f29))) (l29:K.lookup f29=some ⟨oc29,od29,.func (PySem.W.fnOf "_law_no_colour" "_law_no_colour" (defArgs s_law_no_colour) (defBody s_law_no_colour) (defScope s_law_no_colour) .none kV29 dc29 pm29 an29 cd29 ct29),sl29⟩) (c29:PySem.W.codeIn K cd29 "_law_no_colour" = true) (k29:PySem.W.keepIn K (.ref f29)=true)
    (a30:PySem.W.nsIn K mainGlobals "_law_no_code" = some (some (.ref f30))) (l30:K.lookup f30=some ⟨oc30,od30,.func (PySem.W.fnOf "_law_no_code" "_law_no_code" (defArgs s_law_no_code) (defBody s_law_no_code) (defScope s_law_no_code) .none kV30 dc30 pm30 an30 cd30 ct30),sl30⟩) (c30:PySem.W.codeIn K cd30 "_law_no_code" = true) (k30:PySem.W.keepIn K (.ref f30)=true)
    (a31:PySem.W.nsIn K mainGlobals "_law_no_place" = some (some (.ref f31))) (l31:K.lookup f31=some ⟨oc31,od31,.func (PySem.W.fnOf "_law_no_place" "_law_no_place" (defArgs s_law_no_place) (defBody s_law_no_place) (defScope s_law_no_place) .none kV31 dc31 pm31 an31 cd31 ct31),sl31⟩) (c31:PySem.W.codeIn K cd31 "_law_no_place" = true) (k31:PySem.W.keepIn K (.ref f31)=true)
    (a32:PySem.W.nsIn K mainGlobals "_law_kinds" = some (some (.ref f32))) (l32:K.lookup f32=some ⟨oc32,od32,.func (PySem.W.fnOf "_law_kinds" "_law_kinds" (defArgs s_law_kinds) (defBody s_law_kinds) (defScope s_law_kinds) .none kV32 dc32 pm32 an32 cd32 ct32),sl32⟩) (c32:PySem.W.codeIn K cd32 "_law_kinds" = true) (k32:PySem.W.keepIn K (.ref f32)=true)
    (a33:PySem.W.nsIn K mainGlobals "_law_refused" = some (some (.ref f33))) (l33:K.lookup f33=some ⟨oc33,od33,.func (PySem.W.fnOf "_law_refused" "_law_refused" (defArgs s_law_refused) (defBody s_law_refused) (defScope s_law_refused) .none kV33 dc33 pm33 an33 cd33 ct33),sl33⟩) (c33:PySem.W.codeIn K cd33 "_law_refused" = true) (k33:PySem.W.keepIn K (.ref f33)=true)
    (a34:PySem.W.nsIn K mainGlobals "_law_good" = some (some (.ref f34))) (l34:K.lookup f34=some ⟨oc34,od34,.func (PySem.W.fnOf "_law_good" "_law_good" (defArgs s_law_good) (defBody s_law_good) (defScope s_law_good) .none kV34 dc34 pm34 an34 cd34 ct34),sl34⟩) (c34:PySem.W.codeIn K cd34 "_law_good" = true) (k34:PySem.W.keepIn K (.ref f34)=true)
    (a35:PySem.W.nsIn K mainGlobals "_law_due" = some (some (.ref f35))) (l35:K.lookup f35=some ⟨oc35,od35,.func (PySem.W.fnOf "_law_due" "_law_due" (defArgs s_law_due) (defBody s_law_due) (defScope s_law_due) .none kV35 dc35 pm35 an35 cd35 ct35),sl35⟩) (c35:PySem.W.codeIn K cd35 "_law_due" = true) (k35:PySem.W.keepIn K (.ref f35)=true)
    (a36:PySem.W.nsIn K mainGlobals "_law_put" = some (some (.ref f36))) (l36:K.lookup f36=some ⟨oc36,od36,.func (PySem.W.fnOf "_law_put" "_law_put" (defArgs s_law_put) (defBody s_law_put) (defScope s_law_put) .none kV36 dc36 pm36 an36 cd36 ct36),sl36⟩) (c36:PySem.W.codeIn K cd36 "_law_put" = true) (k36:PySem.W.keepIn K (.ref f36)=true)
    (a37:PySem.W.nsIn K mainGlobals "_law_faulty" = some (some (.ref f37))) (l37:K.lookup f37=some ⟨oc37,od37,.func (PySem.W.fnOf "_law_faulty" "_law_faulty" (defArgs s_law_faulty) (defBody s_law_faulty) (defScope s_law_faulty) .none kV37 dc37 pm37 an37 cd37 ct37),sl37⟩) (c37:PySem.W.codeIn K cd37 "_law_faulty" = true) (k37:PySem.W.keepIn K (.ref f37)=true)
    (a38:PySem.W.nsIn K mainGlobals "law" = some (some (.ref f38))) (l38:K.lookup f38=some ⟨oc38,od38,.func (PySem.W.fnOf "law" "law" (defArgs s_law) (defBody s_law) (defScope s_law) .none kV38 dc38 pm38 an38 cd38 ct38),sl38⟩) (c38:PySem.W.codeIn K cd38 "law" = true) (k38:PySem.W.keepIn K (.ref f38)=true)
    (z0:PySem.W.nsIn K mainGlobals "isinstance" = some none)
    (z1:PySem.W.nsIn K mainGlobals "int" = some none)
    (z2:PySem.W.nsIn K mainGlobals "bool" = some none)
    {zt3:Tok} (z3:PySem.W.nsIn K mainGlobals "MOST" = some (some (.int 40 zt3)))
    {zt4:Tok} (z4:PySem.W.nsIn K mainGlobals "LAST_COLOUR" = some (some (.int 35 zt4)))
    (z5:PySem.W.nsIn K mainGlobals "all" = some none)
    (z6:PySem.W.nsIn K mainGlobals "str" = some none)
    (z7:PySem.W.nsIn K mainGlobals "len" = some none)
    {zt8:Tok} (z8:PySem.W.nsIn K mainGlobals "QUARTERS" = some (some (.str "0123" zt8)))
    (z9:PySem.W.nsIn K mainGlobals "range" = some none)
    (z10:PySem.W.nsIn K mainGlobals "tuple" = some none)
    (z11:PySem.W.nsIn K mainGlobals "sorted" = some none)
    (z12:PySem.W.nsIn K mainGlobals "min" = some none)
    (z13:PySem.W.nsIn K mainGlobals "ValueError" = some none)
    (z14:PySem.W.nsIn K mainGlobals "list" = some none)
    (z15:PySem.W.nsIn K mainGlobals "enumerate" = some none)
    {cNoLevel cNoCode cNoColour cNoPlace cNoSide cNoLeaf cTwice cGap cNoText cNoName cNoNumber cNoRow cSheetError:Addr}
    (y0:PySem.W.nsIn K mainGlobals "NoLevel" = some (some (.ref cNoLevel)))
    (y1:PySem.W.nsIn K mainGlobals "NoCode" = some (some (.ref cNoCode)))
    (y2:PySem.W.nsIn K mainGlobals "NoColour" = some (some (.ref cNoColour)))
    (y3:PySem.W.nsIn K mainGlobals "NoPlace" = some (some (.ref cNoPlace)))
    (y4:PySem.W.nsIn K mainGlobals "NoSide" = some (some (.ref cNoSide)))
    (y5:PySem.W.nsIn K mainGlobals "NoLeaf" = some (some (.ref cNoLeaf)))
    (y6:PySem.W.nsIn K mainGlobals "Twice" = some (some (.ref cTwice)))
    (y7:PySem.W.nsIn K mainGlobals "Gap" = some (some (.ref cGap)))
    (y8:PySem.W.nsIn K mainGlobals "NoText" = some (some (.ref cNoText)))
    (y9:PySem.W.nsIn K mainGlobals "NoName" = some (some (.ref cNoName)))
    (y10:PySem.W.nsIn K mainGlobals "NoNumber" = some (some (.ref cNoNumber)))
    (y11:PySem.W.nsIn K mainGlobals "NoRow" = some (some (.ref cNoRow)))
    (y12:PySem.W.nsIn K mainGlobals "SheetError" = some (some (.ref cSheetError)))
    (y13:PySem.W.excIn K cNoLevel bmV "ValueError.__new__" = true)
    (y14:PySem.W.findIn K (.ref cNoLevel) "__getattribute__" = some (some (.builtin "BaseException.__getattribute__")))
    (y15:PySem.W.findIn K (.ref cNoLevel) "__getattr__" = some none)
    (y16:PySem.W.findIn K (.ref cNoLevel) "__class__" = some (some (.builtin "object.__class__")))
    (y17:PySem.W.subIn K (.ref cNoLevel) (.type "object")=some true)
    (y18:PySem.W.subIn K (.ref cNoLevel) (.type "BaseException")=some true)
    {cdNoLevel:ClassData}
    (y19:PySem.W.clsIn K cNoLevel=some cdNoLevel)
    (y20:PySem.W.exmOne K (.ref cNoLevel) (.ref cSheetError)=some true)
    (y21:PySem.W.kitOne K (.ref cNoLevel) (.type "ValueError")=some true)
    (y22:PySem.W.kitOne K (.ref cNoLevel) (.ref cNoCode)=some false)
    (y23:PySem.W.kitOne K (.ref cNoLevel) (.ref cNoColour)=some false)
    (y24:PySem.W.kitOne K (.ref cNoLevel) (.ref cNoPlace)=some false)
    (y25:PySem.W.kitOne K (.ref cNoLevel) (.ref cNoSide)=some false)
    (y26:PySem.W.kitOne K (.ref cNoLevel) (.ref cNoLeaf)=some false)
    (y27:PySem.W.kitOne K (.ref cNoLevel) (.ref cTwice)=some false)
    (y28:PySem.W.kitOne K (.ref cNoLevel) (.ref cGap)=some false)
    (y29:PySem.W.kitOne K (.ref cNoLevel) (.ref cNoText)=some false)
    (y30:PySem.W.kitOne K (.ref cNoLevel) (.ref cNoName)=some false)
    (y31:PySem.W.kitOne K (.ref cNoLevel) (.ref cNoNumber)=some false)
    (y32:PySem.W.kitOne K (.ref cNoLevel) (.ref cNoRow)=some false)
    (y33:PySem.W.excIn K cNoCode bmV "ValueError.__new__" = true)
    (y34:PySem.W.findIn K (.ref cNoCode) "__getattribute__" = some (some (.builtin "BaseException.__getattribute__")))
    (y35:PySem.W.findIn K (.ref cNoCode) "__getattr__" = some none)
    (y36:PySem.W.findIn K (.ref cNoCode) "__class__" = some (some (.builtin "object.__class__")))
    (y37:PySem.W.subIn K (.ref cNoCode) (.type "object")=some true)
    (y38:PySem.W.subIn K (.ref cNoCode) (.type "BaseException")=some true)
    {cdNoCode:ClassData}
    (y39:PySem.W.clsIn K cNoCode=some cdNoCode)
    (y40:PySem.W.exmOne K (.ref cNoCode) (.ref cSheetError)=some true)
    (y41:PySem.W.kitOne K (.ref cNoCode) (.type "ValueError")=some true)
    (y42:PySem.W.kitOne K (.ref cNoCode) (.ref cNoLevel)=some false)
    (y43:PySem.W.kitOne K (.ref cNoCode) (.ref cNoColour)=some false)
    (y44:PySem.W.kitOne K (.ref cNoCode) (.ref cNoPlace)=some false)
    (y45:PySem.W.kitOne K (.ref cNoCode) (.ref cNoSide)=some false)
    (y46:PySem.W.kitOne K (.ref cNoCode) (.ref cNoLeaf)=some false)
    (y47:PySem.W.kitOne K (.ref cNoCode) (.ref cTwice)=some false)
    (y48:PySem.W.kitOne K (.ref cNoCode) (.ref cGap)=some false)
    (y49:PySem.W.kitOne K (.ref cNoCode) (.ref cNoText)=some false)
    (y50:PySem.W.kitOne K (.ref cNoCode) (.ref cNoName)=some false)
    (y51:PySem.W.kitOne K (.ref cNoCode) (.ref cNoNumber)=some false)
    (y52:PySem.W.kitOne K (.ref cNoCode) (.ref cNoRow)=some false)
    (y53:PySem.W.excIn K cNoColour bmV "ValueError.__new__" = true)
    (y54:PySem.W.findIn K (.ref cNoColour) "__getattribute__" = some (some (.builtin "BaseException.__getattribute__")))
    (y55:PySem.W.findIn K (.ref cNoColour) "__getattr__" = some none)
    (y56:PySem.W.findIn K (.ref cNoColour) "__class__" = some (some (.builtin "object.__class__")))
    (y57:PySem.W.subIn K (.ref cNoColour) (.type "object")=some true)
    (y58:PySem.W.subIn K (.ref cNoColour) (.type "BaseException")=some true)
    {cdNoColour:ClassData}
    (y59:PySem.W.clsIn K cNoColour=some cdNoColour)
    (y60:PySem.W.exmOne K (.ref cNoColour) (.ref cSheetError)=some true)
    (y61:PySem.W.kitOne K (.ref cNoColour) (.type "ValueError")=some true)
    (y62:PySem.W.kitOne K (.ref cNoColour) (.ref cNoLevel)=some false)
    (y63:PySem.W.kitOne K (.ref cNoColour) (.ref cNoCode)=some false)
    (y64:PySem.W.kitOne K (.ref cNoColour) (.ref cNoPlace)=some false)
    (y65:PySem.W.kitOne K (.ref cNoColour) (.ref cNoSide)=some false)
    (y66:PySem.W.kitOne K (.ref cNoColour) (.ref cNoLeaf)=some false)
    (y67:PySem.W.kitOne K (.ref cNoColour) (.ref cTwice)=some false)
    (y68:PySem.W.kitOne K (.ref cNoColour) (.ref cGap)=some false)
    (y69:PySem.W.kitOne K (.ref cNoColour) (.ref cNoText)=some false)
    (y70:PySem.W.kitOne K (.ref cNoColour) (.ref cNoName)=some false)
    (y71:PySem.W.kitOne K (.ref cNoColour) (.ref cNoNumber)=some false)
    (y72:PySem.W.kitOne K (.ref cNoColour) (.ref cNoRow)=some false)
    (y73:PySem.W.excIn K cNoPlace bmV "ValueError.__new__" = true)
    (y74:PySem.W.findIn K (.ref cNoPlace) "__getattribute__" = some (some (.builtin "BaseException.__getattribute__")))
    (y75:PySem.W.findIn K (.ref cNoPlace) "__getattr__" = some none)
    (y76:PySem.W.findIn K (.ref cNoPlace) "__class__" = some (some (.builtin "object.__class__")))
    (y77:PySem.W.subIn K (.ref cNoPlace) (.type "object")=some true)
    (y78:PySem.W.subIn K (.ref cNoPlace) (.type "BaseException")=some true)
    {cdNoPlace:ClassData}
    (y79:PySem.W.clsIn K cNoPlace=some cdNoPlace)
    (y80:PySem.W.exmOne K (.ref cNoPlace) (.ref cSheetError)=some true)
    (y81:PySem.W.kitOne K (.ref cNoPlace) (.type "ValueError")=some true)
    (y82:PySem.W.kitOne K (.ref cNoPlace) (.ref cNoLevel)=some false)
    (y83:PySem.W.kitOne K (.ref cNoPlace) (.ref cNoCode)=some false)
    (y84:PySem.W.kitOne K (.ref cNoPlace) (.ref cNoColour)=some false)
    (y85:PySem.W.kitOne K (.ref cNoPlace) (.ref cNoSide)=some false)
    (y86:PySem.W.kitOne K (.ref cNoPlace) (.ref cNoLeaf)=some false)
    (y87:PySem.W.kitOne K (.ref cNoPlace) (.ref cTwice)=some false)
    (y88:PySem.W.kitOne K (.ref cNoPlace) (.ref cGap)=some false)
    (y89:PySem.W.kitOne K (.ref cNoPlace) (.ref cNoText)=some false)
    (y90:PySem.W.kitOne K (.ref cNoPlace) (.ref cNoName)=some false)
    (y91:PySem.W.kitOne K (.ref cNoPlace) (.ref cNoNumber)=some false)
    (y92:PySem.W.kitOne K (.ref cNoPlace) (.ref cNoRow)=some false)
    (y93:PySem.W.excIn K cTwice bmV "ValueError.__new__" = true)
    (y94:PySem.W.findIn K (.ref cTwice) "__getattribute__" = some (some (.builtin "BaseException.__getattribute__")))
    (y95:PySem.W.findIn K (.ref cTwice) "__getattr__" = some none)
    (y96:PySem.W.findIn K (.ref cTwice) "__class__" = some (some (.builtin "object.__class__")))
    (y97:PySem.W.subIn K (.ref cTwice) (.type "object")=some true)
    (y98:PySem.W.subIn K (.ref cTwice) (.type "BaseException")=some true)
    {cdTwice:ClassData}
    (y99:PySem.W.clsIn K cTwice=some cdTwice)
    (y100:PySem.W.exmOne K (.ref cTwice) (.ref cSheetError)=some true)
    (y101:PySem.W.kitOne K (.ref cTwice) (.type "ValueError")=some true)
    (y102:PySem.W.kitOne K (.ref cTwice) (.ref cNoLevel)=some false)
    (y103:PySem.W.kitOne K (.ref cTwice) (.ref cNoCode)=some false)
    (y104:PySem.W.kitOne K (.ref cTwice) (.ref cNoColour)=some false)
    (y105:PySem.W.kitOne K (.ref cTwice) (.ref cNoPlace)=some false)
    (y106:PySem.W.kitOne K (.ref cTwice) (.ref cNoSide)=some false)
    (y107:PySem.W.kitOne K (.ref cTwice) (.ref cNoLeaf)=some false)
    (y108:PySem.W.kitOne K (.ref cTwice) (.ref cGap)=some false)
    (y109:PySem.W.kitOne K (.ref cTwice) (.ref cNoText)=some false)
    (y110:PySem.W.kitOne K (.ref cTwice) (.ref cNoName)=some false)
    (y111:PySem.W.kitOne K (.ref cTwice) (.ref cNoNumber)=some false)
    (y112:PySem.W.kitOne K (.ref cTwice) (.ref cNoRow)=some false)
    (y113:PySem.W.excIn K cGap bmV "ValueError.__new__" = true)
    (y114:PySem.W.findIn K (.ref cGap) "__getattribute__" = some (some (.builtin "BaseException.__getattribute__")))
    (y115:PySem.W.findIn K (.ref cGap) "__getattr__" = some none)
    (y116:PySem.W.findIn K (.ref cGap) "__class__" = some (some (.builtin "object.__class__")))
    (y117:PySem.W.subIn K (.ref cGap) (.type "object")=some true)
    (y118:PySem.W.subIn K (.ref cGap) (.type "BaseException")=some true)
    {cdGap:ClassData}
    (y119:PySem.W.clsIn K cGap=some cdGap)
    (y120:PySem.W.exmOne K (.ref cGap) (.ref cSheetError)=some true)
    (y121:PySem.W.kitOne K (.ref cGap) (.type "ValueError")=some true)
    (y122:PySem.W.kitOne K (.ref cGap) (.ref cNoLevel)=some false)
    (y123:PySem.W.kitOne K (.ref cGap) (.ref cNoCode)=some false)
    (y124:PySem.W.kitOne K (.ref cGap) (.ref cNoColour)=some false)
    (y125:PySem.W.kitOne K (.ref cGap) (.ref cNoPlace)=some false)
    (y126:PySem.W.kitOne K (.ref cGap) (.ref cNoSide)=some false)
    (y127:PySem.W.kitOne K (.ref cGap) (.ref cNoLeaf)=some false)
    (y128:PySem.W.kitOne K (.ref cGap) (.ref cTwice)=some false)
    (y129:PySem.W.kitOne K (.ref cGap) (.ref cNoText)=some false)
    (y130:PySem.W.kitOne K (.ref cGap) (.ref cNoName)=some false)
    (y131:PySem.W.kitOne K (.ref cGap) (.ref cNoNumber)=some false)
    (y132:PySem.W.kitOne K (.ref cGap) (.ref cNoRow)=some false)
    {ts:List Addr} {tp38 tc38:Addr} {tl38:Value} {td38:Option Addr} {tv38:Array Value} {ts38:Array (Option Value)}
    (ta38:cd38=.ref tc38) (tb38:K.lookup tc38=some ⟨tl38,td38,.fields tv38,ts38⟩) (te38:tv38[11]? = some (.ref tp38)) (tf38:PySem.W.codeHdIn K tc38 tp38=true) (n38:K.lookup tp38=none) (m38:tp38∈ts)
    (nd:([tp38]:List Addr).Nodup)
    : ∃ (fd:FuncData) (Ps:List Addr) (sp:Sp),(∀ (s:Shared) (v:Value),BindsTo s fd ⟨[v],[]⟩ [("_law_script",v)])∧(∀ Pt∈Ps,Pt∈ts∧K.lookup Pt=none∧∃ c,PySem.W.CodeHd h c Pt) ∧
      (∀ base:Heap,K.In base→base.Ns mainGlobals mg→BMain mg base→FnOk l.prog w K mg base (CXe l.prog w) 50 fa fd ["_law_script"] sp) ∧
      ∀ (H:Hp) (a:Addr) (ns:List Int),ns.length≤63→(∀ Pt∈Ps,H Pt=some (.tbl #[]))→SqL K H a (ns.map V.int)→sp [.ref a] H (fun v _=>v=.bl true) fun _ _ _=>False:=by
  have e:=hfa.symm.trans (PySem.W.mg_of X G a38)
  cases e
  have T:Tx K mg:=⟨PySem.W.mg_none_of X G z0,PySem.W.mg_none_of X G z1,PySem.W.mg_none_of X G z2,⟨_,PySem.W.mg_of X G z3⟩,⟨_,PySem.W.mg_of X G z4⟩,PySem.W.mg_none_of X G z5,PySem.W.mg_none_of X G z6,PySem.W.mg_none_of X G z7,⟨_,PySem.W.mg_of X G z8⟩,PySem.W.mg_none_of X G z9,PySem.W.mg_none_of X G z10,PySem.W.mg_none_of X G z11,PySem.W.mg_none_of X G z12,PySem.W.mg_none_of X G z13,PySem.W.mg_none_of X G z14,PySem.W.mg_none_of X G z15⟩
  have Y:Yx K mg:=⟨cNoLevel,cNoCode,cNoColour,cNoPlace,cNoSide,cNoLeaf,cTwice,cGap,cNoText,cNoName,cNoNumber,cNoRow,cSheetError,PySem.W.mg_of X G y0,PySem.W.mg_of X G y1,PySem.W.mg_of X G y2,PySem.W.mg_of X G y3,PySem.W.mg_of X G y4,PySem.W.mg_of X G y5,PySem.W.mg_of X G y6,PySem.W.mg_of X G y7,PySem.W.mg_of X G y8,PySem.W.mg_of X G y9,PySem.W.mg_of X G y10,PySem.W.mg_of X G y11,PySem.W.mg_of X G y12,⟨PySem.W.mg_of X G y0,y13⟩,⟨y14,y15,y16,y17,y18,by rw [y19]; rfl⟩,y20,y21,y22,y23,y24,y25,y26,y27,y28,y29,y30,y31,y32,⟨PySem.W.mg_of X G y1,y33⟩,⟨y34,y35,y36,y37,y38,by rw [y39]; rfl⟩,y40,y41,y42,y43,y44,y45,y46,y47,y48,y49,y50,y51,y52,⟨PySem.W.mg_of X G y2,y53⟩,⟨y54,y55,y56,y57,y58,by rw [y59]; rfl⟩,y60,y61,y62,y63,y64,y65,y66,y67,y68,y69,y70,y71,y72,⟨PySem.W.mg_of X G y3,y73⟩,⟨y74,y75,y76,y77,y78,by rw [y79]; rfl⟩,y80,y81,y82,y83,y84,y85,y86,y87,y88,y89,y90,y91,y92,⟨PySem.W.mg_of X G y6,y93⟩,⟨y94,y95,y96,y97,y98,by rw [y99]; rfl⟩,y100,y101,y102,y103,y104,y105,y106,y107,y108,y109,y110,y111,y112,⟨PySem.W.mg_of X G y7,y113⟩,⟨y114,y115,y116,y117,y118,by rw [y119]; rfl⟩,y120,y121,y122,y123,y124,y125,y126,y127,y128,y129,y130,y131,y132⟩
  have F0:=funD_mk (st:=s_is_whole) l0 c0 k0
  have F1:=funD_mk (st:=s_is_code) l1 c1 k1
  have F2:=funD_mk (st:=s_width_of) l2 c2 k2
  have F3:=funD_mk (st:=s_is_colour) l3 c3 k3
  have F4:=funD_mk (st:=s_is_level) l4 c4 k4
  have F5:=funD_mk (st:=s_need_level) l5 c5 k5
  have F6:=funD_mk (st:=s_need_code_within) l6 c6 k6
  have F7:=funD_mk (st:=s_need_colour) l7 c7 k7
  have F8:=funD_mk (st:=s_need_place) l8 c8 k8
  have F9:=funD_mk (st:=s_code_at) l9 c9 k9
  have F10:=funD_mk (st:=s_need_code) l10 c10 k10
  have F11:=funD_mk (st:=s_is_of_one_colour) l11 c11 k11
  have F12:=funD_mk (st:=s_gathered) l12 c12 k12
  have F13:=funD_mk (st:=s_holds) l13 c13 k13
  have F14:=funD_mk (st:=s_need_apart) l14 c14 k14
  have F15:=funD_mk (st:=s_tree_of) l15 c15 k15
  have F16:=funD_mk (st:=s_sheet_of) l16 c16 k16
  have F17:=funD_mk (st:=s_leaf_at) l17 c17 k17
  have F18:=funD_mk (st:=s_law_at) l18 c18 k18
  have F19:=funD_mk (st:=s_law_code) l19 c19 k19
  have F20:=funD_mk (st:=s_law_colour) l20 c20 k20
  have F21:=funD_mk (st:=s_law_paints) l21 c21 k21
  have F22:=funD_mk (st:=s_law_tree_of) l22 c22 k22
  have F23:=funD_mk (st:=s_law_tree_by) l23 c23 k23
  have F24:=funD_mk (st:=s_law_grid) l24 c24 k24
  have F25:=funD_mk (st:=s_law_tree_of_rows) l25 c25 k25
  have F26:=funD_mk (st:=s_law_sheet) l26 c26 k26
  have F27:=funD_mk (st:=s_law_leaves) l27 c27 k27
  have F28:=funD_mk (st:=s_law_no_level) l28 c28 k28
  have F29:=funD_mk (st:=s_law_no_colour) l29 c29 k29
  have F30:=funD_mk (st:=s_law_no_code) l30 c30 k30
  have F31:=funD_mk (st:=s_law_no_place) l31 c31 k31
  have F32:=funD_mk (st:=s_law_kinds) l32 c32 k32
  have F33:=funD_mk (st:=s_law_refused) l33 c33 k33
  have F34:=funD_mk (st:=s_law_good) l34 c34 k34
  have F35:=funD_mk (st:=s_law_due) l35 c35 k35
  have F36:=funD_mk (st:=s_law_put) l36 c36 k36
  have F37:=funD_mk (st:=s_law_faulty) l37 c37 k37
  have F38:=funD_mk (st:=s_law) l38 c38 k38
  have b0:=F0.binds (ps:=["thing"]) fun _ _ _ _ _ _ us hl=>by obtain ⟨a,rfl⟩:=lenK1 hl; exact rfl
  have b1:=F1.binds (ps:=["thing"]) fun _ _ _ _ _ _ us hl=>by obtain ⟨a,rfl⟩:=lenK1 hl; exact rfl
  have b2:=F2.binds (ps:=["level"]) fun _ _ _ _ _ _ us hl=>by obtain ⟨a,rfl⟩:=lenK1 hl; exact rfl
  have b3:=F3.binds (ps:=["thing"]) fun _ _ _ _ _ _ us hl=>by obtain ⟨a,rfl⟩:=lenK1 hl; exact rfl
  have b4:=F4.binds (ps:=["thing"]) fun _ _ _ _ _ _ us hl=>by obtain ⟨a,rfl⟩:=lenK1 hl; exact rfl
  have b5:=F5.bindsD (ps:=["level","least"]) (ds:=[]) d5 rfl fun _ _ _ _ _ _ us hl=>by obtain ⟨a,b,rfl⟩:=lenK2 ((congrArg List.length (List.append_nil us)).symm.trans hl); exact ⟨_,rfl,rfl⟩
  have bd5:=F5.bindsD (ps:=["level","least"]) (ds:=[.int 0 dk5]) d5 rfl fun _ _ _ _ _ _ us hl=>by obtain ⟨a,rfl⟩:=len1 hl; exact ⟨_,rfl,rfl⟩
  have b6:=F6.binds (ps:=["code","level"]) fun _ _ _ _ _ _ us hl=>by obtain ⟨a,b,rfl⟩:=lenK2 hl; exact rfl
  have b7:=F7.binds (ps:=["colour"]) fun _ _ _ _ _ _ us hl=>by obtain ⟨a,rfl⟩:=lenK1 hl; exact rfl
  have b8:=F8.binds (ps:=["x","y","level"]) fun _ _ _ _ _ _ us hl=>by obtain ⟨a,b,c,rfl⟩:=lenK3 hl; exact rfl
  have b9:=F9.binds (ps:=["x","y","level"]) fun _ _ _ _ _ _ us hl=>by obtain ⟨a,b,c,rfl⟩:=lenK3 hl; exact rfl
  have b10:=F10.binds (ps:=["code"]) fun _ _ _ _ _ _ us hl=>by obtain ⟨a,rfl⟩:=lenK1 hl; exact rfl
  have b11:=F11.binds (ps:=["parts"]) fun _ _ _ _ _ _ us hl=>by obtain ⟨a,rfl⟩:=lenK1 hl; exact rfl
  have b12:=F12.binds (ps:=["parts"]) fun _ _ _ _ _ _ us hl=>by obtain ⟨a,rfl⟩:=lenK1 hl; exact rfl
  have b13:=F13.binds (ps:=["code","other"]) fun _ _ _ _ _ _ us hl=>by obtain ⟨a,b,rfl⟩:=lenK2 hl; exact rfl
  have b14:=F14.binds (ps:=["codes"]) fun _ _ _ _ _ _ us hl=>by obtain ⟨a,rfl⟩:=lenK1 hl; exact rfl
  have b15:=F15.binds (ps:=["cover","signs"]) fun _ _ _ _ _ _ us hl=>by obtain ⟨a,b,rfl⟩:=lenK2 hl; exact rfl
  have b16:=F16.binds (ps:=["level","cover"]) fun _ _ _ _ _ _ us hl=>by obtain ⟨a,b,rfl⟩:=lenK2 hl; exact rfl
  have b17:=F17.binds (ps:=["sheet","x","y"]) fun _ _ _ _ _ _ us hl=>by obtain ⟨a,b,c,rfl⟩:=lenK3 hl; exact rfl
  have b18:=F18.binds (ps:=["_law_script","_law_k"]) fun _ _ _ _ _ _ us hl=>by obtain ⟨a,b,rfl⟩:=lenK2 hl; exact rfl
  have b19:=F19.binds (ps:=["_law_cell","_law_size"]) fun _ _ _ _ _ _ us hl=>by obtain ⟨a,b,rfl⟩:=lenK2 hl; exact rfl
  have b20:=F20.binds (ps:=["_law_cell"]) fun _ _ _ _ _ _ us hl=>by obtain ⟨a,rfl⟩:=lenK1 hl; exact rfl
  have b21:=F21.binds (ps:=["_law_script","_law_first","_law_most","_law_level"]) fun _ _ _ _ _ _ us hl=>by obtain ⟨a,b,c,d,rfl⟩:=lenK4 hl; exact rfl
  have b22:=F22.binds (ps:=["_law_a","_law_b","_law_c","_law_d"]) fun _ _ _ _ _ _ us hl=>by obtain ⟨a,b,c,d,rfl⟩:=lenK4 hl; exact rfl
  have b23:=F23.binds (ps:=["_law_paints_here"]) fun _ _ _ _ _ _ us hl=>by obtain ⟨a,rfl⟩:=lenK1 hl; exact rfl
  have b24:=F24.binds (ps:=["_law_script","_law_first","_law_level"]) fun _ _ _ _ _ _ us hl=>by obtain ⟨a,b,c,rfl⟩:=lenK3 hl; exact rfl
  have b25:=F25.binds (ps:=["_law_rows"]) fun _ _ _ _ _ _ us hl=>by obtain ⟨a,rfl⟩:=lenK1 hl; exact rfl
  have b26:=F26.binds (ps:=["_law_script","_law_most"]) fun _ _ _ _ _ _ us hl=>by obtain ⟨a,b,rfl⟩:=lenK2 hl; exact rfl
  have b27:=F27.binds (ps:=["_law_tree","_law_code_here"]) fun _ _ _ _ _ _ us hl=>by obtain ⟨a,b,rfl⟩:=lenK2 hl; exact rfl
  have b28:=F28.binds (ps:=["_law_cell"]) fun _ _ _ _ _ _ us hl=>by obtain ⟨a,rfl⟩:=lenK1 hl; exact rfl
  have b29:=F29.binds (ps:=["_law_cell"]) fun _ _ _ _ _ _ us hl=>by obtain ⟨a,rfl⟩:=lenK1 hl; exact rfl
  have b30:=F30.binds (ps:=["_law_cell","_law_level"]) fun _ _ _ _ _ _ us hl=>by obtain ⟨a,b,rfl⟩:=lenK2 hl; exact rfl
  have b31:=F31.binds (ps:=["_law_cell","_law_wide"]) fun _ _ _ _ _ _ us hl=>by obtain ⟨a,b,rfl⟩:=lenK2 hl; exact rfl
  have b32:=F32.binds (ps:=["_law_e"]) fun _ _ _ _ _ _ us hl=>by obtain ⟨a,rfl⟩:=lenK1 hl; exact rfl
  have b33:=F33.binds (ps:=["_law_deed","_law_due_here"]) fun _ _ _ _ _ _ us hl=>by obtain ⟨a,b,rfl⟩:=lenK2 hl; exact rfl
  have b34:=F34.binds (ps:=["_law_code_here","_law_level"]) fun _ _ _ _ _ _ us hl=>by obtain ⟨a,b,rfl⟩:=lenK2 hl; exact rfl
  have b35:=F35.binds (ps:=["_law_cover","_law_level"]) fun _ _ _ _ _ _ us hl=>by obtain ⟨a,b,rfl⟩:=lenK2 hl; exact rfl
  have b36:=F36.binds (ps:=["_law_cover","_law_at_here","_law_one"]) fun _ _ _ _ _ _ us hl=>by obtain ⟨a,b,c,rfl⟩:=lenK3 hl; exact rfl
  have b37:=F37.binds (ps:=["_law_script","_law_cover","_law_level"]) fun _ _ _ _ _ _ us hl=>by obtain ⟨a,b,c,rfl⟩:=lenK3 hl; exact rfl
  have t38:=tabOf_mk ta38 tb38 te38 tf38
  have FT38:=funT_mk (st:=s_law) l38 c38 t38
  obtain ⟨Tb,eTb⟩:∃ Tb:List (Addr × Str),Tb=[(tp38,qLaw)]:=⟨_,rfl⟩
  have hnd:(Tb.map (·.1)).Nodup:=by rw [eTb]; exact nd
  have hT_law:(tp38,qLaw)∈Tb:=by rw [eTb]; simp
  refine ⟨PySem.W.fnOf "law" "law" (defArgs s_law) (defBody s_law) (defScope s_law) .none kV38 dc38 pm38 an38 cd38 ct38,Tb.map (·.1),sp_law K Tb,fun s v=>.of_eq rfl,fun Pt hPt => ?_,fun base KXb _ hB => ?_,fun H a ns hl hO hS=>⟨a,ns,rfl,hS,hl,Tabs.start hO,fun _=>rfl⟩⟩
  · rw [eTb] at hPt
    have hPt:=List.mem_singleton.mp hPt
    subst hPt
    exact ⟨m38,n38,(tabOf_hd X t38).elim fun c h=>⟨c,h.2⟩⟩
  have C_is_whole:Fok l.prog w K mg base (CXe l.prog w) 1 "is_whole" ["thing"] [] (sp_is_whole K):=fok F0 (ok_is_whole T F0) b0 (PySem.W.mg_of X G a0)
  have C_is_code:Fok l.prog w K mg base (CXe l.prog w) 1 "is_code" ["thing"] [] (gsp_is_code K):=fok F1 (gok_is_code T F1) b1 (PySem.W.mg_of X G a1)
  have C_width_of:Fok l.prog w K mg base (CXe l.prog w) 1 "width_of" ["level"] [] (sp_width_of):=fok F2 (ok_width_of T F2) b2 (PySem.W.mg_of X G a2)
  have C_is_colour:Fok l.prog w K mg base (CXe l.prog w) 2 "is_colour" ["thing"] [] (gsp_upto K 35):=fok F3 (gok_is_colour T quietE F3 C_is_whole) b3 (PySem.W.mg_of X G a3)
  have C_is_level:Fok l.prog w K mg base (CXe l.prog w) 2 "is_level" ["thing"] [] (gsp_upto K 40):=fok F4 (gok_is_level T quietE F4 C_is_whole) b4 (PySem.W.mg_of X G a4)
  have C_need_level:Fok l.prog w K mg base (CXe l.prog w) 3 "need_level" ["level","least"] [] (sp_nlX Y):=fok F5 (ok_need_level T Y quietE F5 C_is_level) b5 (PySem.W.mg_of X G a5)
  have C_need_level_1:Fok l.prog w K mg base (CXe l.prog w) 3 "need_level" ["level","least"] [.int 0] (sp_nlX Y):=fokD F5 (ok_need_level T Y quietE F5 C_is_level) bd5 (.cons ⟨_,rfl⟩ .nil) (PySem.W.mg_of X G a5)
  have C_need_code_within:Fok l.prog w K mg base (CXe l.prog w) 2 "need_code_within" ["code","level"] [] (sp_cwX Y):=fok F6 (ok_need_code_within T Y quietE F6 C_is_code) b6 (PySem.W.mg_of X G a6)
  have C_need_colour:Fok l.prog w K mg base (CXe l.prog w) 3 "need_colour" ["colour"] [] (sp_ncX Y):=fok F7 (ok_need_colour T Y quietE F7 C_is_colour) b7 (PySem.W.mg_of X G a7)
  have C_need_place:Fok l.prog w K mg base (CXe l.prog w) 2 "need_place" ["x","y","level"] [] (sp_npX Y):=fok F8 (ok_need_place T Y quietE F8 C_width_of C_is_whole) b8 (PySem.W.mg_of X G a8)
  have C_code_at:Fok l.prog w K mg base (CXe l.prog w) 4 "code_at" ["x","y","level"] [] (sp_code_atX Y):=fok F9 (ok_code_at T Y quietE F9 C_need_level_1 C_need_place) b9 (PySem.W.mg_of X G a9)
  have C_need_code:Fok l.prog w K mg base (CXe l.prog w) 2 "need_code" ["code"] [] (sp_need_code):=fok F10 (ok_need_code T quietE F10 C_is_code) b10 (PySem.W.mg_of X G a10)
  have C_is_of_one_colour:Fok l.prog w K mg base (CXe l.prog w) 1 "is_of_one_colour" ["parts"] [] (sp_is_one):=fok F11 (ok_is_of_one_colour T F11) b11 (PySem.W.mg_of X G a11)
  have C_gathered:Fok l.prog w K mg base (CXe l.prog w) 2 "gathered" ["parts"] [] (sp_gathered):=fok F12 (ok_gathered T quietE F12 C_is_of_one_colour) b12 (PySem.W.mg_of X G a12)
  have C_holds:Fok l.prog w K mg base (CXe l.prog w) 3 "holds" ["code","other"] [] (sp_holds):=fok F13 (ok_holds T quietE F13 C_need_code) b13 (PySem.W.mg_of X G a13)
  have C_need_apart:Fok l.prog w K mg base (CXe l.prog w) 4 "need_apart" ["codes"] [] (sp_need_apartX Y):=fok F14 (ok_need_apart T Y quietE F14 C_holds) b14 (PySem.W.mg_of X G a14)
  have C_tree_of:Fok l.prog w K mg base (CXe l.prog w) 44 "tree_of" ["cover","signs"] [] (sp_tree_ofX Y 41):=fok F15 (ok_tree_of T Y quietE F15 C_gathered b15 (PySem.W.mg_of X G a15) 41) b15 (PySem.W.mg_of X G a15)
  have C_sheet_of:Fok l.prog w K mg base (CXe l.prog w) 45 "sheet_of" ["level","cover"] [] (sp_sheet_ofX Y):=fok F16 (ok_sheet_of T Y quietE F16 C_need_level_1 C_need_code_within C_need_colour C_need_apart C_tree_of) b16 (PySem.W.mg_of X G a16)
  have C_leaf_at:Fok l.prog w K mg base (CXe l.prog w) 5 "leaf_at" ["sheet","x","y"] [] (sp_leaf_atX Y):=fok F17 (ok_leaf_at T Y quietE F17 C_code_at) b17 (PySem.W.mg_of X G a17)
  have C__law_at:Fok l.prog w K mg base (CXe l.prog w) 1 "_law_at" ["_law_script","_law_k"] [] (sp_law_at K):=fok F18 (ok_law_at T F18) b18 (PySem.W.mg_of X G a18)
  have C__law_code:Fok l.prog w K mg base (CXe l.prog w) 1 "_law_code" ["_law_cell","_law_size"] [] (sp_law_code):=fok F19 (ok_law_code T F19) b19 (PySem.W.mg_of X G a19)
  have C__law_colour:Fok l.prog w K mg base (CXe l.prog w) 1 "_law_colour" ["_law_cell"] [] (sp_law_colour):=fok F20 (ok_law_colour T F20) b20 (PySem.W.mg_of X G a20)
  have C__law_paints:Fok l.prog w K mg base (CXe l.prog w) 3 "_law_paints" ["_law_script","_law_first","_law_most","_law_level"] [] (sp_law_paints K):=fok F21 (ok_law_paints T quietE F21 C__law_at C__law_code C__law_colour) b21 (PySem.W.mg_of X G a21)
  have C__law_tree_of:Fok l.prog w K mg base (CXe l.prog w) 1 "_law_tree_of" ["_law_a","_law_b","_law_c","_law_d"] [] (sp_law_tree_of):=fok F22 (ok_law_tree_of T F22) b22 (PySem.W.mg_of X G a22)
  have C__law_tree_by:Fok l.prog w K mg base (CXe l.prog w) 43 "_law_tree_by" ["_law_paints_here"] [] (sp_law_tree_by 41):=fok F23 (ok_law_tree_by T quietE F23 C__law_tree_of b23 (PySem.W.mg_of X G a23) 41) b23 (PySem.W.mg_of X G a23)
  have C__law_grid:Fok l.prog w K mg base (CXe l.prog w) 2 "_law_grid" ["_law_script","_law_first","_law_level"] [] (sp_law_grid K):=fok F24 (ok_law_grid T quietE F24 C__law_at) b24 (PySem.W.mg_of X G a24)
  have C__law_tree_of_rows:Fok l.prog w K mg base (CXe l.prog w) 2 "_law_tree_of_rows" ["_law_rows"] [] (sp_law_tree_of_rows):=fok F25 (ok_law_tree_of_rows T quietE F25 C__law_tree_of) b25 (PySem.W.mg_of X G a25)
  have C__law_sheet:Fok l.prog w K mg base (CXe l.prog w) 44 "_law_sheet" ["_law_script","_law_most"] [] (sp_law_sheet K):=fok F26 (ok_law_sheet T quietE F26 C__law_at C__law_tree_of_rows C__law_grid C__law_paints C__law_colour C__law_tree_by) b26 (PySem.W.mg_of X G a26)
  have C__law_leaves:Fok l.prog w K mg base (CXe l.prog w) 42 "_law_leaves" ["_law_tree","_law_code_here"] [] (sp_law_leaves 41):=fok F27 (ok_law_leaves T quietE F27 b27 (PySem.W.mg_of X G a27) 41) b27 (PySem.W.mg_of X G a27)
  have C__law_no_level:Fok l.prog w K mg base (CXe l.prog w) 1 "_law_no_level" ["_law_cell"] [] (sp_law_no_level K):=fok F28 (ok_law_no_level T F28) b28 (PySem.W.mg_of X G a28)
  have C__law_no_colour:Fok l.prog w K mg base (CXe l.prog w) 1 "_law_no_colour" ["_law_cell"] [] (sp_law_no_colour K):=fok F29 (ok_law_no_colour T F29) b29 (PySem.W.mg_of X G a29)
  have C__law_no_code:Fok l.prog w K mg base (CXe l.prog w) 2 "_law_no_code" ["_law_cell","_law_level"] [] (sp_law_no_code K):=fok F30 (ok_law_no_code T quietE F30 C__law_code) b30 (PySem.W.mg_of X G a30)
  have C__law_no_place:Fok l.prog w K mg base (CXe l.prog w) 1 "_law_no_place" ["_law_cell","_law_wide"] [] (sp_law_no_place K):=fok F31 (ok_law_no_place T F31) b31 (PySem.W.mg_of X G a31)
  have C__law_kinds:FokH l.prog w K mg base (CXe l.prog w) 1 "_law_kinds" ["_law_e"] (sp_law_kinds Y):=fokH F32 (ok_law_kinds T Y F32) b32 (PySem.W.mg_of X G a32)
  have C__law_refused:RefD l.prog w K mg base Y:=ok_law_refused T Y quietE F33 b33 (PySem.W.mg_of X G a33) C__law_kinds
  have C__law_good:Fok l.prog w K mg base (CXe l.prog w) 1 "_law_good" ["_law_code_here","_law_level"] [] (sp_law_good K):=fok F34 (ok_law_good T F34) b34 (PySem.W.mg_of X G a34)
  have C__law_due:Fok l.prog w K mg base (CXe l.prog w) 2 "_law_due" ["_law_cover","_law_level"] [] (sp_law_due K):=fok F35 (ok_law_due T quietE F35 C__law_good) b35 (PySem.W.mg_of X G a35)
  have C__law_put:Fok l.prog w K mg base (CXe l.prog w) 1 "_law_put" ["_law_cover","_law_at_here","_law_one"] [] (sp_law_put):=fok F36 (ok_law_put T F36) b36 (PySem.W.mg_of X G a36)
  have C__law_faulty:Fok l.prog w K mg base (CXe l.prog w) 3 "_law_faulty" ["_law_script","_law_cover","_law_level"] [] (sp_law_faulty K):=fok F37 (ok_law_faulty T quietE F37 C__law_at C__law_code C__law_put C__law_no_colour C__law_no_code) b37 (PySem.W.mg_of X G a37)
  exact ok_law T Y quietE FT38 KXb hB hT_law hnd C__law_sheet C__law_leaves C__law_faulty C__law_due C_sheet_of C__law_refused C__law_no_level C__law_at C__law_no_place C_leaf_at
theorem walk {l:PySem.W.OpenLaw} {q:Program} {loose:List Str} {XP:(Str→Option Value)→Heap→Prop} {YP:World→Heap→Prop} {d:DefRec} {K:Params→PySem.W.Frag} {ts:List Addr} (hn:l.most=some 63) (hdf:d.params.defaults=[])
    (hY:∀ (w:World) (h:Heap),YP w h→(K w.params).In h) (hT:∀ (w:World) (h:Heap),YP w h→∀ P∈ts,h.get? P=some (PySem.W.tabObj #[]))
    (F:∀ (w:World) (mg:Str→Option Value) (fa:Addr) (h:Heap),(K w.params).In h→h.Ns mainGlobals mg→mg d.name=some (.ref fa) →
      ∃ (fd:FuncData) (Ps:List Addr) (sp:Sp),(∀ (s:Shared) (u:Value),BindsTo s fd ⟨[u],[]⟩ [("_law_script",u)])∧(∀ Pt∈Ps,Pt∈ts∧(K w.params).lookup Pt=none∧∃ c,PySem.W.CodeHd h c Pt) ∧
        (∀ base:Heap,(K w.params).In base→base.Ns mainGlobals mg→BMain mg base→FnOk l.prog w (K w.params) mg base (CXe l.prog w) 50 fa fd ["_law_script"] sp) ∧
        ∀ (H:Hp) (a:Addr) (ns:List Int),ns.length≤63→(∀ P∈Ps,H P=some (.tbl #[]))→SqL (K w.params) H a (ns.map V.int)→sp [.ref a] H (fun v _=>v=.bl true) fun _ _ _=>False) :
    PySem.W.WalkO q loose XP YP l.row.toRowW d [] (fun f vs=>PySem.call f vs) :=
  L2.walk_ofT (n:=63) (k:=50) (x := "_law_script") (CX:=fun w=>(CXe l.prog w)) hn (by decide) hdf ⟨rfl,by decide,by decide⟩ hY hT F fun _ _ _ _ _ z=>quietE _ _ _ _ _ z
end Qs
-- The head lays a twin equation for each constant of the run; those of the largest ones are most of its size and are not needed. A name that stands already is not laid anew.
def PySem.W.Fast.tw3250895335001782407:Nat:=0
def PySem.W.Fast.tw13800018537163722946:Nat:=0
def PySem.W.Fast.tw14620047736392826998:Nat:=0
def PySem.W.Fast.tw5258188575663725546:Nat:=0
def PySem.W.Fast.tw11330597146077150802:Nat:=0
def PySem.W.Fast.tw1410336013164858826:Nat:=0
def PySem.W.Fast.tw5375123941767993973:Nat:=0
def PySem.W.Fast.tw7672605112506801292:Nat:=0
def PySem.W.Fast.tw2866725900971088084:Nat:=0
def PySem.W.Fast.tw14166503627803162095:Nat:=0
def PySem.W.Fast.tw1368806253251945039:Nat:=0
def PySem.W.Fast.tw6740260780672674258:Nat:=0
def PySem.W.Fast.tw11452048353114640475:Nat:=0
def PySem.W.Fast.tw12338492295407167975:Nat:=0
def PySem.W.Fast.tw9532682640874303282:Nat:=0
def PySem.W.Fast.tw12694012822706093618:Nat:=0
def PySem.W.Fast.tw16192796401775346453:Nat:=0
def PySem.W.Fast.tw8773486409554738973:Nat:=0
def PySem.W.Fast.tw1978168158677998344:Nat:=0
def PySem.W.Fast.tw8693033191075923065:Nat:=0
def PySem.W.Fast.tw4361563796963671360:Nat:=0
def PySem.W.Fast.tw14593083007172044046:Nat:=0
def PySem.W.Fast.tw3836174137503856578:Nat:=0
def PySem.W.Fast.tw8222875213018026494:Nat:=0
def PySem.W.Fast.tw15720596693097649334:Nat:=0
def PySem.W.Fast.tw1484085270963781768:Nat:=0
def PySem.W.Fast.tw2529269359062351158:Nat:=0
def PySem.W.Fast.tw13714748851932298398:Nat:=0
def PySem.W.Fast.tw14286969582751581477:Nat:=0
def PySem.W.Fast.tw8366912036918031430:Nat:=0
def PySem.W.Fast.tw10789846027318164613:Nat:=0
def PySem.W.Fast.tw9756206217771634700:Nat:=0
def PySem.W.Fast.tw4491862198729962554:Nat:=0
def PySem.W.Fast.tw5038601348290963258:Nat:=0
def PySem.W.Fast.tw6283989880116001550:Nat:=0
def PySem.W.Fast.tw15181806718608414736:Nat:=0
def PySem.W.Fast.tw13960136587379461329:Nat:=0
def PySem.W.Fast.tw16034832915718190553:Nat:=0
def PySem.W.Fast.tw908161562478117388:Nat:=0
def PySem.W.Fast.tw10147803174413281243:Nat:=0
def PySem.W.Fast.tw17676601014879640623:Nat:=0
def PySem.W.Fast.tw9247352484082424986:Nat:=0
def PySem.W.Fast.tw1198221804362739908:Nat:=0
def PySem.W.Fast.tw1333708629060692092:Nat:=0
def PySem.W.Fast.tw18049954112723100289:Nat:=0
def PySem.W.Fast.tw5774634589082428945:Nat:=0
def PySem.W.Fast.tw3013321438090174507:Nat:=0
def PySem.W.Fast.tw805613104987226750:Nat:=0
def PySem.W.Fast.tw15968170297163904606:Nat:=0
def PySem.W.Fast.tw9092609284264872796:Nat:=0
def PySem.W.Fast.tw281722055792337622:Nat:=0
def PySem.W.Fast.tw2955910076630493147:Nat:=0
def PySem.W.Fast.tw11229611639215571547:Nat:=0
def PySem.W.Fast.tw3775488337570453372:Nat:=0
def PySem.W.Fast.tw11634827281900689580:Nat:=0
def PySem.W.Fast.tw18189458073994490100:Nat:=0
def PySem.W.Fast.tw11080822366526640096:Nat:=0
def PySem.W.Fast.tw17338378971531196435:Nat:=0
def PySem.W.Fast.tw11875253582773650640:Nat:=0
def PySem.W.Fast.tw3193146830584352743:Nat:=0
def PySem.W.Fast.tw1620339673230722348:Nat:=0
def PySem.W.Fast.tw6099815031413565105:Nat:=0
def PySem.W.Fast.tw5483411556654627470:Nat:=0
def PySem.W.Fast.tw13424954182704675586:Nat:=0
def PySem.W.Fast.tw9210964962345089699:Nat:=0
def PySem.W.Fast.tw402332598701535179:Nat:=0
def PySem.W.Fast.tw6753012256077331506:Nat:=0
def PySem.W.Fast.tw2432971334327247599:Nat:=0
def PySem.W.Fast.tw17489588452032425612:Nat:=0
def PySem.W.Fast.tw14321347016103932014:Nat:=0
def PySem.W.Fast.tw8000653582593143791:Nat:=0
def PySem.W.Fast.tw8635673418295597106:Nat:=0
def PySem.W.Fast.tw3387254308989252719:Nat:=0
def PySem.W.Fast.tw17241877142744410210:Nat:=0
def PySem.W.Fast.tw8614064487391422965:Nat:=0
def PySem.W.Fast.tw1579720165305288497:Nat:=0
def PySem.W.Fast.tw3096458281646607404:Nat:=0
def PySem.W.Fast.tw8735018643100312464:Nat:=0
def PySem.W.Fast.tw7035169491233459064:Nat:=0
def PySem.W.Fast.tw17484430279365874035:Nat:=0
def PySem.W.Fast.tw5475416351609341123:Nat:=0
def PySem.W.Fast.tw15646530028229991187:Nat:=0
def PySem.W.Fast.tw13861618568739874160:Nat:=0
def PySem.W.Fast.tw17058864720790519821:Nat:=0
def PySem.W.Fast.tw708220464643045342:Nat:=0
def PySem.W.Fast.tw8964206990612250977:Nat:=0
def PySem.W.Fast.tw5010703668906030593:Nat:=0
def PySem.W.Fast.tw1130725563984193555:Nat:=0
open PySem PySem.W PyProof.Rows
set_option maxRecDepth 100000 in
set_option maxHeartbeats 0 in
theorem PySem.Challenge.cw_quartersheet_k25_covers_refused_holds : PySem.Challenge.rw_quartersheet_k25_covers_refused.Holds := by
  w_on; o_law; k_head; (case hw=>w_witness2)
  k_fill
  refine Qs.walk (l:=PySem.Challenge.rw_quartersheet_k25_covers_refused) rfl rfl (fun w h Y=>PySem.W.km_in_of Y) (fun w h Y=>PySem.W.km_tabs_of Y) ?F
  case F =>
    intro w mg fa h KX G hmg
    refine' Qs.all_mk KX G hmg ?a0 ?l0 ?c0 ?k0 ?a1 ?l1 ?c1 ?k1 ?a2 ?l2 ?c2 ?k2 ?a3 ?l3 ?c3 ?k3 ?a4 ?l4 ?c4 ?k4 ?a5 ?l5 ?c5 ?k5 ?d5 ?a6 ?l6 ?c6 ?k6 ?a7 ?l7 ?c7 ?k7 ?a8 ?l8 ?c8 ?k8 ?a9 ?l9 ?c9 ?k9 ?a10 ?l10 ?c10 ?k10 ?a11 ?l11 ?c11 ?k11 ?a12 ?l12 ?c12 ?k12 ?a13 ?l13 ?c13 ?k13 ?a14 ?l14 ?c14 ?k14 ?a15 ?l15 ?c15 ?k15 ?a16 ?l16 ?c16 ?k16 ?a17 ?l17 ?c17 ?k17 ?a18 ?l18 ?c18 ?k18 ?a19 ?l19 ?c19 ?k19 ?a20 ?l20 ?c20 ?k20 ?a21 ?l21 ?c21 ?k21 ?a22 ?l22 ?c22 ?k22 ?a23 ?l23 ?c23 ?k23 ?a24 ?l24 ?c24 ?k24 ?a25 ?l25 ?c25 ?k25 ?a26 ?l26 ?c26 ?k26 ?a27 ?l27 ?c27 ?k27 ?a28 ?l28 ?c28 ?k28 ?a29 ?l29 ?c29 ?k29 ?a30 ?l30 ?c30 ?k30 ?a31 ?l31 ?c31 ?k31 ?a32 ?l32 ?c32 ?k32 ?a33 ?l33 ?c33 ?k33 ?a34 ?l34 ?c34 ?k34 ?a35 ?l35 ?c35 ?k35 ?a36 ?l36 ?c36 ?k36 ?a37 ?l37 ?c37 ?k37 ?a38 ?l38 ?c38 ?k38 ?z0 ?z1 ?z2 ?z3 ?z4 ?z5 ?z6 ?z7 ?z8 ?z9 ?z10 ?z11 ?z12 ?z13 ?z14 ?z15 ?y0 ?y1 ?y2 ?y3 ?y4 ?y5 ?y6 ?y7 ?y8 ?y9 ?y10 ?y11 ?y12 ?y13 ?y14 ?y15 ?y16 ?y17 ?y18 ?y19 ?y20 ?y21 ?y22 ?y23 ?y24 ?y25 ?y26 ?y27 ?y28 ?y29 ?y30 ?y31 ?y32 ?y33 ?y34 ?y35 ?y36 ?y37 ?y38 ?y39 ?y40 ?y41 ?y42 ?y43 ?y44 ?y45 ?y46 ?y47 ?y48 ?y49 ?y50 ?y51 ?y52 ?y53 ?y54 ?y55 ?y56 ?y57 ?y58 ?y59 ?y60 ?y61 ?y62 ?y63 ?y64 ?y65 ?y66 ?y67 ?y68 ?y69 ?y70 ?y71 ?y72 ?y73 ?y74 ?y75 ?y76 ?y77 ?y78 ?y79 ?y80 ?y81 ?y82 ?y83 ?y84 ?y85 ?y86 ?y87 ?y88 ?y89 ?y90 ?y91 ?y92 ?y93 ?y94 ?y95 ?y96 ?y97 ?y98 ?y99 ?y100 ?y101 ?y102 ?y103 ?y104 ?y105 ?y106 ?y107 ?y108 ?y109 ?y110 ?y111 ?y112 ?y113 ?y114 ?y115 ?y116 ?y117 ?y118 ?y119 ?y120 ?y121 ?y122 ?y123 ?y124 ?y125 ?y126 ?y127 ?y128 ?y129 ?y130 ?y131 ?y132 ?ta38 ?tb38 ?te38 ?tf38 ?n38 ?m38 ?nd
    (case a0=>k_is)
    (case l0=>k_is)
    (case c0=>k_is)
    (case k0=>k_is)
    (case a1=>k_is)
    (case l1=>k_is)
    (case c1=>k_is)
    (case k1=>k_is)
    (case a2=>k_is)
    (case l2=>k_is)
    (case c2=>k_is)
    (case k2=>k_is)
    (case a3=>k_is)
    (case l3=>k_is)
    (case c3=>k_is)
    (case k3=>k_is)
    (case a4=>k_is)
    (case l4=>k_is)
    (case c4=>k_is)
    (case k4=>k_is)
    (case a5=>k_is)
    (case l5=>k_is)
    (case c5=>k_is)
    (case k5=>k_is)
    (case d5=>k_is)
    (case a6=>k_is)
    (case l6=>k_is)
    (case c6=>k_is)
    (case k6=>k_is)
    (case a7=>k_is)
    (case l7=>k_is)
    (case c7=>k_is)
    (case k7=>k_is)
    (case a8=>k_is)
    (case l8=>k_is)
    (case c8=>k_is)
    (case k8=>k_is)
    (case a9=>k_is)
    (case l9=>k_is)
    (case c9=>k_is)
    (case k9=>k_is)
    (case a10=>k_is)
    (case l10=>k_is)
    (case c10=>k_is)
    (case k10=>k_is)
    (case a11=>k_is)
    (case l11=>k_is)
    (case c11=>k_is)
    (case k11=>k_is)
    (case a12=>k_is)
    (case l12=>k_is)
    (case c12=>k_is)
    (case k12=>k_is)
    (case a13=>k_is)
    (case l13=>k_is)
    (case c13=>k_is)
    (case k13=>k_is)
    (case a14=>k_is)
    (case l14=>k_is)
    (case c14=>k_is)
    (case k14=>k_is)
    (case a15=>k_is)
    (case l15=>k_is)
    (case c15=>k_is)
    (case k15=>k_is)
    (case a16=>k_is)
    (case l16=>k_is)
    (case c16=>k_is)
    (case k16=>k_is)
    (case a17=>k_is)
    (case l17=>k_is)
    (case c17=>k_is)
    (case k17=>k_is)
    (case a18=>k_is)
    (case l18=>k_is)
    (case c18=>k_is)
    (case k18=>k_is)
    (case a19=>k_is)
    (case l19=>k_is)
    (case c19=>k_is)
    (case k19=>k_is)
    (case a20=>k_is)
    (case l20=>k_is)
    (case c20=>k_is)
    (case k20=>k_is)
    (case a21=>k_is)
    (case l21=>k_is)
    (case c21=>k_is)
    (case k21=>k_is)
    (case a22=>k_is)
    (case l22=>k_is)
    (case c22=>k_is)
    (case k22=>k_is)
    (case a23=>k_is)
    (case l23=>k_is)
    (case c23=>k_is)
    (case k23=>k_is)
    (case a24=>k_is)
    (case l24=>k_is)
    (case c24=>k_is)
    (case k24=>k_is)
    (case a25=>k_is)
    (case l25=>k_is)
    (case c25=>k_is)
    (case k25=>k_is)
    (case a26=>k_is)
    (case l26=>k_is)
    (case c26=>k_is)
    (case k26=>k_is)
    (case a27=>k_is)
    (case l27=>k_is)
    (case c27=>k_is)
    (case k27=>k_is)
    (case a28=>k_is)
    (case l28=>k_is)
    (case c28=>k_is)
    (case k28=>k_is)
    (case a29=>k_is)
    (case l29=>k_is)
    (case c29=>k_is)
    (case k29=>k_is)
    (case a30=>k_is)
    (case l30=>k_is)
    (case c30=>k_is)
    (case k30=>k_is)
    (case a31=>k_is)
    (case l31=>k_is)
    (case c31=>k_is)
    (case k31=>k_is)
    (case a32=>k_is)
    (case l32=>k_is)
    (case c32=>k_is)
    (case k32=>k_is)
    (case a33=>k_is)
    (case l33=>k_is)
    (case c33=>k_is)
    (case k33=>k_is)
    (case a34=>k_is)
    (case l34=>k_is)
    (case c34=>k_is)
    (case k34=>k_is)
    (case a35=>k_is)
    (case l35=>k_is)
    (case c35=>k_is)
    (case k35=>k_is)
    (case a36=>k_is)
    (case l36=>k_is)
    (case c36=>k_is)
    (case k36=>k_is)
    (case a37=>k_is)
    (case l37=>k_is)
    (case c37=>k_is)
    (case k37=>k_is)
    (case a38=>k_is)
    (case l38=>k_is)
    (case c38=>k_is)
    (case k38=>k_is)
    (case z0=>k_is)
    (case z1=>k_is)
    (case z2=>k_is)
    (case z3=>k_is)
    (case z4=>k_is)
    (case z5=>k_is)
    (case z6=>k_is)
    (case z7=>k_is)
    (case z8=>k_is)
    (case z9=>k_is)
    (case z10=>k_is)
    (case z11=>k_is)
    (case z12=>k_is)
    (case z13=>k_is)
    (case z14=>k_is)
    (case z15=>k_is)
    (case ta38=>exact rfl)
    (case tb38=>k_is)
    (case te38=>exact rfl)
    (case tf38=>kernel_rfl)
    (case n38=>kernel_rfl)
    (case m38=>decide)
    (case nd=>decide)
    (case y0=>k_is)
    (case y1=>k_is)
    (case y2=>k_is)
    (case y3=>k_is)
    (case y4=>k_is)
    (case y5=>k_is)
    (case y6=>k_is)
    (case y7=>k_is)
    (case y8=>k_is)
    (case y9=>k_is)
    (case y10=>k_is)
    (case y11=>k_is)
    (case y12=>k_is)
    (case y13=>k_exc)
    (case y14=>k_is)
    (case y15=>k_is)
    (case y16=>k_is)
    (case y17=>k_is)
    (case y18=>k_is)
    (case y19=>k_is)
    (case y20=>kts_exm)
    (case y21=>kit_is)
    (case y22=>kit_is)
    (case y23=>kit_is)
    (case y24=>kit_is)
    (case y25=>kit_is)
    (case y26=>kit_is)
    (case y27=>kit_is)
    (case y28=>kit_is)
    (case y29=>kit_is)
    (case y30=>kit_is)
    (case y31=>kit_is)
    (case y32=>kit_is)
    (case y33=>k_exc)
    (case y34=>k_is)
    (case y35=>k_is)
    (case y36=>k_is)
    (case y37=>k_is)
    (case y38=>k_is)
    (case y39=>k_is)
    (case y40=>kts_exm)
    (case y41=>kit_is)
    (case y42=>kit_is)
    (case y43=>kit_is)
    (case y44=>kit_is)
    (case y45=>kit_is)
    (case y46=>kit_is)
    (case y47=>kit_is)
    (case y48=>kit_is)
    (case y49=>kit_is)
    (case y50=>kit_is)
    (case y51=>kit_is)
    (case y52=>kit_is)
    (case y53=>k_exc)
    (case y54=>k_is)
    (case y55=>k_is)
    (case y56=>k_is)
    (case y57=>k_is)
    (case y58=>k_is)
    (case y59=>k_is)
    (case y60=>kts_exm)
    (case y61=>kit_is)
    (case y62=>kit_is)
    (case y63=>kit_is)
    (case y64=>kit_is)
    (case y65=>kit_is)
    (case y66=>kit_is)
    (case y67=>kit_is)
    (case y68=>kit_is)
    (case y69=>kit_is)
    (case y70=>kit_is)
    (case y71=>kit_is)
    (case y72=>kit_is)
    (case y73=>k_exc)
    (case y74=>k_is)
    (case y75=>k_is)
    (case y76=>k_is)
    (case y77=>k_is)
    (case y78=>k_is)
    (case y79=>k_is)
    (case y80=>kts_exm)
    (case y81=>kit_is)
    (case y82=>kit_is)
    (case y83=>kit_is)
    (case y84=>kit_is)
    (case y85=>kit_is)
    (case y86=>kit_is)
    (case y87=>kit_is)
    (case y88=>kit_is)
    (case y89=>kit_is)
    (case y90=>kit_is)
    (case y91=>kit_is)
    (case y92=>kit_is)
    (case y93=>k_exc)
    (case y94=>k_is)
    (case y95=>k_is)
    (case y96=>k_is)
    (case y97=>k_is)
    (case y98=>k_is)
    (case y99=>k_is)
    (case y100=>kts_exm)
    (case y101=>kit_is)
    (case y102=>kit_is)
    (case y103=>kit_is)
    (case y104=>kit_is)
    (case y105=>kit_is)
    (case y106=>kit_is)
    (case y107=>kit_is)
    (case y108=>kit_is)
    (case y109=>kit_is)
    (case y110=>kit_is)
    (case y111=>kit_is)
    (case y112=>kit_is)
    (case y113=>k_exc)
    (case y114=>k_is)
    (case y115=>k_is)
    (case y116=>k_is)
    (case y117=>k_is)
    (case y118=>k_is)
    (case y119=>k_is)
    (case y120=>kts_exm)
    (case y121=>kit_is)
    (case y122=>kit_is)
    (case y123=>kit_is)
    (case y124=>kit_is)
    (case y125=>kit_is)
    (case y126=>kit_is)
    (case y127=>kit_is)
    (case y128=>kit_is)
    (case y129=>kit_is)
    (case y130=>kit_is)
    (case y131=>kit_is)
    (case y132=>kit_is)


