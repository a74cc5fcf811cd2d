import PyProof.Rows.All
import Wide.All
import OpenK.AllK
import Wide.FinOn
import Lean
import PyProof.EqAt
import PyProof.EqKinds
import PyProof.TupleCall
import PySem.Challenge.RW_quartersheet_k53_all_that_touch
set_option Elab.async false
set_option linter.all false
set_option maxRecDepth 100000

namespace L2
open PySem PySem.Spec PyProof.Rows


abbrev Key:=Sum Int Str
def keyIs:Key→Value→Bool
  | .inl k,v=>Value.isInt k v
  | .inr x,v=>Value.isStrOf x v
def keyH (w:World):Key→Int
  | .inl k=>hashInt k
  | .inr x=>hashStr w x
theorem keyIs_shape:∀ {k:Key} {v:Value},keyIs k v=true→(∃ i t,k=Sum.inl i∧v=Value.int i t)∨(∃ x t,k=Sum.inr x∧v=Value.str x t)
  | .inl i,v,h=>by
    obtain ⟨t,e⟩:=Value.isInt_shape (k:=i) (v:=v) h
    exact .inl ⟨i,t,rfl,e⟩
  | .inr x,v,h=>by
    obtain ⟨t,e⟩:=Value.isStrOf_shape (x:=x) (v:=v) h
    exact .inr ⟨x,t,rfl,e⟩
theorem keyIs_int (i:Int) (t:Tok):keyIs (.inl i) (.int i t)=true:=by simp [keyIs,Value.isInt]
theorem keyIs_str (x:Str) (t:Tok):keyIs (.inr x) (.str x t)=true:=by simp [keyIs,Value.isStrOf]
theorem key_ll (a b:Int):decide ((Sum.inl a:Key)=Sum.inl b)=(a == b):=by
  by_cases e:a=b
  · subst e; simp
  · have h:¬ (Sum.inl a:Key)=Sum.inl b:=fun q=>e (Sum.inl.inj q)
    rw [decide_eq_false h]
    exact (beq_eq_false_iff_ne.mpr e).symm
theorem key_rr (a b:Str):decide ((Sum.inr a:Key)=Sum.inr b)=decide (a=b):=by
  by_cases e:a=b
  · subst e; simp
  · have h:¬ (Sum.inr a:Key)=Sum.inr b:=fun q=>e (Sum.inr.inj q)
    rw [decide_eq_false h,decide_eq_false e]
theorem key_lr (a:Int) (b:Str):decide ((Sum.inl a:Key)=Sum.inr b)=false:=decide_eq_false (fun q=>nomatch q)
theorem key_rl (a:Str) (b:Int):decide ((Sum.inr a:Key)=Sum.inl b)=false:=decide_eq_false (fun q=>nomatch q)

def mixKind (prog:Program) (w:World):PySem.KeyKind prog w Key where
  is:=keyIs
  hash:=keyH w
  inj:=fun v a b ha hb=>by
    rcases keyIs_shape ha with ⟨i,t,rfl,rfl⟩ | ⟨x,t,rfl,rfl⟩
    · rcases keyIs_shape hb with ⟨j,u,rfl,e⟩ | ⟨y,u,rfl,e⟩
      · injection e with e1 _; rw [e1]
      · exact nomatch e
    · rcases keyIs_shape hb with ⟨j,u,rfl,e⟩ | ⟨y,u,rfl,e⟩
      · exact nomatch e
      · injection e with e1 _; rw [e1]
  byValue:=fun k v h=>by
    rcases keyIs_shape h with ⟨i,t,rfl,rfl⟩ | ⟨x,t,rfl,rfl⟩ <;> rfl
  pyHash:=fun hv h=>by
    rcases keyIs_shape hv with ⟨i,t,rfl,rfl⟩ | ⟨x,t,rfl,rfl⟩
    · exact wpAny_pyHash_int h
    · exact wpAny_pyHash_str h
  eqBool:=fun hu hv h=>by
    rcases keyIs_shape hu with ⟨i,t,rfl,rfl⟩ | ⟨x,t,rfl,rfl⟩
    · rcases keyIs_shape hv with ⟨j,u,rfl,rfl⟩ | ⟨y,u,rfl,rfl⟩
      · rw [key_ll] at h; exact wpAny_eqBool_int h
      · rw [key_lr] at h; exact SeqAt.EqAt.int_str i t y u _ _ _ _ h
    · rcases keyIs_shape hv with ⟨j,u,rfl,rfl⟩ | ⟨y,u,rfl,rfl⟩
      · rw [key_rl] at h; exact SeqAt.EqAt.str_int x t j u _ _ _ _ h
      · rw [key_rr] at h; exact wpAny_eqBool_str h
  «strs» := fun k x t v h=>by
    rcases keyIs_shape h with ⟨i,u,rfl,e⟩ | ⟨y,u,rfl,e⟩
    · exact nomatch e
    · injection e with e1 _
      subst e1
      cases v <;> rfl

theorem mixKind_int (prog:Program) (w:World) (i:Int) (t:Tok):(mixKind prog w).is (.inl i) (.int i t)=true:=keyIs_int i t
theorem mixKind_str (prog:Program) (w:World) (x:Str) (t:Tok):(mixKind prog w).is (.inr x) (.str x t)=true:=keyIs_str x t
end L2

namespace L2
open PySem PySem.Spec PyProof.Rows


inductive V where
  | non | bl (b:Bool) | int (i:Int) | str (x:Str) | byt (b:Array UInt8) | flt (b:UInt64) | ref (a:Addr) | ty (n:String)
  deriving DecidableEq

def RelV:V→Value→Prop
  | .non,u=>u=Value.none
  | .bl b,u=>u=Value.bool b
  | .int i,u=>∃ t,u=Value.int i t
  | .str x,u=>∃ t,u=Value.str x t
  | .byt b,u=>∃ t,u=Value.bytes b t
  | .flt b,u=>∃ t,u=Value.float b t
  | .ref a,u=>u=Value.ref a
  | .ty n,u=>u=Value.type n

abbrev Vals:List V→List Value→Prop:=Paired RelV
theorem Vals.length {xs:List V} {us:List Value} (r:Vals xs us):xs.length=us.length:=Paired.length r
theorem Vals.get:∀ {xs:List V} {us:List Value} {i:Nat} {x:V},Vals xs us→xs[i]? = some x→∃ u,us[i]? = some u∧RelV x u
  | _,_,_,_,.nil,e=>by simp at e
  | _,_,0,_,.cons r _,e=>by simp at e; subst e; exact ⟨_,rfl,r⟩
  | _,_,i + 1,x,.cons _ t,e=>by
    obtain ⟨u,h1,h2⟩:=Vals.get (i:=i) (x:=x) t (by simpa using e)
    exact ⟨u,by simpa using h1,h2⟩
theorem Vals.set {x:V} {u:Value} (r:RelV x u):∀ {xs:List V} {us:List Value} (i:Nat),Vals xs us→Vals (xs.set i x) (us.set i u)
  | _,_,_,.nil=>.nil
  | _,_,0,.cons _ t=>.cons r t
  | _,_,i + 1,.cons q t=>.cons q (Vals.set r i t)
theorem Vals.append:∀ {xs ys:List V} {us ws:List Value},Vals xs us→Vals ys ws→Vals (xs++ys) (us++ws)
  | _,_,_,_,.nil,s=>s
  | _,_,_,_,.cons r t,s=>.cons r (Vals.append t s)
def RelO:Option V→Option Value→Prop
  | some v,some u=>RelV v u
  | none,none=>True
  | _,_=>False
def KV {κ:Type}:List (κ × V)→List (κ × Value)→Prop:=Paired fun (p:κ × V) (q:κ × Value)=>p.1=q.1∧RelV p.2 q.2


def kV:Key→V
  | .inl i=>.int i
  | .inr x=>.str x


inductive HO where
  
  | lst (xs:List V)
  
  | tup (xs:List V)
  
  | dK (kvs:List (Key × V)) | dT (kvs:List (List Key × V))
  
  | set (S:Int→Bool) (n:Nat)
  
  | ins (C dx:Addr) (fs:List (Str × V))
  
  | own (x:Addr)
  
  | xd (fs:List (Str × V))
  
  | met (f x:Addr)
  
  | rng (lo hi:Int)
  
  | frz (o:Obj) (u:HO)
  
  | tbl (ps:Array Value)
  
  | ext (φ:Heap→Prop)

abbrev Hp:=Addr→Option HO
def upd (H:Hp) (a:Addr) (o:HO):Hp:=fun b=>if b=a then some o else H b
theorem upd_same {H:Hp} {a:Addr} {o:HO}:upd H a o a=some o:=by unfold upd; rw [if_pos rfl]
theorem upd_ne {H:Hp} {a b:Addr} {o:HO} (h:b≠a):upd H a o b=H b:=by unfold upd; rw [if_neg h]
theorem upd_upd {H:Hp} {a:Addr} {o u:HO}:upd (upd H a o) a u=upd H a u:=by
  funext b; unfold upd; split <;> rfl

theorem ne_of {H:Hp} {a b:Addr} {o u:HO} (h:H a=some o) (h':H b=some u) (d:o≠u):a≠b:=by
  intro e; subst e; rw [h] at h'; exact d (Option.some.inj h')
theorem ne_of_none {H:Hp} {a b:Addr} {o:HO} (h:H a=some o) (h':H b=none):a≠b:=by
  intro e; subst e; rw [h] at h'; cases h'

section
variable (P:Program) (w:World)
def ObjOk (H:Hp) (h:Heap) (a:Addr):HO→Prop
  | .lst xs=>xs.length≤sizeLine∧∃ (its:List Value) (n:Nat),Vals xs its∧h.get? a=some { cls:=.type "list",data:=.seq its.toArray n }
  | .tup xs=>xs.length≤sizeLine∧∃ its:List Value,Vals xs its∧IsTup h a its.toArray
  | .dK kvs=>kvs.length≤sizeLine∧(a == sysModules)=false∧∃ vs,KV kvs vs∧h.DictOf (mixKind P w) a vs
  | .dT kvs=>kvs.length≤sizeLine∧(a == sysModules)=false∧∃ xs:List (List Key × Addr × Value),
      Paired (fun (p:List Key × V) (q:List Key × Addr × Value)=>p.1=q.1∧H q.2.1=some (.tup (p.1.map kV))∧RelV p.2 q.2.2) kvs xs ∧
      ∃ o es ep,h.get? a=some o∧o.ExactDict∧o.data=.dict es ep∧es.toList=xs.map (entryOfKey (tupleKind (mixKind P w)))∧(xs.map (·.1)).Nodup
  | .set S n=>h.SetOf (intKind P w) a S n
  | .ins C dx fs=>H dx=some (.own a)∧fs.length≤1000∧dx≠a∧h.get? a=some (PySem.W.instObj C dx) ∧
      ∃ mA,h.Ns1 dx mA∧(∀ f,RelO (fs.lookup f) (mA f))∧PySem.Within mA (fs.map (·.1))
  | .own _=>∃ o,h.get? a=some o
  | .xd fs=>∃ mA,h.Ns1 a mA∧∀ f,RelO (fs.lookup f) (mA f)
  | .rng lo hi=>∃ t u v,h.get? a=some { cls:=.type "range",data:=.fields #[.int lo t,.int hi u,.int 1 v] }
  | .frz o u=>h.get? a=some o∧ObjOk H h a u
  | .tbl ps=>h.get? a=some { cls:=.none,data:=.fields ps }
  | .met f x=>h.get? a=some (PySem.W.methodObj (.ref f) (.ref x))
  | .ext φ=>φ h∧(∃ o,h.get? a=some o)∧∀ h1 h2:Heap,φ h1→(∀ o,h1.get? a=some o→h2.get? a=some o)→φ h2

def HOk (H:Hp) (h:Heap):Prop:=∀ a o,H a=some o→ObjOk P w H h a o
end

section
variable {P:Program} {w:World} {H H':Hp} {h h':Heap} {a:Addr} {o:HO}
theorem ObjOk.lt (x:ObjOk P w H h a o):a < h.objs.size:=by
  cases o with
  | lst xs=>obtain ⟨_,_,_,_,e⟩:=x; exact Heap.lt_size e
  | tup xs=>obtain ⟨_,_,_,p⟩:=x; exact p.lt
  | dK kvs=>obtain ⟨_,_,_,_,o,_,_,e,_⟩:=x; exact Heap.lt_size e
  | dT kvs=>obtain ⟨_,_,_,_,o,_,_,e,_⟩:=x; exact Heap.lt_size e
  | set S n=>obtain ⟨o,_,_,_,e,_⟩:=x; exact Heap.lt_size e
  | ins C dx fs=>obtain ⟨_,_,_,e,_⟩:=x; exact Heap.lt_size e
  | own y=>obtain ⟨_,e⟩:=x; exact Heap.lt_size e
  | xd fs=>obtain ⟨_,⟨_,_,_,e,_⟩,_⟩:=x; exact Heap.lt_size e
  | rng lo hi=>obtain ⟨_,_,_,e⟩:=x; exact Heap.lt_size e
  | frz ob u=>obtain ⟨e,_⟩:=x; exact Heap.lt_size e
  | tbl ps=>exact Heap.lt_size (show h.get? a=some _ from x)
  | met f y=>exact Heap.lt_size (show h.get? a=some _ from x)
  | ext φ=>obtain ⟨_,⟨_,e⟩,_⟩:=x; exact Heap.lt_size e
theorem Paired.mapP {α β:Type} {F G:α→β→Prop}:∀ {l₁:List α} {l₂:List β},Paired F l₁ l₂→(∀ a b,F a b→G a b)→Paired G l₁ l₂
  | _,_,.nil,_=>.nil
  | _,_,.cons r t,f=>.cons (f _ _ r) (Paired.mapP t f)
theorem ObjOk.stay (x:ObjOk P w H h a o) (k:∀ b u,(b=a∨H b=some (.own a))→h.get? b=some u→h'.get? b=some u)
    (ho:∀ b,H b=some (.own a)→H' b=some (.own a)) (ht:∀ b xs,H b=some (.tup xs)→H' b=some (.tup xs)):ObjOk P w H' h' a o:=by
  induction o with
  | lst xs=>obtain ⟨z,its,n,r,e⟩:=x; exact ⟨z,its,n,r,k _ _ (.inl rfl) e⟩
  | tup xs=>obtain ⟨z,its,r,ob,e,c⟩:=x; exact ⟨z,its,r,ob,k _ _ (.inl rfl) e,c⟩
  | dK kvs=>obtain ⟨z,y,vs,r,ob,es,ep,e,c⟩:=x; exact ⟨z,y,vs,r,ob,es,ep,k _ _ (.inl rfl) e,c⟩
  | dT kvs =>
    obtain ⟨z,y,xs,r,ob,es,ep,e,c⟩:=x
    exact ⟨z,y,xs,Paired.mapP r fun p q z=>⟨z.1,ht _ _ z.2.1,z.2.2⟩,ob,es,ep,k _ _ (.inl rfl) e,c⟩
  | set S n=>obtain ⟨ob,es,ep,t,e,c⟩:=x; exact ⟨ob,es,ep,t,k _ _ (.inl rfl) e,c⟩
  | ins C dx fs =>
    obtain ⟨d,z,ne,e,mA,⟨od,es,ep,e2,c⟩,r⟩:=x
    exact ⟨ho _ d,z,ne,k _ _ (.inl rfl) e,mA,⟨od,es,ep,k _ _ (.inr d) e2,c⟩,r⟩
  | own y=>obtain ⟨ob,e⟩:=x; exact ⟨ob,k _ _ (.inl rfl) e⟩
  | xd fs=>obtain ⟨mA,⟨od,es,ep,e,c⟩,r⟩:=x; exact ⟨mA,⟨od,es,ep,k _ _ (.inl rfl) e,c⟩,r⟩
  | rng lo hi=>obtain ⟨t,u,v,e⟩:=x; exact ⟨t,u,v,k _ _ (.inl rfl) e⟩
  | frz ob u ih=>obtain ⟨e,q⟩:=x; exact ⟨k _ _ (.inl rfl) e,ih q⟩
  | tbl ps =>
    have e:h.get? a=some { cls:=.none,data:=.fields ps }:=x
    show h'.get? a=some { cls:=.none,data:=.fields ps }
    exact k a _ (.inl rfl) e
  | met f y =>
    have e:h.get? a=some (PySem.W.methodObj (.ref f) (.ref y)):=x
    show h'.get? a=some (PySem.W.methodObj (.ref f) (.ref y))
    exact k a _ (.inl rfl) e
  | ext φ=>obtain ⟨p,⟨o,e⟩,st⟩:=x; exact ⟨st _ _ p fun o q=>k _ _ (.inl rfl) q,⟨o,k _ _ (.inl rfl) e⟩,st⟩
theorem HOk.lt (x:HOk P w H h) (e:H a=some o):a < h.objs.size:=(x a o e).lt
theorem HOk.fresh (x:HOk P w H h) (e:h.objs.size≤a):H a=none:=by
  cases q:H a with
  | none=>rfl
  | some u=>exact absurd (Nat.lt_of_lt_of_le (x.lt q) e) (Nat.lt_irrefl _)

theorem HOk.kept (x:HOk P w H h) (k:∀ b u,h.get? b=some u→h'.get? b=some u):HOk P w H h':=fun a o e =>
  (x a o e).stay (fun b u _ q=>k b u q) (fun _ q=>q) fun _ _ q=>q

theorem HOk.laid (x:HOk P w H h) (k:∀ b u,h.get? b=some u→h'.get? b=some u) (hp:h.objs.size≤a) (new:ObjOk P w (upd H a o) h' a o):HOk P w (upd H a o) h':=fun b u e=>by
  have hn:=x.fresh hp
  by_cases hb:b=a
  · subst hb; rw [upd_same] at e; cases e; exact new
  · rw [upd_ne hb] at e
    exact (x b u e).stay (fun c v _ q=>k c v q) (fun c q=>by rw [upd_ne (ne_of_none q hn)]; exact q) fun c xs q=>by rw [upd_ne (ne_of_none q hn)]; exact q
end


def Rd (H:Hp) (a:Addr) (u:HO):Prop:=H a=some u∨∃ o,H a=some (.frz o u)
theorem Rd.ok {P:Program} {w:World} {H:Hp} {h:Heap} {a:Addr} {u:HO} (r:Rd H a u) (x:HOk P w H h):ObjOk P w H h a u:=by
  rcases r with r | ⟨o,r⟩
  · exact x a u r
  · obtain ⟨_,q⟩:=x a _ r
    exact q

def Mut:Option HO→Prop
  | some (.lst _)=>True
  | some (.dK _)=>True
  | some (.dT _)=>True
  | some (.set _ _)=>True
  | some (.ins _ _ _)=>True
  | some (.ext _)=>True
  | _=>False
section
variable {P:Program} {w:World} {H:Hp} {h h':Heap} {x e:Addr} {o':HO}

theorem HOk.write (ok:HOk P w H h) (mu:Mut (H x)) (he:e=x∨H e=some (.own x)) (k:∀ b u,b≠e→h.get? b=some u→h'.get? b=some u) (heo:∃ u,h'.get? e=some u)
    (new:ObjOk P w (upd H x o') h' x o'):HOk P w (upd H x o') h':=fun b u q=>by
  have nown:∀ c y,H c=some (.own y)→c≠x:=fun c y r z=>by subst z; rw [r] at mu; exact mu
  have ntup:∀ c xs,H c=some (.tup xs)→c≠x:=fun c xs r z=>by subst z; rw [r] at mu; exact mu
  by_cases hb:b=x
  · subst hb; rw [upd_same] at q; cases q; exact new
  · rw [upd_ne hb] at q
    by_cases hbe:b=e
    · have q':H b=some (.own x):=by
        rcases he with z | z
        · exact absurd (hbe.trans z) hb
        · rw [hbe]; exact z
      rw [q] at q'; cases q'
      obtain ⟨v,hv⟩:=heo
      exact ⟨v,by rw [hbe]; exact hv⟩
    · refine (ok b u q).stay (fun c v hc r=>k c v ?_ r) (fun c r=>by rw [upd_ne (nown c b r)]; exact r) fun c xs r=>by rw [upd_ne (ntup c xs r)]; exact r
      rcases hc with rfl | hc
      · exact hbe
      · rintro rfl
        rcases he with z | z
        · exact nown c b hc z
        · rw [hc] at z; cases z; exact hb rfl
end


structure Un (fs ex:List Addr) (H H':Hp) (h h':Heap):Prop where
  keep:∀ b o,h.get? b=some o→H b=none→b∉fs→b∉ex→h'.get? b=some o
  slot:∀ b o,h.get? b=some o→H b=none→b∈fs→b∉ex→∃ sl,h'.get? b=some { o with slots:=sl }
  free:∀ b o,h.get? b=some o→H b=none→b∉ex→H' b=none
  there:∀ b o,h.get? b=some o→b∉ex→∃ o',h'.get? b=some o'
  tups:∀ b xs,H b=some (.tup xs)→H' b=some (.tup xs)
  frzs:∀ b o u,H b=some (.frz o u)→H' b=some (.frz o u)
  tbls:∀ b ps,H b=some (.tbl ps)→∃ more,H' b=some (.tbl (ps++more))
section
variable {fs fs' ex ex':List Addr} {H H1 H2:Hp} {h h1 h2 h':Heap} {a x e:Addr} {o:HO}
theorem Un.any (u:Un fs ex H H1 h h1) {b:Addr} {ob:Obj} (q:h.get? b=some ob) (n:H b=none) (hx:b∉ex):∃ sl,h1.get? b=some { ob with slots:=sl }:=by
  by_cases hb:b∈fs
  · exact u.slot b ob q n hb hx
  · exact ⟨ob.slots,u.keep b ob q n hb hx⟩
theorem Un.kept (k:∀ b u,h.get? b=some u→h'.get? b=some u):Un fs ex H H h h' :=
  ⟨fun b ob q _ _ _=>k b ob q,fun b ob q _ _ _=>⟨ob.slots,k b ob q⟩,fun _ _ _ n _=>n,fun b ob q _=>⟨ob,k b ob q⟩,fun _ _ q=>q,fun _ _ _ q=>q,fun _ ps q=>⟨#[],by rw [q]; simp⟩⟩
theorem Un.refl:Un fs ex H H h h:=Un.kept fun _ _ q=>q
theorem Un.laid (k:∀ b u,h.get? b=some u→h'.get? b=some u) (hp:h.objs.size≤a) (hn:H a=none):Un fs ex H (upd H a o) h h' where
  keep:=fun b u q _ _ _=>k b u q
  slot:=fun b u q _ _ _=>⟨u.slots,k b u q⟩
  free:=fun b u q n _=>by rw [upd_ne (Nat.ne_of_lt (Nat.lt_of_lt_of_le (Heap.lt_size q) hp))]; exact n
  there:=fun b u q _=>⟨u,k b u q⟩
  tups:=fun b xs q=>by rw [upd_ne (ne_of_none q hn)]; exact q
  frzs:=fun b u xs q=>by rw [upd_ne (ne_of_none q hn)]; exact q
  tbls:=fun b ps q=>⟨#[],by rw [upd_ne (ne_of_none q hn),q]; simp⟩
theorem Un.write (mu:Mut (H x)) (he:e=x∨H e=some (.own x)) (k:∀ b u,b≠e→h.get? b=some u→h'.get? b=some u) (heo:∃ u,h'.get? e=some u):Un fs ex H (upd H x o) h h':=by
  have hx:∀ b,H b=none→b≠x:=fun b n z=>by subst z; rw [n] at mu; exact mu
  have hb:∀ b,H b=none→b≠e:=fun b n z=>by
    subst z
    rcases he with r | r
    · exact hx b n r
    · rw [n] at r; cases r
  have hm:∀ b u,H b=some u→¬ Mut (some u)→b≠x:=fun b u q nm z=>by subst z; rw [q] at mu; exact nm mu
  refine ⟨fun b u q n _ _=>k b u (hb b n) q,fun b u q n _ _=>⟨u.slots,k b u (hb b n) q⟩,fun b u q n _=>by rw [upd_ne (hx b n)]; exact n,fun b u q _ => ?_,
    fun b xs q=>by rw [upd_ne (hm b _ q fun z=>z)]; exact q,fun b u xs q=>by rw [upd_ne (hm b _ q fun z=>z)]; exact q,fun b ps q=>⟨#[],by rw [upd_ne (hm b _ q fun z=>z),q]; simp⟩⟩
  by_cases hbe:b=e
  · subst hbe; exact heo
  · exact ⟨u,k b u hbe q⟩
end


def trk (h:Heap) (H:Hp):List Addr:=(List.range h.objs.size).filter fun a=>(H a).isSome
def hidT (h:Heap) (H:Hp):Heap:=PySem.W.hideAll h (trk h H)
theorem hidT_size (h:Heap) (H:Hp):(hidT h H).objs.size=h.objs.size:=PySem.W.hideAll_size _ _
theorem hidT_get {h:Heap} {H:Hp} {b:Addr} {o:Obj} (e:h.get? b=some o) (n:H b=none):(hidT h H).get? b=some o :=
  PySem.W.hideAll_get _ e fun hm=>by
    have q:(H b).isSome=true:=(List.mem_filter.mp hm).2
    rw [n] at q; simp at q
theorem of_hidT {h:Heap} {H:Hp} {b:Addr} {o:Obj} (e:(hidT h H).get? b=some o):h.get? b=some o∧H b=none:=by
  have e':h.get? b=some o:=PySem.W.of_hideAll (trk h H) e
  refine ⟨e',?_⟩
  cases q:H b with
  | none=>rfl
  | some x =>
    have hm:b∈trk h H:=List.mem_filter.mpr ⟨List.mem_range.mpr (Heap.lt_size e'),by simp [q]⟩
    have z:(hidT h H).get? b=none:=PySem.W.hideAll_none (trk h H) hm
    rw [z] at e; cases e


end L2

namespace L2
open PySem PySem.Spec PyProof.Rows


structure Mod (K:PySem.W.Frag) (mg:Str→Option Value) (base:Heap):Prop where
  kin:K.In base
  glob:base.Ns mainGlobals mg
  blt:∃ mb,base.Ns builtinsNs mb∧∀ x:Str,x ≠ "__name__" → mb x=bootBuiltins x
  nolimit:base.NoLimit


structure Cx where
  prog:Program
  w:World
  K:PySem.W.Frag
  mg:Str→Option Value
  base:Heap
  A:Around
  N:List Str
  s₀:Shared
  H₀:Hp
  env:Env
  outer:List Env
  stack:List Env
  ex:List Addr
  fn:Str→Bool
  calm:Bool
  pn:List (Addr × Obj)
  xe:Value→Shared→Prop

def frs (l:List Env):List Addr:=l.filterMap (·.frame)
abbrev Cx.fs (X:Cx):List Addr:=frs X.outer

def Vis (sc:Scope) (x:Str):Prop:=sc.names.lookup x=some .local∨sc.names.lookup x=some .cell∨sc.names.lookup x=some .free
def Loc (sc:Scope) (x:Str):Prop:=sc.names.lookup x=some .local∨sc.names.lookup x=some .cell
def Look (env:Env) (h:Heap) (m:Str→Option Value) (x:Str) (u:Value):Prop :=
  (env.kindOf x=some .local∧m x=some u)∨((env.kindOf x=some .cell∨env.kindOf x=some .free)∧∃ c,env.cells.lookup x=some c∧h.IsCell c (some u))

structure Cx.Ok (X:Cx):Prop where
  mod:Mod X.K X.mg X.base
  kind:X.env.scope.kind=.function
  glob:X.env.globals=mainGlobals
  blt:X.env.builtins=builtinsNs
  above:X.s₀.heap.objs.size≤X.env.locals
  inj:∀ x y c,X.env.cells.lookup x=some c→X.env.cells.lookup y=some c→x=y
  has:∀ x,(X.env.kindOf x=some .cell∨X.env.kindOf x=some .free)→∃ c,X.env.cells.lookup x=some c
  cab:∀ x c,X.fn x=true→X.env.cells.lookup x=some c→X.s₀.heap.objs.size≤c
  hd:X.calm=true→X.A.handled=none
  frames:X.A.frames=some X.stack
  stk:X.stack=X.outer∨(X.stack=X.env::X.outer∧X.env.frame=some X.env.locals)
  exf:∀ b∈X.ex,b≠X.env.locals∧∀ x c,X.env.cells.lookup x=some c→c≠b
  bs:∀ b o,X.base.get? b=some o→X.s₀.heap.get? b=some o∧X.H₀ b=none
  bsz:X.base.objs.size≤X.s₀.heap.objs.size
  noex:∀ b o,X.base.get? b=some o→b∉X.ex
  exfs:∀ b∈X.ex,b∉X.fs
  funs:X.s₀.heap.FunFrames X.base X.outer
  frf:∀ b∈X.fs,X.H₀ b=none

structure Inv (X:Cx) (pins:List (Addr × Obj)) (σ:List (Option V)) (H:Hp) (s:Shared):Prop where
  ok:X.Ok
  os:s.os=X.s₀.os
  bare:AllBare s.gens
  base:Un X.fs X.ex X.H₀ H X.s₀.heap s.heap
  loc:∃ m,s.heap.Ns X.env.locals m∧∀ (i:Nat) (x:Str) (v:V),X.N[i]? = some x→σ[i]? = some (some v)→Vis X.env.scope x→∃ u,RelV v u∧Look X.env s.heap m x u
  cell:∀ x c,X.env.cells.lookup x=some c→∃ v,s.heap.IsCell c v
  free:H X.env.locals=none
  freeC:∀ x c,X.env.cells.lookup x=some c→H c=none
  pin:∀ p∈X.pn++pins,s.heap.get? p.1=some p.2∧H p.1=none∧p.1≠X.env.locals∧p.1∉X.fs∧∀ v,p.2.data≠.cell v
  hok:HOk X.prog X.w H s.heap
  len:σ.length=X.N.length

section
variable {X:Cx} {pins:List (Addr × Obj)} {σ:List (Option V)} {H H':Hp} {s:Shared} {h':Heap}

theorem Cx.Ok.nofr (ok:X.Ok) {b:Addr} {o:Obj} (e:X.base.get? b=some o):b∉X.fs:=fun hb=>by
  have:=(ok.funs.mem hb).1
  rw [e] at this; cases this
theorem Inv.bs (I:Inv X pins σ H s):∀ b o,X.base.get? b=some o→s.heap.get? b=some o∧H b=none:=fun b o e =>
  ⟨I.base.keep b o (I.ok.bs b o e).1 (I.ok.bs b o e).2 (I.ok.nofr e) (I.ok.noex b o e),I.base.free b o (I.ok.bs b o e).1 (I.ok.bs b o e).2 (I.ok.noex b o e)⟩
theorem Inv.bk (I:Inv X pins σ H s):∀ b o,X.base.get? b=some o→s.heap.get? b=some o:=fun b o e=>(I.bs b o e).1
theorem Inv.mod (I:Inv X pins σ H s):Mod X.K X.mg X.base:=I.ok.mod
theorem Inv.kIn (I:Inv X pins σ H s):X.K.In s.heap:=I.ok.mod.kin.keeps I.bk
theorem Inv.lt (I:Inv X pins σ H s):X.env.locals < s.heap.objs.size:=let ⟨_,hn,_⟩:=I.loc; hn.lt
theorem Inv.sz (I:Inv X pins σ H s):X.s₀.heap.objs.size≤s.heap.objs.size:=Nat.le_trans I.ok.above (Nat.le_of_lt I.lt)
theorem Inv.nofs (I:Inv X pins σ H s) {a:Addr} (h:s.heap.objs.size≤a):a∉X.fs:=fun hb=>by
  obtain ⟨_,o,ho,_⟩:=I.ok.funs.mem hb
  exact absurd (Nat.lt_of_lt_of_le (Heap.lt_size ho) (Nat.le_trans I.sz h)) (Nat.lt_irrefl _)
theorem Inv.cne (I:Inv X pins σ H s):∀ x c,X.env.cells.lookup x=some c→c≠X.env.locals:=fun x c e z=>by
  obtain ⟨v,o,ho,hd⟩:=I.cell x c e
  obtain ⟨m,⟨o',es,ep,ho',hd',_⟩,_⟩:=I.loc
  rw [z,ho'] at ho; cases ho; rw [hd'] at hd; cases hd
theorem Inv.funs (I:Inv X pins σ H s):s.heap.FunFrames X.base X.outer:=by
  have all:∀ (l:List Env),(∀ b∈frs l,b∈X.fs)→X.s₀.heap.FunFrames X.base l→s.heap.FunFrames X.base l:=by
    intro l
    induction l with
    | nil=>intro _ _; trivial
    | cons env r ih =>
      intro hs hl
      obtain ⟨hk,⟨L,o,hf,hn,ho,hd⟩,hr⟩:=hl
      have hL:L∈X.fs:=hs L (by unfold frs; rw [List.filterMap_cons,hf]; exact List.mem_cons_self)
      obtain ⟨sl,e⟩:=I.base.slot L o ho (I.ok.frf L hL) hL fun z=>I.ok.exfs L z hL
      exact ⟨hk,⟨L,_,hf,hn,e,hd⟩,ih (fun b hb=>hs b (by unfold frs; rw [List.filterMap_cons,hf]; exact List.mem_cons_of_mem _ hb)) hr⟩
  exact all X.outer (fun _ hb=>hb) I.ok.funs


theorem Inv.stack (I:Inv X pins σ H s):s.heap.FunFrames X.base X.stack:=by
  rcases I.ok.stk with e | ⟨e,hf⟩
  · rw [e]; exact I.funs
  · rw [e]
    obtain ⟨m,hn,_⟩:=I.loc
    refine .cons (by rw [I.ok.kind]; decide) hf hn ?_ I.funs
    exact Heap.get?_none_of_le (Nat.le_trans I.ok.bsz I.ok.above)
theorem Inv.stkSub (I:Inv X pins σ H s):∀ b∈frs X.stack,b∈X.env.locals::X.fs:=fun b hb=>by
  rcases I.ok.stk with e | ⟨e,hf⟩
  · rw [e] at hb; exact List.mem_cons_of_mem _ hb
  · rw [e] at hb
    unfold frs at hb
    rw [List.filterMap_cons,hf] at hb
    exact hb
theorem Inv.stkFree (I:Inv X pins σ H s):∀ b∈frs X.stack,H b=none:=fun b hb=>by
  rcases List.mem_cons.mp (I.stkSub b hb) with e | hb
  · rw [e]; exact I.free
  · obtain ⟨_,o,ho,_⟩:=I.ok.funs.mem hb
    exact I.base.free b o ho (I.ok.frf b hb) fun z=>I.ok.exfs b z hb


theorem Inv.step {g':Array GenState} {t':Nat} {d':Drawn} {ch:List Addr} (I:Inv X pins σ H s)
    (hch:∀ b∈ch,(b∈X.ex∨X.s₀.heap.objs.size≤b)∧b≠X.env.locals∧(∀ x c,X.env.cells.lookup x=some c→c≠b)∧∀ p∈X.pn++pins,p.1≠b)
    (keep:∀ b o,b≠X.env.locals→b∉X.fs→b∉ch→s.heap.get? b=some o→H b=none→h'.get? b=some o)
    (slot:∀ b o,b≠X.env.locals→b∈X.fs→b∉ch→s.heap.get? b=some o→H b=none→∃ sl,h'.get? b=some { o with slots:=sl }) (free:∀ b o,b∉ch→s.heap.get? b=some o→H b=none→H' b=none)
    (there:∀ b o,b∉ch→s.heap.get? b=some o→∃ o',h'.get? b=some o')
    (tups:∀ b xs,H b=some (.tup xs)→H' b=some (.tup xs)) (frzs:∀ b o u,H b=some (.frz o u)→H' b=some (.frz o u)) (tbls:∀ b ps,H b=some (.tbl ps)→∃ more,H' b=some (.tbl (ps++more)))
    (ns:∀ m,s.heap.Ns X.env.locals m→h'.Ns X.env.locals m) (hok:HOk X.prog X.w H' h') (hg:AllBare g') :
    Inv X pins σ H' { s with heap:=h',gens:=g',drawn:=d',toks:=t' }:=by
  have neL:∀ b o,X.s₀.heap.get? b=some o→b≠X.env.locals:=fun b o e=>Nat.ne_of_lt (Nat.lt_of_lt_of_le (Heap.lt_size e) I.ok.above)
  have neC:∀ b o,X.s₀.heap.get? b=some o→b∉X.ex→b∉ch:=fun b o e hx hb=>by
    rcases (hch b hb).1 with z | z
    · exact hx z
    · exact absurd (Nat.lt_of_lt_of_le (Heap.lt_size e) z) (Nat.lt_irrefl _)
  have cellK:∀ x c,X.env.cells.lookup x=some c→∀ v,s.heap.IsCell c v→h'.IsCell c v:=fun x c e v ⟨o,ho,hd⟩=>by
    have nch:c∉ch:=fun z=>(hch c z).2.2.1 x c e rfl
    by_cases hc:c∈X.fs
    · obtain ⟨sl,q⟩:=slot c o (I.cne x c e) hc nch ho (I.freeC x c e)
      exact ⟨_,q,hd⟩
    · exact ⟨o,keep c o (I.cne x c e) hc nch ho (I.freeC x c e),hd⟩
  refine ⟨I.ok,I.os,hg,⟨fun b o e n hb hx => ?_,fun b o e n hb hx => ?_,fun b o e n hx => ?_,fun b o e hx => ?_,fun b xs e=>tups b xs (I.base.tups b xs e),fun b o xs e=>frzs b o xs (I.base.frzs b o xs e),fun b ps e => ?_⟩,?_,fun x c e => ?_,?_,fun x c e => ?_,fun p hp => ?_,hok,I.len⟩
  · exact keep b o (neL b o e) hb (neC b o e hx) (I.base.keep b o e n hb hx) (I.base.free b o e n hx)
  · obtain ⟨sl,e1⟩:=I.base.slot b o e n hb hx
    obtain ⟨sl',e2⟩:=slot b _ (neL b o e) hb (neC b o e hx) e1 (I.base.free b o e n hx)
    exact ⟨sl',e2⟩
  · obtain ⟨o',e1⟩:=I.base.there b o e hx
    exact free b o' (neC b o e hx) e1 (I.base.free b o e n hx)
  · obtain ⟨o',e1⟩:=I.base.there b o e hx
    exact there b o' (neC b o e hx) e1
  · obtain ⟨m1,e1⟩:=I.base.tbls b ps e
    obtain ⟨m2,e2⟩:=tbls b _ e1
    exact ⟨m1++m2,by rw [e2,Array.append_assoc]⟩
  · obtain ⟨m,hn,hl⟩:=I.loc
    refine ⟨m,ns m hn,fun i x v e1 e2 e3 => ?_⟩
    obtain ⟨u,r,l⟩:=hl i x v e1 e2 e3
    refine ⟨u,r,?_⟩
    rcases l with l | ⟨k,c,e,z⟩
    · exact .inl l
    · exact .inr ⟨k,c,e,cellK x c e _ z⟩
  · obtain ⟨v,z⟩:=I.cell x c e
    exact ⟨v,cellK x c e v z⟩
  · obtain ⟨m,⟨o,_,_,ho,_⟩,_⟩:=I.loc
    exact free _ o (fun z=>(hch _ z).2.1 rfl) ho I.free
  · obtain ⟨v,o,ho,hd⟩:=I.cell x c e
    exact free c o (fun z=>(hch c z).2.2.1 x c e rfl) ho (I.freeC x c e)
  · obtain ⟨e,n,ne,nf,d⟩:=I.pin p hp
    have nch:p.1∉ch:=fun z=>(hch p.1 z).2.2.2 p hp rfl
    exact ⟨keep p.1 p.2 ne nf nch e n,free p.1 p.2 nch e n,ne,nf,d⟩

theorem Inv.un {t':Nat} (I:Inv X pins σ H s) (u:Un X.fs [] H H' s.heap h') (hok:HOk X.prog X.w H' h'):Inv X pins σ H' { s with heap:=h',toks:=t' }:=by
  obtain ⟨m,⟨o,es,ep,ho,r⟩,_⟩:=id I.loc
  obtain ⟨sl,hL⟩:=u.any ho I.free (by simp)
  exact I.step (g':=s.gens) (d':=s.drawn) (ch:=[]) (fun _ z=>nomatch z) (fun b o _ hb _ e n=>u.keep b o e n hb (by simp)) (fun b o _ hb _ e n=>u.slot b o e n hb (by simp)) (fun b o _ e n=>u.free b o e n (by simp)) (fun b o _ e=>u.there b o e (by simp)) u.tups u.frzs u.tbls (fun m' hm=>by
    obtain ⟨o',es',ep',ho',r'⟩:=hm
    rw [ho] at ho'; cases ho'
    exact ⟨_,es',ep',hL,r'⟩) hok I.bare

theorem Inv.call {g':Array GenState} {t':Nat} {d':Drawn} {ch:List Addr} (I:Inv X pins σ H s) (u:Un (frs X.stack) ch H H' s.heap h') (hok:HOk X.prog X.w H' h') (hg:AllBare g')
    (hch:∀ b∈ch,(b∈X.ex∨X.s₀.heap.objs.size≤b)∧b≠X.env.locals∧(∀ x c,X.env.cells.lookup x=some c→c≠b)∧∀ p∈X.pn++pins,p.1≠b) :
    Inv X pins σ H' { s with heap:=h',gens:=g',drawn:=d',toks:=t' }:=by
  obtain ⟨m,⟨o,es,ep,ho,r⟩,_⟩:=id I.loc
  obtain ⟨sl,hL⟩:=u.any ho I.free fun z=>(hch _ z).2.1 rfl
  exact I.step (ch:=ch) hch (fun b o hL hb hc e n=>u.keep b o e n (fun z=>(List.mem_cons.mp (I.stkSub b z)).elim hL hb) hc) (fun b o _ _ hc e n=>u.any e n hc) (fun b o hc e n=>u.free b o e n hc) (fun b o hc e=>u.there b o e hc) u.tups u.frzs u.tbls (fun m' hm=>by
    obtain ⟨o',es',ep',ho',r'⟩:=hm
    rw [ho] at ho'; cases ho'
    exact ⟨_,es',ep',hL,r'⟩) hok hg

theorem Inv.turned {t':Nat} {it:Addr} (I:Inv X pins σ H s) (k:∀ b o,b≠it→s.heap.get? b=some o→h'.get? b=some o) (hn:H it=none) (hL:it≠X.env.locals)
    (h1:it∈X.ex∨X.s₀.heap.objs.size≤it) (h2:∀ x c,X.env.cells.lookup x=some c→c≠it) (h3:∀ p∈X.pn++pins,p.1≠it):Inv X pins σ H { s with heap:=h',toks:=t' }:=by
  have nit:∀ b u,H b=some u→b≠it:=fun b u e z=>by rw [z,hn] at e; cases e
  refine I.step (g':=s.gens) (d':=s.drawn) (ch:=[it]) (fun b hb => ?_) (fun b o _ _ hc e _=>k b o (fun z=>hc (by simp [z])) e) (fun b o _ _ hc e _=>⟨o.slots,k b o (fun z=>hc (by simp [z])) e⟩) (fun _ _ _ _ n=>n)
    (fun b o hc e=>⟨o,k b o (fun z=>hc (by simp [z])) e⟩) (fun _ _ e=>e) (fun _ _ _ e=>e) (fun b ps e=>⟨#[],by rw [e]; simp⟩) (fun m hm => ?_) (fun b u e => ?_) I.bare
  · have e:b=it:=by simpa using hb
    subst e
    exact ⟨h1,hL,h2,h3⟩
  · obtain ⟨o,es,ep,ho,r⟩:=hm
    exact ⟨o,es,ep,k _ o (Ne.symm hL) ho,r⟩
  · refine (I.hok b u e).stay (fun c v hc q=>k c v ?_ q) (fun _ q=>q) fun _ _ q=>q
    rcases hc with z | z
    · rw [z]; exact nit b u e
    · exact nit c _ z
theorem Inv.tok (I:Inv X pins σ H s) (t:Nat):Inv X pins σ H { s with toks:=t }:=I.un (h':=s.heap) (t':=t) Un.refl I.hok

theorem Inv.kept {t':Nat} (I:Inv X pins σ H s) (k:∀ b u,s.heap.get? b=some u→h'.get? b=some u):Inv X pins σ H { s with heap:=h',toks:=t' }:=I.un (Un.kept k) (I.hok.kept k)

theorem Inv.laid {a:Addr} {o:HO} {t':Nat} (I:Inv X pins σ H s) (k:∀ b u,s.heap.get? b=some u→h'.get? b=some u) (hp:s.heap.objs.size≤a) (new:ObjOk X.prog X.w (upd H a o) h' a o) :
    Inv X pins σ (upd H a o) { s with heap:=h',toks:=t' }:=I.un (Un.laid k hp (I.hok.fresh hp)) (I.hok.laid k hp new)

theorem Inv.write {x e:Addr} {o:HO} {t':Nat} (I:Inv X pins σ H s) (mu:Mut (H x)) (he:e=x∨H e=some (.own x)) (k:∀ b u,b≠e→s.heap.get? b=some u→h'.get? b=some u) (heo:∃ u,h'.get? e=some u)
    (new:ObjOk X.prog X.w (upd H x o) h' x o):Inv X pins σ (upd H x o) { s with heap:=h',toks:=t' }:=I.un (Un.write mu he k heo) (I.hok.write mu he k heo new)

theorem Inv.weak {σ':List (Option V)} (I:Inv X pins σ H s) (hl:σ'.length=σ.length) (w:∀ (i:Nat) v,σ'[i]? = some (some v)→σ[i]? = some (some v)):Inv X pins σ' H s :=
  ⟨I.ok,I.os,I.bare,I.base,let ⟨m,hn,hl'⟩:=I.loc; ⟨m,hn,fun i x v e1 e2 e3=>hl' i x v e1 (w i v e2) e3⟩,I.cell,I.free,I.freeC,I.pin,I.hok,hl.trans I.len⟩
theorem Inv.pins_of {pins':List (Addr × Obj)} (I:Inv X pins σ H s) (h:∀ p∈pins',s.heap.get? p.1=some p.2∧H p.1=none∧p.1≠X.env.locals∧p.1∉X.fs∧∀ v,p.2.data≠.cell v):Inv X pins' σ H s :=
  ⟨I.ok,I.os,I.bare,I.base,I.loc,I.cell,I.free,I.freeC,fun p hp=>(List.mem_append.mp hp).elim (fun z=>I.pin p (List.mem_append_left _ z)) (h p),I.hok,I.len⟩

theorem nodup_ix {N:List Str} (hN:N.Nodup) {i j:Nat} {x:Str} (a:N[i]? = some x) (b:N[j]? = some x):i=j:=by
  obtain ⟨h1,e1⟩:=List.getElem?_eq_some_iff.mp a
  obtain ⟨h2,e2⟩:=List.getElem?_eq_some_iff.mp b
  exact (List.getElem_inj hN).mp (e1.trans e2.symm)


theorem store_ok2 {M:Model} {A:Around} {E:Value→Shared→Prop} {i:Nat} {x:Str} {v:V} {u:Value} {Q:Unit→Shared→Prop} (I:Inv X pins σ H s) (hN:X.N.Nodup) (hi:X.N[i]? = some x) (hx:Loc X.env.scope x) (r:RelV v u)
    (h:∀ s',Inv X pins (σ.set i (some v)) H s'→(∃ a,Heap.SameBut a s.heap s'.heap∧(a=X.env.locals∨X.env.cells.lookup x=some a))→Q () s') (hf:X.fn x=true∨X.env.scope.names.lookup x=some .local:=by first | exact .inl rfl | exact .inr rfl | assumption):wpAny M A (storeName X.env x u) Q E s:=by
  obtain ⟨m,hn,hl⟩:=id I.loc
  have hcls:(X.env.scope.kind == .class || (X.env.scope.kind == .module && X.env.locals != X.env.globals))=false:=by rw [I.ok.kind]; rfl
  have hiσ:i < σ.length:=by rw [I.len]; exact (List.getElem?_eq_some_iff.mp hi).1
  have cne:=I.cne
  have tracked:∀ {a:Addr} {h':Heap},(∃ o,s.heap.get? a=some o∧H a=none)→Heap.SameBut a s.heap h'→HOk X.prog X.w H h':=fun {a h'} ha hs b ob e=>by
    obtain ⟨_,_,hfree⟩:=ha
    refine (I.hok b ob e).stay (fun c w' hc q=>(hs.2 c ?_).trans q) (fun _ q=>q) fun _ _ q=>q
    rintro rfl
    rcases hc with rfl | hc
    · rw [hfree] at e; cases e
    · rw [hfree] at hc; cases hc
  rcases hx with hk | hk
  · refine wpAny_storeName_local hk hn (fun h' hn' hs => ?_) hcls
    obtain ⟨oL,_,_,hoL,_⟩:=id hn
    refine h _ ⟨I.ok,I.os,I.bare,⟨fun b o e n hb hx => ?_,fun b o e n hb hx => ?_,I.base.free,fun b o e hx => ?_,I.base.tups,I.base.frzs,I.base.tbls⟩,⟨_,hn',fun j y v' e1 e2 e3 => ?_⟩,fun y c e => ?_,I.free,I.freeC,fun p hp => ?_,tracked ⟨oL,hoL,I.free⟩ hs,by simpa using I.len⟩ ⟨_,hs,.inl rfl⟩
    · exact (hs.2 b (Nat.ne_of_lt (Nat.lt_of_lt_of_le (Heap.lt_size e) I.ok.above))).trans (I.base.keep b o e n hb hx)
    · obtain ⟨sl,e1⟩:=I.base.slot b o e n hb hx
      exact ⟨sl,(hs.2 b (Nat.ne_of_lt (Nat.lt_of_lt_of_le (Heap.lt_size e) I.ok.above))).trans e1⟩
    · obtain ⟨o',e1⟩:=I.base.there b o e hx
      exact ⟨o',(hs.2 b (Nat.ne_of_lt (Nat.lt_of_lt_of_le (Heap.lt_size e) I.ok.above))).trans e1⟩
    · by_cases hj:j=i
      · subst hj
        rw [hi] at e1; cases e1
        rw [List.getElem?_set_self hiσ] at e2
        cases e2
        exact ⟨u,r,.inl ⟨hk,by simp⟩⟩
      · rw [List.getElem?_set_ne (Ne.symm hj)] at e2
        obtain ⟨u',r',q⟩:=hl j y v' e1 e2 e3
        refine ⟨u',r',?_⟩
        rcases q with ⟨k,e⟩ | ⟨k,c,e,z⟩
        · refine .inl ⟨k,?_⟩
          have:y≠x:=fun e=>hj (nodup_ix hN e1 (e▸hi))
          simp [this,e]
        · exact .inr ⟨k,c,e,z.sameBut hs (cne y c e)⟩
    · obtain ⟨w',z⟩:=I.cell y c e
      exact ⟨w',z.sameBut hs (cne y c e)⟩
    · obtain ⟨e,n,ne,nf,d⟩:=I.pin p hp
      exact ⟨(hs.2 p.1 ne).trans e,n,ne,nf,d⟩
  · have hfn:X.fn x=true:=by
      rcases hf with z | z
      · exact z
      · rw [z] at hk; cases hk
    obtain ⟨c,hc⟩:=I.ok.has x (.inl hk)
    obtain ⟨w',z⟩:=I.cell x c hc
    refine wpAny_storeName_cell I.ok.kind hk hc z (fun h' hc' hs => ?_)
    obtain ⟨oc,hoc,hocd⟩:=id z
    refine h { s with heap:=h' } ⟨I.ok,I.os,I.bare,⟨fun b o e n hb hx => ?_,fun b o e n hb hx => ?_,I.base.free,fun b o e hx => ?_,I.base.tups,I.base.frzs,I.base.tbls⟩,⟨m,hn.sameBut hs (Ne.symm (cne x c hc)),fun j y v' e1 e2 e3 => ?_⟩,fun y c' e => ?_,I.free,I.freeC,fun p hp => ?_,tracked ⟨oc,hoc,I.freeC x c hc⟩ hs,by simpa using I.len⟩ ⟨c,hs,.inr hc⟩
    · exact (hs.2 b (Nat.ne_of_lt (Nat.lt_of_lt_of_le (Heap.lt_size e) (I.ok.cab x c hfn hc)))).trans (I.base.keep b o e n hb hx)
    · obtain ⟨sl,e1⟩:=I.base.slot b o e n hb hx
      exact ⟨sl,(hs.2 b (Nat.ne_of_lt (Nat.lt_of_lt_of_le (Heap.lt_size e) (I.ok.cab x c hfn hc)))).trans e1⟩
    · obtain ⟨o',e1⟩:=I.base.there b o e hx
      exact ⟨o',(hs.2 b (Nat.ne_of_lt (Nat.lt_of_lt_of_le (Heap.lt_size e) (I.ok.cab x c hfn hc)))).trans e1⟩
    · by_cases hj:j=i
      · subst hj
        rw [hi] at e1; cases e1
        rw [List.getElem?_set_self hiσ] at e2
        cases e2
        exact ⟨u,r,.inr ⟨.inl hk,c,hc,hc'⟩⟩
      · rw [List.getElem?_set_ne (Ne.symm hj)] at e2
        obtain ⟨u',r',q⟩:=hl j y v' e1 e2 e3
        refine ⟨u',r',?_⟩
        rcases q with q | ⟨k,c',e,z'⟩
        · exact .inl q
        · refine .inr ⟨k,c',e,z'.sameBut hs ?_⟩
          rintro rfl
          exact hj (nodup_ix hN e1 (I.ok.inj _ _ _ e hc▸hi))
    · by_cases hcc:c'=c
      · subst hcc; exact ⟨_,hc'⟩
      · obtain ⟨w2,z2⟩:=I.cell y c' e
        exact ⟨w2,z2.sameBut hs hcc⟩
    · obtain ⟨e,n,ne,nf,d⟩:=I.pin p hp
      refine ⟨(hs.2 p.1 ?_).trans e,n,ne,nf,d⟩
      intro q
      rw [q,hoc] at e
      have q':oc=p.2:=Option.some.inj e
      exact d w' (by rw [← q']; exact hocd)
theorem store_ok {M:Model} {A:Around} {E:Value→Shared→Prop} {i:Nat} {x:Str} {v:V} {u:Value} {Q:Unit→Shared→Prop} (I:Inv X pins σ H s) (hN:X.N.Nodup) (hi:X.N[i]? = some x) (hx:Loc X.env.scope x) (r:RelV v u)
    (h:∀ s',Inv X pins (σ.set i (some v)) H s'→Q () s') (hf:X.fn x=true∨X.env.scope.names.lookup x=some .local:=by first | exact .inl rfl | exact .inr rfl | assumption):wpAny M A (storeName X.env x u) Q E s :=
  store_ok2 I hN hi hx r (fun s' I' _=>h s' I') hf

theorem Inv.call' {s':Shared} {ch:List Addr} (I:Inv X pins σ H s) (ho:s'.os=s.os) (u:Un (frs X.stack) ch H H' s.heap s'.heap) (hok:HOk X.prog X.w H' s'.heap) (hg:AllBare s'.gens)
    (hch:∀ b∈ch,(b∈X.ex∨X.s₀.heap.objs.size≤b)∧b≠X.env.locals∧(∀ x c,X.env.cells.lookup x=some c→c≠b)∧∀ p∈X.pn++pins,p.1≠b):Inv X pins σ H' s':=by
  obtain ⟨h',g',d',t',o'⟩:=s'
  have e:o'=s.os:=ho
  subst e
  exact I.call (g':=g') (t':=t') (d':=d') u hok hg hch
end



abbrev XK:=Value→Option Addr→Hp→Prop
abbrev St:=List (Option V)
abbrev VK:=V→Hp→Prop

abbrev TE:=St→Hp→VK→Prop
abbrev TT:=St→Hp→(Bool→Hp→Prop)→Prop
abbrev TA:=St→Hp→(List V→Hp→Prop)→Prop

structure Ends where
  nx:St→Hp→Prop
  rt:VK
  bk:St→Hp→Prop:=fun _ _=>False
  ct:St→Hp→Prop:=fun _ _=>False
abbrev TS:=Ends→St→Hp→Prop

def EP (X:Cx) (pins:List (Addr × Obj)) (σ:St) (Q:VK) (u:Value) (s':Shared):Prop:=∃ v H',Inv X pins σ H' s'∧RelV v u∧Q v H'
def TP (X:Cx) (pins:List (Addr × Obj)) (σ:St) (Q:Bool→Hp→Prop) (b:Bool) (s':Shared):Prop:=∃ H',Inv X pins σ H' s'∧Q b H'
def AP (X:Cx) (pins:List (Addr × Obj)) (σ:St) (Q:List V→Hp→Prop) (us:List Value) (s':Shared):Prop:=∃ vs H',Inv X pins σ H' s'∧Vals vs us∧Q vs H'
def SP (X:Cx) (pins:List (Addr × Obj)) (D:Ends) (f:Flow) (s':Shared):Prop :=
  match f with
  | .next=>∃ σ' H',Inv X pins σ' H' s'∧D.nx σ' H'
  | .brk=>∃ σ' H',Inv X pins σ' H' s'∧D.bk σ' H'
  | .cont=>∃ σ' H',Inv X pins σ' H' s'∧D.ct σ' H'
  | .ret u=>∃ v σ' H',Inv X pins σ' H' s'∧RelV v u∧D.rt v H'

def PE (X:Cx) (e:Expr) (t:TE):Prop :=
  ∀ (pins:List (Addr × Obj)) (s:Shared) (σ:St) (H:Hp) (Q:VK),Inv X pins σ H s→t σ H Q→wpAny (model X.prog X.w) X.A (eval e X.env) (EP X pins σ Q) X.xe s
def PT (X:Cx) (e:Expr) (t:TT):Prop :=
  ∀ (pins:List (Addr × Obj)) (s:Shared) (σ:St) (H:Hp) (Q:Bool→Hp→Prop),Inv X pins σ H s→t σ H Q→wpAny (model X.prog X.w) X.A (isTrue e X.env (eval e X.env)) (TP X pins σ Q) X.xe s

def PW (X:Cx) (e:Expr) (t:TT):Prop :=
  ∀ (whole:Sem Value) (pins:List (Addr × Obj)) (s:Shared) (σ:St) (H:Hp) (Q:Bool→Hp→Prop),Inv X pins σ H s→t σ H Q→wpAny (model X.prog X.w) X.A (isTrue e X.env whole) (TP X pins σ Q) X.xe s
theorem PW.pt {X:Cx} {e:Expr} {t:TT} (h:PW X e t):PT X e t:=h _

def PA (X:Cx) (es:List Expr) (t:TA):Prop :=
  ∀ (pos:Pos) (pins:List (Addr × Obj)) (s:Shared) (σ:St) (H:Hp) (Q:List V→Hp→Prop),Inv X pins σ H s→t σ H Q→wpAny (model X.prog X.w) X.A (spliced (backTo pos (starEach es X.env))) (AP X pins σ Q) X.xe s
def PS (X:Cx) (st:Stmt) (t:TS):Prop :=
  ∀ (pins:List (Addr × Obj)) (s:Shared) (σ:St) (H:Hp) (D:Ends),Inv X pins σ H s→t D σ H→wpAny (model X.prog X.w) X.A (exec st X.env) (SP X pins D) X.xe s
def PSs (X:Cx) (st:List Stmt) (t:TS):Prop :=
  ∀ (pins:List (Addr × Obj)) (s:Shared) (σ:St) (H:Hp) (D:Ends),Inv X pins σ H s→t D σ H→wpAny (model X.prog X.w) X.A (execs st X.env) (SP X pins D) X.xe s

theorem thn {α:Type} {t:Sem α} {Q Q':α→Shared→Prop} {M:Model} {A:Around} {E:Value→Shared→Prop} {s:Shared} (h:wpAny M A t Q E s) (hQ:∀ a s,Q a s→Q' a s):wpAny M A t Q' E s:=wpAny_mono h hQ fun _ _ x=>x
end L2

namespace L2
open PySem PySem.Spec PyProof.Rows
section
variable {X:Cx}


def tVar (i:Nat):TE:=fun σ H Q=>∃ v,σ[i]? = some (some v)∧Q v H
def tC (v:V):TE:=fun _ H Q=>Q v H
theorem pe_var {i:Nat} {x:Str} {pos:Pos} (hN:X.N[i]? = some x) (hv:Vis X.env.scope x) (hd:(x == ("__debug__" : Str))=false:=by decide) (hcd:(x == ("__classdict__" : Str))=false:=by decide):PE X (.Name x pos) (tVar i):=by
  intro pins s σ H Q I h
  obtain ⟨v,e,h⟩:=h
  obtain ⟨m,hn,hl⟩:=I.loc
  obtain ⟨u,r,l⟩:=hl i x v hN e hv
  have fin:EP X pins σ Q u s:=⟨v,H,I,r,h⟩
  rcases l with ⟨hk,hm⟩ | ⟨hk,c,hc,hcell⟩
  · exact wpAny_Name (wpAny_loadName_local I.ok.kind hk hn hm fin) hd
  · rcases hk with hk | hk
    · exact wpAny_Name (wpAny_loadName_cell I.ok.kind hk hc hcell fin) hd
    · exact wpAny_Name (wpAny_loadName_free I.ok.kind hk hc hcell fin hcd) hd
theorem pe_int {i j pos}:PE X (.Constant (.int i) j pos) (tC (.int i)):=fun _ _ _ H _ I h=>wpAny_Constant_int ⟨.int i,H,I.tok _,⟨_,rfl⟩,h⟩
theorem pe_bl {b j pos}:PE X (.Constant (.bool b) j pos) (tC (.bl b)):=fun _ _ _ H _ I h=>Constant_bool ⟨.bl b,H,I,rfl,h⟩
theorem pe_non {j pos}:PE X (.Constant .none j pos) (tC .non):=fun _ _ _ H _ I h=>Constant_none ⟨.non,H,I,rfl,h⟩
theorem pe_str {x j pos}:PE X (.Constant (.str x) j pos) (tC (.str x)):=fun _ _ _ H _ I h=>Calls.Constant_str ⟨.str x,H,I.tok _,⟨_,rfl⟩,h⟩


def Gl (X:Cx) (x:Str):Prop:=X.env.kindOf x=some .globalImplicit
theorem ld_glob {E:Value→Shared→Prop} {pins:List (Addr × Obj)} {s:Shared} {σ:St} {H:Hp} {x:Str} {u:Value} {pos:Pos} {Q:Value→Shared→Prop} (I:Inv X pins σ H s) (hg:Gl X x) (hm:X.mg x=some u) (h:Q u s)
    (hd:(x == ("__debug__" : Str))=false:=by decide):wpAny (model X.prog X.w) X.A (eval (.Name x pos) X.env) Q E s :=
  Calls.Name_function_global I.ok.kind hg (Calls.loadGlobal_global (by rw [I.ok.glob]; exact I.mod.glob.keeps I.bk) hm h) hd
theorem ld_blt {E:Value→Shared→Prop} {pins:List (Addr × Obj)} {s:Shared} {σ:St} {H:Hp} {x:Str} {u:Value} {pos:Pos} {Q:Value→Shared→Prop} (I:Inv X pins σ H s) (hg:Gl X x) (hm:X.mg x=none) (hv:bootBuiltins x=some u) (h:Q u s)
    (hn:x ≠ "__name__" := by decide) (hd:(x == ("__debug__" : Str))=false:=by decide):wpAny (model X.prog X.w) X.A (eval (.Name x pos) X.env) Q E s:=by
  obtain ⟨mb,h1,h2⟩:=I.mod.blt
  exact Calls.Name_function_global I.ok.kind hg (Calls.loadGlobal_builtin (by rw [I.ok.glob]; exact I.mod.glob.keeps I.bk) hm (by rw [I.ok.blt]; exact h1.keeps I.bk) ((h2 x hn).trans hv) h) hd

theorem pe_glob {x:Str} {v:V} {u:Value} {pos:Pos} (hg:Gl X x) (hm:X.mg x=some u) (r:RelV v u) (hd:(x == ("__debug__" : Str))=false:=by decide):PE X (.Name x pos) (tC v) :=
  fun _ _ _ H _ I h=>ld_glob I hg hm ⟨v,H,I,r,h⟩ hd
theorem pe_bltn {x:Str} {v:V} {u:Value} {pos:Pos} (hg:Gl X x) (hm:X.mg x=none) (hv:bootBuiltins x=some u) (r:RelV v u) (hn:x ≠ "__name__" := by decide) (hd:(x == ("__debug__" : Str))=false:=by decide):PE X (.Name x pos) (tC v) :=
  fun _ _ _ H _ I h=>ld_blt I hg hm hv ⟨v,H,I,r,h⟩ hn hd



variable {a b:Expr} {ta tb:TE} {pos:Pos}
def tB (t:TE):TT:=fun σ H Q=>t σ H fun x H1=>∃ c,x=.bl c∧Q c H1
theorem pt_val {e:Expr} {t:TE} (h:PE X e t) (he:∀ whole,isTrue e X.env whole=(do let v ← whole; standAt e.pos; holding [v] (truthy v)):=by intro _; rfl):PT X e (tB t):=by
  intro pins s σ H Q I hw
  refine isTrue_plain (thn (h pins s σ H _ I hw) fun v s1 ⟨x,H1,I1,r1,q1⟩ => ?_) (he _)
  obtain ⟨d,rfl,q⟩:=q1
  cases r1
  exact wpAny_truthy_bool ⟨H1,I1,q⟩


variable {tA tB':TT} {rest:List Expr}
def tAnd (t u:TT):TT:=fun σ H Q=>t σ H fun c H1=>if c=true then u σ H1 Q else Q false H1
def tOr (t u:TT):TT:=fun σ H Q=>t σ H fun c H1=>if c=true then Q true H1 else u σ H1 Q
def tNot (t:TT):TT:=fun σ H Q=>t σ H fun c H1=>Q (!c) H1
theorem pw_and1 (ha:PT X a tA):PW X (.BoolOp .And [a] pos) tA:=by
  intro wh pins s σ H Q I h
  refine isTrue_and (thn (ha pins s σ H Q I h) fun c s1 e => ?_)
  cases c with
  | true=>exact isTrue_and_nil e
  | false=>exact e
theorem pw_or1 (ha:PT X a tA):PW X (.BoolOp .Or [a] pos) tA:=by
  intro wh pins s σ H Q I h
  refine isTrue_or (thn (ha pins s σ H Q I h) fun c s1 e => ?_)
  cases c with
  | false=>exact isTrue_or_nil e
  | true=>exact e
theorem pw_and (ha:PT X a tA) (hb:PW X (.BoolOp .And (b::rest) pos) tB'):PW X (.BoolOp .And (a::b::rest) pos) (tAnd tA tB'):=by
  intro wh pins s σ H Q I h
  refine isTrue_and (thn (ha pins s σ H _ I h) fun c s1 ⟨H1,I1,q1⟩ => ?_)
  cases c with
  | true=>exact hb wh pins s1 σ H1 Q I1 q1
  | false=>exact ⟨H1,I1,q1⟩
theorem pw_or (ha:PT X a tA) (hb:PW X (.BoolOp .Or (b::rest) pos) tB'):PW X (.BoolOp .Or (a::b::rest) pos) (tOr tA tB'):=by
  intro wh pins s σ H Q I h
  refine isTrue_or (thn (ha pins s σ H _ I h) fun c s1 ⟨H1,I1,q1⟩ => ?_)
  cases c with
  | true=>exact ⟨H1,I1,q1⟩
  | false=>exact hb wh pins s1 σ H1 Q I1 q1
theorem pt_not (ha:PT X a tA):PT X (.UnaryOp .Not a pos) (tNot tA):=by
  intro pins s σ H Q I h
  exact isTrue_not (ha pins s σ H (fun c H1=>Q (!c) H1) I h)

def tNotV (ta:TE):TE:=fun σ H Q=>ta σ H fun x H1=>∃ c,x=.bl c∧Q (.bl (!c)) H1
theorem pe_not (ha:PE X a ta):PE X (.UnaryOp .Not a pos) (tNotV ta):=by
  intro pins s σ H Q I h
  refine UnaryOp_ (thn (ha pins s σ H _ I h) fun v s1 ⟨x,H1,I1,r1,q1⟩ => ?_)
  obtain ⟨c,rfl,q1⟩:=q1
  cases r1
  exact not_of (wpAny_truthy_bool ⟨.bl (!c),H1,I1,rfl,q1⟩)

end
end L2

namespace L2
open PySem PySem.Spec PyProof.Rows


def SqL (K:PySem.W.Frag) (H:Hp) (a:Addr) (xs:List V):Prop :=
  Rd H a (.lst xs) ∨
    ∃ (o:Obj) (its:Array Value) (n:Nat),K.lookup a=some o∧o.cls=.type "list" ∧ o.dict=none∧o.data=.seq its n∧its.size≤sizeLine∧Vals xs its.toList
def SqT (K:PySem.W.Frag) (H:Hp) (a:Addr) (xs:List V):Prop :=
  Rd H a (.tup xs) ∨
    ∃ (o:Obj) (its:Array Value) (n:Nat),K.lookup a=some o∧o.cls=.type "tuple" ∧ o.data=.seq its n∧its.size≤sizeLine∧Vals xs its.toList
def absV:Value→Option V
  | .none=>some .non
  | .bool b=>some (.bl b)
  | .int i _=>some (.int i)
  | .str x _=>some (.str x)
  | .bytes b _=>some (.byt b)
  | .float b _=>some (.flt b)
  | .ref a=>some (.ref a)
  | .type n=>some (.ty n)
  | _=>none
theorem RelV.abs {x:V} {u:Value} (r:RelV x u):absV u=some x:=by
  cases x with
  | non=>cases r; rfl
  | bl _=>cases r; rfl
  | int _=>obtain ⟨t,rfl⟩:=r; rfl
  | str _=>obtain ⟨t,rfl⟩:=r; rfl
  | byt _=>obtain ⟨t,rfl⟩:=r; rfl
  | flt _=>obtain ⟨t,rfl⟩:=r; rfl
  | ref _=>cases r; rfl
  | ty _=>cases r; rfl
theorem RelV.inj {x y:V} {u:Value} (r:RelV x u) (q:RelV y u):x=y:=Option.some.inj (r.abs.symm.trans q.abs)
theorem Vals.inj:∀ {xs ys:List V} {us:List Value},Vals xs us→Vals ys us→xs=ys
  | _,_,_,.nil,.nil=>rfl
  | _,_,_,.cons r t,.cons r' t'=>by rw [r.inj r',Vals.inj t t']
section
variable {X:Cx} {pins:List (Addr × Obj)} {σ:St} {H:Hp} {s:Shared} {a:Addr} {xs ys:List V}
theorem SqL.of {K:PySem.W.Frag} (h:H a=some (.lst xs)):SqL K H a xs:=.inl (.inl h)
theorem SqT.of {K:PySem.W.Frag} (h:H a=some (.tup xs)):SqT K H a xs:=.inl (.inl h)
theorem Inv.list (I:Inv X pins σ H s) (h:SqL X.K H a xs):∃ its:List Value,Vals xs its∧PlainL s.heap a its.toArray∧xs.length≤sizeLine:=by
  rcases h with h | ⟨o,its,n,hk,hc,hd,hs,hz,r⟩
  · obtain ⟨z,its,n,r,e⟩:=h.ok I.hok
    exact ⟨its,r,⟨_,n,e,rfl,rfl,rfl⟩,z⟩
  · refine ⟨its.toList,r,⟨o,n,I.kIn a o hk,hc,hd,by simpa using hs⟩,?_⟩
    have e:=r.length
    simp only [Array.length_toList] at e
    omega
theorem Inv.tuple (I:Inv X pins σ H s) (h:SqT X.K H a xs):∃ its:List Value,Vals xs its∧IsTup s.heap a its.toArray∧xs.length≤sizeLine:=by
  rcases h with h | ⟨o,its,n,hk,hc,hs,hz,r⟩
  · obtain ⟨z,its,r,p⟩:=h.ok I.hok
    exact ⟨its,r,p,z⟩
  · refine ⟨its.toList,r,⟨o,I.kIn a o hk,hc,n,by simpa using hs⟩,?_⟩
    have e:=r.length
    simp only [Array.length_toList] at e
    omega
theorem Inv.list_inj (I:Inv X pins σ H s) (h:SqL X.K H a xs) (h':SqL X.K H a ys):xs=ys:=by
  obtain ⟨its,r,⟨o,n,e,_,_,d⟩,_⟩:=I.list h
  obtain ⟨its',r',⟨o',n',e',_,_,d'⟩,_⟩:=I.list h'
  rw [e] at e'; cases e'
  rw [d] at d'
  injection d' with d1 _
  have:its=its':=by simpa using congrArg Array.toList d1
  subst this
  exact r.inj r'
theorem Inv.tuple_inj (I:Inv X pins σ H s) (h:SqT X.K H a xs) (h':SqT X.K H a ys):xs=ys:=by
  obtain ⟨its,r,⟨o,e,_,n,d⟩,_⟩:=I.tuple h
  obtain ⟨its',r',⟨o',e',_,n',d'⟩,_⟩:=I.tuple h'
  rw [e] at e'; cases e'
  rw [d] at d'
  injection d' with d1 _
  have:its=its':=by simpa using congrArg Array.toList d1
  subst this
  exact r.inj r'
end


abbrev Cx.wish (X:Cx) (E:Value→Shared→Prop):Cx:={ X with xe:=E }

abbrev Cx.nox (X:Cx):Cx:=X.wish fun _ _=>False
theorem Cx.Ok.wish {X:Cx} (ok:X.Ok) (E:Value→Shared→Prop):(X.wish E).Ok :=
  ⟨ok.mod,ok.kind,ok.glob,ok.blt,ok.above,ok.inj,ok.has,ok.cab,ok.hd,ok.frames,ok.stk,ok.exf,ok.bs,ok.bsz,ok.noex,ok.exfs,ok.funs,ok.frf⟩
theorem Cx.Ok.unwish {X:Cx} {E:Value→Shared→Prop} (ok:(X.wish E).Ok):X.Ok :=
  ⟨ok.mod,ok.kind,ok.glob,ok.blt,ok.above,ok.inj,ok.has,ok.cab,ok.hd,ok.frames,ok.stk,ok.exf,ok.bs,ok.bsz,ok.noex,ok.exfs,ok.funs,ok.frf⟩
section
variable {X:Cx} {pins:List (Addr × Obj)} {σ:St} {H:Hp} {s:Shared} {E:Value→Shared→Prop}
theorem Inv.wish (I:Inv X pins σ H s) (E:Value→Shared→Prop):Inv (X.wish E) pins σ H s:=⟨I.ok.wish E,I.os,I.bare,I.base,I.loc,I.cell,I.free,I.freeC,I.pin,I.hok,I.len⟩
theorem Inv.unwish (I:Inv (X.wish E) pins σ H s):Inv X pins σ H s:=⟨I.ok.unwish,I.os,I.bare,I.base,I.loc,I.cell,I.free,I.freeC,I.pin,I.hok,I.len⟩
theorem SP.unwish {D:Ends} {f:Flow} {s':Shared} (h:SP (X.wish E) pins D f s'):SP X pins D f s':=by
  cases f with
  | next=>obtain ⟨σ',H',I,q⟩:=h; exact ⟨σ',H',I.unwish,q⟩
  | brk=>obtain ⟨σ',H',I,q⟩:=h; exact ⟨σ',H',I.unwish,q⟩
  | cont=>obtain ⟨σ',H',I,q⟩:=h; exact ⟨σ',H',I.unwish,q⟩
  | ret u=>obtain ⟨v,σ',H',I,r,q⟩:=h; exact ⟨v,σ',H',I.unwish,r,q⟩
theorem PSs.nox {st:List Stmt} {t:TS} (h:PSs X.nox st t):PSs X st t:=fun pins s σ H D I hw =>
  wpAny_mono (h pins s σ H D (I.wish _) hw) (fun _ _ q=>q.unwish) fun _ _ z=>False.elim z
end


section
variable {X:Cx} {st:Stmt} {rest:List Stmt} {t u:TS} {e:Expr} {te:TE} {pos:Pos}
def tNext:TS:=fun D σ H=>D.nx σ H
def tSeq (t u:TS):TS:=fun D σ H=>t { D with nx:=u D } σ H
theorem pss_nil:PSs X [] tNext:=fun _ _ σ H _ I h=>wpAny_execs_nil ⟨σ,H,I,h⟩
theorem pss_cons (h1:PS X st t) (h2:PSs X rest u):PSs X (st::rest) (tSeq t u):=by
  intro pins s σ H D I h
  refine wpAny_execs_cons (thn (h1 pins s σ H { D with nx:=u D } I h) fun f s1 q => ?_)
  cases f with
  | next =>
    obtain ⟨σ',H',I',q⟩:=q
    exact h2 pins s1 σ' H' D I' q
  | ret v=>exact q
  | brk=>exact q
  | cont=>exact q
theorem pss_one (h1:PS X st t):PSs X [st] t:=by
  intro pins s σ H D I h
  refine wpAny_execs_cons (thn (h1 pins s σ H D I h) fun f s1 q => ?_)
  cases f with
  | next=>exact wpAny_execs_nil q
  | ret v=>exact q
  | brk=>exact q
  | cont=>exact q
theorem Inv.quiet {pins:List (Addr × Obj)} {σ:St} {H:Hp} {s:Shared} (I:Inv X pins σ H s):interactive X.env=false:=by simp [interactive,I.ok.kind]

def tDrop (te:TE):TS:=fun D σ H=>te σ H fun _ H1=>D.nx σ H1
theorem ps_expr (he:PE X e te) (hs:swapsWith e none pos.line X.env=pure false:=by rfl):PS X (.Expr e pos) (tDrop te):=by
  intro pins s σ H D I h
  exact wpAny_Expr_any (thn (he pins s σ H _ I h) fun v s1 ⟨x,H1,I1,r1,q1⟩=>⟨σ,H1,I1,q1⟩) I.quiet hs
def tRet (te:TE):TS:=fun D σ H=>te σ H D.rt
theorem ps_ret (he:PE X e te):PS X (.Return (some e) pos) (tRet te):=by
  intro pins s σ H D I h
  exact wpAny_Return_some (thn (he pins s σ H _ I h) fun v s1 ⟨x,H1,I1,r1,q1⟩=>⟨x,σ,H1,I1,r1,q1⟩)
def tIfS (c:TT) (t u:TS):TS:=fun D σ H=>c σ H fun b H1=>if b=true then t D σ H1 else u D σ H1
theorem ps_if {c:Expr} {a b:List Stmt} {tc:TT} (hc:PT X c tc) (ha:PSs X a t) (hb:PSs X b u):PS X (.If c a b pos) (tIfS tc t u):=by
  intro pins s σ H D I h
  refine wpAny_If (thn (hc pins s σ H _ I h) fun d s1 ⟨H1,I1,q1⟩ => ?_)
  cases d with
  | true=>exact ha pins s1 σ H1 D I1 q1
  | false=>exact hb pins s1 σ H1 D I1 q1

def tNever:TS:=fun _ _ _=>False
theorem ps_never:PS X st tNever:=fun _ _ _ _ _ _ h=>h.elim
end


abbrev TG:=V→St→Hp→(St→Hp→Prop)→Prop
abbrev TGs:=List V→St→Hp→(St→Hp→Prop)→Prop
def PG (X:Cx) (target:Expr) (t:TG):Prop :=
  ∀ (pins:List (Addr × Obj)) (s:Shared) (σ:St) (H:Hp) (v:V) (u:Value) (Q:St→Hp→Prop),Inv X pins σ H s→RelV v u→t v σ H Q →
    wpAny (model X.prog X.w) X.A (assign target X.env u) (fun _ s'=>∃ σ' H',Inv X pins σ' H' s'∧Q σ' H') X.xe s

def PGs (X:Cx) (ts:List Expr) (t:TGs):Prop :=
  ∀ (pins:List (Addr × Obj)) (s:Shared) (σ:St) (H:Hp) (vs:List V) (us:List Value) (Q:St→Hp→Prop),Inv X pins σ H s→Vals vs us→t vs σ H Q →
    wpAny (model X.prog X.w) X.A (assignInOrder ((assignEach ts X.env).map (·.2)) us) (fun _ s'=>∃ σ' H',Inv X pins σ' H' s'∧Q σ' H') X.xe s

abbrev TSet:=V→V→V→Hp→(Hp→Prop)→Prop
def PSet (X:Cx) (t:TSet):Prop :=
  ∀ (pins:List (Addr × Obj)) (s:Shared) (σ:St) (H:Hp) (o i v:V) (ov iv u:Value) (Q:Hp→Prop),Inv X pins σ H s→RelV o ov→RelV i iv→RelV v u→t o i v H Q →
    wpAny (model X.prog X.w) X.A (setItem ov iv u) (fun _ s'=>∃ H',Inv X pins σ H' s'∧Q H') X.xe s

section
variable {X:Cx} {pos:Pos}
def gName (i:Nat):TG:=fun v σ H Q=>Q (σ.set i (some v)) H
theorem pg_name {i:Nat} {x:Str} (hN:X.N.Nodup) (hi:X.N[i]? = some x) (hx:Loc X.env.scope x) (hf:X.fn x=true∨X.env.scope.names.lookup x=some .local:=by first | exact .inl rfl | exact .inr rfl | assumption):PG X (.Name x pos) (gName i):=by
  intro pins s σ H v u Q I r h
  exact wpAny_assign_Name (store_ok I hN hi hx r (fun s' I'=>⟨_,H,I',h⟩) hf)
def gNil:TGs:=fun vs σ H Q=>vs=[]∧Q σ H
def gCons (t:TG) (u:TGs):TGs:=fun vs σ H Q=>∃ v r,vs=v::r∧t v σ H fun σ' H'=>u r σ' H' Q
theorem pgs_nil:PGs X [] gNil:=by
  intro pins s σ H vs us Q I r h
  obtain ⟨e,h⟩:=h
  subst e
  cases r
  exact assignInOrder_nil ⟨σ,H,I,h⟩
theorem pgs_cons {e:Expr} {es:List Expr} {t:TG} {u:TGs} (h1:PG X e t) (h2:PGs X es u)
    (hs:(assignEach (e::es) X.env).map (·.2)=assign e X.env::(assignEach es X.env).map (·.2):=by rfl):PGs X (e::es) (gCons t u):=by
  intro pins s σ H vs us Q I r h
  obtain ⟨v,vr,e1,h⟩:=h
  subst e1
  cases r with
  | cons r rr =>
    rw [hs]
    refine assignInOrder_cons (thn (h1 pins s σ H _ _ _ I r h) fun _ s1 ⟨σ1,H1,I1,q1⟩ => ?_)
    exact h2 pins s1 σ1 H1 _ _ Q I1 rr q1

def gTup (K:PySem.W.Frag) (n:Nat) (t:TGs):TG:=fun v σ H Q=>∃ a xs,v=.ref a∧SqT K H a xs∧xs.length=n∧t xs σ H Q
theorem pg_tup {es:List Expr} {k:Nat} {t:TGs} {n:Nat} (hc:X.calm=true) (h:PGs X es t)
    (hn:(assignEach es X.env).length=n:=by rfl) (hst:(assignEach es X.env).findIdx? (·.1)=none:=by rfl):PG X (.Tuple es k pos) (gTup X.K n t):=by
  intro pins s σ H v u Q I r hw
  obtain ⟨a,xs,e1,hq,hl,hw⟩:=hw
  subst e1
  cases r
  obtain ⟨its,rv,ht,hz⟩:=I.tuple hq
  refine assign_Tuple_tuple (I.ok.hd hc) ht (by simp [hn,← hl,rv.length]) hst fun h' hx => ?_
  have I1:Inv X pins σ H { s with heap:=h' }:=I.kept (t':=s.toks) fun b o e=>hx b o (Nat.ne_of_lt (Heap.lt_size e)) e
  exact h pins _ σ H xs _ Q I1 (by simpa using rv) hw

def gSub (to ti:TE) (t:TSet):TG:=fun v σ H Q=>to σ H fun o H1=>ti σ H1 fun i H2=>t o i v H2 fun H3=>Q σ H3
theorem pg_sub {o i:Expr} {to ti:TE} {t:TSet} (ho:PE X o to) (hi:PE X i ti) (hs:PSet X t)
    (ha:∀ v,assign (.Subscript o i pos) X.env v=(do
      let ov ← holding [v] (eval o X.env)
      let iv ← holding [v,ov] (eval i X.env)
      standAt pos
      holding [v,ov,iv] (setItem ov iv v)
      release [v,ov,iv] []):=by intro _; rfl):PG X (.Subscript o i pos) (gSub to ti t):=by
  intro pins s σ H v u Q I r h
  rw [ha]
  refine wpAny_bind (wpAny_holding (thn (ho pins s σ H _ I h) fun ov s1 ⟨x,H1,I1,r1,q1⟩ => ?_))
  refine wpAny_bind (wpAny_holding (thn (hi pins s1 σ H1 _ I1 q1) fun iv s2 ⟨y,H2,I2,r2,q2⟩ => ?_))
  refine wpAny_bind (wpAny_standAt (wpAny_bind (wpAny_holding (thn (hs pins s2 σ H2 x y v ov iv u _ I2 r1 r2 r q2) fun _ s3 ⟨H3,I3,q3⟩ => ?_))))
  exact wpAny_release ⟨σ,H3,I3,q3⟩

def tAsg (te:TE) (g:TG):TS:=fun D σ H=>te σ H fun x H1=>g x σ H1 D.nx
theorem ps_asg {tg e:Expr} {te:TE} {g:TG} (he:PE X e te) (hg:PG X tg g) (hs:swapsWithSole [tg] e pos.line X.env=pure false:=by rfl) (hw:swappedStores [tg] e X.env=pure none:=by rfl)
    (h1:(assignEach [tg] X.env).map (·.2)=[assign tg X.env]:=by rfl):PS X (.Assign [tg] e pos) (tAsg te g):=by
  intro pins s σ H D I h
  refine wpAny_Assign_stores (thn (he pins s σ H _ I h) fun v s1 ⟨x,H1,I1,r1,q1⟩ => ?_) hs hw
  rw [h1]
  exact thn (hg pins s1 σ H1 x v _ I1 r1 q1) fun _ s2 q=>q

theorem ps_set {i:Nat} {x:Str} {e:Expr} {te:TE} {pos':Pos} (hN:X.N.Nodup) (hi:X.N[i]? = some x) (hx:Loc X.env.scope x) (he:PE X e te) (hs:swapsWith e (some (.Name x pos')) pos.line X.env=pure false:=by rfl) (hf:X.fn x=true∨X.env.scope.names.lookup x=some .local:=by first | exact .inl rfl | exact .inr rfl | assumption) :
    PS X (.Assign [.Name x pos'] e pos) (tAsg te (gName i)):=by
  intro pins s σ H D I h
  refine wpAny_Assign_Name (thn (he pins s σ H _ I h) fun v s1 ⟨y,H1,I1,r1,q1⟩ => ?_) hs
  exact store_ok I1 hN hi hx r1 (fun s2 I2=>⟨_,H1,I2,q1⟩) hf

end


section
variable {X:Cx} {pos:Pos}

end



structure It where
  go:Nat→Hp→Prop
  yld:Nat→Hp→V→Hp→Prop
  stop:Nat→Hp→Prop

def FpOk (X:Cx) (pins:List (Addr × Obj)) (H:Hp) (b:Addr):Prop :=
  H b=none∧b≠X.env.locals∧b∉X.fs∧(b∈X.ex∨X.s₀.heap.objs.size≤b)∧(∀ x c,X.env.cells.lookup x=some c→c≠b)∧∀ p∈X.pn++pins,p.1≠b
theorem Inv.fpOk {X:Cx} {pins:List (Addr × Obj)} {σ:St} {H H':Hp} {s:Shared} {b:Addr} (I:Inv X pins σ H s) (hb:s.heap.objs.size≤b) (hn:H' b=none):FpOk X pins H' b:=by
  refine ⟨hn,Nat.ne_of_gt (Nat.lt_of_lt_of_le I.lt hb),I.nofs hb,.inr (Nat.le_trans I.sz hb),fun x c e z => ?_,fun p hp z => ?_⟩
  · obtain ⟨v,q⟩:=I.cell x c e
    exact absurd (Nat.lt_of_lt_of_le q.lt (by rw [z]; exact hb)) (Nat.lt_irrefl _)
  · exact absurd (Nat.lt_of_lt_of_le (Heap.lt_size (I.pin p hp).1) (by rw [z]; exact hb)) (Nat.lt_irrefl _)
structure Turn (P:Program) (w:World) (K:PySem.W.Frag) (tg:Expr) (J:It) (fp:List Addr) (it:Addr) (tn:Nat→Heap→Prop):Prop where
  mem:it∈fp
  obj:∀ i h,tn i h→∀ b∈fp,∃ o,h.get? b=some o∧∀ v,o.data≠.cell v
  keep:∀ i h h',tn i h→(∀ b∈fp,∀ o,h.get? b=some o→h'.get? b=some o)→tn i h'
  item:∀ (X:Cx),X.prog=P→X.w=w→X.K=K→X.calm=true→∀ (i:Nat) (pins:List (Addr × Obj)) (s:Shared) (σ:St) (H:Hp) (E:Value→Shared→Prop),Inv X pins σ H s→(∀ b∈fp,FpOk X pins H b)→tn i s.heap→J.go i H →
    wpAny (model P w) X.A (pyNext (.ref it)) (fun r s1=>∃ u,r=some u ∧
      wpAny (model P w) X.A (letOwnedTupleGo tg (.ref it) u) (fun _ s2=>∃ x H',Inv X pins σ H' s2∧RelV x u∧J.yld i H x H'∧tn (i + 1) s2.heap∧∀ b∈fp,H' b=none) E s1) E s
  done:∀ (X:Cx),X.prog=P→X.w=w→X.K=K→X.calm=true→∀ (i:Nat) (pins:List (Addr × Obj)) (s:Shared) (σ:St) (H:Hp) (E:Value→Shared→Prop),Inv X pins σ H s→(∀ b∈fp,FpOk X pins H b)→tn i s.heap→J.stop i H →
    wpAny (model P w) X.A (pyNext (.ref it)) (fun r s1=>r=none∧Inv X pins σ H s1) E s
  self:∀ (A:Around) (i:Nat) (s:Shared) (Q:Value→Shared→Prop) (E:Value→Shared→Prop),tn i s.heap→Q (.ref it) s→wpAny (model P w) A (pyIter (.ref it)) Q E s
abbrev TI:=St→Hp→(It→Hp→Prop)→Prop

def PIE (X:Cx) (pins:List (Addr × Obj)) (σ:St) (tg:Expr) (R:It→Hp→Prop) (itv:Value) (s2:Shared):Prop :=
  ∃ (it:Addr) (fp:List Addr) (tn:Nat→Heap→Prop) (J:It) (H':Hp),itv=.ref it∧Inv X pins σ H' s2∧Turn X.prog X.w X.K tg J fp it tn∧tn 0 s2.heap∧(∀ b∈fp,FpOk X pins H' b)∧R J H'
def PI (X:Cx) (tg iter:Expr) (wi:TI):Prop :=
  ∀ (pins:List (Addr × Obj)) (s:Shared) (σ:St) (H:Hp) (R:It→Hp→Prop),Inv X pins σ H s→wi σ H R →
    wpAny (model X.prog X.w) X.A (eval iter X.env) (fun v s1=>wpAny (model X.prog X.w) X.A (pyIter v) (PIE X pins σ tg R) X.xe s1) X.xe s


theorem go_of {M:Model} {A:Around} {E:Value→Shared→Prop} {s:Shared} {tg:Expr} {it:Addr} {u:Value} {o:Obj} {n:String} {vs:Array Value} {Q:Unit→Shared→Prop} (ho:s.heap.get? it=some o) (hc:o.cls=.type n) (hd:o.data=.fields vs)
    (hn:["enumerate","zip","dict_itemiterator","dict_reverseitemiterator","odict_iterator","itertools.zip_longest","itertools.pairwise"].contains n=false) (hQ:Q () s):wpAny M A (letOwnedTupleGo tg (.ref it) u) Q E s:=by
  unfold letOwnedTupleGo
  cases tg <;> first
    | exact wpAny_pure hQ
    | (cases u <;> first
        | exact wpAny_pure hQ
        | (refine wpAny_bind (wpAny_load ho ?_)
           rw [hc,hd]
           show wpAny M A (if (["enumerate","zip","dict_itemiterator","dict_reverseitemiterator","odict_iterator","itertools.zip_longest","itertools.pairwise"].contains n && vs[0]? == some (rawInt _))=true then _ else _) Q E s
           rw [if_neg (by intro h; rw [hn,Bool.false_and] at h; cases h)]
           exact wpAny_pure hQ))


def Itl (K:PySem.W.Frag) (a:Addr):It :=
  ⟨fun i H=>∃ xs x,SqL K H a xs∧xs[i]? = some x,fun i H x H'=>H'=H∧∀ xs,SqL K H a xs→xs[i]? = some x,fun i H=>∃ xs,SqL K H a xs∧xs.length≤i⟩
def Itt (K:PySem.W.Frag) (a:Addr):It :=
  ⟨fun i H=>∃ xs x,SqT K H a xs∧xs[i]? = some x,fun i H x H'=>H'=H∧∀ xs,SqT K H a xs→xs[i]? = some x,fun i H=>∃ xs,SqT K H a xs∧xs.length≤i⟩

def Itr (lo:Int) (n:Nat):It:=⟨fun i _=>i < n,fun i H x H'=>H'=H∧x=.int (lo + i),fun i _=>n≤i⟩
theorem turn_list {P:Program} {w:World} {K:PySem.W.Frag} {tg:Expr} (a it:Addr):Turn P w K tg (Itl K a) [it] it (fun i h=>h.IsListIter it a i) where
  mem:=by simp
  obj:=fun i h st b hb=>by
    have e:b=it:=by simpa using hb
    subst e
    obtain ⟨o,e,c,d⟩:=st
    exact ⟨o,e,fun v z=>by rw [d] at z; cases z⟩
  keep:=fun i h h' st k=>st.at fun o e=>k it (by simp) o e
  item:=by
    intro X hP hw hK hc i pins s σ H E I hf st hg
    subst hP hw hK
    obtain ⟨xs,x,hq,hx⟩:=hg
    obtain ⟨its,rv,p,hz⟩:=I.list hq
    obtain ⟨u,hu,ru⟩:=rv.get hx
    obtain ⟨f0,f1,f2,f3,f4,f5⟩:=hf it (by simp)
    refine wpAny_pyNext_list_item st p.isList (x:=u) (by simpa using hu) fun h' st' sb => ?_
    have I1:Inv X pins σ H { s with heap:=h' }:=I.turned (t':=s.toks) (fun b o hb e=>(sb.2 b hb).trans e) f0 f1 f3 f4 f5
    obtain ⟨o,e,c,d⟩:=id st'
    exact ⟨u,rfl,go_of (s:={ s with heap:=h' }) e c d (by decide) ⟨x,H,I1,ru,⟨rfl,fun ys hy=>by rw [I.list_inj hy hq]; exact hx⟩,st',fun b hb=>(hf b hb).1⟩⟩
  done:=by
    intro X hP hw hK hc i pins s σ H E I hf st hg
    subst hP hw hK
    obtain ⟨xs,hq,hx⟩:=hg
    obtain ⟨its,rv,p,hz⟩:=I.list hq
    obtain ⟨f0,f1,f2,f3,f4,f5⟩:=hf it (by simp)
    have hl:=rv.length
    exact wpAny_pyNext_list_end (I.ok.hd hc) st p.isList (by simp; omega) fun h' eb=>⟨rfl,I.turned (t':=s.toks) (fun b o hb e=>eb b o hb e) f0 f1 f3 f4 f5⟩
  self:=fun _ _ _ _ _ st h=>wpAny_pyIter_listiter st h
theorem turn_tuple {P:Program} {w:World} {K:PySem.W.Frag} {tg:Expr} (a it:Addr):Turn P w K tg (Itt K a) [it] it (fun i h=>h.IsTupleIter it a i) where
  mem:=by simp
  obj:=fun i h st b hb=>by
    have e:b=it:=by simpa using hb
    subst e
    obtain ⟨o,e,c,d⟩:=st
    exact ⟨o,e,fun v z=>by rw [d] at z; cases z⟩
  keep:=fun i h h' st k=>st.at fun o e=>k it (by simp) o e
  item:=by
    intro X hP hw hK hc i pins s σ H E I hf st hg
    subst hP hw hK
    obtain ⟨xs,x,hq,hx⟩:=hg
    obtain ⟨its,rv,p,hz⟩:=I.tuple hq
    obtain ⟨u,hu,ru⟩:=rv.get hx
    obtain ⟨f0,f1,f2,f3,f4,f5⟩:=hf it (by simp)
    refine wpAny_pyNext_tuple_item st (show s.heap.IsTuple a its.toArray from p) (x:=u) (by simpa using hu) fun h' st' sb => ?_
    have I1:Inv X pins σ H { s with heap:=h' }:=I.turned (t':=s.toks) (fun b o hb e=>(sb.2 b hb).trans e) f0 f1 f3 f4 f5
    obtain ⟨o,e,c,d⟩:=id st'
    exact ⟨u,rfl,go_of (s:={ s with heap:=h' }) e c d (by decide) ⟨x,H,I1,ru,⟨rfl,fun ys hy=>by rw [I.tuple_inj hy hq]; exact hx⟩,st',fun b hb=>(hf b hb).1⟩⟩
  done:=by
    intro X hP hw hK hc i pins s σ H E I hf st hg
    subst hP hw hK
    obtain ⟨xs,hq,hx⟩:=hg
    obtain ⟨its,rv,p,hz⟩:=I.tuple hq
    obtain ⟨f0,f1,f2,f3,f4,f5⟩:=hf it (by simp)
    have hl:=rv.length
    exact wpAny_pyNext_tuple_end (I.ok.hd hc) st (show s.heap.IsTuple a its.toArray from p) (by simp; omega) fun h' eb=>⟨rfl,I.turned (t':=s.toks) (fun b o hb e=>eb b o hb e) f0 f1 f3 f4 f5⟩
  self:=fun _ _ _ _ _ st h=>wpAny_pyIter_tupleiter st h
theorem turn_range {P:Program} {w:World} {K:PySem.W.Frag} {tg:Expr} (it:Addr) (lo:Int) (n:Nat):Turn P w K tg (Itr lo n) [it] it (fun i h=>IsRangeIter h it (lo + (i:Nat) * 1) ((n:Int) - (i:Nat)) 1) where
  mem:=by simp
  obj:=fun i h st b hb=>by
    have e:b=it:=by simpa using hb
    subst e
    exact ⟨_,st,fun v z=>by
      have z':Data.fields _=Data.cell v:=z
      cases z'⟩
  keep:=fun i h h' st k=>k it (by simp) _ st
  item:=by
    intro X hP hw hK hc i pins s σ H E I hf st hg
    subst hP hw hK
    obtain ⟨f0,f1,f2,f3,f4,f5⟩:=hf it (by simp)
    have W:=Walks.range (prog:=X.prog) (w:=X.w) (I.ok.hd hc) it lo 1 n
    refine W.item i s _ _ hg st fun v h' tk hv st' kk => ?_
    obtain ⟨t,rfl⟩:=hv
    have I1:Inv X pins σ H { s with heap:=h',toks:=tk }:=I.turned (fun b o hb e=>kk b o (by simpa using hb) e) f0 f1 f3 f4 f5
    refine ⟨_,rfl,go_of (s:={ s with heap:=h',toks:=tk }) (n := "range_iterator") st' rfl rfl (by decide) ⟨.int (lo + i),H,I1,⟨t,?_⟩,⟨rfl,rfl⟩,st',fun b hb=>(hf b hb).1⟩⟩
    rw [Int.mul_one]
  done:=by
    intro X hP hw hK hc i pins s σ H E I hf st hg
    subst hP hw hK
    obtain ⟨f0,f1,f2,f3,f4,f5⟩:=hf it (by simp)
    exact wpAny_pyNext_range_end (I.ok.hd hc) st (by have:n≤i:=hg; omega) fun h' eb=>⟨rfl,I.turned (t':=s.toks) (fun b o hb e=>eb b o hb e) f0 f1 f3 f4 f5⟩
  self:=fun _ _ _ _ _ st h=>wpAny_pyIter_rangeiter st h
end L2

namespace L2
open PySem PySem.Spec PyProof.Rows
section
variable {X:Cx} {tg:Expr}
def iList (K:PySem.W.Frag) (tl:TE):TI:=fun σ H R=>tl σ H fun x H1=>∃ a,x=.ref a∧(∃ xs,SqL K H1 a xs)∧R (Itl K a) H1
def iTup (K:PySem.W.Frag) (tl:TE):TI:=fun σ H R=>tl σ H fun x H1=>∃ a,x=.ref a∧(∃ xs,SqT K H1 a xs)∧R (Itt K a) H1
theorem pi_list {l:Expr} {tl:TE} (hl:PE X l tl):PI X tg l (iList X.K tl):=by
  intro pins s σ H R I h
  refine thn (hl pins s σ H _ I h) fun v s1 ⟨x,H1,I1,r1,q1⟩ => ?_
  obtain ⟨a,e,⟨xs,hq⟩,q⟩:=q1
  subst e
  cases r1
  obtain ⟨its,rv,p,hz⟩:=I1.list hq
  refine wpAny_pyIter_list p.isList ?_
  refine ⟨s1.heap.objs.size,[s1.heap.objs.size],_,_,H1,rfl,I1.kept (t':=s1.toks) fun b o e=>Heap.get?_push_of_some _ e,turn_list a _,⟨_,Heap.get?_push_size _ rfl,rfl,rfl⟩,fun b hb => ?_,q⟩
  have e:b=s1.heap.objs.size:=by simpa using hb
  subst e
  exact I1.fpOk (Nat.le_refl _) (I1.hok.fresh (Nat.le_refl _))
theorem pi_tup {l:Expr} {tl:TE} (hl:PE X l tl):PI X tg l (iTup X.K tl):=by
  intro pins s σ H R I h
  refine thn (hl pins s σ H _ I h) fun v s1 ⟨x,H1,I1,r1,q1⟩ => ?_
  obtain ⟨a,e,⟨xs,hq⟩,q⟩:=q1
  subst e
  cases r1
  obtain ⟨its,rv,p,hz⟩:=I1.tuple hq
  refine wpAny_pyIter_tuple (show s1.heap.IsTuple a its.toArray from p) ?_
  refine ⟨s1.heap.objs.size,[s1.heap.objs.size],_,_,H1,rfl,I1.kept (t':=s1.toks) fun b o e=>Heap.get?_push_of_some _ e,turn_tuple a _,⟨_,Heap.get?_push_size _ rfl,rfl,rfl⟩,fun b hb => ?_,q⟩
  have e:b=s1.heap.objs.size:=by simpa using hb
  subst e
  exact I1.fpOk (Nat.le_refl _) (I1.hok.fresh (Nat.le_refl _))

theorem range_it {pins:List (Addr × Obj)} {σ:St} {H:Hp} {s:Shared} {R:It→Hp→Prop} {E:Value→Shared→Prop} {lo hi:Int} {t u v:Tok} {tk:Nat} (I:Inv X pins σ H s) (h1:-(2 ^ 62)≤lo) (h2:lo < 2 ^ 62) (h3:-(2 ^ 62)≤hi) (h4:hi < 2 ^ 62)
    (q:R (Itr lo (hi - lo).toNat) H):wpAny (model X.prog X.w) X.A (pyIter (.ref s.heap.objs.size)) (PIE X pins σ tg R) E { s with heap:=s.heap.push { cls:=.type "range",data:=.fields #[.int lo t,.int hi u,.int 1 v] },toks:=tk }:=by
  refine wpAny_pyIter_range (IsRange.new ..) (small_one h1 h2 h3 h4) ?_
  have I1:Inv X pins σ H { s with heap:=s.heap.push { cls:=.type "range",data:=.fields #[.int lo t,.int hi u,.int 1 v] },toks:=tk }:=I.kept fun b o e=>Heap.get?_push_of_some _ e
  refine ⟨(s.heap.push { cls:=.type "range",data:=.fields #[.int lo t,.int hi u,.int 1 v] }).objs.size,[(s.heap.push { cls:=.type "range",data:=.fields #[.int lo t,.int hi u,.int 1 v] }).objs.size],_,_,H,rfl,
    I1.kept (t':=tk) fun b o e=>Heap.get?_push_of_some _ e,turn_range _ lo (hi - lo).toNat,?_,fun b hb => ?_,q⟩
  · have e1:lo + ((0:Nat):Int) * 1=lo:=by simp
    have e2:(((hi - lo).toNat:Nat):Int) - ((0:Nat):Int)=Builtin.Range.rangeSize lo hi 1:=by rw [rangeSize_one]; split <;> omega
    show IsRangeIter _ _ (lo + ((0:Nat):Int) * 1) ((((hi - lo).toNat:Nat):Int) - ((0:Nat):Int)) 1
    rw [e1,e2]
    exact Heap.get?_push_size _ rfl
  · have e:b=(s.heap.push { cls:=.type "range",data:=.fields #[.int lo t,.int hi u,.int 1 v] }).objs.size:=by simpa using hb
    subst e
    exact I1.fpOk (Nat.le_refl _) (I1.hok.fresh (Nat.le_refl _))
def iRng1 (ta:TA):TI:=fun σ H R=>ta σ H fun vs H1=>∃ j:Int,vs=[.int j]∧-(2 ^ 62)≤j∧j < 2 ^ 62∧R (Itr 0 j.toNat) H1
theorem pi_range1 {a:Expr} {ta:TA} {p pos:Pos} (hg:Gl X "range") (hm:X.mg "range" = none) (ha:PA X [a] ta) (hs:starEach [a] X.env=[(false,eval a X.env)]:=by rfl):PI X tg (.Call (.Name "range" p) [a] [] pos) (iRng1 ta):=by
  intro pins s σ H R I h
  refine Call_ (ld_blt I hg hm boot_range (PyProof.Rows.callWith_type1 (thn (ha pos pins s σ H _ I h) fun us s1 ⟨vs,H1,I1,r1,q1⟩ => ?_) hs rfl))
  obtain ⟨j,e,q1,q2,q⟩:=q1
  subst e
  cases r1 with
  | cons r rr =>
    cases rr
    obtain ⟨t,rfl⟩:=r
    exact call_range_1 (range_it I1 (by omega) (by omega) q1 q2 (by simpa using q))
def tFor (wi:TI) (g:TG) (tb:TS):TS:=fun D σ H=>wi σ H fun J H1=>∃ W:Nat→Nat→St→Hp→Prop,(∃ m,W 0 m σ H1)∧∀ i m σ H,W i m σ H →
  (J.stop i H∧D.nx σ H)∨(J.go i H∧∃ N:St→Hp→Prop,(∀ σ' H',N σ' H'→∃ m',m' < m∧W (i + 1) m' σ' H')∧∀ x H',J.yld i H x H'→g x σ H' fun σ2 H2=>tb { D with nx:=N,ct:=N,bk:=D.nx } σ2 H2)

def pinsAt (fp:List Addr) (h:Heap):List (Addr × Obj):=fp.filterMap fun b=>(h.get? b).map fun o=>(b,o)
theorem mem_pinsAt {fp:List Addr} {h:Heap} {b:Addr} {o:Obj} (hb:b∈fp) (e:h.get? b=some o):(b,o)∈pinsAt fp h:=List.mem_filterMap.mpr ⟨b,hb,by rw [e]; rfl⟩
theorem of_pinsAt {fp:List Addr} {h:Heap} {p:Addr × Obj} (hp:p∈pinsAt fp h):p.1∈fp∧h.get? p.1=some p.2:=by
  obtain ⟨b,hb,e⟩:=List.mem_filterMap.mp hp
  cases q:h.get? b with
  | none=>rw [q] at e; cases e
  | some o =>
    rw [q] at e
    have e':(b,o)=p:=Option.some.inj e
    subst e'
    exact ⟨hb,q⟩
theorem Inv.pinned {pins:List (Addr × Obj)} {σ:St} {H:Hp} {s:Shared} {fp:List Addr} (I:Inv X pins σ H s) (hf:∀ b∈fp,FpOk X pins H b) (ho:∀ b∈fp,∃ o,s.heap.get? b=some o∧∀ v,o.data≠.cell v):Inv X (pins++pinsAt fp s.heap) σ H s :=
  I.pins_of fun p hp=>(List.mem_append.mp hp).elim (fun z=>I.pin p (List.mem_append_right _ z)) fun z=>by
    obtain ⟨hb,e⟩:=of_pinsAt z
    obtain ⟨f0,f1,f2,_⟩:=hf p.1 hb
    obtain ⟨o,e',d⟩:=ho p.1 hb
    rw [e] at e'; cases e'
    exact ⟨e,f0,f1,f2,d⟩
theorem Inv.unpinned {pins pl:List (Addr × Obj)} {σ:St} {H:Hp} {s:Shared} (I:Inv X (pins++pl) σ H s):Inv X pins σ H s:=I.pins_of fun p hp=>I.pin p (List.mem_append_right _ (List.mem_append_left _ hp))
theorem ps_for {iter:Expr} {body:List Stmt} {wi:TI} {g:TG} {tb:TS} {pos:Pos} (hp:PassesOwn (model X.prog X.w) X.A X.env X.xe) (hc:X.calm=true) (hi:PI X tg iter wi) (hg:PG X tg g) (hb:PSs X body tb)
    (hs:∀ x,foldedSetIterable iter X.env x=pure x:=by intro _; rfl):PS X (.For tg iter body [] pos) (tFor wi g tb):=by
  intro pins s σ H D I h
  refine wpAny_For (thn (hi pins s σ H _ I h) fun v s1 h1=>thn h1 fun itv s2 h2 => ?_) hs
  obtain ⟨it,fp,tn,J,H2,e,I2,T,st2,f2,W,⟨m0,w0⟩,turn⟩:=h2
  subst e
  -- what stays true of the iterator's objects through the loop
  have stat:∀ {H':Hp},(∀ b∈fp,H' b=none)→∀ b∈fp,FpOk X pins H' b:=fun hn b hb=>⟨hn b hb,(f2 b hb).2⟩
  refine codeAny_forLoop_any (fun n s'=>∃ i σ' H',Inv X pins σ' H' s'∧tn i s'.heap∧(∀ b∈fp,H' b=none)∧W i n σ' H') ?_ m0 ⟨0,σ,H2,I2,st2,fun b hb=>(f2 b hb).1,w0⟩
  rintro n s3 ⟨i,σ3,H3,I3,st3,fr3,w3⟩
  rcases turn i n σ3 H3 w3 with ⟨stop,qn⟩ | ⟨go,N,hN,step⟩
  · refine wpAny_passesOwn hp (thn (T.done X rfl rfl rfl hc i pins s3 σ3 H3 X.xe I3 (stat fr3) st3 stop) fun r s4 ⟨hr,I4⟩ => ?_)
    subst hr
    exact wpAny_execs_nil ⟨σ3,H3,I4,qn⟩
  · refine wpAny_passesOwn hp (thn (T.item X rfl rfl rfl hc i pins s3 σ3 H3 X.xe I3 (stat fr3) st3 go) fun r s4 ⟨u,hr,h4⟩ => ?_)
    subst hr
    refine wpAny_passesOwn hp (thn h4 fun _ s5 ⟨x,H5,I5,r5,y5,st5,fr5⟩ => ?_)
    have I5':=I5.pinned (stat fr5) (T.obj _ _ st5)
    refine wpAny_passesOwn hp (thn (hg _ s5 σ3 H5 x u _ I5' r5 (step x H5 y5)) fun _ s6 ⟨σ6,H6,I6,q6⟩ => ?_)
    refine wpAny_passesOwn hp (thn (hb _ s6 σ6 H6 _ I6 q6) fun f s7 q7 => ?_)
    have again:∀ {σ7:St} {H7:Hp},Inv X (pins++pinsAt fp s5.heap) σ7 H7 s7→N σ7 H7→∃ m,m < n∧∃ i σ' H',Inv X pins σ' H' s7∧tn i s7.heap∧(∀ b∈fp,H' b=none)∧W i m σ' H':=fun {σ7 H7} I7 n7=>by
      obtain ⟨m',hm,w7⟩:=hN σ7 H7 n7
      refine ⟨m',hm,i + 1,σ7,H7,I7.unpinned,T.keep _ _ _ st5 fun b hb o e=>(I7.pin (b,o) (List.mem_append_right _ (List.mem_append_right _ (mem_pinsAt hb e)))).1,fun b hb => ?_,w7⟩
      obtain ⟨o,e,d⟩:=T.obj _ _ st5 b hb
      exact (I7.pin (b,o) (List.mem_append_right _ (List.mem_append_right _ (mem_pinsAt hb e)))).2.1
    cases f with
    | next=>obtain ⟨σ7,H7,I7,n7⟩:=q7; exact again I7 n7
    | cont=>obtain ⟨σ7,H7,I7,n7⟩:=q7; exact again I7 n7
    | brk=>obtain ⟨σ7,H7,I7,q7⟩:=q7; exact ⟨σ7,H7,I7.unpinned,q7⟩
    | ret v=>obtain ⟨x7,σ7,H7,I7,r7,q7⟩:=q7; exact ⟨x7,σ7,H7,I7.unpinned,r7,q7⟩
end



theorem for_list {K:PySem.W.Frag} {a:Addr} {xs:List V} {g:TG} {tb:TS} {D:Ends} {σ:St} {H:Hp} (Pv:Nat→St→Hp→Prop) (h0:Pv 0 σ H) (hl:∀ i σ H,i≤xs.length→Pv i σ H→SqL K H a xs)
    (hs:∀ i x σ H,xs[i]? = some x→Pv i σ H→g x σ H fun σ2 H2=>tb { D with nx:=Pv (i + 1),ct:=Pv (i + 1),bk:=D.nx } σ2 H2) (hd:∀ σ H,Pv xs.length σ H→D.nx σ H) :
    ∃ W:Nat→Nat→St→Hp→Prop,(∃ m,W 0 m σ H)∧∀ i m σ H,W i m σ H →
      ((Itl K a).stop i H∧D.nx σ H)∨((Itl K a).go i H∧∃ N:St→Hp→Prop,(∀ σ' H',N σ' H'→∃ m',m' < m∧W (i + 1) m' σ' H')∧∀ x H',(Itl K a).yld i H x H'→g x σ H' fun σ2 H2=>tb { D with nx:=N,ct:=N,bk:=D.nx } σ2 H2):=by
  refine ⟨fun i m σ H=>m=xs.length - i∧i≤xs.length∧Pv i σ H,⟨xs.length,by simp,Nat.zero_le _,h0⟩,?_⟩
  rintro i m σ H ⟨rfl,hi,p⟩
  have q:=hl i σ H hi p
  by_cases hlt:i < xs.length
  · refine .inr ⟨⟨xs,xs[i],q,by simp [hlt]⟩,Pv (i + 1),fun σ' H' p'=>⟨xs.length - (i + 1),by omega,rfl,hlt,p'⟩,fun x H' y => ?_⟩
    obtain ⟨e,y⟩:=y
    subst e
    exact hs i x σ _ (y xs q) p
  · have e:i=xs.length:=by omega
    subst e
    exact .inl ⟨⟨xs,q,Nat.le_refl _⟩,hd σ H p⟩
theorem for_tup {K:PySem.W.Frag} {a:Addr} {xs:List V} {g:TG} {tb:TS} {D:Ends} {σ:St} {H:Hp} (Pv:Nat→St→Hp→Prop) (h0:Pv 0 σ H) (hl:∀ i σ H,i≤xs.length→Pv i σ H→SqT K H a xs)
    (hs:∀ i x σ H,xs[i]? = some x→Pv i σ H→g x σ H fun σ2 H2=>tb { D with nx:=Pv (i + 1),ct:=Pv (i + 1),bk:=D.nx } σ2 H2) (hd:∀ σ H,Pv xs.length σ H→D.nx σ H) :
    ∃ W:Nat→Nat→St→Hp→Prop,(∃ m,W 0 m σ H)∧∀ i m σ H,W i m σ H →
      ((Itt K a).stop i H∧D.nx σ H)∨((Itt K a).go i H∧∃ N:St→Hp→Prop,(∀ σ' H',N σ' H'→∃ m',m' < m∧W (i + 1) m' σ' H')∧∀ x H',(Itt K a).yld i H x H'→g x σ H' fun σ2 H2=>tb { D with nx:=N,ct:=N,bk:=D.nx } σ2 H2):=by
  refine ⟨fun i m σ H=>m=xs.length - i∧i≤xs.length∧Pv i σ H,⟨xs.length,by simp,Nat.zero_le _,h0⟩,?_⟩
  rintro i m σ H ⟨rfl,hi,p⟩
  have q:=hl i σ H hi p
  by_cases hlt:i < xs.length
  · refine .inr ⟨⟨xs,xs[i],q,by simp [hlt]⟩,Pv (i + 1),fun σ' H' p'=>⟨xs.length - (i + 1),by omega,rfl,hlt,p'⟩,fun x H' y => ?_⟩
    obtain ⟨e,y⟩:=y
    subst e
    exact hs i x σ _ (y xs q) p
  · have e:i=xs.length:=by omega
    subst e
    exact .inl ⟨⟨xs,q,Nat.le_refl _⟩,hd σ H p⟩
theorem for_range {lo:Int} {n:Nat} {g:TG} {tb:TS} {D:Ends} {σ:St} {H:Hp} (Pv:Nat→St→Hp→Prop) (h0:Pv 0 σ H)
    (hs:∀ i σ H,i < n→Pv i σ H→g (.int (lo + i)) σ H fun σ2 H2=>tb { D with nx:=Pv (i + 1),ct:=Pv (i + 1),bk:=D.nx } σ2 H2) (hd:∀ σ H,Pv n σ H→D.nx σ H) :
    ∃ W:Nat→Nat→St→Hp→Prop,(∃ m,W 0 m σ H)∧∀ i m σ H,W i m σ H →
      ((Itr lo n).stop i H∧D.nx σ H)∨((Itr lo n).go i H∧∃ N:St→Hp→Prop,(∀ σ' H',N σ' H'→∃ m',m' < m∧W (i + 1) m' σ' H')∧∀ x H',(Itr lo n).yld i H x H'→g x σ H' fun σ2 H2=>tb { D with nx:=N,ct:=N,bk:=D.nx } σ2 H2):=by
  refine ⟨fun i m σ H=>m=n - i∧i≤n∧Pv i σ H,⟨n,by simp,Nat.zero_le _,h0⟩,?_⟩
  rintro i m σ H ⟨rfl,hi,p⟩
  by_cases hlt:i < n
  · refine .inr ⟨hlt,Pv (i + 1),fun σ' H' p'=>⟨n - (i + 1),by omega,rfl,hlt,p'⟩,fun x H' y => ?_⟩
    obtain ⟨e,y⟩:=y
    subst e y
    exact hs i σ _ hlt p
  · have e:i=n:=by omega
    subst e
    exact .inl ⟨Nat.le_refl _,hd σ H p⟩

end L2

namespace L2
open PySem PySem.Spec PyProof.Rows

abbrev R2:=V→V→Hp→VK→Prop

def OpR (X:Cx) (f:Value→Value→Sem Value) (r:R2):Prop :=
  ∀ (pins:List (Addr × Obj)) (s:Shared) (σ:St) (H:Hp) (x y:V) (v u:Value) (Q:VK),Inv X pins σ H s→RelV x v→RelV y u→r x y H Q →
    wpAny (model X.prog X.w) X.A (f v u) (EP X pins σ Q) X.xe s

def UnR (X:Cx) (f:Value→Sem Value) (r:V→Hp→VK→Prop):Prop :=
  ∀ (pins:List (Addr × Obj)) (s:Shared) (σ:St) (H:Hp) (x:V) (v:Value) (Q:VK),Inv X pins σ H s→RelV x v→r x H Q →
    wpAny (model X.prog X.w) X.A (f v) (EP X pins σ Q) X.xe s

def CallR (X:Cx) (f:Value) (r:List V→Hp→VK→Prop):Prop :=
  ∀ (pins:List (Addr × Obj)) (s:Shared) (σ:St) (H:Hp) (xs:List V) (us:List Value) (Q:VK),Inv X pins σ H s→Vals xs us→r xs H Q →
    wpAny (model X.prog X.w) X.A (call f us) (EP X pins σ Q) X.xe s

def tOp (r:R2) (ta tb:TE):TE:=fun σ H Q=>ta σ H fun x H1=>tb σ H1 fun y H2=>r x y H2 Q
def tUn (r:V→Hp→VK→Prop) (ta:TE):TE:=fun σ H Q=>ta σ H fun x H1=>r x H1 Q

def rI (C:Int→Int→Prop) (g:Int→Int→V):R2:=fun x y H Q=>∃ i j,x=.int i∧y=.int j∧C i j∧Q (g i j) H
def rI0 (g:Int→Int→V):R2:=fun x y H Q=>∃ i j,x=.int i∧y=.int j∧Q (g i j) H
def rU (g:Int→V):V→Hp→VK→Prop:=fun x H Q=>∃ i,x=.int i∧Q (g i) H

section
variable {X:Cx} {a b c:Expr} {ta tb tc:TE} {pos:Pos}

theorem binT (ha:PE X a ta) (hb:PE X b tb) {pins:List (Addr × Obj)} {s:Shared} {σ:St} {H:Hp} {R:V→V→Hp→Prop} (I:Inv X pins σ H s)
    (h:ta σ H fun x H1=>tb σ H1 fun y H2=>R x y H2) {Q:Value→Shared→Prop} {f:Value→Value→Sem Value}
    (hf:∀ v u s2 x y H2,Inv X pins σ H2 s2→RelV x v→RelV y u→R x y H2→wpAny (model X.prog X.w) X.A (f v u) Q X.xe s2) :
    wpAny (model X.prog X.w) X.A (eval a X.env) (fun v s₁=>wpAny (model X.prog X.w) X.A (eval b X.env) (fun u s₂=>wpAny (model X.prog X.w) X.A (f v u) Q X.xe s₂) X.xe s₁) X.xe s:=by
  refine thn (ha pins s σ H _ I h) fun v s1 ⟨x,H1,I1,r1,q1⟩ => ?_
  refine thn (hb pins s1 σ H1 _ I1 q1) fun u s2 ⟨y,H2,I2,r2,q2⟩ => ?_
  exact hf v u s2 x y H2 I2 r1 r2 q2

theorem pe_op {op:Operator} {r:R2} (ho:OpR X (binaryOp op) r) (ha:PE X a ta) (hb:PE X b tb):PE X (.BinOp a op b pos) (tOp r ta tb):=by
  intro pins s σ H Q I h
  exact wpAny_BinOp (binT ha hb I h fun v u s2 x y H2 I2 rx ry q=>ho pins s2 σ H2 x y v u Q I2 rx ry q)
theorem pe_un {op:UnaryOp} {r:V→Hp→VK→Prop} (ho:UnR X (unaryOp op) r) (ha:PE X a ta):PE X (.UnaryOp op a pos) (tUn r ta):=by
  intro pins s σ H Q I h
  exact UnaryOp_ (thn (ha pins s σ H _ I h) fun v s1 ⟨x,H1,I1,r1,q1⟩=>ho pins s1 σ H1 x v Q I1 r1 q1)

theorem opI {f:Value→Value→Sem Value} {C:Int→Int→Prop} {g:Int→Int→Int}
    (rule:∀ (i j:Int) (t u:Tok) (s:Shared) (Q:Value→Shared→Prop) (E:Value→Shared→Prop),C i j→Q (.int (g i j) s.toks) { s with toks:=s.toks + 1 }→wpAny (model X.prog X.w) X.A (f (.int i t) (.int j u)) Q E s) :
    OpR X f (rI C fun i j=>.int (g i j)):=by
  intro pins s σ H x y v u Q I rx ry h
  obtain ⟨i,j,rfl,rfl,hc,q⟩:=h
  obtain ⟨t,rfl⟩:=rx
  obtain ⟨t',rfl⟩:=ry
  exact rule i j t t' s _ _ hc ⟨.int (g i j),H,I.tok _,⟨_,rfl⟩,q⟩
theorem opI0 {f:Value→Value→Sem Value} {g:Int→Int→Int}
    (rule:∀ (i j:Int) (t u:Tok) (s:Shared) (Q:Value→Shared→Prop) (E:Value→Shared→Prop),Q (.int (g i j) s.toks) { s with toks:=s.toks + 1 }→wpAny (model X.prog X.w) X.A (f (.int i t) (.int j u)) Q E s) :
    OpR X f (rI0 fun i j=>.int (g i j)):=by
  intro pins s σ H x y v u Q I rx ry h
  obtain ⟨i,j,rfl,rfl,q⟩:=h
  obtain ⟨t,rfl⟩:=rx
  obtain ⟨t',rfl⟩:=ry
  exact rule i j t t' s _ _ ⟨.int (g i j),H,I.tok _,⟨_,rfl⟩,q⟩
theorem opB0 {f:Value→Value→Sem Value} {g:Int→Int→Bool}
    (rule:∀ (i j:Int) (t u:Tok) (s:Shared) (Q:Value→Shared→Prop) (E:Value→Shared→Prop),Q (.bool (g i j)) s→wpAny (model X.prog X.w) X.A (f (.int i t) (.int j u)) Q E s) :
    OpR X f (rI0 fun i j=>.bl (g i j)):=by
  intro pins s σ H x y v u Q I rx ry h
  obtain ⟨i,j,rfl,rfl,q⟩:=h
  obtain ⟨t,rfl⟩:=rx
  obtain ⟨t',rfl⟩:=ry
  exact rule i j t t' s _ _ ⟨.bl (g i j),H,I,rfl,q⟩

def CPow (i j:Int):Prop:=0≤j∧j≤1000000∧i.natAbs < 2 ^ 64
def CMul (i j:Int):Prop:=(-(2 ^ 64) < i∧i < 2 ^ 64)∨(-(2 ^ 64) < j∧j < 2 ^ 64)
theorem CMul.ok {i j:Int} (h:CMul i j):IntMulOk i j:=by
  rcases h with ⟨h1,h2⟩ | ⟨h1,h2⟩
  · exact .of_left (intBits_le_64 h1 h2)
  · exact .of_right (intBits_le_64 h1 h2)
theorem op_add:OpR X (binaryOp .Add) (rI0 fun i j=>.int (i + j)):=opI0 fun _ _ _ _ _ _ _ q=>add_int q
theorem op_sub:OpR X (binaryOp .Sub) (rI0 fun i j=>.int (i - j)):=opI0 fun _ _ _ _ _ _ _ q=>sub_int q
theorem op_mul:OpR X (binaryOp .Mult) (rI CMul fun i j=>.int (i * j)):=opI fun _ _ _ _ _ _ _ hc q=>mul_int q hc.ok

theorem op_mod:OpR X (binaryOp .Mod) (rI (fun _ j=>0 < j) fun i j=>.int (i % j)):=opI fun i j _ _ _ _ _ hc q=>by
  have h1:(0:Int) < j:=hc
  exact mod_int' (by omega) (by rw [Int.fmod_eq_emod_of_nonneg i (by omega)]; exact q)
theorem op_shl:OpR X (binaryOp .LShift) (rI CPow fun i j=>.int (i * 2 ^ j.toNat)):=opI fun _ _ _ _ _ _ _ hc q=>lshift_int_small hc.1 hc.2.1 hc.2.2 q
theorem unI {f:Value→Sem Value} {g:Int→Int}
    (rule:∀ (i:Int) (t:Tok) (s:Shared) (Q:Value→Shared→Prop) (E:Value→Shared→Prop),Q (.int (g i) s.toks) { s with toks:=s.toks + 1 }→wpAny (model X.prog X.w) X.A (f (.int i t)) Q E s) :
    UnR X f (rU fun i=>.int (g i)):=by
  intro pins s σ H x v Q I rx h
  obtain ⟨i,rfl,q⟩:=h
  obtain ⟨t,rfl⟩:=rx
  exact rule i t s _ _ ⟨.int (g i),H,I.tok _,⟨_,rfl⟩,q⟩
theorem un_neg:UnR X (unaryOp .USub) (rU fun i=>.int (-i)):=unI fun _ _ _ _ _ q=>neg_int q
end



def scal:V→V→Bool
  | .non,.non=>true | .non,.int _=>true | .int _,.non=>true | .non,.bl _=>true | .bl _,.non=>true | .non,.str _=>true | .str _,.non=>true
  | .int _,.int _=>true | .bl _,.bl _=>true | .str _,.str _=>true | .byt _,.byt _=>true
  | .int _,.str _=>true | .str _,.int _=>true | .bl _,.str _=>true | .str _,.bl _=>true
  | _,_=>false
def rEq:R2:=fun x y H Q=>scal x y=true∧Q (.bl (decide (x=y))) H
def rNe:R2:=fun x y H Q=>scal x y=true∧Q (.bl (!decide (x=y))) H

theorem dec_int {i j:Int}:decide (V.int i=V.int j)=(i == j):=by
  rw [Bool.eq_iff_iff]
  simp
theorem dec_bl {i j:Bool}:decide (V.bl i=V.bl j)=(i == j):=by
  rw [Bool.eq_iff_iff]
  simp
theorem dec_str {i j:Str}:decide (V.str i=V.str j)=(i == j):=by
  rw [Bool.eq_iff_iff]
  simp
theorem dec_byt {i j:Array UInt8}:decide (V.byt i=V.byt j)=(i.toList == j.toList):=by
  rw [Bool.eq_iff_iff]
  cases i
  cases j
  simp

section
variable {X:Cx} {a b c:Expr} {ta tb tc:TE} {pos:Pos}
theorem fin_bl {pins:List (Addr × Obj)} {σ:St} {H:Hp} {s:Shared} {Q:VK} {k k':Bool} (I:Inv X pins σ H s) (q:Q (.bl k) H) (e:k=k'):EP X pins σ Q (.bool k') s:=by
  subst e
  exact ⟨.bl k,H,I,rfl,q⟩
theorem op_eq:OpR X (compareOp .Eq) rEq:=by
  intro pins s σ H x y v u Q I rx ry h
  obtain ⟨hs,q⟩:=h
  cases x with
  | non =>
    cases rx
    cases y with
    | non=>cases ry; exact PySem.EqNone.eq_none_none (fin_bl I q (by simp))
    | bl j=>cases ry; exact PySem.EqNone.eq_none_bool (fin_bl I q (by simp))
    | int j=>obtain ⟨t',rfl⟩:=ry; exact PySem.EqNone.eq_none_int (fin_bl I q (by simp))
    | str j=>obtain ⟨t',rfl⟩:=ry; exact PySem.EqNone.eq_none_str (fin_bl I q (by simp))
    | _=>exact absurd (show false=true from hs) Bool.false_ne_true
  | bl i =>
    cases rx
    cases y with
    | non=>cases ry; exact PySem.EqNone.eq_bool_none (fin_bl I q (by simp))
    | bl j=>cases ry; exact eq_bool (fin_bl I q dec_bl)
    | str j=>obtain ⟨t',rfl⟩:=ry; exact PySem.EqMixed.eq_bool_str (fin_bl I q (by simp))
    | _=>exact absurd (show false=true from hs) Bool.false_ne_true
  | int i =>
    obtain ⟨t,rfl⟩:=rx
    cases y with
    | non=>cases ry; exact PySem.EqNone.eq_int_none (fin_bl I q (by simp))
    | int j=>obtain ⟨t',rfl⟩:=ry; exact eq_int (fin_bl I q dec_int)
    | str j=>obtain ⟨t',rfl⟩:=ry; exact PySem.EqMixed.eq_int_str (fin_bl I q (by simp))
    | _=>exact absurd (show false=true from hs) Bool.false_ne_true
  | str i =>
    obtain ⟨t,rfl⟩:=rx
    cases y with
    | non=>cases ry; exact PySem.EqNone.eq_str_none (fin_bl I q (by simp))
    | bl j=>cases ry; exact PySem.EqMixed.eq_str_bool (fin_bl I q (by simp))
    | int j=>obtain ⟨t',rfl⟩:=ry; exact PySem.EqMixed.eq_str_int (fin_bl I q (by simp))
    | str j=>obtain ⟨t',rfl⟩:=ry; exact eq_str (fin_bl I q dec_str)
    | _=>exact absurd (show false=true from hs) Bool.false_ne_true
  | byt i =>
    obtain ⟨t,rfl⟩:=rx
    cases y with
    | byt j=>obtain ⟨t',rfl⟩:=ry; exact PySem.W.eq_bytes (fin_bl I q dec_byt)
    | _=>exact absurd (show false=true from hs) Bool.false_ne_true
  | _=>cases y <;> exact absurd (show false=true from hs) Bool.false_ne_true
theorem op_ne:OpR X (compareOp .NotEq) rNe:=by
  intro pins s σ H x y v u Q I rx ry h
  obtain ⟨hs,q⟩:=h
  cases x with
  | non =>
    cases rx
    cases y with
    | non=>cases ry; exact PySem.EqNone.ne_none_none (fin_bl I q (by simp))
    | bl j=>cases ry; exact PySem.EqNone.ne_none_bool (fin_bl I q (by simp))
    | int j=>obtain ⟨t',rfl⟩:=ry; exact PySem.EqNone.ne_none_int (fin_bl I q (by simp))
    | str j=>obtain ⟨t',rfl⟩:=ry; exact PySem.EqNone.ne_none_str (fin_bl I q (by simp))
    | _=>exact absurd (show false=true from hs) Bool.false_ne_true
  | bl i =>
    cases rx
    cases y with
    | non=>cases ry; exact PySem.EqNone.ne_bool_none (fin_bl I q (by simp))
    | bl j=>cases ry; exact ne_bool (fin_bl I q (congrArg not dec_bl))
    | str j=>obtain ⟨t',rfl⟩:=ry; exact PySem.EqMixed.ne_bool_str (fin_bl I q (by simp))
    | _=>exact absurd (show false=true from hs) Bool.false_ne_true
  | int i =>
    obtain ⟨t,rfl⟩:=rx
    cases y with
    | non=>cases ry; exact PySem.EqNone.ne_int_none (fin_bl I q (by simp))
    | int j=>obtain ⟨t',rfl⟩:=ry; exact ne_int (fin_bl I q (congrArg not dec_int))
    | str j=>obtain ⟨t',rfl⟩:=ry; exact PySem.EqMixed.ne_int_str (fin_bl I q (by simp))
    | _=>exact absurd (show false=true from hs) Bool.false_ne_true
  | str i =>
    obtain ⟨t,rfl⟩:=rx
    cases y with
    | non=>cases ry; exact PySem.EqNone.ne_str_none (fin_bl I q (by simp))
    | bl j=>cases ry; exact PySem.EqMixed.ne_str_bool (fin_bl I q (by simp))
    | int j=>obtain ⟨t',rfl⟩:=ry; exact PySem.EqMixed.ne_str_int (fin_bl I q (by simp))
    | str j=>obtain ⟨t',rfl⟩:=ry; exact ne_str (fin_bl I q (congrArg not dec_str))
    | _=>exact absurd (show false=true from hs) Bool.false_ne_true
  | byt i =>
    obtain ⟨t,rfl⟩:=rx
    cases y with
    | byt j=>obtain ⟨t',rfl⟩:=ry; exact PySem.W.ne_bytes (fin_bl I q (congrArg not dec_byt))
    | _=>exact absurd (show false=true from hs) Bool.false_ne_true
  | _=>cases y <;> exact absurd (show false=true from hs) Bool.false_ne_true

theorem op_lt:OpR X (compareOp .Lt) (rI0 fun i j=>.bl (decide (i < j))):=opB0 fun _ _ _ _ _ _ _ q=>lt_int q
theorem op_gt:OpR X (compareOp .Gt) (rI0 fun i j=>.bl (decide (j < i))):=opB0 fun _ _ _ _ _ _ _ q=>gt_int q
theorem op_in_str:OpR X (compareOp .In) (fun x y H Q=>∃ i j,x=.str i∧y=.str j∧Q (.bl (!(Builtin.Str.occurrences j i 0 j.length 1).isEmpty)) H):=by
  intro pins s σ H x y v u Q I rx ry h
  obtain ⟨i,j,rfl,rfl,q⟩:=h
  obtain ⟨t,rfl⟩:=rx
  obtain ⟨t',rfl⟩:=ry
  exact in_str (fin_bl I q rfl)


theorem op_isN:OpR X (compareOp .Is) (fun x y H Q=>y=.non∧Q (.bl (decide (x=.non))) H):=by
  intro pins s σ H x y v u Q I rx ry h
  obtain ⟨rfl,q⟩:=h
  cases ry
  refine is_none_gen (fin_bl I q ?_)
  cases x <;> first
    | (cases rx; rfl)
    | (obtain ⟨t,rfl⟩:=rx; rfl)
theorem nomark (b:Expr) {op:CmpOp} (h:op≠.In:=by decide) (h2:op≠.NotIn:=by decide):behindInMarks op b=false:=by
  have e1:(op == CmpOp.In)=false:=by cases op <;> first | rfl | exact absurd rfl h
  have e2:(op == CmpOp.NotIn)=false:=by cases op <;> first | rfl | exact absurd rfl h2
  cases b <;> simp [behindInMarks,e1,e2]

theorem pe_cmpR {op:CmpOp} {r:R2} (ho:OpR X (compareOp op) r) (ha:PE X a ta) (hb:PE X b tb) (hm:behindInMarks op b=false):PE X (.Compare a [op] [b] pos) (tOp r ta tb):=by
  intro pins s σ H Q I h
  exact wpAny_Compare1 (binT ha hb I h fun v u s2 x y H2 I2 rx ry q=>ho pins s2 σ H2 x y v u Q I2 rx ry q) hm

def tTest (t:TE):TT:=fun σ H Q=>t σ H fun x H'=>∃ k,x=.bl k∧Q k H'
theorem pt_cmpR {op:CmpOp} {r:R2} (ho:OpR X (compareOp op) r) (ha:PE X a ta) (hb:PE X b tb) (hm:behindInMarks op b=false):PT X (.Compare a [op] [b] pos) (tTest (tOp r ta tb)):=by
  intro pins s σ H Q I h
  refine wpAny_isTrue_Compare1 (thn (ha pins s σ H _ I h) fun v s1 ⟨x,H1,I1,r1,q1⟩=>thn (hb pins s1 σ H1 _ I1 q1) fun u s2 ⟨y,H2,I2,r2,q2⟩ =>
    thn (ho pins s2 σ H2 x y v u _ I2 r1 r2 q2) fun c s3 ⟨z,H3,I3,r3,k,e,q3⟩ => ?_) hm
  subst e
  cases r3
  exact wpAny_truthy_bool ⟨H3,I3,q3⟩

theorem line63:(sizeLine:Nat) < 2 ^ 63:=by rw [sizeLine_eq]; decide
theorem op_add_str:OpR X (binaryOp .Add) (fun x y H Q=>∃ i j,x=.str i∧y=.str j∧i.length + j.length≤sizeLine∧Q (.str (i++j)) H):=by
  intro pins s σ H x y v u Q I rx ry h
  obtain ⟨i,j,rfl,rfl,hz,q⟩:=h
  obtain ⟨t,rfl⟩:=rx
  obtain ⟨t',rfl⟩:=ry
  exact add_str (fun t' tk=>⟨.str (i++j),H,I.tok _,⟨_,rfl⟩,q⟩) hz
theorem vals1 {x:V} {us:List Value} (r:Vals [x] us):∃ u,us=[u]∧RelV x u:=by
  cases r with
  | cons r1 r2=>cases r2; exact ⟨_,rfl,r1⟩
theorem vals2 {x y:V} {us:List Value} (r:Vals [x,y] us):∃ u w',us=[u,w']∧RelV x u∧RelV y w':=by
  cases r with
  | cons r1 r2 =>
    cases r2 with
    | cons r3 r4=>cases r4; exact ⟨_,_,rfl,r1,r3⟩
theorem call_max2 (hc:X.calm=true):CallR X (.builtin "max") (fun xs H Q=>∃ i j,xs=[.int i,.int j]∧Q (.int (if j > i then j else i)) H):=by
  intro pins s σ H xs us Q I r h
  obtain ⟨i,j,rfl,q⟩:=h
  obtain ⟨u,w',rfl,⟨t,rfl⟩,⟨t',rfl⟩⟩:=vals2 r
  refine max_two_ints (I.ok.hd hc) fun h' tk k=>⟨_,H,I.kept k,?_,q⟩
  by_cases hj:j > i
  · rw [if_pos hj,if_pos hj]; exact ⟨_,rfl⟩
  · rw [if_neg hj,if_neg hj]; exact ⟨_,rfl⟩
theorem call_min2 (hc:X.calm=true):CallR X (.builtin "min") (fun xs H Q=>∃ i j,xs=[.int i,.int j]∧Q (.int (if j < i then j else i)) H):=by
  intro pins s σ H xs us Q I r h
  obtain ⟨i,j,rfl,q⟩:=h
  obtain ⟨u,w',rfl,⟨t,rfl⟩,⟨t',rfl⟩⟩:=vals2 r
  refine min_two_ints (I.ok.hd hc) fun h' tk k=>⟨_,H,I.kept k,?_,q⟩
  by_cases hj:j < i
  · rw [if_pos hj,if_pos hj]; exact ⟨_,rfl⟩
  · rw [if_neg hj,if_neg hj]; exact ⟨_,rfl⟩
theorem call_int1:CallR X (.type "int") (fun xs H Q=>(∃ i,xs=[.int i]∧Q (.int i) H)∨∃ k,xs=[.bl k]∧Q (.int (if k then 1 else 0)) H):=by
  intro pins s σ H xs us Q I r h
  rcases h with ⟨i,rfl,q⟩ | ⟨k,rfl,q⟩
  · obtain ⟨u,rfl,t,rfl⟩:=vals1 r
    exact call_int_int ⟨.int i,H,I,⟨_,rfl⟩,q⟩
  · obtain ⟨u,rfl,r1⟩:=vals1 r
    cases r1
    exact call_int_bool ⟨.int (if k then 1 else 0),H,I.tok _,⟨_,rfl⟩,q⟩
theorem call_str_int:CallR X (.type "str") (fun xs H Q=>∃ i,xs=[.int i]∧i.natAbs.log2 < 1920∧Q (.str (toString i)) H):=by
  intro pins s σ H xs us Q I r h
  obtain ⟨i,rfl,hz,q⟩:=h
  obtain ⟨u,rfl,t,rfl⟩:=vals1 r
  exact PySem.P.str_of_int hz ⟨.str _,H,I.tok _,⟨_,rfl⟩,q⟩
def LenV (K:PySem.W.Frag) (x:V) (H:Hp) (n:Nat):Prop :=
  match x with
  | .str y=>y.length≤sizeLine∧n=y.length
  | .byt y=>y.size≤sizeLine∧n=y.size
  | .ref p=>(∃ xs,SqL K H p xs∧n=xs.length)∨∃ xs,SqT K H p xs∧n=xs.length
  | _=>False
theorem call_len:CallR X (.builtin "len") (fun xs H Q=>∃ x n,xs=[x]∧LenV X.K x H n∧Q (.int n) H):=by
  intro pins s σ H xs us Q I r h
  obtain ⟨x,n,rfl,e,q⟩:=h
  obtain ⟨u,rfl,rx⟩:=vals1 r
  have hl:=line63
  have hs:sizeLine=16777216:=sizeLine_eq
  cases x with
  | str y =>
    obtain ⟨t,rfl⟩:=rx
    obtain ⟨hy,e'⟩:y.length≤sizeLine∧n=y.length:=e
    subst e'
    exact len_str (by omega) ⟨.int _,H,I.tok _,⟨_,rfl⟩,q⟩
  | byt y =>
    obtain ⟨t,rfl⟩:=rx
    obtain ⟨hy,e'⟩:y.size≤sizeLine∧n=y.size:=e
    subst e'
    exact PySem.W.len_bytes (by omega) ⟨.int _,H,I.tok _,⟨_,rfl⟩,q⟩
  | ref p =>
    cases rx
    have e':(∃ xs,SqL X.K H p xs∧n=xs.length)∨∃ xs,SqT X.K H p xs∧n=xs.length:=e
    rcases e' with ⟨xs,hx,e'⟩ | ⟨xs,hx,e'⟩
    · subst e'
      obtain ⟨its,r',pl,hz⟩:=I.list hx
      have hlen:=r'.length
      exact Calls.call_len_list pl.isList (by simp only [List.size_toArray]; omega) ⟨.int xs.length,H,I.tok _,⟨_,by simp only [List.size_toArray]; rw [hlen]⟩,q⟩
    · subst e'
      obtain ⟨its,r',pl,hz⟩:=I.tuple hx
      have hlen:=r'.length
      exact len_tuple pl (by simp only [List.size_toArray]; omega) ⟨.int xs.length,H,I.tok _,⟨_,by simp only [List.size_toArray]; rw [hlen]⟩,q⟩
  | _=>exact (show False from e).elim

end
end L2

namespace L2
open PySem PySem.Spec PyProof.Rows


structure ObjM (h:Heap) (x dx C:Addr) (mA:Str→Option Value):Prop where
  obj:h.get? x=some (PySem.W.instObj C dx)
  ns:h.Ns1 dx mA
  ne:dx≠x

theorem lookIn_ns {h:Heap} {dx:Addr} {mA:Str→Option Value} (n:h.Ns1 dx mA):∃ od,h.get? dx=some od∧∀ name,PySem.W.lookIn name od=some (mA name):=by
  obtain ⟨o,es,ep,ho,hd,hk,_,hm⟩:=n
  refine ⟨o,ho,fun name => ?_⟩
  have e:=hm name
  unfold nsFind findBy at e
  rw [← Array.find?_toList] at e
  unfold PySem.W.lookIn
  rw [hd]
  dsimp only
  split
  · rename_i y q
    rw [q] at e
    exact congrArg some e
  · rename_i q
    rw [q] at e
    have a:es.toList.any (·.refKey)=false:=by
      rw [List.any_eq_false]
      intro y hy
      obtain ⟨z,t,hkey⟩:=hk y (Array.mem_toList_iff.mp hy)
      simp [DictEntry.refKey,hkey]
    have a':¬ es.toList.any (·.refKey)=true:=by rw [a]; exact Bool.false_ne_true
    rw [if_neg a']
    exact congrArg some e

theorem ObjM.look {h:Heap} {x dx C:Addr} {mA:Str→Option Value} (I:ObjM h x dx C mA):∃ od,PySem.W.InstAt h x (PySem.W.instObj C dx) C (some od)∧∀ name,PySem.W.lookIn name od=some (mA name) :=
  let ⟨od,ho,hl⟩:=lookIn_ns I.ns
  ⟨od,⟨I.obj,rfl,rfl,ho⟩,hl⟩

section
variable {prog:Program} {w:World} {A:Around} {E:Value→Shared→Prop} {s:Shared} {K:PySem.W.Frag} {x dx C f:Addr} {mA:Str→Option Value} {name:Str} {v:Value}

end


theorem RelO.some_of {v:V} {o:Option Value} (r:RelO (some v) o):∃ u,o=some u∧RelV v u:=by
  cases o with
  | none=>exact (show False from r).elim
  | some u=>exact ⟨u,rfl,r⟩
section
variable {P:Program} {w:World} {H H':Hp} {h h':Heap} {a C dx:Addr} {fs fs':List (Str × V)}
theorem ins_get (hok:HOk P w H h) (e:H a=some (.ins C dx fs)):∃ mA,ObjM h a dx C mA∧(∀ f,RelO (fs.lookup f) (mA f))∧PySem.Within mA (fs.map (·.1))∧fs.length≤1000∧H dx=some (.own a):=by
  obtain ⟨d,z,ne,ob,mA,n,r,q⟩:=(show ObjOk P w H h a (.ins C dx fs) from hok a _ e)
  exact ⟨mA,⟨ob,n,ne⟩,r,q,z,d⟩
end


structure Cls (K:PySem.W.Frag) (C:Addr):Prop where
  pg:PySem.W.plainGet K C Str.empty=true
  hd:PySem.W.hasDictIn K C=true
  po:PySem.W.plainOver K C=true
  sa:PySem.W.findIn K (.ref C) "__setattr__" = some (some (.builtin "object.__setattr__"))
theorem Cls.get {K:PySem.W.Frag} {C:Addr} (c:Cls K C) (f:Str):PySem.W.plainGet K C f=true:=c.pg

section
variable {X:Cx} {pins:List (Addr × Obj)} {σ:St} {H:Hp} {s:Shared} {a C dx:Addr} {fs:List (Str × V)} {f:Str} {v:V} {A:Around} {E:Value→Shared→Prop}

end



section
variable {X:Cx} {o e value:Expr} {f:Str} {pos pos' tpos:Pos} {ta tv:TE}
end


section
variable {X:Cx} {pins:List (Addr × Obj)} {σ:St} {H:Hp} {s:Shared} {A:Around} {E:Value→Shared→Prop} {Q:Value→Shared→Prop} {c:Value} {b:Bool}

inductive TyOf (K:PySem.W.Frag) (H:Hp):V→Value→Prop where
  | non:TyOf K H .non (.type "NoneType")
  | bl (x:Bool):TyOf K H (.bl x) (.type "bool")
  | int (i:Int):TyOf K H (.int i) (.type "int")
  | str (x:Str):TyOf K H (.str x) (.type "str")
  | flt (x:UInt64):TyOf K H (.flt x) (.type "float")
  | lst {a:Addr} {xs:List V} (e:H a=some (.lst xs)):TyOf K H (.ref a) (.type "list")
  | frz {a:Addr} {o:Obj} {xs:List V} (e:H a=some (.frz o (.lst xs))):TyOf K H (.ref a) (.type "list")
  | tup {a:Addr} {xs:List V} (e:H a=some (.tup xs)):TyOf K H (.ref a) (.type "tuple")
  | dK {a:Addr} {kvs:List (Key × V)} (e:H a=some (.dK kvs)):TyOf K H (.ref a) (.type "dict")
  | dT {a:Addr} {kvs:List (List Key × V)} (e:H a=some (.dT kvs)):TyOf K H (.ref a) (.type "dict")
  | ins {a C dx:Addr} {fs:List (Str × V)} (e:H a=some (.ins C dx fs)) (cl:Cls K C) (ha:PySem.W.findIn K (.ref C) "__class__" = some (some (.builtin "object.__class__")))
      (hn:PySem.W.specialIn K (.builtin "object.__class__") "__get__" = some (some (.builtin "getset_descriptor.__get__"))) (htk:PySem.W.takesIn K (.builtin "object.__class__")=some true)
      (hm:PySem.W.mroIn K C (.type "object")=some true):TyOf K H (.ref a) (.ref C)

theorem isinst_ok {x:V} {u t:Value} (I:Inv X pins σ H s) (rx:RelV x u) (ty:TyOf X.K H x t) (e:PySem.W.kitOne X.K t c=some b) (h:∀ tk,Q (.bool b) { s with toks:=tk }) :
    wpAny (model X.prog X.w) A (call (.builtin "isinstance") [u,c]) Q E s:=by
  cases ty with
  | non=>cases (show u=Value.none from rx); exact PySem.W.kia_one PySem.W.kitx_none I.kIn True.intro e (fun z=>nomatch z) h
  | bl y=>cases (show u=Value.bool y from rx); exact PySem.W.kia_one PySem.W.kitx_bool I.kIn True.intro e (fun z=>nomatch z) h
  | int i=>obtain ⟨t,q⟩:=(show ∃ t,u=Value.int i t from rx); cases q; exact PySem.W.kia_one PySem.W.kitx_int I.kIn True.intro e (fun z=>nomatch z) h
  | str y=>obtain ⟨t,q⟩:=(show ∃ t,u=Value.str y t from rx); cases q; exact PySem.W.kia_one PySem.W.kitx_str I.kIn True.intro e (fun z=>nomatch z) h
  | flt y=>obtain ⟨t,q⟩:=(show ∃ t,u=Value.float y t from rx); cases q; exact PySem.W.kia_one PySem.W.kitx_float I.kIn True.intro e (fun z=>nomatch z) h
  | @lst a xs ea =>
    cases (show u=Value.ref a from rx)
    obtain ⟨_,_,n,_,h1⟩:=(show ObjOk X.prog X.w H s.heap a (.lst xs) from I.hok a _ ea)
    exact PySem.W.kia_one PySem.W.kitx_list I.kIn ⟨_,h1,rfl⟩ e (fun z=>nomatch z) h
  | @frz a ob xs ea =>
    cases (show u=Value.ref a from rx)
    obtain ⟨_,_,_,n,_,h1⟩:=(show ObjOk X.prog X.w H s.heap a (.frz ob (.lst xs)) from I.hok a _ ea)
    exact PySem.W.kia_one PySem.W.kitx_list I.kIn ⟨_,h1,rfl⟩ e (fun z=>nomatch z) h
  | @tup a xs ea =>
    cases (show u=Value.ref a from rx)
    obtain ⟨_,_,_,p⟩:=(show ObjOk X.prog X.w H s.heap a (.tup xs) from I.hok a _ ea)
    obtain ⟨o,h1,h2,_⟩:=p
    exact PySem.W.kia_one PySem.W.kitx_tuple I.kIn ⟨o,h1,h2⟩ e (fun z=>nomatch z) h
  | @dK a kvs ea =>
    cases (show u=Value.ref a from rx)
    obtain ⟨_,_,vs,_,p⟩:=(show ObjOk X.prog X.w H s.heap a (.dK kvs) from I.hok a _ ea)
    obtain ⟨o,es,ep,h1,h2,_⟩:=p
    exact PySem.W.kia_one PySem.W.kitx_dict I.kIn ⟨o,h1,h2.1⟩ e (fun z=>nomatch z) h
  | @dT a kvs ea =>
    cases (show u=Value.ref a from rx)
    obtain ⟨_,_,xs,_,o,es,ep,h1,h2,_⟩:=(show ObjOk X.prog X.w H s.heap a (.dT kvs) from I.hok a _ ea)
    exact PySem.W.kia_one PySem.W.kitx_dict I.kIn ⟨o,h1,h2.1⟩ e (fun z=>nomatch z) h
  | @ins a C dx fs ea cl ha hn htk hm =>
    cases (show u=Value.ref a from rx)
    obtain ⟨mA,O,_⟩:=ins_get I.hok ea
    obtain ⟨od,J,_⟩:=O.look
    exact PySem.W.kia_one (PySem.W.kitx_own (cl.get _) cl.hd ha hn htk hm) I.kIn J e (fun z=>nomatch z) h
end
end L2

namespace L2
open PySem PySem.Spec PyProof.Rows


structure Room (k:Nat) (A:Around):Prop where
  hd:A.handled=none
  dp:A.depth + 3 * k + 5 < recursionLimit
  un:A.units + 16 * k + 200 < cLine
theorem Room.mono {j k:Nat} {A:Around} (r:Room k A) (h:j≤k):Room j A:=⟨r.hd,by have:=r.dp; omega,by have:=r.un; omega⟩
theorem Room.deeper {k:Nat} {A:Around} (r:Room (k + 1) A) (env:Env):Room k (A.deeper env) :=
  ⟨r.hd,by have:=r.dp; show A.depth + 1 + 3 * k + 5 < _; omega,by have:=r.un; show A.units + 3 + 16 * k + 200 < _; omega⟩
theorem Room.depth {k:Nat} {A:Around} (r:Room k A):A.depth < recursionLimit:=by have:=r.dp; omega
theorem Room.units {k:Nat} {A:Around} (r:Room k A):A.units + 64 < cLine:=by have:=r.un; omega
theorem Room.units0 {k:Nat} {A:Around} (r:Room k A):A.units < cLine:=by have:=r.un; omega


def tNil:TA:=fun _ H Q=>Q [] H
def tCons (ta:TE) (tr:TA):TA:=fun σ H Q=>ta σ H fun x H1=>tr σ H1 fun xs H2=>Q (x::xs) H2
section
variable {X:Cx} {e:Expr} {es:List Expr} {te:TE} {t:TA} {pos:Pos}
theorem pa_nil:PA X [] tNil:=fun _ _ _ _ H Q I h=>Calls.spliced_nil ⟨[],H,I,.nil,h⟩
theorem pa_cons (ha:PE X e te) (hr:PA X es t) (hs:starEach (e::es) X.env=(false,eval e X.env)::starEach es X.env:=by rfl):PA X (e::es) (tCons te t):=by
  intro pos pins s σ H Q I h
  rw [hs]
  show wpAny _ _ (spliced ((false,eval e X.env)::backTo pos (starEach es X.env))) _ _ s
  refine Calls.spliced_cons (thn (ha pins s σ H _ I h) fun u s1 ⟨x,H1,I1,r1,q1⟩ => ?_)
  exact thn (hr pos pins s1 σ H1 _ I1 q1) fun us s2 ⟨xs,H2,I2,r2,q2⟩=>⟨x::xs,H2,I2,.cons r1 r2,q2⟩


def tTup (t:TA):TE:=fun σ H Q=>t σ H fun xs H1=>xs.length≤sizeLine∧∀ p,H1 p=none→Q (.ref p) (upd H1 p (.tup xs))
def tLst (t:TA):TE:=fun σ H Q=>t σ H fun xs H1=>xs.length≤sizeLine∧∀ p,H1 p=none→Q (.ref p) (upd H1 p (.lst xs))
theorem pe_tup {x1} (h:PA X es t):PE X (.Tuple es x1 pos) (tTup t):=by
  intro pins s σ H Q I hq
  refine wpAny_Tuple_spliced (thn (h pos pins s σ H _ I hq) fun us s1 ⟨xs,H1,I1,r,z,q⟩=>⟨by rw [← r.length]; exact z,?_⟩)
  have hf:H1 s1.heap.objs.size=none:=I1.hok.fresh (Nat.le_refl _)
  refine ⟨.ref s1.heap.objs.size,upd H1 s1.heap.objs.size (.tup xs),I1.laid (t':=s1.toks) (fun b u e=>Heap.get?_push_of_some _ e) (Nat.le_refl _) ?_,rfl,q _ hf⟩
  exact ⟨z,us,r,⟨_,Heap.get?_push_size _ rfl,rfl,_,rfl⟩⟩
theorem pe_lst (h:PA X es t):PE X (.List es pos) (tLst t):=by
  intro pins s σ H Q I hq
  refine wpAny_List_spliced (thn (h pos pins s σ H _ I hq) fun us s1 ⟨xs,H1,I1,r,z,q⟩=>⟨by rw [← r.length]; exact z,?_⟩)
  have hf:H1 s1.heap.objs.size=none:=I1.hok.fresh (Nat.le_refl _)
  refine ⟨.ref s1.heap.objs.size,upd H1 s1.heap.objs.size (.lst xs),I1.laid (t':=s1.toks) (fun b u e=>Heap.get?_push_of_some _ e) (Nat.le_refl _) ?_,rfl,q _ hf⟩
  exact ⟨z,us,0,r,Heap.get?_push_size _ rfl⟩
end



abbrev Sp:=List V→Hp→VK→XK→Prop

abbrev CXT:=List Env→Hp→Shared→XK→Value→Shared→Prop


structure Env0 (P:Program) (w:World) (K:PySem.W.Frag) (mg:Str→Option Value) (base:Heap) (A:Around) (outer:List Env) (s:Shared) (H:Hp):Prop where
  frames:A.frames=some outer
  mod:Mod K mg base
  bs:∀ b o,base.get? b=some o→s.heap.get? b=some o∧H b=none
  bsz:base.objs.size≤s.heap.objs.size
  funs:s.heap.FunFrames base outer
  frf:∀ b∈frs outer,H b=none
  hok:HOk P w H s.heap
  bare:AllBare s.gens

def CE (outer:List Env) (P:Program) (w:World) (H:Hp) (s:Shared) (Q:VK) (u:Value) (s':Shared):Prop :=
  ∃ v H',s'.os=s.os∧AllBare s'.gens∧Un (frs outer) [] H H' s.heap s'.heap∧HOk P w H' s'.heap∧RelV v u∧Q v H'
def CR (CX:CXT) (outer:List Env) (P:Program) (w:World) (H:Hp) (s:Shared) (Q:VK) (E:XK) (r:Result) (s':Shared):Prop :=
  match r with
  | .ok (.ret u)=>CE outer P w H s Q u s'
  | .ok _=>False
  | .error e=>CX outer H s E e s'
structure FnOk (P:Program) (w:World) (K:PySem.W.Frag) (mg:Str→Option Value) (base:Heap) (CX:CXT) (k:Nat) (f:Addr) (fd:FuncData) (ps:List Str) (sp:Sp):Prop where
  len:∀ vs H Q E,sp vs H Q E→vs.length=ps.length
  run:∀ (A:Around) (outer:List Env) (s:Shared) (H:Hp) (args:Args) (us:List Value) (vs:List V) (Q:VK) (E:XK),Room k A→Env0 P w K mg base A outer s H→BindsTo s fd args (ps.zip us)→Vals vs us→sp vs H Q E →
    codeAny (model P w) A (.call (.ref f) args) (CR CX outer P w H s Q E) s
section
variable {X:Cx} {pins:List (Addr × Obj)} {σ:St} {H:Hp} {s s':Shared}

theorem Inv.env0 (I:Inv X pins σ H s):Env0 X.prog X.w X.K X.mg X.base X.A X.stack s H :=
  ⟨I.ok.frames,I.ok.mod,I.bs,Nat.le_trans I.ok.bsz I.sz,I.stack,I.stkFree,I.hok,I.bare⟩

theorem Inv.after {Q:VK} {u:Value} (I:Inv X pins σ H s) (h:CE X.stack X.prog X.w H s Q u s'):EP X pins σ Q u s':=by
  obtain ⟨v,H',os,bare,un,hok,r,q⟩:=h
  obtain ⟨hh,g,d,t,os'⟩:=s'
  obtain rfl:os'=s.os:=os
  exact ⟨v,H',I.call (h':=hh) (g':=g) (d':=d) (t':=t) (ch:=[]) un hok bare (fun b z=>absurd z (by simp)),r,q⟩
end



def tCall (sp:Sp) (dvs:List V) (E:XK) (t:TA):TE:=fun σ H Q=>t σ H fun vs H1=>sp (vs++dvs) H1 Q E

def Binds (K:PySem.W.Frag) (fd:FuncData) (ps:List Str) (ds:List Value):Prop :=
  ∀ (s:Shared) (us:List Value),K.In s.heap→(us++ds).length=ps.length→BindsTo s fd ⟨us,[]⟩ (ps.zip (us++ds))

theorem Binds.all {K:PySem.W.Frag} {fd:FuncData} {ps:List Str} (h:∀ us:List Value,us.length=ps.length→bindArgs fd ⟨us,[]⟩=pure (ps.zip us)):Binds K fd ps []:=fun s us _ hl=>by
  rw [List.append_nil] at hl ⊢
  exact .of_eq (h us hl)


def Passes (CX:CXT) (X:Cx) (E:XK):Prop:=∀ (pins:List (Addr × Obj)) (σ:St) (H:Hp) (s:Shared) (e:Value) (s':Shared),Inv X pins σ H s→CX X.stack H s E e s'→X.xe e s'

section
variable {X:Cx} {CX:CXT} {k:Nat} {f C:Addr} {fd:FuncData} {ps:List Str} {sp:Sp} {dvs:List V} {ds:List Value} {E:XK} {x m:Str} {p pos apos:Pos} {e o:Expr} {es:List Expr} {ta:TE} {t:TA}


theorem run_fn {pins:List (Addr × Obj)} {σ:St} {H:Hp} {s:Shared} {Q:VK} {us:List Value} {vs:List V} (F:FnOk X.prog X.w X.K X.mg X.base CX k f fd ps sp) (hr:Room k X.A) (hb:Binds X.K fd ps ds) (hd:Vals dvs ds) (hx:Passes CX X E)
    (I:Inv X pins σ H s) (r:Vals vs us) (h:sp (vs++dvs) H Q E):wpAny (model X.prog X.w) X.A (call (.ref f) us) (EP X pins σ Q) X.xe s:=by
  have r2:Vals (vs++dvs) (us++ds):=r.append hd
  have hl:(us++ds).length=ps.length:=by rw [← r2.length]; exact F.len _ _ _ _ h
  refine wpAny_call (codeAny_mono (F.run X.A X.stack s H ⟨us,[]⟩ (us++ds) (vs++dvs) Q E hr I.env0 (hb s us I.kIn hl) r2 h) fun r s' hq => ?_)
  cases r with
  | error e=>exact hx pins σ H s e s' I hq
  | ok fl =>
    cases fl with
    | ret u=>exact I.after hq
    | next=>exact False.elim hq
    | brk=>exact False.elim hq
    | cont=>exact False.elim hq

theorem pe_call (F:FnOk X.prog X.w X.K X.mg X.base CX k f fd ps sp) (hr:Room k X.A) (hg:Gl X x) (hm:X.mg x=some (.ref f)) (hk:PySem.W.keepIn X.K (.ref f)=true) (hb:Binds X.K fd ps ds) (hd:Vals dvs ds) (hx:Passes CX X E)
    (ha:PA X (e::es) t) (hdb:(x == ("__debug__" : Str))=false:=by decide) (he:starEach (e::es) X.env=(false,eval e X.env)::starEach es X.env:=by rfl) (hpl:(backTo pos (starEach es X.env)).any (·.1)=false:=by rfl) :
    PE X (.Call (.Name x p) (e::es) [] pos) (tCall sp dvs E t):=by
  intro pins s σ H Q I h
  refine wpAny_Call_Name_kw (ld_glob I hg hm ?_ hdb)
  refine PySem.W.callWith_K (h₀:=X.base) I.ok.mod.kin hk (thn (ha pos pins s σ H _ I h) fun us s1 ⟨vs,H1,I1,r,q⟩=>⟨I1.kIn,?_⟩) he hpl
  exact run_fn F hr hb hd hx I1 r q
end



section
variable {X:Cx} {CX:CXT} {k:Nat} {f C:Addr} {fd:FuncData} {ps ks:List Str} {sp:Sp} {E:XK} {x m:Str} {p pos apos kpos:Pos} {e o:Expr} {es:List Expr} {kws:List Keyword} {te ta:TE} {t tk:TA} {nm:Option Str}
variable {g:List Value→List Value→List Value} {gV:List V→List V→List V}
end



structure FnScope (N P:List Str) (sc:Scope):Prop where
  kind:sc.kind=.function
  co:sc.isCoroutine=false
  gen:sc.isGenerator=false
  nd:N.Nodup
  pre:N.take P.length=P
  par:∀ x∈P,sc.names.lookup x=some .local∨sc.names.lookup x=some .cell
  nofree:∀ y∈sc.names,y.2≠.free

theorem bindL_out {kindOf:Str→Option NameKind} {x:Str}:∀ {binds:List (Str × Value)} {m:Str→Option Value},(∀ v,(x,v)∉binds)→bindL kindOf binds m x=m x
  | [],_,_=>rfl
  | (n,v)::r,m,h=>by
    unfold bindL
    rw [bindL_out fun w hw=>h w (List.mem_cons_of_mem _ hw)]
    split
    · have:x≠n:=by rintro rfl; exact h v List.mem_cons_self
      simp [this]
    · rfl
theorem bindC_out {kindOf:Str→Option NameKind} {x:Str}:∀ {binds:List (Str × Value)} {m:Str→Option Value},(∀ v,(x,v)∉binds)→bindC kindOf binds m x=m x
  | [],_,_=>rfl
  | (n,v)::r,m,h=>by
    unfold bindC
    rw [bindC_out fun w hw=>h w (List.mem_cons_of_mem _ hw)]
    split
    · rfl
    · have:x≠n:=by rintro rfl; exact h v List.mem_cons_self
      simp [this]
theorem bindL_get {kindOf:Str→Option NameKind} {x:Str} {v:Value}:∀ {P:List Str} {vs:List Value} {i:Nat} {m:Str→Option Value},P.Nodup→P[i]? = some x→vs[i]? = some v→kindOf x=some .local →
    bindL kindOf (P.zip vs) m x=some v
  | [],_,_,_,_,h,_,_=>by simp at h
  | _::_,[],_,_,_,_,h,_=>by simp at h
  | p::P,w::vs,0,m,nd,h1,h2,hk=>by
    simp at h1 h2; subst h1; subst h2
    show bindL kindOf ((p,w)::P.zip vs) m p=_
    unfold bindL
    rw [bindL_out fun v hv=>(List.nodup_cons.mp nd).1 (List.of_mem_zip hv).1,if_pos hk]
    simp
  | p::P,w::vs,i + 1,m,nd,h1,h2,hk=>by
    show bindL kindOf ((p,w)::P.zip vs) m x=_
    unfold bindL
    exact bindL_get (i:=i) (List.nodup_cons.mp nd).2 (by simpa using h1) (by simpa using h2) hk
theorem bindC_get {kindOf:Str→Option NameKind} {x:Str} {v:Value}:∀ {P:List Str} {vs:List Value} {i:Nat} {m:Str→Option Value},P.Nodup→P[i]? = some x→vs[i]? = some v→kindOf x≠some .local →
    bindC kindOf (P.zip vs) m x=some v
  | [],_,_,_,_,h,_,_=>by simp at h
  | _::_,[],_,_,_,_,h,_=>by simp at h
  | p::P,w::vs,0,m,nd,h1,h2,hk=>by
    simp at h1 h2; subst h1; subst h2
    show bindC kindOf ((p,w)::P.zip vs) m p=_
    unfold bindC
    rw [bindC_out fun v hv=>(List.nodup_cons.mp nd).1 (List.of_mem_zip hv).1,if_neg hk]
    simp
  | p::P,w::vs,i + 1,m,nd,h1,h2,hk=>by
    show bindC kindOf ((p,w)::P.zip vs) m x=_
    unfold bindC
    exact bindC_get (i:=i) (List.nodup_cons.mp nd).2 (by simpa using h1) (by simpa using h2) hk


def start (N:List Str) (vs:List V):St:=vs.map some++List.replicate (N.length - vs.length) none


def cxOf (CX:CXT) (P:Program) (w:World) (K:PySem.W.Frag) (mg:Str→Option Value) (base:Heap) (N:List Str) (qual:Str) (scope:Scope) (f:Addr) (cd:Value) (A:Around) (outer:List Env) (s:Shared) (H:Hp) (E:XK):Cx where
  prog:=P
  w:=w
  K:=K
  mg:=mg
  base:=base
  A:=A.deeper (envOfC qual scope s.heap.objs.size f cd)
  N:=N
  s₀:=s
  H₀:=H
  env:=envOfC qual scope s.heap.objs.size f cd
  outer:=outer
  stack:=envOfC qual scope s.heap.objs.size f cd::outer
  ex:=[]
  calm:=true
  fn:=fun _=>true
  pn:=[]
  xe:=fun e s'=>wpAny (model P w) (A.deeper (envOfC qual scope s.heap.objs.size f cd)) (leaving (envOfC qual scope s.heap.objs.size f cd) e) (fun _ s''=>CX outer H s E e s'') (fun e' s''=>CX outer H s E e' s'') s'

theorem cell_has {sc:Scope} {n:Nat} {x:Str} (h:sc.names.lookup x=some .cell):∃ c,(cellsFrom n sc.names []).lookup x=some c:=by
  have q:=PySem.W.cellsFrom_some sc.names n [] (.inl h)
  exact Option.isSome_iff_exists.mp q

theorem inv_start {CX:CXT} {P:Program} {w:World} {K:PySem.W.Frag} {mg:Str→Option Value} {base:Heap} {N ps:List Str} {qual:Str} {scope:Scope} {f:Addr} {cd:Value} {A:Around} {outer:List Env} {s s1:Shared} {H:Hp} {E:XK} {us:List Value} {vs:List V}
    (S:FnScope N ps scope) (hd:A.handled=none) (e0:Env0 P w K mg base A outer s H) (hl:vs.length=ps.length) (r:Vals vs us)
    (x:InCallC s s.heap.objs.size (bindL (envOfC qual scope s.heap.objs.size f cd).kindOf (ps.zip us) fun _=>none) (cellsFrom (s.heap.objs.size + 1) scope.names []) (bindC (envOfC qual scope s.heap.objs.size f cd).kindOf (ps.zip us) fun _=>none) s1) :
    Inv (cxOf CX P w K mg base N qual scope f cd A outer s H E) [] (start N vs) H s1:=by
  have hpl:ps.length≤N.length:=by have:=congrArg List.length S.pre; rw [List.length_take] at this; omega
  obtain ⟨h1,tk,rfl,hk⟩:=x.done
  have noA:∀ b:Addr,b∉(cxOf CX P w K mg base N qual scope f cd A outer s H E).ex:=fun b z=>absurd (show b∈([]:List Addr) from z) (by simp)
  refine ⟨⟨e0.mod,S.kind,rfl,rfl,Nat.le_refl _,fun y z c h1 h2 => ?_,fun y hy => ?_,fun y c _ h => ?_,fun _=>hd,Around.frames_deeper e0.frames,.inr ⟨rfl,rfl⟩,fun b z=>absurd z (noA b),e0.bs,e0.bsz,fun b _ _=>noA b,fun b z=>absurd z (noA b),e0.funs,e0.frf⟩,
    rfl,e0.bare,Un.kept hk,⟨_,x.toInCall.ns,fun i y v h1 h2 h3 => ?_⟩,fun y c h=>⟨_,x.cell y c h⟩,e0.hok.fresh (Nat.le_refl _),fun y c h => ?_,fun p hp=>absurd (show p∈([]:List (Addr × Obj)) from hp) (by simp),e0.hok.kept hk,?_⟩
  · exact name_of_addr x.apart (PySem.mem_of_lookup h1) (PySem.mem_of_lookup h2)
  · have hy:scope.names.lookup y=some .cell∨scope.names.lookup y=some .free:=hy
    rcases hy with hy | hy
    · exact cell_has hy
    · exact absurd rfl (S.nofree _ (PySem.mem_of_lookup hy))
  · exact Nat.le_of_lt (x.above y c (PySem.mem_of_lookup h))
  · have hi:i < vs.length:=by
      unfold start at h2
      by_cases hi:i < vs.length
      · exact hi
      · rw [List.getElem?_append_right (by simpa using hi)] at h2
        rw [List.getElem?_replicate] at h2
        split at h2 <;> cases h2
    have ha:vs[i]? = some v:=by
      unfold start at h2
      rw [List.getElem?_append_left (by simpa using hi),List.getElem?_map] at h2
      cases e:vs[i]? with
      | none=>rw [e] at h2; cases h2
      | some a=>rw [e] at h2; cases h2; rfl
    obtain ⟨u,hu,rv⟩:=r.get ha
    have hp:ps[i]? = some y:=by
      rw [← S.pre,List.getElem?_take_of_lt (by omega)]; exact h1
    have ndP:ps.Nodup:=by rw [← S.pre]; exact S.nd.sublist (List.take_sublist _ _)
    refine ⟨u,rv,?_⟩
    rcases S.par y (List.mem_of_getElem? hp) with k | k
    · exact .inl ⟨k,bindL_get ndP hp hu k⟩
    · obtain ⟨c,e⟩:=cell_has (n:=s.heap.objs.size + 1) k
      refine .inr ⟨.inl k,c,e,?_⟩
      have q:=x.cell y c e
      rw [bindC_get ndP hp hu (by show scope.names.lookup y≠_; rw [k]; decide)] at q
      exact q
  · exact e0.hok.fresh (Nat.le_of_lt (x.above y c (PySem.mem_of_lookup h)))
  · unfold start
    show _=N.length
    rw [List.length_append,List.length_map,List.length_replicate]
    omega


theorem fn_of {CX:CXT} {P:Program} {w:World} {K:PySem.W.Frag} {mg:Str→Option Value} {base:Heap} {k:Nat} {f:Addr} {name qual:Str} {params:Arguments} {body:List Stmt} {scope:Scope} {dV kV doc pm cdv ct oc:Value} {an od:Option Addr}
    {osl:Array (Option Value)} {N ps:List Str} {sp:Sp} (lk:K.lookup f=some ⟨oc,od,.func (PySem.W.fnOf name qual params body scope dV kV doc pm an cdv ct),osl⟩) (hcd:PySem.W.codeIn K cdv qual=true) (S:FnScope N ps scope)
    (len:∀ vs H Q E,sp vs H Q E→vs.length=ps.length)
    (hbody:∀ (A:Around) (outer:List Env) (s:Shared) (H:Hp) (vs:List V) (Q:VK) (E:XK),Room k (A.deeper (envOfC qual scope s.heap.objs.size f cdv))→sp vs H Q E →
      ∃ t,PSs (cxOf CX P w K mg base N qual scope f cdv A outer s H E) body t∧t { nx:=fun _ H'=>Q .non H',rt:=Q } (start N vs) H) :
    FnOk P w K mg base CX (k + 1) f (PySem.W.fnOf name qual params body scope dV kV doc pm an cdv ct) ps sp:=by
  refine ⟨len,fun A outer s H args us vs Q E hr e0 hb r hsp => ?_⟩
  have hl:=len _ _ _ _ hsp
  have KX:K.In s.heap:=e0.mod.kin.keeps fun b o e=>(e0.bs b o e).1
  have lim:s.heap.NoLimit:=e0.mod.nolimit.keeps fun b o e=>(e0.bs b o e).1
  have hkind:∀ y∈ps.zip us,scope.names.lookup y.1=some .local∨(scope.names.lookup y.1=some .cell∧((cellsFrom (s.heap.objs.size + 1) scope.names []).lookup y.1).isSome=true):=fun ⟨n,v⟩ hy=>by
    rcases S.par n (List.of_mem_zip hy).1 with q | q
    · exact .inl q
    · exact .inr ⟨q,PySem.W.cellsFrom_some _ _ _ (.inl q)⟩
  refine codeAny_call_function hr.depth (KX _ _ lk) rfl S.co S.gen rfl (PySem.W.codeRec_of KX hcd) (hb _ _ _ _ ?_)
  refine wpAny_newFunctionEnv_cells S.kind hkind fun env he s1 x => ?_
  subst he
  refine ⟨lim.keeps x.toInCall.keep,codeAny_func ?_⟩
  obtain ⟨t,ht,hq⟩:=hbody A outer s H vs Q E (hr.deeper _) hsp
  have I:Inv (cxOf CX P w K mg base N qual scope f cdv A outer s H E) [] (start N vs) H s1:=inv_start S hr.hd e0 hl r x
  refine wpAny_mono (ht [] s1 (start N vs) H _ I hq) (fun fl s' hs => ?_) fun e s' hs=>hs
  have fin:∀ {σ':St} {H':Hp} {v:V} {u:Value},Inv (cxOf CX P w K mg base N qual scope f cdv A outer s H E) [] σ' H' s'→RelV v u→Q v H'→CE outer P w H s Q u s' :=
    fun {σ' H' v u} J rv q=>⟨v,H',J.os,J.bare,J.base,J.hok,rv,q⟩
  cases fl with
  | ret u =>
    obtain ⟨v,σ',H',J,rv,q⟩:=hs
    exact fin J rv q
  | next =>
    obtain ⟨σ',H',J,q⟩:=hs
    exact fin (v:=V.non) (u:=Value.none) J rfl q
  | brk =>
    obtain ⟨_,_,_,q⟩:=hs
    exact False.elim q
  | cont =>
    obtain ⟨_,_,_,q⟩:=hs
    exact False.elim q
end L2

namespace L2
open PySem PySem.Spec PyProof.Rows
section
variable {X:Cx} {x:Str} {p pos:Pos} {e:Expr} {es:List Expr} {t:TA} {id T:String} {r:List V→Hp→VK→Prop}

def tCB (r:List V→Hp→VK→Prop) (t:TA):TE:=fun σ H Q=>t σ H fun vs H1=>r vs H1 Q

theorem pe_callB (hc:CallR X (.builtin id) r) (hg:Gl X x) (hm:X.mg x=none) (hv:bootBuiltins x=some (.builtin id)) (ha:PA X (e::es) t) (hn:x ≠ "__name__" := by decide) (hdb:(x == ("__debug__" : Str))=false:=by decide)
    (he:starEach (e::es) X.env=(false,eval e X.env)::starEach es X.env:=by rfl) (hpl:(backTo pos (starEach es X.env)).any (·.1)=false:=by rfl):PE X (.Call (.Name x p) (e::es) [] pos) (tCB r t):=by
  intro pins s σ H Q I h
  refine wpAny_Call_Name_kw (ld_blt I hg hm hv ?_ hn hdb)
  exact PyProof.Rows.callWith_builtin1 (thn (ha pos pins s σ H _ I h) fun us s1 ⟨vs,H1,I1,r1,q1⟩=>hc pins s1 σ H1 vs us Q I1 r1 q1) he hpl

theorem pe_callTy (hc:CallR X (.type T) r) (hg:Gl X x) (hm:X.mg x=none) (hv:bootBuiltins x=some (.type T)) (ha:PA X (e::es) t) (hn:x ≠ "__name__" := by decide) (hdb:(x == ("__debug__" : Str))=false:=by decide)
    (he:starEach (e::es) X.env=(false,eval e X.env)::starEach es X.env:=by rfl) (hpl:(backTo pos (starEach es X.env)).any (·.1)=false:=by rfl):PE X (.Call (.Name x p) (e::es) [] pos) (tCB r t):=by
  intro pins s σ H Q I h
  refine wpAny_Call_Name_kw (ld_blt I hg hm hv ?_ hn hdb)
  exact PyProof.Rows.callWith_type1 (thn (ha pos pins s σ H _ I h) fun us s1 ⟨vs,H1,I1,r1,q1⟩=>hc pins s1 σ H1 vs us Q I1 r1 q1) he hpl

end
end L2

namespace HT
open PySem PyProof.Rows


section
open PySem.SeqAt
open PySem.AutoSeq1 (wpAny_loadPart')
open PySem.MeetsSeq PySem.MeetsSeq2 PySem.MeetsSeq3

end

section
variable {prog:Program} {w:World} {A:Around} {E:Value→Shared→Prop} {s:Shared}

end
end HT

namespace L2
open PySem PySem.Spec PyProof.Rows


abbrev TO:=St→Hp→(Option Int→Hp→Prop)→Prop

def PO (X:Cx) (e:Option Expr) (t:TO):Prop :=
  ∀ (pins:List (Addr × Obj)) (s:Shared) (σ:St) (H:Hp) (Q:Option Int→Hp→Prop),Inv X pins σ H s→t σ H Q →
    wpAny (model X.prog X.w) X.A (evalPart e X.env) (fun u s'=>∃ o H',Inv X pins σ H' s'∧IsPart u o∧Q o H') X.xe s
def tNoPart:TO:=fun _ H Q=>Q none H
def tPart (t:TE):TO:=fun σ H Q=>t σ H fun x H1=>∃ i,x=.int i∧Q (some i) H1

theorem intsAre_of {ns:List Int}:∀ {us:List Value},Vals (ns.map V.int) us→IntsAre us ns:=by
  induction ns with
  | nil=>intro us r; rw [List.map_nil] at r; cases r; exact .nil
  | cons n ns ih =>
    intro us r
    rw [List.map_cons] at r
    cases r with
    | cons r1 r2 =>
      obtain ⟨t,e⟩:=r1
      subst e
      exact .cons n t (ih r2)

section
variable {X:Cx} {e:Expr} {te:TE} {lo hi:Option Expr} {tl th:TO} {pos p2:Pos}

theorem po_none:PO X none tNoPart:=by
  intro pins s σ H Q I h
  rw [evalPart_none]
  exact wpAny_pure ⟨none,H,I,.none,h⟩
theorem po_some (h:PE X e te):PO X (some e) (tPart te):=by
  intro pins s σ H Q I hw
  rw [evalPart_some]
  refine thn (h pins s σ H _ I hw) fun u s1 ⟨x,H1,I1,r1,q1⟩ => ?_
  obtain ⟨i,rfl,q⟩:=q1
  obtain ⟨t,rfl⟩:=r1
  exact ⟨some i,H1,I1,.int i t,q⟩


def SlR (X:Cx) (r:V→Option Int→Option Int→Hp→VK→Prop):Prop :=
  ∀ (pins:List (Addr × Obj)) (s:Shared) (σ:St) (H:Hp) (x:V) (v vl vu:Value) (lo hi:Option Int) (sl:Addr) (Q:VK),Inv X pins σ H s→RelV x v→s.heap.IsSliceOf sl vl vu .none→IsPart vl lo→IsPart vu hi→r x lo hi H Q →
    ∃ T id,typeLookup (.type T) "__getitem__" = pure (some (.builtin id))∧s.TypeIs v T∧wpAny (model X.prog X.w) X.A (getItem v (.ref sl)) (EP X pins σ Q) X.xe s
def tSl (r:V→Option Int→Option Int→Hp→VK→Prop) (te:TE) (tl th:TO):TE:=fun σ H Q=>te σ H fun x H1=>tl σ H1 fun l H2=>th σ H2 fun u H3=>r x l u H3 Q

theorem pe_slice {r:V→Option Int→Option Int→Hp→VK→Prop} (hr:SlR X r) (he:PE X e te) (hl:PO X lo tl) (hu:PO X hi th):PE X (.Subscript e (.Slice lo hi none p2) pos) (tSl r te tl th):=by
  intro pins s σ H Q I h
  refine Subscript_ (thn (he pins s σ H _ I h) fun v s1 ⟨x,H1,I1,r1,q1⟩ => ?_)
  refine wpAny_Slice (thn (hl pins s1 σ H1 _ I1 q1) fun vl s2 ⟨l,H2,I2,pl,q2⟩=>thn (hu pins s2 σ H2 _ I2 q2) fun vu s3 ⟨u,H3,I3,pu,q3⟩ => ?_)
  rw [evalPart_none]
  refine wpAny_pure ?_
  have I4:Inv X pins σ H3 { s3 with heap:=s3.heap.push { cls:=.type "slice",data:=.fields #[vl,vu,.none] } }:=I3.kept (t':=s3.toks) fun b ob q=>Heap.get?_push_of_some _ q
  obtain ⟨T,id,hT,ht,hg⟩:=hr pins { s3 with heap:=s3.heap.push { cls:=.type "slice",data:=.fields #[vl,vu,.none] } } σ H3 x v vl vu l u s3.heap.objs.size Q I4 r1 (Heap.IsSliceOf.new ..) pl pu q3
  show wpAny (model X.prog X.w) X.A (subscriptTail e (.Slice lo hi none p2) v (.ref s3.heap.objs.size)) (EP X pins σ Q) X.xe { s3 with heap:=s3.heap.push { cls:=.type "slice",data:=.fields #[vl,vu,.none] } }
  exact tail_any (ops:=[.ref s3.heap.objs.size,v]) ht hT hg (by with_unfolding_all rfl)


end
end L2

namespace L2
open PySem PySem.Spec PyProof.Rows



def ixN (n:Nat) (i:Int):Option Nat:=if 0≤i then (if i < n then some i.toNat else none) else if -(n:Int)≤i then some (i + n).toNat else none
def atI {α:Type} (xs:List α) (i:Int):Option α:=(ixN xs.length i).bind fun j=>xs[j]?
theorem ixN_seq {n:Nat} {i:Int} {j:Nat} (h:ixN n i=some j):seqIndex? i n=some j∧j < n∧-(n:Int)≤i∧i < n:=by
  unfold ixN at h
  by_cases h0:0≤i
  · rw [if_pos h0] at h
    by_cases h1:i < n
    · rw [if_pos h1] at h
      have e:i.toNat=j:=Option.some.inj h
      exact ⟨by rw [seqIndex_of h0 h1,e],by omega,by omega,h1⟩
    · rw [if_neg h1] at h; cases h
  · rw [if_neg h0] at h
    by_cases h1:-(n:Int)≤i
    · rw [if_pos h1] at h
      have e:(i + n).toNat=j:=Option.some.inj h
      exact ⟨by rw [seqIndex_neg (by omega) h1,e],by omega,h1,by omega⟩
    · rw [if_neg h1] at h; cases h
theorem atI_get {α:Type} {xs:List α} {i:Int} {v:α} (h:atI xs i=some v):∃ j,seqIndex? i xs.length=some j∧xs[j]? = some v∧j < xs.length∧-(xs.length:Int)≤i∧i < xs.length:=by
  unfold atI at h
  cases e:ixN xs.length i with
  | none=>rw [e] at h; cases h
  | some j =>
    rw [e] at h
    obtain ⟨h1,h2,h3,h4⟩:=ixN_seq e
    exact ⟨j,h1,h,h2,h3,h4⟩
theorem atI_nat {α:Type} {xs:List α} {j:Nat} {v:α} (h:xs[j]? = some v):atI xs (j:Int)=some v:=by
  have hj:j < xs.length:=(List.getElem?_eq_some_iff.mp h).1
  have e:ixN xs.length (j:Int)=some j:=by
    unfold ixN
    rw [if_pos (by omega),if_pos (by omega)]; simp
  unfold atI; rw [e]; exact h
def PlainIx (b:Expr):Prop:=∀ o i,subscripted b false o i=operate [o,i] (getItem o i)

def IxR (X:Cx) (r:R2):Prop :=
  ∀ (value slice:Expr) (pins:List (Addr × Obj)) (s:Shared) (σ:St) (H:Hp) (x y:V) (v u:Value) (Q:VK),Inv X pins σ H s→RelV x v→RelV y u→r x y H Q →
    subscripted slice false v u=operate [v,u] (getItem v u)→wpAny (model X.prog X.w) X.A (subscriptTail value slice v u) (EP X pins σ Q) X.xe s

def MtR (X:Cx) (id:String) (r:V→List V→Hp→VK→Prop):Prop :=
  ∀ (pins:List (Addr × Obj)) (s:Shared) (σ:St) (H:Hp) (x:V) (xs:List V) (v:Value) (us:List Value) (Q:VK),Inv X pins σ H s→RelV x v→Vals xs us→r x xs H Q →
    wpAny (model X.prog X.w) X.A (call (.builtin id) (v::us)) (EP X pins σ Q) X.xe s
section
variable {X:Cx} {a b:Expr} {ta tb:TE} {pos:Pos}
theorem pe_ix {r:R2} (hr:IxR X r) (ha:PE X a ta) (hb:PE X b tb) (hs:PlainIx b):PE X (.Subscript a b pos) (tOp r ta tb):=by
  intro pins s σ H Q I h
  exact Subscript_ (binT ha hb I h fun v u s2 x y H2 I2 rx ry q=>hr a b pins s2 σ H2 x y v u Q I2 rx ry q (hs _ _))

def rIxL (K:PySem.W.Frag):R2:=fun x y H Q=>∃ p xs i v,x=.ref p∧y=.int i∧SqL K H p xs∧atI xs i=some v∧Q v H
def rIxT (K:PySem.W.Frag):R2:=fun x y H Q=>∃ p xs i v,x=.ref p∧y=.int i∧SqT K H p xs∧atI xs i=some v∧Q v H
def rIxS:R2:=fun x y H Q=>∃ z i c,x=.str z∧y=.int i∧z.length≤sizeLine∧atI z.cps.toList i=some c∧Q (.str ⟨#[c]⟩) H
theorem ix_list:IxR X (rIxL X.K):=by
  intro value slice pins s σ H x y v u Q I rx ry h hs
  obtain ⟨p,xs,i,z,rfl,rfl,hq,he,q⟩:=h
  cases rx
  obtain ⟨t,rfl⟩:=ry
  obtain ⟨its,r,pl,hz⟩:=I.list hq
  obtain ⟨j,h1,h2,h3,h4,h5⟩:=atI_get he
  obtain ⟨w,ew,rw'⟩:=r.get h2
  have hl:=r.length
  have hn:=line63
  have fin:EP X pins σ Q w s:=⟨z,H,I,rw',q⟩
  by_cases h0:0≤i
  · have hj:i.toNat=j:=by
      rw [seqIndex_of h0 h5] at h1
      exact Option.some.inj h1
    exact item_listR pl.isList h0 (by omega) (by rw [hj]; simpa using ew) fin hs
  · have hj:(i + (its.toArray.size:Int)).toNat=j:=by
      rw [seqIndex_neg (by omega) h4] at h1
      rw [List.size_toArray,← hl]
      exact Option.some.inj h1
    exact subscriptTail_builtinR (x:=w) pl.isList.typeIs slot_list_getitem.lookup
      (wpAny_getItem_list_neg (Q:=fun r s'=>r=w∧EP X pins σ Q r s') pl.isList (by omega) (by rw [List.size_toArray] <;> omega) (by omega) (by rw [hj]; simpa using ew) ⟨rfl,fin⟩) hs
theorem ix_tup:IxR X (rIxT X.K):=by
  intro value slice pins s σ H x y v u Q I rx ry h hs
  obtain ⟨p,xs,i,z,rfl,rfl,hq,he,q⟩:=h
  cases rx
  obtain ⟨t,rfl⟩:=ry
  obtain ⟨its,r,pl,hz⟩:=I.tuple hq
  obtain ⟨j,h1,h2,h3,h4,h5⟩:=atI_get he
  obtain ⟨w,ew,rw'⟩:=r.get h2
  have hl:=r.length
  have hn:=line63
  have fin:EP X pins σ Q w s:=⟨z,H,I,rw',q⟩
  exact subscriptTail_builtinR (x:=w) pl.typeIs slot_tuple_getitem.lookup
    (getItem_tuple (j:=j) (Q:=fun r s'=>r=w∧EP X pins σ Q r s') pl (by omega) (by omega) (by rw [List.size_toArray,← hl]; exact h1) (by simpa using ew) ⟨rfl,fin⟩) hs
theorem ix_str:IxR X rIxS:=by
  intro value slice pins s σ H x y v u Q I rx ry h hs
  obtain ⟨z,i,c,rfl,rfl,hz,he,q⟩:=h
  obtain ⟨t,rfl⟩:=rx
  obtain ⟨t',rfl⟩:=ry
  obtain ⟨j,h1,h2,h3,h4,h5⟩:=atI_get he
  have hl:z.cps.toList.length=z.length:=by simp [Str.length]
  rw [hl] at h1 h4 h5
  have hn:=line63
  exact tail_any (typeIs_str s z t) slot_str_getitem.lookup (getItem_str (c:=c) (by
    have e1:decide (i < -(2 ^ 63:Int))=false:=decide_eq_false (by omega)
    have e2:decide (i ≥ 2 ^ 63)=false:=decide_eq_false (by omega)
    rw [e1,e2,Bool.or_false]) (by rw [h1]; simpa using h2) ⟨.str ⟨#[c]⟩,H,I.tok _,⟨_,rfl⟩,q⟩) hs

theorem mapSeq_set (its:List Value) (n j:Nat) (u:Value):Obj.mapSeq (·.setIfInBounds j u) { cls:=.type "list",data:=.seq its.toArray n }={ cls:=.type "list",data:=.seq (its.set j u).toArray n }:=by
  simp [Obj.mapSeq]
theorem Inv.lst {pins:List (Addr × Obj)} {σ:St} {H:Hp} {s:Shared} {p:Addr} {xs:List V} (I:Inv X pins σ H s) (h:H p=some (.lst xs)) :
    ∃ (its:List Value) (n:Nat),Vals xs its∧s.heap.get? p=some { cls:=.type "list",data:=.seq its.toArray n }∧xs.length≤sizeLine:=by
  obtain ⟨z,its,n,r,e⟩:=I.hok p _ h
  exact ⟨its,n,r,e,z⟩

theorem Inv.lstUpd {pins:List (Addr × Obj)} {σ:St} {H:Hp} {s:Shared} {p:Addr} {xs ys:List V} {its its':List Value} {n n':Nat} {f:Obj→Obj} (I:Inv X pins σ H s) (h:H p=some (.lst xs))
    (ho:s.heap.get? p=some { cls:=.type "list",data:=.seq its.toArray n }) (hf:f { cls:=.type "list",data:=.seq its.toArray n }={ cls:=.type "list",data:=.seq its'.toArray n' }) (r:Vals ys its') (hz:ys.length≤sizeLine) (t:Nat) :
    Inv X pins σ (upd H p (.lst ys)) { s with heap:=s.heap.update p f,toks:=t }:=by
  have e:(s.heap.update p f).get? p=some { cls:=.type "list",data:=.seq its'.toArray n' }:=by
    rw [Heap.get?_update_self f ho (by rw [hf] <;> rfl),hf]
  refine I.write (x:=p) (e:=p) (by rw [h]; trivial) (.inl rfl) (fun b u hb q=>(Heap.get?_update_other _ _ (Ne.symm hb)).trans q) ⟨_,e⟩ ?_
  exact ⟨hz,its',n',r,e⟩
def rSetL:V→V→V→Hp→(Hp→Prop)→Prop:=fun o i v H Q=>∃ p xs k j,o=.ref p∧i=.int k∧H p=some (.lst xs)∧ixN xs.length k=some j∧Q (upd H p (.lst (xs.set j v)))
theorem set_list:PSet X rSetL:=by
  intro pins s σ H o i v ov iv u Q I ro ri rv h
  obtain ⟨p,xs,k,j,rfl,rfl,hp,hj,q⟩:=h
  cases ro
  obtain ⟨t,rfl⟩:=ri
  obtain ⟨its,n,r,ho,hz⟩:=I.lst hp
  obtain ⟨h1,h2,h3,h4⟩:=ixN_seq hj
  have hl:=r.length
  have hn:=line63
  have I':Inv X pins σ (upd H p (.lst (xs.set j v))) { s with heap:=s.heap.update p (Obj.mapSeq (·.setIfInBounds j u)) } :=
    I.lstUpd hp ho (mapSeq_set its n j u) (r.set rv j) (by rw [List.length_set]; exact hz) s.toks
  by_cases h0:0≤k
  · have hk:k.toNat=j:=by
      rw [seqIndex_of h0 h4] at h1
      exact Option.some.inj h1
    exact PySem.W.ki_setAt ho h0 (by omega) (by rw [List.size_toArray,← hl]; exact h4) (by rw [hk]; exact ⟨_,I',q⟩)
  · have hk:(k + (its.toArray.size:Int)).toNat=j:=by
      rw [seqIndex_neg (by omega) h3] at h1
      rw [List.size_toArray,← hl]
      exact Option.some.inj h1
    exact PySem.W.ki_setBack ho (by omega) (by rw [List.size_toArray,← hl]; exact h3) (by omega) (by rw [hk]; exact ⟨_,I',q⟩)


def flatV:V→Bool
  | .non=>true
  | .bl _=>true
  | .int _=>true
  | .str _=>true
  | _=>false

def eqV:V→V→Bool
  | .non,.non=>true
  | .bl a,.bl b=>a == b
  | .bl a,.int b=>(if a then 1 else 0) == b
  | .int a,.bl b=>a == (if b then 1 else 0)
  | .int a,.int b=>a == b
  | .str a,.str b=>a == b
  | _,_=>false
theorem eqAt_V {A:Around} {s:Shared} {y x:V} {u v:Value} (ry:RelV y u) (rx:RelV x v) (fy:flatV y=true) (fx:flatV x=true):SeqAt.EqAt A s u v (eqV y x):=by
  cases y with
  | non =>
    cases ry
    cases x with
    | non=>cases rx; exact SeqAt.EqAt.same _
    | bl b=>cases rx; exact SeqAt.EqAt.none_bool b
    | int b=>obtain ⟨t,rfl⟩:=rx; exact SeqAt.EqAt.none_int b t
    | str b=>obtain ⟨t,rfl⟩:=rx; exact SeqAt.EqAt.none_str b t
    | _=>exact absurd (show false=true from fx) Bool.false_ne_true
  | bl a =>
    cases ry
    cases x with
    | non=>cases rx; exact SeqAt.EqAt.bool_none a
    | bl b=>cases rx; exact SeqAt.EqAt.bool_bool a b
    | int b=>obtain ⟨t,rfl⟩:=rx; exact SeqAt.EqAt.bool_int a b t
    | str b=>obtain ⟨t,rfl⟩:=rx; exact SeqAt.EqAt.bool_str a b t
    | _=>exact absurd (show false=true from fx) Bool.false_ne_true
  | int a =>
    obtain ⟨t',rfl⟩:=ry
    cases x with
    | non=>cases rx; exact SeqAt.EqAt.int_none a t'
    | bl b=>cases rx; exact SeqAt.EqAt.int_bool a t' b
    | int b=>obtain ⟨t,rfl⟩:=rx; exact SeqAt.EqAt.int_int a t' b t
    | str b=>obtain ⟨t,rfl⟩:=rx; exact SeqAt.EqAt.int_str a t' b t
    | _=>exact absurd (show false=true from fx) Bool.false_ne_true
  | str a =>
    obtain ⟨t',rfl⟩:=ry
    cases x with
    | non=>cases rx; exact SeqAt.EqAt.str_none a t'
    | bl b=>cases rx; exact SeqAt.EqAt.str_bool a t' b
    | int b=>obtain ⟨t,rfl⟩:=rx; exact SeqAt.EqAt.str_int a t' b t
    | str b=>obtain ⟨t,rfl⟩:=rx; exact SeqAt.EqAt.str_str a t' b t
    | _=>exact absurd (show false=true from fx) Bool.false_ne_true
  | _=>exact absurd (show false=true from fy) Bool.false_ne_true

def eqU (x:V) (u:Value):Bool:=match u with
  | .none=>eqV .non x
  | .bool b=>eqV (.bl b) x
  | .int i _=>eqV (.int i) x
  | .str z _=>eqV (.str z) x
  | _=>false
theorem eqU_of {x y:V} {u:Value} (r:RelV y u) (f:flatV y=true):eqU x u=eqV y x:=by
  cases y with
  | non=>cases r; rfl
  | bl b=>cases r; rfl
  | int i=>obtain ⟨t,rfl⟩:=r; rfl
  | str z=>obtain ⟨t,rfl⟩:=r; rfl
  | _=>exact absurd (show false=true from f) Bool.false_ne_true
theorem any_eqU {x:V}:∀ {xs:List V} {us:List Value},Vals xs us→xs.all flatV=true→us.any (eqU x)=xs.any fun y=>eqV y x
  | _,_,.nil,_=>rfl
  | y::xs,u::us,.cons r t,f=>by
    rw [List.all_cons,Bool.and_eq_true] at f
    rw [List.any_cons,List.any_cons,eqU_of r f.1,any_eqU t f.2]
theorem mem_eqAt {A:Around} {s:Shared} {x:V} {v:Value} (rx:RelV x v) (fx:flatV x=true):∀ {xs:List V} {us:List Value},Vals xs us→xs.all flatV=true→∀ u∈us,SeqAt.EqAt A s u v (eqU x u)
  | _,_,.nil,_=>fun u hu=>by cases hu
  | y::xs,u::us,.cons r t,f=>fun u' hu=>by
    rw [List.all_cons,Bool.and_eq_true] at f
    rcases List.mem_cons.mp hu with rfl | hu
    · rw [eqU_of r f.1]; exact eqAt_V r rx f.1 fx
    · exact mem_eqAt rx fx t f.2 u' hu
def inV (x:V) (xs:List V):Bool:=xs.any fun y=>eqV y x

def rIn (K:PySem.W.Frag) (neg:Bool):R2:=fun x y H Q=>∃ p xs,y=.ref p∧(SqL K H p xs∨SqT K H p xs)∧flatV x=true∧xs.all flatV=true∧Q (.bl (if neg then !inV x xs else inV x xs)) H
theorem op_in_seq:OpR X (compareOp .In) (rIn X.K false):=by
  intro pins s σ H x y v u Q I rx ry h
  obtain ⟨p,xs,rfl,hq,fx,fs,q⟩:=h
  cases ry
  rcases hq with hq | hq
  · obtain ⟨its,r,pl,hz⟩:=I.list hq
    refine SeqAt.in_listAt (eqU x) pl.isList (fun w hw=>mem_eqAt rx fx r fs w (by simpa using hw)) ⟨.bl _,H,I,rfl,?_⟩
    rw [show its.toArray.any (eqU x)=its.any (eqU x) by simp,any_eqU r fs]
    exact q
  · obtain ⟨its,r,pl,hz⟩:=I.tuple hq
    refine SeqAt.in_tupleAt (eqU x) pl (fun w hw=>mem_eqAt rx fx r fs w (by simpa using hw)) ⟨.bl _,H,I,rfl,?_⟩
    rw [show its.toArray.any (eqU x)=its.any (eqU x) by simp,any_eqU r fs]
    exact q
theorem call_list_of:CallR X (.type "list") (fun xs H Q=>∃ p ys,xs=[.ref p]∧(SqL X.K H p ys∨SqT X.K H p ys)∧∀ l,H l=none→Q (.ref l) (upd H l (.lst ys))):=by
  intro pins s σ H xs us Q I r h
  obtain ⟨p,ys,rfl,hq,q⟩:=h
  obtain ⟨u,rfl,rx⟩:=vals1 r
  cases rx
  have fin:∀ (its:List Value),Vals ys its→ys.length≤sizeLine→∀ (h':Heap) (c':Nat),(∀ b o',s.heap.get? b=some o'→h'.get? b=some o') →
      h'.get? s.heap.objs.size=some { cls:=.type "list",dict:=none,data:=.seq its.toArray c',slots := #[] }→EP X pins σ Q (.ref s.heap.objs.size) { s with heap:=h' }:=fun its r' hz h' c' kp e =>
    ⟨.ref s.heap.objs.size,_,I.laid (t':=s.toks) kp (Nat.le_refl _) (show ObjOk X.prog X.w _ h' _ (.lst ys) from ⟨hz,its,c',r',e⟩),rfl,q _ (I.hok.fresh (Nat.le_refl _))⟩
  rcases hq with hq | hq
  · obtain ⟨its,r',pl,hz⟩:=I.list hq
    have hlen:=r'.length
    obtain ⟨o,ho,hc,n,hd⟩:=pl.isList
    exact call_list_seq p (.inl rfl) ho hc hd (fun h' c' kp e=>fin its r' hz h' c' kp e) (by simp only [List.size_toArray] <;> omega)
  · obtain ⟨its,r',pl,hz⟩:=I.tuple hq
    have hlen:=r'.length
    obtain ⟨o,ho,hc,n,hd⟩:=pl
    exact call_list_seq p (.inr rfl) ho hc hd (fun h' c' kp e=>fin its r' hz h' c' kp e) (by simp only [List.size_toArray] <;> omega)
def tyV (K:PySem.W.Frag) (T:String) (x:V) (H:Hp):Prop:=match x with
  | .str _=>T = "str"
  | .int _=>T = "int"
  | .ref p=>(T = "list" ∧ ∃ xs,SqL K H p xs)∨(T = "tuple" ∧ ∃ o,K.lookup p=some o∧o.cls=.type "tuple" ∧ o.dict=none) ∨
      (T = "dict" ∧ ((∃ kvs,H p=some (.dK kvs))∨∃ kvs,H p=some (.dT kvs)))∨(T = "set" ∧ ∃ S n,H p=some (.set S n))
  | _=>False
theorem tyV_is {pins:List (Addr × Obj)} {σ:St} {H:Hp} {s:Shared} {T:String} {x:V} {v:Value} (I:Inv X pins σ H s) (r:RelV x v) (ty:tyV X.K T x H) :
    s.TypeIs v T∧∀ a,v=.ref a→∃ ob,s.heap.get? a=some ob∧ob.dict=none:=by
  cases x with
  | str z =>
    obtain ⟨t,rfl⟩:=r
    cases (show T = "str" from ty)
    exact ⟨typeIs_str s z t,fun _ e=>nomatch e⟩
  | int i =>
    obtain ⟨t,rfl⟩:=r
    cases (show T = "int" from ty)
    exact ⟨typeIs_int s i t,fun _ e=>nomatch e⟩
  | ref p =>
    cases r
    rcases ty with ⟨rfl,xs,hq⟩ | ⟨rfl,o,hk,hc,hd⟩ | ⟨rfl,hk⟩ | ⟨rfl,S,n,hk⟩
    · obtain ⟨its,_,pl,_⟩:=I.list hq
      refine ⟨pl.isList.typeIs,fun a e => ?_⟩
      cases e
      obtain ⟨o,n,e,c,hd,_⟩:=pl
      exact ⟨o,e,hd⟩
    · refine ⟨⟨o,I.kIn p o hk,hc⟩,fun a e => ?_⟩
      cases e
      exact ⟨o,I.kIn _ o hk,hd⟩
    · have z:∃ o,s.heap.get? p=some o∧o.ExactDict:=by
        rcases hk with ⟨kvs,hk⟩ | ⟨kvs,hk⟩
        · obtain ⟨_,_,_,_,o,_,_,e,ex,_⟩:=I.hok p _ hk
          exact ⟨o,e,ex⟩
        · obtain ⟨_,_,_,_,o,_,_,e,ex,_⟩:=I.hok p _ hk
          exact ⟨o,e,ex⟩
      obtain ⟨o,e,ex⟩:=z
      refine ⟨⟨o,e,ex.1⟩,fun a e2 => ?_⟩
      cases e2
      exact ⟨o,e,ex.2.1⟩
    · obtain ⟨o,_,_,_,e,ex,_⟩:=I.hok p _ hk
      refine ⟨⟨o,e,ex.1⟩,fun a e2 => ?_⟩
      cases e2
      exact ⟨o,e,ex.2.1⟩
  | _=>exact False.elim ty
def tBM (K:PySem.W.Frag) (T:String) (r:V→List V→Hp→VK→Prop) (to:TE) (t:TA):TE:=fun σ H Q=>to σ H fun x H1=>tyV K T x H1∧t σ H1 fun xs H2=>r x xs H2 Q
variable {o e:Expr} {es:List Expr} {to:TE} {t:TA} {name:Str} {apos cpos:Pos} {T id:String} {r:V→List V→Hp→VK→Prop}
theorem pe_bm (pa:PlainAttrs T) (slot:Slot T name id) (hty:typeOf (.builtin id)=pure (.type "method_descriptor")) (hm:MtR X id r) (ho:PE X o to) (ha:PA X (e::es) t)
    (hbase:attributeBase o name X.env (eval o X.env)=eval o X.env:=by rfl)
    (hfew:((backTo cpos (starEach (e::es) X.env)).all (fun x => !x.1) && (backToKw cpos (keywordEach [] X.env)).all (fun x=>x.1.isSome)
      && decide ((e::es).length + ([]:List Keyword).length + (if ([]:List Keyword).isEmpty then 0 else 1) < 30))=true:=by rfl)
    (hline:(apos.endLine == cpos.line)=true:=by rfl) (hs:starEach (e::es) X.env=(false,eval e X.env)::starEach es X.env:=by rfl) (hplain:(backTo cpos (starEach es X.env)).any (·.1)=false:=by rfl) :
    PE X (.Call (.Attribute o name apos) (e::es) [] cpos) (tBM X.K T r to t):=by
  intro pins s σ H Q I h
  refine wpAny_Call_method_late hbase hfew hline rfl (thn (ho pins s σ H _ I h) fun v s1 ⟨x,H1,I1,r1,ty,q1⟩ => ?_)
  obtain ⟨h1,h2⟩:=tyV_is I1 r1 ty
  refine ⟨T,id,pa,slot,hty,h1,h2,?_⟩
  have hA:=ha cpos pins s1 σ H1 _ I1 q1
  rw [hs] at hA ⊢
  refine Calls.callWith_builtin (by show (false || (backTo cpos (starEach es X.env)).any (·.1))=false; rw [hplain] <;> rfl) (Calls.evalArgs_plain ?_)
  exact thn hA fun us s2 ⟨vs,H2,I2,r2,q2⟩=>hm pins s2 σ H2 x vs v us Q I2 r1 r2 q2

end
end L2

namespace L2
open PySem PySem.Spec PyProof.Rows

def MtM (X:Cx) (id:String) (r:V→List V→Hp→VK→Prop):Prop :=
  ∀ (pins:List (Addr × Obj)) (s:Shared) (σ:St) (H:Hp) (x:V) (xs:List V) (v:Value) (us:List Value) (Q:VK),Inv X pins σ H s→RelV x v→Vals xs us→r x xs H Q →
    wpAny (model X.prog X.w) X.A (call (.builtin id) (v::us)) (EP X pins σ Q) X.xe s


theorem Vals.one:∀ {x:V} {us:List Value},Vals [x] us→∃ u,us=[u]∧RelV x u
  | _,_,.cons r .nil=>⟨_,rfl,r⟩
theorem Vals.rep {xs:List V} {us:List Value} (h:Vals xs us):∀ k:Nat,Vals (List.replicate k xs).flatten (List.replicate k us).flatten
  | 0=>.nil
  | k + 1=>by
    rw [List.replicate_succ,List.replicate_succ,List.flatten_cons,List.flatten_cons]
    exact Vals.append h (Vals.rep h k)
theorem foldl_rep (its:List Value):∀ (k:Nat) (acc:List Value),
    List.foldl (fun x1 x2=>x1++x2) acc.toArray (List.replicate k its.toArray)=(acc++(List.replicate k its).flatten).toArray
  | 0,acc=>by simp
  | k + 1,acc=>by
    have e:acc.toArray++its.toArray=(acc++its).toArray:=by simp
    have e2:(acc++its)++(List.replicate k its).flatten=acc++(List.replicate (k + 1) its).flatten:=by
      rw [List.replicate_succ,List.flatten_cons,List.append_assoc]
    rw [← e2,← foldl_rep its k (acc++its),← e,List.replicate_succ,List.foldl_cons]

section
variable {X:Cx} {pins:List (Addr × Obj)} {σ:St} {H:Hp} {s:Shared} {l b:Addr} {xs ys zs:List V}


theorem Inv.lset {its its':List Value} {n:Nat} {f:Array Value→Array Value} {t':Nat} (I:Inv X pins σ H s) (hH:H l=some (.lst xs))
    (e:s.heap.get? l=some { cls:=.type "list",data:=.seq its.toArray n }) (hf:f its.toArray=its'.toArray) (hv:Vals ys its') (hz:ys.length≤sizeLine) :
    Inv X pins σ (upd H l (.lst ys)) { s with heap:=s.heap.update l (Obj.mapSeq f),toks:=t' }:=by
  have q:=PySem.IsL.update e f
  rw [hf] at q
  refine I.write (x:=l) (e:=l) (by rw [hH]; exact trivial) (.inl rfl) (fun b' u hb hu=>(Heap.get?_update_other s.heap (Obj.mapSeq f) (Ne.symm hb)).trans hu) ⟨_,q⟩ ?_
  exact ⟨hz,its',_,hv,q⟩
theorem Inv.lnew {its:List Value} {t':Nat} (I:Inv X pins σ H s) (hv:Vals ys its) (hz:ys.length≤sizeLine) :
    Inv X pins σ (upd H s.heap.objs.size (.lst ys)) { s with heap:=s.heap.push { cls:=.type "list",data:=.seq its.toArray },toks:=t' } :=
  I.laid (fun _ _ q=>Heap.get?_push_of_some _ q) (Nat.le_refl _) ⟨hz,its,0,hv,Heap.get?_push_size _ rfl⟩
theorem Inv.fresh (I:Inv X pins σ H s):H s.heap.objs.size=none:=I.hok.fresh (Nat.le_refl _)
theorem Inv.lstM (I:Inv X pins σ H s) (hH:H l=some (.lst xs)):xs.length≤sizeLine∧∃ (its:List Value) (n:Nat),Vals xs its∧xs.length=its.length∧s.heap.get? l=some { cls:=.type "list",data:=.seq its.toArray n }:=by
  obtain ⟨z,its,n,r,e⟩:=I.hok l _ hH
  exact ⟨z,its,n,r,r.length,e⟩

theorem notLongL {n:Nat} (h:n≤sizeLine):Builtin.List.listTooLong n=false:=by
  unfold Builtin.List.listTooLong
  exact decide_eq_false (by omega)
end

section
variable {X:Cx}


def rAppend:V→List V→Hp→VK→Prop:=fun x vs H Q=>∃ l xs y,x=.ref l∧vs=[y]∧H l=some (.lst xs)∧xs.length < sizeLine∧Q .non (upd H l (.lst (xs++[y])))
theorem mt_append:MtM X "list.append" rAppend:=by
  intro pins s σ H x vs v us Q I rx rv h
  obtain ⟨l,xs,y,rfl,rfl,hH,hz,q⟩:=h
  cases rx
  obtain ⟨u,rfl,ru⟩:=rv.one
  obtain ⟨z,its,n,r,hl,e⟩:=I.lstM hH
  refine call_meets F.slot_list_append ⟨_,e,rfl⟩ F.entry_list_append (F.args_list_append_2 _ _) (PySem.list_append l its.toArray n u (by rw [List.size_toArray]; omega)) ⟨e,?_⟩
  refine ⟨.non,_,I.lset (its':=its++[u]) hH e (by simp) (r.append (.cons ru .nil)) ?_,rfl,q⟩
  rw [List.length_append,List.length_singleton]
  omega

def rExtend:V→List V→Hp→VK→Prop:=fun x vs H Q=>∃ l b xs zs,x=.ref l∧vs=[.ref b]∧H l=some (.lst xs)∧H b=some (.lst zs)∧xs.length + zs.length≤sizeLine∧Q .non (upd H l (.lst (xs++zs)))
theorem mt_extend:MtM X "list.extend" rExtend:=by
  intro pins s σ H x vs v us Q I rx rv h
  obtain ⟨l,b,xs,zs,rfl,rfl,hH,hB,hz,q⟩:=h
  cases rx
  obtain ⟨u,rfl,ru⟩:=rv.one
  cases ru
  obtain ⟨z,its,n,r,hl,e⟩:=I.lstM hH
  obtain ⟨z2,its2,n2,r2,hl2,e2⟩:=I.lstM hB
  have hsz:its.toArray.size + its2.toArray.size≤sizeLine:=by rw [List.size_toArray,List.size_toArray]; omega
  have hlong:¬ (!its.toArray.isEmpty && Builtin.List.listTooLong (its.toArray.size + its2.toArray.size))=true:=by
    rw [notLongL hsz,Bool.and_false]
    exact Bool.false_ne_true
  refine call_meets F.slot_list_extend ⟨_,e,rfl⟩ F.entry_list_extend (F.args_list_extend_2 _ _)
    (AutoSeq1.list_extend_list_list_0 l its.toArray n b its2.toArray n2 hlong (by rw [List.size_toArray]; omega) (by omega)) ⟨e,e2,?_⟩
  refine ⟨.non,_,I.lset (its':=its++its2) hH e (by simp) (r.append r2) ?_,rfl,q⟩
  rw [List.length_append]
  omega

def rRep:R2:=fun x y H Q=>∃ l k xs,x=.ref l∧y=.int k∧H l=some (.lst xs)∧-(2 ^ 63)≤k∧k < 2 ^ 63∧xs.length * k.toNat≤sizeLine ∧
  ∀ p,H p=none→Q (.ref p) (upd H p (.lst (List.replicate k.toNat xs).flatten))
theorem len_rep {α:Type} (xs:List α) (k:Nat):(List.replicate k xs).flatten.length=k * xs.length:=by
  induction k with
  | zero=>simp
  | succ k ih=>rw [List.replicate_succ,List.flatten_cons,List.length_append,ih,Nat.succ_mul,Nat.add_comm]
theorem op_rep:OpR X (binaryOp .Mult) rRep:=by
  intro pins s σ H x y v u Q I rx ry h
  obtain ⟨l,k,xs,rfl,rfl,hH,h1,h2,hz,q⟩:=h
  cases rx
  obtain ⟨t,rfl⟩:=ry
  obtain ⟨z,its,n,r,hl,e⟩:=I.lstM hH
  have hlen:its.toArray.size * k.toNat≤sizeLine:=by rw [List.size_toArray,← hl]; exact hz
  have hcap:¬ its.toArray.size * k.toNat > (2 ^ 63 - 1) / 8:=by
    have:(sizeLine:Nat)≤(2 ^ 63 - 1) / 8:=by decide
    omega
  have hfit:¬ (!Builtin.List.listFitsIndex k)=true:=by
    rw [fitsIndex_both h1 h2]
    exact Bool.false_ne_true
  have hlong:¬ Builtin.List.listTooLong (its.toArray.size * k.toNat)=true:=by
    rw [notLongL hlen]
    exact Bool.false_ne_true
  have hnew:List.foldl (fun x1 x2=>x1++x2) #[] (List.replicate (if its.toArray.isEmpty=true then 0 else k.toNat) its.toArray)=(List.replicate k.toNat its).flatten.toArray:=by
    have f0:∀ m:Nat,List.foldl (fun x1 x2=>x1++x2) #[] (List.replicate m its.toArray)=(List.replicate m its).flatten.toArray:=fun m=>by
      have:=foldl_rep its m []
      rw [List.nil_append] at this
      exact this
    rw [f0]
    cases its with
    | nil=>simp
    | cons a r'=>rw [if_neg (by simp)]
  refine wpAny_binaryOp_repeat_ref (T := "list") (U := "int") (by decide) ⟨_,e,rfl⟩ (fun s'=>typeIs_int s' k t) noFill_list_mul F.fills_int_mul F.slot_int_rmul repeat_list F.slot_int_index.lookup
    (call_meets F.slot_int_rmul (typeIs_int s k t) F.entry_int_rmul (F.args_int_rmul_2 _ _) (int___rmul___int_list k t l its.toArray n)
      ⟨e,rfl,⟨_,e,rfl⟩,call_meets F.slot_list_mul ⟨_,e,rfl⟩ F.entry_list_mul (F.args_list_mul_2 _ _) (AutoListH.list___mul___list_int_3 l its.toArray n k t hfit hcap hlong) ⟨e,?_⟩⟩)
  rw [hnew]
  exact ⟨.ref _,_,I.lnew (t':=s.toks) (r.rep k.toNat) (by rw [len_rep,Nat.mul_comm]; exact hz),rfl,q _ I.fresh⟩


end


section
variable {prog:Program} {w:World} {A:Around} {E:Value→Shared→Prop} {s:Shared}
set_option maxRecDepth 100000 in

end

section
variable {X:Cx}

end
end L2

namespace Att
open PySem PySem.W PySem.Calls PyProof.Rows


theorem ints_of_wellAll {P:Params} {h:Heap}:∀ (ns:List Int) (vs:List Value),WellAll P h vs (ns.map WData.int)→IntsAre vs ns:=by
  intro ns
  induction ns with
  | nil =>
    intro vs w
    rw [List.map_nil] at w
    cases w
    exact .nil
  | cons n ns ih =>
    intro vs w
    rw [List.map_cons] at w
    cases w with
    | cons a b =>
      cases a
      exact .cons _ _ (ih _ b)

theorem script_of {l:OpenLaw} {n:Nat} (hn:l.most=some n) {P:Params} {h:Heap} {args:List WData} {vals:List Value}
    (hpre:l.row.toRowW.claim.pre args=true) (hwl:WellAll P h vals args) :
    ∃ a vs ns,vals=[Value.ref a]∧args=[WData.list (ns.map WData.int)]∧h.get? a=some { cls:=.type "list",data:=.seq vs.toArray }∧IntsAre vs ns∧ns.length≤n:=by
  have hsh:WShape.hasAll [] args [.list .int]=true:=(pre_splitW hpre).1
  have hc:l.pre.holds [] { args:=args }=true:=(pre_splitW hpre).2
  obtain ⟨d,r,rfl,h1,h2⟩:=hasAllW_cons hsh
  obtain rfl:=hasAllW_nil h2
  obtain ⟨xs,rfl,h3⟩:=hasW_list h1
  obtain ⟨ns,rfl⟩:=items_int h3
  have hlen:ns.length≤n:=by
    unfold OpenLaw.pre at hc
    have h4:(WTm.not (.lt (.lit (.int (n:Int))) (.len (.arg 0)))).holds [] { args:=[.list (ns.map .int)] }=true:=by
      have h4:=(holds_andW hc).1
      rw [hn] at h4
      exact h4
    have h5:=condW_of h4 (w_not (w_lt w_lit (w_len_list (w_arg rfl))))
    rw [List.length_map] at h5
    refine Nat.le_of_not_lt fun q => ?_
    have q':(n:Int) < ((ns.length:Nat):Int):=by omega
    first
      | (rw [decide_eq_true q'] at h5; exact absurd h5 (by decide))
      | (simp at h5; omega)
  cases hwl with
  | cons w1 w2 =>
    cases w2
    cases w1 with
    | list ho hall=>exact ⟨_,_,ns,rfl,rfl,ho,ints_of_wellAll ns _ hall,hlen⟩

theorem post_true (l:OpenLaw) (args:List WData):l.row.toRowW.claim.post args (.bool true) args=true :=
  postW_of (r:=l.row.toRowW) (X:=(true == true))
    (show WShape.has [] (.bool true) .bool=true by first | rfl | decide | simp [WShape.has,WShape.arms,WShape.armsAll])
    (show (WTm.eq .res (.lit (.bool true))).value [] { args:=args,res:=some (.bool true),after:=args }=some (.bool (true == true)) from w_eq_bool (w_res rfl) w_lit) rfl


theorem attach_call {l:OpenLaw} {n:Nat} {q:Program} {loose:List Str} {XP:(Str→Option Value)→Heap→Prop} {YP:World→Heap→Prop} {d:DefRec}
    (hn:l.most=some n) (hdf:d.params.defaults=[])
    (call:∀ (w:World) (s₀ s₁:Shared) (mg mb:Str→Option Value) (fa:Addr) (o:Obj) (pm cd doc:Value) (a:Addr) (vs:List Value) (ns:List Int),
      Ground q loose [] XP w s₀ mg mb s₁.heap→YP w s₁.heap →
      s₁.heap.get? fa=some o→o.data=.func (docDef d.name d.params d.body d.scope pm cd doc)→s₁.heap.CodeRec cd d.name→mg d.name=some (.ref fa) →
      s₁.heap.get? a=some { cls:=.type "list",data:=.seq vs.toArray }→IntsAre vs ns→ns.length≤n→s₁.gens = #[] →
      codeAny (model l.prog w) callerA (.call (.ref fa) ⟨[.ref a],[]⟩) (fun r s'=>r=.ok (.ret (.bool true))∧OldK s₁.heap s'.heap∧s'.os=s₁.os∧AllBare s'.gens) s₁) :
    WalkO q loose XP YP l.row.toRowW d [] (fun f vs=>PySem.call f vs):=by
  intro w s₀ s₁ mg mb G Y fa o pm cd doc dV kV ho hd hcd hD hmg hg args vals as hpre hlay hrd hwl hlo
  obtain rfl:dV=.none:=Dflts.none hD hdf
  obtain rfl:kV=.none:=Dflts.noKw hD
  obtain ⟨a,vs,ns,rfl,rfl,hobj,hints,hlen⟩:=script_of hn hpre hwl
  refine enter_call (codeAny_mono (call w s₀ s₁ mg mb fa o pm cd doc a vs ns G Y ho (fd_plain hd) hcd hmg hobj hints hlen hg) fun r s' hq => ?_)
  obtain ⟨rfl,h2,h3,h4⟩:=hq
  exact ⟨.inl ⟨.bool true,.bool true,[],rfl,fun _=>rfl,.bool true,post_true l _,fun _=>⟨List.Pairwise.nil,fun _ hm=>(nomatch hm)⟩⟩,h2,h3,h4⟩


section
variable {prog:Program} {w:World} {A:Around} {E:Value→Shared→Prop} {s:Shared} {K:Frag}


end
end Att

namespace L2
open PySem PySem.Spec PyProof.Rows

theorem vals_ints:∀ {vs:List Value} {ns:List Int},IntsAre vs ns→Vals (ns.map V.int) vs
  | _,_,.nil=>.nil
  | _,_,.cons n t h=>.cons ⟨t,rfl⟩ (vals_ints h)


def Only (H:Hp):Prop:=∀ b,H b=none∨∃ o xs,H b=some (.frz o (.lst xs))


theorem law_call {P:Program} {w:World} {K:PySem.W.Frag} {mg mb:Str→Option Value} {CX:CXT} {k:Nat} {fa a:Addr} {fd:FuncData} {x:Str} {sp:Sp} {s₁:Shared} {vs:List Value} {ns:List Int}
    (KX:K.In s₁.heap) (hns:s₁.heap.Ns mainGlobals mg) (hb:s₁.heap.Ns builtinsNs mb) (hbb:∀ x:Str,x ≠ "__name__" → mb x=bootBuiltins x) (hlim:s₁.heap.NoLimit) (hg:s₁.gens = #[])
    (ha:s₁.heap.get? a=some { cls:=.type "list",data:=.seq vs.toArray }) (hi:IntsAre vs ns) (hl:ns.length≤sizeLine) (hr:Room k callerA)
    (F:∀ base:Heap,K.In base→base.Ns mainGlobals mg→FnOk P w K mg base CX k fa fd [x] sp) (hbind:∀ (s:Shared) (u:Value),BindsTo s fd ⟨[u],[]⟩ [(x,u)])
    (hsp:∀ H:Hp,Only H→SqL K H a (ns.map V.int)→sp [.ref a] H (fun v _=>v=.bl true) fun _ _ _=>False)
    (hCX:∀ H e s',CX [] H s₁ (fun _ _ _=>False) e s'→False) :
    codeAny (model P w) callerA (.call (.ref fa) ⟨[.ref a],[]⟩) (fun r s'=>r=.ok (.ret (.bool true))∧OldK s₁.heap s'.heap∧s'.os=s₁.os∧AllBare s'.gens) s₁:=by
  have rv:=vals_ints hi
  have lenV:=hi.length
  -- from an abstract heap in which nothing but the script may be tracked
  have core:∀ H:Hp,Only H→SqL K H a (ns.map V.int)→HOk P w H s₁.heap→(∀ b,H b≠none→b=a)→(H a≠none→K.lookup a=none) →
      codeAny (model P w) callerA (.call (.ref fa) ⟨[.ref a],[]⟩) (fun r s'=>r=.ok (.ret (.bool true))∧OldK s₁.heap s'.heap∧s'.os=s₁.os∧AllBare s'.gens) s₁:=by
    intro H hO hS hok hA hK
    have base_of:∀ {b:Addr} {o:Obj},s₁.heap.get? b=some o→H b=none→(hidT s₁.heap H).get? b=some o:=fun e n=>hidT_get e n
    have noA:∀ {b:Addr} {o:Obj} {es:Array DictEntry} {ep:Nat},s₁.heap.get? b=some o→o.data=.dict es ep→H b=none:=fun {b o es ep} e d=>by
      cases q:H b with
      | none=>rfl
      | some u =>
        have e':b=a:=hA b (by rw [q]; simp)
        subst e'
        rw [ha] at e; cases e
        have d':Data.seq vs.toArray _=Data.dict es ep:=d
        cases d'
    have nsK:∀ {b:Addr} {m:Str→Option Value},s₁.heap.Ns b m→(hidT s₁.heap H).Ns b m:=fun {b m} ⟨o,es,ep,e,d,r⟩=>⟨o,es,ep,base_of e (noA e d),d,r⟩
    have hKb:K.In (hidT s₁.heap H):=fun b o e=>base_of (KX b o e) (by
      cases q:H b with
      | none=>rfl
      | some u =>
        have e':b=a:=hA b (by rw [q]; simp)
        subst e'
        rw [hK (by rw [q]; simp)] at e; cases e)
    have hM:Mod K mg (hidT s₁.heap H):=⟨hKb,nsK hns,⟨mb,nsK hb,hbb⟩,let ⟨mc,h1,h2⟩:=hlim; ⟨mc,nsK h1,h2⟩⟩
    have e0:Env0 P w K mg (hidT s₁.heap H) callerA [] s₁ H:=⟨rfl,hM,fun b o e=>of_hidT e,Nat.le_of_eq (hidT_size _ _),trivial,fun b hb=>absurd (show b∈([]:List Addr) from hb) (by simp),hok,.of_eq hg⟩
    refine codeAny_mono ((F _ hKb (nsK hns)).run callerA [] s₁ H ⟨[.ref a],[]⟩ [.ref a] [.ref a] _ _ hr e0 (hbind s₁ (.ref a)) (.cons rfl .nil) (hsp H hO hS)) fun r s' h => ?_
    cases r with
    | error e=>exact (hCX H e s' h).elim
    | ok fl =>
      cases fl with
      | next=>exact False.elim h
      | brk=>exact False.elim h
      | cont=>exact False.elim h
      | ret u =>
        obtain ⟨v,H',os,bare,un,hok',r',q⟩:=h
        have q':v=.bl true:=q
        subst q'
        obtain rfl:u=Value.bool true:=r'
        refine ⟨rfl,OldK.of_keep fun b o e => ?_,os,bare⟩
        cases q:H b with
        | none=>exact un.keep b o e q (by intro z; exact absurd (show b∈([]:List Addr) from z) (by simp)) (by simp)
        | some u =>
          rcases hO b with z | ⟨ob,xs,z⟩
          · rw [q] at z; cases z
          · have z2:=un.frzs b ob _ z
            obtain ⟨e1,_⟩:=hok b _ z
            obtain ⟨e2,_⟩:=hok' b _ z2
            rw [e] at e1; cases e1
            exact e2
  cases hk:K.lookup a with
  | some o =>
    -- the script is one of the module's own objects
    have e:=KX a o hk
    rw [ha] at e
    cases e
    refine core (fun _=>none) (fun _=>.inl rfl) (.inr ⟨_,vs.toArray,_,hk,rfl,rfl,rfl,by rw [List.size_toArray,lenV]; exact hl,by simpa using rv⟩) (fun b u z=>by have z':(none:Option HO)=some u:=z; cases z') (fun b z=>absurd rfl z) fun z=>absurd rfl z
  | none =>
    refine core (fun b=>if b=a then some (.frz { cls:=.type "list",data:=.seq vs.toArray } (.lst (ns.map V.int))) else none) (fun b => ?_) (.inl (.inr ⟨{ cls:=.type "list",data:=.seq vs.toArray },if_pos rfl⟩)) (fun b u z => ?_) (fun b z => ?_) fun _=>hk
    · by_cases hb:b=a
      · exact .inr ⟨_,_,if_pos hb⟩
      · exact .inl (if_neg hb)
    · by_cases hb:b=a
      · have z':=(if_pos hb).symm.trans z
        cases z'
        subst hb
        exact ⟨ha,by rw [List.length_map]; exact hl,vs,_,rv,ha⟩
      · have z':=(if_neg hb).symm.trans z
        cases z'
    · by_cases hb:b=a
      · exact hb
      · exact absurd (if_neg hb) z
end L2

namespace L2
open PySem PySem.Spec PyProof.Rows

theorem walk_of {l:PySem.W.OpenLaw} {n k:Nat} {q:Program} {loose:List Str} {XP:(Str→Option Value)→Heap→Prop} {YP:World→Heap→Prop} {d:DefRec} {K:Params→PySem.W.Frag} {CX:World→CXT} {sp:World→Sp} {x:Str}
    (hn:l.most=some n) (hn2:n≤sizeLine) (hdf:d.params.defaults=[]) (hr:Room k callerA)
    (hY:∀ (w:World) (h:Heap),YP w h→(K w.params).In h)
    (F:∀ (w:World) (mg:Str→Option Value) (fa:Addr) (h:Heap),(K w.params).In h→h.Ns mainGlobals mg→mg d.name=some (.ref fa) →
      ∃ fd:FuncData,(∀ (s:Shared) (u:Value),BindsTo s fd ⟨[u],[]⟩ [(x,u)]) ∧
        ∀ base:Heap,(K w.params).In base→base.Ns mainGlobals mg→FnOk l.prog w (K w.params) mg base (CX w) k fa fd [x] (sp w))
    (hsp:∀ (w:World) (H:Hp) (a:Addr) (ns:List Int),ns.length≤n→Only H→SqL (K w.params) H a (ns.map V.int)→sp w [.ref a] H (fun v _=>v=.bl true) fun _ _ _=>False)
    (hCX:∀ (w:World) (H:Hp) (s:Shared) (e:Value) (s':Shared),CX w [] H s (fun _ _ _=>False) e s'→False) :
    PySem.W.WalkO q loose XP YP l.row.toRowW d [] (fun f vs=>PySem.call f vs):=by
  refine Att.attach_call hn hdf fun w s₀ s₁ mg mb fa o pm cd doc a vs ns G Y ho hd hcd hmg hobj hints hlen hg => ?_
  have KX:=hY w _ Y
  obtain ⟨fd,hb,hF⟩:=F w mg fa _ KX G.T.g hmg
  exact law_call KX G.T.g G.T.b G.T.builtins G.T.nolimit hg hobj hints (Nat.le_trans hlen hn2) hr hF hb (fun H hO hS=>hsp w H a ns hlen hO hS) fun H e s'=>hCX w H s₁ e s'

end L2




namespace L2
open PySem PySem.Spec PyProof.Rows



def defArgs (s:Stmt):Arguments:=match s with
  | .FunctionDef _ a _ _ _ _ _ _ _ _=>a
  | _=>{ posonlyargs:=[],args:=[],vararg:=none,kwonlyargs:=[],kw_defaults:=[],kwarg:=none,defaults:=[] }
def defBody (s:Stmt):List Stmt:=match s with
  | .FunctionDef _ _ b _ _ _ _ _ _ _=>b
  | _=>[]
def defScope (s:Stmt):Scope:=match s with
  | .FunctionDef _ _ _ _ _ _ sc _ _ _=>sc
  | _=>{ kind:=.function,names:=[],isGenerator:=false,isCoroutine:=false }


abbrev E0:XK:=fun _ _ _=>False
section
variable {P:Program} {w:World} {K:PySem.W.Frag} {mg:Str→Option Value} {base:Heap}

end
theorem small1000 {n:Nat} (h:n≤1000):n < sizeLine:=Nat.lt_of_le_of_lt h (by decide)


section
variable {X:Cx}
theorem pv (i:Nat) {x:Str} {pos:Pos} (hN:X.N[i]? = some x:=by rfl) (hv:Vis X.env.scope x:=by first | exact Or.inl rfl | exact Or.inr (Or.inl rfl) | exact Or.inr (Or.inr rfl)) (hd:(x == ("__debug__" : Str))=false:=by decide)
    (hcd:(x == ("__classdict__" : Str))=false:=by decide):PE X (.Name x pos) (tVar i):=pe_var hN hv hd hcd
end


theorem iteF {A B:Prop} (h:B):if false=true then A else B:=by
  rw [if_neg Bool.false_ne_true]
  exact h
theorem iteT {A B:Prop} (h:A):if true=true then A else B:=by
  rw [if_pos rfl]
  exact h
theorem ite2 {c A B:Prop} [Decidable c] (h1:c→A) (h2:¬ c→B):if c then A else B:=by
  by_cases h:c
  · rw [if_pos h]
    exact h1 h
  · rw [if_neg h]
    exact h2 h
theorem iteNS {c A B:Prop} [Decidable c] (hc:c) (h:B):if (!decide c)=true then A else B:=by
  rw [decide_eq_true hc]
  exact iteF h



def Same (H H':Hp):Prop:=∀ b o,H b=some o→H' b=some o
theorem Same.refl (H:Hp):Same H H:=fun _ _ h=>h
theorem Same.trans {H H1 H2:Hp} (a:Same H H1) (b:Same H1 H2):Same H H2:=fun c o h=>b c o (a c o h)
theorem Same.free {H H':Hp} (e:Same H H') {l:Addr} (h:H' l=Option.none):H l=Option.none:=by
  cases q:H l with
  | none=>rfl
  | some o =>
    rw [e l o q] at h
    cases h
theorem Same.seq {K:PySem.W.Frag} {H H':Hp} {a:Addr} {xs:List V} (e:Same H H') (h:SqL K H a xs):SqL K H' a xs:=by
  rcases h with (h | ⟨o,h⟩) | h
  · exact .inl (.inl (e _ _ h))
  · exact .inl (.inr ⟨o,e _ _ h⟩)
  · exact .inr h

end L2
namespace L2
open PySem PySem.Spec PyProof.Rows


section
variable {κ:Type} [DecidableEq κ]
def valV (kvs:List (κ × V)) (k:κ):Option V:=(kvs.find? fun kv=>decide (kv.1=k)).map (·.2)

def putK (kvs:List (κ × V)) (k:κ) (v:V):List (κ × V) :=
  if (kvs.any fun kv=>decide (kv.1=k))=true then kvs.map (fun kv=>if kv.1=k then (kv.1,v) else kv) else kvs++[(k,v)]
theorem valV_pos {p:κ × V} {r:List (κ × V)} {k:κ} (e:p.1=k):valV (p::r) k=some p.2:=by simp [valV,List.find?_cons,e]
theorem valV_neg {p:κ × V} {r:List (κ × V)} {k:κ} (e:¬ p.1=k):valV (p::r) k=valV r k:=by simp [valV,List.find?_cons,e]
theorem valV_any (k:κ):∀ kvs:List (κ × V),(kvs.any fun kv=>decide (kv.1=k))=(valV kvs k).isSome
  | []=>rfl
  | p::r=>by
    rw [List.any_cons]
    by_cases e:p.1=k
    · simp only [valV_pos e,decide_eq_true e,Bool.true_or,Option.isSome_some]
    · rw [valV_neg e,decide_eq_false e,Bool.false_or]; exact valV_any k r
theorem valV_map (k j:κ) (y:V):∀ kvs:List (κ × V),valV (kvs.map fun kv=>if kv.1=k then (kv.1,y) else kv) j=(valV kvs j).map fun x=>if j=k then y else x
  | []=>rfl
  | p::r=>by
    have ih:=valV_map k j y r
    rw [List.map_cons]
    by_cases h:p.1=k
    · rw [if_pos h]
      by_cases e:p.1=j
      · rw [valV_pos (p:=(p.1,y)) e,valV_pos e,Option.map_some,if_pos (e.symm.trans h)]
      · rw [valV_neg (p:=(p.1,y)) e,valV_neg e,ih]
    · rw [if_neg h]
      by_cases e:p.1=j
      · rw [valV_pos (p:=p) e,valV_pos e,Option.map_some,if_neg (fun z=>h (e.trans z))]
      · rw [valV_neg (p:=p) e,valV_neg e,ih]
theorem valV_snoc (k j:κ) (y:V):∀ kvs:List (κ × V),valV kvs k=none→valV (kvs++[(k,y)]) j=if j=k then some y else valV kvs j
  | [],_=>by
    by_cases e:k=j
    · rw [if_pos e.symm]; exact valV_pos (p:=(k,y)) e
    · rw [if_neg (fun z=>e z.symm)]; exact valV_neg (p:=(k,y)) e
  | p::r,hn=>by
    rw [List.cons_append]
    have hk:¬ p.1=k:=fun z=>by rw [valV_pos z] at hn; cases hn
    rw [valV_neg hk] at hn
    have ih:=valV_snoc k j y r hn
    by_cases e:p.1=j
    · rw [valV_pos e,valV_pos e,if_neg (fun z=>hk (e.trans z))]
    · rw [valV_neg e,valV_neg e,ih]
theorem valV_put (kvs:List (κ × V)) (k j:κ) (y:V):valV (putK kvs k y) j=if j=k then some y else valV kvs j:=by
  unfold putK
  by_cases a:(kvs.any fun kv=>decide (kv.1=k))=true
  · rw [if_pos a,valV_map]
    rw [valV_any] at a
    by_cases e:j=k
    · obtain ⟨x,hx⟩:=Option.isSome_iff_exists.mp a
      rw [if_pos e,e,hx,Option.map_some,if_pos rfl]
    · rw [if_neg e]
      cases valV kvs j with
      | none=>rfl
      | some x=>rw [Option.map_some,if_neg e]
  · rw [if_neg a]
    refine valV_snoc k j y kvs ?_
    rw [valV_any] at a
    cases q:valV kvs k with
    | none=>rfl
    | some x=>rw [q] at a; exact (a rfl).elim
theorem length_putK (kvs:List (κ × V)) (k:κ) (v:V):(putK kvs k v).length≤kvs.length + 1:=by
  unfold putK
  split
  · rw [List.length_map]; omega
  · rw [List.length_append,List.length_cons,List.length_nil]; omega
theorem RelO.isSome_eq {o:Option V} {u:Option Value} (r:RelO o u):o.isSome=u.isSome:=by
  cases o with
  | none=>cases u with
    | none=>rfl
    | some _=>exact (show False from r).elim
  | some _=>cases u with
    | none=>exact (show False from r).elim
    | some _=>rfl
theorem RelO.getD {o:Option V} {u:Option Value} {d:V} {d':Value} (r:RelO o u) (rd:RelV d d'):RelV (o.getD d) (u.getD d'):=by
  cases o with
  | none=>cases u with
    | none=>exact rd
    | some _=>exact (show False from r).elim
  | some _=>cases u with
    | none=>exact (show False from r).elim
    | some _=>exact r


theorem KV.val {kvs:List (κ × V)} {vs:List (κ × Value)} (r:KV kvs vs) (k:κ):RelO (valV kvs k) (valueAt vs k):=by
  unfold KV at r
  induction r with
  | nil=>exact True.intro
  | @cons p q ps qs h t ih =>
    obtain ⟨h1,h2⟩:=h
    by_cases e:p.1=k
    · have e':q.1=k:=h1.symm.trans e
      have b:valueAt (q::qs) k=some q.2:=by simp [valueAt,List.find?_cons,e']
      rw [valV_pos e,b]; exact h2
    · have e':¬ q.1=k:=fun z=>e (h1.trans z)
      have b:valueAt (q::qs) k=valueAt qs k:=by simp [valueAt,List.find?_cons,e']
      rw [valV_neg e,b]; exact ih
theorem KV.length {kvs:List (κ × V)} {vs:List (κ × Value)} (r:KV kvs vs):kvs.length=vs.length:=Paired.length r
end



theorem kV_is {P:Program} {w:World} {k:Key} {u:Value} (r:RelV (kV k) u):(mixKind P w).is k u=true:=by
  cases k with
  | inl i=>obtain ⟨t,e⟩:=(show ∃ t,u=Value.int i t from r); subst e; exact mixKind_int P w i t
  | inr x=>obtain ⟨t,e⟩:=(show ∃ t,u=Value.str x t from r); subst e; exact mixKind_str P w x t
theorem items_are {P:Program} {w:World}:∀ {ks:List Key} {us:List Value},Vals (ks.map kV) us→ItemsAre (mixKind P w) ks us
  | [],_,r=>by rw [List.map_nil] at r; cases r; exact .nil
  | k::ks,_,r=>by
    rw [List.map_cons] at r
    cases r with
    | cons h t=>exact .cons (kV_is h) (items_are t)


abbrev KT (H:Hp):List (List Key × V)→List (List Key × Addr × Value)→Prop:=Paired fun p q=>p.1=q.1∧H q.2.1=some (.tup (p.1.map kV))∧RelV p.2 q.2.2
theorem KT.val {H:Hp} {kvs:List (List Key × V)} {xs:List (List Key × Addr × Value)} (r:KT H kvs xs) (k:List Key):RelO (valV kvs k) ((atKey xs k).map (·.2)):=by
  induction r with
  | nil=>exact True.intro
  | @cons p q ps qs h t ih =>
    obtain ⟨h1,_,h2⟩:=h
    by_cases e:p.1=k
    · have e':q.1=k:=h1.symm.trans e
      have b:atKey (q::qs) k=some q.2:=by simp [atKey,List.find?_cons,e']
      rw [valV_pos e,b]; exact h2
    · have e':¬ q.1=k:=fun z=>e (h1.trans z)
      have b:atKey (q::qs) k=atKey qs k:=by simp [atKey,List.find?_cons,e']
      rw [valV_neg e,b]; exact ih
theorem KT.repl {H:Hp} {kvs:List (List Key × V)} {xs:List (List Key × Addr × Value)} (r:KT H kvs xs) (k:List Key) {y:V} {u:Value} (ry:RelV y u) :
    KT H (kvs.map fun kv=>if kv.1=k then (kv.1,y) else kv) (xs.map (putAt k u)):=by
  induction r with
  | nil=>exact .nil
  | @cons p q ps qs h t ih =>
    rw [List.map_cons,List.map_cons]
    refine .cons ?_ ih
    obtain ⟨h1,h2,h3⟩:=h
    unfold putAt
    by_cases e:p.1=k
    · rw [if_pos e,if_pos (h1.symm.trans e)]; exact ⟨h1,h2,ry⟩
    · rw [if_neg e,if_neg (fun z=>e (h1.trans z))]; exact ⟨h1,h2,h3⟩
theorem KT.put {H:Hp} {kvs:List (List Key × V)} {xs:List (List Key × Addr × Value)} (r:KT H kvs xs) (k:List Key) {b:Addr} {y:V} {u:Value} (hb:H b=some (.tup (k.map kV))) (ry:RelV y u) :
    KT H (putK kvs k y) (storedH xs k b u):=by
  have e:(kvs.any fun kv=>decide (kv.1=k))=(atKey xs k).isSome:=by
    rw [valV_any,(r.val k).isSome_eq,Option.isSome_map]
  unfold putK storedH
  rw [e]
  by_cases q:(atKey xs k).isSome=true
  · rw [if_pos q,if_pos q]; exact r.repl k ry
  · rw [if_neg q,if_neg q]; exact Paired.snoc r ⟨rfl,hb,ry⟩
theorem KT.keeps {H H':Hp} {kvs:List (List Key × V)} {xs:List (List Key × Addr × Value)} (r:KT H kvs xs) (ht:∀ b ys,H b=some (.tup ys)→H' b=some (.tup ys)):KT H' kvs xs :=
  Paired.mapP r fun _ _ z=>⟨z.1,ht _ _ z.2.1,z.2.2⟩

section
variable {P:Program} {w:World} {H:Hp} {h:Heap} {a:Addr}
theorem rd_of {u:HO} (ok:HOk P w H h) (e:Rd H a u):ObjOk P w H h a u:=e.ok ok
theorem dk_rd {kvs:List (Key × V)} (ok:HOk P w H h) (e:Rd H a (.dK kvs)):kvs.length≤sizeLine∧(a == sysModules)=false∧∃ vs,KV kvs vs∧h.DictOf (mixKind P w) a vs :=
  show ObjOk P w H h a (.dK kvs) from rd_of ok e
theorem key_of {ks:List Key} (ok:HOk P w H h) (e:H a=some (.tup (ks.map kV))):(tupleKind (mixKind P w)).is h ks a:=by
  obtain ⟨_,its,r,o,h1,h2,n,h3⟩:=(show ObjOk P w H h a (.tup (ks.map kV)) from ok a _ e)
  exact ⟨o,its.toArray,n,h1,h2,h3,by simpa using items_are r⟩
theorem dt_rd {kvs:List (List Key × V)} (ok:HOk P w H h) (e:Rd H a (.dT kvs)):kvs.length≤sizeLine∧(a == sysModules)=false ∧
    ∃ xs,KT H kvs xs∧h.DictOfH (tupleKind (mixKind P w)) a xs:=by
  obtain ⟨z,y,xs,r,o,es,ep,h1,h2,h3,h4,h5⟩:=(show ObjOk P w H h a (.dT kvs) from rd_of ok e)
  refine ⟨z,y,xs,r,o,es,ep,h1,h2,h3,h4,fun x hx => ?_,h5⟩
  have all:∀ {l:List (List Key × V)} {m:List (List Key × Addr × Value)},KT H l m→∀ x∈m,(tupleKind (mixKind P w)).is h x.1 x.2.1:=by
    intro l m q
    induction q with
    | nil=>intro x hx; exact nomatch hx
    | @cons p q ps qs hq t ih =>
      intro x hx
      rcases List.mem_cons.mp hx with e | hx
      · subst e
        exact key_of ok (by rw [← hq.1]; exact hq.2.1)
      · exact ih x hx
  exact all r x hx
theorem dt_of {kvs:List (List Key × V)} (ok:HOk P w H h) (e:H a=some (.dT kvs)):kvs.length≤sizeLine∧(a == sysModules)=false ∧
    ∃ xs,KT H kvs xs∧h.DictOfH (tupleKind (mixKind P w)) a xs:=dt_rd ok (.inl e)
end


def DGet (H:Hp) (a:Addr) (y:V) (r:Option V):Prop :=
  (∃ kvs k,Rd H a (.dK kvs)∧y=kV k∧r=valV kvs k)∨∃ kvs k b,Rd H a (.dT kvs)∧y=.ref b∧H b=some (.tup (k.map kV))∧r=valV kvs k

theorem DGet.k {H:Hp} {a:Addr} {kvs:List (Key × V)} {k:Key} (e:H a=some (.dK kvs)):DGet H a (kV k) (valV kvs k):=.inl ⟨kvs,k,.inl e,rfl,rfl⟩
theorem DGet.t {H:Hp} {a b:Addr} {kvs:List (List Key × V)} {k:List Key} (e:H a=some (.dT kvs)) (eb:H b=some (.tup (k.map kV))):DGet H a (.ref b) (valV kvs k):=.inr ⟨kvs,k,b,.inl e,rfl,eb,rfl⟩
section
variable {X:Cx} {pins:List (Addr × Obj)} {σ:St} {H:Hp} {s:Shared} {a:Addr} {y v:V} {u r:Value} {o:Option V} {A:Around} {E:Value→Shared→Prop}

theorem Inv.big (I:Inv X pins σ H s):sysModules < s.heap.objs.size:=by
  have h:mainGlobals < s.heap.objs.size:=(I.mod.glob.keeps I.bk).lt
  exact Nat.lt_trans (by decide) h


theorem d_getItem {Q:Value→Shared→Prop} (hu:A.units + 1 < cLine) (I:Inv X pins σ H s) (g:DGet H a y (some v)) (ry:RelV y u) (h:∀ w' s',Inv X pins σ H s'→RelV v w'→Q w' s') :
    wpAny (model X.prog X.w) A (getItem (.ref a) u) Q E s:=by
  rcases g with ⟨kvs,k,e,ey,l⟩ | ⟨kvs,k,b,e,ey,eb,l⟩
  · subst ey
    obtain ⟨z,hd,vs,rel,dd⟩:=dk_rd I.hok e
    obtain ⟨w',hw,rw'⟩:=RelO.some_of (v:=v) (o:=valueAt vs k) (by rw [l]; exact rel.val k)
    exact wpAny_getItem_of (kV_is ry) dd.mapOf hw (h w' _ (I.tok _) rw')
  · subst ey
    cases (show u=Value.ref b from ry)
    obtain ⟨z,hd,xs,rel,dd⟩:=dt_rd I.hok e
    obtain ⟨w',hw,rw'⟩:=RelO.some_of (v:=v) (o:=(atKey xs k).map (·.2)) (by rw [l]; exact rel.val k)
    obtain ⟨p,hp,hp2⟩:=Option.map_eq_some_iff.mp hw
    refine wpAny_getItem_heap (tupleKind_room_in1 hu) (key_of I.hok eb) dd hp ?_
    rw [hp2]
    exact h w' _ (I.tok _) rw'

theorem d_in {Q:Value→Shared→Prop} (hu:A.units + 1 < cLine) (I:Inv X pins σ H s) (g:DGet H a y o) (ry:RelV y u) (h:∀ s',Inv X pins σ H s'→Q (.bool o.isSome) s') :
    wpAny (model X.prog X.w) A (compareOp .In u (.ref a)) Q E s:=by
  rcases g with ⟨kvs,k,e,ey,l⟩ | ⟨kvs,k,b,e,ey,eb,l⟩
  · subst ey
    obtain ⟨z,hd,vs,rel,dd⟩:=dk_rd I.hok e
    refine wpAny_in_of (kV_is ry) hd dd.mapOf ?_
    rw [← (rel.val k).isSome_eq,← l]
    exact h _ (I.tok _)
  · subst ey
    cases (show u=Value.ref b from ry)
    obtain ⟨z,hd,xs,rel,dd⟩:=dt_rd I.hok e
    refine wpAny_in_heap (tupleKind_room_in1 hu) (key_of I.hok eb) hd dd ?_
    have q:=(rel.val k).isSome_eq
    rw [Option.isSome_map] at q
    rw [← q,← l]
    exact h _ (I.tok _)
theorem d_write {h':Heap} {t':Nat} {ob:HO} (I:Inv X pins σ H s) (mu:Mut (H a)) (hs:Heap.SameBut a s.heap h') (he:∃ q,h'.get? a=some q) (new:ObjOk X.prog X.w (upd H a ob) h' a ob) :
    Inv X pins σ (upd H a ob) { s with heap:=h',toks:=t' } :=
  I.write (x:=a) (e:=a) mu (.inl rfl) (fun b q hb z=>(hs.2 b hb).trans z) he new
end

section
variable {X:Cx} {pins:List (Addr × Obj)} {σ:St} {H:Hp} {s:Shared} {a:Addr} {kvs:List (Key × V)} {k:Key} {u:Value} {A:Around} {E:Value→Shared→Prop}

end




def NoSl (i:Expr):Prop:=∀ ov iv,subscripted i false ov iv=operate [ov,iv] (getItem ov iv)
theorem subD_of {prog:Program} {w:World} {A:Around} {E:Value→Shared→Prop} {s:Shared} {env:Env} {value slice:Expr} {pos:Pos} {T id:String} {Q:Value→Shared→Prop}
    (hl:typeLookup (.type T) "__getitem__" = pure (some (.builtin id))) (hs:NoSl slice)
    (h:wpAny (model prog w) A (eval value env) (fun o s₁=>wpAny (model prog w) A (eval slice env) (fun i s₂=>s₂.TypeIs o T∧wpAny (model prog w) A (getItem o i) Q E s₂) E s₁) E s) :
    wpAny (model prog w) A (eval (.Subscript value slice pos) env) Q E s:=by
  refine Subscript_ (wpAny_mono h (fun o s₁ h₁=>wpAny_mono h₁ (fun i s₂ h₂ => ?_) fun _ _ x=>x) fun _ _ x=>x)
  obtain ⟨hT,h₂⟩:=h₂
  unfold subscriptTail
  refine wpAny_bind ?_
  rw [getitemInPython_of_ne hT.not_modules]
  refine wpAny_bind (wpAny_specialOf hT hl ?_)
  have fin:wpAny (model prog w) A (subscripted slice false o i) (fun r s₃=>wpAny (model prog w) A (letTemporaryGo value o r >>= fun _=>pure r) Q E s₃) E s₂:=by
    rw [hs o i]
    exact wpAny_operating (wpAny_mono h₂ (fun r s₃ h₃=>wpAny_bind (wpAny_letTemporaryGo (wpAny_pure h₃))) fun _ _ x=>x)
  first
    | exact wpAny_pure (wpAny_bind fin)
    | exact wpAny_bind (wpAny_pure (wpAny_bind fin))
    | exact wpAny_bind fin

theorem dict_typeIs {X:Cx} {pins:List (Addr × Obj)} {σ:St} {H:Hp} {s:Shared} {a:Addr} {y:V} {o:Option V} (I:Inv X pins σ H s) (g:DGet H a y o):s.TypeIs (.ref a) "dict" := by
  rcases g with ⟨kvs,k,e,_,_⟩ | ⟨kvs,k,b,e,_,_,_⟩
  · obtain ⟨_,_,vs,_,dd⟩:=dk_rd I.hok e
    exact dd.typeIs
  · obtain ⟨_,_,xs,_,dd⟩:=dt_rd I.hok e
    exact dd.typeIs
def tDGet (td ty:TE):TE:=fun σ H Q=>td σ H fun x H1=>ty σ H1 fun y H2=>∃ a v,x=.ref a∧DGet H2 a y (some v)∧Q v H2

section
variable {X:Cx} {o i e value:Expr} {pos pos' tpos:Pos} {td ty tv:TE}
theorem pe_dget (hu:X.A.units + 1 < cLine) (ho:PE X o td) (hi:PE X i ty) (hs:NoSl i):PE X (.Subscript o i pos) (tDGet td ty):=by
  intro pins s σ H Q I h
  refine subD_of PySem.F.slot_dict_getitem.lookup hs (thn (ho pins s σ H _ I h) fun u s1 ⟨x,H1,I1,rx,q1⟩=>thn (hi pins s1 σ H1 _ I1 q1) fun iv s2 ⟨y,H2,I2,ry,a,v,ex,g,q2⟩ => ?_)
  subst ex
  obtain rfl:u=Value.ref a:=rx
  exact ⟨dict_typeIs I2 g,d_getItem hu I2 g ry fun w' s3 I3 rw'=>⟨v,H2,I3,rw',q2⟩⟩
end



theorem dt_empty {P:Program} {w:World} {H:Hp} (h:Heap) (hb:sysModules < h.objs.size):ObjOk P w H (h.push { cls:=.type "dict",data:=.dict #[] }) h.objs.size (.dT []) :=
  ⟨Nat.zero_le _,beq_eq_false_iff_ne.mpr (Ne.symm (Nat.ne_of_lt hb)),[],.nil,_,#[],0,Heap.get?_push_size _ rfl,⟨rfl,rfl,rfl⟩,rfl,rfl,List.nodup_nil⟩

def tDNewT:TE:=fun _ H Q=>∀ p,H p=none→Q (.ref p) (upd H p (.dT []))
section
variable {X:Cx} {pos:Pos}
theorem pe_dnewT:PE X (.Dict [] [] pos) tDNewT:=fun pins s σ H Q I h =>
  wpAny_Dict_empty ⟨.ref s.heap.objs.size,_,I.laid (a:=s.heap.objs.size) (o:=.dT []) (t':=s.toks) (fun _ _ q=>Heap.get?_push_of_some _ q) (Nat.le_refl _) (dt_empty s.heap I.big),rfl,h _ (I.hok.fresh (Nat.le_refl _))⟩
end


structure M2 (X:Cx) (o:Expr) (m:Str) (apos:Pos) (e f:Expr) (cpos:Pos):Prop where
  base:attributeBase o m X.env (eval o X.env)=eval o X.env
  few:((backTo cpos (starEach [e,f] X.env)).all (fun x => !x.1) && (backToKw cpos (keywordEach [] X.env)).all (fun x=>x.1.isSome)
    && decide (([e,f]:List Expr).length + ([]:List Keyword).length + (if ([]:List Keyword).isEmpty then 0 else 1) < 30))=true
  line:(apos.endLine == cpos.line)=true
  trees:backTo cpos (starEach [e,f] X.env)=[(false,eval e X.env),(false,eval f X.env)]


def IsD (H:Hp) (a:Addr):Prop:=(∃ kvs,Rd H a (.dK kvs))∨∃ kvs,Rd H a (.dT kvs)
theorem isD_at {X:Cx} {pins:List (Addr × Obj)} {σ:St} {H:Hp} {s:Shared} {a:Addr} (I:Inv X pins σ H s) (d:IsD H a) :
    s.TypeIs (.ref a) "dict" ∧ (∀ b,Value.ref a=.ref b→∃ ob,s.heap.get? b=some ob∧ob.dict=none)∧(a == sysModules)=false:=by
  rcases d with ⟨kvs,e⟩ | ⟨kvs,e⟩
  · obtain ⟨_,hd,vs,_,dd⟩:=dk_rd I.hok e
    refine ⟨dd.typeIs,fun b q => ?_,hd⟩
    cases q
    obtain ⟨ob,_,_,h1,h2,_⟩:=dd
    exact ⟨ob,h1,h2.2.1⟩
  · obtain ⟨_,hd,xs,_,dd⟩:=dt_rd I.hok e
    refine ⟨dd.typeIs,fun b q => ?_,hd⟩
    cases q
    obtain ⟨ob,_,_,h1,h2,_⟩:=dd
    exact ⟨ob,h1,h2.2.1⟩

section
variable {X:Cx} {pins:List (Addr × Obj)} {σ:St} {H:Hp} {s:Shared} {a:Addr} {y d:V} {u r:Value} {o:Option V} {A:Around} {E:Value→Shared→Prop}

theorem d_get2 {Q:Value→Shared→Prop} (hu:A.units + 1 < cLine) (I:Inv X pins σ H s) (g:DGet H a y o) (ry:RelV y u) (rd:RelV d r) (h:∀ w' s',Inv X pins σ H s'→RelV (o.getD d) w'→Q w' s') :
    wpAny (model X.prog X.w) A (call (.builtin "dict.get") [.ref a,u,r]) Q E s:=by
  rcases g with ⟨kvs,k,e,ey,l⟩ | ⟨kvs,k,b,e,ey,eb,l⟩
  · subst ey
    obtain ⟨z,hd,vs,rel,dd⟩:=dk_rd I.hok e
    refine call_meetsIn PySem.F.slot_dict_get dd.typeIs PySem.F.entry_dict_get (PySem.F.args_dict_get_3 _ _ _) (meets_dict_get_default (mixKind X.prog X.w) a (kV_is ry) hd r) ⟨_,dd.mapOf,h _ _ (I.tok _) ?_⟩
    rw [l]
    exact (rel.val k).getD rd
  · subst ey
    cases (show u=Value.ref b from ry)
    obtain ⟨z,hd,xs,rel,dd⟩:=dt_rd I.hok e
    refine call_meetsIn PySem.F.slot_dict_get dd.typeIs PySem.F.entry_dict_get (PySem.F.args_dict_get_3 _ _ _) (meetsH_dict_get_default (tupleKind (mixKind X.prog X.w)) a b hd r) ⟨tupleKind_room_in1 hu,k,xs,key_of I.hok eb,dd,h _ _ (I.tok _) ?_⟩
    rw [l]
    exact (rel.val k).getD rd
end

def tDGet2 (td ty tx:TE):TE:=fun σ H Q=>td σ H fun x H1=>∃ a,x=.ref a∧IsD H1 a∧ty σ H1 fun y H2=>tx σ H2 fun z H3=>∃ o,DGet H3 a y o∧Q (o.getD z) H3

section
variable {X:Cx} {o e f:Expr} {apos cpos:Pos} {td ty tx:TE}
theorem pe_dget2 (hu:X.A.units + 1 < cLine) (ho:PE X o td) (he:PE X e ty) (hf:PE X f tx) (m:M2 X o "get" apos e f cpos):PE X (.Call (.Attribute o "get" apos) [e,f] [] cpos) (tDGet2 td ty tx):=by
  intro pins s σ H Q I h
  refine wpAny_Call_method m.base m.few m.line PySem.F.plainAttrs_dict PySem.F.slot_dict_get PySem.F.type_dict_get (thn (ho pins s σ H _ I h) fun u s1 ⟨x,H1,I1,rx,a,ex,d,q1⟩ => ?_)
  subst ex
  obtain rfl:u=Value.ref a:=rx
  obtain ⟨t1,t2,_⟩:=isD_at I1 d
  refine ⟨t1,t2,?_⟩
  rw [m.trees]
  refine Calls.callWith_builtin rfl (Calls.evalArgs_plain (Calls.spliced_cons (thn (he pins s1 σ H1 _ I1 q1) fun iv s2 ⟨y,H2,I2,ry,q2⟩ =>
    Calls.spliced_cons (thn (hf pins s2 σ H2 _ I2 q2) fun fv s3 ⟨z,H3,I3,rz,ov,g,q3⟩=>Calls.spliced_nil ?_))))
  exact d_get2 hu I3 g ry rz fun w' s4 I4 rw'=>⟨_,H3,I4,rw',q3⟩
end


section
variable {X:Cx} {pins:List (Addr × Obj)} {σ:St} {H:Hp} {s:Shared} {a:Addr} {kvs:List (Key × V)} {A:Around} {E:Value→Shared→Prop}
end


section
variable {X:Cx} {pins:List (Addr × Obj)} {σ:St} {H:Hp} {s:Shared} {a:Addr} {y:V} {u:Value} {A:Around} {E:Value→Shared→Prop}

end
end L2
namespace L2
open PySem PySem.Spec PyProof.Rows
section
variable {κ:Type} [DecidableEq κ]
end
end L2

set_option maxHeartbeats 4000000
namespace L2
open PySem PySem.Spec PyProof.Rows


def Itg (n:Nat) (g:Nat→V):It:=⟨fun i _=>i < n,fun i H x H'=>H'=H∧x=g i,fun i _=>n≤i⟩
theorem turn_walk {P:Program} {w:World} {K:PySem.W.Frag} {tg:Expr} {it:Addr} {n:Nat} {Pn:Nat→Value→Prop} {St:Nat→Heap→Prop} {g:Nat→V}
    (W:∀ A:Around,A.handled=none→Walks P w A it [it] [it] n Pn St) (hv:∀ i v,Pn i v→RelV (g i) v)
    (hk:∀ i h h',St i h→(∀ o,h.get? it=some o→h'.get? it=some o)→St i h')
    (hself:∀ (A:Around) (i:Nat) (s:Shared) (Q:Value→Shared→Prop) (E:Value→Shared→Prop),St i s.heap→Q (.ref it) s→wpAny (model P w) A (pyIter (.ref it)) Q E s)
    (ho:∀ i h,St i h→∃ o c vs,h.get? it=some o∧o.cls=.type c∧o.data=.fields vs ∧
      ["enumerate","zip","dict_itemiterator","dict_reverseitemiterator","odict_iterator","itertools.zip_longest","itertools.pairwise"].contains c=false) :
    Turn P w K tg (Itg n g) [it] it (fun i h=>i≤n∧St i h) where
  mem:=by simp
  obj:=fun i h st b hb=>by
    have e:b=it:=by simpa using hb
    subst e
    obtain ⟨o,c,vs,e,_,d,_⟩:=ho i h st.2
    exact ⟨o,e,fun v z=>by rw [d] at z; cases z⟩
  keep:=fun i h h' st k=>⟨st.1,hk i h h' st.2 fun o e=>k it (by simp) o e⟩
  item:=by
    intro X hP hw hK hc i pins s σ H E I hf st hg
    subst hP hw hK
    obtain ⟨f0,f1,f2,f3,f4,f5⟩:=hf it (by simp)
    refine (W X.A (I.ok.hd hc)).item i s _ _ hg st.2 fun v h' tk hP st' kk => ?_
    have I1:Inv X pins σ H { s with heap:=h',toks:=tk }:=I.turned (fun b o hb e=>kk b o (by simpa using hb) e) f0 f1 f3 f4 f5
    obtain ⟨o,c,vs,e,hcls,d,hn⟩:=ho _ _ st'
    exact ⟨v,rfl,go_of (s:={ s with heap:=h',toks:=tk }) e hcls d hn ⟨g i,H,I1,hv i v hP,⟨rfl,rfl⟩,⟨hg,st'⟩,fun b hb=>(hf b hb).1⟩⟩
  done:=by
    intro X hP hw hK hc i pins s σ H E I hf st hg
    subst hP hw hK
    obtain ⟨f0,f1,f2,f3,f4,f5⟩:=hf it (by simp)
    have hg':n≤i:=hg
    have e:i=n:=Nat.le_antisymm st.1 hg'
    subst e
    exact (W X.A (I.ok.hd hc)).done s _ _ st.2 fun h' tk kk=>⟨rfl,I.turned (fun b o hb e=>kk b o (by simpa using hb) e) f0 f1 f3 f4 f5⟩
  self:=fun A i s Q E st h=>hself A i s Q E st.2 h
theorem for_gen {n:Nat} {g':Nat→V} {g:TG} {tb:TS} {D:Ends} {σ:St} {H:Hp} (Pv:Nat→St→Hp→Prop) (h0:Pv 0 σ H)
    (hs:∀ i σ H,i < n→Pv i σ H→g (g' i) σ H fun σ2 H2=>tb { D with nx:=Pv (i + 1),ct:=Pv (i + 1),bk:=D.nx } σ2 H2) (hd:∀ σ H,Pv n σ H→D.nx σ H) :
    ∃ W:Nat→Nat→St→Hp→Prop,(∃ m,W 0 m σ H)∧∀ i m σ H,W i m σ H →
      ((Itg n g').stop i H∧D.nx σ H)∨((Itg n g').go i H∧∃ N:St→Hp→Prop,(∀ σ' H',N σ' H'→∃ m',m' < m∧W (i + 1) m' σ' H')∧∀ x H',(Itg n g').yld i H x H'→g x σ H' fun σ2 H2=>tb { D with nx:=N,ct:=N,bk:=D.nx } σ2 H2):=by
  refine ⟨fun i m σ H=>m=n - i∧i≤n∧Pv i σ H,⟨n,by simp,Nat.zero_le _,h0⟩,?_⟩
  rintro i m σ H ⟨rfl,hi,p⟩
  by_cases hlt:i < n
  · refine .inr ⟨hlt,Pv (i + 1),fun σ' H' p'=>⟨n - (i + 1),by omega,rfl,hlt,p'⟩,fun x H' y => ?_⟩
    obtain ⟨e,y⟩:=y
    subst e y
    exact hs i σ _ hlt p
  · have e:i=n:=by omega
    subst e
    exact .inl ⟨Nat.le_refl _,hd σ H p⟩

section
variable {X:Cx} {tg:Expr}

def sgn (z:Str) (i:Nat):Str:=⟨#[z.cps.getD i 0]⟩
def iStr (tl:TE):TI:=fun σ H R=>tl σ H fun x H1=>∃ z,x=.str z∧R (Itg z.length fun i=>.str (sgn z i)) H1
theorem sgn_of {z:Str} {i:Nat} {v:Value} (h:SignAt z i v):RelV (.str (sgn z i)) v:=by
  obtain ⟨c,u,hc,rfl⟩:=h
  refine ⟨u,?_⟩
  have e:z.cps.getD i 0=c:=by simp [Array.getD_eq_getD_getElem?,hc]
  unfold sgn
  rw [e]
theorem pi_str {l:Expr} {tl:TE} (hl:PE X l tl):PI X tg l (iStr tl):=by
  intro pins s σ H R I h
  refine thn (hl pins s σ H _ I h) fun v s1 ⟨x,H1,I1,r1,q1⟩ => ?_
  obtain ⟨z,e,q⟩:=q1
  subst e
  obtain ⟨t,rfl⟩:=r1
  have fp:∀ b∈[s1.heap.objs.size],FpOk X pins H1 b:=fun b hb=>by
    have e:b=s1.heap.objs.size:=by simpa using hb
    subst e
    exact I1.fpOk (Nat.le_refl _) (I1.hok.fresh (Nat.le_refl _))
  cases ha:z.cps.all (· < 128)
  · refine wpAny_pyIter_wide ha ?_
    refine ⟨s1.heap.objs.size,[s1.heap.objs.size],_,_,H1,rfl,I1.kept (t':=s1.toks) fun b o e=>Heap.get?_push_of_some _ e,
      turn_walk (St:=fun i h=>h.IsStrIter s1.heap.objs.size "str_iterator" z t i) (fun A hA=>Walks.strWide hA _ z t) (fun i v=>sgn_of) (fun i h h' st k=>let ⟨o,ho,r⟩:=st; ⟨o,k o ho,r⟩) (fun A i s Q E st hQ=>wpAny_pyIter_striter_wide st hQ)
        (fun i h st=>let ⟨o,ho,hc,hd⟩:=st; ⟨o,_,_,ho,hc,hd,by decide⟩),⟨Nat.zero_le _,⟨_,Heap.get?_push_size _ rfl,rfl,rfl⟩⟩,fp,q⟩
  · refine wpAny_pyIter_ascii ha ?_
    refine ⟨s1.heap.objs.size,[s1.heap.objs.size],_,_,H1,rfl,I1.kept (t':=s1.toks) fun b o e=>Heap.get?_push_of_some _ e,
      turn_walk (St:=fun i h=>h.IsStrIter s1.heap.objs.size "str_ascii_iterator" z t i) (fun A hA=>Walks.strAscii hA _ z t) (fun i v=>sgn_of) (fun i h h' st k=>let ⟨o,ho,r⟩:=st; ⟨o,k o ho,r⟩) (fun A i s Q E st hQ=>wpAny_pyIter_striter_ascii st hQ)
        (fun i h st=>let ⟨o,ho,hc,hd⟩:=st; ⟨o,_,_,ho,hc,hd,by decide⟩),⟨Nat.zero_le _,⟨_,Heap.get?_push_size _ rfl,rfl,rfl⟩⟩,fp,q⟩


def iRng3 (ta:TA):TI:=fun σ H R=>ta σ H fun vs H1=>∃ (i j c:Int) (n:Nat),vs=[.int i,.int j,.int c]∧c≠0∧(c < 1073741824∧-1073741824 < c)∧Builtin.Range.small i j c=true∧Builtin.Range.rangeSize i j c=(n:Int)∧R (Itg n fun k=>.int (i + (k:Int) * c)) H1
theorem pi_range3 {a b d:Expr} {ta:TA} {p pos:Pos} (hg:Gl X "range") (hm:X.mg "range" = none) (ha:PA X [a,b,d] ta)
    (hs:starEach [a,b,d] X.env=(false,eval a X.env)::starEach [b,d] X.env:=by rfl) (hpl:(backTo pos (starEach [b,d] X.env)).any (·.1)=false:=by rfl) :
    PI X tg (.Call (.Name "range" p) [a,b,d] [] pos) (iRng3 ta):=by
  intro pins s σ H R I h
  refine Call_ (ld_blt I hg hm boot_range (PyProof.Rows.callWith_type1 (thn (ha pos pins s σ H _ I h) fun us s1 ⟨vs,H1,I1,r1,q1⟩ => ?_) hs hpl))
  obtain ⟨i,j,c,n,e,hc,hc2,hsm,hsz,q⟩:=q1
  subst e
  cases r1 with
  | cons r rr =>
    cases rr with
    | cons r' rr =>
      cases rr with
      | cons r'' rr =>
        cases rr
        obtain ⟨t,rfl⟩:=r
        obtain ⟨t',rfl⟩:=r'
        obtain ⟨t'',rfl⟩:=r''
        refine call_range_3 hc ?_ (.inl (PyProof.noPylong_small (by omega)))
        refine wpAny_pyIter_range (IsRange.new ..) hsm ?_
        have I2:Inv X pins σ H1 { s1 with heap:=s1.heap.push { cls:=.type "range",data:=.fields #[.int i t,.int j t',.int c t''] } }:=I1.kept (t':=s1.toks) fun b o e=>Heap.get?_push_of_some _ e
        refine ⟨(s1.heap.push { cls:=.type "range",data:=.fields #[.int i t,.int j t',.int c t''] }).objs.size,[(s1.heap.push { cls:=.type "range",data:=.fields #[.int i t,.int j t',.int c t''] }).objs.size],_,_,H1,rfl,
          I2.kept (t':=s1.toks) fun b o e=>Heap.get?_push_of_some _ e,
          turn_walk (g:=fun k=>.int (i + (k:Int) * c)) (fun A hA=>Walks.range hA _ i c n) (fun k v h=>let ⟨t,e⟩:=h; ⟨t,e⟩) (fun i h h' st k=>k _ st) (fun A i s Q E st hQ=>wpAny_pyIter_rangeiter st hQ)
            (fun i h st=>⟨_,_,_,st,rfl,rfl,by decide⟩),⟨Nat.zero_le _,?_⟩,fun b hb => ?_,q⟩
        · have e1:i + ((0:Nat):Int) * c=i:=by simp
          have e2:(n:Int) - ((0:Nat):Int)=Builtin.Range.rangeSize i j c:=by rw [hsz]; simp
          show IsRangeIter _ _ (i + ((0:Nat):Int) * c) ((n:Int) - ((0:Nat):Int)) c
          rw [e1,e2]
          exact Heap.get?_push_size _ rfl
        · have e:b=(s1.heap.push { cls:=.type "range",data:=.fields #[.int i t,.int j t',.int c t''] }).objs.size:=by simpa using hb
          subst e
          exact I2.fpOk (Nat.le_refl _) (I2.hok.fresh (Nat.le_refl _))
end


section
variable {X:Cx}
theorem call_int_str:CallR X (.type "int") (fun xs H Q=>∃ z n,xs=[.str z]∧PySem.intText? z=some n∧z.length≤640∧Q (.int n) H):=by
  intro pins s σ H xs us Q I r h
  obtain ⟨z,n,rfl,hn,hl,q⟩:=h
  obtain ⟨u,rfl,t,rfl⟩:=vals1 r
  exact PySem.W.KIN.call_text hn hl ⟨.int n,H,I.tok _,⟨_,rfl⟩,q⟩
def rSlS:V→Option Int→Option Int→Hp→VK→Prop:=fun x lo hi H Q=>∃ z,x=.str z∧z.length≤sizeLine∧Q (.str (Txt.slice z lo hi)) H
theorem sl_str:SlR X rSlS:=by
  intro pins s σ H x v vl vu lo hi sl Q I rx hs pl pu h
  obtain ⟨z,rfl,hz,q⟩:=h
  obtain ⟨t,rfl⟩:=rx
  refine ⟨"str",_,F.slot_str_getitem.lookup,typeIs_str _ _ _,?_⟩
  obtain ⟨o,e1,e2,e3⟩:=hs
  have fin:∀ (z':Str) (t':Tok) (k:Nat),z'=Txt.slice z lo hi→EP X pins σ Q (.str z' t') { s with toks:=k }:=fun z' t' k e=>by
    subst e
    exact ⟨.str _,H,I.tok _,⟨_,rfl⟩,q⟩
  cases pl with
  | none =>
    cases pu with
    | none=>exact wpAny_getItem_str_slice (l:=none) (u:=none) (st:=none) ⟨o,e1,e2,e3⟩ rfl (post_val_or_str ⟨Nat.le_trans (Txt.slice_le z _ _) hz,fun t' k=>fin _ t' k rfl⟩)
    | int j uj=>exact wpAny_getItem_str_slice (l:=none) (u:=some (j,uj)) (st:=none) ⟨o,e1,e2,e3⟩ rfl (post_val_or_str ⟨Nat.le_trans (Txt.slice_le z _ _) hz,fun t' k=>fin _ t' k rfl⟩)
  | int i ui =>
    cases pu with
    | none=>exact wpAny_getItem_str_slice (l:=some (i,ui)) (u:=none) (st:=none) ⟨o,e1,e2,e3⟩ rfl (post_val_or_str ⟨Nat.le_trans (Txt.slice_le z _ _) hz,fun t' k=>fin _ t' k rfl⟩)
    | int j uj=>exact wpAny_getItem_str_slice (l:=some (i,ui)) (u:=some (j,uj)) (st:=none) ⟨o,e1,e2,e3⟩ rfl (post_val_or_str ⟨Nat.le_trans (Txt.slice_le z _ _) hz,fun t' k=>fin _ t' k rfl⟩)


def rIsiT (K:PySem.W.Frag) (T:String):List V→Hp→VK→Prop:=fun xs H Q=>∃ x t b,xs=[x,.ty T]∧TyOf K H x t∧PySem.W.kitOne K t (.type T)=some b∧Q (.bl b) H
theorem call_isiT (T:String):CallR X (.builtin "isinstance") (rIsiT X.K T):=by
  intro pins s σ H xs us Q I r h
  obtain ⟨x,t,b,rfl,ty,hk,q⟩:=h
  obtain ⟨u,c,rfl,rx,rc⟩:=vals2 r
  cases (show c=.type T from rc)
  exact isinst_ok I rx ty hk fun tk=>⟨.bl b,H,I.tok _,rfl,q⟩
end
end L2

namespace L2
open PySem PySem.Spec PyProof.Rows


section
variable {prog:Program} {w:World} {A:Around} {R:Result→Shared→Prop} {s:Shared}
theorem compLoop_go {elt target iter:Expr} {scope:Scope} {pos:Pos} {it acc:Value} {env:Env} (I:Nat→Shared→Prop)
    (turn:∀ n s,I n s→wpAny (model prog w) A (pyNext it) (fun r s1=>match r with
      | none=>R (.ok .next) s1
      | some v=>wpAny (model prog w) A (letOwnedTupleGo target it v) (fun _ s2=>wpAny (model prog w) A (assign target env v) (fun _ s3 =>
          wpAny (model prog w) A (eval elt env) (fun x s4 =>
            wpAny (model prog w) A (call (.builtin "list.append") [acc,x]) (fun _ s5=>∃ m,m < n∧I m s5) (notedBy (model prog w) A env fun e s'=>R (.error e) s') s4) (notedBy (model prog w) A env fun e s'=>R (.error e) s') s3)
          (notedBy (model prog w) A env fun e s'=>R (.error e) s') s2) (notedBy (model prog w) A env fun e s'=>R (.error e) s') s1) (notedBy (model prog w) A env fun e s'=>R (.error e) s') s)
    (n:Nat) (h:I n s) :
    codeAny (model prog w) A (.compLoop (.ListComp elt [⟨target,iter,[],0⟩] scope pos) 0 it acc env) R s:=by
  refine codeAny_loop rfl I (fun n s hI => ?_) n h
  show wpAny _ A ((compTurn (.ListComp elt [⟨target,iter,[],0⟩] scope pos) 0 it acc env).onRaise (fun x=>do noteFrame x env; theTreesLotGoes x)) _ _ s
  refine wpAny_noted ?_
  rw [compTurn_list]
  refine wpAny_bind (wpAny_standAt (wpAny_bind (wpAny_mono (turn n s hI) (fun r s1 h1 => ?_) fun _ _ h'=>h')))
  cases r with
  | none=>exact wpAny_pure h1
  | some v =>
    refine wpAny_bind (wpAny_mono h1 (fun _ s2 h2=>wpAny_bind (wpAny_mono h2 (fun _ s3 h3 => ?_) fun _ _ h'=>h')) fun _ _ h'=>h')
    refine wpAny_bind (wpAny_tests_nil ?_)
    exact wpAny_bind (wpAny_bind (wpAny_mono h3 (fun x s4 h4=>wpAny_bind (wpAny_mono h4 (fun _ s5 h5=>wpAny_pure (wpAny_pure ⟨rfl,h5⟩)) fun _ _ h'=>h')) fun _ _ h'=>h'))
end

def cxComp (X:Cx) (N':List Str) (scope:Scope) (C:Addr) (s0:Shared) (H0:Hp) (fp:List Addr) (pins:List (Addr × Obj)):Cx where
  prog:=X.prog
  w:=X.w
  K:=X.K
  mg:=X.mg
  base:=X.base
  A:=X.A
  N:=N'
  s₀:=s0
  H₀:=H0
  env:=compEnv scope C X.env
  outer:=X.stack
  stack:=X.stack
  ex:=fp
  fn:=fun _=>false
  calm:=X.calm
  pn:=X.pn++pins
  xe:=fun _ _=>False


def compK (N':List Str) (g:TG) (te:TE) (Q:VK):It→Hp→Prop:=fun J H1=>∀ D,H1 D=none→∃ W:Nat→Nat→List V→Hp→Prop,(∃ m,W 0 m [] (upd H1 D (.lst []))) ∧
  ∀ i m ys H2,W i m ys H2→H2 D=some (.lst ys)∧((J.stop i H2∧Q (.ref D) H2)∨(J.go i H2∧ys.length < sizeLine ∧
    ∀ x H',J.yld i H2 x H'→g x (List.replicate N'.length none) H' fun σ2 H3=>te σ2 H3 fun y H4=>H4 D=some (.lst ys)∧∃ m',m' < m∧W (i + 1) m' (ys++[y]) (upd H4 D (.lst (ys++[y])))))
def tComp (N':List Str) (wi:TI) (g:TG) (te:TE):TE:=fun σ H Q=>wi σ H (compK N' g te Q)

section
variable {X:Cx} {elt tg iter:Expr} {scope:Scope} {pos:Pos} {N':List Str} {wi:TI} {g:TG} {te:TE}
theorem HOk.but {P:Program} {w:World} {H:Hp} {h h':Heap} {C:Addr} (x:HOk P w H h) (n:H C=none) (k:∀ b u,b≠C→h.get? b=some u→h'.get? b=some u):HOk P w H h':=fun a o e =>
  (x a o e).stay (fun b u hb q=>k b u (by
    rcases hb with z | z
    · rw [z]; intro z2; rw [z2,n] at e; cases e
    · intro z2; rw [z2,n] at z; cases z) q) (fun _ q=>q) fun _ _ q=>q
theorem pe_comp (hfree:∀ y∈scope.names,y.2≠.free) (hcell:∀ y∈scope.names,y.2≠.cell) (hkind:scope.kind=.function) (hnames:∀ y∈scope.names,y.2=.local→scope.names.lookup y.1=some .local)
    (hcalm:X.calm=true) (hi:PI X tg iter wi) (hg:∀ C s0 H0 fp pins,PG (cxComp X N' scope C s0 H0 fp pins) tg g) (he:∀ C s0 H0 fp pins,PE (cxComp X N' scope C s0 H0 fp pins) elt te)
    (hs:∀ x,foldedSetIterable iter X.env x=pure x:=by intro _; rfl):PE X (.ListComp elt [⟨tg,iter,[],0⟩] scope pos) (tComp N' wi g te):=by
  intro pins s σ H Q I h
  refine wpAny_ListComp hfree hkind hnames (thn (hi pins s σ H _ I h) fun v s1 h1=>thn h1 fun itv s2 h2 => ?_) hs
  obtain ⟨it,fp,tn,J,H2,e,I2,T,st2,f2,hW⟩:=h2
  subst e
  refine wpAny_newObj_type (wpAny_newFunctionEnv hcell (by intro y hy; simp at hy) (fun h₁ hns₁ hsb₁ => ?_) hkind)
  dsimp only at hns₁ hsb₁ ⊢
  generalize hH2:s2.heap.push { cls:=.type "list",dict:=none,data:=.seq ([]:List Value).toArray }=P2 at hns₁ hsb₁ ⊢
  have hC:P2.objs.size=s2.heap.objs.size + 1:=by rw [← hH2,Heap.size_push]
  have below:∀ b,b < s2.heap.objs.size→b≠P2.objs.size∧b≠s2.heap.objs.size:=fun b hb=>⟨by rw [hC]; exact Nat.ne_of_lt (Nat.lt_succ_of_lt hb),Nat.ne_of_lt hb⟩
  have hDC:s2.heap.objs.size≠P2.objs.size:=by rw [hC]; exact Nat.ne_of_lt (Nat.lt_succ_self _)
  have old:∀ b o,s2.heap.get? b=some o→h₁.get? b=some o:=fun b o e=>hsb₁.extBut b o (below b (Heap.lt_size e)).1 (Heap.get?_push_of_some _ (hH2▸Heap.get?_push_of_some _ e))
  have hD:h₁.get? s2.heap.objs.size=some { cls:=.type "list",dict:=none,data:=.seq ([]:List Value).toArray }:=hsb₁.extBut _ _ hDC (Heap.get?_push_of_some _ (hH2▸Heap.get?_push_size _ rfl))
  have frD:H2 s2.heap.objs.size=none:=I2.hok.fresh (Nat.le_refl _)
  have frC:H2 P2.objs.size=none:=I2.hok.fresh (by rw [hC]; exact Nat.le_succ _)
  have hfp:∀ b∈fp,b < s2.heap.objs.size:=fun b hb=>by
    obtain ⟨o,e,_⟩:=T.obj _ _ st2 b hb
    exact Heap.lt_size e
  have nst:∀ b,b≠X.env.locals→b∉X.fs→b∉frs X.stack:=fun b n1 n2 z=>by
    rcases List.mem_cons.mp (I2.stkSub b z) with e | e
    · exact n1 e
    · exact n2 e
  obtain ⟨W,⟨m0,w0⟩,turn⟩:=hW s2.heap.objs.size frD
  have nocell:∀ (x:Str) (c:Addr),(compEnv scope P2.objs.size X.env).cells.lookup x=some c→False:=fun x c e=>by
    have e':([]:List (Str × Addr)).lookup x=some c:=e
    cases e'
  have ok':(cxComp X N' scope P2.objs.size s2 H2 fp pins).Ok:=by
    refine ⟨I2.ok.mod,hkind,I2.ok.glob,I2.ok.blt,?_,fun x y c e=>(nocell x c e).elim,fun x hx => ?_,fun x c _ e=>(nocell x c e).elim,I2.ok.hd,I2.ok.frames,.inl rfl,fun b hb=>⟨(below b (hfp b hb)).1,fun x c e=>(nocell x c e).elim⟩,I2.bs,Nat.le_trans I2.ok.bsz I2.sz,fun b o e hb => ?_,fun b hb=>nst b (f2 b hb).2.1 (f2 b hb).2.2.1,I2.stack,I2.stkFree⟩
    · show s2.heap.objs.size≤P2.objs.size
      rw [hC]; exact Nat.le_succ _
    · have hx':scope.names.lookup x=some .cell∨scope.names.lookup x=some .free:=hx
      rcases hx' with z | z
      · exact absurd rfl (hcell _ (PySem.mem_of_lookup z))
      · exact absurd rfl (hfree _ (PySem.mem_of_lookup z))
    · rcases (f2 b hb).2.2.2.1 with z | z
      · exact I2.ok.noex b o e z
      · exact absurd (Nat.lt_of_lt_of_le (Heap.lt_size (I2.ok.bs b o e).1) z) (Nat.lt_irrefl _)
  have I':Inv (cxComp X N' scope P2.objs.size s2 H2 fp pins) [] (List.replicate N'.length none) (upd H2 s2.heap.objs.size (.lst [])) { s2 with heap:=h₁,toks:=s2.toks + ([]:List (Str × Value)).length }:=by
    refine ⟨ok',rfl,I2.bare,Un.laid old (Nat.le_refl _) frD,⟨_,hns₁,fun i x v e1 e2 e3 => ?_⟩,fun x c e=>(nocell x c e).elim,?_,fun x c e=>(nocell x c e).elim,fun p hp => ?_,I2.hok.laid old (Nat.le_refl _) ⟨by simp,[],0,.nil,hD⟩,by simp [cxComp]⟩
    · rw [List.getElem?_replicate] at e2
      split at e2 <;> cases e2
    · show upd H2 s2.heap.objs.size (.lst []) P2.objs.size=none
      rw [upd_ne (Ne.symm hDC)]; exact frC
    · have hp':p∈X.pn++pins:=by
        rcases List.mem_append.mp hp with z | z
        · exact z
        · cases z
      obtain ⟨a1,a2,a3,a4,a5⟩:=I2.pin p hp'
      refine ⟨old _ _ a1,?_,(below _ (Heap.lt_size a1)).1,nst _ a3 a4,a5⟩
      rw [upd_ne (below _ (Heap.lt_size a1)).2]; exact a2
  have stat:∀ {H':Hp},(∀ b∈fp,H' b=none)→∀ b∈fp,FpOk (cxComp X N' scope P2.objs.size s2 H2 fp pins) [] H' b:=fun {H'} hn b hb =>
    ⟨hn b hb,(below b (hfp b hb)).1,nst b (f2 b hb).2.1 (f2 b hb).2.2.1,.inl hb,fun x c e=>(nocell x c e).elim,fun p hp=>(f2 b hb).2.2.2.2.2 p (by
      rcases List.mem_append.mp hp with z | z
      · exact z
      · cases z)⟩
  have fin:∀ (ys:List V) (σ':St) (H':Hp) (s':Shared),Inv (cxComp X N' scope P2.objs.size s2 H2 fp pins) [] σ' H' s'→Q (.ref s2.heap.objs.size) H' →
      ∃ m,s'.heap.Ns P2.objs.size m∧∀ h',Heap.SameBut P2.objs.size s'.heap h'→EP X pins σ Q (.ref s2.heap.objs.size) { s' with heap:=h' }:=by
    intro ys σ' H' s' J1 q
    obtain ⟨m,hm,_⟩:=id J1.loc
    refine ⟨m,hm,fun h' sb=>⟨.ref s2.heap.objs.size,H',?_,rfl,q⟩⟩
    have ne:∀ b o,s2.heap.get? b=some o→b≠P2.objs.size:=fun b o e=>(below b (Heap.lt_size e)).1
    refine I2.call' (s':={ s' with heap:=h' }) (ch:=fp) J1.os ⟨fun b o e n hb hx => ?_,fun b o e n hb hx => ?_,fun b o e n hx=>J1.base.free b o e n hx,fun b o e hx => ?_,J1.base.tups,J1.base.frzs,J1.base.tbls⟩ (J1.hok.but J1.free fun b u hb q=>(sb.2 b hb).trans q) J1.bare fun b hb=>⟨(f2 b hb).2.2.2.1,(f2 b hb).2.1,(f2 b hb).2.2.2.2.1,(f2 b hb).2.2.2.2.2⟩
    · exact (sb.2 b (ne b o e)).trans (J1.base.keep b o e n hb hx)
    · obtain ⟨sl,z⟩:=J1.base.slot b o e n hb hx
      exact ⟨sl,(sb.2 b (ne b o e)).trans z⟩
    · obtain ⟨o',z⟩:=J1.base.there b o e hx
      exact ⟨o',(sb.2 b (ne b o e)).trans z⟩
  have loop:codeAny (model X.prog X.w) X.A (.compLoop (.ListComp elt [⟨tg,iter,[],0⟩] scope pos) 0 (.ref it) (.ref s2.heap.objs.size) (compEnv scope P2.objs.size X.env))
      (fun r s'=>∃ m,s'.heap.Ns P2.objs.size m∧∀ h',Heap.SameBut P2.objs.size s'.heap h'→match r with
        | .ok _=>EP X pins σ Q (.ref s2.heap.objs.size) { s' with heap:=h' }
        | .error x=>wpAny (model X.prog X.w) X.A (passOn "comprehension.variables-let-go" x (compEnv scope P2.objs.size X.env)) (EP X pins σ Q) X.xe { s' with heap:=h' })
      { s2 with heap:=h₁,toks:=s2.toks + ([]:List (Str × Value)).length }:=by
    refine compLoop_go (fun n s'=>∃ i ys σ' H',Inv (cxComp X N' scope P2.objs.size s2 H2 fp pins) [] σ' H' s'∧tn i s'.heap∧(∀ b∈fp,H' b=none)∧W i n ys H') ?_ m0
      ⟨0,[],List.replicate N'.length none,_,I',T.keep _ _ _ st2 (fun b hb o e=>old b o e),fun b hb=>by rw [upd_ne (below b (hfp b hb)).2]; exact (f2 b hb).1,w0⟩
    rintro n s3 ⟨i,ys,σ3,H3,J3,st3,fr3,w3⟩
    obtain ⟨hl,q3⟩:=turn i n ys H3 w3
    rcases q3 with ⟨stop,q⟩ | ⟨go,hlt,step⟩
    · refine thn (T.done (cxComp X N' scope P2.objs.size s2 H2 fp pins) rfl rfl rfl hcalm i [] s3 σ3 H3 _ J3 (stat fr3) st3 stop) fun r s4 ⟨hr,J4⟩ => ?_
      subst hr
      exact fin ys σ3 H3 s4 J4 q
    · refine thn (T.item (cxComp X N' scope P2.objs.size s2 H2 fp pins) rfl rfl rfl hcalm i [] s3 σ3 H3 _ J3 (stat fr3) st3 go) fun r s4 ⟨u,hr,h4⟩ => ?_
      subst hr
      refine thn h4 fun _ s5 ⟨x,H5,J5,r5,y5,st5,fr5⟩ => ?_
      have J5':=J5.pinned (stat fr5) (T.obj _ _ st5)
      have J6:Inv (cxComp X N' scope P2.objs.size s2 H2 fp pins) ([]++pinsAt fp s5.heap) (List.replicate N'.length none) H5 s5:=J5'.weak (by rw [J5'.len]; simp [cxComp]) fun j v e=>by
        rw [List.getElem?_replicate] at e
        split at e <;> cases e
      refine wpAny_mono (hg _ _ _ _ _ _ s5 _ H5 x u _ J6 r5 (step x H5 y5)) (fun _ s6 ⟨σ6,H6,J7,q6⟩ => ?_) fun _ _ z=>False.elim z
      refine wpAny_mono (he _ _ _ _ _ _ s6 σ6 H6 _ J7 q6) (fun yv s7 ⟨y,H7,J8,r7,q7⟩ => ?_) fun _ _ z=>False.elim z
      obtain ⟨hl7,m',hm',w7⟩:=q7
      refine wpAny_mono (mt_append (X:=cxComp X N' scope P2.objs.size s2 H2 fp pins) _ s7 σ6 H7 (.ref s2.heap.objs.size) [y] (.ref s2.heap.objs.size) [yv] (fun v H8=>H8=upd H7 s2.heap.objs.size (.lst (ys++[y]))) J8 rfl (.cons r7 .nil) ⟨_,ys,y,rfl,rfl,hl7,hlt,rfl⟩) (fun _ s8 ⟨v8,H8,J9,r8,e8⟩ => ?_) fun _ _ z=>False.elim z
      subst e8
      have pk:∀ b∈fp,∀ o,s5.heap.get? b=some o→s8.heap.get? b=some o∧upd H7 s2.heap.objs.size (.lst (ys++[y])) b=none:=fun b hb o e =>
        let z:=J9.pin (b,o) (List.mem_append_right _ (List.mem_append_right _ (mem_pinsAt hb e)))
        ⟨z.1,z.2.1⟩
      refine ⟨m',hm',i + 1,ys++[y],σ6,_,J9.unpinned,T.keep _ _ _ st5 fun b hb o e=>(pk b hb o e).1,fun b hb => ?_,w7⟩
      obtain ⟨o,e,_⟩:=T.obj _ _ st5 b hb
      exact (pk b hb o e).2
  exact codeAny_compStart_list loop (T.self X.A 0 { s2 with heap:=h₁,toks:=s2.toks + ([]:List (Str × Value)).length } _ _ (T.keep _ _ _ st2 fun b hb o e=>old b o e) loop)
end

section
variable {X:Cx}
theorem boolsAre_of:∀ {bs:List Bool} {us:List Value},Vals (bs.map V.bl) us→LSm.BoolsAre us bs
  | [],us,r=>by rw [List.map_nil] at r; cases r; exact .nil
  | b::bs,us,r=>by
    rw [List.map_cons] at r
    cases r with
    | cons r1 r2 =>
      cases (show _=Value.bool b from r1)
      exact .cons b (boolsAre_of r2)
theorem call_all (hc:X.calm=true):CallR X (.builtin "all") (fun xs H Q=>∃ (a:Addr) (bs:List Bool),xs=[.ref a]∧SqL X.K H a (bs.map V.bl)∧Q (.bl (bs.all id)) H):=by
  intro pins s σ H xs us Q I r h
  obtain ⟨a,bs,rfl,hS,q⟩:=h
  obtain ⟨u,rfl,ru⟩:=vals1 r
  cases ru
  obtain ⟨its,rv,pl,_⟩:=I.list hS
  have hb:=boolsAre_of rv
  have hlt:a < s.heap.objs.size:=by obtain ⟨_,e,_⟩:=pl.isList; exact Heap.lt_size e
  refine call_all_walk (wpAny_pyIter_list pl.isList ?_)
  refine ⟨s.heap.objs.size,[s.heap.objs.size,a],[s.heap.objs.size],its.toArray.size,_,_,fun i=>(bs[i]?).getD true,rfl,Walks.list (A:=X.A.in1) (I.ok.hd hc) _ a (Nat.ne_of_lt hlt) its.toArray,
    ⟨⟨_,Heap.get?_push_size _ rfl,rfl,rfl⟩,pl.isList.push _⟩,fun i v s' Q' E' hP hQ => ?_,fun h' tk hk => ?_⟩
  · obtain ⟨b,e,rfl⟩:=hb.get i v (by simpa using hP)
    simp only [e,Option.getD_some] at hQ
    exact wpAny_truthy_bool hQ
  · have e:((List.range its.toArray.size).all fun i=>(bs[i]?).getD true)=bs.all id:=by
      rw [List.size_toArray,hb.length]; exact LSm.range_all bs
    rw [e]
    exact ⟨.bl _,H,I.kept (LSm.kept_iter hk),rfl,q⟩


end
end L2

namespace L2
open PySem PySem.Spec PyProof.Rows



def Quiet (CX:CXT):Prop:=∀ outer H s e s',CX outer H s E0 e s'→False
theorem passQ {CX:CXT} {X:Cx} (q:Quiet CX):Passes CX X E0:=fun _ _ _ _ _ _ _ h=>(q _ _ _ _ _ h).elim
structure Fok (P:Program) (w:World) (K:PySem.W.Frag) (mg:Str→Option Value) (base:Heap) (CX:CXT) (j:Nat) (x:Str) (ps:List Str) (dvs:List V) (sp:Sp):Prop where
  ex:∃ f fd ds,FnOk P w K mg base CX j f fd ps sp∧Binds K fd ps ds∧Vals dvs ds∧PySem.W.keepIn K (.ref f)=true∧mg x=some (.ref f)
section
variable {X:Cx} {CX:CXT} {j k:Nat} {ps:List Str} {sp:Sp} {dvs:List V} {E:XK} {x:Str} {p pos:Pos} {e:Expr} {es:List Expr} {t:TA}

theorem pe_callX (F:Fok X.prog X.w X.K X.mg X.base CX j x ps dvs sp) (hr:Room k X.A) (hx:Passes CX X E) (ha:PA X (e::es) t) (hj:j≤k:=by decide) (hg:Gl X x:=by rfl)
    (hdb:(x == ("__debug__" : Str))=false:=by decide) (he:starEach (e::es) X.env=(false,eval e X.env)::starEach es X.env:=by rfl) (hpl:(backTo pos (starEach es X.env)).any (·.1)=false:=by rfl) :
    PE X (.Call (.Name x p) (e::es) [] pos) (tCall sp dvs E t):=by
  obtain ⟨f,fd,ds,G,b,v,kp,m⟩:=F.ex
  exact pe_call G (hr.mono hj) hg m kp b v hx ha hdb he hpl
theorem pe_callF (F:Fok X.prog X.w X.K X.mg X.base CX j x ps dvs sp) (q:Quiet CX) (hr:Room k X.A) (ha:PA X (e::es) t) (hj:j≤k:=by decide) (hg:Gl X x:=by rfl)
    (hdb:(x == ("__debug__" : Str))=false:=by decide) (he:starEach (e::es) X.env=(false,eval e X.env)::starEach es X.env:=by rfl) (hpl:(backTo pos (starEach es X.env)).any (·.1)=false:=by rfl) :
    PE X (.Call (.Name x p) (e::es) [] pos) (tCall sp dvs E0 t):=pe_callX F hr (passQ q) ha hj hg hdb he hpl
end
section
variable {P:Program} {w:World} {K:PySem.W.Frag} {mg:Str→Option Value} {base:Heap}

structure FunD (K:PySem.W.Frag) (x qual:Str) (st:Stmt) (f:Addr) (fd:FuncData) (dV:Value):Prop where
  ex:∃ (oc:Value) (od:Option Addr) (kV doc pm:Value) (an:Option Addr) (cdv ct:Value) (osl:Array (Option Value)),
    fd=PySem.W.fnOf x qual (defArgs st) (defBody st) (defScope st) dV kV doc pm an cdv ct∧K.lookup f=some ⟨oc,od,.func fd,osl⟩∧PySem.W.codeIn K cdv qual=true
  kp:PySem.W.keepIn K (.ref f)=true
theorem funD_mk {x qual:Str} {st:Stmt} {f:Addr} {oc:Value} {od an:Option Addr} {osl:Array (Option Value)} {dV kV doc pm cdv ct:Value} (l:K.lookup f=some ⟨oc,od,.func (PySem.W.fnOf x qual (defArgs st) (defBody st) (defScope st) dV kV doc pm an cdv ct),osl⟩)
    (c:PySem.W.codeIn K cdv qual=true) (k:PySem.W.keepIn K (.ref f)=true):FunD K x qual st f (PySem.W.fnOf x qual (defArgs st) (defBody st) (defScope st) dV kV doc pm an cdv ct) dV:=⟨⟨oc,od,kV,doc,pm,an,cdv,ct,osl,rfl,l,c⟩,k⟩

theorem FunD.ok {x qual:Str} {st:Stmt} {f:Addr} {fd:FuncData} {dV:Value} {N ps:List Str} {k:Nat} {sp:Sp} {CX:CXT} (F:FunD K x qual st f fd dV) (S:FnScope N ps (defScope st)) (len:∀ vs H Q E,sp vs H Q E→vs.length=ps.length)
    (hbody:∀ (cdv:Value) (A:Around) (outer:List Env) (s:Shared) (H:Hp) (vs:List V) (Q:VK) (E:XK),Room k (A.deeper (envOfC qual (defScope st) s.heap.objs.size f cdv))→sp vs H Q E →
      ∃ t,PSs (cxOf CX P w K mg base N qual (defScope st) f cdv A outer s H E).nox (defBody st) t∧t { nx:=fun _ H'=>Q .non H',rt:=Q } (start N vs) H):FnOk P w K mg base CX (k + 1) f fd ps sp:=by
  obtain ⟨oc,od,kV,doc,pm,an,cdv,ct,osl,rfl,lk,hcd⟩:=F.ex
  refine fn_of lk hcd S len fun A outer s H vs Q E hr hsp => ?_
  obtain ⟨t,h,q⟩:=hbody cdv A outer s H vs Q E hr hsp
  exact ⟨t,h.nox,q⟩

theorem FunD.okX {x qual:Str} {st:Stmt} {f:Addr} {fd:FuncData} {dV:Value} {N ps:List Str} {k:Nat} {sp:Sp} {CX:CXT} (F:FunD K x qual st f fd dV) (S:FnScope N ps (defScope st)) (len:∀ vs H Q E,sp vs H Q E→vs.length=ps.length)
    (hbody:∀ (cdv:Value) (A:Around) (outer:List Env) (s:Shared) (H:Hp) (vs:List V) (Q:VK) (E:XK),Room k (A.deeper (envOfC qual (defScope st) s.heap.objs.size f cdv))→sp vs H Q E →
      ∃ t,PSs (cxOf CX P w K mg base N qual (defScope st) f cdv A outer s H E) (defBody st) t∧t { nx:=fun _ H'=>Q .non H',rt:=Q } (start N vs) H):FnOk P w K mg base CX (k + 1) f fd ps sp:=by
  obtain ⟨oc,od,kV,doc,pm,an,cdv,ct,osl,rfl,lk,hcd⟩:=F.ex
  exact fn_of lk hcd S len fun A outer s H vs Q E hr hsp=>hbody cdv A outer s H vs Q E hr hsp

theorem FunD.binds {x qual:Str} {st:Stmt} {f:Addr} {fd:FuncData} {dV:Value} {ps:List Str} (F:FunD K x qual st f fd dV)
    (h:∀ (kV doc pm:Value) (an:Option Addr) (cdv ct:Value) (us:List Value),us.length=ps.length→bindArgs (PySem.W.fnOf x qual (defArgs st) (defBody st) (defScope st) dV kV doc pm an cdv ct) ⟨us,[]⟩=pure (ps.zip us)):Binds K fd ps []:=by
  obtain ⟨oc,od,kV,doc,pm,an,cdv,ct,osl,rfl,lk,hcd⟩:=F.ex
  exact .all (h kV doc pm an cdv ct)

theorem fok {CX:CXT} {j:Nat} {x qual:Str} {st:Stmt} {f:Addr} {fd:FuncData} {dV:Value} {ps:List Str} {sp:Sp} (F:FunD K x qual st f fd dV) (G:FnOk P w K mg base CX j f fd ps sp) (b:Binds K fd ps []) (m:mg x=some (.ref f)) :
    Fok P w K mg base CX j x ps [] sp:=⟨f,fd,[],G,b,.nil,F.kp,m⟩

end


section
variable {X:Cx}
def CDivW (i j:Int):Prop:=0 < j∧j < 2 ^ 1000
theorem op_fdivW:OpR X (binaryOp .FloorDiv) (rI CDivW fun i j=>.int (i / j)):=opI fun i j _ _ _ _ _ hc q=>by
  have h1:(0:Int) < j:=hc.1
  have h2:j < 2 ^ 1000:=hc.2
  refine floordiv_int (by omega) (by rw [Int.fdiv_eq_ediv_of_nonneg i (by omega)]; exact q) (.inl (PyProof.noPylong_of_log2 ?_))
  have e:j.natAbs.log2 < 1000:=by
    refine (Nat.log2_lt (by omega)).mpr ?_
    have e2:((j.natAbs:Nat):Int)=j:=by omega
    have e3:((2 ^ 1000:Nat):Int)=(2:Int) ^ 1000:=by rw [Int.natCast_pow]; rfl
    omega
  omega
theorem cdivW {i j:Int} (h0:0 < j) (h1:j < 1000000000000000000000000):CDivW i j:=⟨h0,Int.lt_trans h1 (by decide +kernel)⟩
end
theorem bt_int:bootBuiltins "int" = some (.type "int"):=by decide +kernel
theorem bt_str:bootBuiltins "str" = some (.type "str"):=by decide +kernel
theorem bt_list:bootBuiltins "list" = some (.type "list"):=by decide +kernel
theorem bt_tuple:bootBuiltins "tuple" = some (.type "tuple"):=by decide +kernel
theorem bt_dict:bootBuiltins "dict" = some (.type "dict"):=by decide +kernel
theorem bb_isinstance:bootBuiltins "isinstance" = some (.builtin "isinstance"):=by decide +kernel
theorem bb_max:bootBuiltins "max" = some (.builtin "max"):=by decide +kernel
theorem bb_min:bootBuiltins "min" = some (.builtin "min"):=by decide +kernel
theorem bb_all:bootBuiltins "all" = some (.builtin "all"):=by decide +kernel
theorem bb_len:bootBuiltins "len" = some (.builtin "len"):=by decide +kernel
section
variable {K:PySem.W.Frag}
theorem kit_ss:PySem.W.kitOne K (.type "str") (.type "str")=some true:=by kernel_rfl
theorem kit_tt:PySem.W.kitOne K (.type "tuple") (.type "tuple")=some true:=by kernel_rfl
end
end L2

namespace L2
open PySem PySem.Spec PyProof.Rows


section
variable {prog:Program} {w:World} {A:Around} {E:Value→Shared→Prop} {s:Shared}
end
end L2

namespace L2
open PySem PySem.Spec PyProof.Rows

end L2

namespace L2
open PySem PySem.Spec PyProof.Rows
section
variable {prog:Program} {w:World} {A:Around} {E:Value→Shared→Prop} {s:Shared}
end

section
variable {X:Cx} {pins:List (Addr × Obj)} {σ:St} {H:Hp} {s:Shared} {h':Heap}
theorem Inv.turnedL {t':Nat} {L:List Addr} (I:Inv X pins σ H s) (k:∀ b o,b∉L→s.heap.get? b=some o→h'.get? b=some o) (f:∀ b∈L,FpOk X pins H b):Inv X pins σ H { s with heap:=h',toks:=t' }:=by
  have nit:∀ b u,H b=some u→b∉L:=fun b u e z=>by rw [(f b z).1] at e; cases e
  refine I.step (g':=s.gens) (d':=s.drawn) (ch:=L) (fun b hb => ?_) (fun b o _ _ hc e _=>k b o hc e) (fun b o _ _ hc e _=>⟨o.slots,k b o hc e⟩) (fun _ _ _ _ n=>n)
    (fun b o hc e=>⟨o,k b o hc e⟩) (fun _ _ e=>e) (fun _ _ _ e=>e) (fun b ps e=>⟨#[],by rw [e]; simp⟩) (fun m hm => ?_) (fun b u e => ?_) I.bare
  · obtain ⟨f0,f1,f2,f3,f4,f5⟩:=f b hb
    exact ⟨f3,f1,f4,f5⟩
  · obtain ⟨o,es,ep,ho,r⟩:=hm
    exact ⟨o,es,ep,k _ o (fun z=>(f _ z).2.1 rfl) ho,r⟩
  · refine (I.hok b u e).stay (fun c v hc q=>k c v ?_ q) (fun _ q=>q) fun _ _ q=>q
    rcases hc with z | z
    · rw [z]; exact nit b u e
    · exact nit c _ z
end
section
variable {X:Cx}
end
end L2

namespace L2
open PySem PySem.Spec PyProof.Rows


def KTu (K:PySem.W.Frag) (a:Addr) (xs:List V):Prop:=∃ (o:Obj) (its:Array Value) (n:Nat),K.lookup a=some o∧o.cls=.type "tuple" ∧ o.data=.seq its n∧its.size≤sizeLine∧Vals xs its.toList
theorem KTu.sq {K:PySem.W.Frag} {a:Addr} {xs:List V} {H:Hp} (h:KTu K a xs):SqT K H a xs:=.inr h

def KD (P:Program) (w:World) (K:PySem.W.Frag) (a:Addr) (kvs:List (Key × V)):Prop:=∃ (o:Obj) (vs:List (Key × Value)),K.lookup a=some o∧KV kvs vs∧o.IsDictOf (mixKind P w) vs
def tKGet (P:Program) (w:World) (K:PySem.W.Frag) (td ty:TE):TE:=fun σ H Q=>td σ H fun x H1=>ty σ H1 fun y H2=>∃ a kvs k v,x=.ref a∧y=kV k∧KD P w K a kvs∧valV kvs k=some v∧Q v H2
theorem pe_kget {X:Cx} {o i:Expr} {pos:Pos} {td ty:TE} (ho:PE X o td) (hi:PE X i ty) (hs:NoSl i):PE X (.Subscript o i pos) (tKGet X.prog X.w X.K td ty):=by
  intro pins s σ H Q I h
  refine subD_of PySem.F.slot_dict_getitem.lookup hs (thn (ho pins s σ H _ I h) fun u s1 ⟨x,H1,I1,rx,q1⟩=>thn (hi pins s1 σ H1 _ I1 q1) fun iv s2 ⟨y,H2,I2,ry,a,kvs,k,v,ex,ey,kd,l,q2⟩ => ?_)
  subst ex ey
  obtain rfl:u=Value.ref a:=rx
  obtain ⟨ob,vs,hk,rel,dd⟩:=kd
  have dd':s2.heap.DictOf (mixKind X.prog X.w) a vs:=Heap.dictOf_iff.mpr ⟨ob,I2.kIn a ob hk,dd⟩
  obtain ⟨w',hw,rw'⟩:=RelO.some_of (v:=v) (o:=valueAt vs k) (by rw [← l]; exact rel.val k)
  exact ⟨dd'.typeIs,wpAny_getItem_of (kV_is ry) dd'.mapOf hw ⟨v,H2,I2.tok _,rw',q2⟩⟩
end L2

namespace L2
open PySem PySem.Spec PyProof.Rows

end L2

namespace L2
open PySem PySem.Spec PyProof.Rows


theorem ObjOk.there {P:Program} {w:World} {H:Hp} {h:Heap} {a:Addr} {o:HO} (x:ObjOk P w H h a o):∃ u,h.get? a=some u:=by
  cases o with
  | lst xs=>obtain ⟨_,_,_,_,e⟩:=x; exact ⟨_,e⟩
  | tup xs=>obtain ⟨_,_,_,o,e,_⟩:=x; exact ⟨_,e⟩
  | dK kvs=>obtain ⟨_,_,_,_,o,_,_,e,_⟩:=x; exact ⟨_,e⟩
  | dT kvs=>obtain ⟨_,_,_,_,o,_,_,e,_⟩:=x; exact ⟨_,e⟩
  | set S n=>obtain ⟨o,_,_,_,e,_⟩:=x; exact ⟨_,e⟩
  | ins C dx fs=>obtain ⟨_,_,_,e,_⟩:=x; exact ⟨_,e⟩
  | own y=>exact x
  | xd fs=>obtain ⟨_,⟨_,_,_,e,_⟩,_⟩:=x; exact ⟨_,e⟩
  | rng lo hi=>obtain ⟨_,_,_,e⟩:=x; exact ⟨_,e⟩
  | frz ob u=>obtain ⟨e,_⟩:=x; exact ⟨_,e⟩
  | tbl ps=>exact ⟨_,(show h.get? a=some _ from x)⟩
  | met f y=>exact ⟨_,(show h.get? a=some _ from x)⟩
  | ext φ=>obtain ⟨_,e,_⟩:=x; exact e
theorem HOk.not {P:Program} {w:World} {H:Hp} {h:Heap} {a:Addr} (x:HOk P w H h) (e:h.get? a=none):H a=none:=by
  cases q:H a with
  | none=>rfl
  | some o =>
    obtain ⟨u,z⟩:=(x a o q).there
    rw [e] at z; cases z

structure Fly (h0:Heap) (H:Hp) (h:Heap) (e:Addr) (cls:Value):Prop where
  ex:∃ oe vs a0 T oT ts,h.get? e=some oe∧(oe.cls=cls∧vs[0]? = some a0)∧oe.data=.fields vs∧vs[1]? = some (.ref T)∧(h0.get? T=none∧H T=none)∧T≠e∧h.get? T=some oT∧oT.data=.fields ts∧ts[3]? = some .none
  new:h0.get? e=none
  un:H e=none
def CXe (P:Program) (w:World):CXT:=fun outer H s E ev s'=>∃ e cls H',ev=.ref e∧s'.os=s.os∧AllBare s'.gens∧Un (frs outer) [] H H' s.heap s'.heap∧HOk P w H' s'.heap∧Fly s.heap H' s'.heap e cls∧E cls none H'
theorem quietE {P:Program} {w:World}:Quiet (CXe P w):=fun _ _ _ _ _ ⟨_,_,_,_,_,_,_,_,_,h⟩=>h

theorem rebase {h b b':Heap}:∀ {l:List Env},h.FunFrames b l→(∀ a∈frs l,b'.get? a=none)→h.FunFrames b' l
  | [],_,_=>trivial
  | env::r,⟨hk,⟨L,o,hf,hn,ho,hd⟩,hr⟩,k=>by
    have e:frs (env::r)=L::frs r:=by unfold frs; rw [List.filterMap_cons,hf]
    rw [e] at k
    exact ⟨hk,⟨L,o,hf,k L List.mem_cons_self,ho,hd⟩,rebase hr fun a ha=>k a (List.mem_cons_of_mem _ ha)⟩

abbrev less (h:Heap) (l:List Addr):Heap:=PySem.W.hideAll h l
theorem less_stays (h:Heap) (l:List Addr):(less h l).StaysIn h:=fun _ _ e=>PySem.W.of_hideAll l e

section
variable {P:Program} {w:World} {H H':Hp} {h h' h'' bs:Heap} {l:List Env} {hid:List Addr}

theorem un_upto (u:Un (frs l) [] H H' h h') (ok:HOk P w H' h') (fr:h'.FunFrames bs l) (fre:∀ b∈frs l,H' b=none) (hh:∀ b∈hid,h.get? b=none∧H' b=none)
    (st:(less h' (hid++frs l)).StaysIn h'') (up:h'.UpToSlots h''):Un (frs l) [] H H' h h''∧HOk P w H' h'':=by
  have kp:∀ b o,h'.get? b=some o→b∉hid→b∉frs l→h''.get? b=some o:=fun b o e n1 n2=>st b o (PySem.W.hideAll_get _ e fun z=>(List.mem_append.mp z).elim n1 n2)
  have nh:∀ b o,h.get? b=some o→b∉hid:=fun b o e z=>by rw [(hh b z).1] at e; cases e
  have fs:∀ b o,h'.get? b=some o→b∈frs l→∃ sl,h''.get? b=some { o with slots:=sl }:=fun b o e hb=>by
    obtain ⟨_,o',e',nf⟩:=fr.mem hb
    rw [e] at e'; cases e'
    exact up b o e nf
  refine ⟨⟨fun b o e n hb hx=>kp b o (u.keep b o e n hb hx) (nh b o e) hb,fun b o e n hb hx => ?_,u.free,fun b o e hx => ?_,u.tups,u.frzs,u.tbls⟩,fun a o e => ?_⟩
  · obtain ⟨sl,e1⟩:=u.slot b o e n hb hx
    obtain ⟨sl',e2⟩:=fs b _ e1 hb
    exact ⟨sl',e2⟩
  · obtain ⟨o',e1⟩:=u.there b o e hx
    by_cases hb:b∈frs l
    · obtain ⟨sl',e2⟩:=fs b _ e1 hb
      exact ⟨_,e2⟩
    · exact ⟨o',kp b o' e1 (nh b o e) hb⟩
  · refine (ok a o e).stay (fun b v hb q => ?_) (fun _ q=>q) fun _ _ q=>q
    have tr:∃ v,H' b=some v:=by
      rcases hb with z | z
      · exact ⟨o,z▸e⟩
      · exact ⟨_,z⟩
    obtain ⟨v',tr⟩:=tr
    refine kp b v q (fun z => ?_) fun z => ?_
    · rw [(hh b z).2] at tr; cases tr
    · rw [fre b z] at tr; cases tr

theorem entry_new (u:Un (frs l) [] H H' h h') (ok:HOk P w H' h') (fr:h'.FunFrames bs l) (hh:∀ b∈hid,h.get? b=none∧H' b=none) (up:h'.UpToSlots h'') {T:Addr} {oT:Obj} {ts:Array Value}
    (e:h''.get? T=some oT) (d:oT.data=.fields ts) (n:(less h' (hid++frs l)).get? T=none):h.get? T=none∧H' T=none:=by
  have nf:T∉frs l:=fun z=>by
    obtain ⟨_,o',e',nf⟩:=fr.mem z
    obtain ⟨sl,q⟩:=up T o' e' nf
    rw [e] at q
    cases q
    exact nf ts d
  by_cases hb:T∈hid
  · exact hh T hb
  · have z:h'.get? T=none:=by
      cases q:h'.get? T with
      | none=>rfl
      | some o =>
        have z:(less h' (hid++frs l)).get? T=some o:=PySem.W.hideAll_get _ q fun z=>(List.mem_append.mp z).elim hb nf
        rw [n] at z; cases z
    refine ⟨?_,ok.not z⟩
    cases q:h.get? T with
    | none=>rfl
    | some o =>
      obtain ⟨o',q'⟩:=u.there T o q (by simp)
      rw [z] at q'; cases q'
end
theorem back {fs:List Addr} {H H':Hp} {h h':Heap} (u:Un fs [] H H' h h') {a:Addr} (e:h'.get? a=none):h.get? a=none:=by
  cases q:h.get? a with
  | none=>rfl
  | some o =>
    obtain ⟨o',q'⟩:=u.there a o q (by simp)
    rw [e] at q'; cases q'


section
variable {P:Program} {w:World} {K:PySem.W.Frag} {mg:Str→Option Value} {base:Heap} {N:List Str} {qual:Str} {scope:Scope} {f:Addr} {cd:Value} {A:Around} {outer:List Env} {s0:Shared} {H0:Hp} {E:XK}

theorem leave_made {pins:List (Addr × Obj)} {σ:St} {H:Hp} {s:Shared} {h':Heap} {e:Addr} {cls:Value} {args:List Value} (I:Inv (cxOf (CXe P w) P w K mg base N qual scope f cd A outer s0 H0 E) pins σ H s)
    (hx:Heap.MadeExcOf s.heap h' e cls args) (q:E cls none H):(cxOf (CXe P w) P w K mg base N qual scope f cd A outer s0 H0 E).xe (.ref e) { s with heap:=h' }:=by
  have fr:s.heap.FunFrames _ (cxOf (CXe P w) P w K mg base N qual scope f cd A outer s0 H0 E).stack:=I.stack
  have kin:=I.stkFree
  refine wpAny_leaves_madeW (base:=less s.heap ([]++frs (cxOf (CXe P w) P w K mg base N qual scope f cd A outer s0 H0 E).stack)) (h:=s.heap) (L:=s0.heap.objs.size) I.ok.frames rfl (less_stays _ _)
    (rebase fr fun a ha=>PySem.W.hideAll_none _ (List.mem_append_right _ ha)) hx fun h'' t x1 x2 x3 x4 => ?_
  have up:s.heap.UpToSlots h'':=(Heap.UpToSlots.of_keeps hx.keeps).trans x4
  obtain ⟨y1,y2,y3,oe,vs,T,oT,ts,z1,z2,z3,z4,z5,z6,z7,z8,z9⟩:=x1
  obtain ⟨u,ok⟩:=un_upto (H:=H) (hid:=[]) Un.refl I.hok fr kin (fun b z=>by cases z) y1 up
  have J:=I.call' (s':={ s with heap:=h'' }) (ch:=[]) rfl u ok I.bare (fun b z=>by cases z)
  obtain ⟨n1,n2⟩:=entry_new (H:=H) (hid:=[]) Un.refl I.hok fr (fun b z=>by cases z) up z7 z8 z5
  exact ⟨e,cls,H,rfl,J.os,J.bare,J.base,ok,⟨⟨oe,vs,_,T,oT,ts,z1,z2,z3,z4,⟨back I.base n1,n2⟩,z6,z7,z8,z9⟩,back I.base hx.new,I.hok.not hx.new⟩,q⟩

theorem leave_on {pins:List (Addr × Obj)} {σ:St} {H:Hp} {s s':Shared} {e:Value} (I:Inv (cxOf (CXe P w) P w K mg base N qual scope f cd A outer s0 H0 E) pins σ H s)
    (c:CXe P w (cxOf (CXe P w) P w K mg base N qual scope f cd A outer s0 H0 E).stack H s E e s'):(cxOf (CXe P w) P w K mg base N qual scope f cd A outer s0 H0 E).xe e s':=by
  obtain ⟨ea,cls,H',rfl,c1,c2,c3,c4,⟨⟨oe,vs,a0,T,oT,ts,f1,f2,f3,f4,f5,f6,f7,f8,f9⟩,fn,fu⟩,q⟩:=c
  have J:=I.call' (s':=s') (ch:=[]) c1 c3 c4 c2 (fun b z=>by cases z)
  have fr:s'.heap.FunFrames _ (cxOf (CXe P w) P w K mg base N qual scope f cd A outer s0 H0 E).stack:=J.stack
  have hh:∀ b∈[ea,T],s.heap.get? b=none∧H' b=none:=fun b hb=>by
    rcases List.mem_cons.mp hb with rfl | hb
    · exact ⟨fn,fu⟩
    · rcases List.mem_cons.mp hb with rfl | hb
      · exact f5
      · cases hb
  refine wpAny_leaves_onW (base:=less s'.heap ([ea,T]++frs (cxOf (CXe P w) P w K mg base N qual scope f cd A outer s0 H0 E).stack)) (L:=s0.heap.objs.size) (cls:=cls) (a0:=a0) I.ok.frames rfl
    ⟨less_stays _ _,PySem.W.hideAll_none _ (by simp),rebase fr fun a ha=>PySem.W.hideAll_none _ (List.mem_append_right _ ha),oe,vs,T,oT,ts,f1,f2,f3,f4,PySem.W.hideAll_none _ (by simp),f6,f7,f8,f9⟩ fun h'' x1 x4 => ?_
  obtain ⟨y1,y2,y3,oe',vs',T',oT',ts',z1,z2,z3,z4,z5,z6,z7,z8,z9⟩:=x1
  obtain ⟨u,ok⟩:=un_upto c3 c4 fr J.stkFree hh y1 x4
  have J':=I.call' (s':={ s' with heap:=h'' }) (ch:=[]) c1 u ok c2 (fun b z=>by cases z)
  obtain ⟨n1,n2⟩:=entry_new c3 c4 fr hh x4 z7 z8 z5
  exact ⟨ea,cls,H',rfl,J'.os,J'.bare,J'.base,ok,⟨⟨oe',vs',_,T',oT',ts',z1,z2,z3,z4,⟨back I.base n1,n2⟩,z6,z7,z8,z9⟩,back I.base fn,fu⟩,q⟩
theorem passE:Passes (CXe P w) (cxOf (CXe P w) P w K mg base N qual scope f cd A outer s0 H0 E) E:=fun _ _ _ _ _ _ I c=>leave_on I c
end
end L2

namespace L2
open PySem PySem.Spec PyProof.Rows


abbrev bmV:List Value:=[.type "ValueError",.type "Exception",.type "BaseException",.type "object"]
structure OwnX (K:PySem.W.Frag) (mg:Str→Option Value) (x:Str) (C:Addr):Prop where
  m:mg x=some (.ref C)
  ok:PySem.W.excIn K C bmV "ValueError.__new__" = true
theorem own_obj {K:PySem.W.Frag} {h:Heap} {C:Addr} {bmB:List Value} {newId:String} (X:K.In h) (q:PySem.W.excIn K C bmB newId=true) :
    ∃ bm N nm qn bs hd sn sub ab col dd k0 k1 k2 k3 k5 mN,h.get? C=some (excClassObj nm qn C N bs bm hd sn sub ab col dd k0 k1 k2 k3 k5 newId)∧h.Ns N mN∧mN "__init__" = none∧OwnTail h bmB bm:=by
  unfold PySem.W.excIn at q
  split at q
  · rename_i dct cdt slo hob
    split at q
    · rename_i C2 bmx j0 j1 j2 j3 nw j5 hmr hsl
      simp only [Bool.and_eq_true,beq_iff_eq,Bool.not_eq_true'] at q
      obtain ⟨⟨⟨⟨⟨q1,q2⟩,q3⟩,q4⟩,q5⟩,q6⟩:=q
      subst q1 q2
      obtain ⟨nm,bs,mro,ns,qn,hd,sn,sub,ab,col,del⟩:=cdt
      dsimp only at hmr q3 q5 q6
      subst hmr q3
      have es:slo = #[j0,j1,j2,j3,some (.builtin nw),j5]:=by
        obtain ⟨l⟩:=slo
        simp only at hsl
        rw [hsl]
      subst es
      exact ⟨bmx,ns,nm,qn,bs,hd,sn,sub,ab,col,dct,j0,j1,j2,j3,j5,_,X _ _ hob,.of_isNs (PySem.W.isNs_of_in X q5),PySem.W.nsMap_none_of_in X q5 q6,PySem.W.tail_of_in X q4⟩
    · cases q
  · cases q

def Raises (X:Cx) (E:XK):Prop:=∀ (pins:List (Addr × Obj)) (σ:St) (H:Hp) (s:Shared) (h':Heap) (e:Addr) (cls:Value) (args:List Value),Inv X pins σ H s→Heap.MadeExcOf s.heap h' e cls args→E cls none H→X.xe (.ref e) { s with heap:=h' }
theorem raisesE {P:Program} {w:World} {K:PySem.W.Frag} {mg:Str→Option Value} {base:Heap} {N:List Str} {qual:Str} {scope:Scope} {f:Addr} {cd:Value} {A:Around} {outer:List Env} {s0:Shared} {H0:Hp} {E:XK} :
    Raises (cxOf (CXe P w) P w K mg base N qual scope f cd A outer s0 H0 E) E:=fun _ _ _ _ _ _ _ _ I hx q=>leave_made I hx q
def tRaise (te:TE) (cls:Value) (E:XK):TS:=fun _ σ H=>te σ H fun _ H1=>E cls none H1
section
variable {X:Cx}
theorem ps_raise {x:Str} {C:Addr} {np cpos pos:Pos} {e:Expr} {te:TE} {E:XK} (o:OwnX X.K X.mg x C) (hE:Raises X E) (ha:PE X e te) (hc:X.calm=true:=by rfl) (hg:Gl X x:=by rfl) (hd:(x == ("__debug__" : Str))=false:=by decide)
    (he:starEach [e] X.env=(false,eval e X.env)::starEach [] X.env:=by rfl):PS X (.Raise (some (.Call (.Name x np) [e] [] cpos)) none pos) (tRaise te (.ref C) E):=by
  intro pins s σ H D I h
  obtain ⟨bm,N,nm,qn,bs,hdt,sn,sub,ab,col,dd,k0,k1,k2,k3,k5,mN,hC,hN,hni,T⟩:=own_obj I.mod.kin o.ok
  refine wpAny_Raise_call_subT (C:=C) (nm:=nm) (q:=qn) (N:=N) (bs:=bs) (bm:=bm) (hdct:=hdt) (sn:=sn) (sub:=sub) (ab:=ab) (col:=col) (dd:=dd) (k0:=k0) (k1:=k1) (k2:=k2) (k3:=k3) (k5:=k5) (mN:=mN)
    F.excBase_ValueError (T.hasType F.excBase_ValueError.hasBase) (I.ok.hd hc) (by rw [he]; rfl) hni (ld_glob I hg o.m ⟨rfl,?_⟩ hd)
  have ha':=pa_cons ha pa_nil he cpos pins s σ H (fun vs H1=>vs.length=1∧E (.ref C) none H1) I (by
    refine (?_:tCons te tNil σ H _)
    exact (show te σ H _ from by
      have e1:(fun x H1=>tNil σ H1 fun xs H2=>(x::xs).length=1∧E (Value.ref C) none H2)=fun (_:V) H1=>E (Value.ref C) none H1:=by
        funext x H1; simp [tNil]
      rw [e1]; exact h))
  rw [he] at ha' ⊢
  refine Calls.evalArgs_plain (wpAny_mono ha' (fun us s2 z => ?_) fun _ _ y=>y)
  obtain ⟨vs,H1,I2,r,hl,q⟩:=z
  refine ⟨rfl,by rw [← r.length,hl]; decide,I2.bk _ _ hC,hN.keeps I2.bk,T.keeps I2.bk,fun h' e hm=>hE pins σ H1 s2 h' e _ us I2 hm q⟩
end


structure ExcC (K:PySem.W.Frag) (C:Addr):Prop where
  ga:PySem.W.findIn K (.ref C) "__getattribute__" = some (some (.builtin "BaseException.__getattribute__"))
  gt:PySem.W.findIn K (.ref C) "__getattr__" = some none
  ca:PySem.W.findIn K (.ref C) "__class__" = some (some (.builtin "object.__class__"))
  m1:PySem.W.subIn K (.ref C) (.type "object")=some true
  m2:PySem.W.subIn K (.ref C) (.type "BaseException")=some true
  cl:(PySem.W.clsIn K C).isSome=true
section
variable {prog:Program} {w:World} {A:Around} {E:Value→Shared→Prop} {h:Heap} {g:Array GenState} {d:Drawn} {t:Nat} {os:OsState} {a C:Addr} {o:Obj} {vs:Array Value}
end
end L2

namespace L2
open PySem PySem.Spec PyProof.Rows
section
variable {X:Cx}

end


section
variable {X:Cx} {pins:List (Addr × Obj)} {σ:St} {H:Hp} {s:Shared}
end
end L2

namespace L2
open PySem PySem.Spec PyProof.Rows
section
variable {X:Cx}
end
end L2

namespace L2
open PySem PySem.Spec PyProof.Rows

section
variable {prog:Program} {w:World} {A:Around} {E:Value→Shared→Prop} {s:Shared} {x:Str} {t:Tok}
end
section
variable {X:Cx} {tg:Expr}
end
end L2

namespace L2
open PySem PySem.Spec PyProof.Rows

def clo (env:Env) (xs:List Str):List (Str × Addr):=xs.map fun x=>(x,(env.cells.lookup x).getD 0)
def CapsOk (env:Env) (scope:Scope) (xs caps:List Str):Prop:=∀ x∈caps,env.kindOf x=some .cell∧(relabel scope env).names.lookup x=some .cell∧x∈xs
theorem capsOk_nil {env:Env} {scope:Scope} {xs:List Str}:CapsOk env scope xs []:=fun _ h=>by cases h
theorem capsOk_cons {env:Env} {scope:Scope} {xs:List Str} {x:Str} {r:List Str} (h1:env.kindOf x=some .cell) (h2:(relabel scope env).names.lookup x=some .cell) (h3:x∈xs) (h:CapsOk env scope xs r):CapsOk env scope xs (x::r):=fun y hy=>by
  rcases List.mem_cons.mp hy with rfl | hy
  · exact ⟨h1,h2,h3⟩
  · exact h y hy
theorem clo_of {env:Env} {x:Str} {c:Addr}:∀ {xs:List Str},x∈xs→env.cells.lookup x=some c→(clo env xs).lookup x=some c
  | [],h,_=>by cases h
  | y::r,h,e=>by
    unfold clo
    rw [List.map_cons,List.lookup_cons]
    by_cases z:x=y
    · subst z; simp [e]
    · have zb:(x == y)=false:=by simpa using z
      rw [zb]
      rcases List.mem_cons.mp h with q | q
      · exact absurd q z
      · exact clo_of q e
theorem clo_has {env:Env} {x:Str}:∀ {xs:List Str},x∈xs→∃ c,(clo env xs).lookup x=some c
  | [],h=>by cases h
  | y::r,h=>by
    unfold clo
    rw [List.map_cons,List.lookup_cons]
    by_cases z:x=y
    · subst z; exact ⟨_,by simp; rfl⟩
    · have zb:(x == y)=false:=by simpa using z
      rw [zb]
      rcases List.mem_cons.mp h with q | q
      · exact absurd q z
      · exact clo_has q
theorem clo_sub {env:Env} {x:Str} {c:Addr} {xs:List Str} (hin:(xs.all fun x=>(env.cells.lookup x).isSome)=true) (e:(clo env xs).lookup x=some c):env.cells.lookup x=some c:=by
  induction xs with
  | nil=>cases e
  | cons y r ih =>
    unfold clo at e
    rw [List.map_cons,List.lookup_cons] at e
    rw [List.all_cons,Bool.and_eq_true] at hin
    by_cases z:x=y
    · subst z
      obtain ⟨a,ha⟩:=Option.isSome_iff_exists.mp hin.1
      rw [ha] at e ⊢
      simpa using e
    · have zb:(x == y)=false:=by simpa using z
      rw [zb] at e
      exact ih hin.2 e
theorem caps_len {σ:St} {vs:List V} {is:List Nat} {N N' caps:List Str} {k:Nat} (hvs:is.map (fun i=>σ[i]?)=vs.map fun v=>some (some v)) (his:is.map (N[·]?)=caps.map some) (hN:N'.drop k=caps) (hk:k≤N'.length) :
    (List.replicate k (none:Option V)++vs.map some).length=N'.length:=by
  have h1:=congrArg List.length hvs
  have h2:=congrArg List.length his
  have h3:=congrArg List.length hN
  simp only [List.length_map,List.length_drop,List.length_append,List.length_replicate] at *
  omega
theorem caps_at {σ:St} {vs:List V} {is:List Nat} {N N' caps:List Str} {k i:Nat} {x:Str} {v:V} (hvs:is.map (fun i=>σ[i]?)=vs.map fun v=>some (some v)) (his:is.map (N[·]?)=caps.map some) (hN:N'.drop k=caps)
    (e1:N'[i]? = some x) (e2:(List.replicate k (none:Option V)++vs.map some)[i]? = some (some v)):∃ j:Nat,N[j]? = some x∧x∈caps∧σ[j]? = some (some v):=by
  have hik:k≤i:=by
    by_cases h:k≤i
    · exact h
    · rw [List.getElem?_append_left (by simpa using h),List.getElem?_replicate] at e2
      split at e2 <;> cases e2
  rw [List.getElem?_append_right (by simpa using hik),List.length_replicate] at e2
  have e1':caps[i - k]? = some x:=by rw [← hN,List.getElem?_drop,Nat.add_sub_cancel' hik]; exact e1
  have ev:vs[i - k]? = some v:=by
    rw [List.getElem?_map] at e2
    cases z:vs[i - k]? with
    | none=>rw [z] at e2; cases e2
    | some a=>rw [z] at e2; cases e2; rfl
  have q1:=congrArg (·[i - k]?) hvs
  have q2:=congrArg (·[i - k]?) his
  simp only [List.getElem?_map,ev,e1',Option.map_some] at q1 q2
  cases z:is[i - k]? with
  | none=>rw [z] at q1; cases q1
  | some j =>
    rw [z] at q1 q2
    exact ⟨j,Option.some.inj q2,List.mem_of_getElem? e1',Option.some.inj q1⟩
theorem caps_keep {σ:St} {vs:List V} {k:Nat} (h:σ.drop k=vs.map some) (i:Nat) (v:V) (e:(List.replicate k (none:Option V)++vs.map some)[i]? = some (some v)):σ[i]? = some (some v):=by
  have hik:k≤i:=by
    by_cases h:k≤i
    · exact h
    · rw [List.getElem?_append_left (by simpa using h),List.getElem?_replicate] at e
      split at e <;> cases e
  rw [List.getElem?_append_right (by simpa using hik),List.length_replicate,← h,List.getElem?_drop,Nat.add_sub_cancel' hik] at e
  exact e
theorem all_of {names:List (Str × NameKind)} {xs:List Str} (h:(names.all fun y => !(y.2 == .cell || y.2 == .free) || xs.contains y.1)=true):∀ y∈names,(y.2=.cell∨y.2=.free)→y.1∈xs:=fun y hy hk=>by
  have z:=List.all_eq_true.mp h y hy
  rcases hk with e | e
  · rw [e] at z
    exact List.contains_iff_mem.mp (by simpa using z)
  · rw [e] at z
    exact List.contains_iff_mem.mp (by simpa using z)
def cxCompC (X:Cx) (N':List Str) (scope:Scope) (xs:List Str) (C:Addr) (s0:Shared) (H0:Hp) (fp:List Addr) (pins:List (Addr × Obj)):Cx where
  prog:=X.prog
  w:=X.w
  K:=X.K
  mg:=X.mg
  base:=X.base
  A:=X.A
  N:=N'
  s₀:=s0
  H₀:=H0
  env:=compEnvC scope (clo X.env xs) C X.env
  outer:=X.stack
  stack:=X.stack
  ex:=fp
  fn:=fun _=>false
  calm:=X.calm
  pn:=X.pn++pins
  xe:=fun _ _=>False

def compKC (σ0:St) (k:Nat) (cs:St) (g:TG) (te:TE) (Q:VK):It→Hp→Prop:=fun J H1=>∀ D,H1 D=none→∃ W:Nat→Nat→List V→Hp→Prop,(∃ m,W 0 m [] (upd H1 D (.lst []))) ∧
  ∀ i m ys H2,W i m ys H2→H2 D=some (.lst ys)∧((J.stop i H2∧Q (.ref D) H2)∨(J.go i H2∧ys.length < sizeLine ∧
    ∀ x H',J.yld i H2 x H'→g x σ0 H' fun σ2 H3=>σ2.drop k=cs∧te σ2 H3 fun y H4=>H4 D=some (.lst ys)∧∃ m',m' < m∧W (i + 1) m' (ys++[y]) (upd H4 D (.lst (ys++[y])))))
def tCompC (is:List Nat) (k:Nat) (wi:TI) (g:TG) (te:TE):TE:=fun σ H Q=>∃ vs:List V,is.map (fun i=>σ[i]?)=vs.map (fun v=>some (some v))∧wi σ H (compKC (List.replicate k none++vs.map some) k (vs.map some) g te Q)
section
variable {X:Cx} {elt tg iter cnd:Expr} {scope:Scope} {pos:Pos} {N':List Str} {wi:TI} {g:TG} {te:TE} {tt:TT}
theorem pe_compC (xs caps:List Str) (is:List Nat) (k:Nat) (hclos:closureFor scope X.env=pure (clo X.env xs)) (hin:(xs.all fun x=>(X.env.cells.lookup x).isSome)=true) (hcap:CapsOk X.env scope xs caps) (his:is.map (X.N[·]?)=caps.map some) (hN:N'.drop k=caps) (hk:k≤N'.length)
    (hallB:((relabel scope X.env).names.all fun y => !(y.2 == .cell || y.2 == .free) || xs.contains y.1)=true) (hcell:∀ y∈scope.names,y.2≠.cell) (hkind:scope.kind=.function) (hnames:∀ y∈scope.names,y.2=.local→scope.names.lookup y.1=some .local)
    (hcalm:X.calm=true) (hi:PI X tg iter wi) (hg:∀ C s0 H0 fp pins,PG (cxCompC X N' scope xs C s0 H0 fp pins) tg g) (he:∀ C s0 H0 fp pins,PE (cxCompC X N' scope xs C s0 H0 fp pins) elt te)
    (hs:∀ x,foldedSetIterable iter X.env x=pure x:=by intro _; rfl):PE X (.ListComp elt [⟨tg,iter,[],0⟩] scope pos) (tCompC is k wi g te):=by
  intro pins s σ H Q I h
  have hall:=all_of hallB
  obtain ⟨vs,hvs,h⟩:=h
  rw [eval_ListComp]
  refine wpAny_comprehension_free (use:=none) rfl hs hclos hkind hnames (thn (hi pins s σ H _ I h) fun v s1 h1=>thn h1 fun itv s2 h2 => ?_)
  obtain ⟨it,fp,tn,J,H2,e,I2,T,st2,f2,hW⟩:=h2
  subst e
  refine wpAny_newObj_type (wpAny_newFunctionEnv hcell (by intro y hy; simp at hy) (fun h₁ hns₁ hsb₁ => ?_) hkind)
  dsimp only at hns₁ hsb₁ ⊢
  generalize hH2:s2.heap.push { cls:=.type "list",dict:=none,data:=.seq ([]:List Value).toArray }=P2 at hns₁ hsb₁ ⊢
  have hC:P2.objs.size=s2.heap.objs.size + 1:=by rw [← hH2,Heap.size_push]
  have below:∀ b,b < s2.heap.objs.size→b≠P2.objs.size∧b≠s2.heap.objs.size:=fun b hb=>⟨by rw [hC]; exact Nat.ne_of_lt (Nat.lt_succ_of_lt hb),Nat.ne_of_lt hb⟩
  have hDC:s2.heap.objs.size≠P2.objs.size:=by rw [hC]; exact Nat.ne_of_lt (Nat.lt_succ_self _)
  have old:∀ b o,s2.heap.get? b=some o→h₁.get? b=some o:=fun b o e=>hsb₁.extBut b o (below b (Heap.lt_size e)).1 (Heap.get?_push_of_some _ (hH2▸Heap.get?_push_of_some _ e))
  have hD:h₁.get? s2.heap.objs.size=some { cls:=.type "list",dict:=none,data:=.seq ([]:List Value).toArray }:=hsb₁.extBut _ _ hDC (Heap.get?_push_of_some _ (hH2▸Heap.get?_push_size _ rfl))
  have frD:H2 s2.heap.objs.size=none:=I2.hok.fresh (Nat.le_refl _)
  have frC:H2 P2.objs.size=none:=I2.hok.fresh (by rw [hC]; exact Nat.le_succ _)
  have hfp:∀ b∈fp,b < s2.heap.objs.size:=fun b hb=>by
    obtain ⟨o,e,_⟩:=T.obj _ _ st2 b hb
    exact Heap.lt_size e
  have nst:∀ b,b≠X.env.locals→b∉X.fs→b∉frs X.stack:=fun b n1 n2 z=>by
    rcases List.mem_cons.mp (I2.stkSub b z) with e | e
    · exact n1 e
    · exact n2 e
  obtain ⟨W,⟨m0,w0⟩,turn⟩:=hW s2.heap.objs.size frD
  have csub:∀ (x:Str) (c:Addr),(clo X.env xs).lookup x=some c→X.env.cells.lookup x=some c:=fun x c e=>clo_sub hin e
  have cold:∀ (x:Str) (c:Addr),(clo X.env xs).lookup x=some c→∃ v,s2.heap.IsCell c v:=fun x c e=>I2.cell x c (csub x c e)
  have clt:∀ (x:Str) (c:Addr),(clo X.env xs).lookup x=some c→c < s2.heap.objs.size:=fun x c e=>by
    obtain ⟨v,o,ho,_⟩:=cold x c e
    exact Heap.lt_size ho
  have ok':(cxCompC X N' scope xs P2.objs.size s2 H2 fp pins).Ok:=by
    refine ⟨I2.ok.mod,hkind,I2.ok.glob,I2.ok.blt,?_,fun x y c e e'=>I2.ok.inj x y c (csub x c e) (csub y c e'),fun x hx => ?_,(fun x c z _=>by cases z),I2.ok.hd,I2.ok.frames,.inl rfl,fun b hb=>⟨(below b (hfp b hb)).1,fun x c e=>(f2 b hb).2.2.2.2.1 x c (csub x c e)⟩,I2.bs,Nat.le_trans I2.ok.bsz I2.sz,fun b o e hb => ?_,fun b hb=>nst b (f2 b hb).2.1 (f2 b hb).2.2.1,I2.stack,I2.stkFree⟩
    · show s2.heap.objs.size≤P2.objs.size
      rw [hC]; exact Nat.le_succ _
    · have hx':(relabel scope X.env).names.lookup x=some .cell∨(relabel scope X.env).names.lookup x=some .free:=hx
      rcases hx' with z | z
      · exact clo_has (hall _ (PySem.mem_of_lookup z) (.inl rfl))
      · exact clo_has (hall _ (PySem.mem_of_lookup z) (.inr rfl))
    · rcases (f2 b hb).2.2.2.1 with z | z
      · exact I2.ok.noex b o e z
      · exact absurd (Nat.lt_of_lt_of_le (Heap.lt_size (I2.ok.bs b o e).1) z) (Nat.lt_irrefl _)
  have I':Inv (cxCompC X N' scope xs P2.objs.size s2 H2 fp pins) [] (List.replicate k none++vs.map some) (upd H2 s2.heap.objs.size (.lst [])) { s2 with heap:=h₁,toks:=s2.toks + ([]:List (Str × Value)).length }:=by
    refine ⟨ok',rfl,I2.bare,Un.laid old (Nat.le_refl _) frD,⟨_,hns₁,fun i x v e1 e2 e3 => ?_⟩,fun x c e => ?_,?_,fun x c e => ?_,fun p hp => ?_,I2.hok.laid old (Nat.le_refl _) ⟨by simp,[],0,.nil,hD⟩,?_⟩
    · obtain ⟨j,ej,hj1,hj2⟩:=caps_at hvs his hN e1 e2
      obtain ⟨hc1,hc2,hc3⟩:=hcap x hj1
      obtain ⟨m,hn,hl⟩:=I2.loc
      obtain ⟨u,r,l⟩:=hl j x v ej hj2 (.inr (.inl hc1))
      refine ⟨u,r,.inr ⟨.inl hc2,?_⟩⟩
      rcases l with ⟨z,_⟩ | ⟨_,c,ec,⟨o,ho,hd⟩⟩
      · rw [show X.env.kindOf x=some .cell from hc1] at z; cases z
      · exact ⟨c,clo_of hc3 ec,o,old _ _ ho,hd⟩
    · obtain ⟨v,o,ho,hd⟩:=cold x c e
      exact ⟨v,o,old _ _ ho,hd⟩
    · show upd H2 s2.heap.objs.size (.lst []) P2.objs.size=none
      rw [upd_ne (Ne.symm hDC)]; exact frC
    · show upd H2 s2.heap.objs.size (.lst []) c=none
      rw [upd_ne (below _ (clt x c e)).2]; exact I2.freeC x c (csub x c e)
    · have hp':p∈X.pn++pins:=by
        rcases List.mem_append.mp hp with z | z
        · exact z
        · cases z
      obtain ⟨a1,a2,a3,a4,a5⟩:=I2.pin p hp'
      refine ⟨old _ _ a1,?_,(below _ (Heap.lt_size a1)).1,nst _ a3 a4,a5⟩
      rw [upd_ne (below _ (Heap.lt_size a1)).2]; exact a2
    · show (List.replicate k none++vs.map some).length=N'.length
      exact caps_len hvs his hN hk
  have stat:∀ {H':Hp},(∀ b∈fp,H' b=none)→∀ b∈fp,FpOk (cxCompC X N' scope xs P2.objs.size s2 H2 fp pins) [] H' b:=fun {H'} hn b hb =>
    ⟨hn b hb,(below b (hfp b hb)).1,nst b (f2 b hb).2.1 (f2 b hb).2.2.1,.inl hb,fun x c e=>(f2 b hb).2.2.2.2.1 x c (csub x c e),fun p hp=>(f2 b hb).2.2.2.2.2 p (by
      rcases List.mem_append.mp hp with z | z
      · exact z
      · cases z)⟩
  have fin:∀ (ys:List V) (σ':St) (H':Hp) (s':Shared),Inv (cxCompC X N' scope xs P2.objs.size s2 H2 fp pins) [] σ' H' s'→Q (.ref s2.heap.objs.size) H' →
      ∃ m,s'.heap.Ns P2.objs.size m∧∀ h',Heap.SameBut P2.objs.size s'.heap h'→EP X pins σ Q (.ref s2.heap.objs.size) { s' with heap:=h' }:=by
    intro ys σ' H' s' J1 q
    obtain ⟨m,hm,_⟩:=id J1.loc
    refine ⟨m,hm,fun h' sb=>⟨.ref s2.heap.objs.size,H',?_,rfl,q⟩⟩
    have ne:∀ b o,s2.heap.get? b=some o→b≠P2.objs.size:=fun b o e=>(below b (Heap.lt_size e)).1
    refine I2.call' (s':={ s' with heap:=h' }) (ch:=fp) J1.os ⟨fun b o e n hb hx => ?_,fun b o e n hb hx => ?_,fun b o e n hx=>J1.base.free b o e n hx,fun b o e hx => ?_,J1.base.tups,J1.base.frzs,J1.base.tbls⟩ (J1.hok.but J1.free fun b u hb q=>(sb.2 b hb).trans q) J1.bare fun b hb=>⟨(f2 b hb).2.2.2.1,(f2 b hb).2.1,(f2 b hb).2.2.2.2.1,(f2 b hb).2.2.2.2.2⟩
    · exact (sb.2 b (ne b o e)).trans (J1.base.keep b o e n hb hx)
    · obtain ⟨sl,z⟩:=J1.base.slot b o e n hb hx
      exact ⟨sl,(sb.2 b (ne b o e)).trans z⟩
    · obtain ⟨o',z⟩:=J1.base.there b o e hx
      exact ⟨o',(sb.2 b (ne b o e)).trans z⟩
  have loop:codeAny (model X.prog X.w) X.A (.compLoop (.ListComp elt [⟨tg,iter,[],0⟩] scope pos) 0 (.ref it) (.ref s2.heap.objs.size) (compEnvC scope (clo X.env xs) P2.objs.size X.env))
      (compPost (model X.prog X.w) X.A X.xe none (EP X pins σ Q) (.ref s2.heap.objs.size) P2.objs.size)
      { s2 with heap:=h₁,toks:=s2.toks + ([]:List (Str × Value)).length }:=by
    refine compLoop_go (fun n s'=>∃ i ys σ' H',σ'.drop k=vs.map some∧Inv (cxCompC X N' scope xs P2.objs.size s2 H2 fp pins) [] σ' H' s'∧tn i s'.heap∧(∀ b∈fp,H' b=none)∧W i n ys H') ?_ m0
      ⟨0,[],List.replicate k none++vs.map some,_,by simp,I',T.keep _ _ _ st2 (fun b hb o e=>old b o e),fun b hb=>by rw [upd_ne (below b (hfp b hb)).2]; exact (f2 b hb).1,w0⟩
    rintro n s3 ⟨i,ys,σ3,H3,hd3,J3,st3,fr3,w3⟩
    obtain ⟨hl,q3⟩:=turn i n ys H3 w3
    rcases q3 with ⟨stop,q⟩ | ⟨go,hlt,step⟩
    · refine thn (T.done (cxCompC X N' scope xs P2.objs.size s2 H2 fp pins) rfl rfl rfl hcalm i [] s3 σ3 H3 _ J3 (stat fr3) st3 stop) fun r s4 ⟨hr,J4⟩ => ?_
      subst hr
      exact fin ys σ3 H3 s4 J4 q
    · refine thn (T.item (cxCompC X N' scope xs P2.objs.size s2 H2 fp pins) rfl rfl rfl hcalm i [] s3 σ3 H3 _ J3 (stat fr3) st3 go) fun r s4 ⟨u,hr,h4⟩ => ?_
      subst hr
      refine thn h4 fun _ s5 ⟨x,H5,J5,r5,y5,st5,fr5⟩ => ?_
      have J5':=J5.pinned (stat fr5) (T.obj _ _ st5)
      have J6:Inv (cxCompC X N' scope xs P2.objs.size s2 H2 fp pins) ([]++pinsAt fp s5.heap) (List.replicate k none++vs.map some) H5 s5:=J5'.weak (by rw [J5'.len]; exact caps_len hvs his hN hk) (caps_keep hd3)
      refine wpAny_mono (hg _ _ _ _ _ _ s5 _ H5 x u _ J6 r5 (step x H5 y5)) (fun _ s6 ⟨σ6,H6,J7,hd6,q6⟩ => ?_) fun _ _ z=>False.elim z
      refine wpAny_mono (he _ _ _ _ _ _ s6 σ6 H6 _ J7 q6) (fun yv s7 ⟨y,H7,J8,r7,q7⟩ => ?_) fun _ _ z=>False.elim z
      obtain ⟨hl7,m',hm',w7⟩:=q7
      refine wpAny_mono (mt_append (X:=cxCompC X N' scope xs P2.objs.size s2 H2 fp pins) _ s7 σ6 H7 (.ref s2.heap.objs.size) [y] (.ref s2.heap.objs.size) [yv] (fun v H8=>H8=upd H7 s2.heap.objs.size (.lst (ys++[y]))) J8 rfl (.cons r7 .nil) ⟨_,ys,y,rfl,rfl,hl7,hlt,rfl⟩) (fun _ s8 ⟨v8,H8,J9,r8,e8⟩ => ?_) fun _ _ z=>False.elim z
      subst e8
      have pk:∀ b∈fp,∀ o,s5.heap.get? b=some o→s8.heap.get? b=some o∧upd H7 s2.heap.objs.size (.lst (ys++[y])) b=none:=fun b hb o e =>
        let z:=J9.pin (b,o) (List.mem_append_right _ (List.mem_append_right _ (mem_pinsAt hb e)))
        ⟨z.1,z.2.1⟩
      refine ⟨m',hm',i + 1,ys++[y],σ6,_,hd6,J9.unpinned,T.keep _ _ _ st5 fun b hb o e=>(pk b hb o e).1,fun b hb => ?_,w7⟩
      obtain ⟨o,e,_⟩:=T.obj _ _ st5 b hb
      exact (pk b hb o e).2
  exact codeAny_compStart_list loop (T.self X.A 0 { s2 with heap:=h₁,toks:=s2.toks + ([]:List (Str × Value)).length } _ _ (T.keep _ _ _ st2 fun b hb o e=>old b o e) loop)
end
end L2

namespace L2
open PySem PySem.Spec PyProof.Rows

def Ite (K:PySem.W.Frag) (l:Addr):It :=
  ⟨fun i H=>∃ xs x,SqL K H l xs∧xs[i]? = some x,
   fun i H v H'=>∃ p x,H p=none∧v=.ref p∧H'=upd H p (.tup [.int (i:Int),x])∧∀ xs,SqL K H l xs→xs[i]? = some x,
   fun i H=>∃ xs,SqL K H l xs∧xs.length≤i⟩
theorem turn_enum {P:Program} {w:World} {K:PySem.W.Frag} {elts:List Expr} {kk:Nat} {tp:Pos} {e it l:Addr} (hne:e≠it) (hl1:l≠e) (hl2:l≠it) :
    Turn P w K (.Tuple elts kk tp) (Ite K l) [e,it] e (fun i h=>(∃ old,IsEnum h e it (i:Int) old)∧h.IsListIter it l i) where
  mem:=by simp
  obj:=fun i h st b hb=>by
    obtain ⟨⟨old,he⟩,⟨o,ho,hc,hd⟩⟩:=st
    simp only [List.mem_cons,List.not_mem_nil,or_false] at hb
    rcases hb with rfl | rfl
    · exact ⟨_,he,fun v q=>by cases q⟩
    · exact ⟨o,ho,fun v q=>by rw [hd] at q; cases q⟩
  keep:=fun i h h' st k=>by
    obtain ⟨⟨old,he⟩,⟨o,ho,r⟩⟩:=st
    exact ⟨⟨old,k _ (by simp) _ he⟩,⟨o,k _ (by simp) _ ho,r⟩⟩
  item:=by
    intro X hP hw hK hc i pins s σ H E I hf st hg
    subst hP hw hK
    obtain ⟨⟨old,he⟩,hit⟩:=st
    obtain ⟨xs,x,q1,hx⟩:=hg
    obtain ⟨us,r1,pl,_⟩:=I.list q1
    obtain ⟨x',hx',rx⟩:=r1.get hx
    have hn:H s.heap.objs.size=none:=I.hok.fresh (Nat.le_refl _)
    refine wpAny_pyNext_enum_item he hit pl.isList (x:=x') (by simpa using hx') hne fun g z' j1 tp' sz kp=>⟨_,rfl,?_⟩
    have lt:∀ {b:Addr} {o:Obj},s.heap.get? b=some o→s.heap.objs.size≠b:=fun e=>Nat.ne_of_gt (Heap.lt_size e)
    refine wpAny_letOwnedTupleGo_enum z' fun g' z'' sb => ?_
    have I1:Inv X pins σ (upd H s.heap.objs.size (.tup [.int (i:Int),x])) { s with heap:=s.heap.push { cls:=.type "tuple",data:=.seq #[.int i s.toks,x'] } } :=
      I.laid (t':=s.toks) (fun b u e=>Heap.get?_push_of_some _ e) (Nat.le_refl _) ⟨(by show 2≤sizeLine; decide),[.int i s.toks,x'],.cons ⟨_,rfl⟩ (.cons rx .nil),⟨_,Heap.get?_push_size _ rfl,rfl,_,rfl⟩⟩
    obtain ⟨oi,hoi,_⟩:=id hit
    have fp':∀ b∈[e,it],s.heap.objs.size≠b∧upd H s.heap.objs.size (.tup [.int (i:Int),x]) b=none:=fun b hb=>by
      have q:s.heap.objs.size≠b:=by
        simp only [List.mem_cons,List.not_mem_nil,or_false] at hb
        rcases hb with rfl | rfl
        · exact lt he
        · exact lt hoi
      exact ⟨q,by rw [upd_ne (Ne.symm q)]; exact (hf b hb).1⟩
    have I2:Inv X pins σ (upd H s.heap.objs.size (.tup [.int (i:Int),x])) { s with heap:=g',toks:=s.toks + 1 }:=by
      refine Inv.turnedL (s:={ s with heap:=s.heap.push { cls:=.type "tuple",data:=.seq #[.int i s.toks,x'] } }) (h':=g') (t':=s.toks + 1) (L:=[e,it]) I1 (fun b o hb q => ?_) fun b hb => ?_
      · have b1:b≠e:=fun z=>hb (by simp [z])
        have b2:b≠it:=fun z=>hb (by simp [z])
        rcases Heap.get?_push_cases q with ⟨e1,e2⟩ | e1
        · subst e1 e2
          exact sb.extBut _ _ b1 tp'
        · exact sb.extBut _ _ b1 (kp b o b1 b2 e1)
      · obtain ⟨f0,f1,f2,f3,f4,f5⟩:=hf b hb
        exact ⟨(fp' b hb).2,f1,f2,f3,f4,f5⟩
    refine ⟨.ref s.heap.objs.size,_,I2,rfl,⟨_,x,hn,rfl,rfl,fun zs hq => ?_⟩,⟨⟨_,by exact_mod_cast z''⟩,j1.extBut sb.extBut (Ne.symm hne)⟩,fun b hb=>(fp' b hb).2⟩
    rw [I.list_inj hq q1]; exact hx
  done:=by
    intro X hP hw hK hc i pins s σ H E I hf st hg
    subst hP hw hK
    obtain ⟨⟨old,he⟩,hit⟩:=st
    obtain ⟨xs,q1,hge⟩:=hg
    obtain ⟨us,r1,pl,_⟩:=I.list q1
    have e1:=r1.length
    refine wpAny_pyNext_enum_end (I.ok.hd hc) he hit pl.isList (by simp; omega) fun g kp=>⟨rfl,I.turnedL (t':=s.toks) (L:=[e,it]) (fun b o hb q=>kp b o (fun z=>hb (by simp [z])) q) fun b hb=>hf b hb⟩
  self:=fun _ _ _ _ _ st h=>let ⟨⟨_,he⟩,_⟩:=st; wpAny_pyIter_enum he h
section
variable {X:Cx}
def iEnum (K:PySem.W.Frag) (ta:TA):TI:=fun σ H R=>ta σ H fun vs H1=>∃ l,vs=[.ref l]∧(∃ xs,SqL K H1 l xs)∧R (Ite K l) H1
theorem bt_enum:bootBuiltins "enumerate" = some (.type "enumerate"):=by decide +kernel
theorem pi_enumerate {a:Expr} {ta:TA} {p pos:Pos} {elts:List Expr} {kk:Nat} {tp:Pos} (hg:Gl X "enumerate") (hm:X.mg "enumerate" = none) (ha:PA X [a] ta)
    (hs:starEach [a] X.env=(false,eval a X.env)::starEach [] X.env:=by rfl) (hpl:(backTo pos (starEach [] X.env)).any (·.1)=false:=by rfl) :
    PI X (.Tuple elts kk tp) (.Call (.Name "enumerate" p) [a] [] pos) (iEnum X.K ta):=by
  intro pins s σ H R I h
  refine Call_ (ld_blt I hg hm bt_enum (PyProof.Rows.callWith_type1 (thn (ha pos pins s σ H _ I h) fun us s1 ⟨vs,H1,I1,r1,q1⟩ => ?_) hs hpl))
  obtain ⟨l,e,⟨xs,q1⟩,q⟩:=q1
  subst e
  obtain ⟨u,rfl,ru⟩:=vals1 r1
  cases ru
  obtain ⟨its,r,pl,_⟩:=I1.list q1
  have hlt:l < s1.heap.objs.size:=by obtain ⟨_,e,_⟩:=pl.isList; exact Heap.lt_size e
  refine call_enumerate_list pl.isList fun g he hit sz kp=>wpAny_pyIter_enum he ?_
  refine ⟨_,[s1.heap.objs.size + 1,s1.heap.objs.size],_,_,H1,rfl,I1.kept (t':=s1.toks) kp,turn_enum (l:=l) (Nat.succ_ne_self _) (Nat.ne_of_lt (Nat.lt_succ_of_lt hlt)) (Nat.ne_of_lt hlt),⟨⟨_,he⟩,hit⟩,fun b hb => ?_,q⟩
  have hb':s1.heap.objs.size≤b:=by
    simp only [List.mem_cons,List.not_mem_nil,or_false] at hb
    rcases hb with h | h
    · rw [h]; exact Nat.le_add_right _ _
    · rw [h]; exact Nat.le_refl _
  exact I1.fpOk hb' (I1.hok.fresh hb')
end
theorem for_enum {K:PySem.W.Frag} {l:Addr} {xs:List V} {g:TG} {tb:TS} {D:Ends} {σ:St} {H:Hp} (Pv:Nat→St→Hp→Prop) (h0:Pv 0 σ H) (hl:∀ i σ H,Pv i σ H→SqL K H l xs)
    (hs:∀ i x p σ H,xs[i]? = some x→Pv i σ H→H p=none→g (.ref p) σ (upd H p (.tup [.int (i:Int),x])) fun σ2 H2=>tb { D with nx:=Pv (i + 1),ct:=Pv (i + 1),bk:=D.nx } σ2 H2) (hd:∀ σ H,Pv xs.length σ H→D.nx σ H) :
    ∃ W:Nat→Nat→St→Hp→Prop,(∃ m,W 0 m σ H)∧∀ i m σ H,W i m σ H →
      ((Ite K l).stop i H∧D.nx σ H)∨((Ite K l).go i H∧∃ N:St→Hp→Prop,(∀ σ' H',N σ' H'→∃ m',m' < m∧W (i + 1) m' σ' H')∧∀ x H',(Ite K l).yld i H x H'→g x σ H' fun σ2 H2=>tb { D with nx:=N,ct:=N,bk:=D.nx } σ2 H2):=by
  refine ⟨fun i m σ H=>m=xs.length - i∧i≤xs.length∧Pv i σ H,⟨_,rfl,Nat.zero_le _,h0⟩,?_⟩
  rintro i m σ H ⟨rfl,hi,p⟩
  have q:=hl i σ H p
  by_cases hlt:i < xs.length
  · refine .inr ⟨⟨xs,xs[i],q,by simp [hlt]⟩,Pv (i + 1),fun σ' H' p'=>⟨_,by omega,rfl,hlt,p'⟩,fun v H' y => ?_⟩
    obtain ⟨a,x,hn,rfl,rfl,hx⟩:=y
    exact hs i x a σ H (hx xs q) p hn
  · have e:i=xs.length:=by omega
    subst e
    exact .inl ⟨⟨xs,q,Nat.le_refl _⟩,hd σ H p⟩

mutual
inductive Dat (H:Hp):V→PyData→Prop
  | non:Dat H .non .none
  | bl (b:Bool):Dat H (.bl b) (.bool b)
  | int (i:Int):Dat H (.int i) (.int i)
  | str (x:Str):Dat H (.str x) (.str x)
  | lst {a:Addr} {xs:List V} {ds:List PyData}:H a=some (.lst xs)→Dats H xs ds→Dat H (.ref a) (.list ds)
  | tup {a:Addr} {xs:List V} {ds:List PyData}:H a=some (.tup xs)→Dats H xs ds→Dat H (.ref a) (.tuple ds)
inductive Dats (H:Hp):List V→List PyData→Prop
  | nil:Dats H [] []
  | cons {x:V} {xs:List V} {d:PyData} {ds:List PyData}:Dat H x d→Dats H xs ds→Dats H (x::xs) (d::ds)
end
section
variable {P:Program} {w:World} {H:Hp} {h:Heap}
mutual
theorem Dat.reads (ok:HOk P w H h):∀ {x:V} {d:PyData} {u:Value},Dat H x d→RelV x u→∃ as,Reads h u d as
  | _,_,u,.non,r=>by cases (show u=Value.none from r); exact ⟨_,.none⟩
  | _,_,u,.bl b,r=>by cases (show u=Value.bool b from r); exact ⟨_,.bool b⟩
  | _,_,u,.int i,r=>by obtain ⟨t,rfl⟩:=r; exact ⟨_,.int i t⟩
  | _,_,u,.str x,r=>by obtain ⟨t,rfl⟩:=r; exact ⟨_,.str x t⟩
  | _,_,u,.lst (a:=a) e q,r=>by
    cases (show u=Value.ref a from r)
    obtain ⟨_,its,n,rv,g⟩:=ok a _ e
    obtain ⟨as,rs⟩:=Dats.reads ok q rv
    exact ⟨_,.list g rfl rfl rs⟩
  | _,_,u,.tup (a:=a) e q,r=>by
    cases (show u=Value.ref a from r)
    obtain ⟨_,its,rv,o,g,c,n,dd⟩:=ok a _ e
    obtain ⟨as,rs⟩:=Dats.reads ok q rv
    exact ⟨_,.tuple g c dd rs⟩
theorem Dats.reads (ok:HOk P w H h):∀ {xs:List V} {ds:List PyData} {us:List Value},Dats H xs ds→Vals xs us→∃ as,ReadsAll h us ds as
  | _,_,_,.nil,.nil=>⟨_,.nil⟩
  | _,_,_,.cons p q,.cons r s=>by
    obtain ⟨as,x⟩:=Dat.reads ok p r
    obtain ⟨bs,y⟩:=Dats.reads ok q s
    exact ⟨_,.cons x y⟩
end
end
def rEqD (neg:Bool):R2:=fun x y H Q=>∃ d1 d2,Dat H x d1∧Dat H y d2∧SeqAt.shaped d1=true∧SeqAt.shaped d2=true∧Q (.bl (if neg then !PyData.eqv d1 d2 else PyData.eqv d1 d2)) H
section
variable {X:Cx}
theorem op_eqD {k:Nat} (hr:Room k X.A):OpR X (compareOp .Eq) (rEqD false):=by
  intro pins s σ H x y v u Q I rx ry h
  obtain ⟨d1,d2,p,q,s1,s2,h⟩:=h
  obtain ⟨as,r1⟩:=p.reads I.hok rx
  obtain ⟨bs,r2⟩:=q.reads I.hok ry
  exact eq_dataH r1 r2 s1 s2 hr.units ⟨.bl _,H,I,rfl,h⟩
theorem op_neD {k:Nat} (hr:Room k X.A):OpR X (compareOp .NotEq) (rEqD true):=by
  intro pins s σ H x y v u Q I rx ry h
  obtain ⟨d1,d2,p,q,s1,s2,h⟩:=h
  obtain ⟨as,r1⟩:=p.reads I.hok rx
  obtain ⟨bs,r2⟩:=q.reads I.hok ry
  exact ne_dataH r1 r2 s1 s2 hr.units ⟨.bl _,H,I,rfl,h⟩
end
end L2

namespace L2
open PySem PySem.Spec PyProof.Rows
section
variable {X:Cx}
end
section
variable {X:Cx} {K:PySem.W.Frag}

theorem ix_tupK (hK:X.K=K:=by rfl):IxR X (rIxT K):=hK▸ix_tup
end

section
variable {K:PySem.W.Frag} {σ0 cs:St} {k:Nat} {g:TG} {te:TE} {tt:TT} {H1:Hp} {Q:VK}
theorem compC_by {J:It} (n:Nat) (gv:Nat→V→Prop) (Pv:Addr→Nat→List V→Hp→Prop) (hn:n≤sizeLine)
    (hgo:∀ D i ys H,i < n→Pv D i ys H→J.go i H) (hst:∀ D ys H,Pv D n ys H→J.stop n H) (hy:∀ D i ys H x H',i < n→Pv D i ys H→J.yld i H x H'→H'=H∧gv i x)
    (hl:∀ D i ys H,Pv D i ys H→H D=some (.lst ys)∧ys.length≤i) (h0:∀ D,H1 D=none→Pv D 0 [] (upd H1 D (.lst [])))
    (hs:∀ D i x ys H,i < n→gv i x→H1 D=none→Pv D i ys H→g x σ0 H fun σ2 H3=>σ2.drop k=cs∧te σ2 H3 fun y H4=>H4 D=some (.lst ys)∧Pv D (i + 1) (ys++[y]) (upd H4 D (.lst (ys++[y]))))
    (hd:∀ D ys H,H1 D=none→Pv D n ys H→Q (.ref D) H) (mono:∀ x σ H (R R':St→Hp→Prop),(∀ σ' H',R σ' H'→R' σ' H')→g x σ H R→g x σ H R')
    (mono2:∀ σ H (R R':VK),(∀ v H',R v H'→R' v H')→te σ H R→te σ H R'):compKC σ0 k cs g te Q J H1:=by
  intro D hD
  refine ⟨fun i m ys H=>m=n - i∧i≤n∧Pv D i ys H,⟨n,rfl,Nat.zero_le _,h0 D hD⟩,?_⟩
  rintro i m ys H ⟨rfl,hi,p⟩
  obtain ⟨e1,e2⟩:=hl D i ys H p
  refine ⟨e1,?_⟩
  by_cases hlt:i < n
  · refine .inr ⟨hgo D i ys H hlt p,by omega,fun x H' y => ?_⟩
    obtain ⟨rfl,hx⟩:=hy D i ys H x H' hlt p y
    refine mono _ _ _ _ _ (fun σ2 H3 ⟨z1,z2⟩=>⟨z1,mono2 _ _ _ _ (fun v H4 ⟨z3,z4⟩=>⟨z3,n - (i + 1),by omega,rfl,hlt,z4⟩) z2⟩) (hs D i x ys H' hlt hx hD p)
  · have e:i=n:=by omega
    subst e
    exact .inl ⟨hst D ys H p,hd D ys H hD p⟩
theorem compC_list {a:Addr} (xs:List V) (Pv:Addr→Nat→List V→Hp→Prop) (hn:xs.length≤sizeLine) (hq:∀ D i ys H,Pv D i ys H→SqL K H a xs)
    (hl:∀ D i ys H,Pv D i ys H→H D=some (.lst ys)∧ys.length≤i) (h0:∀ D,H1 D=none→Pv D 0 [] (upd H1 D (.lst [])))
    (hs:∀ D i x ys H,xs[i]? = some x→H1 D=none→Pv D i ys H→g x σ0 H fun σ2 H3=>σ2.drop k=cs∧te σ2 H3 fun y H4=>H4 D=some (.lst ys)∧Pv D (i + 1) (ys++[y]) (upd H4 D (.lst (ys++[y]))))
    (hd:∀ D ys H,H1 D=none→Pv D xs.length ys H→Q (.ref D) H) (mono:∀ x σ H (R R':St→Hp→Prop),(∀ σ' H',R σ' H'→R' σ' H')→g x σ H R→g x σ H R')
    (mono2:∀ σ H (R R':VK),(∀ v H',R v H'→R' v H')→te σ H R→te σ H R'):compKC σ0 k cs g te Q (Itl K a) H1 :=
  compC_by xs.length (fun i x=>xs[i]? = some x) Pv hn (fun D i ys H hi p=>⟨xs,xs[i],hq D i ys H p,by simp [hi]⟩) (fun D ys H p=>⟨xs,hq D _ ys H p,Nat.le_refl _⟩)
    (fun D i ys H x H' hi p y=>⟨y.1,y.2 xs (hq D i ys H p)⟩) hl h0 (fun D i x ys H hi hx hD p=>hs D i x ys H hx hD p) hd mono mono2
end
inductive Tr where
  | col (i:Int)
  | four (a b c d:Tr)
deriving DecidableEq
def Tr.data:Tr→PyData
  | .col i=>.int i
  | .four a b c d=>.tuple [a.data,b.data,c.data,d.data]
def Tr.deep:Tr→Nat
  | .col _=>0
  | .four a b c d=>max a.deep (max b.deep (max c.deep d.deep)) + 1
def Tr.isCol:Tr→Bool
  | .col _=>true
  | .four ..=>false
inductive TrAt (H:Hp):V→Tr→Prop
  | col (i:Int):TrAt H (.int i) (.col i)
  | four {p:Addr} {a b c d:V} {ta tb tc td:Tr}:H p=some (.tup [a,b,c,d])→TrAt H a ta→TrAt H b tb→TrAt H c tc→TrAt H d td→TrAt H (.ref p) (.four ta tb tc td)

def Tups (H H':Hp):Prop:=∀ b xs,H b=some (.tup xs)→H' b=some (.tup xs)
theorem Same.tups {H H':Hp} (s:Same H H'):Tups H H':=fun b xs e=>s b _ e
theorem Tups.trans {H H' H'':Hp} (s:Tups H H') (t:Tups H' H''):Tups H H'':=fun b xs e=>t b xs (s b xs e)
theorem Tups.lst {H:Hp} {l:Addr} {xs ys:List V} (e:H l=some (.lst xs)):Tups H (upd H l (.lst ys)):=fun b zs q=>by
  rw [upd_ne (ne_of q e (by intro z; cases z))]; exact q
theorem TrAt.up {H H':Hp} (s:Tups H H'):∀ {v:V} {t:Tr},TrAt H v t→TrAt H' v t
  | _,_,.col i=>.col i
  | _,_,.four e a b c d=>.four (s _ _ e) (TrAt.up s a) (TrAt.up s b) (TrAt.up s c) (TrAt.up s d)
theorem TrAt.dat {H:Hp}:∀ {v:V} {t:Tr},TrAt H v t→Dat H v t.data
  | _,_,.col i=>.int i
  | _,_,.four e a b c d=>.tup e (.cons a.dat (.cons b.dat (.cons c.dat (.cons d.dat .nil))))
theorem Tr.eqv:∀ t u:Tr,PyData.eqv t.data u.data=decide (t=u)
  | .col i,.col j=>by
    show (i == j)=_
    by_cases h:i=j <;> simp [h]
  | .col i,.four ..=>by
    show false=_
    simp
  | .four ..,.col j=>by
    show false=_
    simp
  | .four a b c d,.four a' b' c' d'=>by
    show (PyData.eqv a.data a'.data && (PyData.eqv b.data b'.data && (PyData.eqv c.data c'.data && (PyData.eqv d.data d'.data && true))))=_
    rw [Tr.eqv a a',Tr.eqv b b',Tr.eqv c c',Tr.eqv d d']
    by_cases h1:a=a' <;> by_cases h2:b=b' <;> by_cases h3:c=c' <;> by_cases h4:d=d' <;> simp [h1,h2,h3,h4]
theorem Tr.lay:∀ t:Tr,t.data.canLay0=true
  | .col i=>rfl
  | .four a b c d=>by
    show (a.data.canLay0 && (b.data.canLay0 && (c.data.canLay0 && (d.data.canLay0 && true))))=true
    rw [Tr.lay a,Tr.lay b,Tr.lay c,Tr.lay d]; rfl
theorem Tr.depth:∀ t:Tr,t.data.depth=t.deep
  | .col i=>rfl
  | .four a b c d=>by
    show max a.data.depth (max b.data.depth (max c.data.depth (max d.data.depth 0))) + 1=_
    rw [Tr.depth a,Tr.depth b,Tr.depth c,Tr.depth d,Nat.max_zero]; rfl
theorem TrAt.ty {K:PySem.W.Frag} {H:Hp} {v:V} {t:Tr} (h:TrAt H v t):TyOf K H v (if t.isCol then .type "int" else .type "tuple"):=by
  cases h with
  | col i=>exact .int i
  | four e=>exact .tup e
end L2

namespace L2
open PySem PySem.Spec PyProof.Rows

section
variable {X:Cx} {elt tg iter cnd:Expr} {scope:Scope} {pos:Pos} {N':List Str} {wi:TI} {g:TG} {te:TE} {tt:TT}
end
end L2

namespace L2
open PySem PySem.Spec PyProof.Rows
section
variable {X:Cx}
theorem mt_find:MtR X "str.find" (fun x vs H Q=>∃ z y,x=.str z∧vs=[.str y]∧Q (.int (Txt.find z y)) H):=by
  intro pins s σ H x vs v us Q I rx rv h
  obtain ⟨z,y,rfl,rfl,q⟩:=h
  obtain ⟨t,rfl⟩:=rx
  obtain ⟨u,rfl,tu,rfl⟩:=rv.one
  exact SC.find ⟨.int _,H,I.tok _,⟨_,rfl⟩,q⟩
end
end L2

namespace L2
open PySem PySem.Spec PyProof.Rows
section
variable {X:Cx} {pos:Pos}

end
end L2

namespace L2
open PySem PySem.Spec PyProof.Rows

def tCut (t:TS):TS:=fun D σ H=>∃ Pv:St→Hp→Prop,t { D with nx:=Pv } σ H∧∀ σ' H',Pv σ' H'→D.nx σ' H'
section
variable {X:Cx} {st:Stmt} {t:TS}
theorem ps_cut (h:PS X st t):PS X st (tCut t):=by
  intro pins s σ H D I ⟨Pv,h1,h2⟩
  refine thn (h pins s σ H { D with nx:=Pv } I h1) fun f s1 q => ?_
  cases f with
  | next =>
    obtain ⟨σ',H',I',q⟩:=q
    exact ⟨σ',H',I',h2 _ _ q⟩
  | ret v=>exact q
  | brk=>exact q
  | cont=>exact q
end
end L2

namespace L2
open PySem PySem.Spec PyProof.Rows
section
variable {prog:Program} {w:World} {A:Around} {E:Value→Shared→Prop} {s:Shared}

end
section
variable {prog:Program} {w:World} {A:Around} {E:Value→Shared→Prop} {s:Shared}
end
section
variable {X:Cx} {tg:Expr}
end
end L2

namespace L2
open PySem PySem.Spec PyProof.Rows
section
variable {K:PySem.W.Frag} {σ0 cs:St} {k:Nat} {g:TG} {te:TE} {tt:TT} {H1:Hp} {Q:VK}
end
section
variable {X:Cx} {K:PySem.W.Frag} {o e:Expr} {es:List Expr} {to:TE} {t:TA} {name:Str} {apos cpos:Pos} {T id:String} {r:V→List V→Hp→VK→Prop}
end
end L2

namespace L2
open PySem PySem.Spec PySem.Calls PyProof.Rows
section
variable {X:Cx}
end
section
variable {K:PySem.W.Frag} {σ0 cs:St} {k:Nat} {g:TG} {te:TE} {tt:TT} {H1:Hp} {Q:VK}
end
end L2

namespace L2
open PySem PySem.Spec PySem.Calls PyProof.Rows
section
variable {X:Cx} {K:PySem.W.Frag}
end
end L2

namespace L2
open PySem PySem.Spec PySem.Calls PyProof.Rows

section
variable {P:Program} {w:World} {K:PySem.W.Frag} {mg:Str→Option Value} {base:Heap}
end
section
variable {X:Cx} {CX:CXT} {j k:Nat} {ps:List Str} {sp:Sp} {x:Str} {p pos:Pos} {e:Expr} {es:List Expr} {t:TA}
def isStrV:V→Bool
  | .str _=>true
  | _=>false
theorem strs_eqAt {A:Around} {s:Shared} {a:Addr} (hu:A.units < cLine) (h:(∃ is,s.heap.IsList a is)∨(∃ is,s.heap.IsTuple a is)):∀ {xs:List V} {us:List Value},Vals xs us→xs.all isStrV=true→∀ u∈us,SeqAt.EqAt A s u (.ref a) false
  | _,_,.nil,_=>fun u hu=>by cases hu
  | y::xs,u::us,.cons r t,f=>fun u' hu'=>by
    rw [List.all_cons,Bool.and_eq_true] at f
    rcases List.mem_cons.mp hu' with rfl | hu'
    · cases y with
      | str z =>
        obtain ⟨t,rfl⟩:=r
        rcases h with ⟨is,h⟩ | ⟨is,h⟩
        · exact SeqAt.EqAt.str_list z t h hu
        · exact SeqAt.EqAt.str_tuple z t h hu
      | _=>exact absurd f.1 (by simp [isStrV])
    · exact strs_eqAt hu h t f.2 u' hu'
theorem any_false {us:List Value}:us.any (fun _=>false)=false:=by induction us with
  | nil=>rfl
  | cons a r ih=>rw [List.any_cons,ih]; rfl
def rInX (K:PySem.W.Frag) (neg:Bool):R2:=fun x y H Q=>∃ p xs,y=.ref p∧(SqL K H p xs∨SqT K H p xs)∧((flatV x=true∧xs.all flatV=true∧Q (.bl (if neg then !inV x xs else inV x xs)) H)∨(∃ a ys,x=.ref a∧(SqL K H a ys∨SqT K H a ys)∧xs.all isStrV=true∧Q (.bl neg) H))
theorem op_inX {k:Nat} (hr:Room k X.A):OpR X (compareOp .In) (rInX X.K false):=by
  intro pins s σ H x y v u Q I rx ry h
  obtain ⟨p,xs,rfl,hq,h⟩:=h
  rcases h with ⟨fx,fs,q⟩ | ⟨a,ys,rfl,ha,fs,q⟩
  · exact op_in_seq pins s σ H x _ v u Q I rx ry ⟨p,xs,rfl,hq,fx,fs,q⟩
  cases ry
  cases rx
  have hu:X.A.in1.units < cLine:=by have:=hr.un; show X.A.units + 1 < cLine; omega
  have hs:(∃ is,s.heap.IsList a is)∨(∃ is,s.heap.IsTuple a is):=by
    rcases ha with ha | ha
    · obtain ⟨its,_,pl,_⟩:=I.list ha; exact .inl ⟨_,pl.isList⟩
    · obtain ⟨its,_,pl,_⟩:=I.tuple ha; exact .inr ⟨_,pl⟩
  rcases hq with hq | hq
  · obtain ⟨its,r,pl,hz⟩:=I.list hq
    refine SeqAt.in_listAt (fun _=>false) pl.isList (fun w hw=>strs_eqAt hu hs r fs w (by simpa using hw)) ⟨.bl _,H,I,rfl,?_⟩
    rw [show its.toArray.any (fun _=>false)=its.any (fun _=>false) by simp,any_false]
    exact q
  · obtain ⟨its,r,pl,hz⟩:=I.tuple hq
    refine SeqAt.in_tupleAt (fun _=>false) pl (fun w hw=>strs_eqAt hu hs r fs w (by simpa using hw)) ⟨.bl _,H,I,rfl,?_⟩
    rw [show its.toArray.any (fun _=>false)=its.any (fun _=>false) by simp,any_false]
    exact q
end
end L2


namespace Qs
open PySem L2
theorem len_eq (z:Str):z.length=z.cps.toList.length:=by
  show z.cps.size=z.cps.toList.length
  rw [Array.length_toList]

def IsC (z:Str):Prop:=∀ c∈z.cps.toList,48≤c∧c≤51
def dig (z:Str):List Nat:=z.cps.toList.map (· - 48)
def cxs (ds:List Nat):Nat:=ds.foldl (fun a d=>a * 2 + d % 2) 0
def cys (ds:List Nat):Nat:=ds.foldl (fun a d=>a * 2 + d / 2) 0
theorem dig_len (z:Str):(dig z).length=z.length:=by simp [dig,len_eq]
theorem dig_at {z:Str} {i:Nat} (h:i < z.length):(dig z)[i]? = some (z.cps.getD i 0 - 48):=by
  have h':i < z.cps.size:=h
  simp [dig,Array.getD_eq_getD_getElem?,h']
theorem sgn_in {z:Str} {i:Nat} (hz:IsC z) (h:i < z.length):48≤z.cps.getD i 0∧z.cps.getD i 0≤51:=by
  have h':i < z.cps.size:=h
  refine hz _ ?_
  have e:z.cps.getD i 0=z.cps[i]:=by simp [Array.getD_eq_getD_getElem?,h']
  rw [e]
  exact Array.getElem_mem_toList h'

def one (d:Nat):Str:=⟨#[48 + d]⟩
theorem sgn_one {z:Str} {i:Nat} (hz:IsC z) (h:i < z.length):∃ d,d < 4∧sgn z i=one d∧z.cps.getD i 0 - 48=d:=by
  obtain ⟨h1,h2⟩:=sgn_in hz h
  refine ⟨z.cps.getD i 0 - 48,by omega,?_,rfl⟩
  unfold sgn one
  have e:48 + (z.cps.getD i 0 - 48)=z.cps.getD i 0:=by omega
  rw [e]
theorem four {P:Nat→Prop} (h0:P 0) (h1:P 1) (h2:P 2) (h3:P 3) {d:Nat} (h:d < 4):P d:=by
  rcases d with _ | _ | _ | _ | d
  · exact h0
  · exact h1
  · exact h2
  · exact h3
  · omega
theorem int_one {d:Nat} (h:d < 4):PySem.intText? (one d)=some (d:Int) :=
  four (P:=fun d=>PySem.intText? (one d)=some (d:Int)) (by decide +kernel) (by decide +kernel) (by decide +kernel) (by decide +kernel) h
theorem IsC.nil:IsC ⟨#[]⟩:=fun c h=>by simp at h
theorem IsC.app {a b:Str} (ha:IsC a) (hb:IsC b):IsC (a++b):=fun c h=>by
  have e:(a++b).cps.toList=a.cps.toList++b.cps.toList:=by
    show (a.cps++b.cps).toList=_
    simp
  rw [e] at h
  rcases List.mem_append.mp h with h | h
  · exact ha c h
  · exact hb c h
theorem IsC.one {d:Nat} (h:d < 4):IsC (one d):=fun c hc=>by
  have e:c=48 + d:=by simpa [Qs.one] using hc
  omega
end Qs

namespace L2
open PySem PySem.Spec PyProof.Rows
section
variable {X:Cx}
theorem pe_gint {x:Str} {i:Int} {pos:Pos} (h:∃ t,X.mg x=some (.int i t)) (hg:Gl X x:=by rfl) (hd:(x == ("__debug__" : Str))=false:=by decide):PE X (.Name x pos) (tC (.int i)):=by
  obtain ⟨t,h⟩:=h
  exact pe_glob hg h ⟨t,rfl⟩ hd
theorem pe_gstr {x z:Str} {pos:Pos} (h:∃ t,X.mg x=some (.str z t)) (hg:Gl X x:=by rfl) (hd:(x == ("__debug__" : Str))=false:=by decide):PE X (.Name x pos) (tC (.str z)):=by
  obtain ⟨t,h⟩:=h
  exact pe_glob hg h ⟨t,rfl⟩ hd
end
section
variable {X:Cx}
theorem pe_bty {x:Str} {n:String} {pos:Pos} (hm:X.mg x=none) (hv:bootBuiltins x=some (.type n)) (hg:Gl X x:=by rfl) (hn:x ≠ "__name__" := by decide) (hd:(x == ("__debug__" : Str))=false:=by decide):PE X (.Name x pos) (tC (.ty n)) :=
  pe_bltn hg hm hv rfl hn hd
theorem nd1 (x:Str):[x].Nodup:=by simp
end

theorem comp_of {n:Nat} {g':Nat→V} {g:TG} {te:TE} {N':List Str} {H1:Hp} {Q:VK} (F:Nat→V) (hn:n≤sizeLine)
    (hs:∀ i H' R,i < n→R (F i) H'→g (g' i) (List.replicate N'.length none) H' fun σ2 H3=>te σ2 H3 R) (hd:∀ D,H1 D=none→Q (.ref D) (upd H1 D (.lst ((List.range n).map F)))) :
    compK N' g te Q (Itg n g') H1:=by
  intro D hD
  refine ⟨fun i m ys H2=>m=n - i∧i≤n∧ys=(List.range i).map F∧H2=upd H1 D (.lst ys),⟨n,rfl,Nat.zero_le _,rfl,rfl⟩,?_⟩
  rintro i m ys H2 ⟨rfl,hi,rfl,rfl⟩
  refine ⟨upd_same,?_⟩
  by_cases hlt:i < n
  · refine .inr ⟨hlt,by simp; omega,fun x H' y => ?_⟩
    obtain ⟨e,y⟩:=y
    subst e y
    refine hs i _ _ hlt ⟨upd_same,n - (i + 1),by omega,rfl,hlt,?_,?_⟩
    · rw [List.range_succ,List.map_append]; rfl
    · rw [upd_upd]
  · have e:i=n:=by omega
    subst e
    exact .inl ⟨Nat.le_refl _,hd D hD⟩
theorem Same.new {H:Hp} {p:Addr} (h:H p=none) (o:HO):Same H (upd H p o):=fun b u q=>by rw [upd_ne (ne_of_none q h)]; exact q
theorem Same.set {H:Hp} {H':Hp} {p:Addr} (h:Same H H') (hp:H p=none) (o:HO):Same H (upd H' p o):=fun b u q=>by rw [upd_ne (ne_of_none q hp)]; exact h b u q
theorem small {n:Nat} (h:n≤1000):n≤sizeLine:=Nat.le_of_lt (small1000 h)
end L2

namespace L2
open PySem PySem.Spec PyProof.Rows
def notStar:PySem.Expr→Bool
  | .Starred _ _=>false
  | _=>true
theorem star_of {e:PySem.Expr} {es:List PySem.Expr} {env:Env} (h:notStar e=true):starEach (e::es) env=(false,eval e env)::starEach es env:=by
  cases e <;> first | rfl | (cases h)
theorem pa_c {X:Cx} {e:PySem.Expr} {es:List PySem.Expr} {te:TE} {t:TA} (ha:PE X e te) (hr:PA X es t) (h:notStar e=true:=by rfl):PA X (e::es) (tCons te t):=pa_cons ha hr (star_of h)
end L2
namespace L2
open PySem PySem.Spec PyProof.Rows
end L2
namespace L2
open PySem PySem.Spec PyProof.Rows

structure PAx (X:Cx) (es:List PySem.Expr) (t:TA):Prop where
  h:PA X es t
section
variable {X:Cx} {e:PySem.Expr} {es:List PySem.Expr} {te:TE} {t:TA} {pos:Pos}
theorem pax_nil:PAx X [] tNil:=⟨pa_nil⟩
theorem pax_c (ha:PE X e te) (hr:PAx X es t) (h:notStar e=true:=by rfl):PAx X (e::es) (tCons te t):=⟨pa_c ha hr.h h⟩
theorem pe_tupx {x1} (h:PAx X es t):PE X (.Tuple es x1 pos) (tTup t):=pe_tup h.h
theorem pe_lstx (h:PAx X es t):PE X (.List es pos) (tLst t):=pe_lst h.h
end
end L2

namespace L2
open PySem PySem.Spec PySem.Calls PyProof.Rows

section
variable {X:Cx}
end
section
variable {X:Cx} {st:Stmt} {rest:List Stmt} {t u:TS}
end
section
variable {P:Program} {w:World} {K:PySem.W.Frag} {mg:Str→Option Value} {base:Heap}
end
end L2

namespace L2
open PySem PySem.Spec PySem.Calls PyProof.Rows
section
variable {X:Cx}

end

namespace HT
section
variable {prog:Program} {w:World} {A:Around} {E:Value→Shared→Prop} {s:Shared}
end
end HT
section
variable {X:Cx}
end

section
variable {X:Cx}
end
end L2

namespace L2
open PySem PySem.Spec PySem.Calls PyProof.Rows
section
variable {K:PySem.W.Frag} {σ0 cs:St} {k:Nat} {g:TG} {te:TE} {H1:Hp} {Q:VK}

end
section
variable {X:Cx}

end
end L2

namespace L2
open PySem PySem.Spec PySem.Calls PyProof.Rows

section
variable {prog:Program} {w:World} {A:Around} {E:Value→Shared→Prop} {s:Shared}
end


section
variable {X:Cx} {pins:List (Addr × Obj)} {σ:St}
end
end L2

namespace L2
open PySem PySem.Spec PySem.Calls PyProof.Rows PySem.W


section
variable {N:Nat} {f:Nat→Int}

end
end L2

namespace L2
open PySem PySem.Spec PySem.Calls PyProof.Rows PySem.W

section
variable {prog:Program} {w:World} {A:Around} {E:Value→Shared→Prop} {s:Shared}

end
end L2

namespace L2
open PySem PySem.Spec PySem.Calls PyProof.Rows PySem.W

theorem bt_sorted:bootBuiltins "sorted" = some (.builtin "sorted"):=by decide +kernel
section
variable {X:Cx} {pins:List (Addr × Obj)} {σ:St} {H H':Hp} {s:Shared} {h':Heap}

theorem sortedHeap_keep {h:Heap} {vs:List Value} {out:Array Value} {b:Addr} {o:Obj} (e:h.get? b=some o):(sortedHeap (h.push (seqObj "list" vs.toArray 0)) h.objs.size vs out).get? b=some o:=by
  rw [sortedHeap_old (Nat.ne_of_lt (Heap.lt_size e)) (by rw [size_push']; exact Nat.lt_succ_of_lt (Heap.lt_size e))]
  exact Heap.get?_push_of_some _ e
theorem sortedHeap_is {h:Heap} {vs:List Value} {out:Array Value}:∃ n,(sortedHeap (h.push (seqObj "list" vs.toArray 0)) h.objs.size vs out).get? h.objs.size=some (seqObj "list" out n) :=
  sortedHeap_at (n:=0) (Heap.get?_push_size _ rfl)

end
end L2

namespace L2
open PySem PySem.Spec PySem.Calls PyProof.Rows

theorem bb_sum:bootBuiltins "sum" = some (.builtin "sum"):=by decide +kernel
section
variable {X:Cx}
theorem call_sumL (hc:X.calm=true):CallR X (.builtin "sum") (fun xs H Q=>∃ (a:Addr) (ns:List Int),xs=[.ref a]∧SqL X.K H a (ns.map V.int)∧Q (.int ns.sum) H):=by
  intro pins s σ H xs us Q I r h
  obtain ⟨a,ns,rfl,hS,q⟩:=h
  obtain ⟨u,rfl,ru⟩:=vals1 r
  cases ru
  obtain ⟨its,rv,pl,_⟩:=I.list hS
  have hi:IntsAre its ns:=intsAre_of rv
  have hl:=pl.isList
  obtain ⟨xs,e⟩:=hi.allInts.items
  have hns:ns=xs.toList.map (·.1):=by rw [← hi.numsOf,← nums_intItems,← e]
  rw [e] at hl
  refine sum_intListG (I.ok.hd hc) hl fun h' tk t' hk => ?_
  refine ⟨.int _,H,I.kept hk,⟨t',rfl⟩,?_⟩
  rw [preSum_eq,List.take_of_length_le (by simp),← hns]
  exact q
theorem Room.dic {k:Nat} {A:Around} (r:Room k A):A.units + 1 < PySem.cLine:=by have:=r.un; omega
end
end L2

namespace L2
open PySem PySem.Spec PySem.Calls PyProof.Rows PySem.W

section
variable {X:Cx} {pins:List (Addr × Obj)} {σ:St} {H:Hp} {s:Shared} {Z:List (Addr × Obj)}
end

section
variable {P:Program} {w:World} {K:PySem.W.Frag} {mg:Str→Option Value} {base:Heap} {Z:List (Addr × Obj)}
end

section
variable {X:Cx} {CX:CXT} {k j:Nat} {f:Addr} {fd:FuncData} {ps:List Str} {sp:Sp} {x:Str} {p pos:Pos} {e:Expr} {es:List Expr} {t:TA} {Z:List (Addr × Obj)}
end

section
variable {X:Cx} {CX:CXT} {k j:Nat} {f:Addr} {fd:FuncData} {ps:List Str} {sp:Sp} {x:Str} {p pos:Pos} {e:Expr} {es:List Expr} {t:TA} {Z:List (Addr × Obj)}

end

section
variable {X:Cx}
end


section
variable {P:Program} {w:World} {K:PySem.W.Frag} {mg:Str→Option Value} {base:Heap} {Z:List (Addr × Obj)}
end
end L2

namespace L2
open PySem PySem.Spec PySem.Calls PyProof.Rows PySem.W
section
variable {X:Cx} {K:PySem.W.Frag}

end
end L2

namespace L2
open PySem PySem.Spec PySem.Calls PyProof.Rows PySem.W

section
variable {prog:Program} {w:World} {A:Around} {E:Value→Shared→Prop} {s:Shared}
end
section
variable {X:Cx}
end
end L2

namespace Tim
open PySem PyProof.Rows

section
variable {prog:Program} {w:World} {A:Around} {E:Value→Shared→Prop} {s:Shared} {a₀:Array Keyed} {κ:SortKind} {key:Keyed→Int}

def LtOk (prog:Program) (w:World) (A:Around) (E:Value→Shared→Prop) (s:Shared) (a₀:Array Keyed) (κ:SortKind) (key:Keyed→Int):Prop :=
  ∀ (x y:Keyed) (C:Bool→Shared→Prop),x∈a₀.toList→y∈a₀.toList→C (decide (key x < key y)) s→wpAny (model prog w) A (keyLt' κ x.1 y.1) C (fun _ _=>False) s
structure SB (a₀:Array Keyed) (κ:SortKind) (st:SortSt):Prop where
  perm:(arrOf st).Perm a₀
  kind:kindOf st=κ
  ok:failedOf st=none
theorem SB.size {st:SortSt} (h:SB a₀ κ st):(arrOf st).size=a₀.size:=h.perm.size_eq
theorem SB.mem {st:SortSt} (h:SB a₀ κ st) {x:Keyed} (hx:x∈(arrOf st).toList):x∈a₀.toList:=(Array.perm_iff_toList_perm.mp h.perm).mem_iff.mp hx
theorem SB.set {st:SortSt} (h:SB a₀ κ st) {xs:Array Keyed} (hp:xs.Perm (arrOf st)):SB a₀ κ (setArr st xs):=⟨hp.trans h.perm,h.kind,h.ok⟩

def kat (key:Keyed→Int) (xs:Array Keyed) (i:Nat):Int:=match xs[i]? with
  | some p=>key p
  | none=>0
theorem kat_of {xs ys:Array Keyed} {i j:Nat} (h:xs[i]? = ys[j]?):kat key xs i=kat key ys j:=by unfold kat; rw [h]
theorem kat_some {xs:Array Keyed} {i:Nat} {p:Keyed} (h:xs[i]? = some p):kat key xs i=key p:=by unfold kat; rw [h]

def Seg (key:Keyed→Int) (xs:Array Keyed) (lo hi:Nat):Prop:=∀ i j,lo≤i→i≤j→j < hi→kat key xs i≤kat key xs j
theorem lt_ok (L:LtOk prog w A E s a₀ κ key) {x y:Keyed} {st:SortSt} {Q:Option Bool→SortSt→Prop} (hk:kindOf st=κ) (hx:x∈a₀.toList) (hy:y∈a₀.toList) (h:Q (some (decide (key x < key y))) st) :
    wpS (model prog w) A E s (lt' x y) Q st:=by
  rw [lt'_eq]
  refine wpS_bind (wpS_get ?_)
  rw [hk]
  refine wpS_bind (wpS_lift (wpAny_attempt (wpAny_mono (L x y (fun b s'=>b=decide (key x < key y)∧s'=s) hx hy ⟨rfl,rfl⟩) (fun b s' hb => ?_) fun _ _ e=>e.elim)))
  obtain ⟨rfl,rfl⟩:=hb
  exact ⟨rfl,wpS_pure h⟩
theorem el_ok {arr:Array Keyed} {i:Nat} {p:Keyed} {st:SortSt} {Q:Keyed→SortSt→Prop} (hi:arr[i]? = some p) (h:Q p st):wpS (model prog w) A E s (elem' arr i) Q st:=by
  rw [elem'_eq,hi]
  exact wpS_pure h
theorem at_mem {xs:Array Keyed} {i:Nat} {p:Keyed} (h:xs[i]? = some p):p∈xs.toList:=by
  have:p∈xs:=Array.mem_of_getElem? h
  exact Array.mem_toList_iff.mpr this
theorem ltAt_ok (L:LtOk prog w A E s a₀ κ key) {i j:Nat} {st:SortSt} {Q:Option Bool→SortSt→Prop} (hB:SB a₀ κ st) (hi:i < a₀.size) (hj:j < a₀.size) (h:Q (some (decide (kat key (arrOf st) i < kat key (arrOf st) j))) st) :
    wpS (model prog w) A E s (ltAt' i j) Q st:=by
  rw [ltAt'_eq]
  refine wpS_bind (wpS_get ?_)
  have e1:(arrOf st)[i]? = some ((arrOf st)[i]'(by rw [hB.size]; exact hi)):=Array.getElem?_eq_getElem _
  have e2:(arrOf st)[j]? = some ((arrOf st)[j]'(by rw [hB.size]; exact hj)):=Array.getElem?_eq_getElem _
  refine wpS_bind (el_ok e1 (wpS_bind (el_ok e2 ?_)))
  refine lt_ok L hB.kind (hB.mem (at_mem e1)) (hB.mem (at_mem e2)) ?_
  rw [kat_some e1,kat_some e2] at h
  exact h

def gallopP:Bool→Keyed→Array Keyed→Nat→Nat→Nat→StateT SortSt Sem (Option Nat):=sortPriv% PySem.Builtin.gallop
def pastP (left:Bool) (x:Keyed) (u:Array Keyed) (base i:Nat):StateT SortSt Sem (Option Bool):=do
  let y ← elem' u (base + i)
  if left then lt' y x else return (← lt' x y).map (!·)
abbrev St3:=Option (Option Nat) × Nat × Nat

def halfL (left:Bool) (x:Keyed) (u:Array Keyed) (base n p q:Nat):StateT SortSt Sem (Option Nat):=do
  let r ← forIn [0:n] ((none,p,q):St3) fun _ r =>
    if r.2.1 ≥ r.2.2 then pure (ForInStep.done (none,r.2.1,r.2.2)) else do
      let y ← pastP left x u base (r.2.1 + (r.2.2 - r.2.1) / 2)
      match y with
      | some more=>if more=true then pure (ForInStep.yield (none,r.2.1 + (r.2.2 - r.2.1) / 2 + 1,r.2.2)) else pure (ForInStep.yield (none,r.2.1,r.2.1 + (r.2.2 - r.2.1) / 2))
      | _=>pure (ForInStep.done (some none,r.2.1,r.2.2))
  match r.1 with
  | some v=>pure v
  | none=>pure (some r.2.2)

def farL (left:Bool) (x:Keyed) (u:Array Keyed) (base n room:Nat) (pl:Nat→Nat) (stop:Bool→Bool):StateT SortSt Sem St3 :=
  forIn [0:n] ((none,0,1):St3) fun _ r =>
    if r.2.2 ≥ room then pure (ForInStep.done (none,r.2.1,r.2.2)) else do
      let y ← pastP left x u base (pl r.2.2)
      match y with
      | some more=>if stop more=true then pure (ForInStep.done (none,r.2.1,r.2.2)) else pure (ForInStep.yield (none,r.2.2,2 * r.2.2 + 1))
      | _=>pure (ForInStep.done (some none,r.2.1,r.2.2))
theorem gallopP_do (left:Bool) (x:Keyed) (u:Array Keyed) (base n hint:Nat):gallopP left x u base n hint=(do
    let mut was:=0
    let mut step:=1
    let mut p:=0
    let mut q:=0
    let some right ← pastP left x u base hint | return none
    if right then
      let room:=n - hint
      for _ in [0:n] do
        if step ≥ room then break
        let some more ← pastP left x u base (hint + step) | return none
        if !more then break
        was:=step
        step:=2 * step + 1
      p:=hint + was + 1
      q:=hint + min step room
    else
      let room:=hint + 1
      for _ in [0:n] do
        if step ≥ room then break
        let some found ← pastP left x u base (hint - step) | return none
        if found then break
        was:=step
        step:=2 * step + 1
      p:=hint + 1 - min step room
      q:=hint - was
    for _ in [0:n] do
      if p ≥ q then break
      let m:=p + (q - p) / 2
      let some more ← pastP left x u base m | return none
      if more then p:=m + 1 else q:=m
    return some q):=rfl
theorem gallopP_eq (left:Bool) (x:Keyed) (u:Array Keyed) (base n hint:Nat):gallopP left x u base n hint=(do
    let y ← pastP left x u base hint
    match y with
    | some right =>
      if right=true then do
        let r ← farL left x u base n (n - hint) (fun k=>hint + k) (fun m => !m)
        match r.1 with
        | some v=>pure v
        | none=>halfL left x u base n (hint + r.2.1 + 1) (hint + min r.2.2 (n - hint))
      else do
        let r ← farL left x u base n (hint + 1) (fun k=>hint - k) (fun m=>m)
        match r.1 with
        | some v=>pure v
        | none=>halfL left x u base n (hint + 1 - min r.2.2 (hint + 1)) (hint - r.2.1)
    | _=>pure none):=by
  rw [gallopP_do]
  unfold farL halfL
  dsimp only
  congr 1
  funext y
  cases y with
  | none=>rfl
  | some r =>
    cases r with
    | true =>
      dsimp only
      rw [if_pos rfl,if_pos rfl]
      congr 1
      funext r
      obtain ⟨r1,r2,r3⟩:=r
      cases r1 with
      | some v=>rfl
      | none =>
        dsimp only
        congr 1
        funext r
        obtain ⟨r1,r2,r3⟩:=r
        cases r1 <;> rfl
    | false =>
      dsimp only
      rw [if_neg (by decide),if_neg (by decide)]
      congr 1
      funext r
      obtain ⟨r1,r2,r3⟩:=r
      cases r1 with
      | some v=>rfl
      | none =>
        dsimp only
        congr 1
        funext r
        obtain ⟨r1,r2,r3⟩:=r
        cases r1 <;> rfl
def isPast (key:Keyed→Int) (left:Bool) (x:Keyed) (u:Array Keyed) (base i:Nat):Bool:=if left then decide (kat key u (base + i) < key x) else !decide (key x < kat key u (base + i))
theorem past_mono {left:Bool} {x:Keyed} {u:Array Keyed} {base n i j:Nat} (sg:Seg key u base (base + n)) (hij:j≤i) (hi:i < n) (h:isPast key left x u base i=true):isPast key left x u base j=true:=by
  have:=sg (base + j) (base + i) (by omega) (by omega) (by omega)
  unfold isPast at h ⊢
  cases left with
  | true =>
    rw [if_pos rfl] at h ⊢
    have h':=of_decide_eq_true h
    exact decide_eq_true (by omega)
  | false =>
    rw [if_neg (by decide)] at h ⊢
    have h':¬ key x < kat key u (base + i):=by simpa using h
    have:¬ key x < kat key u (base + j):=by omega
    simpa using this
theorem past_ok (L:LtOk prog w A E s a₀ κ key) {left:Bool} {x:Keyed} {u:Array Keyed} {base n i:Nat} {st:SortSt} {Q:Option Bool→SortSt→Prop} (hk:kindOf st=κ) (hx:x∈a₀.toList) (hu:∀ y∈u.toList,y∈a₀.toList)
    (hb:base + n≤u.size) (hi:i < n) (h:Q (some (isPast key left x u base i)) st):wpS (model prog w) A E s (pastP left x u base i) Q st:=by
  unfold pastP
  have e1:u[base + i]? = some (u[base + i]'(by omega)):=Array.getElem?_eq_getElem _
  refine wpS_bind (el_ok e1 ?_)
  unfold isPast at h
  rw [kat_some e1] at h
  cases left with
  | true =>
    rw [if_pos rfl] at h ⊢
    exact lt_ok L hk (hu _ (at_mem e1)) hx h
  | false =>
    rw [if_neg (by decide)] at h ⊢
    exact wpS_bind (lt_ok L hk hx (hu _ (at_mem e1)) (wpS_pure h))
theorem half_ok (L:LtOk prog w A E s a₀ κ key) {left:Bool} {x:Keyed} {u:Array Keyed} {base n p q:Nat} {st:SortSt} {Q:Option Nat→SortSt→Prop} (hk:kindOf st=κ) (hx:x∈a₀.toList) (hu:∀ y∈u.toList,y∈a₀.toList)
    (hb:base + n≤u.size) (sg:Seg key u base (base + n)) (hpq:p≤q) (hq:q≤n) (lo:∀ i,i < p→isPast key left x u base i=true) (hi:∀ i,q≤i→i < n→isPast key left x u base i=false)
    (h:∀ k,k≤n→(∀ i,i < k→isPast key left x u base i=true)→(∀ i,k≤i→i < n→isPast key left x u base i=false)→Q (some k) st):wpS (model prog w) A E s (halfL left x u base n p q) Q st:=by
  unfold halfL
  refine wpS_bind (wpS_mono (wpS_forRange (I:=fun t c st'=>st'=st∧∃ p q,c=(none,p,q)∧p≤q∧q≤n∧q - p≤n - t∧(∀ i,i < p→isPast key left x u base i=true)∧(∀ i,q≤i→i < n→isPast key left x u base i=false))
    (Q:=fun c st'=>st'=st∧∃ q,c=(none,q,q)∧q≤n∧(∀ i,i < q→isPast key left x u base i=true)∧(∀ i,q≤i→i < n→isPast key left x u base i=false)) ?step ?fin ⟨rfl,p,q,rfl,hpq,hq,by omega,lo,hi⟩) ?post)
  case post =>
    rintro c st' ⟨rfl,q,rfl,h1,h2,h3⟩
    exact wpS_pure (h q h1 h2 h3)
  case fin =>
    rintro c st' ⟨rfl,p,q,rfl,h1,h2,h3,h4,h5⟩
    have e:p=q:=by omega
    subst e
    exact ⟨rfl,p,rfl,h2,h4,h5⟩
  case step =>
    rintro t c st' _ ht ⟨rfl,p,q,rfl,h1,h2,h3,h4,h5⟩
    dsimp only
    by_cases e:p ≥ q
    · rw [if_pos e]
      have e':p=q:=by omega
      subst e'
      exact wpS_pure ⟨rfl,p,rfl,h2,h4,h5⟩
    · rw [if_neg e]
      refine wpS_bind (past_ok L hk hx hu hb (n:=n) (by omega) ?_)
      dsimp only
      cases hm:isPast key left x u base (p + (q - p) / 2) with
      | true =>
        rw [if_pos rfl]
        exact wpS_pure ⟨rfl,_,_,rfl,by omega,h2,by omega,fun i hi=>past_mono sg (by omega) (by omega) hm,h5⟩
      | false =>
        rw [if_neg (by decide)]
        refine wpS_pure ⟨rfl,_,_,rfl,by omega,by omega,by omega,h4,fun i h6 h7 => ?_⟩
        cases z:isPast key left x u base i with
        | false=>rfl
        | true=>rw [past_mono sg h6 h7 z] at hm; cases hm
theorem far_ok (L:LtOk prog w A E s a₀ κ key) {left:Bool} {x:Keyed} {u:Array Keyed} {base n room:Nat} {pl:Nat→Nat} {good:Bool} {stop:Bool→Bool} (hstop:∀ m,stop m=(m != good)) {st:SortSt} {Q:St3→SortSt→Prop} (hk:kindOf st=κ) (hx:x∈a₀.toList) (hu:∀ y∈u.toList,y∈a₀.toList)
    (hb:base + n≤u.size) (hr:room≤n) (hpl:∀ k,k < room→pl k < n) (h0:isPast key left x u base (pl 0)=good) (hr0:0 < room)
    (h:∀ was step,was < step→was < room→isPast key left x u base (pl was)=good→(room≤step∨isPast key left x u base (pl step) = !good)→Q (none,was,step) st):wpS (model prog w) A E s (farL left x u base n room pl stop) Q st:=by
  unfold farL
  refine wpS_forRange (I:=fun t c st'=>st'=st∧∃ was step,c=(none,was,step)∧was < step∧was < room∧t + 1≤step∧isPast key left x u base (pl was)=good) ?step ?fin ⟨rfl,0,1,rfl,by omega,hr0,by omega,h0⟩
  case fin =>
    rintro c st' ⟨rfl,was,step,rfl,h1,h2,h3,h4⟩
    exact h was step h1 h2 h4 (.inl (by omega))
  case step =>
    rintro t c st' _ ht ⟨rfl,was,step,rfl,h1,h2,h3,h4⟩
    dsimp only
    by_cases e:step ≥ room
    · rw [if_pos e]
      exact wpS_pure (h was step h1 h2 h4 (.inl e))
    · rw [if_neg e]
      refine wpS_bind (past_ok L hk hx hu hb (hpl step (by omega)) ?_)
      dsimp only
      by_cases hm:isPast key left x u base (pl step)=good
      · have e2:stop (isPast key left x u base (pl step))=false:=by rw [hstop,hm]; cases good <;> rfl
        rw [e2,if_neg (by decide)]
        exact wpS_pure ⟨rfl,step,2 * step + 1,rfl,by omega,by omega,by omega,hm⟩
      · have hm':isPast key left x u base (pl step) = !good:=by
          cases q:isPast key left x u base (pl step) <;> cases good <;> simp_all
        have e2:stop (isPast key left x u base (pl step))=true:=by rw [hstop,hm']; cases good <;> rfl
        rw [e2,if_pos rfl]
        exact wpS_pure (h was step h1 h2 h4 (.inr hm'))
theorem gallop_ok (L:LtOk prog w A E s a₀ κ key) {left:Bool} {x:Keyed} {u:Array Keyed} {base n hint:Nat} {st:SortSt} {Q:Option Nat→SortSt→Prop} (hk:kindOf st=κ) (hx:x∈a₀.toList) (hu:∀ y∈u.toList,y∈a₀.toList)
    (hb:base + n≤u.size) (hh:hint < n) (sg:Seg key u base (base + n))
    (h:∀ k,k≤n→(∀ i,i < k→isPast key left x u base i=true)→(∀ i,k≤i→i < n→isPast key left x u base i=false)→Q (some k) st):wpS (model prog w) A E s (gallopP left x u base n hint) Q st:=by
  rw [gallopP_eq]
  have dn:∀ i,i < n→isPast key left x u base i=false→∀ j,i≤j→j < n→isPast key left x u base j=false:=fun i hi e j hj hjn=>by
    cases q:isPast key left x u base j with
    | false=>rfl
    | true=>rw [past_mono sg hj hjn q] at e; cases e
  refine wpS_bind (past_ok L hk hx hu hb hh ?_)
  dsimp only
  cases hp:isPast key left x u base hint with
  | true =>
    rw [if_pos rfl]
    refine wpS_bind (far_ok L (by intro m; cases m <;> rfl) hk hx hu hb (by omega) (fun k hk=>by omega) hp (by omega) fun was step h1 h2 h3 h4 => ?_)
    dsimp only
    refine half_ok L hk hx hu hb sg (by omega) (by omega) (fun i hi=>past_mono sg (by omega) (by omega) h3) (fun i h5 h6 => ?_) h
    rcases h4 with h4 | h4
    · omega
    · by_cases h7:n - hint≤step
      · omega
      · exact dn (hint + step) (by omega) h4 i (by omega) h6
  | false =>
    rw [if_neg (by decide)]
    refine wpS_bind (far_ok L (by intro m; cases m <;> rfl) hk hx hu hb (by omega) (fun k hk=>by omega) hp (by omega) fun was step h1 h2 h3 h4 => ?_)
    dsimp only
    refine half_ok L hk hx hu hb sg (by omega) (by omega) (fun i hi => ?_) (fun i h5 h6=>dn (hint - was) (by omega) h3 i h5 h6) h
    rcases h4 with h4 | h4
    · omega
    · by_cases h7:hint + 1≤step
      · omega
      · exact past_mono sg (by omega) (by omega) h4
end
end Tim

namespace Tim
open PySem PyProof.Rows
section
variable {prog:Program} {w:World} {A:Around} {E:Value→Shared→Prop} {s:Shared} {a₀:Array Keyed} {κ:SortKind} {key:Keyed→Int}
def loP:Array Keyed→Array Keyed→StateT SortSt Sem (Array Keyed):=sortPriv% PySem.Builtin.mergeLo
abbrev setGal (st:SortSt) (g:Nat):SortSt:=SortSt.mk' (kindOf st) (arrOf st) (pendingOf st) g (failedOf st)
abbrev St7:=Option (Array Keyed) × Array Keyed × Nat × Nat × Nat × Nat × Nat
abbrev St6:=Option (Array Keyed) × Array Keyed × Nat × Nat × Nat × Nat
abbrev St5:=Option (Array Keyed) × Array Keyed × Nat × Nat × Nat
def fin1 (u v o:Array Keyed) (i j:Nat):Array Keyed:=o++u.extract i u.size++v.extract j v.size
def fin2 (u v o:Array Keyed) (i j:Nat):Array Keyed:=o++v.extract j v.size++u.extract i u.size

def oneStep (u v:Array Keyed) (g:Nat) (r:St6):StateT SortSt Sem (ForInStep St6):=do
  let y ← elem' v r.2.2.2.1
  let x ← elem' u r.2.2.1
  let z ← lt' y x
  match z with
  | some won =>
    if won=true then do
      let y ← elem' v r.2.2.2.1
      if (r.2.2.2.1 + 1 == v.size)=true then pure (.done (some (fin1 u v (r.2.1.push y) r.2.2.1 (r.2.2.2.1 + 1)),r.2.1.push y,r.2.2.1,r.2.2.2.1 + 1,0,r.2.2.2.2.2 + 1))
      else if r.2.2.2.2.2 + 1 ≥ g then pure (.done (none,r.2.1.push y,r.2.2.1,r.2.2.2.1 + 1,0,r.2.2.2.2.2 + 1))
      else pure (.yield (none,r.2.1.push y,r.2.2.1,r.2.2.2.1 + 1,0,r.2.2.2.2.2 + 1))
    else do
      let x ← elem' u r.2.2.1
      if (r.2.2.1 + 1 + 1 == u.size)=true then pure (.done (some (fin2 u v (r.2.1.push x) (r.2.2.1 + 1) r.2.2.2.1),r.2.1.push x,r.2.2.1 + 1,r.2.2.2.1,r.2.2.2.2.1 + 1,0))
      else if r.2.2.2.2.1 + 1 ≥ g then pure (.done (none,r.2.1.push x,r.2.2.1 + 1,r.2.2.2.1,r.2.2.2.2.1 + 1,0))
      else pure (.yield (none,r.2.1.push x,r.2.2.1 + 1,r.2.2.2.1,r.2.2.2.2.1 + 1,0))
  | _=>pure (.done (some (fin1 u v r.2.1 r.2.2.1 r.2.2.2.1),r.2.1,r.2.2.1,r.2.2.2.1,r.2.2.2.2.1,r.2.2.2.2.2))

def galEnd (u v o:Array Keyed) (i j g ca cb:Nat):StateT SortSt Sem (ForInStep St7):=do
  let x ← elem' u i
  if (i + 1 + 1 == u.size)=true then pure (.done (some (fin2 u v (o.push x) (i + 1) j),o.push x,i + 1,j,g,ca,cb))
  else if (decide (ca < 7) && decide (cb < 7))=true then pure (.done (none,o.push x,i + 1,j,g,ca,cb))
  else pure (.yield (none,o.push x,i + 1,j,g,ca,cb))
def galMid (u v o:Array Keyed) (i j g ca cb:Nat):StateT SortSt Sem (ForInStep St7):=do
  let y ← elem' v j
  if (j + 1 == v.size)=true then pure (.done (some (fin1 u v (o.push y) i (j + 1)),o.push y,i,j + 1,g,ca,cb)) else do
    let x ← elem' u i
    let z ← gallopP true x v (j + 1) (v.size - (j + 1)) 0
    match z with
    | some k =>
      if k > 0 then
        if (j + 1 + k == v.size)=true then pure (.done (some (fin1 u v (o.push y++v.extract (j + 1) (j + 1 + k)) i (j + 1 + k)),o.push y++v.extract (j + 1) (j + 1 + k),i,j + 1 + k,g,ca,k))
        else galEnd u v (o.push y++v.extract (j + 1) (j + 1 + k)) i (j + 1 + k) g ca k
      else galEnd u v (o.push y) i (j + 1) g ca k
    | _=>pure (.done (some (fin1 u v (o.push y) i (j + 1)),o.push y,i,j + 1,g,ca,cb))
def galTop (u v o:Array Keyed) (i j g ca cb:Nat):StateT SortSt Sem (ForInStep St7):=do
  modify fun st=>setGal st g
  let y ← elem' v j
  let z ← gallopP false y u i (u.size - i) 0
  match z with
  | some k =>
    if k > 0 then
      if (i + k + 1 == u.size)=true then pure (.done (some (fin2 u v (o++u.extract i (i + k)) (i + k) j),o++u.extract i (i + k),i + k,j,g,k,cb))
      else if (i + k == u.size)=true then pure (.done (some (fin1 u v (o++u.extract i (i + k)) (i + k) j),o++u.extract i (i + k),i + k,j,g,k,cb))
      else galMid u v (o++u.extract i (i + k)) (i + k) j g k cb
    else galMid u v o i j g k cb
  | _=>pure (.done (some (fin1 u v o i j),o,i,j,g,ca,cb))
def galStep (u v:Array Keyed) (r:St7):StateT SortSt Sem (ForInStep St7) :=
  if r.2.2.2.2.1 > 1 then galTop u v r.2.1 r.2.2.1 r.2.2.2.1 (r.2.2.2.2.1 - 1) r.2.2.2.2.2.1 r.2.2.2.2.2.2 else galTop u v r.2.1 r.2.2.1 r.2.2.2.1 r.2.2.2.2.1 r.2.2.2.2.2.1 r.2.2.2.2.2.2
def roundStep (u v:Array Keyed) (r:St5):StateT SortSt Sem (ForInStep St5):=do
  let q ← forIn [0:u.size + v.size] ((none,r.2.1,r.2.2.1,r.2.2.2.1,0,0):St6) fun _ q=>oneStep u v r.2.2.2.2 q
  match q.1 with
  | some z=>pure (.done (some z,q.2.1,q.2.2.1,q.2.2.2.1,r.2.2.2.2))
  | none=>do
    liftM (rule "list.sort.gallop")
    let p ← forIn [0:u.size + v.size] ((none,q.2.1,q.2.2.1,q.2.2.2.1,r.2.2.2.2 + 1,q.2.2.2.2.1,q.2.2.2.2.2):St7) fun _ p=>galStep u v p
    match p.1 with
    | some z=>pure (.done (some z,p.2.1,p.2.2.1,p.2.2.2.1,p.2.2.2.2.1))
    | none=>do
      modify fun st=>setGal st (p.2.2.2.2.1 + 1)
      pure (.yield (none,p.2.1,p.2.2.1,p.2.2.2.1,p.2.2.2.2.1 + 1))
theorem loP_eq (u v:Array Keyed):loP u v=(do
    liftM (rule "list.sort.merge-lo")
    let y ← elem' v 0
    if (1 == v.size)=true then pure (fin1 u v #[y] 0 1) else
      if (0 + 1 == u.size)=true then pure (fin2 u v #[y] 0 1) else do
        let st ← get
        let r ← forIn [0:u.size + v.size] ((none,#[y],0,1,gallopOf st):St5) fun _ r=>roundStep u v r
        match r.1 with
        | some z=>pure z
        | none=>liftM (unsupported "internal:list.sort.merge-bound" : Sem (Array Keyed))):=by
  kernel_rfl

abbrev Srt (key:Keyed→Int) (l:List Keyed):Prop:=l.Pairwise fun x y=>key x≤key y
theorem srt_seg {u:Array Keyed}:Srt key u.toList↔Seg key u 0 u.size:=by
  constructor
  · intro h i j _ hij hj
    by_cases e:i=j
    · subst e; exact Int.le_refl _
    have e1:u[i]? = some (u.toList[i]'(by simp; omega)):=by simp
    have e2:u[j]? = some (u.toList[j]'(by simp; omega)):=by simp
    rw [kat_some e1,kat_some e2]
    exact List.pairwise_iff_getElem.mp h i j (by simp; omega) (by simp; omega) (by omega)
  · intro h
    refine List.pairwise_iff_getElem.mpr fun i j hi hj hij => ?_
    have hi':i < u.size:=by simpa using hi
    have hj':j < u.size:=by simpa using hj
    have e1:u[i]? = some (u.toList[i]):=by simp
    have e2:u[j]? = some (u.toList[j]):=by simp
    have:=h i j (Nat.zero_le _) (by omega) hj'
    rw [kat_some e1,kat_some e2] at this
    exact this

theorem srt_mid {o m r:List Keyed} (h1:Srt key (o++m)) (h2:Srt key (o++r)) (h3:∀ x∈m,∀ y∈r,key x≤key y):Srt key (o++m++r):=by
  unfold Srt at h1 h2 ⊢
  rw [List.pairwise_append] at h1 h2 ⊢
  refine ⟨List.pairwise_append.mpr h1,h2.2.1,fun x hx y hy => ?_⟩
  rcases List.mem_append.mp hx with hx | hx
  · exact h2.2.2 x hx y hy
  · exact h3 x hx y hy
def Res (key:Keyed→Int) (u v z:Array Keyed):Prop:=z.toList.Perm (u.toList++v.toList)∧Srt key z.toList
structure MI (key:Keyed→Int) (u v o:Array Keyed) (i j:Nat):Prop where
  perm:(o.toList++(u.toList.drop i++v.toList.drop j)).Perm (u.toList++v.toList)
  sa:Srt key (o.toList++u.toList.drop i)
  sb:Srt key (o.toList++v.toList.drop j)
  hi:i≤u.size
  hj:j≤v.size
theorem MI.len {u v o:Array Keyed} {i j:Nat} (h:MI key u v o i j):o.size=i + j:=by
  have:=h.perm.length_eq
  have h1:=h.hi
  have h2:=h.hj
  simp only [List.length_append,List.length_drop,Array.length_toList] at this
  omega
theorem MI.takeA {u v o o':Array Keyed} {i j k:Nat} (h:MI key u v o i j) (ho:o'.toList=o.toList++(u.toList.drop i).take k) (hk:i + k≤u.size) (hl:∀ x∈(u.toList.drop i).take k,∀ y∈v.toList.drop j,key x≤key y):MI key u v o' (i + k) j:=by
  have e:(u.toList.drop i).take k++u.toList.drop (i + k)=u.toList.drop i:=by rw [← List.drop_drop]; exact List.take_append_drop _ _
  refine ⟨?_,?_,?_,hk,h.hj⟩
  · rw [ho]
    have:o.toList++(u.toList.drop i).take k++(u.toList.drop (i + k)++v.toList.drop j)=o.toList++(u.toList.drop i++v.toList.drop j):=by
      rw [List.append_assoc,← List.append_assoc ((u.toList.drop i).take k),e]
    rw [this]; exact h.perm
  · rw [ho,List.append_assoc,e]; exact h.sa
  · rw [ho]
    have h1:Srt key (o.toList++(u.toList.drop i).take k):=by
      have:=h.sa
      rw [← e,← List.append_assoc] at this
      exact (List.pairwise_append.mp this).1
    exact srt_mid h1 h.sb hl
theorem perm_move (o T U D W:List Keyed) (e:T++D=W):(o++T++(U++D)).Perm (o++(U++W)):=by
  rw [← e,List.append_assoc]
  refine List.Perm.append_left _ ?_
  rw [← List.append_assoc,← List.append_assoc]
  exact List.Perm.append_right _ List.perm_append_comm
theorem MI.takeB {u v o o':Array Keyed} {i j k:Nat} (h:MI key u v o i j) (ho:o'.toList=o.toList++(v.toList.drop j).take k) (hk:j + k≤v.size) (hl:∀ x∈(v.toList.drop j).take k,∀ y∈u.toList.drop i,key x≤key y):MI key u v o' i (j + k):=by
  have e:(v.toList.drop j).take k++v.toList.drop (j + k)=v.toList.drop j:=by rw [← List.drop_drop]; exact List.take_append_drop _ _
  refine ⟨?_,?_,?_,h.hi,hk⟩
  · rw [ho]
    exact (perm_move _ _ _ _ _ e).trans h.perm
  · rw [ho]
    have h1:Srt key (o.toList++(v.toList.drop j).take k):=by
      have:=h.sb
      rw [← e,← List.append_assoc] at this
      exact (List.pairwise_append.mp this).1
    exact srt_mid h1 h.sa hl
  · rw [ho,List.append_assoc,e]; exact h.sb
theorem ext_end (u:Array Keyed) (i:Nat):(u.extract i u.size).toList=u.toList.drop i:=by
  rw [Array.toList_extract,List.extract_eq_take_drop,List.take_of_length_le (by simp)]
theorem ext_mid (u:Array Keyed) (i k:Nat):(u.extract i (i + k)).toList=(u.toList.drop i).take k:=by
  rw [Array.toList_extract,List.extract_eq_take_drop]
  congr 1
  omega
theorem fin1_ok {u v o:Array Keyed} {i j:Nat} (h:MI key u v o i j) (he:i=u.size∨j=v.size):Res key u v (fin1 u v o i j):=by
  have e:(fin1 u v o i j).toList=o.toList++u.toList.drop i++v.toList.drop j:=by
    unfold fin1; rw [Array.toList_append,Array.toList_append,ext_end,ext_end]
  refine ⟨by rw [e,List.append_assoc]; exact h.perm,?_⟩
  rw [e]
  rcases he with he | he
  · rw [he,List.drop_of_length_le (by simp),List.append_nil]; exact h.sb
  · rw [he,List.drop_of_length_le (l:=v.toList) (by simp),List.append_nil]; exact h.sa
theorem fin2_ok {u v o:Array Keyed} {i j:Nat} (h:MI key u v o i j) (hl:∀ x∈v.toList.drop j,∀ y∈u.toList.drop i,key x≤key y):Res key u v (fin2 u v o i j):=by
  have e:(fin2 u v o i j).toList=o.toList++v.toList.drop j++u.toList.drop i:=by
    unfold fin2; rw [Array.toList_append,Array.toList_append,ext_end,ext_end]
  refine ⟨?_,?_⟩
  · rw [e,List.append_assoc]
    exact (List.Perm.append_left _ List.perm_append_comm).trans h.perm
  · rw [e]; exact srt_mid h.sb h.sa hl
end
end Tim

namespace Tim
open PySem PyProof.Rows
section
variable {prog:Program} {w:World} {A:Around} {E:Value→Shared→Prop} {s:Shared} {a₀:Array Keyed} {κ:SortKind} {key:Keyed→Int}
structure Pre (a₀:Array Keyed) (key:Keyed→Int) (u v:Array Keyed):Prop where
  mu:∀ y∈u.toList,y∈a₀.toList
  mv:∀ y∈v.toList,y∈a₀.toList
  su:Seg key u 0 u.size
  sv:Seg key v 0 v.size
  hu:1≤u.size
  hv:1≤v.size
  first:kat key v 0 < kat key u 0
  last:kat key v (v.size - 1) < kat key u (u.size - 1)
theorem of_drop {u:Array Keyed} {i:Nat} {y:Keyed} (h:y∈u.toList.drop i):∃ t,i≤t∧t < u.size∧u[t]? = some y:=by
  obtain ⟨t,ht,e⟩:=List.getElem_of_mem h
  rw [List.length_drop,Array.length_toList] at ht
  rw [List.getElem_drop] at e
  refine ⟨i + t,by omega,by omega,?_⟩
  rw [← e,Array.getElem_toList]
  exact Array.getElem?_eq_getElem _
theorem of_take {u:Array Keyed} {i k:Nat} {y:Keyed} (h:y∈(u.toList.drop i).take k):∃ t,i≤t∧t < i + k∧t < u.size∧u[t]? = some y:=by
  obtain ⟨t,ht,e⟩:=List.getElem_of_mem h
  rw [List.length_take,List.length_drop,Array.length_toList] at ht
  rw [List.getElem_take,List.getElem_drop] at e
  refine ⟨i + t,by omega,by omega,by omega,?_⟩
  rw [← e,Array.getElem_toList]
  exact Array.getElem?_eq_getElem _
theorem Pre.lastA {u v:Array Keyed} {i j:Nat} (P:Pre a₀ key u v) (hi:i + 1=u.size):∀ x∈v.toList.drop j,∀ y∈u.toList.drop i,key x≤key y:=fun x hx y hy=>by
  obtain ⟨t,h1,h2,h3⟩:=of_drop hx
  obtain ⟨r,g1,g2,g3⟩:=of_drop hy
  have e:r=u.size - 1:=by omega
  rw [e] at g3
  rw [← kat_some (key:=key) h3,← kat_some (key:=key) g3]
  have:=P.sv t (v.size - 1) (Nat.zero_le _) (by omega) (by omega)
  have:=P.last
  omega
theorem push_list (o:Array Keyed) (u:Array Keyed) {i:Nat} {x:Keyed} (h:u[i]? = some x):(o.push x).toList=o.toList++(u.toList.drop i).take 1:=by
  obtain ⟨hi,e⟩:=Array.getElem?_eq_some_iff.mp h
  have:u.toList.drop i=x::u.toList.drop (i + 1):=by
    rw [List.drop_eq_getElem_cons (by simpa using hi),Array.getElem_toList,e]
  rw [this]; simp
theorem one_ok (L:LtOk prog w A E s a₀ κ key) {u v o:Array Keyed} {i j g ca cb:Nat} {st:SortSt} {Q:ForInStep St6→SortSt→Prop} (hk:kindOf st=κ) (P:Pre a₀ key u v) (M:MI key u v o i j) (hi:i + 1 < u.size) (hj:j < v.size)
    (hd:∀ z r,Res key u v z→Q (.done (some z,r)) st) (hn:∀ o' i' j' ca' cb',MI key u v o' i' j'→i' + 1 < u.size→j' < v.size→o.size < o'.size→Q (.done (none,o',i',j',ca',cb')) st∧Q (.yield (none,o',i',j',ca',cb')) st) :
    wpS (model prog w) A E s (oneStep u v g (none,o,i,j,ca,cb)) Q st:=by
  unfold oneStep
  have e1:v[j]? = some v[j]:=Array.getElem?_eq_getElem hj
  have e2:u[i]? = some u[i]:=Array.getElem?_eq_getElem (by omega)
  dsimp only
  refine wpS_bind (el_ok e1 (wpS_bind (el_ok e2 (wpS_bind (lt_ok L hk (P.mv _ (at_mem e1)) (P.mu _ (at_mem e2)) ?_)))))
  dsimp only
  have ml:=M.len
  by_cases c:key v[j] < key u[i]
  · rw [if_pos (decide_eq_true c)]
    refine wpS_bind (el_ok e1 ?_)
    have M':MI key u v (o.push v[j]) i (j + 1):=M.takeB (push_list o v e1) (by omega) fun x hx y hy=>by
      obtain ⟨t,t1,t2,t3,t4⟩:=of_take hx
      obtain ⟨r,r1,r2,r3⟩:=of_drop hy
      have et:t=j:=by omega
      rw [et,e1] at t4
      have ex:=Option.some.inj t4
      have:=P.su i r (Nat.zero_le _) r1 r2
      rw [kat_some e2,kat_some r3] at this
      rw [← ex]; omega
    have ml':=M'.len
    by_cases e:j + 1=v.size
    · rw [if_pos (by simpa using e)]
      exact wpS_pure (hd _ _ (fin1_ok M' (.inr e)))
    · rw [if_neg (by simpa using e)]
      obtain ⟨q1,q2⟩:=hn _ i (j + 1) 0 (cb + 1) M' hi (by omega) (by omega)
      split
      · exact wpS_pure q1
      · exact wpS_pure q2
  · rw [if_neg (by simpa using c)]
    refine wpS_bind (el_ok e2 ?_)
    have M':MI key u v (o.push u[i]) (i + 1) j:=M.takeA (push_list o u e2) (by omega) fun x hx y hy=>by
      obtain ⟨t,t1,t2,t3,t4⟩:=of_take hx
      obtain ⟨r,r1,r2,r3⟩:=of_drop hy
      have et:t=i:=by omega
      rw [et,e2] at t4
      have ex:=Option.some.inj t4
      have:=P.sv j r (Nat.zero_le _) r1 r2
      rw [kat_some e1,kat_some r3] at this
      rw [← ex]; omega
    have ml':=M'.len
    by_cases e:i + 1 + 1=u.size
    · rw [if_pos (by simpa using e)]
      exact wpS_pure (hd _ _ (fin2_ok M' (P.lastA e)))
    · rw [if_neg (by simpa using e)]
      obtain ⟨q1,q2⟩:=hn _ (i + 1) j (ca + 1) 0 M' (by omega) hj (by omega)
      split
      · exact wpS_pure q1
      · exact wpS_pure q2
theorem galEnd_ok {u v o:Array Keyed} {i j g ca cb n:Nat} {st:SortSt} {Q:ForInStep St7→SortSt→Prop} (P:Pre a₀ key u v) (M:MI key u v o i j) (hi:i + 1 < u.size) (hj:j < v.size) (hx:∀ y∈v.toList.drop j,kat key u i≤key y) (hs:n≤o.size)
    (hd:∀ z r,Res key u v z→Q (.done (some z,r)) st) (hn:∀ o' i' j' g' ca' cb',MI key u v o' i' j'→i' + 1 < u.size→j' < v.size→n < o'.size→Q (.done (none,o',i',j',g',ca',cb')) st∧Q (.yield (none,o',i',j',g',ca',cb')) st) :
    wpS (model prog w) A E s (galEnd u v o i j g ca cb) Q st:=by
  unfold galEnd
  have e2:u[i]? = some u[i]:=Array.getElem?_eq_getElem (by omega)
  refine wpS_bind (el_ok e2 ?_)
  have ml:=M.len
  have M':MI key u v (o.push u[i]) (i + 1) j:=M.takeA (push_list o u e2) (by omega) fun x hx' y hy=>by
    obtain ⟨t,t1,t2,t3,t4⟩:=of_take hx'
    have et:t=i:=by omega
    rw [et,e2] at t4
    have ex:=Option.some.inj t4
    have:=hx y hy
    rw [kat_some e2] at this
    rw [← ex]; exact this
  have ml':=M'.len
  by_cases e:i + 1 + 1=u.size
  · rw [if_pos (by simpa using e)]
    exact wpS_pure (hd _ _ (fin2_ok M' (P.lastA e)))
  · rw [if_neg (by simpa using e)]
    obtain ⟨q1,q2⟩:=hn _ (i + 1) j g ca cb M' (by omega) hj (by omega)
    split
    · exact wpS_pure q1
    · exact wpS_pure q2
theorem app_list (o u:Array Keyed) (i k:Nat):(o++u.extract i (i + k)).toList=o.toList++(u.toList.drop i).take k:=by rw [Array.toList_append,ext_mid]
theorem seg_sub {u:Array Keyed} {a b c d:Nat} (h:Seg key u a b) (h1:a≤c) (h2:d≤b):Seg key u c d:=fun i j x y z=>h i j (by omega) y (by omega)
theorem galMid_ok (L:LtOk prog w A E s a₀ κ key) {u v o:Array Keyed} {i j g ca cb n:Nat} {st:SortSt} {Q:ForInStep St7→SortSt→Prop} (hk:kindOf st=κ) (P:Pre a₀ key u v) (M:MI key u v o i j) (hi:i + 1 < u.size) (hj:j < v.size) (hx:∀ y∈u.toList.drop i,kat key v j≤key y) (hs:n≤o.size)
    (hd:∀ z r,Res key u v z→Q (.done (some z,r)) st) (hn:∀ o' i' j' g' ca' cb',MI key u v o' i' j'→i' + 1 < u.size→j' < v.size→n < o'.size→Q (.done (none,o',i',j',g',ca',cb')) st∧Q (.yield (none,o',i',j',g',ca',cb')) st) :
    wpS (model prog w) A E s (galMid u v o i j g ca cb) Q st:=by
  unfold galMid
  have e1:v[j]? = some v[j]:=Array.getElem?_eq_getElem hj
  have e2:u[i]? = some u[i]:=Array.getElem?_eq_getElem (by omega)
  refine wpS_bind (el_ok e1 ?_)
  have ml:=M.len
  have M':MI key u v (o.push v[j]) i (j + 1):=M.takeB (push_list o v e1) (by omega) fun x hx' y hy=>by
    obtain ⟨t,t1,t2,t3,t4⟩:=of_take hx'
    have et:t=j:=by omega
    rw [et,e1] at t4
    have ex:=Option.some.inj t4
    have:=hx y hy
    rw [kat_some e1] at this
    rw [← ex]; exact this
  have ml':=M'.len
  by_cases e:j + 1=v.size
  · rw [if_pos (by simpa using e)]
    exact wpS_pure (hd _ _ (fin1_ok M' (.inr e)))
  · rw [if_neg (by simpa using e)]
    refine wpS_bind (el_ok e2 (wpS_bind (gallop_ok L hk (P.mu _ (at_mem e2)) P.mv (by omega) (by omega) (seg_sub P.sv (by omega) (by omega)) fun k k1 k2 k3 => ?_)))
    dsimp only
    have lo:∀ t,j + 1≤t→t < j + 1 + k→kat key v t < key u[i]:=fun t t1 t2=>by
      have:=k2 (t - (j + 1)) (by omega)
      unfold isPast at this
      rw [if_pos rfl,show j + 1 + (t - (j + 1))=t by omega] at this
      exact of_decide_eq_true this
    have hi':∀ t,j + 1 + k≤t→t < v.size→key u[i]≤kat key v t:=fun t t1 t2=>by
      have:=k3 (t - (j + 1)) (by omega) (by omega)
      unfold isPast at this
      rw [if_pos rfl,show j + 1 + (t - (j + 1))=t by omega] at this
      have:=of_decide_eq_false this
      omega
    have endx:∀ y∈v.toList.drop (j + 1 + k),kat key u i≤key y:=fun y hy=>by
      obtain ⟨r,r1,r2,r3⟩:=of_drop hy
      have:=hi' r r1 r2
      rw [kat_some r3] at this
      rw [kat_some e2]; exact this
    by_cases hk0:k > 0
    · rw [if_pos hk0]
      have M2:MI key u v (o.push v[j]++v.extract (j + 1) (j + 1 + k)) i (j + 1 + k):=M'.takeB (app_list _ v (j + 1) k) (by omega) fun x hx' y hy=>by
        obtain ⟨t,t1,t2,t3,t4⟩:=of_take hx'
        obtain ⟨r,r1,r2,r3⟩:=of_drop hy
        have a1:=lo t t1 t2
        have a2:=P.su i r (Nat.zero_le _) r1 r2
        rw [kat_some t4] at a1
        rw [kat_some e2,kat_some r3] at a2
        omega
      have ml2:=M2.len
      by_cases e3:j + 1 + k=v.size
      · rw [if_pos (by simpa using e3)]
        exact wpS_pure (hd _ _ (fin1_ok M2 (.inr e3)))
      · rw [if_neg (by simpa using e3)]
        exact galEnd_ok P M2 hi (by omega) endx (by omega) hd hn
    · rw [if_neg hk0]
      have k0:k=0:=by omega
      subst k0
      exact galEnd_ok P M' hi (by omega) endx (by omega) hd hn
theorem galTop_ok (L:LtOk prog w A E s a₀ κ key) {u v o:Array Keyed} {i j g ca cb:Nat} {st:SortSt} {Q:ForInStep St7→SortSt→Prop} (hk:kindOf st=κ) (P:Pre a₀ key u v) (M:MI key u v o i j) (hi:i + 1 < u.size) (hj:j < v.size)
    (hd:∀ z r,Res key u v z→Q (.done (some z,r)) (setGal st g)) (hn:∀ o' i' j' g' ca' cb',MI key u v o' i' j'→i' + 1 < u.size→j' < v.size→o.size < o'.size→Q (.done (none,o',i',j',g',ca',cb')) (setGal st g)∧Q (.yield (none,o',i',j',g',ca',cb')) (setGal st g)) :
    wpS (model prog w) A E s (galTop u v o i j g ca cb) Q st:=by
  unfold galTop
  have e1:v[j]? = some v[j]:=Array.getElem?_eq_getElem hj
  refine wpS_bind (wpS_modify (wpS_bind (el_ok e1 (wpS_bind (gallop_ok L hk (P.mv _ (at_mem e1)) P.mu (by omega) (by omega) (seg_sub P.su (by omega) (by omega)) fun k k1 k2 k3 => ?_)))))
  dsimp only
  have ml:=M.len
  have lo:∀ t,i≤t→t < i + k→kat key u t≤key v[j]:=fun t t1 t2=>by
    have:=k2 (t - i) (by omega)
    unfold isPast at this
    rw [if_neg (by decide),show i + (t - i)=t by omega] at this
    have:¬ key v[j] < kat key u t:=by simpa using this
    omega
  have hi':∀ t,i + k≤t→t < u.size→key v[j] < kat key u t:=fun t t1 t2=>by
    have:=k3 (t - i) (by omega) (by omega)
    unfold isPast at this
    rw [if_neg (by decide),show i + (t - i)=t by omega] at this
    have:key v[j] < kat key u t:=by simpa using this
    exact this
  have midx:∀ y∈u.toList.drop (i + k),kat key v j≤key y:=fun y hy=>by
    obtain ⟨r,r1,r2,r3⟩:=of_drop hy
    have:=hi' r r1 r2
    rw [kat_some r3] at this
    rw [kat_some e1]; omega
  by_cases hk0:k > 0
  · rw [if_pos hk0]
    have M2:MI key u v (o++u.extract i (i + k)) (i + k) j:=M.takeA (app_list _ u i k) (by omega) fun x hx' y hy=>by
      obtain ⟨t,t1,t2,t3,t4⟩:=of_take hx'
      obtain ⟨r,r1,r2,r3⟩:=of_drop hy
      have a1:=lo t t1 t2
      have a2:=P.sv j r (Nat.zero_le _) r1 r2
      rw [kat_some t4] at a1
      rw [kat_some e1,kat_some r3] at a2
      omega
    have ml2:=M2.len
    by_cases e3:i + k + 1=u.size
    · rw [if_pos (by simpa using e3)]
      exact wpS_pure (hd _ _ (fin2_ok M2 (P.lastA e3)))
    · rw [if_neg (by simpa using e3)]
      by_cases e4:i + k=u.size
      · rw [if_pos (by simpa using e4)]
        exact wpS_pure (hd _ _ (fin1_ok M2 (.inl e4)))
      · rw [if_neg (by simpa using e4)]
        exact galMid_ok L (st:=setGal st g) hk P M2 (by omega) hj midx (by omega) hd hn
  · rw [if_neg hk0]
    have k0:k=0:=by omega
    subst k0
    exact galMid_ok L (st:=setGal st g) hk P M hi hj midx (by omega) hd hn
theorem round_ok (L:LtOk prog w A E s a₀ κ key) {u v o:Array Keyed} {i j g:Nat} {st:SortSt} {Q:ForInStep St5→SortSt→Prop} (hk:kindOf st=κ) (P:Pre a₀ key u v) (M:MI key u v o i j) (hi:i + 1 < u.size) (hj:j < v.size)
    (hd:∀ z r g',Res key u v z→Q (.done (some z,r)) (setGal st g')) (hn:∀ o' i' j' g' g'',MI key u v o' i' j'→i' + 1 < u.size→j' < v.size→o.size < o'.size→Q (.yield (none,o',i',j',g')) (setGal st g'')) :
    wpS (model prog w) A E s (roundStep u v (none,o,i,j,g)) Q st:=by
  unfold roundStep
  have ml:=M.len
  refine wpS_bind (wpS_mono (wpS_forRange (I:=fun t c st'=>st'=st∧∃ o' i' j' ca cb,c=(none,o',i',j',ca,cb)∧MI key u v o' i' j'∧i' + 1 < u.size∧j' < v.size∧o.size + t≤o'.size)
    (Q:=fun c st'=>st'=st∧((∃ z r,c=(some z,r)∧Res key u v z)∨∃ o' i' j' ca cb,c=(none,o',i',j',ca,cb)∧MI key u v o' i' j'∧i' + 1 < u.size∧j' < v.size∧o.size < o'.size)) ?step ?fin ⟨rfl,o,i,j,0,0,rfl,M,hi,hj,by omega⟩) ?post)
  case fin =>
    rintro c st' ⟨rfl,o',i',j',ca,cb,rfl,M',h1,h2,h3⟩
    have:=M'.len
    omega
  case step =>
    rintro t c st' _ ht ⟨rfl,o',i',j',ca,cb,rfl,M',h1,h2,h3⟩
    exact one_ok L hk P M' h1 h2 (fun z r hz=>⟨rfl,.inl ⟨z,r,rfl,hz⟩⟩) fun o2 i2 j2 ca2 cb2 M2 g1 g2 g3=>⟨⟨rfl,.inr ⟨o2,i2,j2,ca2,cb2,rfl,M2,g1,g2,by omega⟩⟩,rfl,o2,i2,j2,ca2,cb2,rfl,M2,g1,g2,by omega⟩
  case post =>
    rintro c st' ⟨rfl,h⟩
    rcases h with ⟨z,r,rfl,hz⟩ | ⟨o',i',j',ca,cb,rfl,M',h1,h2,h3⟩
    · exact wpS_pure (hd z _ (gallopOf st') hz)
    · dsimp only
      refine wpS_bind (wpS_lift (wpAny_rule ⟨rfl,?_⟩))
      refine wpS_bind (wpS_mono (wpS_forRange (I:=fun t c st''=>∃ g',st''=setGal st' g'∧∃ o2 i2 j2 g2 ca cb,c=(none,o2,i2,j2,g2,ca,cb)∧MI key u v o2 i2 j2∧i2 + 1 < u.size∧j2 < v.size∧o'.size + t≤o2.size)
        (Q:=fun c st''=>∃ g',st''=setGal st' g'∧((∃ z r,c=(some z,r)∧Res key u v z)∨∃ o2 i2 j2 g2 ca cb,c=(none,o2,i2,j2,g2,ca,cb)∧MI key u v o2 i2 j2∧i2 + 1 < u.size∧j2 < v.size∧o.size < o2.size)) ?gstep ?gfin ⟨gallopOf st',rfl,o',i',j',g + 1,ca,cb,rfl,M',h1,h2,by omega⟩) ?gpost)
      case gfin =>
        rintro c st'' ⟨g',rfl,o2,i2,j2,g2,ca,cb,rfl,M2,q1,q2,q3⟩
        have:=M2.len
        have:=M'.len
        omega
      case gstep =>
        rintro t c st'' _ ht ⟨g',rfl,o2,i2,j2,g2,ca,cb,rfl,M2,q1,q2,q3⟩
        show wpS _ _ _ _ (galStep u v (none,o2,i2,j2,g2,ca,cb)) _ _
        unfold galStep
        dsimp only
        split
        · exact galTop_ok L (st:=setGal st' g') hk P M2 q1 q2 (fun z r hz=>⟨_,rfl,.inl ⟨z,r,rfl,hz⟩⟩) fun o3 i3 j3 g3 ca3 cb3 M3 k1 k2 k3=>⟨⟨_,rfl,.inr ⟨o3,i3,j3,g3,ca3,cb3,rfl,M3,k1,k2,by omega⟩⟩,_,rfl,o3,i3,j3,g3,ca3,cb3,rfl,M3,k1,k2,by omega⟩
        · exact galTop_ok L (st:=setGal st' g') hk P M2 q1 q2 (fun z r hz=>⟨_,rfl,.inl ⟨z,r,rfl,hz⟩⟩) fun o3 i3 j3 g3 ca3 cb3 M3 k1 k2 k3=>⟨⟨_,rfl,.inr ⟨o3,i3,j3,g3,ca3,cb3,rfl,M3,k1,k2,by omega⟩⟩,_,rfl,o3,i3,j3,g3,ca3,cb3,rfl,M3,k1,k2,by omega⟩
      case gpost =>
        rintro c st'' ⟨g',rfl,h⟩
        rcases h with ⟨z,r,rfl,hz⟩ | ⟨o2,i2,j2,g2,ca,cb,rfl,M2,q1,q2,q3⟩
        · exact wpS_pure (hd z _ g' hz)
        · dsimp only
          exact wpS_bind (wpS_modify (wpS_pure (hn o2 i2 j2 _ _ M2 q1 q2 q3)))
theorem lo_ok (L:LtOk prog w A E s a₀ κ key) {u v:Array Keyed} {st:SortSt} {Q:Array Keyed→SortSt→Prop} (hk:kindOf st=κ) (P:Pre a₀ key u v) (hd:∀ z g',Res key u v z→Q z (setGal st g')):wpS (model prog w) A E s (loP u v) Q st:=by
  rw [loP_eq]
  refine wpS_bind (wpS_lift (wpAny_rule ⟨rfl,?_⟩))
  have hu:=P.hu
  have hv:=P.hv
  have e1:v[0]? = some v[0]:=Array.getElem?_eq_getElem (by omega)
  refine wpS_bind (el_ok e1 ?_)
  have M0:MI key u v #[] 0 0:=⟨by simp,by simpa using srt_seg.mpr P.su,by simpa using srt_seg.mpr P.sv,Nat.zero_le _,Nat.zero_le _⟩
  have M:MI key u v #[v[0]] 0 (0 + 1):=M0.takeB (by have:=push_list #[] v e1; simpa using this) (by omega) fun x hx y hy=>by
    obtain ⟨t,t1,t2,t3,t4⟩:=of_take hx
    obtain ⟨r,r1,r2,r3⟩:=of_drop hy
    have et:t=0:=by omega
    rw [et] at t4
    have a1:=P.su 0 r (Nat.zero_le _) r1 r2
    have a2:=P.first
    rw [kat_some t4] at a2
    rw [kat_some r3] at a1
    omega
  rw [Nat.zero_add] at M
  by_cases c1:1=v.size
  · rw [if_pos (by simpa using c1)]
    exact wpS_pure (hd _ (gallopOf st) (fin1_ok M (.inr c1)))
  · rw [if_neg (by simpa using c1)]
    by_cases c2:0 + 1=u.size
    · rw [if_pos (by simpa using c2)]
      exact wpS_pure (hd _ (gallopOf st) (fin2_ok M (P.lastA c2)))
    · rw [if_neg (by simpa using c2)]
      refine wpS_bind (wpS_get ?_)
      refine wpS_bind (wpS_mono (wpS_forRange (I:=fun t c st'=>∃ g',st'=setGal st g'∧∃ o i j g,c=(none,o,i,j,g)∧MI key u v o i j∧i + 1 < u.size∧j < v.size∧t < o.size)
        (Q:=fun c st'=>∃ g',st'=setGal st g'∧∃ z r,c=(some z,r)∧Res key u v z) ?step ?fin ⟨gallopOf st,rfl,#[v[0]],0,1,_,rfl,M,by omega,by omega,by simp⟩) ?post)
      case fin =>
        rintro c st' ⟨g',rfl,o,i,j,g,rfl,M',h1,h2,h3⟩
        have:=M'.len
        omega
      case step =>
        rintro t c st' _ ht ⟨g',rfl,o,i,j,g,rfl,M',h1,h2,h3⟩
        exact round_ok L (st:=setGal st g') hk P M' h1 h2 (fun z r g2 hz=>⟨g2,rfl,z,r,rfl,hz⟩) fun o2 i2 j2 g2 g3 M2 q1 q2 q3=>⟨g3,rfl,o2,i2,j2,g2,rfl,M2,q1,q2,by omega⟩
      case post =>
        rintro c st' ⟨g',rfl,z,r,rfl,hz⟩
        exact wpS_pure (hd z g' hz)
end
end Tim

namespace Tim
open PySem PyProof.Rows
section
variable {prog:Program} {w:World} {A:Around} {E:Value→Shared→Prop} {s:Shared} {a₀:Array Keyed} {κ:SortKind} {key:Keyed→Int}

def hiP:Array Keyed→Array Keyed→StateT SortSt Sem (Array Keyed):=sortPriv% PySem.Builtin.mergeHi
abbrev Sh7:=Option (Array Keyed) × Nat × Nat × Array Keyed × Nat × Nat × Nat
abbrev Sh6:=Option (Array Keyed) × Nat × Nat × Array Keyed × Nat × Nat
abbrev Sh5:=Option (Array Keyed) × Nat × Nat × Array Keyed × Nat
def fih1 (u v o:Array Keyed) (i j:Nat):Array Keyed:=u.extract 0 i++v.extract 0 j++o.reverse
def fih2 (u v o:Array Keyed) (i j:Nat):Array Keyed:=v.extract 0 j++u.extract 0 i++o.reverse
def oneHi (u v:Array Keyed) (g:Nat) (r:Sh6):StateT SortSt Sem (ForInStep Sh6):=do
  let y ← elem' v (r.2.2.1 - 1)
  let x ← elem' u (r.2.1 - 1)
  let z ← lt' y x
  match z with
  | some won =>
    if won=true then do
      let x ← elem' u (r.2.1 - 1)
      if (r.2.1 - 1 == 0)=true then pure (.done (some (fih1 u v (r.2.2.2.1.push x) (r.2.1 - 1) r.2.2.1),r.2.1 - 1,r.2.2.1,r.2.2.2.1.push x,r.2.2.2.2.1 + 1,0))
      else if r.2.2.2.2.1 + 1 ≥ g then pure (.done (none,r.2.1 - 1,r.2.2.1,r.2.2.2.1.push x,r.2.2.2.2.1 + 1,0))
      else pure (.yield (none,r.2.1 - 1,r.2.2.1,r.2.2.2.1.push x,r.2.2.2.2.1 + 1,0))
    else do
      let y ← elem' v (r.2.2.1 - 1)
      if (r.2.2.1 - 1 == 1)=true then pure (.done (some (fih2 u v (r.2.2.2.1.push y) r.2.1 (r.2.2.1 - 1)),r.2.1,r.2.2.1 - 1,r.2.2.2.1.push y,0,r.2.2.2.2.2 + 1))
      else if r.2.2.2.2.2 + 1 ≥ g then pure (.done (none,r.2.1,r.2.2.1 - 1,r.2.2.2.1.push y,0,r.2.2.2.2.2 + 1))
      else pure (.yield (none,r.2.1,r.2.2.1 - 1,r.2.2.2.1.push y,0,r.2.2.2.2.2 + 1))
  | _=>pure (.done (some (fih1 u v r.2.2.2.1 r.2.1 r.2.2.1),r.2.1,r.2.2.1,r.2.2.2.1,r.2.2.2.2.1,r.2.2.2.2.2))
def ghEnd (u v o:Array Keyed) (i j g ca cb:Nat):StateT SortSt Sem (ForInStep Sh7):=do
  let x ← elem' u (i - 1)
  if (i - 1 == 0)=true then pure (.done (some (fih1 u v (o.push x) (i - 1) j),i - 1,j,o.push x,g,ca,cb))
  else if (decide (ca < 7) && decide (cb < 7))=true then pure (.done (none,i - 1,j,o.push x,g,ca,cb))
  else pure (.yield (none,i - 1,j,o.push x,g,ca,cb))
def ghMid (u v o:Array Keyed) (i j g ca cb:Nat):StateT SortSt Sem (ForInStep Sh7):=do
  let y ← elem' v (j - 1)
  if (j - 1 == 1)=true then pure (.done (some (fih2 u v (o.push y) i (j - 1)),i,j - 1,o.push y,g,ca,cb)) else do
    let x ← elem' u (i - 1)
    let z ← gallopP true x v 0 (j - 1) (j - 1 - 1)
    match z with
    | some k =>
      if j - 1 - k > 0 then
        if (k == 1)=true then pure (.done (some (fih2 u v (o.push y++(v.extract k (j - 1)).reverse) i k),i,k,o.push y++(v.extract k (j - 1)).reverse,g,ca,j - 1 - k))
        else if (k == 0)=true then pure (.done (some (fih1 u v (o.push y++(v.extract k (j - 1)).reverse) i k),i,k,o.push y++(v.extract k (j - 1)).reverse,g,ca,j - 1 - k))
        else ghEnd u v (o.push y++(v.extract k (j - 1)).reverse) i k g ca (j - 1 - k)
      else ghEnd u v (o.push y) i (j - 1) g ca (j - 1 - k)
    | _=>pure (.done (some (fih1 u v (o.push y) i (j - 1)),i,j - 1,o.push y,g,ca,cb))
def ghTop (u v o:Array Keyed) (i j g ca cb:Nat):StateT SortSt Sem (ForInStep Sh7):=do
  modify fun st=>setGal st g
  let y ← elem' v (j - 1)
  let z ← gallopP false y u 0 i (i - 1)
  match z with
  | some k =>
    if i - k > 0 then
      if (k == 0)=true then pure (.done (some (fih1 u v (o++(u.extract k i).reverse) k j),k,j,o++(u.extract k i).reverse,g,i - k,cb))
      else ghMid u v (o++(u.extract k i).reverse) k j g (i - k) cb
    else ghMid u v o i j g (i - k) cb
  | _=>pure (.done (some (fih1 u v o i j),i,j,o,g,ca,cb))
def ghStep (u v:Array Keyed) (r:Sh7):StateT SortSt Sem (ForInStep Sh7) :=
  if r.2.2.2.2.1 > 1 then ghTop u v r.2.2.2.1 r.2.1 r.2.2.1 (r.2.2.2.2.1 - 1) r.2.2.2.2.2.1 r.2.2.2.2.2.2 else ghTop u v r.2.2.2.1 r.2.1 r.2.2.1 r.2.2.2.2.1 r.2.2.2.2.2.1 r.2.2.2.2.2.2
def roundHi (u v:Array Keyed) (r:Sh5):StateT SortSt Sem (ForInStep Sh5):=do
  let q ← forIn [0:u.size + v.size] ((none,r.2.1,r.2.2.1,r.2.2.2.1,0,0):Sh6) fun _ q=>oneHi u v r.2.2.2.2 q
  match q.1 with
  | some z=>pure (.done (some z,q.2.1,q.2.2.1,q.2.2.2.1,r.2.2.2.2))
  | none=>do
    liftM (rule "list.sort.gallop")
    let p ← forIn [0:u.size + v.size] ((none,q.2.1,q.2.2.1,q.2.2.2.1,r.2.2.2.2 + 1,q.2.2.2.2.1,q.2.2.2.2.2):Sh7) fun _ p=>ghStep u v p
    match p.1 with
    | some z=>pure (.done (some z,p.2.1,p.2.2.1,p.2.2.2.1,p.2.2.2.2.1))
    | none=>do
      modify fun st=>setGal st (p.2.2.2.2.1 + 1)
      pure (.yield (none,p.2.1,p.2.2.1,p.2.2.2.1,p.2.2.2.2.1 + 1))
theorem hiP_eq (u v:Array Keyed):hiP u v=(do
    liftM (rule "list.sort.merge-hi")
    let x ← elem' u (u.size - 1)
    if (u.size - 1 == 0)=true then pure (fih1 u v #[x] (u.size - 1) v.size) else
      if (v.size == 1)=true then pure (fih2 u v #[x] (u.size - 1) v.size) else do
        let st ← get
        let r ← forIn [0:u.size + v.size] ((none,u.size - 1,v.size,#[x],gallopOf st):Sh5) fun _ r=>roundHi u v r
        match r.1 with
        | some z=>pure z
        | none=>liftM (unsupported "internal:list.sort.merge-bound" : Sem (Array Keyed))):=by
  kernel_rfl
theorem srt_mid2 {o m r:List Keyed} (h1:Srt key (m++o)) (h2:Srt key (r++o)) (h3:∀ x∈r,∀ y∈m,key x≤key y):Srt key (r++(m++o)):=by
  unfold Srt at h1 h2 ⊢
  rw [List.pairwise_append] at h2
  refine List.pairwise_append.mpr ⟨h2.1,h1,fun x hx y hy => ?_⟩
  rcases List.mem_append.mp hy with hy | hy
  · exact h3 x hx y hy
  · exact h2.2.2 x hx y hy
structure HI (key:Keyed→Int) (u v o:Array Keyed) (i j:Nat):Prop where
  perm:(u.toList.take i++v.toList.take j++o.toList.reverse).Perm (u.toList++v.toList)
  sa:Srt key (u.toList.take i++o.toList.reverse)
  sb:Srt key (v.toList.take j++o.toList.reverse)
  hi:i≤u.size
  hj:j≤v.size
theorem HI.len {u v o:Array Keyed} {i j:Nat} (h:HI key u v o i j):o.size + i + j=u.size + v.size:=by
  have:=h.perm.length_eq
  have h1:=h.hi
  have h2:=h.hj
  simp only [List.length_append,List.length_take,List.length_reverse,Array.length_toList] at this
  omega
theorem take_split (l:List Keyed) {k i:Nat} (h:k≤i):l.take k++(l.take i).drop k=l.take i:=by
  have:=List.take_append_drop k (l.take i)
  rwa [List.take_take,Nat.min_eq_left h] at this
theorem perm_a (T D V R W:List Keyed) (e:T++D=W):(T++V++(D++R)).Perm (W++V++R):=by
  rw [← e,List.append_assoc,List.append_assoc,List.append_assoc]
  refine List.Perm.append_left _ ?_
  rw [← List.append_assoc,← List.append_assoc]
  exact List.Perm.append_right _ List.perm_append_comm
theorem perm_b (T D U R W:List Keyed) (e:T++D=W):(U++T++(D++R)).Perm (U++W++R):=by
  rw [← e]
  simp only [List.append_assoc]
  exact List.Perm.refl _
theorem HI.takeA {u v o o':Array Keyed} {i j k:Nat} (h:HI key u v o i j) (ho:o'.toList.reverse=(u.toList.take i).drop k++o.toList.reverse) (hk:k≤i) (hl:∀ x∈v.toList.take j,∀ y∈(u.toList.take i).drop k,key x≤key y):HI key u v o' k j:=by
  have e:=take_split u.toList hk
  have hi:=h.hi
  refine ⟨?_,?_,?_,by omega,h.hj⟩
  · rw [ho]
    exact (perm_a _ _ _ _ _ e).trans h.perm
  · rw [ho,← List.append_assoc,e]; exact h.sa
  · rw [ho]
    have h1:Srt key ((u.toList.take i).drop k++o.toList.reverse):=by
      have:=h.sa
      rw [← e,List.append_assoc] at this
      exact (List.pairwise_append.mp this).2.1
    exact srt_mid2 h1 h.sb hl
theorem HI.takeB {u v o o':Array Keyed} {i j k:Nat} (h:HI key u v o i j) (ho:o'.toList.reverse=(v.toList.take j).drop k++o.toList.reverse) (hk:k≤j) (hl:∀ x∈u.toList.take i,∀ y∈(v.toList.take j).drop k,key x≤key y):HI key u v o' i k:=by
  have e:=take_split v.toList hk
  have hj:=h.hj
  refine ⟨?_,?_,?_,h.hi,by omega⟩
  · rw [ho]
    exact (perm_b _ _ _ _ _ e).trans h.perm
  · rw [ho]
    have h1:Srt key ((v.toList.take j).drop k++o.toList.reverse):=by
      have:=h.sb
      rw [← e,List.append_assoc] at this
      exact (List.pairwise_append.mp this).2.1
    exact srt_mid2 h1 h.sa hl
  · rw [ho,← List.append_assoc,e]; exact h.sb
theorem ext_head (u:Array Keyed) (i:Nat):(u.extract 0 i).toList=u.toList.take i:=by
  rw [Array.toList_extract,List.extract_eq_take_drop]; simp
theorem ext_part (u:Array Keyed) (k i:Nat):(u.extract k i).toList=(u.toList.take i).drop k:=by
  rw [Array.toList_extract,List.extract_eq_take_drop,List.drop_take]
theorem fih1_ok {u v o:Array Keyed} {i j:Nat} (h:HI key u v o i j) (he:i=0∨j=0):Res key u v (fih1 u v o i j):=by
  have e:(fih1 u v o i j).toList=u.toList.take i++v.toList.take j++o.toList.reverse:=by
    unfold fih1; rw [Array.toList_append,Array.toList_append,ext_head,ext_head,Array.toList_reverse]
  refine ⟨by rw [e]; exact h.perm,?_⟩
  rw [e]
  rcases he with he | he
  · rw [he]; simpa using h.sb
  · have:=h.sa
    rw [he]; simpa using this
theorem fih2_ok {u v o:Array Keyed} {i j:Nat} (h:HI key u v o i j) (hl:∀ x∈v.toList.take j,∀ y∈u.toList.take i,key x≤key y):Res key u v (fih2 u v o i j):=by
  have e:(fih2 u v o i j).toList=v.toList.take j++u.toList.take i++o.toList.reverse:=by
    unfold fih2; rw [Array.toList_append,Array.toList_append,ext_head,ext_head,Array.toList_reverse]
  refine ⟨?_,?_⟩
  · rw [e]
    exact (List.Perm.append_right _ List.perm_append_comm).trans h.perm
  · rw [e,List.append_assoc]; exact srt_mid2 h.sa h.sb hl
theorem of_head {u:Array Keyed} {i:Nat} {y:Keyed} (h:y∈u.toList.take i):∃ t,t < i∧t < u.size∧u[t]? = some y:=by
  obtain ⟨t,ht,e⟩:=List.getElem_of_mem h
  rw [List.length_take,Array.length_toList] at ht
  rw [List.getElem_take] at e
  refine ⟨t,by omega,by omega,?_⟩
  rw [← e,Array.getElem_toList]
  exact Array.getElem?_eq_getElem _
theorem of_part {u:Array Keyed} {i k:Nat} {y:Keyed} (h:y∈(u.toList.take i).drop k):∃ t,k≤t∧t < i∧t < u.size∧u[t]? = some y:=by
  rw [List.drop_take] at h
  obtain ⟨t,t1,t2,t3,t4⟩:=of_take h
  exact ⟨t,t1,by omega,t3,t4⟩
theorem Pre.firstB {u v:Array Keyed} {i j:Nat} (P:Pre a₀ key u v) (hj:j=1):∀ x∈v.toList.take j,∀ y∈u.toList.take i,key x≤key y:=fun x hx y hy=>by
  obtain ⟨t,h1,h2,h3⟩:=of_head hx
  obtain ⟨r,g1,g2,g3⟩:=of_head hy
  have e:t=0:=by omega
  rw [e] at h3
  rw [← kat_some (key:=key) h3,← kat_some (key:=key) g3]
  have:=P.su 0 r (Nat.zero_le _) (Nat.zero_le _) g2
  have:=P.first
  omega
theorem push_rev (o u:Array Keyed) {i:Nat} {x:Keyed} (h1:1≤i) (h:u[i - 1]? = some x):(o.push x).toList.reverse=(u.toList.take i).drop (i - 1)++o.toList.reverse:=by
  obtain ⟨hi,e⟩:=Array.getElem?_eq_some_iff.mp h
  have:(u.toList.take i).drop (i - 1)=[x]:=by
    rw [List.drop_take,show i - (i - 1)=1 by omega,List.drop_eq_getElem_cons (by simpa using hi),Array.getElem_toList,e]; rfl
  rw [this]; simp
theorem app_rev (o u:Array Keyed) (k i:Nat):(o++(u.extract k i).reverse).toList.reverse=(u.toList.take i).drop k++o.toList.reverse:=by
  rw [Array.toList_append,Array.toList_reverse,List.reverse_append,List.reverse_reverse,ext_part]
theorem oneHi_ok (L:LtOk prog w A E s a₀ κ key) {u v o:Array Keyed} {i j g ca cb:Nat} {st:SortSt} {Q:ForInStep Sh6→SortSt→Prop} (hk:kindOf st=κ) (P:Pre a₀ key u v) (M:HI key u v o i j) (hi:1≤i) (hj:2≤j)
    (hd:∀ z r,Res key u v z→Q (.done (some z,r)) st) (hn:∀ o' i' j' ca' cb',HI key u v o' i' j'→1≤i'→2≤j'→o.size < o'.size→Q (.done (none,i',j',o',ca',cb')) st∧Q (.yield (none,i',j',o',ca',cb')) st) :
    wpS (model prog w) A E s (oneHi u v g (none,i,j,o,ca,cb)) Q st:=by
  unfold oneHi
  have b1:=M.hi
  have b2:=M.hj
  have e1:v[j - 1]? = some v[j - 1]:=Array.getElem?_eq_getElem (by omega)
  have e2:u[i - 1]? = some u[i - 1]:=Array.getElem?_eq_getElem (by omega)
  dsimp only
  refine wpS_bind (el_ok e1 (wpS_bind (el_ok e2 (wpS_bind (lt_ok L hk (P.mv _ (at_mem e1)) (P.mu _ (at_mem e2)) ?_)))))
  dsimp only
  have ml:=M.len
  by_cases c:key v[j - 1] < key u[i - 1]
  · rw [if_pos (decide_eq_true c)]
    refine wpS_bind (el_ok e2 ?_)
    have M':HI key u v (o.push u[i - 1]) (i - 1) j:=M.takeA (push_rev o u hi e2) (by omega) fun x hx y hy=>by
      obtain ⟨r,r1,r2,r3⟩:=of_head hx
      obtain ⟨t,t1,t2,t3,t4⟩:=of_part hy
      have et:t=i - 1:=by omega
      rw [et,e2] at t4
      have ex:=Option.some.inj t4
      have:=P.sv r (j - 1) (Nat.zero_le _) (by omega) (by omega)
      rw [kat_some e1,kat_some r3] at this
      rw [← ex]; omega
    have ml':=M'.len
    by_cases e:i - 1=0
    · rw [if_pos (by simpa using e)]
      exact wpS_pure (hd _ _ (fih1_ok M' (.inl e)))
    · rw [if_neg (by simpa using e)]
      obtain ⟨q1,q2⟩:=hn _ (i - 1) j (ca + 1) 0 M' (by omega) hj (by omega)
      split
      · exact wpS_pure q1
      · exact wpS_pure q2
  · rw [if_neg (by simpa using c)]
    refine wpS_bind (el_ok e1 ?_)
    have M':HI key u v (o.push v[j - 1]) i (j - 1):=M.takeB (push_rev o v (by omega) e1) (by omega) fun x hx y hy=>by
      obtain ⟨r,r1,r2,r3⟩:=of_head hx
      obtain ⟨t,t1,t2,t3,t4⟩:=of_part hy
      have et:t=j - 1:=by omega
      rw [et,e1] at t4
      have ex:=Option.some.inj t4
      have:=P.su r (i - 1) (Nat.zero_le _) (by omega) (by omega)
      rw [kat_some e2,kat_some r3] at this
      rw [← ex]; omega
    have ml':=M'.len
    by_cases e:j - 1=1
    · rw [if_pos (by simpa using e)]
      exact wpS_pure (hd _ _ (fih2_ok M' (P.firstB e)))
    · rw [if_neg (by simpa using e)]
      obtain ⟨q1,q2⟩:=hn _ i (j - 1) 0 (cb + 1) M' hi (by omega) (by omega)
      split
      · exact wpS_pure q1
      · exact wpS_pure q2
theorem ghEnd_ok {u v o:Array Keyed} {i j g ca cb n:Nat} {st:SortSt} {Q:ForInStep Sh7→SortSt→Prop} (P:Pre a₀ key u v) (M:HI key u v o i j) (hi:1≤i) (hj:2≤j) (hx:∀ y∈v.toList.take j,key y≤kat key u (i - 1)) (hs:n≤o.size)
    (hd:∀ z r,Res key u v z→Q (.done (some z,r)) st) (hn:∀ o' i' j' g' ca' cb',HI key u v o' i' j'→1≤i'→2≤j'→n < o'.size→Q (.done (none,i',j',o',g',ca',cb')) st∧Q (.yield (none,i',j',o',g',ca',cb')) st) :
    wpS (model prog w) A E s (ghEnd u v o i j g ca cb) Q st:=by
  unfold ghEnd
  have b1:=M.hi
  have e2:u[i - 1]? = some u[i - 1]:=Array.getElem?_eq_getElem (by omega)
  refine wpS_bind (el_ok e2 ?_)
  have ml:=M.len
  have M':HI key u v (o.push u[i - 1]) (i - 1) j:=M.takeA (push_rev o u hi e2) (by omega) fun x hx' y hy=>by
    obtain ⟨t,t1,t2,t3,t4⟩:=of_part hy
    have et:t=i - 1:=by omega
    rw [et,e2] at t4
    have ex:=Option.some.inj t4
    have:=hx x hx'
    rw [kat_some e2] at this
    rw [← ex]; exact this
  have ml':=M'.len
  by_cases e:i - 1=0
  · rw [if_pos (by simpa using e)]
    exact wpS_pure (hd _ _ (fih1_ok M' (.inl e)))
  · rw [if_neg (by simpa using e)]
    obtain ⟨q1,q2⟩:=hn _ (i - 1) j g ca cb M' (by omega) hj (by omega)
    split
    · exact wpS_pure q1
    · exact wpS_pure q2
theorem ghMid_ok (L:LtOk prog w A E s a₀ κ key) {u v o:Array Keyed} {i j g ca cb n:Nat} {st:SortSt} {Q:ForInStep Sh7→SortSt→Prop} (hk:kindOf st=κ) (P:Pre a₀ key u v) (M:HI key u v o i j) (hi:1≤i) (hj:2≤j) (hx:∀ y∈u.toList.take i,key y≤kat key v (j - 1)) (hs:n≤o.size)
    (hd:∀ z r,Res key u v z→Q (.done (some z,r)) st) (hn:∀ o' i' j' g' ca' cb',HI key u v o' i' j'→1≤i'→2≤j'→n < o'.size→Q (.done (none,i',j',o',g',ca',cb')) st∧Q (.yield (none,i',j',o',g',ca',cb')) st) :
    wpS (model prog w) A E s (ghMid u v o i j g ca cb) Q st:=by
  unfold ghMid
  have b1:=M.hi
  have b2:=M.hj
  have e1:v[j - 1]? = some v[j - 1]:=Array.getElem?_eq_getElem (by omega)
  have e2:u[i - 1]? = some u[i - 1]:=Array.getElem?_eq_getElem (by omega)
  refine wpS_bind (el_ok e1 ?_)
  have ml:=M.len
  have M':HI key u v (o.push v[j - 1]) i (j - 1):=M.takeB (push_rev o v (by omega) e1) (by omega) fun x hx' y hy=>by
    obtain ⟨t,t1,t2,t3,t4⟩:=of_part hy
    have et:t=j - 1:=by omega
    rw [et,e1] at t4
    have ex:=Option.some.inj t4
    have:=hx x hx'
    rw [kat_some e1] at this
    rw [← ex]; exact this
  have ml':=M'.len
  by_cases e:j - 1=1
  · rw [if_pos (by simpa using e)]
    exact wpS_pure (hd _ _ (fih2_ok M' (P.firstB e)))
  · rw [if_neg (by simpa using e)]
    refine wpS_bind (el_ok e2 (wpS_bind (gallop_ok L hk (P.mu _ (at_mem e2)) P.mv (by omega) (by omega) (seg_sub P.sv (by omega) (by omega)) fun k k1 k2 k3 => ?_)))
    dsimp only
    have lo:∀ t,t < k→kat key v t < key u[i - 1]:=fun t t1=>by
      have:=k2 t t1
      unfold isPast at this
      rw [if_pos rfl,Nat.zero_add] at this
      exact of_decide_eq_true this
    have up:∀ t,k≤t→t < j - 1→key u[i - 1]≤kat key v t:=fun t t1 t2=>by
      have:=k3 t t1 t2
      unfold isPast at this
      rw [if_pos rfl,Nat.zero_add] at this
      have:=of_decide_eq_false this
      omega
    have endx:∀ y∈v.toList.take k,key y≤kat key u (i - 1):=fun y hy=>by
      obtain ⟨r,r1,r2,r3⟩:=of_head hy
      have:=lo r r1
      rw [kat_some r3] at this
      rw [kat_some e2]; omega
    by_cases hk0:j - 1 - k > 0
    · rw [if_pos hk0]
      have M2:HI key u v (o.push v[j - 1]++(v.extract k (j - 1)).reverse) i k:=M'.takeB (app_rev _ v k (j - 1)) (by omega) fun x hx' y hy=>by
        obtain ⟨r,r1,r2,r3⟩:=of_head hx'
        obtain ⟨t,t1,t2,t3,t4⟩:=of_part hy
        have a1:=up t t1 t2
        have a2:=P.su r (i - 1) (Nat.zero_le _) (by omega) (by omega)
        rw [kat_some t4] at a1
        rw [kat_some e2,kat_some r3] at a2
        omega
      have ml2:=M2.len
      by_cases e3:k=1
      · rw [if_pos (by simpa using e3)]
        exact wpS_pure (hd _ _ (fih2_ok M2 (P.firstB e3)))
      · rw [if_neg (by simpa using e3)]
        by_cases e4:k=0
        · rw [if_pos (by simpa using e4)]
          exact wpS_pure (hd _ _ (fih1_ok M2 (.inr e4)))
        · rw [if_neg (by simpa using e4)]
          exact ghEnd_ok P M2 hi (by omega) endx (by omega) hd hn
    · rw [if_neg hk0]
      have k0:k=j - 1:=by omega
      subst k0
      exact ghEnd_ok P M' hi (by omega) endx (by omega) hd hn
theorem ghTop_ok (L:LtOk prog w A E s a₀ κ key) {u v o:Array Keyed} {i j g ca cb:Nat} {st:SortSt} {Q:ForInStep Sh7→SortSt→Prop} (hk:kindOf st=κ) (P:Pre a₀ key u v) (M:HI key u v o i j) (hi:1≤i) (hj:2≤j)
    (hd:∀ z r,Res key u v z→Q (.done (some z,r)) (setGal st g)) (hn:∀ o' i' j' g' ca' cb',HI key u v o' i' j'→1≤i'→2≤j'→o.size < o'.size→Q (.done (none,i',j',o',g',ca',cb')) (setGal st g)∧Q (.yield (none,i',j',o',g',ca',cb')) (setGal st g)) :
    wpS (model prog w) A E s (ghTop u v o i j g ca cb) Q st:=by
  unfold ghTop
  have b1:=M.hi
  have b2:=M.hj
  have e1:v[j - 1]? = some v[j - 1]:=Array.getElem?_eq_getElem (by omega)
  refine wpS_bind (wpS_modify (wpS_bind (el_ok e1 (wpS_bind (gallop_ok L hk (P.mv _ (at_mem e1)) P.mu (by omega) (by omega) (seg_sub P.su (by omega) (by omega)) fun k k1 k2 k3 => ?_)))))
  dsimp only
  have ml:=M.len
  have lo:∀ t,t < k→kat key u t≤key v[j - 1]:=fun t t1=>by
    have:=k2 t t1
    unfold isPast at this
    rw [if_neg (by decide),Nat.zero_add] at this
    have:¬ key v[j - 1] < kat key u t:=by simpa using this
    omega
  have up:∀ t,k≤t→t < i→key v[j - 1] < kat key u t:=fun t t1 t2=>by
    have:=k3 t t1 t2
    unfold isPast at this
    rw [if_neg (by decide),Nat.zero_add] at this
    have:key v[j - 1] < kat key u t:=by simpa using this
    exact this
  have midx:∀ y∈u.toList.take k,key y≤kat key v (j - 1):=fun y hy=>by
    obtain ⟨r,r1,r2,r3⟩:=of_head hy
    have:=lo r r1
    rw [kat_some r3] at this
    rw [kat_some e1]; omega
  by_cases hk0:i - k > 0
  · rw [if_pos hk0]
    have M2:HI key u v (o++(u.extract k i).reverse) k j:=M.takeA (app_rev _ u k i) (by omega) fun x hx' y hy=>by
      obtain ⟨r,r1,r2,r3⟩:=of_head hx'
      obtain ⟨t,t1,t2,t3,t4⟩:=of_part hy
      have a1:=up t t1 t2
      have a2:=P.sv r (j - 1) (Nat.zero_le _) (by omega) (by omega)
      rw [kat_some t4] at a1
      rw [kat_some e1,kat_some r3] at a2
      omega
    have ml2:=M2.len
    by_cases e3:k=0
    · rw [if_pos (by simpa using e3)]
      exact wpS_pure (hd _ _ (fih1_ok M2 (.inl e3)))
    · rw [if_neg (by simpa using e3)]
      exact ghMid_ok L (st:=setGal st g) hk P M2 (by omega) hj midx (by omega) hd hn
  · rw [if_neg hk0]
    have k0:k=i:=by omega
    subst k0
    exact ghMid_ok L (st:=setGal st g) hk P M hi hj midx (by omega) hd hn
theorem roundHi_ok (L:LtOk prog w A E s a₀ κ key) {u v o:Array Keyed} {i j g:Nat} {st:SortSt} {Q:ForInStep Sh5→SortSt→Prop} (hk:kindOf st=κ) (P:Pre a₀ key u v) (M:HI key u v o i j) (hi:1≤i) (hj:2≤j)
    (hd:∀ z r g',Res key u v z→Q (.done (some z,r)) (setGal st g')) (hn:∀ o' i' j' g' g'',HI key u v o' i' j'→1≤i'→2≤j'→o.size < o'.size→Q (.yield (none,i',j',o',g')) (setGal st g'')) :
    wpS (model prog w) A E s (roundHi u v (none,i,j,o,g)) Q st:=by
  unfold roundHi
  have ml:=M.len
  refine wpS_bind (wpS_mono (wpS_forRange (I:=fun t c st'=>st'=st∧∃ o' i' j' ca cb,c=(none,i',j',o',ca,cb)∧HI key u v o' i' j'∧1≤i'∧2≤j'∧o.size + t≤o'.size)
    (Q:=fun c st'=>st'=st∧((∃ z r,c=(some z,r)∧Res key u v z)∨∃ o' i' j' ca cb,c=(none,i',j',o',ca,cb)∧HI key u v o' i' j'∧1≤i'∧2≤j'∧o.size < o'.size)) ?step ?fin ⟨rfl,o,i,j,0,0,rfl,M,hi,hj,by omega⟩) ?post)
  case fin =>
    rintro c st' ⟨rfl,o',i',j',ca,cb,rfl,M',h1,h2,h3⟩
    have:=M'.len
    omega
  case step =>
    rintro t c st' _ ht ⟨rfl,o',i',j',ca,cb,rfl,M',h1,h2,h3⟩
    exact oneHi_ok L hk P M' h1 h2 (fun z r hz=>⟨rfl,.inl ⟨z,r,rfl,hz⟩⟩) fun o2 i2 j2 ca2 cb2 M2 g1 g2 g3=>⟨⟨rfl,.inr ⟨o2,i2,j2,ca2,cb2,rfl,M2,g1,g2,by omega⟩⟩,rfl,o2,i2,j2,ca2,cb2,rfl,M2,g1,g2,by omega⟩
  case post =>
    rintro c st' ⟨rfl,h⟩
    rcases h with ⟨z,r,rfl,hz⟩ | ⟨o',i',j',ca,cb,rfl,M',h1,h2,h3⟩
    · exact wpS_pure (hd z _ (gallopOf st') hz)
    · dsimp only
      refine wpS_bind (wpS_lift (wpAny_rule ⟨rfl,?_⟩))
      refine wpS_bind (wpS_mono (wpS_forRange (I:=fun t c st''=>∃ g',st''=setGal st' g'∧∃ o2 i2 j2 g2 ca cb,c=(none,i2,j2,o2,g2,ca,cb)∧HI key u v o2 i2 j2∧1≤i2∧2≤j2∧o'.size + t≤o2.size)
        (Q:=fun c st''=>∃ g',st''=setGal st' g'∧((∃ z r,c=(some z,r)∧Res key u v z)∨∃ o2 i2 j2 g2 ca cb,c=(none,i2,j2,o2,g2,ca,cb)∧HI key u v o2 i2 j2∧1≤i2∧2≤j2∧o.size < o2.size)) ?gstep ?gfin ⟨gallopOf st',rfl,o',i',j',g + 1,ca,cb,rfl,M',h1,h2,by omega⟩) ?gpost)
      case gfin =>
        rintro c st'' ⟨g',rfl,o2,i2,j2,g2,ca,cb,rfl,M2,q1,q2,q3⟩
        have:=M2.len
        have:=M'.len
        omega
      case gstep =>
        rintro t c st'' _ ht ⟨g',rfl,o2,i2,j2,g2,ca,cb,rfl,M2,q1,q2,q3⟩
        show wpS _ _ _ _ (ghStep u v (none,i2,j2,o2,g2,ca,cb)) _ _
        unfold ghStep
        dsimp only
        split
        · exact ghTop_ok L (st:=setGal st' g') hk P M2 q1 q2 (fun z r hz=>⟨_,rfl,.inl ⟨z,r,rfl,hz⟩⟩) fun o3 i3 j3 g3 ca3 cb3 M3 k1 k2 k3=>⟨⟨_,rfl,.inr ⟨o3,i3,j3,g3,ca3,cb3,rfl,M3,k1,k2,by omega⟩⟩,_,rfl,o3,i3,j3,g3,ca3,cb3,rfl,M3,k1,k2,by omega⟩
        · exact ghTop_ok L (st:=setGal st' g') hk P M2 q1 q2 (fun z r hz=>⟨_,rfl,.inl ⟨z,r,rfl,hz⟩⟩) fun o3 i3 j3 g3 ca3 cb3 M3 k1 k2 k3=>⟨⟨_,rfl,.inr ⟨o3,i3,j3,g3,ca3,cb3,rfl,M3,k1,k2,by omega⟩⟩,_,rfl,o3,i3,j3,g3,ca3,cb3,rfl,M3,k1,k2,by omega⟩
      case gpost =>
        rintro c st'' ⟨g',rfl,h⟩
        rcases h with ⟨z,r,rfl,hz⟩ | ⟨o2,i2,j2,g2,ca,cb,rfl,M2,q1,q2,q3⟩
        · exact wpS_pure (hd z _ g' hz)
        · dsimp only
          exact wpS_bind (wpS_modify (wpS_pure (hn o2 i2 j2 _ _ M2 q1 q2 q3)))
theorem hi_ok (L:LtOk prog w A E s a₀ κ key) {u v:Array Keyed} {st:SortSt} {Q:Array Keyed→SortSt→Prop} (hk:kindOf st=κ) (P:Pre a₀ key u v) (hd:∀ z g',Res key u v z→Q z (setGal st g')):wpS (model prog w) A E s (hiP u v) Q st:=by
  rw [hiP_eq]
  refine wpS_bind (wpS_lift (wpAny_rule ⟨rfl,?_⟩))
  have hu:=P.hu
  have hv:=P.hv
  have e2:u[u.size - 1]? = some u[u.size - 1]:=Array.getElem?_eq_getElem (by omega)
  refine wpS_bind (el_ok e2 ?_)
  have tu:u.toList.take u.size=u.toList:=List.take_of_length_le (by simp)
  have tv:v.toList.take v.size=v.toList:=List.take_of_length_le (by simp)
  have M0:HI key u v #[] u.size v.size:=⟨by rw [tu,tv]; simp,by rw [tu]; simpa using srt_seg.mpr P.su,by rw [tv]; simpa using srt_seg.mpr P.sv,Nat.le_refl _,Nat.le_refl _⟩
  have M:HI key u v #[u[u.size - 1]] (u.size - 1) v.size:=M0.takeA (by have:=push_rev #[] u (by omega) e2; simpa using this) (by omega) fun x hx y hy=>by
    obtain ⟨r,r1,r2,r3⟩:=of_head hx
    obtain ⟨t,t1,t2,t3,t4⟩:=of_part hy
    have et:t=u.size - 1:=by omega
    rw [et] at t4
    have a1:=P.sv r (v.size - 1) (Nat.zero_le _) (by omega) (by omega)
    have a2:=P.last
    rw [kat_some t4] at a2
    rw [kat_some r3] at a1
    omega
  by_cases c1:u.size - 1=0
  · rw [if_pos (by simpa using c1)]
    exact wpS_pure (hd _ (gallopOf st) (fih1_ok M (.inl c1)))
  · rw [if_neg (by simpa using c1)]
    by_cases c2:v.size=1
    · rw [if_pos (by simpa using c2)]
      exact wpS_pure (hd _ (gallopOf st) (fih2_ok M (P.firstB c2)))
    · rw [if_neg (by simpa using c2)]
      refine wpS_bind (wpS_get ?_)
      refine wpS_bind (wpS_mono (wpS_forRange (I:=fun t c st'=>∃ g',st'=setGal st g'∧∃ o i j g,c=(none,i,j,o,g)∧HI key u v o i j∧1≤i∧2≤j∧t < o.size)
        (Q:=fun c st'=>∃ g',st'=setGal st g'∧∃ z r,c=(some z,r)∧Res key u v z) ?step ?fin ⟨gallopOf st,rfl,#[u[u.size - 1]],u.size - 1,v.size,_,rfl,M,by omega,by omega,by simp⟩) ?post)
      case fin =>
        rintro c st' ⟨g',rfl,o,i,j,g,rfl,M',h1,h2,h3⟩
        have:=M'.len
        omega
      case step =>
        rintro t c st' _ ht ⟨g',rfl,o,i,j,g,rfl,M',h1,h2,h3⟩
        exact roundHi_ok L (st:=setGal st g') hk P M' h1 h2 (fun z r g2 hz=>⟨g2,rfl,z,r,rfl,hz⟩) fun o2 i2 j2 g2 g3 M2 q1 q2 q3=>⟨g3,rfl,o2,i2,j2,g2,rfl,M2,q1,q2,by omega⟩
      case post =>
        rintro c st' ⟨g',rfl,z,r,rfl,hz⟩
        exact wpS_pure (hd z g' hz)
end
end Tim

namespace Tim
open PySem PyProof.Rows
section
variable {prog:Program} {w:World} {A:Around} {E:Value→Shared→Prop} {s:Shared} {a₀:Array Keyed} {κ:SortKind} {key:Keyed→Int}

abbrev Sa:=Option (Option Nat) × Nat
abbrev Sd:=Option (Option Nat) × Nat × Nat
def riseL (lo a n:Nat):StateT SortSt Sem Sa :=
  forIn [a:n] ((none,a):Sa) fun _ r=>do
    let z ← ltAt' (lo + r.2) (lo + r.2 - 1)
    match z with
    | some less=>if less=true then pure (.done (none,r.2)) else pure (.yield (none,r.2 + 1))
    | _=>pure (.done (some none,r.2))
def fallL (lo a n:Nat):StateT SortSt Sem Sd :=
  forIn [a:n] ((none,a,0):Sd) fun _ r=>do
    let z ← ltAt' (lo + r.2.1) (lo + r.2.1 - 1)
    match z with
    | some less =>
      if less=true then
        if r.2.2 > 0 then do
          reverseSlice' (lo + r.2.1 - (r.2.2 + 1)) (lo + r.2.1)
          pure (.yield (none,r.2.1 + 1,0))
        else pure (.yield (none,r.2.1 + 1,0))
      else do
        let y ← ltAt' (lo + r.2.1 - 1) (lo + r.2.1)
        match y with
        | some more=>if more=true then pure (.done (none,r.2.1,r.2.2)) else pure (.yield (none,r.2.1 + 1,r.2.2 + 1))
        | _=>pure (.done (some none,r.2.1,r.2.2))
    | _=>pure (.done (some none,r.2.1,r.2.2))
def riseEnd (lo m n:Nat):StateT SortSt Sem (Option Nat):=do
  reverseSlice' lo (lo + m)
  let r ← riseL lo m n
  match r.1 with
  | some v=>pure v
  | none=>pure (some r.2)
def fallPart (lo m n:Nat):StateT SortSt Sem (Option Nat):=do
  liftM (rule "list.sort.descending-run")
  let r ← fallL lo (m + 1) n
  match r.1 with
  | some v=>pure v
  | none =>
    if r.2.2 > 0 then do
      reverseSlice' (lo + r.2.1 - (r.2.2 + 1)) (lo + r.2.1)
      riseEnd lo r.2.1 n
    else riseEnd lo r.2.1 n
theorem run_eq (lo n:Nat):countRun' lo n=(do
    let r ← riseL lo 1 n
    match r.1 with
    | some v=>pure v
    | none =>
      if (r.2 == n)=true then pure (some r.2)
      else if r.2 > 1 then do
        let z ← ltAt' lo (lo + r.2 - 1)
        match z with
        | some up=>if up=true then pure (some r.2) else do
            reverseSlice' lo (lo + r.2)
            fallPart lo r.2 n
        | _=>pure none
      else fallPart lo r.2 n):=by
  kernel_rfl
def Fal (key:Keyed→Int) (xs:Array Keyed) (lo hi:Nat):Prop:=∀ i j,lo≤i→i≤j→j < hi→kat key xs j≤kat key xs i

def Off (xs ys:Array Keyed) (lo hi:Nat):Prop:=∀ t,(t < lo∨hi≤t)→ys[t]? = xs[t]?
theorem Off.refl (xs:Array Keyed) (lo hi:Nat):Off xs xs lo hi:=fun _ _=>rfl
theorem Off.trans {xs ys zs:Array Keyed} {lo hi:Nat} (h:Off xs ys lo hi) (g:Off ys zs lo hi):Off xs zs lo hi:=fun t ht=>(g t ht).trans (h t ht)
theorem kat_mir {xs:Array Keyed} {i j:Nat} (hj:j≤xs.size) (k:Nat):kat key (mirror xs i j ((j - i) / 2)) k=if i≤k∧k < j then kat key xs (i + j - 1 - k) else kat key xs k:=by
  have e:=getElem?_mirror_all (i:=i) hj k
  by_cases h1:i≤k∧k < j
  · rw [if_pos h1] at e ⊢; exact kat_of e
  · rw [if_neg h1] at e ⊢; exact kat_of e
theorem off_mir {xs:Array Keyed} {i j lo hi:Nat} (hj:j≤xs.size) (h1:lo≤i) (h2:j≤hi):Off xs (mirror xs i j ((j - i) / 2)) lo hi:=fun t ht=>by
  rw [getElem?_mirror_all hj,if_neg (by omega)]
theorem kat_mir_same {xs:Array Keyed} {i j:Nat} (hj:j≤xs.size) (he:∀ k,i≤k→k < j→kat key xs k=kat key xs (j - 1)) (k:Nat):kat key (mirror xs i j ((j - i) / 2)) k=kat key xs k:=by
  rw [kat_mir hj]
  split
  · rw [he _ (by omega) (by omega),he k (by omega) (by omega)]
  · rfl
theorem rev_ok {st:SortSt} {i j:Nat} {Q:Unit→SortSt→Prop} (h:Q () (setArr st (mirror (arrOf st) i j ((j - i) / 2)))):wpS (model prog w) A E s (reverseSlice' i j) Q st:=by
  rw [reverseSlice'_eq]; exact wpS_modify h
theorem rise_ok (L:LtOk prog w A E s a₀ κ key) {lo a n:Nat} {st:SortSt} {Q:Sa→SortSt→Prop} (hB:SB a₀ κ st) (hz:lo + n≤a₀.size) (h1:1≤a) (han:a≤n) (hs:Seg key (arrOf st) lo (lo + a))
    (h:∀ m,a≤m→m≤n→Seg key (arrOf st) lo (lo + m)→(m=n∨kat key (arrOf st) (lo + m) < kat key (arrOf st) (lo + m - 1))→Q (none,m) st):wpS (model prog w) A E s (riseL lo a n) Q st:=by
  unfold riseL
  refine wpS_forRange (I:=fun t c st'=>st'=st∧c=(none,t)∧Seg key (arrOf st) lo (lo + t)) ?step ?fin ⟨rfl,rfl,hs⟩
  case fin =>
    rintro c st' ⟨rfl,rfl,hs'⟩
    rw [show max a n=n by omega] at hs' ⊢
    exact h n han (Nat.le_refl _) hs' (.inl rfl)
  case step =>
    rintro t c st' ht htn ⟨rfl,rfl,hs'⟩
    refine wpS_bind (ltAt_ok L hB (by dsimp only; omega) (by dsimp only; omega) ?_)
    dsimp only
    by_cases e:kat key (arrOf st') (lo + t) < kat key (arrOf st') (lo + t - 1)
    · rw [if_pos (decide_eq_true e)]
      exact wpS_pure (h t ht (by omega) hs' (.inr e))
    · rw [if_neg (by simpa using e)]
      refine wpS_pure ⟨rfl,rfl,fun i j x y z => ?_⟩
      by_cases q:j < lo + t
      · exact hs' i j x y q
      · have ej:j=lo + t:=by omega
        subst ej
        by_cases q2:i=lo + t
        · rw [q2]; exact Int.le_refl _
        · have:=hs' i (lo + t - 1) x (by omega) (by omega)
          omega
theorem riseEnd_ok (L:LtOk prog w A E s a₀ κ key) {lo m n:Nat} {st:SortSt} {Q:Option Nat→SortSt→Prop} (hB:SB a₀ κ st) (hz:lo + n≤a₀.size) (h1:1≤m) (hmn:m≤n) (hs:Fal key (arrOf st) lo (lo + m))
    (h:∀ k xs,1≤k→k≤n→xs.Perm (arrOf st)→Off (arrOf st) xs lo (lo + n)→Seg key xs lo (lo + k)→Q (some k) (setArr st xs)):wpS (model prog w) A E s (riseEnd lo m n) Q st:=by
  unfold riseEnd
  have hsz:lo + m≤(arrOf st).size:=by rw [hB.size]; omega
  refine wpS_bind (rev_ok ?_)
  have hp:(mirror (arrOf st) lo (lo + m) ((lo + m - lo) / 2)).Perm (arrOf st):=mirror_perm _ _ _ _
  have hB':=hB.set hp
  refine wpS_bind (rise_ok L hB' hz h1 hmn (fun i j x y z => ?_) fun k k1 k2 k3 _=>wpS_pure (h k _ (by omega) k2 hp (off_mir hsz (by omega) (by omega)) k3))
  show kat key (mirror (arrOf st) lo (lo + m) ((lo + m - lo) / 2)) i≤kat key (mirror (arrOf st) lo (lo + m) ((lo + m - lo) / 2)) j
  rw [kat_mir hsz,kat_mir hsz,if_pos (by omega),if_pos (by omega)]
  exact hs _ _ (by omega) (by omega) (by omega)
theorem fall_ok (L:LtOk prog w A E s a₀ κ key) {lo a n:Nat} {st:SortSt} {Q:Sd→SortSt→Prop} (hB:SB a₀ κ st) (hz:lo + n≤a₀.size) (h1:1≤a) (han:a≤n) (hs:Fal key (arrOf st) lo (lo + a))
    (h:∀ m q xs,a≤m→m≤n→xs.Perm (arrOf st)→Off (arrOf st) xs lo (lo + n)→Fal key xs lo (lo + m)→q + 1≤m→(∀ i,lo + m - (q + 1)≤i→i < lo + m→kat key xs i=kat key xs (lo + m - 1))→Q (none,m,q) (setArr st xs)):wpS (model prog w) A E s (fallL lo a n) Q st:=by
  unfold fallL
  refine wpS_forRange (I:=fun t c st'=>∃ q xs,st'=setArr st xs∧c=(none,t,q)∧xs.Perm (arrOf st)∧Off (arrOf st) xs lo (lo + n)∧Fal key xs lo (lo + t)∧q + 1≤t∧∀ i,lo + t - (q + 1)≤i→i < lo + t→kat key xs i=kat key xs (lo + t - 1)) ?step ?fin
    ⟨0,arrOf st,rfl,rfl,Array.Perm.refl _,Off.refl _ _ _,hs,by omega,fun i x y=>by congr 1; omega⟩
  case fin =>
    rintro c st' ⟨q,xs,rfl,rfl,hp,ho,hf,hq,he⟩
    rw [show max a n=n by omega] at hf hq he ⊢
    exact h n q xs han (Nat.le_refl _) hp ho hf hq he
  case step =>
    rintro t c st' ht htn ⟨q,xs,rfl,rfl,hp,ho,hf,hq,he⟩
    have hB':=hB.set hp
    have hsz:lo + t≤xs.size:=by rw [hp.size_eq,hB.size]; omega
    refine wpS_bind (ltAt_ok L hB' (by dsimp only; omega) (by dsimp only; omega) ?_)
    dsimp only
    show wpS _ _ _ _ (if decide (kat key xs (lo + t) < kat key xs (lo + t - 1))=true then _ else _) _ _
    by_cases e:kat key xs (lo + t) < kat key xs (lo + t - 1)
    · rw [if_pos (decide_eq_true e)]
      have step1:∀ ys:Array Keyed,(∀ k,kat key ys k=kat key xs k)→Fal key ys lo (lo + (t + 1)):=by
        intro ys hk i j x y z
        rw [hk,hk]
        by_cases r:j < lo + t
        · exact hf i j x y r
        · have ej:j=lo + t:=by omega
          subst ej
          by_cases q2:i=lo + t
          · rw [q2]; exact Int.le_refl _
          · have:=hf i (lo + t - 1) x (by omega) (by omega)
            omega
      by_cases hq0:q > 0
      · rw [if_pos hq0]
        refine wpS_bind (rev_ok (wpS_pure ⟨0,mirror xs (lo + t - (q + 1)) (lo + t) ((lo + t - (lo + t - (q + 1))) / 2),rfl,rfl,(mirror_perm _ _ _ _).trans hp,ho.trans (off_mir hsz (by omega) (by omega)),step1 _ (kat_mir_same hsz he),by omega,fun i x y=>by congr 1; omega⟩))
      · rw [if_neg hq0]
        exact wpS_pure ⟨0,xs,rfl,rfl,hp,ho,step1 _ (fun _=>rfl),by omega,fun i x y=>by congr 1; omega⟩
    · rw [if_neg (by simpa using e)]
      refine wpS_bind (ltAt_ok L hB' (by omega) (by omega) ?_)
      dsimp only
      show wpS _ _ _ _ (if decide (kat key xs (lo + t - 1) < kat key xs (lo + t))=true then _ else _) _ _
      by_cases e2:kat key xs (lo + t - 1) < kat key xs (lo + t)
      · rw [if_pos (decide_eq_true e2)]
        exact wpS_pure (h t q xs ht (by omega) hp ho hf hq he)
      · rw [if_neg (by simpa using e2)]
        have eq:kat key xs (lo + t)=kat key xs (lo + t - 1):=by omega
        refine wpS_pure ⟨q + 1,xs,rfl,rfl,hp,ho,fun i j x y z => ?_,by omega,fun i x y => ?_⟩
        · by_cases r:j < lo + t
          · exact hf i j x y r
          · have ej:j=lo + t:=by omega
            subst ej
            by_cases q2:i=lo + t
            · rw [q2]; exact Int.le_refl _
            · rw [eq]; exact hf i (lo + t - 1) x (by omega) (by omega)
        · rw [show lo + (t + 1) - 1=lo + t by omega]
          by_cases q2:i=lo + t
          · rw [q2]
          · rw [eq]; exact he i (by omega) (by omega)
theorem fallPart_ok (L:LtOk prog w A E s a₀ κ key) {lo m n:Nat} {st:SortSt} {Q:Option Nat→SortSt→Prop} (hB:SB a₀ κ st) (hz:lo + n≤a₀.size) (hmn:m + 1≤n) (hs:Fal key (arrOf st) lo (lo + (m + 1)))
    (h:∀ k xs,1≤k→k≤n→xs.Perm (arrOf st)→Off (arrOf st) xs lo (lo + n)→Seg key xs lo (lo + k)→Q (some k) (setArr st xs)):wpS (model prog w) A E s (fallPart lo m n) Q st:=by
  unfold fallPart
  refine wpS_bind (wpS_lift (wpAny_rule ⟨rfl,?_⟩))
  refine wpS_bind (fall_ok L hB hz (by omega) hmn hs fun k q xs k1 k2 hp ho hf hq he => ?_)
  dsimp only
  have hsz:lo + k≤xs.size:=by rw [hp.size_eq,hB.size]; omega
  by_cases hq0:q > 0
  · rw [if_pos hq0]
    refine wpS_bind (rev_ok ?_)
    have hp2:(mirror xs (lo + k - (q + 1)) (lo + k) ((lo + k - (lo + k - (q + 1))) / 2)).Perm (arrOf st):=(mirror_perm _ _ _ _).trans hp
    refine riseEnd_ok L (st:=setArr st (mirror xs (lo + k - (q + 1)) (lo + k) ((lo + k - (lo + k - (q + 1))) / 2))) (hB.set hp2) hz (by omega) k2 (fun i j x y z => ?_) fun r ys r1 r2 r3 r4 r5=>h r ys r1 r2 (r3.trans hp2) ((ho.trans (off_mir hsz (by omega) (by omega))).trans r4) r5
    show kat key (mirror xs _ _ _) j≤kat key (mirror xs _ _ _) i
    rw [kat_mir_same hsz he,kat_mir_same hsz he]
    exact hf i j x y z
  · rw [if_neg hq0]
    exact riseEnd_ok L (st:=setArr st xs) (hB.set hp) hz (by omega) k2 hf fun r ys r1 r2 r3 r4 r5=>h r ys r1 r2 (r3.trans hp) (ho.trans r4) r5
theorem run_ok (L:LtOk prog w A E s a₀ κ key) {lo n:Nat} {st:SortSt} {Q:Option Nat→SortSt→Prop} (hB:SB a₀ κ st) (hz:lo + n≤a₀.size) (h1:1≤n)
    (h:∀ k xs,1≤k→k≤n→xs.Perm (arrOf st)→Off (arrOf st) xs lo (lo + n)→Seg key xs lo (lo + k)→Q (some k) (setArr st xs)):wpS (model prog w) A E s (countRun' lo n) Q st:=by
  rw [run_eq]
  refine wpS_bind (rise_ok L hB hz (Nat.le_refl 1) h1 (fun i j x y z=>by rw [show i=j by omega]; exact Int.le_refl _) fun m m1 m2 hsm hor => ?_)
  dsimp only
  by_cases e:m=n
  · rw [if_pos (by simpa using e)]
    exact wpS_pure (h m (arrOf st) m1 m2 (Array.Perm.refl _) (Off.refl _ _ _) hsm)
  · rw [if_neg (by simpa using e)]
    have lt:kat key (arrOf st) (lo + m) < kat key (arrOf st) (lo + m - 1):=hor.resolve_left e
    by_cases g:m > 1
    · rw [if_pos g]
      refine wpS_bind (ltAt_ok L hB (by omega) (by omega) ?_)
      dsimp only
      by_cases c:kat key (arrOf st) lo < kat key (arrOf st) (lo + m - 1)
      · rw [if_pos (decide_eq_true c)]
        exact wpS_pure (h m (arrOf st) m1 m2 (Array.Perm.refl _) (Off.refl _ _ _) hsm)
      · rw [if_neg (by simpa using c)]
        have hsz:lo + m≤(arrOf st).size:=by rw [hB.size]; omega
        have all:∀ k,lo≤k→k < lo + m→kat key (arrOf st) k=kat key (arrOf st) (lo + m - 1):=by
          intro k x y
          have a1:=hsm lo k (Nat.le_refl _) x y
          have a2:=hsm k (lo + m - 1) x (by omega) (by omega)
          omega
        refine wpS_bind (rev_ok ?_)
        have hp:(mirror (arrOf st) lo (lo + m) ((lo + m - lo) / 2)).Perm (arrOf st):=mirror_perm _ _ _ _
        refine fallPart_ok L (hB.set hp) hz (by omega) (fun i j x y z => ?_) fun r ys r1 r2 r3 r4 r5=>h r ys r1 r2 (r3.trans hp) ((off_mir hsz (by omega) (by omega)).trans r4) r5
        show kat key (mirror (arrOf st) _ _ _) j≤kat key (mirror (arrOf st) _ _ _) i
        rw [kat_mir_same hsz all,kat_mir_same hsz all]
        by_cases q:j < lo + m
        · rw [all i x (by omega),all j (by omega) q]; exact Int.le_refl _
        · have ej:j=lo + m:=by omega
          subst ej
          by_cases q2:i=lo + m
          · rw [q2]; exact Int.le_refl _
          · rw [all i x (by omega)]; omega
    · rw [if_neg g]
      have em:m=1:=by omega
      subst em
      refine fallPart_ok L hB hz (by omega) (fun i j x y z => ?_) h
      by_cases q:i=j
      · rw [q]; exact Int.le_refl _
      · have ei:i=lo:=by omega
        have ej:j=lo + 1:=by omega
        subst ei
        subst ej
        have:i + 1 - 1=i:=by omega
        rw [this] at lt
        omega
end
end Tim

namespace Tim
open PySem PyProof.Rows
section
variable {prog:Program} {w:World} {A:Around} {E:Value→Shared→Prop} {s:Shared} {a₀:Array Keyed} {κ:SortKind} {key:Keyed→Int}
theorem kat_bub {xs:Array Keyed} {src d:Nat} (hs:src < xs.size) (hd:d≤src) (k:Nat):kat key (bubble xs src d) k=if k=src - d then kat key xs src else if src - d < k∧k≤src then kat key xs (k - 1) else kat key xs k:=by
  have e:=getElem?_bubble hs d hd k
  by_cases h1:k=src - d
  · rw [if_pos h1] at e ⊢; exact kat_of e
  · rw [if_neg h1] at e ⊢
    by_cases h2:src - d < k∧k≤src
    · rw [if_pos h2] at e ⊢; exact kat_of e
    · rw [if_neg h2] at e ⊢; exact kat_of e
def findL (lo k:Nat):StateT SortSt Sem (Option Bool × Nat × Nat) :=
  forIn [0:k] ((none,0,k):Option Bool × Nat × Nat) fun _ r =>
    if r.2.1 ≥ r.2.2 then pure (.done (none,r.2.1,r.2.2)) else do
      let z ← ltAt' (lo + k) (lo + (r.2.1 + r.2.2) / 2)
      match z with
      | some less=>if less=true then pure (.yield (none,r.2.1,(r.2.1 + r.2.2) / 2)) else pure (.yield (none,(r.2.1 + r.2.2) / 2 + 1,r.2.2))
      | _=>pure (.done (some false,r.2.1,r.2.2))
def insL (lo n ok:Nat):StateT SortSt Sem (Option Bool × Unit) :=
  forIn [max ok 1:n] ((none,()):Option Bool × Unit) fun k _=>do
    let r ← findL lo k
    match r.1 with
    | some v=>pure (.done (some v,()))
    | none=>do
      moveDown' (lo + k) (lo + r.2.1)
      pure (.yield (none,()))
theorem ins_eq (lo n ok:Nat):binarySort' lo n ok=(do
    let r ← insL lo n ok
    match r.1 with
    | some v=>pure v
    | none=>pure true):=by kernel_rfl
theorem find_ok (L:LtOk prog w A E s a₀ κ key) {lo k:Nat} {st:SortSt} {Q:Option Bool × Nat × Nat→SortSt→Prop} (hB:SB a₀ κ st) (hz:lo + k < a₀.size) (hs:Seg key (arrOf st) lo (lo + k))
    (h:∀ l,l≤k→(∀ i,lo≤i→i < lo + l→kat key (arrOf st) i≤kat key (arrOf st) (lo + k))→(∀ i,lo + l≤i→i < lo + k→kat key (arrOf st) (lo + k) < kat key (arrOf st) i)→Q (none,l,l) st):wpS (model prog w) A E s (findL lo k) Q st:=by
  unfold findL
  refine wpS_forRange (I:=fun t c st'=>st'=st∧∃ l r,c=(none,l,r)∧l≤r∧r≤k∧r - l≤k - t∧(∀ i,lo≤i→i < lo + l→kat key (arrOf st) i≤kat key (arrOf st) (lo + k))∧(∀ i,lo + r≤i→i < lo + k→kat key (arrOf st) (lo + k) < kat key (arrOf st) i)) ?step ?fin
    ⟨rfl,0,k,rfl,by omega,by omega,by omega,fun i x y=>by omega,fun i x y=>by omega⟩
  case fin =>
    rintro c st' ⟨rfl,l,r,rfl,h1,h2,h3,h4,h5⟩
    have e:l=r:=by omega
    subst e
    exact h l h2 h4 h5
  case step =>
    rintro t c st' _ ht ⟨rfl,l,r,rfl,h1,h2,h3,h4,h5⟩
    dsimp only
    by_cases e:l ≥ r
    · rw [if_pos e]
      have e':l=r:=by omega
      subst e'
      exact wpS_pure (h l h2 h4 h5)
    · rw [if_neg e]
      refine wpS_bind (ltAt_ok L hB hz (by omega) ?_)
      dsimp only
      by_cases c:kat key (arrOf st') (lo + k) < kat key (arrOf st') (lo + (l + r) / 2)
      · rw [if_pos (decide_eq_true c)]
        refine wpS_pure ⟨rfl,_,_,rfl,by omega,by omega,by omega,h4,fun i x y => ?_⟩
        have:=hs (lo + (l + r) / 2) i (by omega) x y
        omega
      · rw [if_neg (by simpa using c)]
        refine wpS_pure ⟨rfl,_,_,rfl,by omega,by omega,by omega,fun i x y => ?_,h5⟩
        have:=hs i (lo + (l + r) / 2) x (by omega) (by omega)
        omega
theorem bub_seg {xs:Array Keyed} {lo p q:Nat} (h1:lo≤q) (h2:q≤p) (hks:p < xs.size) (hs:Seg key xs lo p) (h4:∀ i,lo≤i→i < q→kat key xs i≤kat key xs p) (h5:∀ i,q≤i→i < p→kat key xs p < kat key xs i):Seg key (bubble xs p (p - q)) lo (p + 1):=by
  intro i j x y z
  rw [kat_bub hks (Nat.sub_le _ _),kat_bub hks (Nat.sub_le _ _),show p - (p - q)=q from Nat.sub_sub_self h2]
  clear hks
  repeat' split
  all_goals first
    | (exfalso; omega)
    | exact Int.le_refl _
    | exact h4 _ (by omega) (by omega)
    | exact Int.le_of_lt (h5 _ (by omega) (by omega))
    | exact hs _ _ (by omega) (by omega) (by omega)
theorem ins_ok (L:LtOk prog w A E s a₀ κ key) {lo n ok:Nat} {st:SortSt} {Q:Bool→SortSt→Prop} (hB:SB a₀ κ st) (hz:lo + n≤a₀.size) (hok:ok≤n) (hs:Seg key (arrOf st) lo (lo + ok))
    (h:∀ xs,xs.Perm (arrOf st)→Off (arrOf st) xs lo (lo + n)→Seg key xs lo (lo + n)→Q true (setArr st xs)):wpS (model prog w) A E s (binarySort' lo n ok) Q st:=by
  rw [ins_eq]
  unfold insL
  refine wpS_bind (wpS_mono (wpS_forRange (I:=fun t c st'=>c=(none,())∧∃ xs,st'=setArr st xs∧xs.Perm (arrOf st)∧Off (arrOf st) xs lo (lo + n)∧Seg key xs lo (lo + min t n))
    (Q:=fun c st'=>c=(none,())∧∃ xs,st'=setArr st xs∧xs.Perm (arrOf st)∧Off (arrOf st) xs lo (lo + n)∧Seg key xs lo (lo + n)) ?step ?fin ?init) ?post)
  case post =>
    rintro c st' ⟨rfl,xs,rfl,hp,ho,hs'⟩
    exact wpS_pure (h xs hp ho hs')
  case init =>
    refine ⟨rfl,arrOf st,rfl,Array.Perm.refl _,Off.refl _ _ _,fun i j x y z => ?_⟩
    by_cases h1:ok=0
    · rw [show i=j by omega]; exact Int.le_refl _
    · exact hs i j x y (by omega)
  case fin =>
    rintro c st' ⟨rfl,xs,rfl,hp,ho,hs'⟩
    refine ⟨rfl,xs,rfl,hp,ho,?_⟩
    rwa [show min (max (max ok 1) n) n=n by omega] at hs'
  case step =>
    rintro k c st' hk hkn ⟨rfl,xs,rfl,hp,ho,hs'⟩
    rw [show min k n=k by omega] at hs'
    have hB':=hB.set hp
    refine wpS_bind (find_ok L hB' (by omega) hs' fun l hl h4 h5 => ?_)
    dsimp only
    rw [moveDown'_eq]
    refine wpS_bind (wpS_modify (wpS_pure ⟨rfl,bubble xs (lo + k) (lo + k - (lo + l)),rfl,(bubble_perm _ _ _).trans hp,?_,?_⟩))
    · have hks:lo + k < xs.size:=by rw [hp.size_eq,hB.size]; omega
      refine ho.trans fun t ht => ?_
      rw [getElem?_bubble hks _ (by omega),if_neg (by omega),if_neg (by omega)]
    · rw [show min (k + 1) n=k + 1 by omega]
      have hks:lo + k < xs.size:=by rw [hp.size_eq,hB.size]; omega
      exact bub_seg (Nat.le_add_right _ _) (by omega) hks hs' h4 h5

def wback (xs:Array Keyed) (p:Nat) (z:List Keyed):Array Keyed:=z.zipIdx.foldl (fun a q=>a.setIfInBounds (p + q.2) q.1) xs
theorem wback_at (p:Nat):∀ (z:List Keyed) (n:Nat) (xs:Array Keyed),p + n + z.length≤xs.size→∀ t:Nat,((z.zipIdx n).foldl (fun a q=>a.setIfInBounds (p + q.2) q.1) xs)[t]? = if p + n≤t∧t < p + n + z.length then z[t - (p + n)]? else xs[t]?
  | [],n,xs,_,t=>by
    rw [if_neg (by simp)]; rfl
  | x::z,n,xs,h,t=>by
    rw [List.zipIdx_cons,List.foldl_cons]
    have hl:(x::z).length=z.length + 1:=rfl
    rw [wback_at p z (n + 1) _ (by rw [Array.size_setIfInBounds]; omega) t]
    by_cases c:p + n≤t∧t < p + n + (x::z).length
    · rw [if_pos c]
      by_cases c2:t=p + n
      · rw [if_neg (by omega),c2]
        have:p + n < xs.size:=by omega
        simp [Array.getElem?_setIfInBounds,this]
      · rw [if_pos (by omega)]
        have e:t - (p + n)=t - (p + (n + 1)) + 1:=by omega
        rw [e,List.getElem?_cons_succ]
    · rw [if_neg c,if_neg (by omega),Array.getElem?_setIfInBounds]
      have:p + n≠t:=by omega
      simp [this]
theorem wback_get {xs:Array Keyed} {p:Nat} {z:List Keyed} (h:p + z.length≤xs.size) (t:Nat):(wback xs p z)[t]? = if p≤t∧t < p + z.length then z[t - p]? else xs[t]? := by
  have:=wback_at p z 0 xs (by omega) t
  simpa [wback] using this
theorem wback_list {xs:Array Keyed} {p:Nat} {z:List Keyed} (h:p + z.length≤xs.size):(wback xs p z).toList=xs.toList.take p++z++xs.toList.drop (p + z.length):=by
  refine List.ext_getElem? fun t => ?_
  rw [Array.getElem?_toList,wback_get h]
  have lt:(xs.toList.take p).length=p:=by simp; omega
  by_cases c1:t < p
  · rw [if_neg (by omega),List.append_assoc,List.getElem?_append_left (by rw [lt]; exact c1),List.getElem?_take_of_lt c1,Array.getElem?_toList]
  · by_cases c2:t < p + z.length
    · rw [if_pos ⟨by omega,c2⟩,List.getElem?_append_left (by rw [List.length_append,lt]; omega),List.getElem?_append_right (by rw [lt]; omega),lt]
    · rw [if_neg (by omega),List.getElem?_append_right (by rw [List.length_append,lt]; omega),List.length_append,lt,List.getElem?_drop,Array.getElem?_toList]
      congr 1
      omega
abbrev setPen (st:SortSt) (p:Array (Nat × Nat × Nat)):SortSt:=SortSt.mk' (kindOf st) (arrOf st) p (gallopOf st) (failedOf st)
theorem join_eq (i:Nat):mergeAt' i=(do
    let st ← get
    match (pendingOf st)[i]?,(pendingOf st)[i + 1]? with
    | some (sa,na,pw),some (sb,nb,_)=>do
      set (setPen st (((pendingOf st).setIfInBounds i (sa,na + nb,pw)).eraseIdxIfInBounds (i + 1)))
      let y ← elem' (arrOf st) sb
      let z ← gallopP false y (arrOf st) sa na 0
      match z with
      | some k =>
        if (na - k == 0)=true then pure true else do
          let x ← elem' (arrOf st) (sa + k + (na - k) - 1)
          let r ← gallopP true x (arrOf st) sb nb (nb - 1)
          match r with
          | some m =>
            if (m == 0)=true then pure true else do
              let t ← if na - k≤m then loP ((arrOf st).extract (sa + k) sb) ((arrOf st).extract sb (sb + m)) else hiP ((arrOf st).extract (sa + k) sb) ((arrOf st).extract sb (sb + m))
              modify fun st=>setArr st (wback (arrOf st) (sa + k) t.toList)
              let st ← get
              pure (failedOf st).isNone
          | _=>pure false
      | _=>pure false
    | _,_=>liftM (unsupported "internal:list.sort.pending" : Sem Bool)):=by
  kernel_rfl
end
end Tim

namespace Tim
open PySem PyProof.Rows
section
variable {prog:Program} {w:World} {A:Around} {E:Value→Shared→Prop} {s:Shared} {a₀:Array Keyed} {κ:SortKind} {key:Keyed→Int}
abbrev Tri:=Nat × Nat × Nat
theorem pend_at {p:Array Tri} {l1 l2:List Tri} {a b:Tri} (h:p.toList=l1++a::b::l2):p[l1.length]? = some a∧p[l1.length + 1]? = some b:=by
  rw [← Array.getElem?_toList,← Array.getElem?_toList,h]
  constructor
  · rw [List.getElem?_append_right (Nat.le_refl _)]; simp
  · rw [List.getElem?_append_right (by omega)]; simp
theorem pend_new {p:Array Tri} {l1 l2:List Tri} {a b c:Tri} (h:p.toList=l1++a::b::l2):((p.setIfInBounds l1.length c).eraseIdxIfInBounds (l1.length + 1)).toList=l1++c::l2:=by
  have hs:p.size=l1.length + (l2.length + 2):=by rw [← Array.length_toList,h]; simp
  rw [Array.eraseIdxIfInBounds,dif_pos (by rw [Array.size_setIfInBounds]; omega),Array.toList_eraseIdx,Array.toList_setIfInBounds,h]
  rw [List.set_append_right _ _ (Nat.le_refl _),Nat.sub_self,List.set_cons_zero,List.eraseIdx_append_of_length_le (by omega)]
  simp
theorem kat_ext {xs:Array Keyed} {a b i:Nat} (hb:b≤xs.size) (hi:a + i < b):kat key (xs.extract a b) i=kat key xs (a + i):=by
  apply kat_of
  rw [Array.getElem?_extract]
  simp
  omega
theorem ext_size {xs:Array Keyed} {a b:Nat} (hb:b≤xs.size):(xs.extract a b).size=b - a:=by
  rw [Array.size_extract]; omega
theorem ext_sub {xs:Array Keyed} {a b:Nat} {y:Keyed} (h:y∈(xs.extract a b).toList):y∈xs.toList:=by
  rw [ext_part] at h
  exact List.mem_of_mem_take (List.mem_of_mem_drop h)
theorem merged {xs z:Array Keyed} {lo p q r hi:Nat} (h1:lo≤p) (h2:p≤q) (h3:q≤r) (h4:r≤hi) (h5:hi≤xs.size) (R:Res key (xs.extract p q) (xs.extract q r) z) (s1:Seg key xs lo q) (s2:Seg key xs q hi)
    (lo1:∀ t,lo≤t→t < p→kat key xs t≤kat key xs q) (up2:∀ t,r≤t→t < hi→kat key xs (q - 1)≤kat key xs t):(wback xs p z.toList).Perm xs∧Off xs (wback xs p z.toList) lo hi∧Seg key (wback xs p z.toList) lo hi:=by
  obtain ⟨zp,zs⟩:=R
  have zl:z.toList.length=r - p:=by
    have e:=zp.length_eq
    simp only [List.length_append,Array.length_toList] at e ⊢
    rw [ext_size (by omega),ext_size (by omega)] at e
    omega
  have hfit:p + z.toList.length≤xs.size:=by omega
  have em:xs.toList=xs.toList.take p++((xs.extract p q).toList++(xs.extract q r).toList)++xs.toList.drop (p + z.toList.length):=by
    rw [ext_part,ext_part]
    have a1:(xs.toList.take q).drop p++(xs.toList.take r).drop q=(xs.toList.drop p).take z.toList.length:=by
      rw [List.drop_take,List.drop_take,show z.toList.length=(q - p) + (r - q) by omega,List.take_add,List.drop_drop,show p + (q - p)=q by omega]
    have a2:(xs.toList.drop p).take z.toList.length++xs.toList.drop (p + z.toList.length)=xs.toList.drop p:=by
      have:=List.take_append_drop z.toList.length (xs.toList.drop p)
      rwa [List.drop_drop] at this
    rw [a1,List.append_assoc,a2]
    exact (List.take_append_drop _ _).symm
  have zseg:Seg key z 0 z.size:=srt_seg.mp zs
  have old:∀ t,(t < p∨r≤t)→kat key (wback xs p z.toList) t=kat key xs t:=fun t ht=>kat_of (by rw [wback_get hfit,if_neg (by omega)])
  have kz:∀ t,p≤t→t < r→∃ x,x∈z.toList∧(wback xs p z.toList)[t]? = some x∧z[t - p]? = some x:=fun t t1 t2=>by
    have hlt:t - p < z.toList.length:=by omega
    refine ⟨z.toList[t - p],List.getElem_mem hlt,?_,?_⟩
    · rw [wback_get hfit,if_pos ⟨t1,by omega⟩]; exact List.getElem?_eq_getElem hlt
    · rw [← Array.getElem?_toList]; exact List.getElem?_eq_getElem hlt
  have from2:∀ x∈z.toList,∃ t,((p≤t∧t < q)∨(q≤t∧t < r))∧key x=kat key xs t:=fun x hx=>by
    rcases List.mem_append.mp (zp.mem_iff.mp hx) with hx | hx
    · rw [ext_part] at hx
      obtain ⟨t,t1,t2,t3,t4⟩:=of_part hx
      exact ⟨t,.inl ⟨t1,t2⟩,(kat_some t4).symm⟩
    · rw [ext_part] at hx
      obtain ⟨t,t1,t2,t3,t4⟩:=of_part hx
      exact ⟨t,.inr ⟨t1,t2⟩,(kat_some t4).symm⟩
  refine ⟨?_,fun t ht=>by rw [wback_get hfit,if_neg (by omega)],?_⟩
  · rw [Array.perm_iff_toList_perm,wback_list hfit]
    conv=>rhs; rw [em]
    exact List.Perm.append_right _ (List.Perm.append_left _ zp)
  have zz2:z.size=r - p:=by rw [← Array.length_toList]; exact zl
  clear em hfit zl
  intro i j x y zz
  by_cases i1:i < p
  · rw [old i (.inl i1)]
    by_cases j1:j < p
    · rw [old j (.inl j1)]; exact s1 i j x y (Nat.lt_of_lt_of_le j1 h2)
    · by_cases j2:j < r
      · obtain ⟨v,v1,v2,v3⟩:=kz j (Nat.le_of_not_lt j1) j2
        rw [kat_some v2]
        obtain ⟨t,ht,et⟩:=from2 v v1
        rw [et]
        rcases ht with ⟨t1,t2⟩ | ⟨t1,t2⟩
        · exact s1 i t x (Nat.le_trans (Nat.le_of_lt i1) t1) t2
        · exact Int.le_trans (lo1 i x i1) (s2 q t (Nat.le_refl _) t1 (Nat.lt_of_lt_of_le t2 h4))
      · rw [old j (.inr (Nat.le_of_not_lt j2))]
        exact Int.le_trans (lo1 i x i1) (s2 q j (Nat.le_refl _) (Nat.le_trans h3 (Nat.le_of_not_lt j2)) zz)
  · have i1':=Nat.le_of_not_lt i1
    by_cases i2:i < r
    · obtain ⟨u,u1,u2,u3⟩:=kz i i1' i2
      by_cases j2:j < r
      · obtain ⟨v,v1,v2,v3⟩:=kz j (Nat.le_trans i1' y) j2
        rw [kat_some u2,kat_some v2]
        have e:=zseg (i - p) (j - p) (Nat.zero_le _) (Nat.sub_le_sub_right y p) (by rw [zz2]; exact Nat.sub_lt_sub_right (Nat.le_trans i1' y) j2)
        rw [kat_some u3,kat_some v3] at e
        exact e
      · have j2':=Nat.le_of_not_lt j2
        rw [old j (.inr j2'),kat_some u2]
        obtain ⟨t,ht,et⟩:=from2 u u1
        rw [et]
        rcases ht with ⟨t1,t2⟩ | ⟨t1,t2⟩
        · exact Int.le_trans (s1 t (q - 1) (Nat.le_trans h1 t1) (Nat.le_sub_one_of_lt t2) (Nat.sub_one_lt (Nat.ne_of_gt (Nat.lt_of_le_of_lt (Nat.zero_le _) t2)))) (up2 j j2' zz)
        · exact s2 t j t1 (Nat.le_trans (Nat.le_of_lt t2) j2') zz
    · have i2':=Nat.le_of_not_lt i2
      rw [old i (.inr i2'),old j (.inr (Nat.le_trans i2' y))]
      exact s2 i j (Nat.le_trans h3 i2') y zz
theorem parts_pre {xs:Array Keyed} {lo p q r hi:Nat} (h1:lo≤p) (h2:p < q) (h3:q < r) (h4:r≤hi) (h5:hi≤xs.size) (all:∀ y∈xs.toList,y∈a₀.toList) (s1:Seg key xs lo q) (s2:Seg key xs q hi)
    (up1:kat key xs q < kat key xs p) (lo2:kat key xs (r - 1) < kat key xs (q - 1)):Pre a₀ key (xs.extract p q) (xs.extract q r):=by
  have zu:(xs.extract p q).size=q - p:=ext_size (by omega)
  have zv:(xs.extract q r).size=r - q:=ext_size (by omega)
  refine ⟨fun y hy=>all y (ext_sub hy),fun y hy=>all y (ext_sub hy),fun i j x y z => ?_,fun i j x y z => ?_,by omega,by omega,?_,?_⟩
  · rw [zu] at z
    rw [kat_ext (by omega) (by omega),kat_ext (by omega) (by omega)]
    exact s1 _ _ (by omega) (by omega) (by omega)
  · rw [zv] at z
    rw [kat_ext (by omega) (by omega),kat_ext (by omega) (by omega)]
    exact s2 _ _ (by omega) (by omega) (by omega)
  · rw [kat_ext (by omega) (by omega),kat_ext (by omega) (by omega)]
    exact up1
  · rw [zu,zv,kat_ext (by omega) (by omega),kat_ext (by omega) (by omega),show q + (r - q - 1)=r - 1 by omega,show p + (q - p - 1)=q - 1 by omega]
    exact lo2
theorem join_ok (L:LtOk prog w A E s a₀ κ key) {st:SortSt} {Q:Bool→SortSt→Prop} (hB:SB a₀ κ st) {l1 l2:List Tri} {sa na p sb nb q:Nat} (hp:(pendingOf st).toList=l1++(sa,na,p)::(sb,nb,q)::l2) (hsb:sb=sa + na) (h1:1≤na) (h2:1≤nb) (hz:sb + nb≤a₀.size)
    (s1:Seg key (arrOf st) sa sb) (s2:Seg key (arrOf st) sb (sb + nb))
    (h:∀ st',SB a₀ κ st'→(pendingOf st').toList=l1++(sa,na + nb,p)::l2→Seg key (arrOf st') sa (sb + nb)→Off (arrOf st) (arrOf st') sa (sb + nb)→Q true st'):wpS (model prog w) A E s (mergeAt' l1.length) Q st:=by
  rw [join_eq]
  refine wpS_bind (wpS_get ?_)
  obtain ⟨e1,e2⟩:=pend_at hp
  rw [e1,e2]
  dsimp only
  have hsz:=hB.size
  have mem:∀ {i:Nat} {x:Keyed},(arrOf st)[i]? = some x→x∈a₀.toList:=fun e=>hB.mem (at_mem e)
  have all:∀ y∈(arrOf st).toList,y∈a₀.toList:=fun y hy=>hB.mem hy
  refine wpS_bind ?_
  show wpS _ _ _ _ (set _) _ _
  have hset:∀ (t:SortSt) (R:PUnit→SortSt→Prop),R ⟨⟩ t→wpS (model prog w) A E s (set t:StateT SortSt Sem PUnit) R st:=fun t R hr=>by
    unfold wpS; rw [StateT.run_set]; exact wpAny_pure ⟨rfl,hr⟩
  refine hset _ _ ?_
  have pn:=pend_new (c:=(sa,na + nb,p)) hp
  generalize hP:((pendingOf st).setIfInBounds l1.length (sa,na + nb,p)).eraseIdxIfInBounds (l1.length + 1)=P at pn ⊢
  have f1:(arrOf st)[sb]? = some (arrOf st)[sb]:=Array.getElem?_eq_getElem (by omega)
  refine wpS_bind (el_ok f1 (wpS_bind (gallop_ok L (st:=setPen st P) hB.kind (mem f1) all (by omega) (by omega) (by rw [← hsb]; exact s1) fun k k1 k2 k3 => ?_)))
  dsimp only
  have lo1:∀ t,sa≤t→t < sa + k→kat key (arrOf st) t≤kat key (arrOf st) sb:=fun t t1 t2=>by
    have:=k2 (t - sa) (by omega)
    unfold isPast at this
    rw [if_neg (by decide),show sa + (t - sa)=t by omega,← kat_some (key:=key) f1] at this
    have:¬ kat key (arrOf st) sb < kat key (arrOf st) t:=by simpa using this
    omega
  have up1:∀ t,sa + k≤t→t < sb→kat key (arrOf st) sb < kat key (arrOf st) t:=fun t t1 t2=>by
    have:=k3 (t - sa) (by omega) (by omega)
    unfold isPast at this
    rw [if_neg (by decide),show sa + (t - sa)=t by omega,← kat_some (key:=key) f1] at this
    have:kat key (arrOf st) sb < kat key (arrOf st) t:=by simpa using this
    exact this
  have B1:SB a₀ κ (setPen st P):=⟨hB.perm,hB.kind,hB.ok⟩
  by_cases c1:na - k=0
  · rw [if_pos (by simpa using c1)]
    refine wpS_pure (h _ B1 pn (fun i j x y z => ?_) (Off.refl _ _ _))
    show kat key (arrOf st) i≤kat key (arrOf st) j
    by_cases a1:j < sb
    · exact s1 i j x y a1
    · by_cases a2:sb≤i
      · exact s2 i j a2 y z
      · have:=lo1 i x (by omega)
        have:=s2 sb j (Nat.le_refl _) (by omega) z
        omega
  · rw [if_neg (by simpa using c1)]
    have f2:(arrOf st)[sa + k + (na - k) - 1]? = some (arrOf st)[sb - 1]:=by
      rw [show sa + k + (na - k) - 1=sb - 1 by omega]; exact Array.getElem?_eq_getElem (by omega)
    have f3:(arrOf st)[sb - 1]? = some (arrOf st)[sb - 1]:=Array.getElem?_eq_getElem (by omega)
    refine wpS_bind (el_ok f2 (wpS_bind (gallop_ok L (st:=setPen st P) hB.kind (mem f2) all (by omega) (by omega) s2 fun m m1 m2 m3 => ?_)))
    dsimp only
    have lo2:∀ t,sb≤t→t < sb + m→kat key (arrOf st) t < kat key (arrOf st) (sb - 1):=fun t t1 t2=>by
      have:=m2 (t - sb) (by omega)
      unfold isPast at this
      rw [if_pos rfl,show sb + (t - sb)=t by omega,← kat_some (key:=key) f3] at this
      exact of_decide_eq_true this
    have up2:∀ t,sb + m≤t→t < sb + nb→kat key (arrOf st) (sb - 1)≤kat key (arrOf st) t:=fun t t1 t2=>by
      have:=m3 (t - sb) (by omega) (by omega)
      unfold isPast at this
      rw [if_pos rfl,show sb + (t - sb)=t by omega,← kat_some (key:=key) f3] at this
      have:=of_decide_eq_false this
      omega
    by_cases c2:m=0
    · rw [if_pos (by simpa using c2)]
      refine wpS_pure (h _ B1 pn (fun i j x y z => ?_) (Off.refl _ _ _))
      show kat key (arrOf st) i≤kat key (arrOf st) j
      by_cases a1:j < sb
      · exact s1 i j x y a1
      · by_cases a2:sb≤i
        · exact s2 i j a2 y z
        · have:=s1 i (sb - 1) x (by omega) (by omega)
          have:=up2 j (by omega) z
          omega
    · rw [if_neg (by simpa using c2)]
      have o1:sa≤sa + k:=Nat.le_add_right _ _
      have o2:sa + k < sb:=by omega
      have o3:sb < sb + m:=by omega
      have o4:sb + m≤sb + nb:=by omega
      have o5:sb + nb≤(arrOf st).size:=by omega
      have PR:Pre a₀ key ((arrOf st).extract (sa + k) sb) ((arrOf st).extract sb (sb + m)):=parts_pre o1 o2 o3 o4 o5 all s1 s2 (up1 _ (Nat.le_refl _) o2) (lo2 _ (Nat.le_sub_one_of_lt o3) (Nat.sub_one_lt (Nat.ne_of_gt (Nat.lt_of_le_of_lt (Nat.zero_le _) o3))))
      have fin:∀ (z:Array Keyed) (g':Nat),Res key ((arrOf st).extract (sa + k) sb) ((arrOf st).extract sb (sb + m)) z →
          wpS (model prog w) A E s (do
            modify fun st=>setArr st (wback (arrOf st) (sa + k) z.toList)
            let st ← get
            pure (failedOf st).isNone:StateT SortSt Sem Bool) Q (setGal (setPen st P) g'):=fun z g' hz=>by
        obtain ⟨hperm,hoff,hseg⟩:=merged o1 (Nat.le_of_lt o2) (Nat.le_of_lt o3) o4 o5 hz s1 s2 lo1 up2
        refine wpS_bind (wpS_modify (wpS_bind (wpS_get (wpS_pure ?_))))
        have okf:(failedOf (setArr (setGal (setPen st P) g') (wback (arrOf st) (sa + k) z.toList))).isNone=true:=by
          show (failedOf st).isNone=true
          rw [hB.ok]; rfl
        show Q (failedOf (setArr (setGal (setPen st P) g') (wback (arrOf st) (sa + k) z.toList))).isNone _
        rw [okf]
        exact h _ ⟨hperm.trans hB.perm,hB.kind,hB.ok⟩ pn hseg hoff
      split
      · exact wpS_bind (lo_ok L (st:=setPen st P) hB.kind PR fun z g' hz=>fin z g' hz)
      · exact wpS_bind (hi_ok L (st:=setPen st P) hB.kind PR fun z g' hz=>fin z g' hz)
end
end Tim

namespace Tim
open PySem PyProof.Rows
section
variable {prog:Program} {w:World} {A:Around} {E:Value→Shared→Prop} {s:Shared} {a₀:Array Keyed} {κ:SortKind} {key:Keyed→Int}
abbrev So:=Option Unit × Unit
def downL (size pw:Nat):StateT SortSt Sem So :=
  forIn [0:size] ((none,()):So) fun _ _=>do
    let st ← get
    match (if (pendingOf st).size > 1 then (pendingOf st)[(pendingOf st).size - 2]? else none) with
    | some (_,_,older)=>if older≤pw then pure (.done (none,())) else do
        let b ← mergeAt' ((pendingOf st).size - 2)
        if (!b)=true then pure (.done (some (),())) else pure (.yield (none,()))
    | _=>pure (.done (none,()))
def pushEnd (lo n:Nat):StateT SortSt Sem (ForInStep (Option Unit × Nat)):=do
  modify fun st=>setPen st ((pendingOf st).push (lo,n,0))
  pure (.yield (none,lo + n))
def pushRun (size lo n:Nat):StateT SortSt Sem (ForInStep (Option Unit × Nat)):=do
  let st ← get
  match (pendingOf st).back? with
  | some (s1,n1,_)=>do
    let q ← downL size (power' size (2 * s1 + n1) (2 * s1 + n1 + n1 + n) size)
    match q.1 with
    | some v=>pure (.done (some v,lo))
    | none=>do
      modify fun st=>setPen st ((pendingOf st).modify ((pendingOf st).size - 1) fun (a,b,_)=>(a,b,power' size (2 * s1 + n1) (2 * s1 + n1 + n1 + n) size))
      pushEnd lo n
  | _=>pushEnd lo n
def mainStep (size minrun:Nat) (r:Option Unit × Nat):StateT SortSt Sem (ForInStep (Option Unit × Nat)) :=
  if r.2 ≥ size then pure (.done (none,r.2)) else do
    let z ← countRun' r.2 (size - r.2)
    match z with
    | some found =>
      if found < minrun then do
        liftM (rule "list.sort.binary-insertion")
        let b ← binarySort' r.2 (min (size - r.2) minrun) found
        if (!b)=true then pure (.done (some (),r.2)) else pushRun size r.2 (min (size - r.2) minrun)
      else pushRun size r.2 found
    | _=>pure (.done (some (),r.2))
def lastAt (p:Array Tri):Nat:=if (if p.size - 2 > 0 then p[p.size - 2 - 1]?.map (·.2.1) else none).any (· < (p[p.size - 2 + 1]?.elim 0 (·.2.1))) then p.size - 2 - 1 else p.size - 2
def lastL (size:Nat):StateT SortSt Sem So :=
  forIn [0:size] ((none,()):So) fun _ _=>do
    let st ← get
    if (pendingOf st).size≤1 then pure (.done (none,())) else do
      let b ← mergeAt' (lastAt (pendingOf st))
      if (!b)=true then pure (.done (some (),())) else pure (.yield (none,()))
theorem runs_eq:sortRuns'=(do
    let st ← get
    let r ← forIn [0:(arrOf st).size] ((none,0):Option Unit × Nat) fun _ r=>mainStep (arrOf st).size (minRun' (arrOf st).size (arrOf st).size 0) r
    match r.1 with
    | some v=>pure v
    | none=>do
      let q ← lastL (arrOf st).size
      match q.1 with
      | some v=>pure v
      | none=>pure ()):=by kernel_rfl

def Tiles (key:Keyed→Int) (xs:Array Keyed):Nat→List Tri→Nat→Prop
  | a,[],e=>a=e
  | a,t::r,e=>t.1=a∧1≤t.2.1∧Seg key xs a (a + t.2.1)∧Tiles key xs (a + t.2.1) r e
theorem Tiles.le {xs:Array Keyed}:∀ {l:List Tri} {a e:Nat},Tiles key xs a l e→a + l.length≤e
  | [],a,e,h=>by have:a=e:=h; simp; omega
  | t::r,a,e,h=>by
    obtain ⟨_,h1,_,h2⟩:=h
    have:=Tiles.le h2
    simp; omega
theorem tiles_app {xs:Array Keyed} {l2:List Tri} {e:Nat}:∀ {l1:List Tri} {a:Nat},Tiles key xs a (l1++l2) e↔∃ m,Tiles key xs a l1 m∧Tiles key xs m l2 e
  | [],a=>⟨fun h=>⟨a,rfl,h⟩,fun ⟨m,h1,h2⟩=>by have:a=m:=h1; subst this; exact h2⟩
  | t::r,a=>by
    constructor
    · rintro ⟨h1,h2,h3,h4⟩
      obtain ⟨m,g1,g2⟩:=tiles_app.mp h4
      exact ⟨m,⟨h1,h2,h3,g1⟩,g2⟩
    · rintro ⟨m,⟨h1,h2,h3,g1⟩,g2⟩
      exact ⟨h1,h2,h3,tiles_app.mpr ⟨m,g1,g2⟩⟩
theorem Tiles.same {xs ys:Array Keyed}:∀ {l:List Tri} {a e:Nat},Tiles key xs a l e→(∀ t,a≤t→t < e→ys[t]? = xs[t]?)→Tiles key ys a l e
  | [],a,e,h,_=>h
  | t::r,a,e,h,g=>by
    obtain ⟨h1,h2,h3,h4⟩:=h
    have l4:=h4.le
    refine ⟨h1,h2,fun i j x y z => ?_,Tiles.same h4 fun t x y=>g t (by omega) y⟩
    rw [kat_of (g i x (by omega)),kat_of (g j (by omega) (by omega))]
    exact h3 i j x y z
theorem Tiles.alike {xs:Array Keyed}:∀ {l l':List Tri} {a e:Nat},Tiles key xs a l e→l'.map (fun t=>(t.1,t.2.1))=l.map (fun t=>(t.1,t.2.1))→Tiles key xs a l' e
  | [],[],_,_,h,_=>h
  | [],_::_,_,_,_,g=>by simp at g
  | _::_,[],_,_,_,g=>by simp at g
  | t::r,t'::r',a,e,h,g=>by
    obtain ⟨h1,h2,h3,h4⟩:=h
    rw [List.map_cons,List.map_cons,List.cons.injEq,Prod.mk.injEq] at g
    obtain ⟨⟨g1,g2⟩,g3⟩:=g
    exact ⟨by rw [g1]; exact h1,by rw [g2]; exact h2,by rw [g2]; exact h3,by rw [g2]; exact Tiles.alike h4 g3⟩
theorem split2 {α:Type} {l:List α} {i:Nat} (h:i + 1 < l.length):∃ l1 a b l2,l=l1++a::b::l2∧l1.length=i:=by
  refine ⟨l.take i,l[i],l[i + 1],l.drop (i + 2),?_,by rw [List.length_take]; omega⟩
  have e1:l.drop i=l[i]::l.drop (i + 1):=List.drop_eq_getElem_cons (by omega)
  have e2:l.drop (i + 1)=l[i + 1]::l.drop (i + 2):=List.drop_eq_getElem_cons h
  rw [← e2,← e1,List.take_append_drop]
theorem joinT (L:LtOk prog w A E s a₀ κ key) {st:SortSt} {Q:Bool→SortSt→Prop} {i e:Nat} (hB:SB a₀ κ st) (T:Tiles key (arrOf st) 0 (pendingOf st).toList e) (he:e≤a₀.size) (hi:i + 1 < (pendingOf st).size)
    (h:∀ st',SB a₀ κ st'→Tiles key (arrOf st') 0 (pendingOf st').toList e→(pendingOf st').size + 1=(pendingOf st).size→Off (arrOf st) (arrOf st') 0 e→Q true st'):wpS (model prog w) A E s (mergeAt' i) Q st:=by
  obtain ⟨l1,⟨sa,na,p⟩,⟨sb,nb,q⟩,l2,hl,rfl⟩:=split2 (l:=(pendingOf st).toList) (i:=i) (by simpa using hi)
  have T':=T
  rw [hl] at T'
  obtain ⟨m,T1,⟨a1,a2,a3,b1,b2,b3,T2⟩⟩:=tiles_app.mp T'
  have l2e:=T2.le
  have l1e:=T1.le
  dsimp only at a1 a2 a3 b1 b2 b3 T2 l2e
  subst a1
  subst b1
  refine join_ok L hB hl rfl a2 b2 (by omega) a3 b3 fun st' B' P' S' O' => ?_
  have sz:(pendingOf st').size + 1=(pendingOf st).size:=by
    rw [← Array.length_toList,← Array.length_toList,P',hl]; simp; omega
  refine h st' B' ?_ sz fun t ht=>O' t (by omega)
  rw [P']
  refine tiles_app.mpr ⟨sa,T1.same fun t x y=>O' t (.inl y),rfl,by dsimp only; omega,?_,?_⟩
  · dsimp only; rw [← Nat.add_assoc]; exact S'
  · dsimp only
    rw [← Nat.add_assoc]
    exact T2.same fun t x y=>O' t (.inr x)
theorem down_ok (L:LtOk prog w A E s a₀ κ key) {st:SortSt} {Q:So→SortSt→Prop} {pw e size:Nat} (hB:SB a₀ κ st) (T:Tiles key (arrOf st) 0 (pendingOf st).toList e) (he:e≤a₀.size) (hp:1≤(pendingOf st).size)
    (h:∀ st',SB a₀ κ st'→Tiles key (arrOf st') 0 (pendingOf st').toList e→1≤(pendingOf st').size→Off (arrOf st) (arrOf st') 0 e→Q (none,()) st'):wpS (model prog w) A E s (downL size pw) Q st:=by
  unfold downL
  refine wpS_forRange (I:=fun _ c st'=>c=(none,())∧SB a₀ κ st'∧Tiles key (arrOf st') 0 (pendingOf st').toList e∧1≤(pendingOf st').size∧Off (arrOf st) (arrOf st') 0 e) ?step ?fin ⟨rfl,hB,T,hp,Off.refl _ _ _⟩
  case fin =>
    rintro c st' ⟨rfl,B',T',P',O'⟩
    exact h st' B' T' P' O'
  case step =>
    rintro t c st' _ _ ⟨rfl,B',T',P',O'⟩
    refine wpS_bind (wpS_get ?_)
    by_cases g:(pendingOf st').size > 1
    · rw [if_pos g,Array.getElem?_eq_getElem (show (pendingOf st').size - 2 < (pendingOf st').size by omega)]
      dsimp only
      split
      · exact wpS_pure (h st' B' T' P' O')
      · refine wpS_bind (joinT L B' T' he (by omega) fun st2 B2 T2 P2 O2 => ?_)
        rw [if_neg (by decide)]
        exact wpS_pure ⟨rfl,B2,T2,by omega,O'.trans O2⟩
    · rw [if_neg g]
      exact wpS_pure (h st' B' T' P' O')
theorem pushEnd_ok {st:SortSt} {Q:ForInStep (Option Unit × Nat)→SortSt→Prop} {lo n:Nat} (hB:SB a₀ κ st) (T:Tiles key (arrOf st) 0 (pendingOf st).toList lo) (h1:1≤n) (hs:Seg key (arrOf st) lo (lo + n))
    (h:∀ st',SB a₀ κ st'→Tiles key (arrOf st') 0 (pendingOf st').toList (lo + n)→Q (.yield (none,lo + n)) st'):wpS (model prog w) A E s (pushEnd lo n) Q st:=by
  unfold pushEnd
  refine wpS_bind (wpS_modify (wpS_pure (h _ ⟨hB.perm,hB.kind,hB.ok⟩ ?_)))
  show Tiles key (arrOf st) 0 ((pendingOf st).push (lo,n,0)).toList (lo + n)
  rw [Array.toList_push]
  exact tiles_app.mpr ⟨lo,T,rfl,h1,hs,rfl⟩
theorem pushRun_ok (L:LtOk prog w A E s a₀ κ key) {st:SortSt} {Q:ForInStep (Option Unit × Nat)→SortSt→Prop} {lo n size:Nat} (hB:SB a₀ κ st) (T:Tiles key (arrOf st) 0 (pendingOf st).toList lo) (hz:lo + n≤a₀.size) (h1:1≤n) (hs:Seg key (arrOf st) lo (lo + n))
    (h:∀ st',SB a₀ κ st'→Tiles key (arrOf st') 0 (pendingOf st').toList (lo + n)→Q (.yield (none,lo + n)) st'):wpS (model prog w) A E s (pushRun size lo n) Q st:=by
  unfold pushRun
  refine wpS_bind (wpS_get ?_)
  cases hb:(pendingOf st).back? with
  | none=>exact pushEnd_ok hB T h1 hs h
  | some t =>
    obtain ⟨s1,n1,p1⟩:=t
    dsimp only
    have ne:1≤(pendingOf st).size:=by
      rcases Nat.eq_zero_or_pos (pendingOf st).size with e | e
      · have:pendingOf st = #[]:=Array.eq_empty_of_size_eq_zero e
        rw [this] at hb; cases hb
      · exact e
    refine wpS_bind (down_ok L hB T (by omega) ne fun st' B' T' P' O' => ?_)
    dsimp only
    refine wpS_bind (wpS_modify ?_)
    refine pushEnd_ok (key:=key) (a₀:=a₀) (κ:=κ) ⟨B'.perm,B'.kind,B'.ok⟩ ?_ h1 (fun i j x y z => ?_) h
    · show Tiles key (arrOf st') 0 ((pendingOf st').modify ((pendingOf st').size - 1) _).toList lo
      refine T'.alike ?_
      rw [Array.toList_modify]
      refine List.ext_getElem? fun k => ?_
      rw [List.getElem?_map,List.getElem?_map,List.getElem?_modify]
      split
      · cases (pendingOf st').toList[k]? <;> rfl
      · cases (pendingOf st').toList[k]? <;> rfl
    · show kat key (arrOf st') i≤kat key (arrOf st') j
      rw [kat_of (O' i (.inr x)),kat_of (O' j (.inr (by omega)))]
      exact hs i j x y z
theorem main_ok (L:LtOk prog w A E s a₀ κ key) {st:SortSt} {Q:ForInStep (Option Unit × Nat)→SortSt→Prop} {lo minrun:Nat} (hB:SB a₀ κ st) (T:Tiles key (arrOf st) 0 (pendingOf st).toList lo) (hlo:lo≤a₀.size)
    (hd:a₀.size≤lo→Q (.done (none,lo)) st) (h:∀ st' lo',lo < lo'→lo'≤a₀.size→SB a₀ κ st'→Tiles key (arrOf st') 0 (pendingOf st').toList lo'→Q (.yield (none,lo')) st'):wpS (model prog w) A E s (mainStep a₀.size minrun (none,lo)) Q st:=by
  unfold mainStep
  dsimp only
  by_cases e:lo ≥ a₀.size
  · rw [if_pos e]
    exact wpS_pure (hd e)
  · rw [if_neg e]
    refine wpS_bind (run_ok L hB (by omega) (by omega) fun k xs k1 k2 hp ho hs => ?_)
    dsimp only
    have T1:Tiles key xs 0 (pendingOf st).toList lo:=T.same fun t x y=>ho t (.inl y)
    by_cases c:k < minrun
    · rw [if_pos c]
      refine wpS_bind (wpS_lift (wpAny_rule ⟨rfl,?_⟩))
      refine wpS_bind (ins_ok L (st:=setArr st xs) (hB.set hp) (by omega) (by omega) hs fun ys yp yo ys' => ?_)
      rw [if_neg (by decide)]
      refine pushRun_ok L (st:=setArr st ys) (hB.set (yp.trans hp)) ?_ (by omega) (by omega) ys' fun st' B' T'=>h st' _ (by omega) (by omega) B' T'
      exact T1.same fun t x y=>yo t (.inl y)
    · rw [if_neg c]
      exact pushRun_ok L (st:=setArr st xs) (hB.set hp) T1 (by omega) k1 hs fun st' B' T'=>h st' _ (by omega) (by omega) B' T'
theorem lastAt_lt {p:Array Tri} (h:1 < p.size):lastAt p + 1 < p.size:=by
  unfold lastAt
  by_cases g:p.size - 2 > 0
  · have e:∀ (c:Bool),(if c=true then p.size - 2 - 1 else p.size - 2) + 1 < p.size:=fun c=>by cases c <;> simp <;> omega
    exact e _
  · rw [if_neg (show ¬ ((if p.size - 2 > 0 then p[p.size - 2 - 1]?.map (·.2.1) else none).any (· < (p[p.size - 2 + 1]?.elim 0 (·.2.1))))=true by rw [if_neg g]; simp)]
    omega
theorem last_ok (L:LtOk prog w A E s a₀ κ key) {st:SortSt} {Q:So→SortSt→Prop} (hB:SB a₀ κ st) (T:Tiles key (arrOf st) 0 (pendingOf st).toList a₀.size)
    (h:∀ st',SB a₀ κ st'→Seg key (arrOf st') 0 a₀.size→Q (none,()) st'):wpS (model prog w) A E s (lastL a₀.size) Q st:=by
  unfold lastL
  have fin:∀ st',SB a₀ κ st'→Tiles key (arrOf st') 0 (pendingOf st').toList a₀.size→(pendingOf st').size≤1→Q (none,()) st':=fun st' B' T' h1=>by
    refine h st' B' fun i j x y z => ?_
    cases hl:(pendingOf st').toList with
    | nil =>
      rw [hl] at T'
      have:0=a₀.size:=T'
      omega
    | cons t r =>
      have hr:r=[]:=by
        have:=congrArg List.length hl
        rw [Array.length_toList,List.length_cons] at this
        exact List.length_eq_zero_iff.mp (by omega)
      rw [hl,hr] at T'
      obtain ⟨h2,h3,h4,h5⟩:=T'
      have h5':0 + t.2.1=a₀.size:=h5
      exact h4 i j x y (by omega)
  refine wpS_forRange (I:=fun t c st'=>c=(none,())∧SB a₀ κ st'∧Tiles key (arrOf st') 0 (pendingOf st').toList a₀.size∧((pendingOf st').size≤1∨(pendingOf st').size + t≤a₀.size)) ?step ?fin ⟨rfl,hB,T,.inr (by have:=T.le; rw [Array.length_toList] at this; omega)⟩
  case fin =>
    rintro c st' ⟨rfl,B',T',P'⟩
    exact fin st' B' T' (by omega)
  case step =>
    rintro t c st' _ _ ⟨rfl,B',T',P'⟩
    refine wpS_bind (wpS_get ?_)
    by_cases g:(pendingOf st').size≤1
    · rw [if_pos g]
      exact wpS_pure (fin st' B' T' g)
    · rw [if_neg g]
      refine wpS_bind (joinT L B' T' (Nat.le_refl _) (lastAt_lt (by omega)) fun st2 B2 T2 P2 O2 => ?_)
      rw [if_neg (by decide)]
      exact wpS_pure ⟨rfl,B2,T2,by omega⟩

theorem runs_ok (L:LtOk prog w A E s a₀ κ key) {st:SortSt} {Q:Unit→SortSt→Prop} (hB:SB a₀ κ st) (hp:pendingOf st = #[])
    (h:∀ st',SB a₀ κ st'→Seg key (arrOf st') 0 a₀.size→Q () st'):wpS (model prog w) A E s sortRuns' Q st:=by
  rw [runs_eq]
  refine wpS_bind (wpS_get ?_)
  rw [hB.size]
  refine wpS_bind (wpS_mono (wpS_forRange (I:=fun t c st'=>∃ lo,c=(none,lo)∧t≤lo∧lo≤a₀.size∧SB a₀ κ st'∧Tiles key (arrOf st') 0 (pendingOf st').toList lo)
    (Q:=fun c st'=>c=(none,a₀.size)∧SB a₀ κ st'∧Tiles key (arrOf st') 0 (pendingOf st').toList a₀.size) ?step ?fin ⟨0,rfl,Nat.le_refl _,Nat.zero_le _,hB,by rw [hp]; rfl⟩) ?post)
  case fin =>
    rintro c st' ⟨lo,rfl,h1,h2,B',T'⟩
    have e:lo=a₀.size:=by omega
    subst e
    exact ⟨rfl,B',T'⟩
  case step =>
    rintro t c st' _ _ ⟨lo,rfl,h1,h2,B',T'⟩
    refine main_ok L B' T' h2 (fun e => ?_) fun st2 lo2 g1 g2 B2 T2=>⟨lo2,rfl,by omega,g2,B2,T2⟩
    have e':lo=a₀.size:=by omega
    subst e'
    exact ⟨rfl,B',T'⟩
  case post =>
    rintro c st' ⟨rfl,B',T'⟩
    dsimp only
    exact wpS_bind (last_ok L B' T' fun st2 B2 S2=>wpS_pure (h st2 B2 S2))
end
end Tim

namespace L2
open PySem PySem.Spec PySem.Calls PyProof.Rows PySem.W

structure Lin {α:Type} (lt:α→α→Bool):Prop where
  irr:∀ x,lt x x=false
  tr:∀ x y z,lt x y=true→lt y z=true→lt x z=true
  tot:∀ x y,lt x y=false→lt y x=false→x=y
theorem countP_less {α:Type} {p q:α→Bool} {a:α}:∀ {l:List α},(∀ x∈l,p x=true→q x=true)→a∈l→p a=false→q a=true→l.countP p < l.countP q
  | [],_,h,_,_=>by simp at h
  | x::l,hm,ha,hp,hq=>by
    have m:l.countP p≤l.countP q:=List.countP_mono_left fun y hy=>hm y (by simp [hy])
    rw [List.countP_cons,List.countP_cons]
    rcases List.mem_cons.mp ha with rfl | ha
    · rw [hp,hq]
      simp
      omega
    · have:=countP_less (fun y hy=>hm y (by simp [hy])) ha hp hq
      have hx:=hm x (by simp)
      cases e:p x with
      | true=>rw [hx e]; simp; omega
      | false=>simp; split <;> omega
def rnk {α:Type} (lt:α→α→Bool) (ks:List α) (x:α):Int:=((ks.countP fun k=>lt k x:Nat):Int)
theorem rnk_lt {α:Type} {lt:α→α→Bool} (L:Lin lt) {ks:List α} {x y:α} (hx:x∈ks) (hy:y∈ks):decide (rnk lt ks x < rnk lt ks y)=lt x y:=by
  unfold rnk
  cases e:lt x y with
  | true =>
    have:=countP_less (l:=ks) (p:=fun k=>lt k x) (q:=fun k=>lt k y) (fun k _ h=>L.tr _ _ _ h e) hx (L.irr x) e
    simp
    exact this
  | false =>
    cases e2:lt y x with
    | true =>
      have:=countP_less (l:=ks) (p:=fun k=>lt k y) (q:=fun k=>lt k x) (fun k _ h=>L.tr _ _ _ h e2) hy (L.irr y) e2
      simp
      omega
    | false =>
      have:=L.tot _ _ e e2
      subst this
      simp
section
variable {prog:Program} {w:World} {A:Around} {E:Value→Shared→Prop} {s:Shared} {α:Type} {lt:α→α→Bool} {kf:Value→α}
structure SrtA (prog:Program) (w:World) (vs:List Value) {α:Type} (kf:Value→α) (lt:α→α→Bool) (κ:SortKind) (s:Shared):Prop where
  kind:∀ (A:Around),2≤vs.length→∀ Q:SortKind→Shared→Prop,Q κ s→wpAny (model prog w) A (keyKind' vs.toArray) Q (fun _ _=>False) s
  less:∀ (A:Around) (x y:Value) (C:Bool→Shared→Prop),x∈vs→y∈vs→C (lt (kf x) (kf y)) s→wpAny (model prog w) A (keyLt' κ x y) C (fun _ _=>False) s
theorem zip_self {vs:List Value} {p:Keyed} (h:p∈(vs.toArray.zip vs.toArray).toList):p.1=p.2∧p.2∈vs:=by
  rw [Array.toList_zip] at h
  obtain ⟨i,hi⟩:=List.mem_iff_getElem?.mp h
  rw [List.getElem?_zip_eq_some] at hi
  have e:=hi.1.symm.trans hi.2
  exact ⟨Option.some.inj e,List.mem_iff_getElem?.mpr ⟨i,hi.2⟩⟩
theorem zip_snd (vs:List Value):(vs.toArray.zip vs.toArray).toList.map (·.2)=vs:=by
  rw [Array.toList_zip]
  exact List.map_snd_zip (Nat.le_refl _)
theorem list_sort_all {a:Addr} {vs:List Value} {n:Nat} {κ:SortKind} {P:PySem.Fin→Shared→Prop} (L:Lin lt) (ho:s.heap.get? a=some (seqObj "list" vs.toArray n)) (sz:vs.length≤sizeLine)
    (hs:∀ h',(∀ b o,b≠a→s.heap.get? b=some o→h'.get? b=some o)→SrtA prog w vs kf lt κ { s with heap:=h' })
    (h:∀ out:List Value,out.Perm vs→out.Pairwise (fun x y=>lt (kf y) (kf x)=false)→P (.done (.ret .none)) { s with heap:=sortedHeap s.heap a vs out.toArray }) :
    wpAny (model prog w) A (Builtin.«list.sort» ⟨[.ref a],[]⟩) P E s:=by
  have ha:a < s.heap.objs.size:=Heap.lt_size ho
  rw [list_sort_plain]
  refine wpAny_bind (listItems_at ho rfl ?_)
  refine wpAny_bind (listUpdate_at ho rfl ?_ (by rw [List.size_toArray]; exact sz) (Nat.zero_le _))
  obtain ⟨e1,ho1⟩:∃ e1,(s.heap.update a (Obj.mapSeq fun _=>(#[]:Array Value))).get? a=some (seqObj "list" #[] e1):=⟨_,get?_update_seq ho fun _ => #[]⟩
  refine wpAny_bind (seqEpoch_at ho1 rfl ?_)
  refine wpAny_bind (wpAny_newTuple ?_ (by show vs.length≤_; exact sz))
  refine wpAny_bind (wpAny_newList ?_ (Nat.zero_le _))
  refine wpAny_holding ?_
  show wpAny (model prog w) A _ P E { s with heap:=((s.heap.update a (Obj.mapSeq fun _=>(#[]:Array Value))).push (seqObj "tuple" vs.toArray 0)).push (seqObj "list" #[] 0) }
  dsimp only
  have ho6:(((s.heap.update a (Obj.mapSeq fun _=>(#[]:Array Value))).push (seqObj "tuple" vs.toArray 0)).push (seqObj "list" #[] 0)).get? a=some (seqObj "list" #[] e1):=Heap.get?_push_of_some _ (Heap.get?_push_of_some _ ho1)
  have kp:∀ b o,b≠a→s.heap.get? b=some o→(((s.heap.update a (Obj.mapSeq fun _=>(#[]:Array Value))).push (seqObj "tuple" vs.toArray 0)).push (seqObj "list" #[] 0)).get? b=some o:=fun b o hb e =>
    Heap.get?_push_of_some _ (Heap.get?_push_of_some _ ((Heap.get?_update_other _ _ (Ne.symm hb)).trans e))
  have S:=hs _ kp
  by_cases h2:vs.toArray.size < 2
  · rw [if_pos h2,if_pos h2]
    refine wpAny_bind (wpAny_pure ?_)
    rw [StateT.run_pure]
    refine wpAny_bind (wpAny_pure ?_)
    dsimp only
    refine wpAny_bind (seqEpoch_at ho6 rfl ?_)
    have ez:(vs.toArray.zip vs.toArray).map (·.2)=vs.toArray:=by
      apply Array.toList_inj.mp
      rw [Array.toList_map,zip_snd]
    refine wpAny_bind (listUpdate_at ho6 rfl ?_ (hsz2:=by rw [Array.size_map,Array.size_zip]; simp; omega))
    simp only [bne_self_eq_false,Bool.false_eq_true,if_false]
    refine wpAny_pure ?_
    have:=h vs (List.Perm.refl _) (by
      rw [List.size_toArray] at h2
      match vs,h2 with
      | [],_=>exact List.Pairwise.nil
      | [x],_=>exact List.pairwise_singleton _ _
      | _::_::_,h2=>exact absurd h2 (by simp))
    show P _ { s with heap:=Heap.update _ a (Obj.mapSeq fun _=>(vs.toArray.zip vs.toArray).map (·.2)) }
    rw [ez]
    exact this
  · rw [if_neg h2,if_neg h2]
    have h2':2≤vs.length:=by rw [List.size_toArray] at h2; omega
    refine wpAny_bind (wpAny_mono (S.kind A h2' (fun κ' s'=>κ'=κ∧s'=_) ⟨rfl,rfl⟩) (fun κ' s' hk => ?_) fun _ _ x=>x.elim)
    obtain ⟨rfl,rfl⟩:=hk
    have LO:Tim.LtOk prog w A E { s with heap:=((s.heap.update a (Obj.mapSeq fun _=>(#[]:Array Value))).push (seqObj "tuple" vs.toArray 0)).push (seqObj "list" #[] 0) } (vs.toArray.zip vs.toArray) κ' (fun p=>rnk lt (vs.map kf) (kf p.2)):=fun x y C hx hy hC=>by
      obtain ⟨x1,x2⟩:=zip_self hx
      obtain ⟨y1,y2⟩:=zip_self hy
      rw [x1,y1]
      refine S.less A x.2 y.2 C x2 y2 ?_
      rw [← rnk_lt L (List.mem_map_of_mem x2) (List.mem_map_of_mem y2)]
      exact hC
    refine wpAny_bind (wpAny_mono (Tim.runs_ok LO (st:=SortSt.mk' κ' (vs.toArray.zip vs.toArray) #[] 7 none) (Q:=fun _ st'=>Tim.SB (vs.toArray.zip vs.toArray) κ' st'∧Tim.Seg (fun p=>rnk lt (vs.map kf) (kf p.2)) (arrOf st') 0 (vs.toArray.zip vs.toArray).size) ⟨Array.Perm.refl _,rfl,rfl⟩ rfl fun st' B S'=>⟨B,S'⟩) ?_ fun _ _ e=>e)
    rintro ⟨⟨⟩,st'⟩ s' ⟨rfl,B,S'⟩
    dsimp only at B S' ⊢
    refine wpAny_bind (seqEpoch_at ho6 rfl ?_)
    have hp:((arrOf st').toList.map (·.2)).Perm vs:=by
      have:=(Array.perm_iff_toList_perm.mp B.perm).map (·.2)
      rw [zip_snd] at this
      exact this
    have hout:(arrOf st').map (·.2)=((arrOf st').toList.map (·.2)).toArray:=by
      apply Array.toList_inj.mp
      rw [Array.toList_map]
    rw [hout]
    refine wpAny_bind (listUpdate_at ho6 rfl ?_ (Nat.zero_le _) (by rw [List.size_toArray,hp.length_eq]; omega))
    rw [B.ok]
    simp only [bne_self_eq_false,Bool.false_eq_true,if_false]
    refine wpAny_pure (h _ hp ?_)
    rw [List.pairwise_map,List.pairwise_iff_getElem]
    intro i j hi hj hij
    rw [Array.length_toList] at hi hj
    have q:=S' i j (Nat.zero_le _) (Nat.le_of_lt hij) (by rw [← B.size]; exact hj)
    rw [Tim.kat_some (Array.getElem?_eq_getElem hi),Tim.kat_some (Array.getElem?_eq_getElem hj)] at q
    have m1:(arrOf st')[i].2∈vs:=hp.mem_iff.mp (List.mem_map_of_mem (by simp))
    have m2:(arrOf st')[j].2∈vs:=hp.mem_iff.mp (List.mem_map_of_mem (by simp))
    have:=rnk_lt L (ks:=vs.map kf) (List.mem_map_of_mem m2) (List.mem_map_of_mem m1)
    show lt (kf (arrOf st')[j].2) (kf (arrOf st')[i].2)=false
    rw [← this]
    exact decide_eq_false (by omega)
theorem sorted_all {r:Addr} {Q:Value→Shared→Prop} (L:Lin lt) (hcol:wpAny (model prog w) A.in1 (collect (.ref r)) (fun vs s1=>vs.length≤sizeLine∧∃ (κ:SortKind),(∀ h',(∀ b o,s1.heap.get? b=some o→h'.get? b=some o)→SrtA prog w vs kf lt κ { s1 with heap:=h' }) ∧
      ∀ out:List Value,out.Perm vs→out.Pairwise (fun x y=>lt (kf y) (kf x)=false)→Q (.ref s1.heap.objs.size) { s1 with heap:=sortedHeap (s1.heap.push (seqObj "list" vs.toArray 0)) s1.heap.objs.size vs out.toArray }) E s) :
    wpAny (model prog w) A (call (.builtin "sorted") [.ref r]) Q E s:=by
  refine Calls.call_function_entry kind_sorted plain_sorted entry_sorted (args_sorted1 _) ?_
  unfold Builtin.«sorted»
  refine wpAny_bind (m:=checkCount "sorted" 1 1 _) (wpAny_pure ?_)
  refine wpAny_bind (wpAny_mono hcol (fun vs s1 ⟨sz,κ,hS,hq⟩ => ?_) fun _ _ e=>e)
  refine wpAny_bind (wpAny_newList ?_ sz)
  have hoL:(s1.heap.push (seqObj "list" vs.toArray 0)).get? s1.heap.objs.size=some (seqObj "list" vs.toArray 0):=Heap.get?_push_size _ rfl
  show wpAny _ _ _ _ _ { s1 with heap:=s1.heap.push (seqObj "list" vs.toArray 0) }
  refine wpAny_bind (wpAny_holding (wpAny_call_entry slot_list_sort ⟨_,hoL,rfl⟩ entry_list_sort (list_sort_all (kf:=kf) (κ:=κ) L hoL sz (fun h' kp=>hS h' fun b o e => ?_) fun out o u=>⟨_,rfl,?_⟩) (args_list_sort _)))
  · exact kp b o (Nat.ne_of_lt (Heap.lt_size e)) (Heap.get?_push_of_some _ e)
  · exact wpAny_pure ⟨_,rfl,hq out o u⟩
end

theorem lin_txt:Lin (fun (a b:List Nat)=>decide (a < b)):=by
  refine ⟨fun a=>by simpa using List.lt_irrefl a,fun a b c h1 h2 => ?_,fun a b h1 h2 => ?_⟩
  · simp only [decide_eq_true_eq] at *
    exact List.lt_trans h1 h2
  · simp only [decide_eq_false_iff_not] at *
    exact List.le_antisymm (List.not_lt.mp h2) (List.not_lt.mp h1)
theorem lin_int:Lin (fun (a b:Int)=>decide (a < b)):=by
  refine ⟨fun a=>by simp,fun a b c h1 h2 => ?_,fun a b h1 h2 => ?_⟩
  · simp only [decide_eq_true_eq] at *
    omega
  · simp only [decide_eq_false_iff_not] at *
    omega
def lexB {α β:Type} [DecidableEq α] (l:α→α→Bool) (m:β→β→Bool) (x y:α × β):Bool:=if x.1=y.1 then m x.2 y.2 else l x.1 y.1
theorem lin_lex {α β:Type} [DecidableEq α] {l:α→α→Bool} {m:β→β→Bool} (hl:Lin l) (hm:Lin m):Lin (lexB l m):=by
  refine ⟨fun x=>by unfold lexB; rw [if_pos rfl]; exact hm.irr _,fun x y z h1 h2 => ?_,fun x y h1 h2 => ?_⟩
  · unfold lexB at h1 h2 ⊢
    by_cases e1:x.1=y.1
    · rw [if_pos e1] at h1
      by_cases e2:y.1=z.1
      · rw [if_pos e2] at h2
        rw [if_pos (e1.trans e2)]
        exact hm.tr _ _ _ h1 h2
      · rw [if_neg e2] at h2
        rw [e1,if_neg e2]
        exact h2
    · rw [if_neg e1] at h1
      by_cases e2:y.1=z.1
      · rw [← e2,if_neg e1]
        exact h1
      · rw [if_neg e2] at h2
        have h3:=hl.tr _ _ _ h1 h2
        by_cases e3:x.1=z.1
        · rw [e3,hl.irr] at h3
          cases h3
        · rw [if_neg e3]
          exact h3
  · unfold lexB at h1 h2
    by_cases e1:x.1=y.1
    · rw [if_pos e1] at h1
      rw [if_pos e1.symm] at h2
      exact Prod.ext e1 (hm.tot _ _ h1 h2)
    · rw [if_neg e1] at h1
      rw [if_neg (Ne.symm e1)] at h2
      exact absurd (hl.tot _ _ h1 h2) e1
def adrOf:Value→Addr
  | .ref a=>a
  | _=>0
section
variable {prog:Program} {w:World} {s:Shared}
end
section
variable {X:Cx}
theorem Inv.sortd {pins:List (Addr × Obj)} {σ:St} {H:Hp} {s:Shared} {a:Addr} {its out:List Value} {us:List V} (I:Inv X pins σ H s) (hz:us.length≤sizeLine) (ho:Vals us out) :
    ∃ S,H S=none∧Inv X pins σ (upd H S (.lst us)) { s with heap:=sortedHeap (((s.heap.push (seqObj "list" #[] 0)).update s.heap.objs.size (Obj.mapSeq (· ++ its.toArray))).push (seqObj "list" its.toArray 0)) ((s.heap.push (seqObj "list" #[] 0)).update s.heap.objs.size (Obj.mapSeq (· ++ its.toArray))).objs.size its out.toArray } ∧
      S=((s.heap.push (seqObj "list" #[] 0)).update s.heap.objs.size (Obj.mapSeq (· ++ its.toArray))).objs.size:=by
  have kp:∀ b o,s.heap.get? b=some o→((s.heap.push (seqObj "list" #[] 0)).update s.heap.objs.size (Obj.mapSeq (· ++ its.toArray))).get? b=some o:=fun b o e =>
    (Heap.get?_update_other _ _ (Ne.symm (Nat.ne_of_lt (Heap.lt_size e)))).trans (Heap.get?_push_of_some _ e)
  have I1:Inv X pins σ H { s with heap:=(s.heap.push (seqObj "list" #[] 0)).update s.heap.objs.size (Obj.mapSeq (· ++ its.toArray)) }:=I.kept (t':=s.toks) kp
  obtain ⟨n2,hS⟩:=sortedHeap_is (h:=(s.heap.push (seqObj "list" #[] 0)).update s.heap.objs.size (Obj.mapSeq (· ++ its.toArray))) (vs:=its) (out:=out.toArray)
  refine ⟨_,I1.hok.fresh (Nat.le_refl _),I1.laid (t':=s.toks) (fun b o e=>sortedHeap_keep e) (Nat.le_refl _) ⟨hz,out,n2,ho,hS⟩,rfl⟩
end
end L2

namespace L2
open PySem PySem.Spec PySem.Calls PyProof.Rows PySem.W


abbrev Pky:Type:=List Nat × Int × List Nat
def pkV (x:Str):V→Pky
  | .int i=>(x.cps.toList,i,[])
  | .str y=>(x.cps.toList,0,y.cps.toList)
  | _=>(x.cps.toList,0,[])
def pkH (H:Hp) (a:Addr):Pky:=match H a with
  | some (.tup [.str x,v])=>pkV x v
  | _=>([],0,[])
def ltP:Pky→Pky→Bool:=lexB (fun a b=>decide (a < b)) (lexB (fun a b=>decide (a < b)) (fun a b=>decide (a < b)))
theorem lin_P:Lin ltP:=lin_lex lin_txt (lin_lex lin_int lin_txt)

def Snd (t:Bool) (v:V):Prop:=if t=true then ∃ y,v=.str y else ∃ i,v=.int i
section
variable {prog:Program} {w:World} {A:Around} {s:Shared}
theorem cps_inj {x y:Str} (h:x.cps.toList=y.cps.toList):x=y:=by
  cases x; cases y
  simp only [Str.mk.injEq]
  exact Array.toList_inj.mp h
theorem less_pair {x y:Addr} {a b:Str} {p q:V} {vx vy:List Value} {t:Bool} {C:Bool→Shared→Prop} (hp:Snd t p) (hq:Snd t q) (ix:IsTup s.heap x vx.toArray) (iy:IsTup s.heap y vy.toArray) (rx:Vals [.str a,p] vx) (ry:Vals [.str b,q] vy)
    (h:C (ltP (pkV a p) (pkV b q)) s):wpAny (model prog w) A (keyLt' (tuples' true) (.ref x) (.ref y)) C (fun _ _=>False) s:=by
  obtain ⟨ox,hx,_,n,dx⟩:=ix
  obtain ⟨oy,hy,_,m,dy⟩:=iy
  cases rx with
  | cons r1 rx =>
  cases rx with
  | cons r2 rx =>
  cases rx
  cases ry with
  | cons r3 ry =>
  cases ry with
  | cons r4 ry =>
  cases ry
  obtain ⟨t1,rfl⟩:=r1
  obtain ⟨t3,rfl⟩:=r3
  refine kat_lt hx dx hy dy (kat_cons (wpAny_eqBool_str (kat_go (fun e=>kat_yes ?_) fun e=>kat_no ?_)))
  · have e':a=b:=by simpa using e
    subst e'
    cases t with
    | true =>
      obtain ⟨c,rfl⟩:=hp
      obtain ⟨d,rfl⟩:=hq
      obtain ⟨t2,rfl⟩:=r2
      obtain ⟨t4,rfl⟩:=r4
      have hv:ltP (pkV a (.str c)) (pkV a (.str d))=decide (c.cps.toList < d.cps.toList):=by
        simp only [ltP,lexB,pkV,if_true]
        exact decide_eq_decide.mpr Iff.rfl
      rw [hv] at h
      refine kat_cons (wpAny_eqBool_str (kat_go (fun e=>kat_yes (kat_nil ?_)) fun e=>kat_no (kat_one _ _ (PySem.P.lt_str ?_))))
      · have e':c=d:=by simpa using e
        subst e'
        rw [decide_eq_false (List.lt_irrefl _)] at h
        simpa using h
      · exact h
    | false =>
      obtain ⟨c,rfl⟩:=hp
      obtain ⟨d,rfl⟩:=hq
      obtain ⟨t2,rfl⟩:=r2
      obtain ⟨t4,rfl⟩:=r4
      have hv:ltP (pkV a (.int c)) (pkV a (.int d))=decide (c < d):=by
        simp only [ltP,lexB,pkV,if_true]
        by_cases e:c=d
        · subst e; simp
        · exact (if_neg e).trans (decide_eq_decide.mpr Iff.rfl)
      rw [hv] at h
      refine kat_cons (wpAny_eqBool_int (kat_go (fun e=>kat_yes (kat_nil ?_)) fun e=>kat_no (kat_one _ _ (PySem.P.lt_int ?_))))
      · have e':c=d:=by simpa using e
        subst e'
        simpa using h
      · exact h
  · have e':¬ a=b:=by simpa using e
    show wpAny _ _ (oneLt' true _ _) _ _ _
    refine oneLt_str ?_
    have hv:ltP (pkV a p) (pkV b q)=decide (a.cps.toList < b.cps.toList):=by
      have f1:∀ (x:Str) (v:V),(pkV x v).1=x.cps.toList:=fun x v=>by cases v <;> rfl
      unfold ltP lexB
      rw [f1,f1,if_neg fun e=>e' (cps_inj e)]
    rw [← hv]
    exact h

def Prs (H:Hp) (t:Bool) (as:List Addr):Prop:=∀ b∈as,∃ x v,H b=some (.tup [.str x,v])∧Snd t v
theorem srt_prs {H:Hp} {t:Bool} {as:List Addr} (hP:Prs H t as) (hok:∀ b x v,H b=some (.tup [.str x,v])→∃ its:List Value,Vals [.str x,v] its∧IsTup s.heap b its.toArray) :
    SrtA prog w (as.map Value.ref) (fun v=>pkH H (adrOf v)) ltP (tuples' true) s:=by
  refine ⟨fun A h2 Q q => ?_,fun A x y C hx hy q => ?_⟩
  · have kt:∀ (as:List Addr),Prs H t as→∃ fs:List Value,KatTups s.heap (as.map Value.ref) fs∧fs.length=as.length∧∀ v∈fs,∃ (k:Str) (t:Tok),v=.str k t:=by
      intro as
      induction as with
      | nil=>intro _; exact ⟨[],KatTups.nil,rfl,fun v hv=>nomatch hv⟩
      | cons a as ih =>
        intro hP
        obtain ⟨x,v,e,_⟩:=hP a (by simp)
        obtain ⟨its,r,o,ho,hc,n,hd⟩:=hok a x v e
        obtain ⟨fs,f1,f2,f3⟩:=ih fun b hb=>hP b (by simp [hb])
        cases r with
        | cons r1 r =>
          obtain ⟨tk,rfl⟩:=r1
          refine ⟨.str x tk::fs,KatTups.cons ho hc hd (by simp) f1,by simp [f2],fun v hv => ?_⟩
          rcases List.mem_cons.mp hv with rfl | hv
          · exact ⟨x,tk,rfl⟩
          · exact f3 v hv
    obtain ⟨fs,f1,f2,f3⟩:=kt as hP
    refine kat_kind (T:=.type "str") f1 (by rw [f2]; rw [List.length_map] at h2; omega) (fun v hv => ?_) (by decide) q
    obtain ⟨k,t,rfl⟩:=f3 v hv
    exact Looks.now
  · obtain ⟨a,ha,rfl⟩:=List.mem_map.mp hx
    obtain ⟨b,hb,rfl⟩:=List.mem_map.mp hy
    obtain ⟨x,v,e1,s1⟩:=hP a ha
    obtain ⟨y,u,e2,s2⟩:=hP b hb
    obtain ⟨ix,r1,i1⟩:=hok a x v e1
    obtain ⟨iy,r2,i2⟩:=hok b y u e2
    refine less_pair s1 s2 i1 i2 r1 r2 ?_
    have f1:pkH H (adrOf (.ref a))=pkV x v:=by show pkH H a=_; unfold pkH; rw [e1]
    have f2:pkH H (adrOf (.ref b))=pkV y u:=by show pkH H b=_; unfold pkH; rw [e2]
    rw [← f1,← f2]
    exact q
end
section
variable {X:Cx}
theorem vals_refs:∀ {as:List Addr} {its:List Value},Vals (as.map V.ref) its→its=as.map Value.ref
  | [],its,r=>by cases r; rfl
  | a::as,its,r=>by
    cases r with
    | cons h t =>
      rw [vals_refs t,show _=Value.ref a from h]
      rfl
theorem refs_vals:∀ (as:List Addr),Vals (as.map V.ref) (as.map Value.ref)
  | []=>.nil
  | _::as=>.cons rfl (refs_vals as)
theorem call_sortP (hc:X.calm=true):CallR X (.builtin "sorted") (fun xs H Q=>∃ (a:Addr) (t:Bool) (as:List Addr),xs=[.ref a]∧SqL X.K H a (as.map V.ref)∧Prs H t as ∧
    ∀ (S:Addr) (as':List Addr),H S=none→as'.Perm as→as'.Pairwise (fun x y=>ltP (pkH H y) (pkH H x)=false)→Q (.ref S) (upd H S (.lst (as'.map V.ref)))):=by
  intro pins s σ H xs us Q I r h
  obtain ⟨a,t,as,rfl,hS,hP,q⟩:=h
  obtain ⟨u,rfl,ru⟩:=vals1 r
  cases ru
  obtain ⟨its,rv,pl,sz⟩:=I.list hS
  have sz':its.length≤sizeLine:=by rw [← rv.length]; exact sz
  obtain rfl:=vals_refs rv
  refine sorted_all (kf:=fun v=>pkH H (adrOf v)) lin_P (collect_list pl.isList ?_ sz')
  have kp0:∀ b o,s.heap.get? b=some o→((s.heap.push (seqObj "list" #[] 0)).update s.heap.objs.size (Obj.mapSeq (· ++ (as.map Value.ref).toArray))).get? b=some o:=fun b o e =>
    (Heap.get?_update_other _ _ (Ne.symm (Nat.ne_of_lt (Heap.lt_size e)))).trans (Heap.get?_push_of_some _ e)
  refine ⟨sz',tuples' true,fun h' kp=>srt_prs (t:=t) hP fun b x v e => ?_,fun out hp hw => ?_⟩
  · obtain ⟨_,its,r,it⟩:=I.hok b _ e
    exact ⟨its,r,it.keeps fun c o e=>kp c o (kp0 c o e)⟩
  have ro:out=(out.map adrOf).map Value.ref:=by
    rw [List.map_map]
    refine (List.map_id out).symm.trans (List.map_congr_left fun v hv => ?_)
    obtain ⟨b,_,rfl⟩:=List.mem_map.mp (hp.mem_iff.mp hv)
    rfl
  have pm:(out.map adrOf).Perm as:=by
    have:=hp.map adrOf
    rw [List.map_map] at this
    have e:as.map (adrOf ∘ Value.ref)=as:=(List.map_congr_left fun b _=>rfl).trans (List.map_id as)
    rw [e] at this
    exact this
  have rv2:Vals ((out.map adrOf).map V.ref) out:=by
    have:=refs_vals (out.map adrOf)
    rw [← ro] at this
    exact this
  obtain ⟨S,h1,h2,h3⟩:=I.sortd (a:=a) (its:=as.map Value.ref) (by rw [rv2.length,hp.length_eq]; exact sz') rv2
  subst h3
  refine ⟨.ref _,_,h2,rfl,q _ _ h1 pm ?_⟩
  rw [List.pairwise_map]
  exact hw
end
end L2

namespace L2
open PySem PySem.Spec PySem.Calls PyProof.Rows PySem.W

section
variable {X:Cx} {e lo st:Expr} {te:TE} {tl ts:TO} {p2 pos:Pos}
end
end L2

namespace L2
open PySem PySem.Spec PySem.Calls PyProof.Rows PySem.W

theorem lk_list_keys:typeLookup (.type "list") "keys" = pure none:=by rw [typeLookup_type,builtinLookup_eq_fast]; kernel_rfl
theorem entry_dul:entryFor table "dict.update.loop" = some Builtin.«dict.update.loop» := entryFor_of_tree (by kernel_rfl)
theorem plain_dul:plainId "dict.update.loop" = true:=by decide +kernel
section
variable {prog:Program} {w:World} {A:Around} {E:Value→Shared→Prop} {s:Shared} {a:Addr} {o:Obj} {xs:Array Value} {k:Nat}
theorem attr_miss {name:Str} {u:Tok} {Q:Value→Shared→Prop}
    (hx:s.heap.get? a=some o) (hc:o.cls=.type "list") (hdat:o.data=.seq xs k) (hd:o.dict=none) (hmiss:typeLookup (.type "list") name=pure none) (hname:(["__module__","__name__","__qualname__","__doc__","__annotations__"]:List Str).contains name=false) (hA:A.handled=none)
    (h:∀ h' tk e,Heap.NewExcOf s.heap h' e "AttributeError" → E (.ref e) { s with heap:=h',toks:=tk }) (hsz:name.length + 100≤sizeLine:=by size_fits) :
    wpAny (model prog w) A (getAttrBy (.ref a) (.str name u) false) Q E s:=by
  obtain ⟨c,dct,dat,sl⟩:=o
  simp only at hc hdat hd
  subst hc hdat hd
  obtain ⟨hp,g,d,tk,os⟩:=s
  have hT:∀ tk',(⟨hp,g,d,tk',os⟩:Shared).TypeIs (.ref a) "list" := fun _=>⟨_,hx,rfl⟩
  have f1:=sub_AttributeError
  have f3:=PySem.F.slot_list_getattribute.lookup
  have f4:=PySem.F.slot_list_getattribute.bind (.ref a)
  have f5:=am_list_getattr_none
  unfold getAttrBy
  repeat (any_goals (first | assumption | exact hT _ | ((with_reducible show wpAny _ _ (call (Value.builtin "list.__getattribute__") _ _) _ _ _); refine call_meets PySem.F.slot_list_getattribute (hT _) am_entry_list_getattribute (PySem.F.args_list_getattribute_2 _ _) (meets_getattribute_miss_list a xs k sl name _ hmiss hname hsz) ⟨hx,hA,fun h' tk' e hx' => ?_⟩) | wp_step))
  all_goals (try (obtain ⟨t',u',he⟩:=hx'.there))
  all_goals (try (show wpAny _ _ (getattributeRaised _ _ _ _ _ _ _) _ _ _; unfold getattributeRaised))
  repeat (any_goals (first | assumption | wp_step))
  exact h _ _ _ hx'.of
theorem no_keys {Q:Option Value→Shared→Prop} (hx:s.heap.get? a=some o) (hc:o.cls=.type "list") (hdat:o.data=.seq xs k) (hd:o.dict=none) (hA:A.handled=none)
    (h:∀ h' tk,(∀ b u,s.heap.get? b=some u→h'.get? b=some u)→Q none { s with heap:=h',toks:=tk }):wpAny (model prog w) A (getAttr? (.ref a) "keys") Q E s:=by
  unfold getAttr? getAttrBy?
  refine wpAny_bind (wpAny_mkText (wpAny_bind (wpAny_attempt (attr_miss (s:={ s with toks:=s.toks + 1 }) hx hc hdat hd lk_list_keys (by decide +kernel) hA (fun h' tk e x => ?_) (by rw [sizeLine_eq]; decide +kernel)))))
  obtain ⟨ob,vs,e1,e2,_⟩:=x.there
  have hT:({ s with heap:=h',toks:=tk }:Shared).TypeIs (.ref e) "AttributeError" := ⟨ob,e1,e2⟩
  show wpAny _ _ (isInstance (.ref e) (.type "AttributeError") >>= _) _ _ _
  refine wpAny_bind (wpAny_isInstance hT sub_AttributeError ?_)
  simp only [if_true]
  exact wpAny_pure (h h' tk x.keeps)

def PrsH {K:Type} [DecidableEq K] (knd:KeyKind prog w K) (h:Heap) (items:Array Value) (ps:List (K × Value)):Prop :=
  items.size=ps.length∧∀ (i:Nat) (v:Value),items[i]? = some v→∃ (a:Addr) (o:Obj) (n:Nat) (key x:Value) (k:K),v=.ref a∧h.get? a=some o∧o.cls=.type "tuple" ∧ o.data=.seq #[key,x] n∧knd.is k key=true∧ps[i]? = some (k,x)
theorem dul_ok {K:Type} [DecidableEq K] {knd:KeyKind prog w K} {R:Result→Shared→Prop} {d it l:Addr} {items:Array Value} {ps:List (K × Value)} (hh:A.handled=none) (hdl:d≠l) (hdi:d≠it) (hli:l≠it) (nd:(ps.map (·.1)).Nodup) (hsz:ps.length≤sizeLine) :
    ∀ (m i:Nat) (s:Shared) (tk:Tok),items.size - i=m→i≤items.size→s.heap.IsListIter it l i→s.heap.IsList l items→PrsH knd s.heap items ps→s.heap.DictOf knd d (ps.take i) →
      (∀ (j:Nat) (b:Addr),items[j]? = some (.ref b)→b≠d∧b≠it) →
      (∀ h' tk',h'.DictOf knd d ps→(∀ b u,b≠d→b≠it→s.heap.get? b=some u→h'.get? b=some u)→R (.ok (.ret .none)) { s with heap:=h',toks:=tk' }) →
      codeAny (model prog w) A (.builtin "dict.update.loop" ⟨[.ref d,.ref it,.int (i:Int) tk,.none],[]⟩) R s:=by
  intro m
  induction m with
  | zero =>
    intro i s tk hm hi hit hl hP hd hne hR
    have e:i=items.size:=by omega
    subst e
    refine codeAny_builtin entry_dul ?_
    rw [Around.under_plainId plain_dul _]
    show wpAny _ A.in1 (pyNext (.ref it) >>= _) _ _ s
    refine wpAny_bind ((Walks.list (A:=A.in1) hh it l hli items).done s _ _ ⟨hit,hl⟩ fun h' tk' kk => ?_)
    show wpAny _ _ (Builtin.Dict.addKeywords d [] >>= fun _=>ret Value.none) _ _ _
    refine wpAny_bind (wpAny_pure (wpAny_pure (hR h' tk' ?_ fun b u _ hb e=>kk b u (by simpa using hb) e)))
    have e1:ps.take items.size=ps:=by rw [hP.1]; exact List.take_length
    rw [e1] at hd
    obtain ⟨o,es,ep,ho,r⟩:=hd
    exact ⟨o,es,ep,kk d o (by simpa using hdi) ho,r⟩
  | succ m ih =>
    intro i s tk hm hi hit hl hP hd hne hR
    have hlt:i < items.size:=by omega
    refine codeAny_builtin entry_dul ?_
    rw [Around.under_plainId plain_dul _]
    show wpAny _ A.in1 (pyNext (.ref it) >>= _) _ _ s
    refine wpAny_bind ((Walks.list (A:=A.in1) hh it l hli items).item i s _ _ hlt ⟨hit,hl⟩ fun v h' tk' hv st' kk => ?_)
    obtain ⟨b,o,n,key,x,k,rfl,hb,hc,hdat,hk,hps⟩:=hP.2 i v hv
    have hbn:=hne i b hv
    have hb':h'.get? b=some o:=kk b o (by simpa using hbn.2) hb
    have hd':h'.DictOf knd d (ps.take i):=by
      obtain ⟨o,es,ep,ho,r⟩:=hd
      exact ⟨o,es,ep,kk d o (by simpa using hdi) ho,r⟩
    dsimp only
    refine wpAny_bind (wpAny_holding (wpAny_bind (wpAny_tryCatch ?_)))
    unfold Builtin.Dict.pairItems
    refine wpAny_bind (wpAny_typeOf (T := "tuple") ⟨o,hb',hc⟩ ?_)
    rw [if_pos (by decide)]
    unfold seqItems?
    refine wpAny_bind (wpAny_bind (wpAny_load hb' ?_))
    rw [hdat]
    refine wpAny_pure (wpAny_pure ?_)
    show wpAny _ _ (holding [key,x] (dictSet d key x)) _ _ _
    have hi2:i < ps.length:=(List.getElem?_eq_some_iff.mp hps).1
    have et:ps.take (i + 1)=ps.take i++[(k,x)]:=by rw [List.take_add_one,hps]; rfl
    refine wpAny_holding (wpAny_dictSet_pairs (s:={ s with heap:=h',toks:=tk' }) hk hd' (fun h2 hd2 sb => ?_) (by rw [List.length_take]; omega))
    have ea:stored (ps.take i) k x=ps.take (i + 1):=by
      unfold stored
      rw [if_neg,et]
      intro h
      rw [List.any_eq_true] at h
      obtain ⟨q,hq,e⟩:=h
      have e':q.1=k:=by simpa using e
      have nd2:((ps.take (i + 1)).map (·.1)).Nodup:=by
        have:=nd.sublist ((List.take_sublist (i + 1) ps).map (·.1))
        exact this
      rw [et,List.map_append,List.nodup_append] at nd2
      exact nd2.2.2 q.1 (List.mem_map_of_mem hq) k (by simp) e'
    rw [ea] at hd2
    have kk2:∀ b u,b≠d→h'.get? b=some u→h2.get? b=some u:=fun b u hb e=>(sb.2 b hb).trans e
    refine wpAny_pure ⟨plainId_quiet plain_dul _,?_⟩
    have ei:rawInt ((i:Int) + 1)=Value.int ((i + 1:Nat):Int) 0:=rfl
    rw [ei]
    refine ih (i + 1) { s with heap:=h2,toks:=tk' + 1 } 0 (by omega) hlt ?_ ?_ ?_ hd2 hne fun h3 tk3 q1 q2=>hR h3 tk3 q1 fun b u hb1 hb2 e=>q2 b u hb1 hb2 (kk2 b u hb1 (kk b u (by simpa using hb2) e))
    · exact st'.1.at fun o e=>kk2 it o (Ne.symm hdi) e
    · exact st'.2.at fun o e=>kk2 l o (Ne.symm hdl) e
    · refine ⟨hP.1,fun j v hv' => ?_⟩
      obtain ⟨b',o',n',key',x',k',e1,e2,e3,e4,e5,e6⟩:=hP.2 j v hv'
      subst e1
      have hbn':=hne j b' hv'
      exact ⟨b',o',n',key',x',k',rfl,kk2 b' o' hbn'.1 (kk b' o' (by simpa using hbn'.2) e2),e3,e4,e5,e6⟩
end
section
variable {prog:Program} {w:World} {A:Around} {E:Value→Shared→Prop} {s:Shared}
theorem call_dict_pairs {K:Type} [DecidableEq K] {knd:KeyKind prog w K} {l:Addr} {items:Array Value} {ps:List (K × Value)} {Q:Value→Shared→Prop} (hh:A.handled=none) (hl:PlainL s.heap l items) (hP:PrsH knd s.heap items ps) (nd:(ps.map (·.1)).Nodup) (hsz:ps.length≤sizeLine)
    (h:∀ h' tk,h'.DictOf knd s.heap.objs.size ps→(∀ b u,s.heap.get? b=some u→h'.get? b=some u)→Q (.ref s.heap.objs.size) { s with heap:=h',toks:=tk }) :
    wpAny (model prog w) A (call (.type "dict") [.ref l]) Q E s:=by
  refine callType_codes (Q₁:=fun obj s₁=>obj=.ref s.heap.objs.size∧s₁={ s with heap:=s.heap.push { cls:=.type "dict",data:=.dict #[] } }) PySem.F.kt_called_dict (PySem.F.kt_typeCall_dict_1 _) PySem.F.entry_dict_init (kt_code_dict_new _ ⟨rfl,rfl⟩) ?_
  rintro obj s₁ ⟨rfl,rfl⟩
  have hnew:(s.heap.push { cls:=.type "dict",data:=.dict #[] }).DictOf knd s.heap.objs.size []:=Heap.DictOf.new s.heap
  obtain ⟨o,n,ho,hc,hd0,hdat⟩:=hl
  have hol:l < s.heap.objs.size:=Heap.lt_size ho
  have ho':(s.heap.push { cls:=.type "dict",data:=.dict #[] }).get? l=some o:=Heap.get?_push_of_some _ ho
  refine ⟨hnew.typeIs,PySem.F.args_dict_init_2 _ _,?_⟩
  unfold Builtin.«dict.__init__»
  refine wpAny_bind ?_
  unfold Builtin.Dict.selfAndRest
  refine wpAny_bind (wpAny_notOrdered_dict hnew.typeIs ?_)
  show wpAny _ _ (pure (s.heap.objs.size,[Value.ref l])) _ _ _
  refine wpAny_pure ?_
  show wpAny _ _ (Builtin.Dict.updateFrom "dict.__init__" s.heap.objs.size (.ref l) [] .none) _ _ _
  unfold Builtin.Dict.updateFrom
  refine wpAny_bind (wpAny_typeOf (T := "list") ⟨o,ho',hc⟩ ?_)
  rw [if_pos (by decide)]
  refine wpAny_bind (no_keys ho' hc hdat hd0 hh fun h1 tk1 k1 => ?_)
  dsimp only at k1 ⊢
  rw [if_pos (show (none:Option Value).isNone=true from rfl)]
  refine wpAny_bind (wpAny_rule ?_)
  have hl1:h1.IsList l items:=⟨o,k1 l o ho',hc,n,hdat⟩
  refine wpAny_bind (wpAny_pyIter_list hl1 ?_)
  dsimp only
  have hd1:h1.DictOf knd s.heap.objs.size []:=by
    obtain ⟨o,es,ep,ho,r⟩:=hnew
    exact ⟨o,es,ep,k1 _ o ho,r⟩
  have hsd:s.heap.objs.size < h1.objs.size:=by
    obtain ⟨o,es,ep,ho,r⟩:=hd1
    exact Heap.lt_size ho
  refine wpAny_pure ⟨plainId_quiet plain_dul _,?_⟩
  have e0:rawInt 0=Value.int ((0:Nat):Int) 0:=rfl
  rw [e0]
  have kp:∀ b u,s.heap.get? b=some u→h1.get? b=some u:=fun b u e=>k1 b u (Heap.get?_push_of_some _ e)
  have hit:(h1.push { cls:=.type "list_iterator",data:=.fields #[.ref l,.int 0 0] }).IsListIter h1.objs.size l 0:=⟨_,Heap.get?_push_size _ rfl,rfl,rfl⟩
  refine dul_ok (A:=A.in1) (knd:=knd) (l:=l) (items:=items) (ps:=ps) (show A.in1.handled=none from hh) (Nat.ne_of_gt hol) (Nat.ne_of_lt hsd) (Nat.ne_of_lt (Nat.lt_trans hol hsd)) nd hsz items.size 0 { s with heap:=h1.push { cls:=.type "list_iterator",data:=.fields #[.ref l,.int 0 0] },toks:=tk1 } 0 (by omega) (Nat.zero_le _) hit ?_ ?_ ?_ ?_ fun h2 tk2 q1 q2 => ?_
  · obtain ⟨o',ho2,r⟩:=hl1
    exact ⟨o',Heap.get?_push_of_some _ ho2,r⟩
  · refine ⟨hP.1,fun j v hv => ?_⟩
    obtain ⟨b',o',n',key',x',k',e1,e2,e3,e4,e5,e6⟩:=hP.2 j v hv
    exact ⟨b',o',n',key',x',k',e1,Heap.get?_push_of_some _ (kp _ _ e2),e3,e4,e5,e6⟩
  · obtain ⟨o',es,ep,ho2,r⟩:=hd1
    exact ⟨o',es,ep,Heap.get?_push_of_some _ ho2,r⟩
  · intro j b hv
    obtain ⟨b',o',n',key',x',k',e1,e2,_⟩:=hP.2 j _ hv
    cases e1
    have:=Heap.lt_size e2
    exact ⟨Nat.ne_of_lt this,Nat.ne_of_lt (Nat.lt_trans this hsd)⟩
  · exact ⟨rfl,h h2 tk2 q1 fun b u e=>q2 b u (Nat.ne_of_lt (Heap.lt_size e)) (Nat.ne_of_lt (Nat.lt_trans (Heap.lt_size e) hsd)) (Heap.get?_push_of_some _ (kp b u e))⟩
end

abbrev PairsAt (H:Hp):List Addr→List (Key × V)→Prop:=Paired fun a kv=>H a=some (.tup [kV kv.1,kv.2])
section
variable {X:Cx}
theorem call_dictL (hc:X.calm=true):CallR X (.type "dict") (fun xs H Q=>∃ (a:Addr) (as:List Addr) (kvs:List (Key × V)),xs=[.ref a]∧SqL X.K H a (as.map V.ref)∧PairsAt H as kvs∧(kvs.map (·.1)).Nodup∧∀ p,H p=none→Q (.ref p) (upd H p (.dK kvs))):=by
  intro pins s σ H xs us Q I r h
  obtain ⟨a,as,kvs,rfl,hS,hA,nd,q⟩:=h
  obtain ⟨u,rfl,ru⟩:=vals1 r
  cases ru
  obtain ⟨its,rv,pl,sz⟩:=I.list hS
  obtain rfl:=vals_refs rv
  have key:∀ (as:List Addr) (kvs:List (Key × V)),PairsAt H as kvs→∃ ps:List (Key × Value),KV kvs ps∧PrsH (mixKind X.prog X.w) s.heap (as.map Value.ref).toArray ps:=by
    intro as
    induction as with
    | nil =>
      intro kvs h
      cases h
      exact ⟨[],.nil,rfl,fun i v hv=>by simp at hv⟩
    | cons b as ih =>
      intro kvs h
      cases h with
      | @cons _ kv _ kvs hb t =>
        obtain ⟨ps,k1,k2,k3⟩:=ih kvs t
        obtain ⟨_,its,ri,o,ho,hcl,n,hdat⟩:=I.hok b _ hb
        cases ri with
        | cons r1 ri=>cases ri with
          | cons r2 ri =>
            cases ri
            rename_i key' x'
            refine ⟨(kv.1,x')::ps,.cons ⟨rfl,r2⟩ k1,?_,fun i v hv => ?_⟩
            · rw [List.size_toArray,List.length_map] at k2 ⊢
              rw [List.length_cons,List.length_cons,k2]
            · cases i with
              | zero =>
                have e:Value.ref b=v:=by simpa using hv
                exact ⟨b,o,n,key',x',kv.1,e.symm,ho,hcl,by rw [hdat],kV_is r1,rfl⟩
              | succ i =>
                obtain ⟨b',o',n',key',x',k',e1,e2,e3,e4,e5,e6⟩:=k3 i v (by simpa using hv)
                exact ⟨b',o',n',key',x',k',e1,e2,e3,e4,e5,by simpa using e6⟩
  obtain ⟨ps,k1,k2⟩:=key as kvs hA
  have lk:kvs.length=ps.length:=KV.length k1
  have lps:ps.length≤sizeLine:=by
    have:=k2.1
    rw [List.size_toArray,List.length_map] at this
    rw [List.length_map] at sz
    omega
  have ek:ps.map (·.1)=kvs.map (·.1):=by
    have:∀ {kvs:List (Key × V)} {ps:List (Key × Value)},KV kvs ps→ps.map (·.1)=kvs.map (·.1):=fun {kvs}=>by
      induction kvs with
      | nil=>intro ps h; cases h; rfl
      | cons a kvs ih =>
        intro ps h
        cases h with
        | cons r t=>rw [List.map_cons,List.map_cons,ih t,r.1]
    exact this k1
  refine call_dict_pairs (knd:=mixKind X.prog X.w) (ps:=ps) (I.ok.hd hc) pl k2 (by rw [ek]; exact nd) lps fun h' tk hd kp => ?_
  refine ⟨.ref s.heap.objs.size,upd H s.heap.objs.size (.dK kvs),I.laid (t':=tk) kp (Nat.le_refl _) ⟨by omega,?_,ps,k1,hd⟩,rfl,q _ (I.hok.fresh (Nat.le_refl _))⟩
  have:=I.big
  cases e:(s.heap.objs.size == sysModules) with
  | false=>rfl
  | true =>
    have e':s.heap.objs.size=sysModules:=by simpa using e
    rw [e'] at this
    exact absurd this (Nat.lt_irrefl _)
end

section
variable {X:Cx}
theorem op_inD (hu:X.A.units + 1 < cLine):OpR X (compareOp .In) (fun x y H Q=>∃ (a:Addr) (o:Option V),y=.ref a∧DGet H a x o∧Q (.bl o.isSome) H):=by
  intro pins s σ H x y v u Q I rx ry h
  obtain ⟨a,o,rfl,g,q⟩:=h
  cases ry
  exact d_in hu I g rx fun s' I'=>⟨.bl _,H,I',rfl,q⟩
end
end L2

namespace L2
open PySem PySem.Spec PySem.Calls PyProof.Rows PySem.W

section
variable {P:Program} {w:World} {K:PySem.W.Frag} {mg:Str→Option Value} {base:Heap} {N:List Str} {qual:Str} {scope:Scope} {f:Addr} {cd:Value} {cl:List (Str × Addr)} {A:Around} {outer:List Env} {s0:Shared} {H0:Hp} {E:XK}
end

section
variable {X:Cx}
end

section
variable {X:Cx}
end
end L2

namespace L2
open PySem PySem.Spec PySem.Calls PyProof.Rows

section
variable {X:Cx} {st:Stmt} {rest:List Stmt} {t u:TS} {pos:Pos} {e a b:PySem.Expr} {te ta tb:TE}
end
section
variable {P:Program} {w:World} {K:PySem.W.Frag} {mg:Str→Option Value} {base:Heap}
end
end L2

namespace L2
open PySem PySem.Spec PySem.Calls PyProof.Rows

section
variable {X:Cx} {tg:Expr}
end

section
variable {X:Cx}
end
end L2

namespace L2
open PySem PySem.Spec PySem.Calls PyProof.Rows PySem.W

section
variable {prog:Program} {w:World} {A:Around} {E:Value→Shared→Prop} {s:Shared}
end
section
variable {X:Cx}
end

section
variable {prog:Program} {w:World} {A:Around} {E:Value→Shared→Prop} {s:Shared}
end
section
variable {prog:Program} {w:World} {A:Around} {E:Value→Shared→Prop} {s:Shared}
end
section
variable {X:Cx}

end
section
variable {X:Cx} {K:PySem.W.Frag}

end
end L2

namespace L2
open PySem PySem.Spec PySem.Calls PyProof.Rows PySem.W

section
variable {prog:Program} {w:World} {K:Type} [DecidableEq K] {knd:HeapKind prog w K} {A:Around} {E:Value→Shared→Prop} {s:Shared} {d b:Addr} {k:K} {ps:List (K × Addr × Value)}
theorem setd_ok {v:Value} {Q:Value→Shared→Prop} (hu:knd.room A) (hkey:knd.is s.heap k b) (hm:s.heap.DictOfH knd d ps) (hz:ps.length≤sizeLine)
    (h1:∀ p,atKey ps k=some p→Q p.2 { s with toks:=s.toks + knd.draws k })
    (h2:atKey ps k=none→∀ h',h'.DictOfH knd d (storedH ps k b v)→Heap.SameBut d s.heap h'→Q v { s with heap:=h',toks:=s.toks + knd.draws k }) :
    wpAny (model prog w) A (dictSetDefault d (.ref b) v) Q E s:=by
  obtain ⟨o,es,ep,ho,hc,hd,he,his,hn⟩:=hm
  unfold dictSetDefault
  try with_reducible refine wpAny_holding ?_
  refine wpAny_bind (knd.pyHash hu hkey (wpAny_bind (wpAny_dictFind_heap (s:={ s with toks:=s.toks + knd.draws k }) hu hkey ho hd he his hn (fun no => ?_) fun j p hj => ?_)))
  · have e0:=atKey_none_of_get no
    have hnot:k∉ps.map (·.1):=not_mem_keys_of_get no
    have sz:=size_of_entries he
    refine wpAny_bind (wpAny_rule (wpAny_bind (wpAny_updateDictKeys (hz:=by omega) (s:={ s with toks:=s.toks + knd.draws k }) ho hd (wpAny_pure (h2 e0 _ ⟨_,_,ep + 1,Heap.get?_update_self _ ho (Obj.isFreed_of_dict (Obj.data_mapDictKeys hd _)),hc.mapDictKeys _,Obj.data_mapDictKeys hd _,?_,?_,?_⟩ (Heap.SameBut.update ..))))))
    all_goals rw [storedH_new e0]
    · simp [he,entryOfKey]
    · intro y hy
      rcases List.mem_append.mp hy with hy | hy
      · exact knd.keeps (his y hy) ho hd (Heap.SameBut.update ..)
      · rw [List.mem_singleton.mp hy]
        exact knd.keeps hkey ho hd (Heap.SameBut.update ..)
    · rw [List.map_append]
      refine List.nodup_append.mpr ⟨hn,by simp,fun y hy z hz' e => ?_⟩
      have hz2:z=k:=by simpa using hz'
      exact hnot (by rw [← hz2,← e]; exact hy)
  · have e1:=atKey_of_get hn hj
    refine wpAny_bind (wpAny_dictEntries (s:={ s with toks:=s.toks + knd.draws k }) ho hd ?_)
    rw [entry_at he j,hj]
    exact wpAny_bind (wpAny_rule (wpAny_pure (h1 _ e1)))
theorem meets_setdH (hd:(d == sysModules)=false) (v:Value) :
    MeetsIn prog w (Builtin.«dict.setdefault» ⟨[.ref d,.ref b,v],[]⟩) (fun A R s=>knd.room A.in1∧∃ k ps,knd.is s.heap k b∧s.heap.DictOfH knd d ps∧ps.length≤sizeLine ∧
      (∀ p,atKey ps k=some p→R (.ok (.ret p.2)) { s with toks:=s.toks + knd.draws k }) ∧
      (atKey ps k=none→∀ h',h'.DictOfH knd d (storedH ps k b v)→Heap.SameBut d s.heap h'→R (.ok (.ret v)) { s with heap:=h',toks:=s.toks + knd.draws k })) :=
  .of_wp fun A R s ⟨hu,k,ps,hkey,hm,hz,h1,h2⟩=>by
    unfold Builtin.«dict.setdefault»
    refine wpAny_bind ?_
    unfold Builtin.Dict.keyAndDefault
    refine wpAny_bind (wpAny_notOrdered_dict hm.typeIs (wpAny_pure ?_))
    show wpAny _ _ (if (d == sysModules)=true then _ else (dictSetDefault d (.ref b) v >>= _)) _ _ s
    rw [if_neg (by rw [hd]; exact Bool.false_ne_true)]
    exact wpAny_bind (setd_ok hu hkey hm hz (fun p hp=>wpAny_pure ⟨p.2,rfl,h1 p hp⟩) fun hn h' hm' sb=>wpAny_pure ⟨v,rfl,h2 hn h' hm' sb⟩)
end
def tDSetT (td ty tx:TE):TE:=fun σ H Q=>td σ H fun x H1=>∃ a,x=.ref a∧IsD H1 a∧ty σ H1 fun y H2=>tx σ H2 fun z H3=>∃ (kvs:List (List Key × V)) (k:List Key) (b:Addr),H3 a=some (.dT kvs)∧y=.ref b∧H3 b=some (.tup (k.map kV))∧kvs.length < sizeLine ∧
  (∀ v,valV kvs k=some v→Q v H3)∧(valV kvs k=none→Q z (upd H3 a (.dT (putK kvs k z))))
section
variable {X:Cx} {o e f:Expr} {apos cpos:Pos} {td ty tx:TE}
theorem pe_dsetT (hu:X.A.units + 1 < cLine) (ho:PE X o td) (he:PE X e ty) (hf:PE X f tx) (m:M2 X o "setdefault" apos e f cpos):PE X (.Call (.Attribute o "setdefault" apos) [e,f] [] cpos) (tDSetT td ty tx):=by
  intro pins s σ H Q I h
  refine wpAny_Call_method m.base m.few m.line PySem.F.plainAttrs_dict PySem.F.slot_dict_setdefault PySem.F.type_dict_setdefault (thn (ho pins s σ H _ I h) fun u s1 ⟨x,H1,I1,rx,a,ex,d,q1⟩ => ?_)
  subst ex
  obtain rfl:u=Value.ref a:=rx
  obtain ⟨t1,t2,_⟩:=isD_at I1 d
  refine ⟨t1,t2,?_⟩
  rw [m.trees]
  refine Calls.callWith_builtin rfl (Calls.evalArgs_plain (Calls.spliced_cons (thn (he pins s1 σ H1 _ I1 q1) fun iv s2 ⟨y,H2,I2,ry,q2⟩ =>
    Calls.spliced_cons (thn (hf pins s2 σ H2 _ I2 q2) fun fv s3 ⟨z,H3,I3,rz,kvs,k,b,e3,ey,eb,l,g1,g2⟩=>Calls.spliced_nil ?_))))
  subst ey
  cases (show iv=Value.ref b from ry)
  obtain ⟨zl,hd,ps,rel,dd⟩:=dt_of I3.hok e3
  have hz:ps.length≤sizeLine:=by rw [← Paired.length rel]; exact zl
  have hl:(putK kvs k z).length≤sizeLine:=by have:=length_putK kvs k z; omega
  have rv:=rel.val k
  refine call_meetsIn PySem.F.slot_dict_setdefault dd.typeIs PySem.F.entry_dict_setdefault (PySem.F.args_dict_setdefault_3 _ _ _) (meets_setdH (knd:=tupleKind (mixKind X.prog X.w)) hd fv) ⟨tupleKind_room_in1 hu,k,ps,key_of I3.hok eb,dd,hz,fun p hp => ?_,fun hno h' dd' sb => ?_⟩
  · rw [hp] at rv
    cases hv:valV kvs k with
    | none=>rw [hv] at rv; exact absurd rv (by intro c; cases c)
    | some v =>
      rw [hv] at rv
      exact ⟨v,H3,I3.tok _,rv,g1 v hv⟩
  · rw [hno] at rv
    cases hv:valV kvs k with
    | some v=>rw [hv] at rv; exact absurd rv (by intro c; cases c)
    | none =>
      obtain ⟨ob,es,ep,hq,k2,k3,k4,_,k5⟩:=dd'
      refine ⟨z,upd H3 a (.dT (putK kvs k z)),d_write I3 (by rw [e3]; exact True.intro) sb ⟨ob,hq⟩ ⟨hl,hd,_,(rel.put k eb rz).keeps fun c ys ec => ?_,ob,es,ep,hq,k2,k3,k4,k5⟩,rz,g2 hv⟩
      rw [upd_ne (ne_of ec e3 (fun z=>nomatch z))]
      exact ec
end

def leS:List ((Str × Tok) × (Str × Tok))→Bool
  | []=>true
  | p::r=>if p.1.1=p.2.1 then leS r else !decide (p.2.1.cps.toList < p.1.1.cps.toList)
def pvS (p:(Str × Tok) × (Str × Tok)):Value × Value:=(.str p.1.1 p.1.2,.str p.2.1 p.2.2)
section
open PySem.SeqAt
open PySem.AutoSeq1 (wpAny_loadPart')
open PySem.MeetsSeq PySem.MeetsSeq2 PySem.MeetsSeq3
theorem tuple_le_txts (l b:Addr) (i1 i2:Array Value) (n n2:Nat) (dd dd2:Option Addr) (sl sl2:Array (Option Value)) (ps:List ((Str × Tok) × (Str × Tok))) (e1:i1.toList.zip i2.toList=ps.map pvS) (e2:i1.size=i2.size) :
    Meets (Builtin.«tuple.__le__» ⟨[.ref l,.ref b],[]⟩)
      (fun _ R s=>s.heap.get? l=some { cls:=.type "tuple",dict:=dd,data:=.seq i1 n,slots:=sl }∧s.heap.get? b=some { cls:=.type "tuple",dict:=dd2,data:=.seq i2 n2,slots:=sl2 } ∧
        R (.ok (.ret (.bool (leS ps)))) s) :=
  .of_wp fun prog w A R s h=>by
    obtain ⟨hp,g,d,tk,os⟩:=s; obtain ⟨hl,hb,h⟩:=h
    have f2:=AutoSeq1.sub_tuple_tuple
    wp_walk using wpAny_loadPart' hl,wpAny_loadPart' hb,wpAny_forIn_list _ (fun rest b s'=>b.1=none∧s'=⟨hp,g,d,tk,os⟩∧∃ qs:List ((Str × Tok) × (Str × Tok)),rest=qs.map pvS∧R (.ok (.ret (.bool (leS qs)))) ⟨hp,g,d,tk,os⟩) _
    case turn =>
      rintro ⟨y,x⟩ rest b s' ⟨hb',rfl,qs,hz,hR⟩
      cases qs with
      | nil=>cases hz
      | cons p qs =>
        obtain ⟨⟨x1,t1⟩,⟨x2,t2⟩⟩:=p
        rw [List.map_cons] at hz
        injection hz with hyx hrest
        have hy:y=.str x1 t1:=congrArg Prod.fst hyx
        have hx:x=.str x2 t2:=congrArg Prod.snd hyx
        subst hy hx
        refine wpAny_bind (EqAt.str_str x1 t1 x2 t2 prog w _ _ ?_)
        have hR':R (.ok (.ret (.bool (if x1=x2 then leS qs else !decide (x2.cps.toList < x1.cps.toList))))) ⟨hp,g,d,tk,os⟩:=hR
        cases e:(x1 == x2) with
        | true =>
          rw [if_pos (by simpa using e)] at hR'
          wp_walk
          exact ⟨rfl,rfl,qs,hrest,hR'⟩
        | false =>
          rw [if_neg (by simpa using e)] at hR'
          have hri:∀ (E:Value→Shared→Prop) (Q:Value→Shared→Prop),Q (.bool (!decide (x2.cps.toList < x1.cps.toList))) ⟨hp,g,d,tk,os⟩→wpAny (model prog w) A.in1 (richCompare .LtE (.str x1 t1) (.str x2 t2)) Q E ⟨hp,g,d,tk,os⟩:=fun E Q hq=>(PySem.P.le_str hq:wpAny (model prog w) A.in1 (compareOp .LtE (.str x1 t1) (.str x2 t2)) Q E ⟨hp,g,d,tk,os⟩)
          wp_walk using hri
          exact ⟨_,rfl,by simpa using hR'⟩
    case fin =>
      rintro ⟨b1,b2⟩ s' ⟨hb',rfl,qs,hz,hR⟩
      simp only at hb'
      subst hb'
      have e0:qs=[]:=by
        cases qs with
        | nil=>rfl
        | cons p qs=>cases hz
      subst e0
      wp_walk
      refine ⟨_,rfl,?_⟩
      have hR':R (.ok (.ret (.bool true))) ⟨hp,g,d,tk,os⟩:=hR
      simpa [Builtin.Tuple.tupleCompareSizes,e2] using hR'
    case h =>
      exact ⟨rfl,rfl,ps,e1,h⟩
end
section
variable {X:Cx}
def rLe2 (K:PySem.W.Frag):R2:=fun x y H Q=>∃ (p1 p2:Addr) (a1 a2 b1 b2:Str),x=.ref p1∧y=.ref p2∧SqT K H p1 [.str a1,.str a2]∧SqT K H p2 [.str b1,.str b2]∧Q (.bl (if a1=b1 then (if a2=b2 then true else !decide (b2.cps.toList < a2.cps.toList)) else !decide (b1.cps.toList < a1.cps.toList))) H
theorem op_le2 {k:Nat} (hr:Room k X.A):OpR X (compareOp .LtE) (rLe2 X.K):=by
  intro pins s σ H x y v u Q I rx ry h
  obtain ⟨p1,p2,a1,a2,b1,b2,rfl,rfl,q1,q2,q⟩:=h
  cases rx
  cases ry
  obtain ⟨us,r1,t1,_⟩:=I.tuple q1
  obtain ⟨vs,r2,t2,_⟩:=I.tuple q2
  cases r1 with
  | cons ra r1=>cases r1 with
    | cons rb r1 =>
      cases r1
      cases r2 with
      | cons rc r2=>cases r2 with
        | cons rd r2 =>
          cases r2
          obtain ⟨ta,rfl⟩:=ra
          obtain ⟨tb,rfl⟩:=rb
          obtain ⟨tc,rfl⟩:=rc
          obtain ⟨td,rfl⟩:=rd
          obtain ⟨⟨cls,dd,data,sl⟩,ho,hc,n,hd⟩:=id t1
          obtain ⟨⟨cls2,dd2,data2,sl2⟩,ho2,hc2,n2,hd2⟩:=id t2
          simp only at hc hd hc2 hd2
          subst hc hd hc2 hd2
          refine richCompare_meets_room (op:=.LtE) ⟨_,ho,rfl⟩ ⟨_,ho2,rfl⟩ PySem.F.slot_tuple_le PySem.F.entry_tuple_le (PySem.F.args_tuple_le_2 _ _) (tuple_le_txts p1 p2 #[.str a1 ta,.str a2 tb] #[.str b1 tc,.str b2 td] n n2 dd dd2 sl sl2 [((a1,ta),(b1,tc)),((a2,tb),(b2,td))] rfl rfl)
            ⟨ho,ho2,(fun x=>nomatch x),⟨.bl _,H,I,rfl,q⟩⟩ hr.units0
theorem op_ge_str:OpR X (compareOp .GtE) (fun x y H Q=>∃ i j,x=.str i∧y=.str j∧Q (.bl (!decide (i.cps.toList < j.cps.toList))) H):=by
  intro pins s σ H x y v u Q I rx ry h
  obtain ⟨i,j,rfl,rfl,q⟩:=h
  obtain ⟨t,rfl⟩:=rx
  obtain ⟨t',rfl⟩:=ry
  exact PySem.P.ge_str (fin_bl I q rfl)
end
end L2

namespace Qs
open PySem L2

def top (i:Nat):Stmt:=PySem.Challenge.pw_quartersheet_k53_all_that_touch.main.body.getD i (.Pass ⟨0,0,0,0⟩)

structure Tx (K:PySem.W.Frag) (mg:Str→Option Value):Prop where
  b_all:mg "all" = none
  c_MOST:∃ t,mg "MOST" = some (.int 40 t)
  b_isinstance:mg "isinstance" = none
  b_str:mg "str" = none
  b_len:mg "len" = none
  c_QUARTERS:∃ t,mg "QUARTERS" = some (.str "0123" t)
  b_range:mg "range" = none
  b_int:mg "int" = none
  b_tuple:mg "tuple" = none
  b_sorted:mg "sorted" = none
  b_list:mg "list" = none
  b_min:mg "min" = none
  b_max:mg "max" = none
  b_enumerate:mg "enumerate" = none
  b_dict:mg "dict" = none
  b_sum:mg "sum" = none
end Qs
namespace Qs
open PySem L2

def txt (ds:List Nat):Str:=⟨(ds.map (48 + ·)).toArray⟩
theorem txt_len (ds:List Nat):(txt ds).length=ds.length:=by
  rw [len_eq]; simp [txt]
theorem txt_isC {ds:List Nat} (h:∀ d∈ds,d < 4):IsC (txt ds):=fun c hc=>by
  have hc':∃ d∈ds,48 + d=c:=by simpa [txt] using hc
  obtain ⟨d,hd,e⟩:=hc'
  have:=h d hd
  omega
theorem dig_txt (ds:List Nat):dig (txt ds)=ds:=by
  unfold dig txt
  rw [List.map_map]
  have e:((fun x=>x - 48) ∘ fun x=>48 + x)=(id:Nat→Nat):=by funext x; show 48 + x - 48=x; omega
  rw [e,List.map_id]
theorem str_ext {a b:Str} (h:a.cps.toList=b.cps.toList):a=b:=by
  obtain ⟨a⟩:=a
  obtain ⟨b⟩:=b
  have h':a.toList=b.toList:=h
  have e:a=b:=Array.toList_inj.mp h'
  rw [e]
theorem txt_dig {z:Str} (h:IsC z):txt (dig z)=z:=by
  refine str_ext ?_
  have e:(txt (dig z)).cps.toList=(z.cps.toList.map (· - 48)).map (48 + ·):=rfl
  rw [e,List.map_map]
  have e2:∀ c∈z.cps.toList,((fun x=>48 + x) ∘ fun x=>x - 48) c=id c:=fun c hc=>by
    have:=h c hc
    show 48 + (c - 48)=c
    omega
  rw [List.map_congr_left e2,List.map_id]
theorem empty_eq:("" : Str)=⟨#[]⟩:=by decide +kernel
def pre (z:Str) (k:Nat):Str:=⟨(z.cps.toList.take k).toArray⟩
theorem slice_pre (z:Str) (k:Nat):Txt.slice z none (some (k:Int))=pre z k:=by
  by_cases h:k≤z.length
  · have e:=PyProof.Rows.slice_closes_to (x:=z) (j:=(k:Int)) ⟨by omega,by rw [← len_eq]; omega⟩
    rw [beq_iff_eq] at e
    rw [e]
    unfold pre
    simp
  · have e:Builtin.Str.strSliceIndices none (some (k:Int)) 1 z.length=(List.range z.length).map fun j:Nat=>(0 + 1 * (j:Int)).toNat:=by
      unfold Builtin.Str.strSliceIndices
      dsimp only
      unfold sliceRange
      have h1:¬ (k:Int) < 0:=by omega
      have h2:max (0:Int) (min (k:Int) (z.length:Int))=(z.length:Int):=by omega
      simp only [show (1:Int) > 0 by decide,if_true,h1,if_false,h2]
      by_cases h0:(0:Int) < (z.length:Int)
      · rw [if_pos h0]
        have e3:(((z.length:Int) - 0 + 1 - 1) / 1).toNat=z.length:=by omega
        rw [e3]
      · rw [if_neg h0]
        have e3:z.length=0:=by omega
        rw [e3]; rfl
    unfold Txt.slice
    rw [e,List.length_map,List.length_range]
    rw [if_pos (by simp)]
    refine str_ext ?_
    unfold pre
    rw [List.take_of_length_le (by rw [← len_eq]; omega)]
theorem pre_len (z:Str) (k:Nat):(pre z k).length=min k z.length:=by
  rw [len_eq,len_eq]; simp [pre]
theorem pre_isC {z:Str} (h:IsC z) (k:Nat):IsC (pre z k):=fun c hc=>h c (by
  have hc':c∈z.cps.toList.take k:=by simpa [pre] using hc
  exact List.mem_of_mem_take hc')

theorem app_len (a b:Str):(a++b).length=a.length + b.length:=by
  show (a.cps++b.cps).size=_
  rw [Array.size_append]; rfl
theorem at_q {d:Nat} (h:d < 4):atI ("0123" : Str).cps.toList (d:Int)=some (48 + d) :=
  four (P:=fun d=>atI ("0123" : Str).cps.toList (d:Int)=some (48 + d)) (by decide +kernel) (by decide +kernel) (by decide +kernel) (by decide +kernel) h
theorem q_len:("0123" : Str).length≤sizeLine:=by decide +kernel
end Qs
namespace Qs
open PySem L2

def oneB (a b c d:Tr):Bool:=a.isCol && (decide (a=a) && (decide (b=a) && (decide (c=a) && (decide (d=a) && true))))
def gath (a b c d:Tr):Tr:=if oneB a b c d then a else .four a b c d
def q0:Tr→Tr | .col i=>.col i | .four a _ _ _=>a
def q1:Tr→Tr | .col i=>.col i | .four _ b _ _=>b
def q2:Tr→Tr | .col i=>.col i | .four _ _ c _=>c
def q3:Tr→Tr | .col i=>.col i | .four _ _ _ d=>d
theorem oneB_iff {a b c d:Tr}:oneB a b c d=true↔a.isCol=true∧b=a∧c=a∧d=a:=by
  unfold oneB
  simp only [Bool.and_eq_true,decide_eq_true_eq,and_true,true_and]
theorem gath_deep {a b c d:Tr} {n:Nat} (ha:a.deep≤n) (hb:b.deep≤n) (hc:c.deep≤n) (hd:d.deep≤n):(gath a b c d).deep≤n + 1:=by
  unfold gath
  split
  · omega
  · show max a.deep (max b.deep (max c.deep d.deep)) + 1≤n + 1
    omega

def ShAt (H:Hp) (v:V) (n:Int) (t:Tr):Prop:=∃ p x,v=.ref p∧H p=some (.tup [.int n,x])∧TrAt H x t
theorem kit_it {K:PySem.W.Frag}:PySem.W.kitOne K (.type "int") (.type "tuple")=some false:=by kernel_rfl

def qk (t:Tr):Nat→Tr
  | 0=>q0 t
  | 1=>q1 t
  | 2=>q2 t
  | _=>q3 t
def put4 (t:Tr) (d:Nat) (x:Tr):Tr:=gath (if d=0 then x else q0 t) (if d=1 then x else q1 t) (if d=2 then x else q2 t) (if d=3 then x else q3 t)
def plant (t:Tr):List Nat→Tr→Tr
  | [],o=>o
  | d::ds,o=>put4 t d (plant (qk t d) ds o)
theorem qk_deep {t:Tr} {n d:Nat} (h:t.deep≤n + 1):(qk t d).deep≤n:=by
  cases t with
  | col i=>rcases d with _ | _ | _ | d <;> exact Nat.zero_le _
  | four a b c e =>
    have h':max a.deep (max b.deep (max c.deep e.deep)) + 1≤n + 1:=h
    rcases d with _ | _ | _ | d
    · show a.deep≤n; omega
    · show b.deep≤n; omega
    · show c.deep≤n; omega
    · show e.deep≤n; omega
theorem qk_deep' {t:Tr} {n d:Nat} (h:t.deep≤n):(qk t d).deep≤n:=by
  rcases n with _ | n
  · cases t with
    | col i=>rcases d with _ | _ | _ | d <;> exact Nat.zero_le _
    | four a b c e=>exact absurd h (by show ¬ _ + 1≤0; omega)
  · exact Nat.le_succ_of_le (qk_deep h)
theorem put4_deep {t x:Tr} {n d:Nat} (h:t.deep≤n + 1) (hx:x.deep≤n):(put4 t d x).deep≤n + 1:=by
  unfold put4
  have h0:=qk_deep (d:=0) h
  have h1:=qk_deep (d:=1) h
  have h2:=qk_deep (d:=2) h
  have h3:=qk_deep (d:=3) h
  refine gath_deep ?_ ?_ ?_ ?_ <;> split <;> assumption
def Good:Nat→Tr→Prop
  | _,.col i=>0≤i∧i≤35
  | 0,.four ..=>False
  | n + 1,.four a b c d=>Good n a∧Good n b∧Good n c∧Good n d∧oneB a b c d=false
theorem Good.deep:∀ {n:Nat} {t:Tr},Good n t→t.deep≤n
  | _,.col i,_=>Nat.zero_le _
  | 0,.four ..,h=>h.elim
  | n + 1,.four a b c d,⟨ha,hb,hc,hd,_⟩=>by
    have:=ha.deep
    have:=hb.deep
    have:=hc.deep
    have:=hd.deep
    show max a.deep (max b.deep (max c.deep d.deep)) + 1≤n + 1
    omega
theorem Good.col {n:Nat} {i:Int} (h:0≤i∧i≤35):Good n (.col i):=by cases n <;> exact h
theorem Good.q {n:Nat} {t:Tr} (h:Good (n + 1) t) (k:Nat):Good n (qk t k):=by
  cases t with
  | col i =>
    have z:Good n (.col i):=Good.col h
    rcases k with _ | _ | _ | k <;> exact z
  | four a b c d =>
    obtain ⟨ha,hb,hc,hd,_⟩:=h
    rcases k with _ | _ | _ | k
    · exact ha
    · exact hb
    · exact hc
    · exact hd
theorem Good.up {n:Nat} {t:Tr} (h:Good n t):Good (n + 1) t:=by
  induction t generalizing n with
  | col i=>exact Good.col (by cases n <;> exact h)
  | four a b c d ia ib ic id =>
    cases n with
    | zero=>exact h.elim
    | succ n =>
      obtain ⟨ha,hb,hc,hd,ho⟩:=h
      exact ⟨ia ha,ib hb,ic hc,id hd,ho⟩
theorem good_gath {n:Nat} {a b c d:Tr} (ha:Good n a) (hb:Good n b) (hc:Good n c) (hd:Good n d):Good (n + 1) (gath a b c d):=by
  unfold gath
  split
  · exact ha.up
  · rename_i h
    exact ⟨ha,hb,hc,hd,by simpa using h⟩
theorem good_put4 {n d:Nat} {t x:Tr} (h:Good (n + 1) t) (hx:Good n x):Good (n + 1) (put4 t d x):=by
  unfold put4
  have h0:=h.q 0
  have h1:=h.q 1
  have h2:=h.q 2
  have h3:=h.q 3
  refine good_gath ?_ ?_ ?_ ?_ <;> split <;> assumption
theorem good_plant:∀ {n:Nat} {ds:List Nat} {t o:Tr},ds.length≤n→Good n t→Good (n - ds.length) o→Good n (plant t ds o)
  | n,[],t,o,_,_,h=>h
  | 0,d::ds,t,o,hl,_,_=>by simp at hl
  | n + 1,d::ds,t,o,hl,ht,ho=>by
    have hl':ds.length≤n:=by simpa using hl
    refine good_put4 ht (good_plant hl' (ht.q d) ?_)
    have e:n + 1 - (d::ds).length=n - ds.length:=by simp
    rw [e] at ho
    exact ho
theorem plant_deep:∀ (ds:List Nat) (n:Nat) (t o:Tr),t.deep≤n→o.deep + ds.length≤n→(plant t ds o).deep≤n
  | [],n,t,o,_,h=>by show o.deep≤n; simpa using h
  | d::ds,0,t,o,_,h=>by simp at h
  | d::ds,n + 1,t,o,ht,ho=>by
    have ho':o.deep + ds.length≤n:=by simp at ho; omega
    exact put4_deep ht (plant_deep ds n (qk t d) o (qk_deep ht) ho')
section
variable {P:Program} {w:World} {K:PySem.W.Frag} {mg:Str→Option Value} {base:Heap} {CX:CXT} {f:Addr} {fd:FuncData}
theorem str_eq_nil {z:Str}:(z=("" : Str))↔z.length=0:=by
  constructor
  · rintro rfl; decide +kernel
  · intro h
    apply str_ext
    have e:z.cps.toList=[]:=List.eq_nil_of_length_eq_zero (by rw [← len_eq]; exact h)
    rw [e]; decide +kernel

def rst (z:Str):Str:=⟨(z.cps.toList.drop 1).toArray⟩
theorem slice_rst {z:Str} (h:0 < z.length):Txt.slice z (some 1) none=rst z:=by
  have e:=PyProof.Rows.slice_closes_from (x:=z) (i:=1) ⟨by decide,by rw [← len_eq]; omega⟩
  rw [beq_iff_eq] at e
  rw [e]
  unfold rst
  congr 2
  show (z.cps.toList.drop 1).take ((z.cps.toList.length:Int) - 1).toNat=_
  rw [List.take_of_length_le]
  rw [List.length_drop,← len_eq]; omega
theorem rst_len (z:Str):(rst z).length=z.length - 1:=by rw [len_eq,len_eq]; simp [rst]
theorem rst_isC {z:Str} (h:IsC z):IsC (rst z):=fun c hc=>h c (by
  have hc':c∈z.cps.toList.drop 1:=by simpa [rst] using hc
  exact List.mem_of_mem_drop hc')
theorem at_zero {z:Str} (h:0 < z.length):atI z.cps.toList 0=some (z.cps.getD 0 0):=by
  have hs:0 < z.cps.size:=h
  refine atI_nat (j:=0) ?_
  simp [Array.getD_eq_getD_getElem?,hs]
theorem fokF {x qual:Str} {st:Stmt} {dV:Value} {ps:List Str} (F:FunD K x qual st f fd dV) (b:Binds K fd ps []) (m:mg x=some (.ref f)):Fok P w K mg base CX 0 x ps [] (fun _ _ _ _=>False) :=
  ⟨f,fd,[],⟨fun _ _ _ _ h=>h.elim,fun _ _ _ _ _ _ _ _ _ _ _ _ _ h=>h.elim⟩,b,.nil,F.kp,m⟩
theorem dig_empty:dig ("" : Str)=[]:=by decide +kernel
theorem dig_rst {z:Str} (h:0 < z.length):dig z=(z.cps.getD 0 0 - 48)::dig (rst z):=by
  have hs:0 < z.cps.size:=h
  have hl:0 < z.cps.toList.length:=by simpa using hs
  have e:z.cps.toList=z.cps.getD 0 0::z.cps.toList.drop 1:=by
    have e1:=List.drop_eq_getElem_cons (l:=z.cps.toList) (i:=0) hl
    rw [List.drop_zero] at e1
    have e2:z.cps.getD 0 0=z.cps.toList[0]:=by simp [Array.getD_eq_getD_getElem?,hs]
    rw [e2]; exact e1
  unfold dig rst
  conv=>lhs; rw [e]
  rfl
end
end Qs
namespace Qs
open PySem L2
def cell (ns:List Int) (k:Nat):Int:=(ns[k]?).getD 0

def cnt:Tr→Nat
  | .col _=>1
  | .four a b c d=>cnt a + cnt b + cnt c + cnt d
theorem cnt_gath (a b c d:Tr):cnt (gath a b c d)≤cnt a + cnt b + cnt c + cnt d:=by
  unfold gath
  split
  · omega
  · exact Nat.le_refl _
theorem cnt_q {t:Tr}:cnt (q0 t) + cnt (q1 t) + cnt (q2 t) + cnt (q3 t)≤cnt t + 3:=by
  cases t with
  | col i=>show 1 + 1 + 1 + 1≤1 + 3; decide
  | four a b c d=>show cnt a + cnt b + cnt c + cnt d≤cnt a + cnt b + cnt c + cnt d + 3; omega
theorem cnt_put4 {t x:Tr} {d:Nat} (hd:d < 4):cnt (put4 t d x) + cnt (qk t d)≤cnt t + 3 + cnt x:=by
  unfold put4
  have h:=cnt_gath (if d=0 then x else q0 t) (if d=1 then x else q1 t) (if d=2 then x else q2 t) (if d=3 then x else q3 t)
  have h2:=cnt_q (t:=t)
  generalize gath (if d=0 then x else q0 t) (if d=1 then x else q1 t) (if d=2 then x else q2 t) (if d=3 then x else q3 t)=g at *
  rcases d with _ | _ | _ | _ | d
  · have h':cnt g≤cnt x + cnt (q1 t) + cnt (q2 t) + cnt (q3 t):=h
    show cnt g + cnt (q0 t)≤_
    omega
  · have h':cnt g≤cnt (q0 t) + cnt x + cnt (q2 t) + cnt (q3 t):=h
    show cnt g + cnt (q1 t)≤_
    omega
  · have h':cnt g≤cnt (q0 t) + cnt (q1 t) + cnt x + cnt (q3 t):=h
    show cnt g + cnt (q2 t)≤_
    omega
  · have h':cnt g≤cnt (q0 t) + cnt (q1 t) + cnt (q2 t) + cnt x:=h
    show cnt g + cnt (q3 t)≤_
    omega
  · omega
theorem cnt_plant:∀ (ds:List Nat) (t o:Tr),(∀ d∈ds,d < 4)→cnt (plant t ds o)≤cnt t + 3 * ds.length + cnt o
  | [],t,o,_=>by show cnt o≤_; omega
  | d::ds,t,o,h=>by
    have h1:=cnt_put4 (t:=t) (x:=plant (qk t d) ds o) (h d List.mem_cons_self)
    have h2:=cnt_plant ds (qk t d) o fun x hx=>h x (List.mem_cons_of_mem _ hx)
    show cnt (put4 t d (plant (qk t d) ds o))≤_
    rw [List.length_cons]
    omega
theorem four_of (m:Int):∃ d:Nat,d < 4∧m % 4=(d:Int):=⟨(m % 4).toNat,by omega,by omega⟩
theorem dig_lt {z:Str} (hz:IsC z):∀ d∈dig z,d < 4:=fun d h=>by
  obtain ⟨c,hc,rfl⟩:=List.mem_map.mp h
  have:=hz c hc
  omega

def lvs:List Nat→Tr→List (List Nat × Int)
  | z,.col i=>[(z,i)]
  | z,.four a b c d=>lvs (z++[0]) a++(lvs (z++[1]) b++(lvs (z++[2]) c++lvs (z++[3]) d))

def node:Tr→List Nat→Option Tr
  | t,[]=>some t
  | .col _,_::_=>none
  | .four a b c d,k::w=>node (qk (.four a b c d) k) w
theorem node_app:∀ (w:List Nat) (t:Tr) (v:List Nat),node t (w++v)=(node t w).bind fun u=>node u v
  | [],t,v=>rfl
  | k::w,.col i,v=>rfl
  | k::w,.four a b c d,v=>node_app w (qk (.four a b c d) k) v
theorem dig_app (a b:Str):dig (a++b)=dig a++dig b:=by
  unfold dig
  show (a.cps++b.cps).toList.map _=_
  simp
theorem dig_one (d:Nat):dig (one d)=[d]:=by
  show [48 + d - 48]=[d]
  rw [show 48 + d - 48=d by omega]
theorem dig_pre' (z:Str) (k:Nat):dig (pre z k)=(dig z).take k:=by
  unfold dig pre
  simp
theorem big {n:Nat} (h:n≤1000000):n≤sizeLine:=Nat.le_trans h (by decide)
theorem str_one {d:Nat} (h:d < 4):Str.ofString (toString ((d:Nat):Int))=one d :=
  four (P:=fun d=>Str.ofString (toString ((d:Nat):Int))=one d) (by decide +kernel) (by decide +kernel) (by decide +kernel) (by decide +kernel) h
def sV (ds:List Nat):V:=.str (txt ds)
theorem sV_dig {z:Str} (h:IsC z):sV (dig z)=.str z:=by unfold sV; rw [txt_dig h]
theorem txt_pre {z:Str} (h:IsC z) (k:Nat):txt ((dig z).take k)=pre z k:=by rw [← dig_pre',txt_dig (pre_isC h k)]
theorem lvs_count:∀ (t:Tr) (z:List Nat),(lvs z t).length=cnt t
  | .col _,_=>rfl
  | .four a b c d,z=>by
    show (lvs (z++[0]) a++(lvs (z++[1]) b++(lvs (z++[2]) c++lvs (z++[3]) d))).length=_
    simp only [List.length_append,lvs_count a,lvs_count b,lvs_count c,lvs_count d]
    show _=cnt a + cnt b + cnt c + cnt d
    omega

def along (near:List Nat):List Nat→Tr→List (List Nat)
  | z,.col _=>[z]
  | z,.four a b c d=>near.flatMap fun e=>match e with
    | 0=>along near (z++[e]) a
    | 1=>along near (z++[e]) b
    | 2=>along near (z++[e]) c
    | _=>along near (z++[e]) d
theorem along_four (near z:List Nat) (a b c d:Tr):along near z (.four a b c d)=near.flatMap fun e=>along near (z++[e]) (qk (.four a b c d) e):=by
  show near.flatMap _=near.flatMap _
  congr 1
  funext e
  rcases e with _ | _ | _ | e <;> rfl
def NearOk (near:List Nat):Prop:=near=[2,3]∨near=[0,2]∨near=[0,1]∨near=[1,3]
theorem along_len {near:List Nat} (h:NearOk near):∀ (t:Tr) (z:List Nat),(along near z t).length≤cnt t
  | .col _,_=>Nat.le_refl 1
  | .four a b c d,z=>by
    rw [along_four]
    have ha:=along_len h a
    have hb:=along_len h b
    have hc:=along_len h c
    have hd:=along_len h d
    show _≤cnt a + cnt b + cnt c + cnt d
    rcases h with h | h | h | h
    · have e:(near.flatMap fun e=>along near (z++[e]) (qk (.four a b c d) e))=along near (z++[2]) c++along near (z++[3]) d:=by
        rw [show (near.flatMap fun e=>along near (z++[e]) (qk (.four a b c d) e))=([2,3].flatMap fun e=>along near (z++[e]) (qk (.four a b c d) e)) by rw [← h]]
        simp [qk,q2,q3]
      rw [e,List.length_append]
      have h1:=hc (z++[2])
      have h2:=hd (z++[3])
      omega
    · have e:(near.flatMap fun e=>along near (z++[e]) (qk (.four a b c d) e))=along near (z++[0]) a++along near (z++[2]) c:=by
        rw [show (near.flatMap fun e=>along near (z++[e]) (qk (.four a b c d) e))=([0,2].flatMap fun e=>along near (z++[e]) (qk (.four a b c d) e)) by rw [← h]]
        simp [qk,q0,q2]
      rw [e,List.length_append]
      have h1:=ha (z++[0])
      have h2:=hc (z++[2])
      omega
    · have e:(near.flatMap fun e=>along near (z++[e]) (qk (.four a b c d) e))=along near (z++[0]) a++along near (z++[1]) b:=by
        rw [show (near.flatMap fun e=>along near (z++[e]) (qk (.four a b c d) e))=([0,1].flatMap fun e=>along near (z++[e]) (qk (.four a b c d) e)) by rw [← h]]
        simp [qk,q0,q1]
      rw [e,List.length_append]
      have h1:=ha (z++[0])
      have h2:=hb (z++[1])
      omega
    · have e:(near.flatMap fun e=>along near (z++[e]) (qk (.four a b c d) e))=along near (z++[1]) b++along near (z++[3]) d:=by
        rw [show (near.flatMap fun e=>along near (z++[e]) (qk (.four a b c d) e))=([1,3].flatMap fun e=>along near (z++[e]) (qk (.four a b c d) e)) by rw [← h]]
        simp [qk,q1,q3]
      rw [e,List.length_append]
      have h1:=hb (z++[1])
      have h2:=hd (z++[3])
      omega
def down (near:List Nat):List Nat→List Nat→Tr→List (List Nat)
  | p,[],t=>along near p t
  | p,_::_,.col _=>[p]
  | p,e::r,.four a b c d=>down near (p++[e]) r (qk (.four a b c d) e)
theorem down_node (near:List Nat):∀ (a b p:List Nat) (t u:Tr),node t a=some u→down near p (a++b) t=down near (p++a) b u
  | [],b,p,t,u,h=>by rw [← Option.some.inj h]; simp
  | e::a,b,p,.col _,u,h=>by cases h
  | e::a,b,p,.four x y z w,u,h=>by
    show down near (p++[e]) (a++b) (qk (.four x y z w) e)=_
    rw [down_node near a b _ _ u h]
    simp
theorem good_node:∀ (a:List Nat) (n:Nat) (t u:Tr),Good n t→node t a=some u→a.length≤n∧Good (n - a.length) u
  | [],n,t,u,g,h=>by rw [← Option.some.inj h]; exact ⟨Nat.zero_le _,g⟩
  | e::a,n,.col _,u,g,h=>by cases h
  | e::a,0,.four ..,u,g,h=>g.elim
  | e::a,n + 1,.four x y z w,u,g,h=>by
    obtain ⟨h1,h2⟩:=good_node a n _ u (g.q e) h
    refine ⟨by simpa using h1,?_⟩
    rw [show n + 1 - (e::a).length=n - a.length by simp]
    exact h2
theorem cnt_qk (t:Tr) (k:Nat):cnt (qk t k)≤cnt t:=by
  cases t with
  | col i=>rcases k with _ | _ | _ | k <;> exact Nat.le_refl _
  | four a b c d =>
    show _≤cnt a + cnt b + cnt c + cnt d
    rcases k with _ | _ | _ | k
    · show cnt a≤_; omega
    · show cnt b≤_; omega
    · show cnt c≤_; omega
    · show cnt d≤_; omega
theorem cnt_node:∀ (a:List Nat) (t u:Tr),node t a=some u→cnt u≤cnt t
  | [],t,u,h=>by rw [← Option.some.inj h]; exact Nat.le_refl _
  | e::a,.col _,u,h=>by cases h
  | e::a,.four x y z w,u,h=>Nat.le_trans (cnt_node a _ u h) (cnt_qk _ e)

def leafB (t:Tr) (w:List Nat):Bool:=match node t w with
  | some (.col _)=>true
  | _=>false
theorem node_end {t:Tr} {w:List Nat} {i:Nat} {c:Int} (h:node t (w.take i)=some (.col c)) (hi:i < w.length):leafB t w=false:=by
  unfold leafB
  have e:node t w=none:=by
    have e1:node t w=node t (w.take i++w.drop i):=by rw [List.take_append_drop]
    rw [e1,node_app,h]
    show node (.col c) (w.drop i)=none
    rw [List.drop_eq_getElem_cons hi]
    rfl
  rw [e]
theorem node_step {t:Tr} {w:List Nat} {i d:Nat} {x y z v:Tr} (h:node t (w.take i)=some (.four x y z v)) (hd:w[i]? = some d):node t (w.take (i + 1))=some (qk (.four x y z v) d):=by
  rw [List.take_add_one,hd,node_app,h]
  rfl
end Qs


namespace Qs
open PySem L2
set_option genInjectivity false in
structure Yx (K:PySem.W.Frag) (mg:Str→Option Value) where
  c_NoSide:Addr
  c_NoLeaf:Addr
  c_SheetError:Addr
  m_NoSide:mg "NoSide" = some (.ref c_NoSide)
  m_NoLeaf:mg "NoLeaf" = some (.ref c_NoLeaf)
  m_SheetError:mg "SheetError" = some (.ref c_SheetError)
  x_NoSide:OwnX K mg "NoSide" c_NoSide
  k_NoSide:ExcC K c_NoSide
  s_NoSide:PySem.W.exmOne K (.ref c_NoSide) (.ref c_SheetError)=some true
  v_NoSide:PySem.W.kitOne K (.ref c_NoSide) (.type "ValueError")=some true
  t_NoSide_NoLeaf:PySem.W.kitOne K (.ref c_NoSide) (.ref c_NoLeaf)=some false
  x_NoLeaf:OwnX K mg "NoLeaf" c_NoLeaf
  k_NoLeaf:ExcC K c_NoLeaf
  s_NoLeaf:PySem.W.exmOne K (.ref c_NoLeaf) (.ref c_SheetError)=some true
  v_NoLeaf:PySem.W.kitOne K (.ref c_NoLeaf) (.type "ValueError")=some true
  t_NoLeaf_NoSide:PySem.W.kitOne K (.ref c_NoLeaf) (.ref c_NoSide)=some false
section
variable {P:Program} {w:World} {K:PySem.W.Frag} {mg:Str→Option Value} {base:Heap} {CX:CXT} {f:Addr} {fd:FuncData}

structure Ty (P:Program) (w:World) (K:PySem.W.Frag) (mg:Str→Option Value):Prop where
  sides:∃ a,mg "SIDES" = some (.ref a)∧KTu K a [.str "up",.str "right",.str "down",.str "left"]
  cross:∃ a p0 p1 p2 p3,mg "CROSSINGS" = some (.ref a)∧KD P w K a [(.inr "up",.ref p0),(.inr "right",.ref p1),(.inr "down",.ref p2),(.inr "left",.ref p3)] ∧
    KTu K p0 [.str "2301",.str "23"]∧KTu K p1 [.str "1032",.str "02"]∧KTu K p2 [.str "2301",.str "01"]∧KTu K p3 [.str "1032",.str "13"]

def Dir (side s1 s2:Str) (dx dy:Int):Prop:=(side = "up" ∧ s1 = "2301" ∧ s2 = "23" ∧ dx=0∧dy=-1)∨(side = "right" ∧ s1 = "1032" ∧ s2 = "02" ∧ dx=1∧dy=0)∨(side = "down" ∧ s1 = "2301" ∧ s2 = "01" ∧ dx=0∧dy=1)∨(side = "left" ∧ s1 = "1032" ∧ s2 = "13" ∧ dx=-1∧dy=0)
def occ (s z:Str):Bool := !(Builtin.Str.occurrences s z 0 s.length 1).isEmpty
def St1 (s1 s2:Str) (dx dy:Int) (d:Nat):Prop:=∃ e,e < 4∧atI s1.cps.toList (d:Int)=some (48 + e) ∧
  ((occ s2 (one d)=true∧((e % 2:Nat):Int)=((d % 2:Nat):Int) + dx∧((e / 2:Nat):Int)=((d / 2:Nat):Int) + dy)∨(occ s2 (one d)=false∧((e % 2:Nat):Int)=((d % 2:Nat):Int) - dx∧((e / 2:Nat):Int)=((d / 2:Nat):Int) - dy))
theorem dir_st {side s1 s2:Str} {dx dy:Int} (h:Dir side s1 s2 dx dy):s1.length≤sizeLine∧∀ d,d < 4→St1 s1 s2 dx dy d:=by
  rcases h with ⟨rfl,rfl,rfl,rfl,rfl⟩ | ⟨rfl,rfl,rfl,rfl,rfl⟩ | ⟨rfl,rfl,rfl,rfl,rfl⟩ | ⟨rfl,rfl,rfl,rfl,rfl⟩
  · exact ⟨by decide +kernel,fun d hd=>four (P:=fun d=>St1 _ _ _ _ d) ⟨2,by decide,by decide +kernel,.inr (by decide +kernel)⟩ ⟨3,by decide,by decide +kernel,.inr (by decide +kernel)⟩ ⟨0,by decide,by decide +kernel,.inl (by decide +kernel)⟩ ⟨1,by decide,by decide +kernel,.inl (by decide +kernel)⟩ hd⟩
  · exact ⟨by decide +kernel,fun d hd=>four (P:=fun d=>St1 _ _ _ _ d) ⟨1,by decide,by decide +kernel,.inl (by decide +kernel)⟩ ⟨0,by decide,by decide +kernel,.inr (by decide +kernel)⟩ ⟨3,by decide,by decide +kernel,.inl (by decide +kernel)⟩ ⟨2,by decide,by decide +kernel,.inr (by decide +kernel)⟩ hd⟩
  · exact ⟨by decide +kernel,fun d hd=>four (P:=fun d=>St1 _ _ _ _ d) ⟨2,by decide,by decide +kernel,.inl (by decide +kernel)⟩ ⟨3,by decide,by decide +kernel,.inl (by decide +kernel)⟩ ⟨0,by decide,by decide +kernel,.inr (by decide +kernel)⟩ ⟨1,by decide,by decide +kernel,.inr (by decide +kernel)⟩ hd⟩
  · exact ⟨by decide +kernel,fun d hd=>four (P:=fun d=>St1 _ _ _ _ d) ⟨1,by decide,by decide +kernel,.inr (by decide +kernel)⟩ ⟨0,by decide,by decide +kernel,.inl (by decide +kernel)⟩ ⟨3,by decide,by decide +kernel,.inr (by decide +kernel)⟩ ⟨2,by decide,by decide +kernel,.inl (by decide +kernel)⟩ hd⟩

abbrev s_is_side:Stmt:=top 9
theorem sc_is_side:FnScope ["thing"] ["thing"] (defScope s_is_side):=⟨rfl,rfl,rfl,by decide +kernel,rfl,by decide +kernel,by decide +kernel⟩
def sideB (z:Str):Prop:=inV (.str z) [.str "up",.str "right",.str "down",.str "left"]=true
theorem dir_side {side s1 s2:Str} {dx dy:Int} (h:Dir side s1 s2 dx dy):sideB side:=by
  rcases h with ⟨rfl,_⟩ | ⟨rfl,_⟩ | ⟨rfl,_⟩ | ⟨rfl,_⟩ <;> (unfold sideB; decide +kernel)
theorem dir_near {side s1 s2:Str} {dx dy:Int} (h:Dir side s1 s2 dx dy):IsC s2∧NearOk (dig s2):=by
  rcases h with ⟨_,_,rfl,_⟩ | ⟨_,_,rfl,_⟩ | ⟨_,_,rfl,_⟩ | ⟨_,_,rfl,_⟩
  · exact ⟨by unfold IsC; decide +kernel,.inl (by decide +kernel)⟩
  · exact ⟨by unfold IsC; decide +kernel,.inr (.inl (by decide +kernel))⟩
  · exact ⟨by unfold IsC; decide +kernel,.inr (.inr (.inl (by decide +kernel)))⟩
  · exact ⟨by unfold IsC; decide +kernel,.inr (.inr (.inr (by decide +kernel)))⟩

def BadSide (H:Hp) (x:V):Prop:=(flatV x=true∧inV x [.str "up",.str "right",.str "down",.str "left"]=false)∨(∃ a ys,x=.ref a∧(H a=some (.lst ys)∨H a=some (.tup ys)))
theorem BadSide.up {H H':Hp} {x:V} (h:BadSide H x) (s:Same H H'):BadSide H' x:=by
  rcases h with h | ⟨a,ys,e,h | h⟩
  · exact .inl h
  · exact .inr ⟨a,ys,e,.inl (s _ _ h)⟩
  · exact .inr ⟨a,ys,e,.inr (s _ _ h)⟩
def sp_is_side:Sp:=fun vs H Q _=>∃ x,vs=[x]∧((∃ z,x=.str z∧sideB z∧Q (.bl true) H)∨(BadSide H x∧Q (.bl false) H))
theorem ok_is_side (T:Tx K mg) (U:Ty P w K mg) (F:FunD K "is_side" "is_side" s_is_side f fd .none):FnOk P w K mg base CX 1 f fd ["thing"] sp_is_side:=by
  refine F.ok sc_is_side (fun vs H Q E h => ?_) (fun cdv A outer s H vs Q E hr h => ?_)
  · obtain ⟨_,rfl,_⟩:=h
    rfl
  obtain ⟨x,rfl,h⟩:=h
  obtain ⟨aS,g_SIDES,kS⟩:=U.sides
  refine ⟨_,(pss_one (ps_ret (pe_cmpR (op_inX hr) (pv 0) (pe_glob (v:=.ref _) rfl g_SIDES rfl) (by with_unfolding_all rfl)))),?_⟩
  rcases h with ⟨z,rfl,hz,q'⟩ | ⟨⟨fx,bx⟩ | ⟨a,ys,rfl,ha⟩,q'⟩
  · refine ⟨_,rfl,aS,_,rfl,.inr kS.sq,.inl ⟨rfl,rfl,?_⟩⟩
    show Q (.bl (inV (.str z) _)) H
    rw [hz]; exact q'
  · refine ⟨_,rfl,aS,_,rfl,.inr kS.sq,.inl ⟨fx,rfl,?_⟩⟩
    show Q (.bl (inV x _)) H
    rw [bx]; exact q'
  · refine ⟨_,rfl,aS,_,rfl,.inr kS.sq,.inr ⟨a,ys,rfl,?_,rfl,q'⟩⟩
    rcases ha with ha | ha
    · exact .inl (SqL.of ha)
    · exact .inr (SqT.of ha)
abbrev s_is_code:Stmt:=top 10
theorem sc_is_code:FnScope ["thing"] ["thing"] (defScope s_is_code):=⟨rfl,rfl,rfl,by decide +kernel,rfl,by decide +kernel,by decide +kernel⟩

def sB (c:Nat):Bool:=decide (c∈("0123" : Str).cps.toList)
theorem q_mem (c:Nat):c∈("0123" : Str).cps.toList↔48≤c∧c≤51:=by
  have e:("0123" : Str).cps.toList=[48,49,50,51]:=by decide +kernel
  rw [e]
  simp only [List.mem_cons,List.not_mem_nil,or_false]
  omega
def cB (z:Str):Bool:=decide (z.length≤40) && (List.range z.length).all fun i=>sB (z.cps.getD i 0)
theorem cB_iff (z:Str):cB z=true↔z.length≤40∧IsC z:=by
  unfold cB
  rw [Bool.and_eq_true,decide_eq_true_eq,List.all_eq_true]
  refine and_congr_right fun _=>⟨fun h c hc => ?_,fun h i hi => ?_⟩
  · obtain ⟨i,hi,e⟩:=List.mem_iff_getElem.mp hc
    have hi':i < z.length:=by rw [len_eq]; exact hi
    have:=h i (List.mem_range.mpr hi')
    unfold sB at this
    rw [decide_eq_true_eq,q_mem] at this
    have e2:z.cps.getD i 0=c:=by
      have hi2:i < z.cps.size:=hi'
      rw [← e]; simp [Array.getD_eq_getD_getElem?,hi2]
    rw [e2] at this; exact this
  · unfold sB
    rw [decide_eq_true_eq,q_mem]
    exact sgn_in h (List.mem_range.mp hi)
def gsp_is_code (K:PySem.W.Frag):Sp:=fun vs H Q _=>∃ x,vs=[x]∧((∃ z,x=.str z∧z.length≤1000∧∀ H',Same H H'→Q (.bl (cB z)) H')∨((∃ t,TyOf K H x t∧PySem.W.kitOne K t (.type "str")=some false)∧Q (.bl false) H))
theorem gok_is_code (T:Tx K mg) (F:FunD K "is_code" "is_code" s_is_code f fd .none):FnOk P w K mg base CX 1 f fd ["thing"] (gsp_is_code K):=by
  refine F.ok sc_is_code (fun vs H Q E h => ?_) (fun cdv A outer s H vs Q E hr h => ?_)
  · obtain ⟨x,rfl,_⟩:=h
    rfl
  obtain ⟨x,rfl,h⟩:=h
  refine ⟨_,(pss_cons (ps_if (PW.pt (pw_or (pt_not (pt_val (pe_callB (call_isiT "str") rfl T.b_isinstance bb_isinstance (pa_cons (pv 0) (pa_cons (pe_bty T.b_str bt_str) pa_nil))))) (pw_or1 (pt_cmpR op_gt (pe_callB call_len rfl T.b_len bb_len (pa_cons (pv 0) pa_nil)) (pe_gint T.c_MOST) (nomark _))))) (pss_one (ps_ret pe_bl)) pss_nil) (pss_one (ps_ret (pe_callB (call_all rfl) rfl T.b_all bb_all (pa_cons (pe_comp (N':=["sign"]) (by decide +kernel) (by decide +kernel) rfl (by decide +kernel) rfl (pi_str (pv 0)) (fun C s0 H0 fp pins=>(pg_name (i:=0) (nd1 _) rfl (Or.inl rfl))) (fun C s0 H0 fp pins=>(pe_cmpR op_in_str (pv 0) (pe_gstr T.c_QUARTERS) (by with_unfolding_all rfl)))) pa_nil))))),?_⟩
  rcases h with ⟨z,rfl,hl,q⟩ | ⟨⟨t,ty,hk⟩,q⟩
  · have hs:z.length≤sizeLine:=small hl
    refine ⟨_,rfl,_,_,_,rfl,.str z,kit_ss,_,rfl,iteF ?_⟩
    refine ⟨_,rfl,_,_,rfl,⟨hs,rfl⟩,_,_,rfl,rfl,_,rfl,ite2 (fun c => ?_) (fun c => ?_)⟩
    · have c':(40:Int) < (z.length:Int):=of_decide_eq_true c
      have e:cB z=false:=by unfold cB; rw [decide_eq_false (by omega)]; rfl
      have:=q H (Same.refl H)
      rw [e] at this; exact this
    · have c':¬ (40:Int) < (z.length:Int):=fun w=>c (decide_eq_true w)
      refine ⟨_,rfl,_,rfl,comp_of (fun i=>.bl (!(Builtin.Str.occurrences ("0123" : Str) (sgn z i) 0 ("0123" : Str).length 1).isEmpty)) hs (fun i H' R hi hR=>⟨_,rfl,_,_,rfl,rfl,hR⟩) fun D hD => ?_⟩
      have e:(List.range z.length).map (fun i=>V.bl (!(Builtin.Str.occurrences ("0123" : Str) (sgn z i) 0 ("0123" : Str).length 1).isEmpty))=((List.range z.length).map fun i=>sB (z.cps.getD i 0)).map V.bl:=by
        rw [List.map_map]
        refine List.map_congr_left fun i _ => ?_
        show V.bl (!(Builtin.Str.occurrences ("0123" : Str) (⟨#[z.cps.getD i 0]⟩:Str) 0 ("0123" : Str).length 1).isEmpty)=_
        rw [PySem.StrLaws.found_one]
        rfl
      refine ⟨D,(List.range z.length).map fun i=>sB (z.cps.getD i 0),rfl,SqL.of (by rw [upd_same,e]),?_⟩
      have e2:(((List.range z.length).map fun i=>sB (z.cps.getD i 0)).all id)=cB z:=by
        unfold cB
        rw [decide_eq_true (by omega),List.all_map]
        rfl
      rw [e2]
      exact q _ (Same.new hD _)
  · exact ⟨_,rfl,_,_,_,rfl,ty,hk,_,rfl,iteT q⟩

abbrev s_need_code:Stmt:=top 11
theorem sc_need_code:FnScope ["code"] ["code"] (defScope s_need_code):=⟨rfl,rfl,rfl,by decide +kernel,rfl,by decide +kernel,by decide +kernel⟩
def sp_need_code:Sp:=fun vs H Q _=>∃ z,vs=[.str z]∧IsC z∧z.length≤40∧∀ H',Same H H'→Q .non H'
theorem ok_need_code (T:Tx K mg) (q:Quiet CX) (F:FunD K "need_code" "need_code" s_need_code f fd .none) (C_is_code:Fok P w K mg base CX 1 "is_code" ["thing"] [] (gsp_is_code K)):FnOk P w K mg base CX 2 f fd ["code"] sp_need_code:=by
  refine F.ok sc_need_code (fun vs H Q E h => ?_) (fun cdv A outer s H vs Q E hr h => ?_)
  · obtain ⟨x,rfl,_⟩:=h
    rfl
  obtain ⟨z,rfl,hz,hl,q'⟩:=h
  refine ⟨_,(pss_one (ps_if (pt_not (pt_val (pe_callF C_is_code q hr (pa_cons (pv 0) pa_nil)))) (pss_one ps_never) pss_nil)),?_⟩
  refine ⟨_,rfl,_,rfl,.inl ⟨z,rfl,by omega,fun H' sm => ?_⟩⟩
  rw [(cB_iff z).mpr ⟨hl,hz⟩]
  exact ⟨_,rfl,iteF (q' H' sm)⟩
abbrev s_need_side:Stmt:=top 12
theorem sc_need_side:FnScope ["side"] ["side"] (defScope s_need_side):=⟨rfl,rfl,rfl,by decide +kernel,rfl,by decide +kernel,by decide +kernel⟩
def sp_need_side (Y:Yx K mg):Sp:=fun vs H Q E=>∃ x,vs=[x]∧((∃ z,x=.str z∧sideB z∧Q .non H)∨(BadSide H x∧E (.ref Y.c_NoSide) none H))
theorem ok_need_side (T:Tx K mg) (Y:Yx K mg) (q:Quiet (CXe P w)) (F:FunD K "need_side" "need_side" s_need_side f fd .none) (C_is_side:Fok P w K mg base (CXe P w) 1 "is_side" ["thing"] [] sp_is_side):FnOk P w K mg base (CXe P w) 2 f fd ["side"] (sp_need_side Y):=by
  refine F.okX sc_need_side (fun vs H Q E h => ?_) (fun cdv A outer s H vs Q E hr h => ?_)
  · obtain ⟨x,rfl,_⟩:=h
    rfl
  obtain ⟨x,rfl,h⟩:=h
  refine ⟨_,(pss_one (ps_if (pt_not (pt_val (pe_callF C_is_side q hr (pa_cons (pv 0) pa_nil)))) (pss_one (ps_raise Y.x_NoSide raisesE pe_str)) pss_nil)),?_⟩
  rcases h with ⟨z,rfl,hz,q'⟩ | ⟨bx,q'⟩
  · exact ⟨_,rfl,_,rfl,.inl ⟨z,rfl,hz,_,rfl,iteF q'⟩⟩
  · exact ⟨_,rfl,_,rfl,.inr ⟨bx,_,rfl,iteT q'⟩⟩
theorem cxs_go (b:List Nat):∀ a:Nat,b.foldl (fun a d=>a * 2 + d % 2) a=a * 2 ^ b.length + cxs b:=by
  unfold cxs
  induction b with
  | nil=>intro a; simp
  | cons d r ih =>
    intro a
    simp only [List.foldl_cons,List.length_cons]
    rw [ih (a * 2 + d % 2),ih (0 * 2 + d % 2),Nat.pow_succ,Nat.add_mul,Nat.add_mul]
    rw [show a * 2 * 2 ^ r.length=a * (2 ^ r.length * 2) by rw [Nat.mul_assoc,Nat.mul_comm 2]]
    omega
theorem cys_go (b:List Nat):∀ a:Nat,b.foldl (fun a d=>a * 2 + d / 2) a=a * 2 ^ b.length + cys b:=by
  unfold cys
  induction b with
  | nil=>intro a; simp
  | cons d r ih =>
    intro a
    simp only [List.foldl_cons,List.length_cons]
    rw [ih (a * 2 + d / 2),ih (0 * 2 + d / 2),Nat.pow_succ,Nat.add_mul,Nat.add_mul]
    rw [show a * 2 * 2 ^ r.length=a * (2 ^ r.length * 2) by rw [Nat.mul_assoc,Nat.mul_comm 2]]
    omega
theorem cxs_app (a b:List Nat):cxs (a++b)=cxs a * 2 ^ b.length + cxs b:=by
  rw [← cxs_go b (cxs a)]; unfold cxs; rw [List.foldl_append]
theorem cys_app (a b:List Nat):cys (a++b)=cys a * 2 ^ b.length + cys b:=by
  rw [← cys_go b (cys a)]; unfold cys; rw [List.foldl_append]
theorem cxs_cons (d:Nat) (b:List Nat):cxs (d::b)=d % 2 * 2 ^ b.length + cxs b:=by
  have:=cxs_app [d] b
  rw [show cxs [d]=d % 2 by simp [cxs]] at this
  exact this
theorem cys_cons (d:Nat) (b:List Nat):cys (d::b)=d / 2 * 2 ^ b.length + cys b:=by
  have:=cys_app [d] b
  rw [show cys [d]=d / 2 by simp [cys]] at this
  exact this
theorem cxs_lt (b:List Nat):cxs b < 2 ^ b.length:=by
  induction b with
  | nil=>decide
  | cons d r ih =>
    rw [cxs_cons,List.length_cons,Nat.pow_succ]
    have h:d % 2 * 2 ^ r.length≤1 * 2 ^ r.length:=Nat.mul_le_mul_right _ (by omega)
    omega
theorem cys_lt (b:List Nat) (h4:∀ d∈b,d < 4):cys b < 2 ^ b.length:=by
  induction b with
  | nil=>decide
  | cons d r ih =>
    have ih':=ih fun e he=>h4 e (List.mem_cons_of_mem _ he)
    have hd:=h4 d List.mem_cons_self
    rw [cys_cons,List.length_cons,Nat.pow_succ]
    have h:d / 2 * 2 ^ r.length≤1 * 2 ^ r.length:=Nat.mul_le_mul_right _ (by omega)
    omega

theorem step_on {b c b' m k:Int} {u v:Int} (h:b'=b - c) (g:v=u - c * (m - 1)):b' * m + v=b * m + u - c * (m * 2 - 1):=by
  subst h g
  rw [Int.sub_mul,Int.mul_sub,Int.mul_sub]
  have:c * (m * 2)=c * m + c * m:=by rw [← Int.mul_assoc,Int.mul_comm (c * m) 2]; omega
  omega
theorem step_end {b c b' m:Int} {u v:Int} (h:b'=b + c) (g:v=u - c * (m - 1)):b' * m + v=b * m + u + c:=by
  subst h g
  rw [Int.add_mul,Int.mul_sub]
  omega
theorem one_txt (d:Nat) (ds:List Nat):one d++txt ds=txt (d::ds):=by
  apply str_ext
  show (#[48 + d]++(ds.map (48 + ·)).toArray).toList=_
  simp [txt]
theorem rngDown {n:Nat} (h:n≤40):Builtin.Range.small ((n:Int) - 1) (-1) (-1)=true∧Builtin.Range.rangeSize ((n:Int) - 1) (-1) (-1)=(n:Int):=by
  have e:∀ m:Nat,m < 41→Builtin.Range.small ((m:Int) - 1) (-1) (-1)=true∧Builtin.Range.rangeSize ((m:Int) - 1) (-1) (-1)=(m:Int):=by decide +kernel
  exact e n (by omega)

abbrev s_beside:Stmt:=top 15
theorem sc_beside:FnScope ["code","side","crossing","behind","at","sign"] ["code","side"] (defScope s_beside):=⟨rfl,rfl,rfl,by decide +kernel,rfl,by decide +kernel,by decide +kernel⟩

def sp_beside:Sp:=fun vs H Q _=>∃ (z side s1 s2:Str) (dx dy:Int),vs=[.str z,.str side]∧Dir side s1 s2 dx dy∧IsC z∧z.length≤40∧∀ H',Same H H' →
  (∀ y,IsC y→y.length=z.length→((cxs (dig y):Nat):Int)=((cxs (dig z):Nat):Int) + dx→((cys (dig y):Nat):Int)=((cys (dig z):Nat):Int) + dy→Q (.str y) H') ∧
  (∀ x' y':Nat,x' < 2 ^ z.length→y' < 2 ^ z.length→(x':Int)=((cxs (dig z):Nat):Int) - dx * (((2 ^ z.length:Nat):Int) - 1)→(y':Int)=((cys (dig z):Nat):Int) - dy * (((2 ^ z.length:Nat):Int) - 1)→Q .non H')
theorem cross_of (U:Ty P w K mg) {side s1 s2:Str} {dx dy:Int} (h:Dir side s1 s2 dx dy):∃ a kvs p,mg "CROSSINGS" = some (.ref a)∧KD P w K a kvs∧valV kvs (.inr side)=some (.ref p)∧KTu K p [.str s1,.str s2]:=by
  obtain ⟨a,p0,p1,p2,p3,g,kd,k0,k1,k2,k3⟩:=U.cross
  rcases h with ⟨rfl,rfl,rfl,_⟩ | ⟨rfl,rfl,rfl,_⟩ | ⟨rfl,rfl,rfl,_⟩ | ⟨rfl,rfl,rfl,_⟩
  · exact ⟨a,_,p0,g,kd,by with_unfolding_all rfl,k0⟩
  · exact ⟨a,_,p1,g,kd,by with_unfolding_all rfl,k1⟩
  · exact ⟨a,_,p2,g,kd,by with_unfolding_all rfl,k2⟩
  · exact ⟨a,_,p3,g,kd,by with_unfolding_all rfl,k3⟩

def sp_besideX (Y:Yx K mg):Sp:=fun vs H Q E=>sp_beside vs H Q E∨(∃ z x,vs=[.str z,x]∧IsC z∧z.length≤40∧BadSide H x∧∀ H',Same H H'→E (.ref Y.c_NoSide) none H')
theorem ok_beside (T:Tx K mg) (Y:Yx K mg) (U:Ty P w K mg) (q:Quiet (CXe P w)) (F:FunD K "beside" "beside" s_beside f fd .none) (C_need_code:Fok P w K mg base (CXe P w) 2 "need_code" ["code"] [] sp_need_code) (C_need_side:Fok P w K mg base (CXe P w) 2 "need_side" ["side"] [] (sp_need_side Y)) :
    FnOk P w K mg base (CXe P w) 3 f fd ["code","side"] (sp_besideX Y):=by
  refine F.okX sc_beside (fun vs H Q E h => ?_) (fun cdv A outer s H vs Q E hr h => ?_)
  · rcases h with ⟨_,_,_,_,_,_,rfl,_⟩ | ⟨_,_,rfl,_⟩ <;> rfl
  obtain ⟨aC,_,_,_,_,g_CROSSINGS,_⟩:=U.cross
  refine ⟨_,(pss_cons (ps_expr (pe_callF C_need_code q hr (pa_cons (pv 0) pa_nil))) (pss_cons (ps_expr (pe_callX C_need_side hr passE (pa_cons (pv 1) pa_nil))) (pss_cons (ps_set (i:=2) sc_beside.nd rfl (Or.inl rfl) (pe_kget (pe_glob (v:=.ref _) rfl g_CROSSINGS rfl) (pv 1) (fun _ _=>rfl))) (pss_cons (ps_set (i:=3) sc_beside.nd rfl (Or.inl rfl) pe_str) (pss_cons (ps_for PassesOwn.leaving rfl (pi_range3 rfl T.b_range (pa_cons (pe_op op_sub (pe_callB call_len rfl T.b_len bb_len (pa_cons (pv 0) pa_nil)) pe_int) (pa_cons (pe_un un_neg pe_int) (pa_cons (pe_un un_neg pe_int) pa_nil)))) (pg_name (i:=4) sc_beside.nd rfl (Or.inl rfl)) (pss_cons (ps_set (i:=5) sc_beside.nd rfl (Or.inl rfl) (pe_ix ix_str (pv 0) (pv 4) (fun _ _=>rfl))) (pss_cons (ps_set (i:=3) sc_beside.nd rfl (Or.inl rfl) (pe_op op_add_str (pe_ix ix_str (pe_ix ix_tup (pv 2) pe_int (fun _ _=>rfl)) (pe_callTy call_int_str rfl T.b_int bt_int (pa_cons (pv 5) pa_nil)) (fun _ _=>rfl)) (pv 3))) (pss_one (ps_if (pt_cmpR op_in_str (pv 5) (pe_ix ix_tup (pv 2) pe_int (fun _ _=>rfl)) (by with_unfolding_all rfl)) (pss_one (ps_ret (pe_op op_add_str (pe_slice sl_str (pv 0) po_none (po_some (pv 4))) (pv 3)))) pss_nil))))) (pss_one (ps_ret pe_non))))))),?_⟩
  rcases h with h | ⟨z,x,rfl,hz,hl,bx,q'⟩
  rotate_left
  · exact ⟨_,rfl,z,rfl,hz,hl,fun H1 sm1=>⟨_,rfl,_,rfl,.inr ⟨bx.up sm1,q' H1 sm1⟩⟩⟩
  obtain ⟨z,side,s1,s2,dx,dy,e0,hd,hz,hl,q'⟩:=h
  subst e0
  obtain ⟨aC2,kvs,p,g2,kd,kv,kp⟩:=cross_of U hd
  have eC:aC=aC2:=by
    rw [g_CROSSINGS] at g2
    injection g2 with g2
    injection g2 with g2
  subst eC
  obtain ⟨l1,st⟩:=dir_st hd
  have hs:z.length≤sizeLine:=small (by omega)
  refine ⟨_,rfl,z,rfl,hz,by omega,fun H1 sm1 => ?_⟩
  refine ⟨_,rfl,_,rfl,.inl ⟨side,rfl,dir_side hd,?_⟩⟩
  refine ⟨_,rfl,aC,kvs,.inr side,.ref p,rfl,rfl,kd,kv,?_⟩
  obtain ⟨r1,r2⟩:=rngDown hl
  refine ⟨_,rfl,_,_,rfl,⟨hs,rfl⟩,_,_,rfl,rfl,_,rfl,_,rfl,_,_,_,z.length,rfl,by decide,⟨by decide,by decide⟩,r1,r2,for_gen (fun i σ H2=>i≤z.length∧H2=H1∧∃ (S:List Nat) (b:Str) (v4 v5:Option V),S.length=i∧(∀ d∈S,d < 4) ∧
    ((cxs S:Nat):Int)=((cxs ((dig z).drop (z.length - i)):Nat):Int) - dx * (((2 ^ i:Nat):Int) - 1)∧((cys S:Nat):Int)=((cys ((dig z).drop (z.length - i)):Nat):Int) - dy * (((2 ^ i:Nat):Int) - 1)∧b=txt S ∧
    σ=[some (.str z),some (.str side),some (.ref p),some (.str b),v4,v5]) ⟨Nat.zero_le _,rfl,[],_,none,none,rfl,(fun _ h=>by cases h),?_,?_,empty_eq,rfl⟩ ?_ ?_⟩
  · rw [Nat.sub_zero,List.drop_of_length_le (by rw [dig_len]; exact Nat.le_refl _)]; simp [cxs]
  · rw [Nat.sub_zero,List.drop_of_length_le (by rw [dig_len]; exact Nat.le_refl _)]; simp [cys]
  · rintro i σ H2 hi ⟨_,rfl,S,b,v4,v5,hS,hS4,hx,hy,rfl,rfl⟩
    obtain ⟨k,hk⟩:∃ k,z.length - i=k + 1:=⟨z.length - 1 - i,by omega⟩
    have hkl:k < z.length:=by omega
    have ek:(z.length:Int) - 1 + (i:Int) * -1=(k:Int):=by omega
    have hk1:z.length - (i + 1)=k:=by omega
    obtain ⟨d,hd4,e1,e2⟩:=sgn_one hz hkl
    have hin:=sgn_in hz hkl
    have hat:z.cps.toList[k]? = some (48 + d):=by
      have hk2:k < z.cps.size:=hkl
      have e3:z.cps.getD k 0=48 + d:=by omega
      rw [← e3]; simp [Array.getD_eq_getD_getElem?,hk2]
    have hdr:(dig z).drop k=d::(dig z).drop (k + 1):=by
      have hk3:k < (dig z).length:=by rw [dig_len]; exact hkl
      have e4:=dig_at hkl
      rw [e2] at e4
      rw [List.drop_eq_getElem_cons hk3]
      congr 1
      rw [List.getElem?_eq_getElem hk3] at e4
      exact Option.some.inj e4
    have hdl:((dig z).drop (k + 1)).length=i:=by rw [List.length_drop,dig_len]; omega
    obtain ⟨e,he4,hate,hst⟩:=st d hd4
    have hS5:∀ c∈e::S,c < 4:=fun c hc=>by
      rcases List.mem_cons.mp hc with rfl | hc
      · exact he4
      · exact hS4 c hc
    rw [hk] at hx hy
    dsimp only
    rw [ek]
    refine ⟨_,rfl,_,rfl,z,_,48 + d,rfl,rfl,hs,atI_nat hat,?_⟩
    refine ⟨_,rfl,p,_,0,_,rfl,rfl,kp.sq,rfl,_,rfl,_,(d:Int),rfl,int_one hd4,(by show 1≤640; decide),s1,_,48 + e,rfl,rfl,l1,hate,_,rfl,_,_,rfl,rfl,small (by rw [txt_len]; show 1 + S.length≤1000; omega),?_⟩
    have eo:(⟨#[48 + e]⟩:Str)++txt S=txt (e::S):=one_txt e S
    rw [eo]
    refine ⟨_,rfl,_,rfl,p,_,1,_,rfl,rfl,kp.sq,rfl,_,_,rfl,rfl,_,rfl,ite2 (fun c => ?_) (fun c => ?_)⟩
    · have c':occ s2 (one d)=true:=c
      rcases hst with ⟨_,hx1,hy1⟩ | ⟨hf,_⟩
      · refine ⟨_,rfl,_,rfl,_,rfl,z,rfl,hs,_,rfl,_,_,rfl,rfl,?_,?_⟩
        · rw [slice_pre]
          refine small ?_
          rw [pre_len,txt_len,List.length_cons]; omega
        · rw [slice_pre]
          have dz:dig z=(dig z).take k++(d::(dig z).drop (k + 1)):=by rw [← hdr,List.take_append_drop]
          refine (q' H2 sm1).1 _ (IsC.app (pre_isC hz k) (txt_isC hS5)) ?_ ?_ ?_
          · rw [app_len,pre_len,txt_len,List.length_cons]; omega
          · rw [dig_app,dig_pre',dig_txt,cxs_app,cxs_cons,List.length_cons,hS]
            conv=>rhs; rw [dz]
            rw [cxs_app,cxs_cons,List.length_cons,hdl]
            have:=step_end (m:=((2 ^ i:Nat):Int)) hx1 hx
            simp only [Int.natCast_add,Int.natCast_mul] at this ⊢
            omega
          · rw [dig_app,dig_pre',dig_txt,cys_app,cys_cons,List.length_cons,hS]
            conv=>rhs; rw [dz]
            rw [cys_app,cys_cons,List.length_cons,hdl]
            have:=step_end (m:=((2 ^ i:Nat):Int)) hy1 hy
            simp only [Int.natCast_add,Int.natCast_mul] at this ⊢
            omega
      · rw [c'] at hf; cases hf
    · have c':¬ occ s2 (one d)=true:=c
      rcases hst with ⟨ht,_⟩ | ⟨_,hx1,hy1⟩
      · exact absurd ht c'
      · refine ⟨by omega,rfl,e::S,_,_,_,by rw [List.length_cons,hS],hS5,?_,?_,rfl,rfl⟩
        · rw [hk1,hdr,cxs_cons,cxs_cons,hS,hdl,Nat.pow_succ]
          have:=step_on (k:=0) (m:=((2 ^ i:Nat):Int)) hx1 hx
          simp only [Int.natCast_add,Int.natCast_mul] at this ⊢
          exact this
        · rw [hk1,hdr,cys_cons,cys_cons,hS,hdl,Nat.pow_succ]
          have:=step_on (k:=0) (m:=((2 ^ i:Nat):Int)) hy1 hy
          simp only [Int.natCast_add,Int.natCast_mul] at this ⊢
          exact this
  · rintro σ H2 ⟨_,rfl,S,b,v4,v5,hS,hS4,hx,hy,rfl,rfl⟩
    rw [Nat.sub_self,List.drop_zero] at hx hy
    exact (q' H2 sm1).2 (cxs S) (cys S) (by rw [← hS]; exact cxs_lt S) (by rw [← hS]; exact cys_lt S hS4) hx hy
abbrev s_is_leaf:Stmt:=top 20
theorem sc_is_leaf:FnScope ["sheet","code","tree","sign"] ["sheet","code"] (defScope s_is_leaf):=⟨rfl,rfl,rfl,by decide +kernel,rfl,by decide +kernel,by decide +kernel⟩
def sp_is_leaf:Sp:=fun vs H Q _=>∃ (ps:Addr) (n:Int) (v:V) (t:Tr) (z:Str),vs=[.ref ps,.str z]∧H ps=some (.tup [.int n,v])∧TrAt H v t∧IsC z∧z.length≤1000∧Q (.bl (leafB t (dig z))) H
theorem ok_is_leaf (T:Tx K mg) (F:FunD K "is_leaf" "is_leaf" s_is_leaf f fd .none):FnOk P w K mg base CX 1 f fd ["sheet","code"] sp_is_leaf:=by
  refine F.ok sc_is_leaf (fun vs H Q E h => ?_) (fun cdv A outer s H vs Q E hr h => ?_)
  · obtain ⟨_,_,_,_,_,rfl,_⟩:=h
    rfl
  obtain ⟨ps,n,v,t,z,rfl,hps,ht,hz,hl,q'⟩:=h
  refine ⟨_,(pss_cons (ps_set (i:=2) sc_is_leaf.nd rfl (Or.inl rfl) (pe_ix ix_tup (pv 0) pe_int (fun _ _=>rfl))) (pss_cons (ps_for PassesOwn.never rfl (pi_str (pv 1)) (pg_name (i:=3) sc_is_leaf.nd rfl (Or.inl rfl)) (pss_cons (ps_if (pt_not (pt_val (pe_callB (call_isiT "tuple") rfl T.b_isinstance bb_isinstance (pa_cons (pv 2) (pa_cons (pe_bty T.b_tuple bt_tuple) pa_nil))))) (pss_one (ps_ret pe_bl)) pss_nil) (pss_one (ps_set (i:=2) sc_is_leaf.nd rfl (Or.inl rfl) (pe_ix ix_tup (pv 2) (pe_callTy call_int_str rfl T.b_int bt_int (pa_cons (pv 3) pa_nil)) (fun _ _=>rfl)))))) (pss_one (ps_ret (pe_not (pe_callB (call_isiT "tuple") rfl T.b_isinstance bb_isinstance (pa_cons (pv 2) (pa_cons (pe_bty T.b_tuple bt_tuple) pa_nil)))))))),?_⟩
  refine ⟨_,rfl,ps,_,1,_,rfl,rfl,SqT.of hps,rfl,?_⟩
  refine ⟨_,rfl,z,rfl,for_gen (fun (i:Nat) σ H2=>H2=H∧i≤z.length∧∃ (v':V) (u:Tr) (o:Option V),node t ((dig z).take i)=some u∧TrAt H v' u∧σ=[some (.ref ps),some (.str z),some v',o]) ⟨rfl,Nat.zero_le _,v,t,none,rfl,ht,rfl⟩ ?_ ?_⟩
  · rintro i σ H2 hi ⟨rfl,_,v',u,o,hn,hu,rfl⟩
    have hi':i < z.length:=hi
    cases hu with
    | col c =>
      refine ⟨_,rfl,_,_,_,rfl,.int _,kit_it,_,rfl,iteT ?_⟩
      rw [node_end hn (by rw [dig_len]; exact hi')] at q'
      exact q'
    | @four p xa xb xc xd ta tb tc td e ja jb jc jd =>
      refine ⟨_,rfl,_,_,_,rfl,.tup e,kit_tt,_,rfl,iteF ?_⟩
      obtain ⟨d,hd,e1,e2⟩:=sgn_one hz hi'
      have key:∃ x,atI [xa,xb,xc,xd] (d:Int)=some x∧TrAt H2 x (qk (.four ta tb tc td) d):=by
        rcases d with _ | _ | _ | _ | d
        · exact ⟨xa,rfl,ja⟩
        · exact ⟨xb,rfl,jb⟩
        · exact ⟨xc,rfl,jc⟩
        · exact ⟨xd,rfl,jd⟩
        · omega
      obtain ⟨x,k1,k2⟩:=key
      have ed:(dig z)[i]? = some d:=by rw [← e2]; exact dig_at hi'
      refine ⟨_,rfl,_,rfl,_,(d:Int),rfl,by rw [e1]; exact int_one hd,(by rw [e1]; show 1≤640; decide),p,_,_,x,rfl,rfl,SqT.of e,k1,rfl,by omega,x,_,_,node_step hn ed,k2,rfl⟩
  · rintro σ H2 ⟨rfl,_,v',u,o,hn,hu,rfl⟩
    rw [List.take_of_length_le (by rw [dig_len]; exact Nat.le_refl _)] at hn
    unfold leafB at q'
    rw [hn] at q'
    cases hu with
    | col c=>exact ⟨_,rfl,_,_,_,rfl,.int _,kit_it,_,rfl,q'⟩
    | @four p xa xb xc xd ta tb tc td e ja jb jc jd=>exact ⟨_,rfl,_,_,_,rfl,.tup e,kit_tt,_,rfl,q'⟩
abbrev s_leaves_along:Stmt:=top 21
theorem sc_leaves_along:FnScope ["tree","code","near","row","sign"] ["tree","code","near"] (defScope s_leaves_along):=⟨rfl,rfl,rfl,by decide +kernel,rfl,by decide +kernel,by decide +kernel⟩
def sp_leaves_along (m:Nat):Sp:=fun vs H Q _=>∃ (v:V) (t:Tr) (z y:Str) (k:Nat),vs=[v,.str z,.str y]∧TrAt H v t∧Good k t∧IsC z∧z.length + k≤100∧IsC y∧NearOk (dig y)∧k < m∧m≤41∧cnt t≤4000 ∧
  ∀ l H',Same H H'→H l=none→H' l=some (.lst ((along (dig y) (dig z) t).map sV))→Q (.ref l) H'
theorem ok_leaves_along (T:Tx K mg) (q:Quiet CX) (F:FunD K "leaves_along" "leaves_along" s_leaves_along f fd .none) (b:Binds K fd ["tree","code","near"] []) (m:mg "leaves_along" = some (.ref f)) :
    ∀ n,FnOk P w K mg base CX (1 + n) f fd ["tree","code","near"] (sp_leaves_along n)
  | 0=>by
    refine F.ok sc_leaves_along (fun vs H Q E h => ?_) (fun cdv A outer s H vs Q E hr h => ?_)
    · obtain ⟨_,_,_,_,_,rfl,_⟩:=h
      rfl
    obtain ⟨_,_,_,_,_,_,_,_,_,_,_,_,h,_⟩:=h
    exact absurd h (Nat.not_lt_zero _)
  | m' + 1=>by
    have C_leaves_along:Fok P w K mg base CX (1 + m') "leaves_along" ["tree","code","near"] [] (sp_leaves_along m'):=fok F (ok_leaves_along T q F b m m') b m
    refine F.ok sc_leaves_along (fun vs H Q E h => ?_) (fun cdv A outer s H vs Q E hr h => ?_)
    · obtain ⟨_,_,_,_,_,rfl,_⟩:=h
      rfl
    obtain ⟨v,t,z,y,k,rfl,ht,gt,hz,hl,hy,hn,hk,hm,hc,q'⟩:=h
    refine ⟨_,(pss_cons (ps_if (pt_not (pt_val (pe_callB (call_isiT "tuple") rfl T.b_isinstance bb_isinstance (pa_cons (pv 0) (pa_cons (pe_bty T.b_tuple bt_tuple) pa_nil))))) (pss_one (ps_ret (pe_lstx (pax_c (pv 1) pax_nil)))) pss_nil) (pss_cons (ps_set (i:=3) sc_leaves_along.nd rfl (Or.inl rfl) (pe_lstx pax_nil)) (pss_cons (ps_for PassesOwn.never rfl (pi_str (pv 2)) (pg_name (i:=4) sc_leaves_along.nd rfl (Or.inl rfl)) (pss_one (ps_expr (pe_bm PySem.F.plainAttrs_list PySem.F.slot_list_extend PySem.F.type_list_extend mt_extend (pv 3) (pa_cons (pe_callF C_leaves_along q hr (pa_cons (pe_ix ix_tup (pv 0) (pe_callTy call_int_str rfl T.b_int bt_int (pa_cons (pv 4) pa_nil)) (fun _ _=>rfl)) (pa_cons (pe_op op_add_str (pv 1) (pv 4)) (pa_cons (pv 2) pa_nil))) (hj:=by first | decide | omega | (simp only [Nat.add_eq]; omega))) pa_nil))))) (pss_one (ps_ret (pv 3)))))),?_⟩
    have ly:y.length=2:=by
      rw [← dig_len]
      rcases hn with h | h | h | h <;> rw [h] <;> rfl
    cases ht with
    | col i =>
      refine ⟨_,rfl,_,_,_,rfl,.int _,kit_it,_,rfl,iteT ?_⟩
      refine ⟨_,rfl,(by show 1≤sizeLine; decide),fun l hl1 => ?_⟩
      refine q' l _ (Same.new hl1 _) hl1 ?_
      rw [upd_same]
      show some (HO.lst [V.str z])=some (HO.lst [sV (dig z)])
      rw [sV_dig hz]
    | @four p xa xb xc xd ta tb tc td e ja jb jc jd =>
      rcases k with _ | k
      · exact gt.elim
      refine ⟨_,rfl,_,_,_,rfl,.tup e,kit_tt,_,rfl,iteF ?_⟩
      refine ⟨(by show 0≤sizeLine; decide),fun l hl0 => ?_⟩
      have s1:=Same.new hl0 (.lst [])
      have u1:upd H l (.lst []) l=some (.lst []):=upd_same
      generalize upd H l (.lst [])=H1 at *
      have tot:((dig y).flatMap fun e=>along (dig y) (dig z++[e]) (qk (.four ta tb tc td) e)).length≤4000:=by
        rw [← along_four]
        exact Nat.le_trans (along_len hn _ _) hc
      refine ⟨_,rfl,y,rfl,for_gen (fun (j:Nat) σ H2=>Same H H2∧j≤y.length∧∃ (o:Option V),H2 l=some (.lst ((((dig y).take j).flatMap fun e=>along (dig y) (dig z++[e]) (qk (.four ta tb tc td) e)).map sV))∧σ=[some (.ref p),some (.str z),some (.str y),some (.ref l),o]) ⟨s1,Nat.zero_le _,none,u1,rfl⟩ ?_ ?_⟩
      · rintro j σ H2 hj ⟨s2,_,o,u2,rfl⟩
        have hj':j < y.length:=hj
        obtain ⟨d,hd,e1,e2⟩:=sgn_one hy hj'
        have ed:(dig y)[j]? = some d:=by rw [← e2]; exact dig_at hj'
        have key:∃ x,atI [xa,xb,xc,xd] (d:Int)=some x∧TrAt H x (qk (.four ta tb tc td) d):=by
          rcases d with _ | _ | _ | _ | d
          · exact ⟨xa,rfl,ja⟩
          · exact ⟨xb,rfl,jb⟩
          · exact ⟨xc,rfl,jc⟩
          · exact ⟨xd,rfl,jd⟩
          · omega
        obtain ⟨x,k1,k2⟩:=key
        have l1:(one d).length=1:=rfl
        rw [e1]
        refine ⟨_,rfl,.inl ⟨rfl,_,SqL.of u2⟩,_,rfl,_,rfl,_,(d:Int),rfl,int_one hd,(by show 1≤640; decide),p,_,_,x,rfl,rfl,SqT.of (s2 _ _ e),k1,_,rfl,_,rfl,_,_,rfl,rfl,(by rw [l1]; exact small (by omega)),_,rfl,x,_,z++one d,y,k,rfl,k2.up s2.tups,gt.q d,IsC.app hz (IsC.one hd),by rw [app_len,l1]; omega,hy,hn,by omega,by omega,Nat.le_trans (cnt_qk _ d) hc,fun l2 H3 s3 hl2 u3 => ?_⟩
        rw [dig_app,dig_one] at u3
        have et:((dig y).take (j + 1)).flatMap (fun e=>along (dig y) (dig z++[e]) (qk (.four ta tb tc td) e))=((dig y).take j).flatMap (fun e=>along (dig y) (dig z++[e]) (qk (.four ta tb tc td) e))++along (dig y) (dig z++[d]) (qk (.four ta tb tc td) d):=by
          rw [List.take_add_one,ed,List.flatMap_append]; simp
        have n1:(((dig y).take j).flatMap fun e=>along (dig y) (dig z++[e]) (qk (.four ta tb tc td) e)).length≤4000:=by
          refine Nat.le_trans ?_ tot
          have fl:∀ g:Nat→List (List Nat),(((dig y).take j).flatMap g).length≤((dig y).flatMap g).length:=fun g=>by
            conv=>rhs; rw [← List.take_append_drop j (dig y),List.flatMap_append,List.length_append]
            omega
          exact fl _
        have n2:=along_len hn (qk (.four ta tb tc td) d) (dig z++[d])
        have n3:=cnt_qk (.four ta tb tc td) d
        refine ⟨l,l2,_,_,rfl,rfl,s3 _ _ u2,u3,big (by rw [List.length_map,List.length_map]; omega),Same.set (s2.trans s3) hl0 _,by omega,_,?_,rfl⟩
        rw [upd_same,et,List.map_append]
      · rintro σ H2 ⟨s2,_,o,u2,rfl⟩
        rw [List.take_of_length_le (by rw [dig_len]; exact Nat.le_refl _),← along_four] at u2
        exact ⟨_,rfl,q' l H2 s2 hl0 u2⟩

def BeyP (Y:Yx K mg) (H:Hp) (Q:VK) (E:XK) (z:Str) (t:Tr) (x:V):Prop :=
  (∃ (side s1 s2:Str) (dx dy:Int),x=.str side∧Dir side s1 s2 dx dy ∧
    (∀ y,IsC y→y.length=z.length→((cxs (dig y):Nat):Int)=((cxs (dig z):Nat):Int) + dx→((cys (dig y):Nat):Int)=((cys (dig z):Nat):Int) + dy→∀ l H',Same H H'→H l=none→H' l=some (.lst ((down (dig s2) [] (dig y) t).map sV))→Q (.ref l) H') ∧
    (∀ x' y':Nat,x' < 2 ^ z.length→y' < 2 ^ z.length→(x':Int)=((cxs (dig z):Nat):Int) - dx * (((2 ^ z.length:Nat):Int) - 1)→(y':Int)=((cys (dig z):Nat):Int) - dy * (((2 ^ z.length:Nat):Int) - 1)→∀ l H',Same H H'→H l=none→H' l=some (.lst [])→Q (.ref l) H'))
  ∨ (BadSide H x∧∀ H',Same H H'→E (.ref Y.c_NoSide) none H')
abbrev s_beyond_leaf:Stmt:=top 22
theorem sc_beyond_leaf:FnScope ["sheet","code","side","other","tree","signs"] ["sheet","code","side"] (defScope s_beyond_leaf):=⟨rfl,rfl,rfl,by decide +kernel,rfl,by decide +kernel,by decide +kernel⟩
def sp_beyond_leaf (Y:Yx K mg):Sp:=fun vs H Q E=>∃ (ps:Addr) (n:Nat) (v x:V) (t:Tr) (z:Str),vs=[.ref ps,.str z,x]∧H ps=some (.tup [.int (n:Int),v])∧TrAt H v t∧Good n t∧n≤40∧cnt t≤4000∧IsC z∧z.length≤40∧BeyP Y H Q E z t x
theorem ok_beyond_leaf (T:Tx K mg) (Y:Yx K mg) (U:Ty P w K mg) (q:Quiet (CXe P w)) (F:FunD K "beyond_leaf" "beyond_leaf" s_beyond_leaf f fd .none) (C_beside:Fok P w K mg base (CXe P w) 3 "beside" ["code","side"] [] (sp_besideX Y)) (C_leaves_along:Fok P w K mg base (CXe P w) 42 "leaves_along" ["tree","code","near"] [] (sp_leaves_along 41)) :
    FnOk P w K mg base (CXe P w) 43 f fd ["sheet","code","side"] (sp_beyond_leaf Y):=by
  refine F.okX sc_beyond_leaf (fun vs H Q E h => ?_) (fun cdv A outer s H vs Q E hr h => ?_)
  · obtain ⟨_,_,_,_,_,_,rfl,_⟩:=h
    rfl
  obtain ⟨ps,n,v,x,t,z,rfl,hps,ht,gt,hn,hc,hz,hl,h⟩:=h
  obtain ⟨aC,_,_,_,_,g_CROSSINGS,_⟩:=U.cross
  refine ⟨_,(pss_cons (ps_set (i:=3) sc_beyond_leaf.nd rfl (Or.inl rfl) (pe_callX C_beside hr passE (pa_cons (pv 1) (pa_cons (pv 2) pa_nil)))) (pss_cons (ps_if (pt_cmpR op_isN (pv 3) pe_non (nomark _)) (pss_one (ps_ret (pe_lstx pax_nil))) pss_nil) (pss_cons (ps_set (i:=4) sc_beyond_leaf.nd rfl (Or.inl rfl) (pe_ix ix_tup (pv 0) pe_int (fun _ _=>rfl))) (pss_cons (ps_for PassesOwn.leaving rfl (pi_range1 rfl T.b_range (pa_cons (pe_callB call_len rfl T.b_len bb_len (pa_cons (pv 3) pa_nil)) pa_nil)) (pg_name (i:=5) sc_beyond_leaf.nd rfl (Or.inl rfl)) (pss_cons (ps_if (pt_not (pt_val (pe_callB (call_isiT "tuple") rfl T.b_isinstance bb_isinstance (pa_cons (pv 4) (pa_cons (pe_bty T.b_tuple bt_tuple) pa_nil))))) (pss_one (ps_ret (pe_lstx (pax_c (pe_slice sl_str (pv 3) po_none (po_some (pv 5))) pax_nil)))) pss_nil) (pss_one (ps_set (i:=4) sc_beyond_leaf.nd rfl (Or.inl rfl) (pe_ix ix_tup (pv 4) (pe_callTy call_int_str rfl T.b_int bt_int (pa_cons (pe_ix ix_str (pv 3) (pv 5) (fun _ _=>rfl)) pa_nil)) (fun _ _=>rfl)))))) (pss_one (ps_ret (pe_callF C_leaves_along q hr (pa_cons (pv 4) (pa_cons (pv 3) (pa_cons (pe_ix ix_tup (pe_kget (pe_glob (v:=.ref _) rfl g_CROSSINGS rfl) (pv 2) (fun _ _=>rfl)) pe_int (fun _ _=>rfl)) pa_nil)))))))))),?_⟩
  rcases h with ⟨side,s1,s2,dx,dy,rfl,hd,h1,h2⟩ | ⟨bx,q'⟩
  rotate_left
  · exact ⟨_,rfl,_,rfl,.inr ⟨z,x,rfl,hz,hl,bx,q'⟩⟩
  obtain ⟨aC2,kvs,pc,g2,kd,kv,kp⟩:=cross_of U hd
  have eC:aC=aC2:=by
    rw [g_CROSSINGS] at g2
    injection g2 with g2
    injection g2 with g2
  subst eC
  obtain ⟨hs2,ns2⟩:=dir_near hd
  refine ⟨_,rfl,_,rfl,.inl ⟨z,side,s1,s2,dx,dy,rfl,hd,hz,hl,fun H1 sm1=>⟨fun y hy ly ex ey => ?_,fun x' y' hx' hy' ex ey => ?_⟩⟩⟩
  · refine ⟨_,rfl,rfl,_,rfl,iteF ?_⟩
    have hy':y.length≤sizeLine:=small (by omega)
    refine ⟨_,rfl,ps,_,1,_,rfl,rfl,SqT.of (sm1 _ _ hps),rfl,?_⟩
    refine ⟨_,rfl,_,_,rfl,⟨hy',rfl⟩,_,rfl,by omega,by omega,for_range (fun (i:Nat) σ H2=>H2=H1∧i≤y.length∧∃ (v':V) (u:Tr) (o:Option V),node t ((dig y).take i)=some u∧TrAt H1 v' u∧σ=[some (.ref ps),some (.str z),some (.str side),some (.str y),some v',o]) ⟨rfl,Nat.zero_le _,v,t,none,rfl,ht.up sm1.tups,rfl⟩ ?_ ?_⟩
    · rintro i σ H2 hi ⟨rfl,_,v',u,o,hnd,hu,rfl⟩
      have hi':i < y.length:=by omega
      rw [show (0:Int) + (i:Int)=(i:Int) by omega]
      cases hu with
      | col c =>
        refine ⟨_,rfl,_,_,_,rfl,.int _,kit_it,_,rfl,iteT ?_⟩
        refine ⟨_,rfl,_,rfl,_,rfl,y,rfl,hy',(by show 1≤sizeLine; decide),fun l hl1 => ?_⟩
        rw [slice_pre]
        refine h1 y hy ly ex ey l _ (sm1.trans (Same.new hl1 _)) (Same.free sm1 hl1) ?_
        rw [upd_same]
        have e1:down (dig s2) [] (dig y) t=[(dig y).take i]:=by
          have e2:=down_node (dig s2) ((dig y).take i) ((dig y).drop i) [] t _ hnd
          rw [List.take_append_drop,List.nil_append,List.drop_eq_getElem_cons (by rw [dig_len]; exact hi')] at e2
          exact e2
        rw [e1]
        show some (HO.lst [V.str (pre y i)])=some (HO.lst [V.str (txt ((dig y).take i))])
        rw [txt_pre hy]
      | @four p xa xb xc xd ta tb tc td e ja jb jc jd =>
        refine ⟨_,rfl,_,_,_,rfl,.tup e,kit_tt,_,rfl,iteF ?_⟩
        obtain ⟨d,hd4,e1,e2⟩:=sgn_one hy hi'
        have key:∃ x,atI [xa,xb,xc,xd] (d:Int)=some x∧TrAt H2 x (qk (.four ta tb tc td) d):=by
          rcases d with _ | _ | _ | _ | d
          · exact ⟨xa,rfl,ja⟩
          · exact ⟨xb,rfl,jb⟩
          · exact ⟨xc,rfl,jc⟩
          · exact ⟨xd,rfl,jd⟩
          · omega
        obtain ⟨x,k1,k2⟩:=key
        have ed:(dig y)[i]? = some d:=by rw [← e2]; exact dig_at hi'
        have hin:=sgn_in hy hi'
        have hat:y.cps.toList[i]? = some (48 + d):=by
          have hk2:i < y.cps.size:=hi'
          have e3:y.cps.getD i 0=48 + d:=by omega
          rw [← e3]; simp [Array.getD_eq_getD_getElem?,hk2]
        refine ⟨_,rfl,_,rfl,_,rfl,y,_,48 + d,rfl,rfl,hy',atI_nat hat,_,(d:Int),rfl,int_one hd4,(by show 1≤640; decide),p,_,_,x,rfl,rfl,SqT.of e,k1,rfl,by omega,x,_,_,node_step hnd ed,k2,rfl⟩
    · rintro σ H2 ⟨rfl,_,v',u,o,hnd,hu,rfl⟩
      rw [Int.toNat_natCast,List.take_of_length_le (by rw [dig_len]; exact Nat.le_refl _)] at hnd
      obtain ⟨gl,gu⟩:=good_node _ _ _ _ gt hnd
      rw [dig_len] at gl gu
      refine ⟨_,rfl,_,rfl,_,rfl,aC,kvs,.inr side,.ref pc,rfl,rfl,kd,kv,pc,_,1,_,rfl,rfl,kp.sq,rfl,v',u,y,s2,n - y.length,rfl,hu,gu,hy,by omega,hs2,ns2,by omega,by omega,Nat.le_trans (cnt_node _ _ _ hnd) hc,fun l H3 s3 hl3 u3 => ?_⟩
      refine h1 y hy ly ex ey l H3 (sm1.trans s3) (Same.free sm1 hl3) ?_
      have e2:=down_node (dig s2) (dig y) [] [] t u hnd
      rw [List.append_nil,List.nil_append] at e2
      rw [e2]
      exact u3
  · refine ⟨_,rfl,rfl,_,rfl,iteT ?_⟩
    exact ⟨(by show 0≤sizeLine; decide),fun l hl1=>h2 x' y' hx' hy' ex ey l _ (sm1.trans (Same.new hl1 _)) (Same.free sm1 hl1) upd_same⟩
abbrev s_beyond:Stmt:=top 23
theorem sc_beyond:FnScope ["sheet","code","side"] ["sheet","code","side"] (defScope s_beyond):=⟨rfl,rfl,rfl,by decide +kernel,rfl,by decide +kernel,by decide +kernel⟩
def sp_beyond (Y:Yx K mg):Sp:=fun vs H Q E=>∃ (ps:Addr) (n:Nat) (v x xc:V) (t:Tr),vs=[.ref ps,xc,x]∧H ps=some (.tup [.int (n:Int),v])∧TrAt H v t∧Good n t∧n≤40∧cnt t≤4000 ∧
  ((((∃ z,xc=.str z∧z.length≤1000∧(cB z && leafB t (dig z))=false)∨(∃ ty,TyOf K H xc ty∧PySem.W.kitOne K ty (.type "str")=some false))∧∀ H',Same H H'→E (.ref Y.c_NoLeaf) none H')
  ∨ (∃ z,xc=.str z∧IsC z∧z.length≤40∧leafB t (dig z)=true∧BeyP Y H Q E z t x))
theorem BeyP.up {Y:Yx K mg} {H H':Hp} {Q:VK} {E:XK} {z:Str} {t:Tr} {x:V} (h:BeyP Y H Q E z t x) (s:Same H H'):BeyP Y H' Q E z t x:=by
  rcases h with ⟨side,s1,s2,dx,dy,e,hd,h1,h2⟩ | ⟨bx,q'⟩
  · exact .inl ⟨side,s1,s2,dx,dy,e,hd,fun y a1 a2 a3 a4 l H2 a5 a6 a7=>h1 y a1 a2 a3 a4 l H2 (s.trans a5) (Same.free s a6) a7,fun x' y' a1 a2 a3 a4 l H2 a5 a6 a7=>h2 x' y' a1 a2 a3 a4 l H2 (s.trans a5) (Same.free s a6) a7⟩
  · exact .inr ⟨bx.up s,fun H2 a=>q' H2 (s.trans a)⟩
theorem ok_beyond (T:Tx K mg) (Y:Yx K mg) (q:Quiet (CXe P w)) (F:FunD K "beyond" "beyond" s_beyond f fd .none) (C_is_code:Fok P w K mg base (CXe P w) 1 "is_code" ["thing"] [] (gsp_is_code K)) (C_is_leaf:Fok P w K mg base (CXe P w) 1 "is_leaf" ["sheet","code"] [] sp_is_leaf) (C_beyond_leaf:Fok P w K mg base (CXe P w) 43 "beyond_leaf" ["sheet","code","side"] [] (sp_beyond_leaf Y)) :
    FnOk P w K mg base (CXe P w) 44 f fd ["sheet","code","side"] (sp_beyond Y):=by
  refine F.okX sc_beyond (fun vs H Q E h => ?_) (fun cdv A outer s H vs Q E hr h => ?_)
  · obtain ⟨_,_,_,_,_,_,rfl,_⟩:=h
    rfl
  obtain ⟨ps,n,v,x,xc,t,rfl,hps,ht,gt,hn,hc,h⟩:=h
  refine ⟨_,(pss_cons (ps_if (PW.pt (pw_or (pt_not (pt_val (pe_callF C_is_code q hr (pa_cons (pv 1) pa_nil)))) (pw_or1 (pt_not (pt_val (pe_callF C_is_leaf q hr (pa_cons (pv 0) (pa_cons (pv 1) pa_nil)))))))) (pss_one (ps_raise Y.x_NoLeaf raisesE pe_str)) pss_nil) (pss_one (ps_ret (pe_callX C_beyond_leaf hr passE (pa_cons (pv 0) (pa_cons (pv 1) (pa_cons (pv 2) pa_nil))))))),?_⟩
  rcases h with ⟨⟨z,rfl,hl,hb⟩ | ⟨ty,h1,h2⟩,q'⟩ | ⟨z,rfl,hz,hl,hb,h⟩
  · refine ⟨_,rfl,_,rfl,.inl ⟨z,rfl,hl,fun H1 sm => ?_⟩⟩
    cases hcb:cB z with
    | false=>exact ⟨_,rfl,iteT (q' H1 sm)⟩
    | true =>
      rw [hcb,Bool.true_and] at hb
      obtain ⟨_,hz⟩:=(cB_iff z).mp hcb
      refine ⟨_,rfl,iteF ?_⟩
      refine ⟨_,rfl,_,rfl,ps,(n:Int),v,t,z,rfl,sm _ _ hps,ht.up sm.tups,hz,hl,?_⟩
      rw [hb]
      exact ⟨_,rfl,iteT (q' H1 sm)⟩
  · exact ⟨_,rfl,_,rfl,.inr ⟨⟨ty,h1,h2⟩,_,rfl,iteT (q' H (Same.refl H))⟩⟩
  · refine ⟨_,rfl,_,rfl,.inl ⟨z,rfl,by omega,fun H1 sm => ?_⟩⟩
    rw [(cB_iff z).mpr ⟨hl,hz⟩]
    refine ⟨_,rfl,iteF ?_⟩
    refine ⟨_,rfl,_,rfl,ps,(n:Int),v,t,z,rfl,sm _ _ hps,ht.up sm.tups,hz,by omega,?_⟩
    rw [hb]
    refine ⟨_,rfl,iteF ?_⟩
    exact ⟨_,rfl,_,rfl,_,rfl,ps,n,v,x,t,z,rfl,sm _ _ hps,ht.up sm.tups,gt,hn,hc,hz,hl,h.up sm⟩
end
end Qs


namespace Qs
open PySem L2

def nd (ax:Bool) (d:Nat):Nat:=if ax then d / 2 else d % 2
def td (ax:Bool) (d:Nat):Nat:=if ax then d % 2 else d / 2
def cn (ax:Bool) (r:List Nat):Nat:=if ax then cys r else cxs r
def ct (ax:Bool) (r:List Nat):Nat:=if ax then cxs r else cys r
def nC (ax:Bool) (x y:Nat):Nat:=if ax then y else x
def tC' (ax:Bool) (x y:Nat):Nat:=if ax then x else y

def LiesP (ax s:Bool) (N1 T1 W x y w:Nat):Prop:=(if s then nC ax x y + w=N1 else nC ax x y=N1 + W)∧T1 < tC' ax x y + w∧tC' ax x y < T1 + W
instance (ax s:Bool) (N1 T1 W x y w:Nat):Decidable (LiesP ax s N1 T1 W x y w):=by unfold LiesP; infer_instance
def fl (P:Nat→Nat→Nat→Bool):List Nat→Tr→Nat→Nat→Nat→List (List Nat)
  | p,.col _,x,y,k=>if P x y (2 ^ k) then [p] else []
  | p,.four a b c d,x,y,k=>fl P (p++[0]) a x y (k - 1)++(fl P (p++[1]) b (x + 2 ^ (k - 1)) y (k - 1)++(fl P (p++[2]) c x (y + 2 ^ (k - 1)) (k - 1)++fl P (p++[3]) d (x + 2 ^ (k - 1)) (y + 2 ^ (k - 1)) (k - 1)))
def nearOf (ax s:Bool):List Nat:=match ax,s with
  | true,true=>[2,3]
  | true,false=>[0,1]
  | false,true=>[1,3]
  | false,false=>[0,2]
def FarP (ax s:Bool) (N1 T1 W x y K:Nat):Prop:=tC' ax x y + K≤T1∨T1 + W≤tC' ax x y∨(if s then (N1≤nC ax x y∨nC ax x y + K < N1) else (N1 + W < nC ax x y∨nC ax x y + K≤N1 + W))
theorem far_col {ax s:Bool} {N1 T1 W x y K:Nat} (hK:0 < K) (h:FarP ax s N1 T1 W x y K):¬ LiesP ax s N1 T1 W x y K:=by
  unfold FarP at h
  unfold LiesP
  cases ax <;> cases s <;> simp only [nC,tC',if_true,if_false,Bool.false_eq_true] at h ⊢ <;> omega
theorem far_child {ax s:Bool} {N1 T1 W x y h:Nat} (f:FarP ax s N1 T1 W x y (2 * h)) (dx dy:Nat) (hx:dx=0∨dx=h) (hy:dy=0∨dy=h):FarP ax s N1 T1 W (x + dx) (y + dy) h:=by
  unfold FarP at f ⊢
  cases ax <;> cases s <;> simp only [nC,tC',if_true,if_false,Bool.false_eq_true] at f ⊢ <;> omega
theorem fl_far {ax s:Bool} {N1 T1 W:Nat}:∀ (u:Tr) (p:List Nat) (x y k:Nat),Good k u→FarP ax s N1 T1 W x y (2 ^ k)→fl (fun x y w=>decide (LiesP ax s N1 T1 W x y w)) p u x y k=[]
  | .col _,p,x,y,k,_,f=>by
    show (if decide (LiesP ax s N1 T1 W x y (2 ^ k))=true then [p] else [])=[]
    rw [if_neg (by rw [decide_eq_true_eq]; exact far_col (Nat.two_pow_pos k) f)]
  | .four a b c d,p,x,y,0,g,_=>g.elim
  | .four a b c d,p,x,y,k + 1,⟨ga,gb,gc,gd,_⟩,f=>by
    rw [Nat.pow_succ,Nat.mul_comm] at f
    have c0:=far_child f 0 0 (.inl rfl) (.inl rfl)
    have c1:=far_child f (2 ^ k) 0 (.inr rfl) (.inl rfl)
    have c2:=far_child f 0 (2 ^ k) (.inl rfl) (.inr rfl)
    have c3:=far_child f (2 ^ k) (2 ^ k) (.inr rfl) (.inr rfl)
    rw [Nat.add_zero] at c1 c2
    rw [Nat.add_zero,Nat.add_zero] at c0
    show fl _ (p++[0]) a x y k++(fl _ (p++[1]) b (x + 2 ^ k) y k++(fl _ (p++[2]) c x (y + 2 ^ k) k++fl _ (p++[3]) d (x + 2 ^ k) (y + 2 ^ k) k))=[]
    rw [fl_far a _ _ _ k ga c0,fl_far b _ _ _ k gb c1,fl_far c _ _ _ k gc c2,fl_far d _ _ _ k gd c3]
    rfl

def NearP (ax s:Bool) (N1 T1 W x y K:Nat):Prop:=T1≤tC' ax x y∧tC' ax x y + K≤T1 + W∧(if s then nC ax x y + K=N1 else nC ax x y=N1 + W)
theorem fl_near {ax s:Bool} {N1 T1 W:Nat}:∀ (u:Tr) (p:List Nat) (x y k:Nat),Good k u→NearP ax s N1 T1 W x y (2 ^ k)→fl (fun x y w=>decide (LiesP ax s N1 T1 W x y w)) p u x y k=along (nearOf ax s) p u
  | .col _,p,x,y,k,_,f=>by
    show (if decide (LiesP ax s N1 T1 W x y (2 ^ k))=true then [p] else [])=[p]
    have pk:=Nat.two_pow_pos k
    generalize 2 ^ k=K at *
    rw [if_pos]
    rw [decide_eq_true_eq]
    unfold NearP at f
    unfold LiesP
    cases ax <;> cases s <;> simp only [nC,tC',if_true,if_false,Bool.false_eq_true] at f ⊢ <;> omega
  | .four a b c d,p,x,y,0,g,_=>g.elim
  | .four a b c d,p,x,y,k + 1,⟨ga,gb,gc,gd,_⟩,f=>by
    rw [Nat.pow_succ,Nat.mul_comm] at f
    have pk:=Nat.two_pow_pos k
    rw [along_four]
    show fl _ (p++[0]) a x y k++(fl _ (p++[1]) b (x + 2 ^ k) y k++(fl _ (p++[2]) c x (y + 2 ^ k) k++fl _ (p++[3]) d (x + 2 ^ k) (y + 2 ^ k) k))=_
    cases ax <;> cases s
    · have n0:NearP false false N1 T1 W x y (2 ^ k):=by unfold NearP at f ⊢; simp only [nC,tC',if_false,Bool.false_eq_true] at f ⊢; omega
      have n2:NearP false false N1 T1 W x (y + 2 ^ k) (2 ^ k):=by unfold NearP at f ⊢; simp only [nC,tC',if_false,Bool.false_eq_true] at f ⊢; omega
      have f1:FarP false false N1 T1 W (x + 2 ^ k) y (2 ^ k):=by unfold NearP at f; unfold FarP; simp only [nC,tC',if_false,Bool.false_eq_true] at f ⊢; omega
      have f3:FarP false false N1 T1 W (x + 2 ^ k) (y + 2 ^ k) (2 ^ k):=by unfold NearP at f; unfold FarP; simp only [nC,tC',if_false,Bool.false_eq_true] at f ⊢; omega
      rw [fl_near a _ _ _ k ga n0,fl_far b _ _ _ k gb f1,fl_near c _ _ _ k gc n2,fl_far d _ _ _ k gd f3]
      simp [nearOf,qk,q0,q2]
    · have n1:NearP false true N1 T1 W (x + 2 ^ k) y (2 ^ k):=by unfold NearP at f ⊢; simp only [nC,tC',if_true,if_false,Bool.false_eq_true] at f ⊢; omega
      have n3:NearP false true N1 T1 W (x + 2 ^ k) (y + 2 ^ k) (2 ^ k):=by unfold NearP at f ⊢; simp only [nC,tC',if_true,if_false,Bool.false_eq_true] at f ⊢; omega
      have f0:FarP false true N1 T1 W x y (2 ^ k):=by unfold NearP at f; unfold FarP; simp only [nC,tC',if_true,if_false,Bool.false_eq_true] at f ⊢; omega
      have f2:FarP false true N1 T1 W x (y + 2 ^ k) (2 ^ k):=by unfold NearP at f; unfold FarP; simp only [nC,tC',if_true,if_false,Bool.false_eq_true] at f ⊢; omega
      rw [fl_far a _ _ _ k ga f0,fl_near b _ _ _ k gb n1,fl_far c _ _ _ k gc f2,fl_near d _ _ _ k gd n3]
      simp [nearOf,qk,q1,q3]
    · have n0:NearP true false N1 T1 W x y (2 ^ k):=by unfold NearP at f ⊢; simp only [nC,tC',if_true,if_false,Bool.false_eq_true] at f ⊢; omega
      have n1:NearP true false N1 T1 W (x + 2 ^ k) y (2 ^ k):=by unfold NearP at f ⊢; simp only [nC,tC',if_true,if_false,Bool.false_eq_true] at f ⊢; omega
      have f2:FarP true false N1 T1 W x (y + 2 ^ k) (2 ^ k):=by unfold NearP at f; unfold FarP; simp only [nC,tC',if_true,if_false,Bool.false_eq_true] at f ⊢; omega
      have f3:FarP true false N1 T1 W (x + 2 ^ k) (y + 2 ^ k) (2 ^ k):=by unfold NearP at f; unfold FarP; simp only [nC,tC',if_true,if_false,Bool.false_eq_true] at f ⊢; omega
      rw [fl_near a _ _ _ k ga n0,fl_near b _ _ _ k gb n1,fl_far c _ _ _ k gc f2,fl_far d _ _ _ k gd f3]
      simp [nearOf,qk,q0,q1]
    · have n2:NearP true true N1 T1 W x (y + 2 ^ k) (2 ^ k):=by unfold NearP at f ⊢; simp only [nC,tC',if_true,if_false,Bool.false_eq_true] at f ⊢; omega
      have n3:NearP true true N1 T1 W (x + 2 ^ k) (y + 2 ^ k) (2 ^ k):=by unfold NearP at f ⊢; simp only [nC,tC',if_true,if_false,Bool.false_eq_true] at f ⊢; omega
      have f0:FarP true true N1 T1 W x y (2 ^ k):=by unfold NearP at f; unfold FarP; simp only [nC,tC',if_true,if_false,Bool.false_eq_true] at f ⊢; omega
      have f1:FarP true true N1 T1 W (x + 2 ^ k) y (2 ^ k):=by unfold NearP at f; unfold FarP; simp only [nC,tC',if_true,if_false,Bool.false_eq_true] at f ⊢; omega
      rw [fl_far a _ _ _ k ga f0,fl_far b _ _ _ k gb f1,fl_near c _ _ _ k gc n2,fl_near d _ _ _ k gd n3]
      simp [nearOf,qk,q2,q3]

theorem fl_one {P:Nat→Nat→Nat→Bool} {p:List Nat} {a b c d:Tr} {x y k e:Nat} {R:List (List Nat)} (he:e < 4)
    (h0:∀ d',d' < 4→d'≠e→fl P (p++[d']) (qk (.four a b c d) d') (x + d' % 2 * 2 ^ k) (y + d' / 2 * 2 ^ k) k=[])
    (h1:fl P (p++[e]) (qk (.four a b c d) e) (x + e % 2 * 2 ^ k) (y + e / 2 * 2 ^ k) k=R):fl P p (.four a b c d) x y (k + 1)=R:=by
  have r0:fl P p (.four a b c d) x y (k + 1)=fl P (p++[0]) (qk (.four a b c d) 0) (x + 0 % 2 * 2 ^ k) (y + 0 / 2 * 2 ^ k) k++(fl P (p++[1]) (qk (.four a b c d) 1) (x + 1 % 2 * 2 ^ k) (y + 1 / 2 * 2 ^ k) k ++
      (fl P (p++[2]) (qk (.four a b c d) 2) (x + 2 % 2 * 2 ^ k) (y + 2 / 2 * 2 ^ k) k++fl P (p++[3]) (qk (.four a b c d) 3) (x + 3 % 2 * 2 ^ k) (y + 3 / 2 * 2 ^ k) k)):=by
    simp [fl,qk,q0,q1,q2,q3]
  rw [r0]
  rcases e with _ | _ | _ | _ | e
  · rw [h1,h0 1 (by decide) (by decide),h0 2 (by decide) (by decide),h0 3 (by decide) (by decide)]; simp
  · rw [h1,h0 0 (by decide) (by decide),h0 2 (by decide) (by decide),h0 3 (by decide) (by decide)]; simp
  · rw [h1,h0 0 (by decide) (by decide),h0 1 (by decide) (by decide),h0 3 (by decide) (by decide)]; simp
  · rw [h1,h0 0 (by decide) (by decide),h0 1 (by decide) (by decide),h0 2 (by decide) (by decide)]; simp
  · omega

theorem dg_at {ax:Bool} {d x y h:Nat} (hd:d < 4):nC ax (x + d % 2 * h) (y + d / 2 * h)=nC ax x y + nd ax d * h∧tC' ax (x + d % 2 * h) (y + d / 2 * h)=tC' ax x y + td ax d * h∧nd ax d < 2∧td ax d < 2:=by
  cases ax <;> refine ⟨rfl,rfl,?_,?_⟩ <;> simp only [nd,td,if_true,if_false,Bool.false_eq_true] <;> omega
theorem dg_ne {ax:Bool} {d e:Nat} (hd:d < 4) (he:e < 4) (h:d≠e):nd ax d≠nd ax e∨td ax d≠td ax e:=by
  cases ax <;> simp only [nd,td,if_true,if_false,Bool.false_eq_true] <;> omega
theorem dg_eq {ax:Bool} {d e:Nat} (hd:d < 4) (he:e < 4) (h1:nd ax d=nd ax e) (h2:td ax d=td ax e):d=e:=by
  cases ax <;> simp only [nd,td,if_true,if_false,Bool.false_eq_true] at h1 h2 <;> omega
theorem c_cons (ax:Bool) (e:Nat) (r:List Nat):cn ax (e::r)=nd ax e * 2 ^ r.length + cn ax r∧ct ax (e::r)=td ax e * 2 ^ r.length + ct ax r:=by
  cases ax <;> simp only [cn,ct,nd,td,if_true,if_false,Bool.false_eq_true] <;> exact ⟨by first | exact cxs_cons e r | exact cys_cons e r,by first | exact cxs_cons e r | exact cys_cons e r⟩
theorem c_lt (ax:Bool) {r:List Nat} (h4:∀ d∈r,d < 4):cn ax r < 2 ^ r.length∧ct ax r < 2 ^ r.length:=by
  cases ax <;> simp only [cn,ct,if_true,if_false,Bool.false_eq_true] <;> exact ⟨by first | exact cxs_lt r | exact cys_lt r h4,by first | exact cxs_lt r | exact cys_lt r h4⟩

theorem part_le {c m W:Nat} (h:c < m):c * W + W≤m * W:=by
  have:=Nat.mul_le_mul_right W (show c + 1≤m from h)
  rw [Nat.add_mul,Nat.one_mul] at this
  exact this
def AlP (ax s:Bool) (N1 W x y K:Nat):Prop:=if s then nC ax x y + K=N1 else nC ax x y=N1 + W
theorem fl_down {ax s:Bool} {N1 T1:Nat} {j:Nat}:∀ (r:List Nat) (u:Tr) (p:List Nat) (x y:Nat),(∀ d∈r,d < 4)→Good (r.length + j) u→T1=tC' ax x y + ct ax r * 2 ^ j →
    (if s then nC ax x y + cn ax r * 2 ^ j + 2 ^ j=N1 else nC ax x y + cn ax r * 2 ^ j=N1 + 2 ^ j)→AlP ax s N1 (2 ^ j) x y (2 ^ (r.length + j)) →
    fl (fun x y w=>decide (LiesP ax s N1 T1 (2 ^ j) x y w)) p u x y (r.length + j)=down (nearOf ax s) p r u
  | [],u,p,x,y,_,g,hT,hN,hA=>by
    have e0:ct ax []=0∧cn ax []=0:=by cases ax <;> exact ⟨rfl,rfl⟩
    rw [List.length_nil,Nat.zero_add] at g hA ⊢
    show _=along (nearOf ax s) p u
    refine fl_near u p x y j g ?_
    rw [e0.1,Nat.zero_mul,Nat.add_zero] at hT
    exact ⟨by omega,by omega,hA⟩
  | e::r,.col c,p,x,y,_,g,hT,hN,hA=>by
    show (if decide (LiesP ax s N1 T1 (2 ^ j) x y (2 ^ ((e::r).length + j)))=true then [p] else [])=[p]
    rw [if_pos]
    rw [decide_eq_true_eq]
    have h4:∀ d∈e::r,d < 4:=by assumption
    have lt:=(c_lt ax h4).2
    have pj:=Nat.two_pow_pos j
    have le:=part_le (W:=2 ^ j) lt
    rw [← Nat.pow_add] at le
    refine ⟨?_,?_,?_⟩
    · unfold AlP at hA
      cases s
      · exact hA
      · exact hA
    · omega
    · omega
  | e::r,.four a b c d,p,x,y,h4,g,hT,hN,hA=>by
    have he:=h4 e List.mem_cons_self
    have h4':∀ d∈r,d < 4:=fun d hd=>h4 d (List.mem_cons_of_mem _ hd)
    have lt:=c_lt ax h4'
    have pj:=Nat.two_pow_pos j
    have l1:=part_le (W:=2 ^ j) lt.1
    have l2:=part_le (W:=2 ^ j) lt.2
    rw [← Nat.pow_add] at l1 l2
    have ec:=c_cons ax e r
    have ek:(e::r).length + j=(r.length + j) + 1:=by rw [List.length_cons]; omega
    rw [ek] at g hA ⊢
    rw [ec.2,Nat.add_mul,Nat.mul_assoc,← Nat.pow_add] at hT
    rw [ec.1,Nat.add_mul,Nat.mul_assoc,← Nat.pow_add] at hN
    rw [Nat.pow_succ] at hA
    obtain ⟨en,et,ln,ltd⟩:=dg_at (ax:=ax) (x:=x) (y:=y) (h:=2 ^ (r.length + j)) he
    generalize hh:2 ^ (r.length + j)=h at *
    generalize hw:2 ^ j=W at *
    generalize hA1:ct ax r * W=A1 at *
    generalize hB1:cn ax r * W=B1 at *
    have ph:0 < h:=by omega
    have key:nd ax e=(if s then 1 else 0)∧AlP ax s N1 W (x + e % 2 * h) (y + e / 2 * h) h:=by
      unfold AlP at hA ⊢
      rw [en]
      have cs:nd ax e=0∨nd ax e=1:=by omega
      cases s
      · simp only [if_false,Bool.false_eq_true] at hA hN ⊢
        rcases cs with cs | cs <;> rw [cs] at hN ⊢ <;> omega
      · simp only [if_true] at hA hN ⊢
        rcases cs with cs | cs <;> rw [cs] at hN ⊢ <;> omega
    obtain ⟨k1,k2⟩:=key
    show fl _ p (.four a b c d) x y (r.length + j + 1)=down (nearOf ax s) (p++[e]) r (qk (.four a b c d) e)
    refine fl_one he (fun d' hd' nde => ?_) ?_
    · rw [hh]
      obtain ⟨en',et',ln',lt'⟩:=dg_at (ax:=ax) (x:=x) (y:=y) (h:=h) hd'
      refine fl_far _ _ _ _ _ (g.q d') ?_
      rw [hh]
      unfold FarP
      rw [en',et']
      unfold AlP at hA
      have c1:td ax e=0∨td ax e=1:=by omega
      have c2:td ax d'=0∨td ax d'=1:=by omega
      have c3:nd ax d'=0∨nd ax d'=1:=by omega
      have c4:=dg_ne (ax:=ax) hd' he nde
      cases s
      · simp only [if_false,Bool.false_eq_true] at hA hN k1 ⊢
        rcases c1 with c1 | c1 <;> rcases c2 with c2 | c2 <;> rcases c3 with c3 | c3 <;> rw [c1] at hT c4 <;> rw [c2] at c4 ⊢ <;> rw [c3] at c4 ⊢ <;> rw [k1] at c4 hN <;> omega
      · simp only [if_true] at hA hN k1 ⊢
        rcases c1 with c1 | c1 <;> rcases c2 with c2 | c2 <;> rcases c3 with c3 | c3 <;> rw [c1] at hT c4 <;> rw [c2] at c4 ⊢ <;> rw [c3] at c4 ⊢ <;> rw [k1] at c4 hN <;> omega
    · rw [hh]
      have:=fl_down (ax:=ax) (s:=s) (N1:=N1) (T1:=T1) (j:=j) r (qk (.four a b c d) e) (p++[e]) (x + e % 2 * h) (y + e / 2 * h) h4' (g.q e) (by rw [hw,hA1,et]; omega) (by rw [hw,hB1,en]; cases s <;> simp only [if_true,if_false,Bool.false_eq_true] at hN ⊢ <;> omega) (by rw [hw,hh]; exact k2)
      rw [hw] at this
      exact this
theorem fl_both {ax s:Bool} {j:Nat}:∀ (zr yr:List Nat) (u:Tr) (p:List Nat) (x y N1 T1:Nat) (c:Int),zr.length=yr.length→(∀ d∈zr,d < 4)→(∀ d∈yr,d < 4)→Good (zr.length + j) u→node u zr=some (.col c) →
    T1=tC' ax x y + ct ax zr * 2 ^ j→T1=tC' ax x y + ct ax yr * 2 ^ j→N1=nC ax x y + cn ax zr * 2 ^ j→(if s then nC ax x y + cn ax yr * 2 ^ j + 2 ^ j=N1 else nC ax x y + cn ax yr * 2 ^ j=N1 + 2 ^ j) →
    fl (fun x y w=>decide (LiesP ax s N1 T1 (2 ^ j) x y w)) p u x y (zr.length + j)=down (nearOf ax s) p yr u
  | [],yr,u,p,x,y,N1,T1,c,hl,_,_,_,_,_,_,hN,hS=>by
    have e:yr=[]:=List.eq_nil_of_length_eq_zero hl.symm
    subst e
    have pj:=Nat.two_pow_pos j
    cases s <;> simp only [if_true,if_false,Bool.false_eq_true] at hS <;> omega
  | _::_,[],_,_,_,_,_,_,_,hl,_,_,_,_,_,_,_,_=>by simp at hl
  | e'::zr,e::yr,.col _,_,_,_,_,_,_,_,_,_,_,hnd,_,_,_,_=>by cases hnd
  | e'::zr,e::yr,.four a b c d,p,x,y,N1,T1,cc,hl,z4,y4,g,hnd,hT,hT',hN,hS=>by
    have he':=z4 e' List.mem_cons_self
    have he:=y4 e List.mem_cons_self
    have z4':∀ d∈zr,d < 4:=fun d hd=>z4 d (List.mem_cons_of_mem _ hd)
    have y4':∀ d∈yr,d < 4:=fun d hd=>y4 d (List.mem_cons_of_mem _ hd)
    have hl':zr.length=yr.length:=by simpa using hl
    have lz:=c_lt ax z4'
    have ly:=c_lt ax y4'
    have pj:=Nat.two_pow_pos j
    have z1:=part_le (W:=2 ^ j) lz.1
    have z2:=part_le (W:=2 ^ j) lz.2
    have y1:=part_le (W:=2 ^ j) ly.1
    have y2:=part_le (W:=2 ^ j) ly.2
    rw [← Nat.pow_add] at z1 z2 y1 y2
    have ez:=c_cons ax e' zr
    have ey:=c_cons ax e yr
    have ek:(e'::zr).length + j=(zr.length + j) + 1:=by rw [List.length_cons]; omega
    rw [ek] at g ⊢
    rw [ez.2,Nat.add_mul,Nat.mul_assoc,← Nat.pow_add] at hT
    rw [ez.1,Nat.add_mul,Nat.mul_assoc,← Nat.pow_add] at hN
    rw [ey.2,Nat.add_mul,Nat.mul_assoc,← Nat.pow_add] at hT'
    rw [ey.1,Nat.add_mul,Nat.mul_assoc,← Nat.pow_add] at hS
    rw [← hl'] at y1 y2 hT' hS
    obtain ⟨en,et,ln,lt⟩:=dg_at (ax:=ax) (x:=x) (y:=y) (h:=2 ^ (zr.length + j)) he
    obtain ⟨en',et',ln',lt'⟩:=dg_at (ax:=ax) (x:=x) (y:=y) (h:=2 ^ (zr.length + j)) he'
    have hnd':node (qk (.four a b c d) e') zr=some (.col cc):=hnd
    generalize hh:2 ^ (zr.length + j)=h at *
    generalize hw:2 ^ j=W at *
    generalize hA1:ct ax zr * W=A1 at *
    generalize hB1:cn ax zr * W=B1 at *
    generalize hA2:ct ax yr * W=A2 at *
    generalize hB2:cn ax yr * W=B2 at *
    have c1:td ax e=0∨td ax e=1:=by omega
    have c2:td ax e'=0∨td ax e'=1:=by omega
    have c3:nd ax e=0∨nd ax e=1:=by omega
    have c4:nd ax e'=0∨nd ax e'=1:=by omega
    have tde:td ax e=td ax e':=by
      rcases c1 with c1 | c1 <;> rcases c2 with c2 | c2 <;> rw [c1,c2] <;> rw [c1] at hT' <;> rw [c2] at hT <;> omega
    show fl _ p (.four a b c d) x y (zr.length + j + 1)=down (nearOf ax s) (p++[e]) yr (qk (.four a b c d) e)
    refine fl_one he (fun d' hd' nde => ?_) ?_
    · rw [hh]
      obtain ⟨en2,et2,ln2,lt2⟩:=dg_at (ax:=ax) (x:=x) (y:=y) (h:=h) hd'
      refine fl_far _ _ _ _ _ (g.q d') ?_
      rw [hh]
      unfold FarP
      rw [en2,et2]
      have c5:td ax d'=0∨td ax d'=1:=by omega
      have c6:nd ax d'=0∨nd ax d'=1:=by omega
      have c7:=dg_ne (ax:=ax) hd' he nde
      cases s
      · simp only [if_false,Bool.false_eq_true] at hS ⊢
        rcases c1 with c1 | c1 <;> rcases c3 with c3 | c3 <;> rcases c4 with c4 | c4 <;> rcases c5 with c5 | c5 <;> rcases c6 with c6 | c6 <;> rw [c1] at hT' tde c7 <;> rw [← tde] at hT <;> rw [c3] at hS c7 <;> rw [c4] at hN <;> rw [c5,c6] at c7 ⊢ <;> omega
      · simp only [if_true] at hS ⊢
        rcases c1 with c1 | c1 <;> rcases c3 with c3 | c3 <;> rcases c4 with c4 | c4 <;> rcases c5 with c5 | c5 <;> rcases c6 with c6 | c6 <;> rw [c1] at hT' tde c7 <;> rw [← tde] at hT <;> rw [c3] at hS c7 <;> rw [c4] at hN <;> rw [c5,c6] at c7 ⊢ <;> omega
    · rw [hh]
      by_cases hne:nd ax e=nd ax e'
      · have ee:e=e':=dg_eq he he' hne tde
        subst ee
        have:=fl_both (ax:=ax) (s:=s) (j:=j) zr yr (qk (.four a b c d) e) (p++[e]) (x + e % 2 * h) (y + e / 2 * h) N1 T1 cc hl' z4' y4' (g.q e) hnd' (by rw [hw,hA1,et]; omega) (by rw [hw,hA2,et]; omega) (by rw [hw,hB1,en]; omega)
          (by rw [hw,hB2,en]; cases s <;> simp only [if_true,if_false,Bool.false_eq_true] at hS ⊢ <;> omega)
        rw [hw] at this
        exact this
      · have al:AlP ax s N1 W (x + e % 2 * h) (y + e / 2 * h) h:=by
          unfold AlP
          rw [en]
          cases s
          · simp only [if_false,Bool.false_eq_true] at hS ⊢
            rcases c3 with c3 | c3 <;> rcases c4 with c4 | c4 <;> rw [c3] at hS ⊢ <;> rw [c4] at hN <;> omega
          · simp only [if_true] at hS ⊢
            rcases c3 with c3 | c3 <;> rcases c4 with c4 | c4 <;> rw [c3] at hS ⊢ <;> rw [c4] at hN <;> omega
        have gq:=g.q e
        rw [hl'] at gq hh ⊢
        have:=fl_down (ax:=ax) (s:=s) (N1:=N1) (T1:=T1) (j:=j) yr (qk (.four a b c d) e) (p++[e]) (x + e % 2 * h) (y + e / 2 * h) y4' gq (by rw [hw,hA2,et]; omega) (by rw [hw,hB2,en]; cases s <;> simp only [if_true,if_false,Bool.false_eq_true] at hS ⊢ <;> omega) (by rw [hw,hh]; exact al)
        rw [hw] at this
        exact this
end Qs
namespace Qs
open PySem L2
section
variable {P:Program} {w:World} {K:PySem.W.Frag} {mg:Str→Option Value} {base:Heap} {CX:CXT} {f:Addr} {fd:FuncData}
abbrev s_law_at:Stmt:=top 26
theorem sc_law_at:FnScope ["_law_script","_law_k"] ["_law_script","_law_k"] (defScope s_law_at):=⟨rfl,rfl,rfl,by decide +kernel,rfl,by decide +kernel,by decide +kernel⟩
def sp_law_at (K:PySem.W.Frag):Sp:=fun vs H Q _=>∃ (a:Addr) (ns:List Int) (k:Nat),vs=[.ref a,.int k]∧SqL K H a (ns.map V.int)∧ns.length≤63∧Q (.int (cell ns k)) H
theorem ok_law_at (T:Tx K mg) (F:FunD K "_law_at" "_law_at" s_law_at f fd .none):FnOk P w K mg base CX 1 f fd ["_law_script","_law_k"] (sp_law_at K):=by
  refine F.ok sc_law_at (fun vs H Q E h => ?_) (fun cdv A outer s H vs Q E hr h => ?_)
  · obtain ⟨_,_,_,rfl,_⟩:=h
    rfl
  obtain ⟨a,ns,k,rfl,hS,hl,q'⟩:=h
  refine ⟨_,(pss_cons (ps_if (pt_cmpR op_lt (pv 1) (pe_callB call_len rfl T.b_len bb_len (pa_cons (pv 0) pa_nil)) (nomark _)) (pss_one (ps_ret (pe_ix ix_list (pv 0) (pv 1) (fun _ _=>rfl)))) pss_nil) (pss_one (ps_ret pe_int))),?_⟩
  refine ⟨_,rfl,_,rfl,_,_,rfl,.inl ⟨_,hS,rfl⟩,_,_,rfl,rfl,_,rfl,ite2 (fun c => ?_) (fun c => ?_)⟩
  · have c':(k:Int) < (((ns.map V.int).length:Nat):Int):=of_decide_eq_true c
    rw [List.length_map] at c'
    have hk:k < ns.length:=by omega
    have e:(ns.map V.int)[k]? = some (.int (cell ns k)):=by simp [cell,hk]
    exact ⟨_,rfl,_,rfl,a,_,_,_,rfl,rfl,hS,atI_nat e,q'⟩
  · have c':¬ (k:Int) < (((ns.map V.int).length:Nat):Int):=fun z=>c (decide_eq_true z)
    rw [List.length_map] at c'
    have e:cell ns k=0:=by
      have:ns[k]? = none:=List.getElem?_eq_none (by omega)
      simp [cell,this]
    rw [e] at q'
    exact q'
abbrev s_law_mix:Stmt:=top 27
theorem sc_law_mix:FnScope ["_law_cell","_law_k","_law_value"] ["_law_cell","_law_k"] (defScope s_law_mix):=⟨rfl,rfl,rfl,by decide +kernel,rfl,by decide +kernel,by decide +kernel⟩
def sp_law_mix:Sp:=fun vs H Q _=>∃ (c:Int) (k:Nat),vs=[.int c,.int k]∧k≤100000∧∀ m:Nat,m < 2305843009213693951→Q (.int (m:Int)) H
theorem ok_law_mix (T:Tx K mg) (F:FunD K "_law_mix" "_law_mix" s_law_mix f fd .none):FnOk P w K mg base CX 1 f fd ["_law_cell","_law_k"] sp_law_mix:=by
  refine F.ok sc_law_mix (fun vs H Q E h => ?_) (fun cdv A outer s H vs Q E hr h => ?_)
  · obtain ⟨_,_,rfl,_⟩:=h
    rfl
  obtain ⟨c,k,rfl,hk,q'⟩:=h
  refine ⟨_,(pss_cons (ps_set (i:=2) sc_law_mix.nd rfl (Or.inl rfl) (pe_op op_add (pe_op op_add (pe_op op_mod (pv 0) pe_int) (pe_op op_mul pe_int (pv 1))) pe_int)) (pss_cons (ps_set (i:=2) sc_law_mix.nd rfl (Or.inl rfl) (pe_op op_mod (pe_op op_mul (pv 2) (pe_op op_add pe_int (pe_op op_mul pe_int (pv 1)))) pe_int)) (pss_one (ps_ret (pe_op op_mod (pe_op op_mul (pe_op op_add (pe_op op_fdivW (pv 2) pe_int) (pe_op op_mul (pv 2) pe_int)) pe_int) pe_int))))),?_⟩
  have pP:(0:Int) < 2305843009213693951:=by decide
  refine ⟨_,rfl,_,_,rfl,rfl,pP,_,rfl,_,_,rfl,rfl,.inl ⟨by decide,by decide⟩,_,_,rfl,rfl,_,_,rfl,rfl,?_⟩
  dsimp only
  obtain ⟨v,hv,ev⟩:∃ v:Int,(0≤v∧v < 2305843009213693951 + 211 * 100000 + 13)∧c % 2305843009213693951 + 211 * (k:Int) + 13=v:=⟨_,by omega,rfl⟩
  rw [ev]
  refine ⟨_,rfl,_,rfl,_,_,rfl,rfl,.inl ⟨by decide,by decide⟩,_,_,rfl,rfl,_,_,rfl,rfl,.inl ⟨by omega,by omega⟩,_,_,rfl,rfl,pP,?_⟩
  dsimp only
  obtain ⟨x,hx,ex⟩:∃ x:Int,(0≤x∧x < 2305843009213693951)∧v * (746413622384679307 + 2 * (k:Int)) % 2305843009213693951=x:=⟨_,⟨Int.emod_nonneg _ (by decide),Int.emod_lt_of_pos _ (by decide)⟩,rfl⟩
  rw [ex]
  refine ⟨_,rfl,_,_,rfl,rfl,cdivW (by decide) (by decide),_,rfl,_,_,rfl,rfl,.inr ⟨by decide,by decide⟩,_,_,rfl,rfl,_,_,rfl,rfl,.inr ⟨by decide,by decide⟩,_,_,rfl,rfl,pP,?_⟩
  dsimp only
  obtain ⟨m,hm,em⟩:∃ m:Nat,m < 2305843009213693951∧(x / 268435456 + x * 5) * 1302034522624059749 % 2305843009213693951=(m:Int):=by
    have h1:=Int.emod_nonneg ((x / 268435456 + x * 5) * 1302034522624059749) (show (2305843009213693951:Int)≠0 by decide)
    have h2:=Int.emod_lt_of_pos ((x / 268435456 + x * 5) * 1302034522624059749) pP
    generalize (x / 268435456 + x * 5) * 1302034522624059749 % 2305843009213693951=y at *
    exact ⟨y.toNat,by omega,by omega⟩
  rw [em]
  exact q' m hm
abbrev s_law_level_by:Stmt:=top 28
theorem sc_law_level_by:FnScope ["_law_cell"] ["_law_cell"] (defScope s_law_level_by):=⟨rfl,rfl,rfl,by decide +kernel,rfl,by decide +kernel,by decide +kernel⟩
def sp_law_level_by:Sp:=fun vs H Q _=>∃ c:Int,vs=[.int c]∧∀ n:Nat,n≤40→Q (.int (n:Int)) H
theorem ok_law_level_by (T:Tx K mg) (F:FunD K "_law_level_by" "_law_level_by" s_law_level_by f fd .none):FnOk P w K mg base CX 1 f fd ["_law_cell"] sp_law_level_by:=by
  refine F.ok sc_law_level_by (fun vs H Q E h => ?_) (fun cdv A outer s H vs Q E hr h => ?_)
  · obtain ⟨_,rfl,_⟩:=h
    rfl
  obtain ⟨c,rfl,q'⟩:=h
  refine ⟨_,(pss_cons (ps_if (pt_cmpR op_eq (pe_op op_mod (pv 0) pe_int) pe_int (nomark _)) (pss_one (ps_ret (pe_op op_add pe_int (pe_op op_mod (pe_op op_fdivW (pv 0) pe_int) pe_int)))) pss_nil) (pss_one (ps_ret (pe_op op_mod (pe_op op_fdivW (pv 0) pe_int) pe_int)))),?_⟩
  refine ⟨_,rfl,_,_,rfl,rfl,(by show (0:Int) < 6; decide),rfl,_,rfl,ite2 (fun _ => ?_) (fun _ => ?_)⟩
  · refine ⟨_,rfl,_,_,rfl,rfl,cdivW (by decide) (by decide),_,_,rfl,rfl,(by show (0:Int) < 36; decide),_,_,rfl,rfl,?_⟩
    obtain ⟨n,hn,en⟩:∃ n:Nat,n≤40∧5 + c / 6 % 36=(n:Int):=⟨(5 + c / 6 % 36).toNat,by omega,by omega⟩
    dsimp only
    rw [en]; exact q' n hn
  · refine ⟨_,rfl,_,_,rfl,rfl,cdivW (by decide) (by decide),_,_,rfl,rfl,(by show (0:Int) < 5; decide),?_⟩
    obtain ⟨n,hn,en⟩:∃ n:Nat,n≤40∧c / 6 % 5=(n:Int):=⟨(c / 6 % 5).toNat,by omega,by omega⟩
    dsimp only
    rw [en]; exact q' n hn
abbrev s_law_code_by:Stmt:=top 29
theorem sc_law_code_by:FnScope ["_law_cell","_law_k","_law_most","_law_signs","_law_value","_law_code","_law_j"] ["_law_cell","_law_k","_law_most"] (defScope s_law_code_by):=⟨rfl,rfl,rfl,by decide +kernel,rfl,by decide +kernel,by decide +kernel⟩
def sp_law_code_by:Sp:=fun vs H Q _=>∃ (c:Int) (k n:Nat),vs=[.int c,.int k,.int n]∧k≤90000∧n≤40∧∀ z,IsC z→z.length≤n→Q (.str z) H
theorem ok_law_code_by (T:Tx K mg) (q:Quiet CX) (F:FunD K "_law_code_by" "_law_code_by" s_law_code_by f fd .none) (C__law_mix:Fok P w K mg base CX 1 "_law_mix" ["_law_cell","_law_k"] [] sp_law_mix):FnOk P w K mg base CX 2 f fd ["_law_cell","_law_k","_law_most"] sp_law_code_by:=by
  refine F.ok sc_law_code_by (fun vs H Q E h => ?_) (fun cdv A outer s H vs Q E hr h => ?_)
  · obtain ⟨_,_,_,rfl,_⟩:=h
    rfl
  obtain ⟨c,k,n,rfl,hk,hn,q'⟩:=h
  refine ⟨_,(pss_cons (ps_set (i:=3) sc_law_code_by.nd rfl (Or.inl rfl) (pe_op op_mod (pe_callF C__law_mix q hr (pa_cons (pv 0) (pa_cons (pv 1) pa_nil))) (pe_op op_add (pv 2) pe_int))) (pss_cons (ps_if (pt_cmpR op_gt (pe_op op_mod (pe_callF C__law_mix q hr (pa_cons (pv 0) (pa_cons (pe_op op_add (pv 1) pe_int) pa_nil))) pe_int) pe_int (nomark _)) (pss_one (ps_set (i:=3) sc_law_code_by.nd rfl (Or.inl rfl) (pv 2))) pss_nil) (pss_cons (ps_set (i:=4) sc_law_code_by.nd rfl (Or.inl rfl) (pe_op op_add (pe_op op_mul (pe_callF C__law_mix q hr (pa_cons (pv 0) (pa_cons (pe_op op_add (pv 1) pe_int) pa_nil))) pe_int) (pe_callF C__law_mix q hr (pa_cons (pv 0) (pa_cons (pe_op op_add (pv 1) pe_int) pa_nil))))) (pss_cons (ps_set (i:=5) sc_law_code_by.nd rfl (Or.inl rfl) pe_str) (pss_cons (ps_for PassesOwn.never rfl (pi_range1 rfl T.b_range (pa_cons (pv 3) pa_nil)) (pg_name (i:=6) sc_law_code_by.nd rfl (Or.inl rfl)) (pss_cons (ps_set (i:=5) sc_law_code_by.nd rfl (Or.inl rfl) (pe_op op_add_str (pv 5) (pe_ix ix_str pe_str (pe_op op_mod (pv 4) pe_int) (fun _ _=>rfl)))) (pss_one (ps_if (PW.pt (pw_or (pt_cmpR op_lt (pv 6) pe_int (nomark _)) (pw_or1 (pt_cmpR op_eq (pe_op op_mod (pe_callF C__law_mix q hr (pa_cons (pv 0) (pa_cons (pe_op op_add (pv 1) pe_int) pa_nil))) pe_int) pe_int (nomark _))))) (pss_one (ps_set (i:=4) sc_law_code_by.nd rfl (Or.inl rfl) (pe_op op_fdivW (pv 4) pe_int))) pss_nil)))) (pss_one (ps_ret (pv 5)))))))),?_⟩
  refine ⟨_,rfl,_,rfl,c,k,rfl,by omega,fun m hm=>⟨_,rfl,_,_,rfl,rfl,_,_,rfl,rfl,(by show (0:Int) < (n:Int) + 1; omega),?_⟩⟩
  obtain ⟨s1,hs1,es1⟩:∃ s1:Nat,s1≤n∧(m:Int) % ((n:Int) + 1)=(s1:Int):=by
    have h1:=Int.emod_nonneg (m:Int) (show (n:Int) + 1≠0 by omega)
    have h2:=Int.emod_lt_of_pos (m:Int) (show (0:Int) < (n:Int) + 1 by omega)
    exact ⟨((m:Int) % ((n:Int) + 1)).toNat,by omega,by omega⟩
  dsimp only
  rw [es1]
  refine ⟨_,rfl,_,rfl,_,_,rfl,rfl,c,k + 1,rfl,by omega,fun m2 hm2=>⟨_,_,rfl,rfl,(by show (0:Int) < 3; decide),_,_,rfl,rfl,_,rfl,?_⟩⟩
  refine ite2 (fun _ => ?_) (fun _ => ?_)
  · obtain ⟨sg,hsg⟩:∃ sg:Nat,sg=n:=⟨n,rfl⟩
    subst hsg
    refine ⟨_,rfl,?_⟩
    refine ⟨_,rfl,_,rfl,_,_,rfl,rfl,c,k + 2,rfl,by omega,fun m3 hm3=>⟨_,_,rfl,rfl,.inr ⟨by decide,by decide⟩,_,rfl,_,rfl,_,_,rfl,rfl,c,k + 3,rfl,by omega,fun m4 hm4=>⟨_,_,rfl,rfl,?_⟩⟩⟩
    refine ⟨_,rfl,_,rfl,by omega,by omega,for_range (fun j σ H2=>H2=H∧∃ (z:Str) (val:Int) (o6:Option V),IsC z∧z.length=j∧σ=[some (.int c),some (.int k),some (.int (sg:Int)),some (.int (sg:Int)),some (.int val),some (.str z),o6]) ⟨rfl,_,_,none,empty_eq▸IsC.nil,by decide +kernel,rfl⟩ ?_ ?_⟩
    · rintro j σ H2 hj ⟨rfl,z,val,o6,hz,lz,rfl⟩
      have hj':j < sg:=by omega
      obtain ⟨d,hd,ed⟩:=four_of val
      have nz:IsC (z++one d):=IsC.app hz (IsC.one hd)
      have nl:(z++one d).length=j + 1:=by rw [app_len,lz]; rfl
      refine ⟨_,rfl,_,rfl,_,_,rfl,rfl,(by show (0:Int) < 4; decide),_,_,48 + d,rfl,rfl,q_len,by rw [ed]; exact at_q hd,_,_,rfl,rfl,?_,?_⟩
      · rw [lz]; show j + 1≤sizeLine; exact small (by omega)
      refine ⟨_,rfl,_,_,rfl,rfl,_,rfl,ite2 (fun _=>iteT ?_) (fun _ => ?_)⟩
      · exact ⟨_,rfl,_,_,rfl,rfl,cdivW (by decide) (by decide),rfl,z++one d,_,_,nz,nl,rfl⟩
      · refine ⟨_,rfl,_,rfl,_,_,rfl,rfl,c,k + 4,rfl,by omega,fun m5 _=>⟨_,_,rfl,rfl,(by show (0:Int) < 2; decide),rfl,_,rfl,ite2 (fun _ => ?_) (fun _ => ?_)⟩⟩
        · exact ⟨_,rfl,_,_,rfl,rfl,cdivW (by decide) (by decide),rfl,z++one d,_,_,nz,nl,rfl⟩
        · exact ⟨rfl,z++one d,_,_,nz,nl,rfl⟩
    · rintro σ H2 ⟨rfl,z,val,o6,hz,lz,rfl⟩
      exact ⟨_,rfl,q' z hz (by omega)⟩
  · obtain ⟨sg,hsg⟩:∃ sg:Nat,sg=s1:=⟨s1,rfl⟩
    subst hsg
    refine ⟨_,rfl,_,rfl,_,_,rfl,rfl,c,k + 2,rfl,by omega,fun m3 hm3=>⟨_,_,rfl,rfl,.inr ⟨by decide,by decide⟩,_,rfl,_,rfl,_,_,rfl,rfl,c,k + 3,rfl,by omega,fun m4 hm4=>⟨_,_,rfl,rfl,?_⟩⟩⟩
    refine ⟨_,rfl,_,rfl,by omega,by omega,for_range (fun j σ H2=>H2=H∧∃ (z:Str) (val:Int) (o6:Option V),IsC z∧z.length=j∧σ=[some (.int c),some (.int k),some (.int n),some (.int (sg:Int)),some (.int val),some (.str z),o6]) ⟨rfl,_,_,none,empty_eq▸IsC.nil,by decide +kernel,rfl⟩ ?_ ?_⟩
    · rintro j σ H2 hj ⟨rfl,z,val,o6,hz,lz,rfl⟩
      have hj':j < sg:=by omega
      obtain ⟨d,hd,ed⟩:=four_of val
      have nz:IsC (z++one d):=IsC.app hz (IsC.one hd)
      have nl:(z++one d).length=j + 1:=by rw [app_len,lz]; rfl
      refine ⟨_,rfl,_,rfl,_,_,rfl,rfl,(by show (0:Int) < 4; decide),_,_,48 + d,rfl,rfl,q_len,by rw [ed]; exact at_q hd,_,_,rfl,rfl,?_,?_⟩
      · rw [lz]; show j + 1≤sizeLine; exact small (by omega)
      refine ⟨_,rfl,_,_,rfl,rfl,_,rfl,ite2 (fun _=>iteT ?_) (fun _ => ?_)⟩
      · exact ⟨_,rfl,_,_,rfl,rfl,cdivW (by decide) (by decide),rfl,z++one d,_,_,nz,nl,rfl⟩
      · refine ⟨_,rfl,_,rfl,_,_,rfl,rfl,c,k + 4,rfl,by omega,fun m5 _=>⟨_,_,rfl,rfl,(by show (0:Int) < 2; decide),rfl,_,rfl,ite2 (fun _ => ?_) (fun _ => ?_)⟩⟩
        · exact ⟨_,rfl,_,_,rfl,rfl,cdivW (by decide) (by decide),rfl,z++one d,_,_,nz,nl,rfl⟩
        · exact ⟨rfl,z++one d,_,_,nz,nl,rfl⟩
    · rintro σ H2 ⟨rfl,z,val,o6,hz,lz,rfl⟩
      exact ⟨_,rfl,q' z hz (by omega)⟩
abbrev s_law_colour_by:Stmt:=top 30
theorem sc_law_colour_by:FnScope ["_law_script","_law_cell","_law_k","_law_value"] ["_law_script","_law_cell","_law_k"] (defScope s_law_colour_by):=⟨rfl,rfl,rfl,by decide +kernel,rfl,by decide +kernel,by decide +kernel⟩
def sp_law_colour_by (K:PySem.W.Frag):Sp:=fun vs H Q _=>∃ (a:Addr) (ns:List Int) (c:Int) (k:Nat),vs=[.ref a,.int c,.int k]∧SqL K H a (ns.map V.int)∧ns.length≤63∧k≤90000∧∀ i:Int,0≤i→i≤35→Q (.int i) H
theorem ok_law_colour_by (T:Tx K mg) (q:Quiet CX) (F:FunD K "_law_colour_by" "_law_colour_by" s_law_colour_by f fd .none) (C__law_mix:Fok P w K mg base CX 1 "_law_mix" ["_law_cell","_law_k"] [] sp_law_mix) (C__law_at:Fok P w K mg base CX 1 "_law_at" ["_law_script","_law_k"] [] (sp_law_at K)):FnOk P w K mg base CX 2 f fd ["_law_script","_law_cell","_law_k"] (sp_law_colour_by K):=by
  refine F.ok sc_law_colour_by (fun vs H Q E h => ?_) (fun cdv A outer s H vs Q E hr h => ?_)
  · obtain ⟨_,_,_,_,rfl,_⟩:=h
    rfl
  obtain ⟨a,ns,c,k,rfl,hS,h63,hk,q'⟩:=h
  refine ⟨_,(pss_cons (ps_set (i:=3) sc_law_colour_by.nd rfl (Or.inl rfl) (pe_callF C__law_mix q hr (pa_cons (pv 1) (pa_cons (pv 2) pa_nil)))) (pss_cons (ps_if (pt_cmpR op_eq (pe_op op_mod (pv 3) pe_int) pe_int (nomark _)) (pss_one (ps_ret (pe_op op_mod (pe_op op_fdivW (pv 3) pe_int) pe_int))) pss_nil) (pss_one (ps_ret (pe_op op_mod (pe_op op_add (pe_op op_fdivW (pe_callF C__law_at q hr (pa_cons (pv 0) (pa_cons pe_int pa_nil))) pe_int) (pe_op op_mul (pe_op op_mod (pe_op op_fdivW (pv 3) pe_int) pe_int) (pe_op op_add pe_int (pe_op op_mul (pe_op op_mod (pe_callF C__law_at q hr (pa_cons (pv 0) (pa_cons pe_int pa_nil))) pe_int) pe_int)))) pe_int))))),?_⟩
  refine ⟨_,rfl,_,rfl,c,k,rfl,by omega,fun m hm => ?_⟩
  refine ⟨_,rfl,_,_,rfl,rfl,(by show (0:Int) < 8; decide),rfl,_,rfl,ite2 (fun _ => ?_) (fun _ => ?_)⟩
  · refine ⟨_,rfl,_,_,rfl,rfl,cdivW (by decide) (by decide),_,_,rfl,rfl,(by show (0:Int) < 36; decide),q' _ ?_ ?_⟩
    · show 0≤(m:Int) / 8 % 36; omega
    · show (m:Int) / 8 % 36≤35; omega
  · refine ⟨_,rfl,a,ns,1,rfl,hS,h63,_,_,rfl,rfl,cdivW (by decide) (by decide),?_⟩
    refine ⟨_,rfl,_,_,rfl,rfl,cdivW (by decide) (by decide),_,_,rfl,rfl,(by show (0:Int) < 3; decide),?_⟩
    refine ⟨_,rfl,a,ns,1,rfl,hS,h63,_,_,rfl,rfl,(by show (0:Int) < 2; decide),_,_,rfl,rfl,.inr ⟨by decide,by decide⟩,_,_,rfl,rfl,_,_,rfl,rfl,.inl ⟨?_,?_⟩,_,_,rfl,rfl,_,_,rfl,rfl,(by show (0:Int) < 36; decide),q' _ ?_ ?_⟩
    · show -(2 ^ 64) < (m:Int) / 8 % 3; omega
    · show (m:Int) / 8 % 3 < 2 ^ 64; omega
    · exact Int.emod_nonneg _ (by decide)
    · have:=Int.emod_lt_of_pos (cell ns 1 / 2 + (m:Int) / 8 % 3 * (1 + cell ns 1 % 2 * 11)) (show (0:Int) < 36 by decide)
      show (cell ns 1 / 2 + (m:Int) / 8 % 3 * (1 + cell ns 1 % 2 * 11)) % 36≤35
      omega
abbrev s_law_four:Stmt:=top 31
theorem sc_law_four:FnScope ["_law_tree"] ["_law_tree"] (defScope s_law_four):=⟨rfl,rfl,rfl,by decide +kernel,rfl,by decide +kernel,by decide +kernel⟩
def sp_law_four:Sp:=fun vs H Q _=>∃ (v:V) (t:Tr),vs=[v]∧TrAt H v t∧∀ l a b c d H',Same H H'→H l=none→H' l=some (.lst [a,b,c,d])→TrAt H' a (q0 t)→TrAt H' b (q1 t)→TrAt H' c (q2 t)→TrAt H' d (q3 t)→Q (.ref l) H'
theorem ok_law_four (T:Tx K mg) (F:FunD K "_law_four" "_law_four" s_law_four f fd .none):FnOk P w K mg base CX 1 f fd ["_law_tree"] sp_law_four:=by
  refine F.ok sc_law_four (fun vs H Q E h => ?_) (fun cdv A outer s H vs Q E hr h => ?_)
  · obtain ⟨_,_,rfl,_⟩:=h
    rfl
  obtain ⟨v,t,rfl,ht,q'⟩:=h
  refine ⟨_,(pss_cons (ps_if (pt_val (pe_callB (call_isiT "tuple") rfl T.b_isinstance bb_isinstance (pa_cons (pv 0) (pa_cons (pe_bty T.b_tuple bt_tuple) pa_nil)))) (pss_one (ps_ret (pe_callTy call_list_of rfl T.b_list bt_list (pa_cons (pv 0) pa_nil)))) pss_nil) (pss_one (ps_ret (pe_lstx (pax_c (pv 0) (pax_c (pv 0) (pax_c (pv 0) (pax_c (pv 0) pax_nil)))))))),?_⟩
  cases ht with
  | four e a b c d =>
    refine ⟨_,rfl,_,_,_,rfl,.tup e,kit_tt,_,rfl,iteT ⟨_,rfl,_,_,rfl,.inr (SqT.of e),fun l hl => ?_⟩⟩
    have t2:=fun zs=>(Same.new hl (.lst zs)).tups
    exact q' l _ _ _ _ _ (Same.new hl _) hl upd_same (a.up (t2 _)) (b.up (t2 _)) (c.up (t2 _)) (d.up (t2 _))
  | col i =>
    refine ⟨_,rfl,_,_,_,rfl,.int i,kit_it,_,rfl,iteF ?_⟩
    exact ⟨_,rfl,_,rfl,_,rfl,_,rfl,(by show 4≤sizeLine; decide),fun l hl=>q' l _ _ _ _ _ (Same.new hl _) hl upd_same (.col i) (.col i) (.col i) (.col i)⟩
end
end Qs


namespace Qs
open PySem L2
theorem find_q {d:Nat} (h:d < 4):Txt.find ("0123" : Str) (one d)=(d:Int) :=
  four (P:=fun d=>Txt.find ("0123" : Str) (one d)=(d:Int)) (by decide +kernel) (by decide +kernel) (by decide +kernel) (by decide +kernel) h
theorem shaped4 {a b c d:Tr} (ha:a.deep≤60) (hb:b.deep≤60) (hc:c.deep≤60) (hd:d.deep≤60):SeqAt.shaped (.list [a.data,b.data,c.data,d.data])=true:=by
  have e1:(PyData.list [a.data,b.data,c.data,d.data]).canLay0=true:=by
    show (a.data.canLay0 && (b.data.canLay0 && (c.data.canLay0 && (d.data.canLay0 && true))))=true
    rw [Tr.lay a,Tr.lay b,Tr.lay c,Tr.lay d]; rfl
  have e2:(PyData.list [a.data,b.data,c.data,d.data]).depth≤64:=by
    show max a.data.depth (max b.data.depth (max c.data.depth (max d.data.depth 0))) + 1≤64
    rw [Tr.depth a,Tr.depth b,Tr.depth c,Tr.depth d]; omega
  unfold SeqAt.shaped
  rw [e1,decide_eq_true e2]; rfl
theorem eqv4 (a b c d a' b' c' d':Tr):PyData.eqv (.list [a.data,b.data,c.data,d.data]) (.list [a'.data,b'.data,c'.data,d'.data])=decide (a=a'∧b=b'∧c=c'∧d=d'):=by
  show (PyData.eqv a.data a'.data && (PyData.eqv b.data b'.data && (PyData.eqv c.data c'.data && (PyData.eqv d.data d'.data && true))))=_
  rw [Tr.eqv a a',Tr.eqv b b',Tr.eqv c c',Tr.eqv d d']
  by_cases h1:a=a' <;> by_cases h2:b=b' <;> by_cases h3:c=c' <;> by_cases h4:d=d' <;> simp [h1,h2,h3,h4]
section
variable {P:Program} {w:World} {K:PySem.W.Frag} {mg:Str→Option Value} {base:Heap} {CX:CXT} {f:Addr} {fd:FuncData}
abbrev s_law_painted:Stmt:=top 32
theorem sc_law_painted:FnScope ["_law_tree","_law_code","_law_colour","_law_four_here","_law_at_here"] ["_law_tree","_law_code","_law_colour"] (defScope s_law_painted):=⟨rfl,rfl,rfl,by decide +kernel,rfl,by decide +kernel,by decide +kernel⟩
def sp_law_painted (m:Nat):Sp:=fun vs H Q _=>∃ (v:V) (i:Int) (t:Tr) (z:Str),vs=[v,.str z,.int i]∧TrAt H v t∧IsC z∧z.length≤m∧m≤40∧t.deep≤60∧∀ v' H',Same H H'→TrAt H' v' (plant t (dig z) (.col i))→Q v' H'
theorem ok_law_painted (T:Tx K mg) (q:Quiet CX) (F:FunD K "_law_painted" "_law_painted" s_law_painted f fd .none) (C__law_four:Fok P w K mg base CX 1 "_law_four" ["_law_tree"] [] sp_law_four) (b:Binds K fd ["_law_tree","_law_code","_law_colour"] []) (m:mg "_law_painted" = some (.ref f)) :
    ∀ n,FnOk P w K mg base CX (2 + n) f fd ["_law_tree","_law_code","_law_colour"] (sp_law_painted n)
  | 0=>by
    have C__law_painted:=fokF (P:=P) (w:=w) (base:=base) (CX:=CX) F b m
    refine F.ok sc_law_painted (fun vs H Q E h => ?_) (fun cdv A outer s H vs Q E hr h => ?_)
    · obtain ⟨_,_,_,_,rfl,_⟩:=h
      rfl
    obtain ⟨v,i,t,z,rfl,ht,hz,hl,hm,dt,q'⟩:=h
    refine ⟨_,(pss_cons (ps_if (pt_cmpR op_eq (pv 1) pe_str (nomark _)) (pss_one (ps_ret (pv 2))) pss_nil) (pss_cons (ps_set (i:=3) sc_law_painted.nd rfl (Or.inl rfl) (pe_callF C__law_four q hr (pa_cons (pv 0) pa_nil) (hj:=by first | decide | omega | (simp only [Nat.add_eq]; omega)))) (pss_cons (ps_set (i:=4) sc_law_painted.nd rfl (Or.inl rfl) (pe_bm PySem.F.plainAttrs_str PySem.F.slot_str_find PySem.F.type_str_find mt_find pe_str (pa_cons (pe_ix ix_str (pv 1) pe_int (fun _ _=>rfl)) pa_nil))) (pss_cons (ps_asg (pe_callF C__law_painted q hr (pa_cons (pe_ix ix_list (pv 3) (pv 4) (fun _ _=>rfl)) (pa_cons (pe_slice sl_str (pv 1) (po_some pe_int) po_none) (pa_cons (pv 2) pa_nil))) (hj:=by first | decide | omega | (simp only [Nat.add_eq]; omega))) (pg_sub (pv 3) (pv 4) set_list)) (pss_cons (ps_if (PW.pt (pw_and (pt_not (pt_val (pe_callB (call_isiT "tuple") rfl T.b_isinstance bb_isinstance (pa_cons (pe_ix ix_list (pv 3) pe_int (fun _ _=>rfl)) (pa_cons (pe_bty T.b_tuple bt_tuple) pa_nil))))) (pw_and1 (pt_cmpR (op_eqD hr) (pv 3) (pe_op op_rep (pe_lstx (pax_c (pe_ix ix_list (pv 3) pe_int (fun _ _=>rfl)) pax_nil)) pe_int) (nomark _))))) (pss_one (ps_ret (pe_ix ix_list (pv 3) pe_int (fun _ _=>rfl)))) pss_nil) (pss_one (ps_ret (pe_tupx (pax_c (pe_ix ix_list (pv 3) pe_int (fun _ _=>rfl)) (pax_c (pe_ix ix_list (pv 3) pe_int (fun _ _=>rfl)) (pax_c (pe_ix ix_list (pv 3) pe_int (fun _ _=>rfl)) (pax_c (pe_ix ix_list (pv 3) pe_int (fun _ _=>rfl)) pax_nil)))))))))))),?_⟩
    have e:=str_eq_nil.mpr (Nat.le_zero.mp hl)
    subst e
    rw [dig_empty] at q'
    refine ⟨_,rfl,rfl,_,rfl,ite2 (fun c => ?_) (fun c=>absurd (by simp) c)⟩
    exact ⟨_,rfl,q' (.int i) H (Same.refl H) (.col i)⟩
  | n + 1=>by
    have C__law_painted:Fok P w K mg base CX (2 + n) "_law_painted" ["_law_tree","_law_code","_law_colour"] [] (sp_law_painted n):=fok F (ok_law_painted T q F C__law_four b m n) b m
    refine F.ok sc_law_painted (fun vs H Q E h => ?_) (fun cdv A outer s H vs Q E hr h => ?_)
    · obtain ⟨_,_,_,_,rfl,_⟩:=h
      rfl
    obtain ⟨v,i,t,z,rfl,ht,hz,hl,hm,dt,q'⟩:=h
    refine ⟨_,(pss_cons (ps_if (pt_cmpR op_eq (pv 1) pe_str (nomark _)) (pss_one (ps_ret (pv 2))) pss_nil) (pss_cons (ps_set (i:=3) sc_law_painted.nd rfl (Or.inl rfl) (pe_callF C__law_four q hr (pa_cons (pv 0) pa_nil) (hj:=by first | decide | omega | (simp only [Nat.add_eq]; omega)))) (pss_cons (ps_set (i:=4) sc_law_painted.nd rfl (Or.inl rfl) (pe_bm PySem.F.plainAttrs_str PySem.F.slot_str_find PySem.F.type_str_find mt_find pe_str (pa_cons (pe_ix ix_str (pv 1) pe_int (fun _ _=>rfl)) pa_nil))) (pss_cons (ps_asg (pe_callF C__law_painted q hr (pa_cons (pe_ix ix_list (pv 3) (pv 4) (fun _ _=>rfl)) (pa_cons (pe_slice sl_str (pv 1) (po_some pe_int) po_none) (pa_cons (pv 2) pa_nil))) (hj:=by first | decide | omega | (simp only [Nat.add_eq]; omega))) (pg_sub (pv 3) (pv 4) set_list)) (pss_cons (ps_if (PW.pt (pw_and (pt_not (pt_val (pe_callB (call_isiT "tuple") rfl T.b_isinstance bb_isinstance (pa_cons (pe_ix ix_list (pv 3) pe_int (fun _ _=>rfl)) (pa_cons (pe_bty T.b_tuple bt_tuple) pa_nil))))) (pw_and1 (pt_cmpR (op_eqD hr) (pv 3) (pe_op op_rep (pe_lstx (pax_c (pe_ix ix_list (pv 3) pe_int (fun _ _=>rfl)) pax_nil)) pe_int) (nomark _))))) (pss_one (ps_ret (pe_ix ix_list (pv 3) pe_int (fun _ _=>rfl)))) pss_nil) (pss_one (ps_ret (pe_tupx (pax_c (pe_ix ix_list (pv 3) pe_int (fun _ _=>rfl)) (pax_c (pe_ix ix_list (pv 3) pe_int (fun _ _=>rfl)) (pax_c (pe_ix ix_list (pv 3) pe_int (fun _ _=>rfl)) (pax_c (pe_ix ix_list (pv 3) pe_int (fun _ _=>rfl)) pax_nil)))))))))))),?_⟩
    refine ⟨_,rfl,rfl,_,rfl,ite2 (fun c => ?_) (fun c => ?_)⟩
    · have e:z=("" : Str):=by simpa using c
      subst e
      rw [dig_empty] at q'
      exact ⟨_,rfl,q' (.int i) H (Same.refl H) (.col i)⟩
    have pz:0 < z.length:=by
      rcases Nat.eq_zero_or_pos z.length with h0 | h0
      · exact absurd (by simp [str_eq_nil.mpr h0]) c
      · exact h0
    have hs:z.length≤sizeLine:=small (by omega)
    refine ⟨_,rfl,v,t,rfl,ht,fun l a b c d H2 s2 hl0 u2 ka kb kc kd => ?_⟩
    obtain ⟨e,he,e1,e2⟩:=sgn_one hz pz
    refine ⟨rfl,_,rfl,z,0,z.cps.getD 0 0,rfl,rfl,hs,at_zero pz,("0123" : Str),sgn z 0,rfl,rfl,?_⟩
    rw [e1,find_q he]
    have key:∃ x,atI [a,b,c,d] (e:Int)=some x∧TrAt H2 x (qk t e):=by
      rcases e with _ | _ | _ | _ | e
      · exact ⟨a,rfl,ka⟩
      · exact ⟨b,rfl,kb⟩
      · exact ⟨c,rfl,kc⟩
      · exact ⟨d,rfl,kd⟩
      · omega
    obtain ⟨x,ex,kx⟩:=key
    refine ⟨_,rfl,_,rfl,l,_,_,x,rfl,rfl,SqL.of u2,ex,_,rfl,_,rfl,z,rfl,hs,_,rfl,?_⟩
    have rl:=rst_len z
    refine ⟨x,i,qk t e,rst z,(by show [x,V.str _,V.int i]=[x,V.str _,V.int i]; rw [slice_rst pz]),kx,rst_isC hz,by omega,by omega,qk_deep' dt,fun v' H3 s3 hv' => ?_⟩
    have u3:=s3 _ _ u2
    have hix:ixN [a,b,c,d].length (e:Int)=some e:=by
      unfold ixN
      rw [if_pos (by omega),if_pos (by simp; omega),Int.toNat_natCast]
    refine ⟨_,rfl,_,rfl,l,[a,b,c,d],(e:Int),e,rfl,rfl,u3,hix,?_⟩
    have t3:=Tups.lst (ys:=[a,b,c,d].set e v') u3
    have sf:Same H (upd H3 l (.lst ([a,b,c,d].set e v'))):=Same.set (s2.trans s3) hl0 _
    have t23:=s3.tups.trans t3
    have dq:=plant_deep (dig (rst z)) 60 (qk t e) (.col i) (qk_deep' dt) (by rw [dig_len]; show 0 + _≤60; omega)
    have ep:plant t (dig z) (.col i)=put4 t e (plant (qk t e) (dig (rst z)) (.col i)):=by rw [dig_rst pz,e2]; rfl
    rw [ep] at q'
    have d0:=qk_deep' (d:=0) dt
    have d1:=qk_deep' (d:=1) dt
    have d2:=qk_deep' (d:=2) dt
    have d3:=qk_deep' (d:=3) dt
    have kv:=hv'.up t3
    have u4:upd H3 l (.lst ([a,b,c,d].set e v')) l=some (.lst ([a,b,c,d].set e v')):=upd_same
    have four4:∃ (xa xb xc xd:V) (ta tb tc td:Tr),[a,b,c,d].set e v'=[xa,xb,xc,xd]∧TrAt (upd H3 l (.lst ([a,b,c,d].set e v'))) xa ta∧TrAt (upd H3 l (.lst ([a,b,c,d].set e v'))) xb tb∧TrAt (upd H3 l (.lst ([a,b,c,d].set e v'))) xc tc∧TrAt (upd H3 l (.lst ([a,b,c,d].set e v'))) xd td ∧
        (ta.deep≤60∧tb.deep≤60∧tc.deep≤60∧td.deep≤60)∧put4 t e (plant (qk t e) (dig (rst z)) (.col i))=gath ta tb tc td:=by
      rcases e with _ | _ | _ | _ | e
      · exact ⟨_,_,_,_,_,_,_,_,rfl,kv,kb.up t23,kc.up t23,kd.up t23,⟨dq,d1,d2,d3⟩,rfl⟩
      · exact ⟨_,_,_,_,_,_,_,_,rfl,ka.up t23,kv,kc.up t23,kd.up t23,⟨d0,dq,d2,d3⟩,rfl⟩
      · exact ⟨_,_,_,_,_,_,_,_,rfl,ka.up t23,kb.up t23,kv,kd.up t23,⟨d0,d1,dq,d3⟩,rfl⟩
      · exact ⟨_,_,_,_,_,_,_,_,rfl,ka.up t23,kb.up t23,kc.up t23,kv,⟨d0,d1,d2,dq⟩,rfl⟩
      · omega
    obtain ⟨xa,xb,xc,xd,ta,tb,tc,td,el,ja,jb,jc,jd,⟨da,db,dc,dd⟩,eg⟩:=four4
    rw [eg] at q'
    rw [el] at u4 sf ja jb jc jd ⊢
    generalize upd H3 l (.lst [xa,xb,xc,xd])=H4 at *
    cases hta:ta.isCol with
    | false =>
      have hg:gath ta tb tc td=.four ta tb tc td:=by
        unfold gath
        rw [if_neg (fun z=>by have:=(oneB_iff.mp z).1; rw [hta] at this; cases this)]
      have ty:=ja.ty (K:=K)
      rw [hta] at ty
      refine ⟨_,rfl,l,_,_,xa,rfl,rfl,SqL.of u4,rfl,_,_,_,rfl,ty,kit_tt,_,rfl,iteF (iteF ?_)⟩
      refine ⟨_,rfl,l,_,_,_,rfl,rfl,SqL.of u4,rfl,_,rfl,l,_,_,_,rfl,rfl,SqL.of u4,rfl,_,rfl,l,_,_,_,rfl,rfl,SqL.of u4,rfl,_,rfl,l,_,_,_,rfl,rfl,SqL.of u4,rfl,(by show 4≤sizeLine; decide),fun pp hpp=>q' _ _ (sf.trans (Same.new hpp _)) ?_⟩
      rw [hg]
      have sn:=(Same.new hpp (.tup [xa,xb,xc,xd])).tups
      exact .four upd_same (ja.up sn) (jb.up sn) (jc.up sn) (jd.up sn)
    | true =>
      have ty:=ja.ty (K:=K)
      rw [hta] at ty
      refine ⟨_,rfl,l,_,_,xa,rfl,rfl,SqL.of u4,rfl,_,_,_,rfl,ty,kit_it,_,rfl,iteT ?_⟩
      refine ⟨_,rfl,_,rfl,l,_,_,xa,rfl,rfl,SqL.of u4,rfl,(by show 1≤sizeLine; decide),fun m hm => ?_⟩
      refine ⟨m,4,_,rfl,rfl,upd_same,by decide,by decide,(by show 4≤sizeLine; decide),fun m2 hm2 => ?_⟩
      have er:(List.replicate (4:Int).toNat [xa]).flatten=[xa,xa,xa,xa]:=rfl
      rw [er]
      have sy:=(Same.new hm (.lst [xa])).trans (Same.new hm2 (.lst [xa,xa,xa,xa]))
      have um:upd (upd H4 m (.lst [xa])) m2 (.lst [xa,xa,xa,xa]) m2=some (.lst [xa,xa,xa,xa]):=upd_same
      generalize upd (upd H4 m (.lst [xa])) m2 (.lst [xa,xa,xa,xa])=H5 at *
      have u5:=sy _ _ u4
      have la:=ja.up sy.tups
      have lb:=jb.up sy.tups
      have lc:=jc.up sy.tups
      have ld:=jd.up sy.tups
      refine ⟨_,_,.lst u5 (.cons la.dat (.cons lb.dat (.cons lc.dat (.cons ld.dat .nil)))),.lst um (.cons la.dat (.cons la.dat (.cons la.dat (.cons la.dat .nil)))),shaped4 da db dc dd,shaped4 da da da da,_,rfl,ite2 (fun z => ?_) (fun z => ?_)⟩
      · have z':PyData.eqv (.list [ta.data,tb.data,tc.data,td.data]) (.list [ta.data,ta.data,ta.data,ta.data])=true:=z
        rw [eqv4] at z'
        obtain ⟨h1,h2,h3,h4⟩:=of_decide_eq_true z'
        have hg:gath ta tb tc td=ta:=by
          unfold gath
          rw [if_pos (oneB_iff.mpr ⟨hta,h2,h3,h4⟩)]
        refine ⟨_,rfl,l,_,_,_,rfl,rfl,SqL.of u5,rfl,q' _ _ (sf.trans sy) ?_⟩
        rw [hg]; exact la
      · have z':¬ PyData.eqv (.list [ta.data,tb.data,tc.data,td.data]) (.list [ta.data,ta.data,ta.data,ta.data])=true:=z
        rw [eqv4] at z'
        have hg:gath ta tb tc td=.four ta tb tc td:=by
          unfold gath
          rw [if_neg (fun y=>by obtain ⟨_,h2,h3,h4⟩:=oneB_iff.mp y; exact z' (decide_eq_true ⟨rfl,h2,h3,h4⟩))]
        refine ⟨_,rfl,l,_,_,_,rfl,rfl,SqL.of u5,rfl,_,rfl,l,_,_,_,rfl,rfl,SqL.of u5,rfl,_,rfl,l,_,_,_,rfl,rfl,SqL.of u5,rfl,_,rfl,l,_,_,_,rfl,rfl,SqL.of u5,rfl,(by show 4≤sizeLine; decide),fun pp hpp=>q' _ _ (sf.trans (sy.trans (Same.new hpp _))) ?_⟩
        rw [hg]
        have sn:=(Same.new hpp (.tup [xa,xb,xc,xd])).tups
        exact .four upd_same (la.up sn) (lb.up sn) (lc.up sn) (ld.up sn)
end
end Qs


namespace Qs
open PySem L2

def suf (z:Str) (k:Nat):Str:=⟨(z.cps.toList.drop k).toArray⟩
theorem slice_suf {z:Str} {k:Nat} (h:k≤z.length):Txt.slice z (some (k:Int)) none=suf z k:=by
  have e:=PyProof.Rows.slice_closes_from (x:=z) (i:=(k:Int)) ⟨by omega,by rw [← len_eq]; omega⟩
  rw [beq_iff_eq] at e
  rw [e]
  unfold suf
  congr 2
  rw [Int.toNat_natCast,List.take_of_length_le]
  rw [List.length_drop,← len_eq]; omega
theorem suf_len (z:Str) (k:Nat):(suf z k).length=z.length - k:=by rw [len_eq,len_eq]; simp [suf]
theorem suf_isC {z:Str} (h:IsC z) (k:Nat):IsC (suf z k):=fun c hc=>h c (by
  have hc':c∈z.cps.toList.drop k:=by simpa [suf] using hc
  exact List.mem_of_mem_drop hc')
section
variable {P:Program} {w:World} {K:PySem.W.Frag} {mg:Str→Option Value} {base:Heap} {CX:CXT} {f:Addr} {fd:FuncData}
abbrev s_law_tree_by:Stmt:=top 33
theorem sc_law_tree_by:FnScope ["_law_script","_law_first","_law_level","_law_many","_law_tree","_law_last","_law_k","_law_cell","_law_code","_law_same"] ["_law_script","_law_first","_law_level","_law_many"] (defScope s_law_tree_by):=⟨rfl,rfl,rfl,by decide +kernel,rfl,by decide +kernel,by decide +kernel⟩
def sp_law_tree_by (K:PySem.W.Frag):Sp:=fun vs H Q _=>∃ (a:Addr) (ns:List Int) (first level many:Nat),vs=[.ref a,.int first,.int level,.int many]∧SqL K H a (ns.map V.int)∧ns.length≤63∧first≤1000∧level≤40∧many≤12 ∧
  ∀ v t H',Same H H'→TrAt H' v t→Good level t→cnt t≤1460→Q v H'
theorem ok_law_tree_by (T:Tx K mg) (q:Quiet CX) (F:FunD K "_law_tree_by" "_law_tree_by" s_law_tree_by f fd .none) (C__law_at:Fok P w K mg base CX 1 "_law_at" ["_law_script","_law_k"] [] (sp_law_at K)) (C__law_mix:Fok P w K mg base CX 1 "_law_mix" ["_law_cell","_law_k"] [] sp_law_mix)
    (C__law_code_by:Fok P w K mg base CX 2 "_law_code_by" ["_law_cell","_law_k","_law_most"] [] sp_law_code_by) (C__law_colour_by:Fok P w K mg base CX 2 "_law_colour_by" ["_law_script","_law_cell","_law_k"] [] (sp_law_colour_by K)) (C__law_painted:Fok P w K mg base CX 42 "_law_painted" ["_law_tree","_law_code","_law_colour"] [] (sp_law_painted 40)):FnOk P w K mg base CX 43 f fd ["_law_script","_law_first","_law_level","_law_many"] (sp_law_tree_by K):=by
  refine F.ok sc_law_tree_by (fun vs H Q E h => ?_) (fun cdv A outer s H vs Q E hr h => ?_)
  · obtain ⟨_,_,_,_,_,rfl,_⟩:=h
    rfl
  obtain ⟨a,ns,first,level,many,rfl,hS,h63,hf,hlv,hmany,q'⟩:=h
  refine ⟨_,(pss_cons (ps_set (i:=4) sc_law_tree_by.nd rfl (Or.inl rfl) (pe_callF C__law_colour_by q hr (pa_cons (pv 0) (pa_cons (pe_callF C__law_at q hr (pa_cons (pv 0) (pa_cons (pv 1) pa_nil))) (pa_cons pe_int pa_nil))))) (pss_cons (ps_set (i:=5) sc_law_tree_by.nd rfl (Or.inl rfl) (pe_callF C__law_code_by q hr (pa_cons (pe_callF C__law_at q hr (pa_cons (pv 0) (pa_cons pe_int pa_nil))) (pa_cons pe_int (pa_cons (pv 2) pa_nil))))) (pss_cons (ps_cut (ps_if (pt_cmpR op_gt (pv 2) pe_int (nomark _)) (pss_one (ps_set (i:=3) sc_law_tree_by.nd rfl (Or.inl rfl) (pe_callB (call_min2 rfl) rfl T.b_min bb_min (pa_cons (pv 3) (pa_cons (pe_op op_sub pe_int (pe_callTy call_int1 rfl T.b_int bt_int (pa_cons (pe_cmpR op_gt (pv 2) pe_int (nomark _)) pa_nil))) pa_nil))))) pss_nil)) (pss_cons (ps_for PassesOwn.never rfl (pi_range1 rfl T.b_range (pa_cons (pv 3) pa_nil)) (pg_name (i:=6) sc_law_tree_by.nd rfl (Or.inl rfl)) (pss_cons (ps_set (i:=7) sc_law_tree_by.nd rfl (Or.inl rfl) (pe_callF C__law_at q hr (pa_cons (pv 0) (pa_cons (pe_op op_add (pv 1) (pv 6)) pa_nil)))) (pss_cons (ps_set (i:=8) sc_law_tree_by.nd rfl (Or.inl rfl) (pe_callF C__law_code_by q hr (pa_cons (pv 7) (pa_cons (pe_op op_mul pe_int (pv 6)) (pa_cons (pv 2) pa_nil))))) (pss_cons (ps_cut (ps_if (pt_cmpR op_eq (pe_op op_mod (pe_callF C__law_mix q hr (pa_cons (pv 7) (pa_cons (pe_op op_add (pe_op op_mul pe_int (pv 6)) pe_int) pa_nil))) pe_int) pe_int (nomark _)) (pss_cons (ps_set (i:=9) sc_law_tree_by.nd rfl (Or.inl rfl) (pe_slice sl_str (pv 5) po_none (po_some (pe_op op_fdivW (pe_op op_mul (pe_callB call_len rfl T.b_len bb_len (pa_cons (pv 8) pa_nil)) pe_int) pe_int)))) (pss_one (ps_set (i:=8) sc_law_tree_by.nd rfl (Or.inl rfl) (pe_op op_add_str (pv 9) (pe_slice sl_str (pv 8) (po_some (pe_callB call_len rfl T.b_len bb_len (pa_cons (pv 9) pa_nil))) po_none))))) pss_nil)) (pss_cons (ps_set (i:=4) sc_law_tree_by.nd rfl (Or.inl rfl) (pe_callF C__law_painted q hr (pa_cons (pv 4) (pa_cons (pv 8) (pa_cons (pe_callF C__law_colour_by q hr (pa_cons (pv 0) (pa_cons (pv 7) (pa_cons (pe_op op_add (pe_op op_mul pe_int (pv 6)) pe_int) pa_nil)))) pa_nil))))) (pss_one (ps_set (i:=5) sc_law_tree_by.nd rfl (Or.inl rfl) (pv 8)))))))) (pss_one (ps_ret (pv 4))))))),?_⟩
  refine ⟨_,rfl,_,rfl,_,rfl,a,ns,first,rfl,hS,h63,a,ns,cell ns first,7,rfl,hS,h63,by omega,fun i0 h0 h1 => ?_⟩
  refine ⟨_,rfl,a,ns,4,rfl,hS,h63,_,rfl,cell ns 4,0,level,rfl,by omega,hlv,fun zl hzl llz => ?_⟩
  refine ⟨fun σ H2=>H2=H∧∃ mm:Nat,mm≤12∧σ=[some (.ref a),some (.int first),some (.int level),some (.int (mm:Int)),some (.int i0),some (.str zl),none,none,none,none],?_,?_⟩
  · refine ⟨_,rfl,_,_,rfl,rfl,_,rfl,ite2 (fun c => ?_) (fun c=>⟨rfl,many,hmany,rfl⟩)⟩
    obtain ⟨mm,hmm,em⟩:∃ mm:Nat,mm≤12∧(if (3 - if decide ((level:Int) > 12)=true then (1:Int) else 0) < (many:Int) then (3 - if decide ((level:Int) > 12)=true then (1:Int) else 0) else (many:Int))=(mm:Int):=by
      by_cases h1:(level:Int) > 12
      · rw [decide_eq_true h1]
        refine ⟨min 2 many,by omega,?_⟩
        simp only [if_true]
        split <;> omega
      · rw [decide_eq_false h1]
        refine ⟨min 3 many,by omega,?_⟩
        simp only [Bool.false_eq_true,if_false]
        split <;> omega
    exact ⟨_,rfl,_,rfl,_,_,rfl,rfl,.inr ⟨_,rfl,_,_,rfl,rfl,_,_,rfl,rfl,mm,hmm,by rw [← em]; rfl⟩⟩
  rintro σ H2 ⟨rfl,mm,hmm,rfl⟩
  refine ⟨_,rfl,_,rfl,by omega,by omega,for_range (fun j σ H3=>Same H2 H3∧∃ (v:V) (t:Tr) (z:Str) (o6 o7 o8 o9:Option V),TrAt H3 v t∧Good level t∧cnt t≤1 + 121 * j∧IsC z∧z.length≤level ∧
      σ=[some (.ref a),some (.int first),some (.int level),some (.int (mm:Int)),some v,some (.str z),o6,o7,o8,o9]) ⟨Same.refl H2,.int i0,.col i0,zl,none,none,none,none,.col i0,Good.col ⟨h0,h1⟩,by show 1≤1 + 121 * 0; omega,hzl,llz,rfl⟩ ?_ ?_⟩
  · rintro j σ H3 hj ⟨s2,v,t,z,o6,o7,o8,o9,ht,gt,ct,hz,lz,rfl⟩
    have hj':j < mm:=by omega
    have hS2:=s2.seq hS
    have e0:(0:Int) + (j:Int)=(j:Int):=Int.zero_add _
    rw [e0]
    refine ⟨_,rfl,_,rfl,_,rfl,_,_,rfl,rfl,a,ns,first + j,rfl,hS2,h63,?_⟩
    refine ⟨_,rfl,_,rfl,_,_,rfl,rfl,.inl ⟨by decide,by decide⟩,_,rfl,cell ns (first + j),10 * j,level,rfl,by omega,hlv,fun z2 hz2 lz2 => ?_⟩
    refine ⟨fun σ H4=>H4=H3∧∃ (z3:Str) (o9:Option V),IsC z3∧z3.length≤level∧σ=[some (.ref a),some (.int first),some (.int level),some (.int (mm:Int)),some v,some (.str z),some (.int (j:Int)),some (.int (cell ns (first + j))),some (.str z3),o9],?_,?_⟩
    · refine ⟨_,rfl,_,rfl,_,_,rfl,rfl,.inl ⟨by decide,by decide⟩,_,_,rfl,rfl,cell ns (first + j),10 * j + 9,rfl,by omega,fun m hm=>⟨_,_,rfl,rfl,(by show (0:Int) < 2; decide),rfl,_,rfl,ite2 (fun c2 => ?_) (fun c2=>⟨rfl,z2,_,hz2,lz2,rfl⟩)⟩⟩
      refine ⟨_,rfl,_,rfl,_,_,rfl,⟨small (by omega),rfl⟩,_,_,rfl,rfl,.inr ⟨by decide,by decide⟩,_,_,rfl,rfl,cdivW (by decide) (by decide),_,rfl,z,rfl,small (by omega),?_⟩
      have ek:(z2.length:Int) * 3 / 4=((z2.length * 3 / 4:Nat):Int):=by omega
      have es:Txt.slice z none (some ((z2.length:Int) * 3 / 4))=pre z (z2.length * 3 / 4):=by rw [ek,slice_pre]
      have lp:=pre_len z (z2.length * 3 / 4)
      have lp2:(pre z (z2.length * 3 / 4)).length≤z2.length:=by omega
      have hp:=pre_isC hz (z2.length * 3 / 4)
      dsimp only
      rw [es]
      generalize pre z (z2.length * 3 / 4)=zp at *
      have ls:=suf_len z2 zp.length
      refine ⟨_,rfl,_,rfl,_,rfl,_,_,rfl,⟨small (by omega),rfl⟩,_,rfl,z2,rfl,small (by omega),?_⟩
      rw [slice_suf lp2]
      exact ⟨_,_,rfl,rfl,small (by omega),rfl,zp++suf z2 zp.length,_,IsC.app hp (suf_isC hz2 zp.length),by rw [app_len]; omega,rfl⟩
    rintro σ H4 ⟨rfl,z3,o9,hz3,lz3,rfl⟩
    refine ⟨_,rfl,_,rfl,_,rfl,_,rfl,_,rfl,_,_,rfl,rfl,.inl ⟨by decide,by decide⟩,_,_,rfl,rfl,a,ns,cell ns (first + j),10 * j + 8,rfl,hS2,h63,by omega,fun i hi0 hi1 => ?_⟩
    refine ⟨v,i,t,z3,rfl,ht,hz3,by omega,by decide,by have:=gt.deep; omega,fun v' H5 s3 hv' => ?_⟩
    have l3:(dig z3).length≤level:=by rw [dig_len]; exact lz3
    have c3:=cnt_plant (dig z3) t (.col i) (dig_lt hz3)
    have c1:cnt (.col i)=1:=rfl
    exact ⟨_,rfl,s2.trans s3,v',plant t (dig z3) (.col i),z3,_,_,_,_,hv',good_plant l3 gt (Good.col ⟨hi0,hi1⟩),by omega,hz3,lz3,rfl⟩
  · rintro σ H3 ⟨s2,v,t,z,o6,o7,o8,o9,ht,gt,ct,hz,lz,rfl⟩
    exact ⟨_,rfl,q' v t H3 s2 ht gt (by omega)⟩
end
end Qs


namespace Qs
open PySem L2
theorem kit_ll {K:PySem.W.Frag}:PySem.W.kitOne K (.type "list") (.type "list")=some true:=by kernel_rfl

structure Sq where
  z:List Nat
  c:Int
  x:Nat
  y:Nat
  w:Nat
def sqs:List Nat→Tr→Nat→Nat→Nat→List Sq
  | p,.col c,x,y,k=>[⟨p,c,x,y,2 ^ k⟩]
  | p,.four a b c d,x,y,k=>sqs (p++[0]) a x y (k - 1)++(sqs (p++[1]) b (x + 2 ^ (k - 1)) y (k - 1)++(sqs (p++[2]) c x (y + 2 ^ (k - 1)) (k - 1)++sqs (p++[3]) d (x + 2 ^ (k - 1)) (y + 2 ^ (k - 1)) (k - 1)))
theorem sqs_len:∀ (t:Tr) (p:List Nat) (x y k:Nat),(sqs p t x y k).length=cnt t
  | .col _,_,_,_,_=>rfl
  | .four a b c d,p,x,y,k=>by
    show (sqs _ a _ _ _++(sqs _ b _ _ _++(sqs _ c _ _ _++sqs _ d _ _ _))).length=cnt a + cnt b + cnt c + cnt d
    simp only [List.length_append,sqs_len a,sqs_len b,sqs_len c,sqs_len d]
    omega
theorem fl_sqs (P:Nat→Nat→Nat→Bool):∀ (t:Tr) (p:List Nat) (x y k:Nat),fl P p t x y k=((sqs p t x y k).filter fun q=>P q.x q.y q.w).map Sq.z
  | .col c,p,x,y,k=>by
    show (if P x y (2 ^ k) then [p] else [])=(([⟨p,c,x,y,2 ^ k⟩]:List Sq).filter fun q=>P q.x q.y q.w).map Sq.z
    cases h:P x y (2 ^ k) <;> simp [List.filter,h]
  | .four a b c d,p,x,y,k=>by
    show fl P (p++[0]) a x y (k - 1)++(fl P (p++[1]) b (x + 2 ^ (k - 1)) y (k - 1)++(fl P (p++[2]) c x (y + 2 ^ (k - 1)) (k - 1)++fl P (p++[3]) d (x + 2 ^ (k - 1)) (y + 2 ^ (k - 1)) (k - 1))) =
      ((sqs (p++[0]) a x y (k - 1)++(sqs (p++[1]) b (x + 2 ^ (k - 1)) y (k - 1)++(sqs (p++[2]) c x (y + 2 ^ (k - 1)) (k - 1)++sqs (p++[3]) d (x + 2 ^ (k - 1)) (y + 2 ^ (k - 1)) (k - 1)))).filter fun q=>P q.x q.y q.w).map Sq.z
    simp only [List.filter_append,List.map_append,fl_sqs P a,fl_sqs P b,fl_sqs P c,fl_sqs P d]

def SqOk (q:Sq) (p:List Nat) (t:Tr) (x y k:Nat):Prop:=∃ w:List Nat,q.z=p++w∧(∀ d∈w,d < 4)∧node t w=some (.col q.c)∧w.length≤k∧q.x=x + cxs w * 2 ^ (k - w.length)∧q.y=y + cys w * 2 ^ (k - w.length)∧q.w=2 ^ (k - w.length)
theorem sq_down {q:Sq} {p:List Nat} {a b c d:Tr} {x y x' y' k e:Nat} (he:e < 4) (hx:x'=x + e % 2 * 2 ^ k) (hy:y'=y + e / 2 * 2 ^ k) (h:SqOk q (p++[e]) (qk (.four a b c d) e) x' y' k):SqOk q p (.four a b c d) x y (k + 1):=by
  obtain ⟨w,e1,h4,hn,hl,ex,ey,ew⟩:=h
  have ek:k + 1 - (e::w).length=k - w.length:=by rw [List.length_cons]; omega
  have ep:2 ^ w.length * 2 ^ (k - w.length)=2 ^ k:=by rw [← Nat.pow_add]; congr 1; omega
  refine ⟨e::w,by rw [e1]; simp,?_,hn,by rw [List.length_cons]; omega,?_,?_,by rw [ek]; exact ew⟩
  · intro d hd
    rcases List.mem_cons.mp hd with rfl | hd
    · exact he
    · exact h4 d hd
  · rw [ek,ex,hx,cxs_cons,Nat.add_mul,Nat.mul_assoc,ep]; omega
  · rw [ek,ey,hy,cys_cons,Nat.add_mul,Nat.mul_assoc,ep]; omega
theorem sqs_ok:∀ (t:Tr) (p:List Nat) (x y k:Nat),Good k t→∀ q∈sqs p t x y k,SqOk q p t x y k
  | .col c,p,x,y,k,_,q,hq=>by
    have e:q=⟨p,c,x,y,2 ^ k⟩:=List.mem_singleton.mp hq
    subst e
    exact ⟨[],by simp,fun d hd=>absurd hd (by simp),rfl,Nat.zero_le _,by simp [cxs],by simp [cys],by simp⟩
  | .four a b c d,p,x,y,0,g,_,_=>g.elim
  | .four a b c d,p,x,y,k + 1,⟨ga,gb,gc,gd,_⟩,q,hq=>by
    have hq':q∈sqs (p++[0]) a x y k++(sqs (p++[1]) b (x + 2 ^ k) y k++(sqs (p++[2]) c x (y + 2 ^ k) k++sqs (p++[3]) d (x + 2 ^ k) (y + 2 ^ k) k)):=hq
    simp only [List.mem_append] at hq'
    rcases hq' with h | h | h | h
    · exact sq_down (e:=0) (by decide) (by simp) (by simp) (sqs_ok a _ _ _ k ga q h)
    · exact sq_down (e:=1) (by decide) (by simp) (by simp) (sqs_ok b _ _ _ k gb q h)
    · exact sq_down (e:=2) (by decide) (by simp) (by simp) (sqs_ok c _ _ _ k gc q h)
    · exact sq_down (e:=3) (by decide) (by simp) (by simp) (sqs_ok d _ _ _ k gd q h)

def SqV (H:Hp) (u:V) (q:Sq):Prop:=∃ p,u=.ref p∧H p=some (.tup [sV q.z,.int q.c,.int (q.x:Int),.int (q.y:Int),.int (q.w:Int)])∧0 < q.w
theorem SqV.up {H H':Hp} {u:V} {q:Sq} (h:SqV H u q) (s:Tups H H'):SqV H' u q:=by
  obtain ⟨p,e,hp,h⟩:=h
  exact ⟨p,e,s _ _ hp,h⟩
inductive SqsAt (H:Hp):List V→List Sq→Prop
  | nil:SqsAt H [] []
  | cons {u:V} {q:Sq} {us:List V} {L:List Sq}:SqV H u q→SqsAt H us L→SqsAt H (u::us) (q::L)
theorem SqsAt.up {H H':Hp} {us:List V} {L:List Sq} (h:SqsAt H us L) (s:Tups H H'):SqsAt H' us L:=by
  induction h with
  | nil=>exact .nil
  | cons p _ ih=>exact .cons (p.up s) ih
theorem SqsAt.len {H:Hp} {us:List V} {L:List Sq} (h:SqsAt H us L):us.length=L.length:=by
  induction h with
  | nil=>rfl
  | cons p _ ih=>simp [ih]
theorem SqsAt.app {H:Hp} {us vs:List V} {L M:List Sq} (h:SqsAt H us L) (k:SqsAt H vs M):SqsAt H (us++vs) (L++M):=by
  induction h with
  | nil=>exact k
  | cons p _ ih=>exact .cons p ih
theorem SqsAt.get {H:Hp} {us:List V} {L:List Sq} (h:SqsAt H us L):∀ {i:Nat} {u:V},us[i]? = some u→∃ q,L[i]? = some q∧SqV H u q:=by
  induction h with
  | nil=>intro i u e; simp at e
  | cons p _ ih =>
    intro i u e
    rcases i with _ | i
    · exact ⟨_,rfl,by rw [← Option.some.inj e]; exact p⟩
    · exact ih (by simpa using e)

def DirA (side:Str) (ax s:Bool):Prop:=(side = "up" ∧ ax=true∧s=true)∨(side = "right" ∧ ax=false∧s=false)∨(side = "down" ∧ ax=true∧s=false)∨(side = "left" ∧ ax=false∧s=true)
def mn (i j:Int):Int:=if j < i then j else i
def mx (i j:Int):Int:=if j > i then j else i
def over (a wa b wb:Nat):Int:=mn ((a:Int) + wa) ((b:Int) + wb) - mx (a:Int) b
theorem over_iff {a wa b wb:Nat} (h1:0 < wa) (h2:0 < wb):0 < over a wa b wb↔a < b + wb∧b < a + wa:=by
  unfold over mn mx
  split <;> split <;> omega
section
variable {P:Program} {w:World} {K:PySem.W.Frag} {mg:Str→Option Value} {base:Heap} {CX:CXT} {f:Addr} {fd:FuncData}
abbrev s_law_squares:Stmt:=top 34
theorem sc_law_squares:FnScope ["_law_tree","_law_code","_law_x","_law_y","_law_wide","_law_half","_law_found","_law_k"] ["_law_tree","_law_code","_law_x","_law_y","_law_wide"] (defScope s_law_squares):=⟨rfl,rfl,rfl,by decide +kernel,rfl,by decide +kernel,by decide +kernel⟩
def sp_law_squares (m:Nat):Sp:=fun vs H Q _=>∃ (v:V) (t:Tr) (z:Str) (k x y:Nat),vs=[v,.str z,.int (x:Int),.int (y:Int),.int ((2 ^ k:Nat):Int)]∧TrAt H v t∧Good k t∧IsC z∧z.length + k≤40∧k < m∧m≤41∧cnt t≤4000∧∀ l us H',Same H H'→H l=none→H' l=some (.lst us)→SqsAt H' us (sqs (dig z) t x y k)→Q (.ref l) H'
theorem ok_law_squares (T:Tx K mg) (q:Quiet CX) (F:FunD K "_law_squares" "_law_squares" s_law_squares f fd .none) (b:Binds K fd ["_law_tree","_law_code","_law_x","_law_y","_law_wide"] []) (m:mg "_law_squares" = some (.ref f)) :
    ∀ n,FnOk P w K mg base CX (1 + n) f fd ["_law_tree","_law_code","_law_x","_law_y","_law_wide"] (sp_law_squares n)
  | 0=>by
    refine F.ok sc_law_squares (fun vs H Q E h => ?_) (fun cdv A outer s H vs Q E hr h => ?_)
    · obtain ⟨_,_,_,_,_,_,rfl,_⟩:=h
      rfl
    obtain ⟨_,_,_,_,_,_,_,_,_,_,_,h,_⟩:=h
    exact absurd h (Nat.not_lt_zero _)
  | m' + 1=>by
    have C__law_squares:Fok P w K mg base CX (1 + m') "_law_squares" ["_law_tree","_law_code","_law_x","_law_y","_law_wide"] [] (sp_law_squares m'):=fok F (ok_law_squares T q F b m m') b m
    refine F.ok sc_law_squares (fun vs H Q E h => ?_) (fun cdv A outer s H vs Q E hr h => ?_)
    · obtain ⟨_,_,_,_,_,_,rfl,_⟩:=h
      rfl
    obtain ⟨v,t,z,k,x,y,rfl,ht,gt,hz,hl,hk,hm,hc,q'⟩:=h
    refine ⟨_,(pss_cons (ps_if (pt_not (pt_val (pe_callB (call_isiT "tuple") rfl T.b_isinstance bb_isinstance (pa_cons (pv 0) (pa_cons (pe_bty T.b_tuple bt_tuple) pa_nil))))) (pss_one (ps_ret (pe_lstx (pax_c (pe_tupx (pax_c (pv 1) (pax_c (pv 0) (pax_c (pv 2) (pax_c (pv 3) (pax_c (pv 4) pax_nil)))))) pax_nil)))) pss_nil) (pss_cons (ps_set (i:=5) sc_law_squares.nd rfl (Or.inl rfl) (pe_op op_fdivW (pv 4) pe_int)) (pss_cons (ps_set (i:=6) sc_law_squares.nd rfl (Or.inl rfl) (pe_lstx pax_nil)) (pss_cons (ps_for PassesOwn.never rfl (pi_range1 rfl T.b_range (pa_cons pe_int pa_nil)) (pg_name (i:=7) sc_law_squares.nd rfl (Or.inl rfl)) (pss_one (ps_expr (pe_bm PySem.F.plainAttrs_list PySem.F.slot_list_extend PySem.F.type_list_extend mt_extend (pv 6) (pa_cons (pe_callF C__law_squares q hr (pa_cons (pe_ix ix_tup (pv 0) (pv 7) (fun _ _=>rfl)) (pa_cons (pe_op op_add_str (pv 1) (pe_ix ix_str pe_str (pv 7) (fun _ _=>rfl))) (pa_cons (pe_op op_add (pv 2) (pe_op op_mul (pe_op op_mod (pv 7) pe_int) (pv 5))) (pa_cons (pe_op op_add (pv 3) (pe_op op_mul (pe_op op_fdivW (pv 7) pe_int) (pv 5))) (pa_cons (pv 5) pa_nil))))) (hj:=by first | decide | omega | (simp only [Nat.add_eq]; omega))) pa_nil))))) (pss_one (ps_ret (pv 6))))))),?_⟩
    cases ht with
    | col i =>
      refine ⟨_,rfl,_,_,_,rfl,.int _,kit_it,_,rfl,iteT ?_⟩
      refine ⟨_,rfl,_,rfl,_,rfl,_,rfl,_,rfl,(by show 5≤sizeLine; decide),fun p hp => ?_⟩
      have s1:=Same.new hp (.tup [.str z,.int i,.int (x:Int),.int (y:Int),.int ((2 ^ k:Nat):Int)])
      have u1:upd H p (.tup [.str z,.int i,.int (x:Int),.int (y:Int),.int ((2 ^ k:Nat):Int)]) p=some (.tup [.str z,.int i,.int (x:Int),.int (y:Int),.int ((2 ^ k:Nat):Int)]):=upd_same
      generalize upd H p (.tup [.str z,.int i,.int (x:Int),.int (y:Int),.int ((2 ^ k:Nat):Int)])=H1 at *
      refine ⟨(by show 1≤sizeLine; decide),fun l hl1 => ?_⟩
      have s2:=Same.new hl1 (.lst [.ref p])
      have u2:=s2 _ _ u1
      rw [← sV_dig hz] at u2
      exact q' l _ _ (s1.trans s2) (Same.free s1 hl1) upd_same (.cons ⟨p,rfl,u2,Nat.two_pow_pos k⟩ .nil)
    | @four p xa xb xc xd ta tb tc td e ja jb jc jd =>
      rcases k with _ | k
      · exact gt.elim
      obtain ⟨ga,gb,gc,gd,ho⟩:=gt
      have hc':cnt ta + cnt tb + cnt tc + cnt td≤4000:=hc
      have half:((2 ^ (k + 1):Nat):Int) / 2=((2 ^ k:Nat):Int):=by rw [Nat.pow_succ]; omega
      have pk:2 ^ k≤2 ^ 40:=Nat.pow_le_pow_right (by decide) (by omega)
      have pk0:=Nat.two_pow_pos k
      refine ⟨_,rfl,_,_,_,rfl,.tup e,kit_tt,_,rfl,iteF ?_⟩
      refine ⟨_,rfl,_,_,rfl,rfl,cdivW (by decide) (by decide),?_⟩
      dsimp only
      rw [half]
      refine ⟨(by show 0≤sizeLine; decide),fun l hl0 => ?_⟩
      have s1:=Same.new hl0 (.lst [])
      have u1:upd H l (.lst []) l=some (.lst []):=upd_same
      generalize upd H l (.lst [])=H1 at *
      obtain ⟨ps,eps⟩:∃ ps:List (List Sq),ps=[sqs (dig z++[0]) ta (x + 0 % 2 * 2 ^ k) (y + 0 / 2 * 2 ^ k) k,sqs (dig z++[1]) tb (x + 1 % 2 * 2 ^ k) (y + 1 / 2 * 2 ^ k) k,sqs (dig z++[2]) tc (x + 2 % 2 * 2 ^ k) (y + 2 / 2 * 2 ^ k) k,sqs (dig z++[3]) td (x + 3 % 2 * 2 ^ k) (y + 3 / 2 * 2 ^ k) k]:=⟨_,rfl⟩
      have lps:ps.length=4:=by rw [eps]; rfl
      have tot:ps.flatten.length≤4000:=by
        rw [eps]
        simp only [List.flatten_cons,List.flatten_nil,List.append_nil,List.length_append,sqs_len]
        omega
      refine ⟨_,rfl,by decide,by decide,for_range (fun (j:Nat) σ H2=>Same H H2∧∃ (us:List V) (o3:Option V),H2 l=some (.lst us)∧j≤4∧SqsAt H2 us (ps.take j).flatten∧σ=[some (.ref p),some (.str z),some (.int (x:Int)),some (.int (y:Int)),some (.int ((2 ^ (k + 1):Nat):Int)),some (.int ((2 ^ k:Nat):Int)),some (.ref l),o3]) ⟨s1,[],none,u1,by decide,.nil,rfl⟩ ?_ ?_⟩
      · rintro j σ H2 hj ⟨s2,us,o3,u2,hj4,hus,rfl⟩
        have hj4:j < 4:=hj
        rw [show (0:Int) + (j:Int)=(j:Int) by omega]
        have key:∃ xx t',atI [xa,xb,xc,xd] (j:Int)=some xx∧TrAt H xx t'∧Good k t'∧cnt t'≤4000∧ps[j]? = some (sqs (dig z++[j]) t' (x + j % 2 * 2 ^ k) (y + j / 2 * 2 ^ k) k):=by
          rw [eps]
          rcases j with _ | _ | _ | _ | j
          · exact ⟨xa,ta,rfl,ja,ga,by omega,rfl⟩
          · exact ⟨xb,tb,rfl,jb,gb,by omega,rfl⟩
          · exact ⟨xc,tc,rfl,jc,gc,by omega,rfl⟩
          · exact ⟨xd,td,rfl,jd,gd,by omega,rfl⟩
          · omega
        obtain ⟨xx,t',k1,k2,k3,k4,k5⟩:=key
        have l1:(one j).length=1:=rfl
        have eX:(x:Int) + (j:Int) % 2 * ((2 ^ k:Nat):Int)=((x + j % 2 * 2 ^ k:Nat):Int):=by simp
        have eY:(y:Int) + (j:Int) / 2 * ((2 ^ k:Nat):Int)=((y + j / 2 * 2 ^ k:Nat):Int):=by simp
        refine ⟨_,rfl,.inl ⟨rfl,_,SqL.of u2⟩,_,rfl,_,rfl,p,_,_,xx,rfl,rfl,SqT.of (s2 _ _ e),k1,_,rfl,_,rfl,_,_,48 + j,rfl,rfl,q_len,at_q hj4,_,_,rfl,rfl,(by show z.length + 1≤sizeLine; exact small (by omega)),?_⟩
        refine ⟨_,rfl,_,rfl,_,_,rfl,rfl,(by show (0:Int) < 2; decide),_,rfl,_,_,rfl,rfl,.inl ⟨by omega,by omega⟩,_,_,rfl,rfl,?_⟩
        refine ⟨_,rfl,_,rfl,_,_,rfl,rfl,cdivW (by decide) (by decide),_,rfl,_,_,rfl,rfl,.inl ⟨by omega,by omega⟩,_,_,rfl,rfl,?_⟩
        refine ⟨_,rfl,xx,t',z++one j,k,x + j % 2 * 2 ^ k,y + j / 2 * 2 ^ k,?_,k2.up s2.tups,k3,IsC.app hz (IsC.one hj4),by rw [app_len,l1]; omega,by omega,by omega,k4,fun l2 us2 H3 s3 hl2 u3 hus2 => ?_⟩
        · rw [← eX,← eY]; rfl
        rw [dig_app,dig_one] at hus2
        have u2':=s3 _ _ u2
        have et:(ps.take (j + 1)).flatten=(ps.take j).flatten++sqs (dig z++[j]) t' (x + j % 2 * 2 ^ k) (y + j / 2 * 2 ^ k) k:=by rw [List.take_add_one,k5,List.flatten_append]; simp
        have n1:=hus.len
        have n2:=hus2.len
        have n3:(ps.take j).flatten.length≤ps.flatten.length:=by
          conv=>rhs; rw [← List.take_append_drop j ps,List.flatten_append,List.length_append]
          omega
        have n4:=sqs_len t' (dig z++[j]) (x + j % 2 * 2 ^ k) (y + j / 2 * 2 ^ k) k
        have tl:=Tups.lst (ys:=us++us2) u2'
        refine ⟨l,l2,_,_,rfl,rfl,u2',u3,big (by omega),Same.set (s2.trans s3) hl0 _,us++us2,_,upd_same,hj4,?_,rfl⟩
        rw [et]
        exact (hus.up (s3.tups.trans tl)).app (hus2.up tl)
      · rintro σ H2 ⟨s2,us,o3,u2,hj4,hus,rfl⟩
        have e4:(ps.take ((4:Int)).toNat).flatten=sqs (dig z) (.four ta tb tc td) x y (k + 1):=by
          rw [show ((4:Int)).toNat=4 from rfl,List.take_of_length_le (by omega),eps]
          simp [sqs]
        have hus':SqsAt H2 us (ps.take ((4:Int)).toNat).flatten:=hus
        rw [e4] at hus'
        exact ⟨_,rfl,q' l us H2 s2 hl0 u2 hus'⟩
end
end Qs
namespace Qs
open PySem L2
def liesB (ax s:Bool) (q:Sq):Nat→Nat→Nat→Bool:=fun x y w=>decide (LiesP ax s (nC ax q.x q.y) (tC' ax q.x q.y) q.w x y w)
theorem beyond_in {ax s:Bool} {n:Nat} {t:Tr} {q:Sq} {yr:List Nat} (gt:Good n t) (ok:SqOk q [] t 0 0 n) (ly:yr.length=q.z.length) (y4:∀ d∈yr,d < 4) (hc:ct ax yr=ct ax q.z) (hs:if s then cn ax yr + 1=cn ax q.z else cn ax yr=cn ax q.z + 1) :
    fl (liesB ax s q) [] t 0 0 n=down (nearOf ax s) [] yr t:=by
  obtain ⟨w,e1,h4,hn,hl,ex,ey,ew⟩:=ok
  rw [List.nil_append] at e1
  rw [e1] at ly hc hs
  obtain ⟨j,rfl⟩:∃ j,n=w.length + j:=⟨n - w.length,by omega⟩
  rw [Nat.add_sub_cancel_left] at ex ey ew
  have hN:nC ax q.x q.y=nC ax 0 0 + cn ax w * 2 ^ j:=by cases ax <;> simp only [nC,cn,ex,ey,if_true,if_false,Bool.false_eq_true]
  have hT:tC' ax q.x q.y=tC' ax 0 0 + ct ax w * 2 ^ j:=by cases ax <;> simp only [tC',ct,ex,ey,if_true,if_false,Bool.false_eq_true]
  unfold liesB
  rw [ew]
  refine fl_both w yr t [] 0 0 _ _ q.c ly.symm h4 y4 gt hn hT (by rw [hc]; exact hT) hN ?_
  rw [hN]
  cases s
  · simp only [if_false,Bool.false_eq_true] at hs ⊢
    rw [hs,Nat.add_mul,Nat.one_mul]; omega
  · simp only [if_true] at hs ⊢
    rw [← hs,Nat.add_mul,Nat.one_mul]; omega
theorem beyond_out {ax s:Bool} {n:Nat} {t:Tr} {q:Sq} (gt:Good n t) (ok:SqOk q [] t 0 0 n) (hb:if s then cn ax q.z=0 else cn ax q.z + 1=2 ^ q.z.length) :
    fl (liesB ax s q) [] t 0 0 n=[]:=by
  obtain ⟨w,e1,h4,hn,hl,ex,ey,ew⟩:=ok
  rw [List.nil_append] at e1
  rw [e1] at hb
  obtain ⟨j,rfl⟩:∃ j,n=w.length + j:=⟨n - w.length,by omega⟩
  rw [Nat.add_sub_cancel_left] at ex ey ew
  have hN:nC ax q.x q.y=cn ax w * 2 ^ j:=by cases ax <;> simp only [nC,cn,ex,ey,if_true,if_false,Bool.false_eq_true,Nat.zero_add]
  have h0:nC ax 0 0=0:=by cases ax <;> rfl
  unfold liesB
  rw [ew]
  refine fl_far t [] 0 0 _ gt (.inr (.inr ?_))
  rw [hN,h0]
  cases s
  · simp only [if_false,Bool.false_eq_true] at hb ⊢
    right
    rw [Nat.pow_add,← hb,Nat.add_mul,Nat.one_mul]; omega
  · simp only [if_true] at hb ⊢
    left
    rw [hb,Nat.zero_mul]; exact Nat.zero_le _

def sideV:List V:=[.str "up",.str "right",.str "down",.str "left"]
theorem bey_of {K:PySem.W.Frag} {mg:Str→Option Value} {Y:Yx K mg} {H:Hp} {Q:VK} {E:XK} {n:Nat} {t:Tr} {q:Sq} {side s1 s2:Str} {dx dy:Int} {ax s:Bool} (gt:Good n t) (ok:SqOk q [] t 0 0 n) (hd:Dir side s1 s2 dx dy) (e2:dig s2=nearOf ax s)
    (ex:dx=(if ax then 0 else if s then -1 else 1)) (ey:dy=(if ax then (if s then -1 else 1) else 0)) (k:∀ l H',Same H H'→H l=none→H' l=some (.lst ((fl (liesB ax s q) [] t 0 0 n).map sV))→Q (.ref l) H'):BeyP Y H Q E (txt q.z) t (.str side):=by
  obtain ⟨w,e1,h4,_⟩:=id ok
  rw [List.nil_append] at e1
  refine .inl ⟨side,s1,s2,dx,dy,rfl,hd,fun y hy ly hx hy' l H' sm hl u=>k l H' sm hl ?_,fun x' y' hx' hy' hx hy l H' sm hl u=>k l H' sm hl ?_⟩
  · rw [dig_txt] at hx hy'
    rw [txt_len] at ly
    rw [u,e2,beyond_in (yr:=dig y) gt ok (by rw [dig_len]; exact ly) (dig_lt hy)]
    · subst ex ey
      cases ax <;> cases s <;> simp only [ct,if_true,if_false,Bool.false_eq_true] at hx hy' ⊢ <;> omega
    · subst ex ey
      cases ax <;> cases s <;> simp only [cn,if_true,if_false,Bool.false_eq_true] at hx hy' ⊢ <;> omega
  · rw [dig_txt,txt_len] at hx hy
    rw [txt_len] at hx' hy'
    have c1:=cxs_lt q.z
    have c2:=cys_lt q.z (by rw [e1]; exact h4)
    rw [u,beyond_out gt ok]
    · rfl
    · subst ex ey
      generalize 2 ^ q.z.length=W at *
      cases ax <;> cases s <;> simp only [cn,if_true,if_false,Bool.false_eq_true] at hx hy ⊢ <;> omega

def rightB (q r:Sq):Bool:=liesB false false q r.x r.y r.w
def downB (q r:Sq):Bool:=liesB true false q r.x r.y r.w
def touchB (q r:Sq):Bool:=decide (mn (over q.x q.w r.x r.w) (over q.y q.w r.y r.w)=0) && decide (mx (over q.x q.w r.x r.w) (over q.y q.w r.y r.w) > 0)
def Sep (q r:Sq):Prop:=q.x + q.w≤r.x∨q.y + q.w≤r.y
theorem mn_min (i j:Int):mn i j=min i j:=by unfold mn; split <;> omega
theorem mx_max (i j:Int):mx i j=max i j:=by unfold mx; split <;> omega
theorem rightB_iff {q r:Sq}:rightB q r=true↔r.x=q.x + q.w∧q.y < r.y + r.w∧r.y < q.y + q.w:=by
  unfold rightB liesB LiesP
  simp only [nC,tC',if_false,Bool.false_eq_true,decide_eq_true_eq]
theorem downB_iff {q r:Sq}:downB q r=true↔r.y=q.y + q.w∧q.x < r.x + r.w∧r.x < q.x + q.w:=by
  unfold downB liesB LiesP
  simp only [nC,tC',if_true,if_false,Bool.false_eq_true,decide_eq_true_eq]
theorem touchB_iff {q r:Sq}:touchB q r=true↔min (over q.x q.w r.x r.w) (over q.y q.w r.y r.w)=0∧max (over q.x q.w r.x r.w) (over q.y q.w r.y r.w) > 0:=by
  unfold touchB
  rw [mn_min,mx_max]
  simp only [Bool.and_eq_true,decide_eq_true_eq]
theorem touch_lem {X Y:Int} {A B C D:Prop} (hX:X≤0) (hA:X=0↔A) (hY:0 < Y↔B) (hC:¬ (C∧D)):(min X Y=0∧max X Y > 0)↔(A∧B)∨(C∧D):=by
  rw [← hA,← hY]
  constructor
  · intro h
    exact .inl (by omega)
  · intro h
    rcases h with h | h
    · omega
    · exact absurd h hC
theorem touch_lem2 {X Y:Int} {A B C D:Prop} (hY:Y≤0) (hA:Y=0↔C) (hX:0 < X↔D) (hC:¬ (A∧B)):(min X Y=0∧max X Y > 0)↔(A∧B)∨(C∧D):=by
  rw [Int.min_comm,Int.max_comm,touch_lem hY hA hX hC]
  exact Or.comm
theorem over_sep {a wa b wb:Nat} (hb:0 < wb) (h:a + wa≤b):over a wa b wb=(a:Int) + wa - b:=by
  unfold over mn mx
  rw [if_neg (by omega)]
  split <;> omega
theorem sep_touch {q r:Sq} (hq:0 < q.w) (hr:0 < r.w) (h:Sep q r):touchB q r=(rightB q r || downB q r):=by
  rw [Bool.eq_iff_iff,Bool.or_eq_true,touchB_iff,rightB_iff,downB_iff]
  rcases h with h | h
  · have e:=over_sep hr h
    refine touch_lem (by omega) (by rw [e]; omega) (over_iff hq hr) (by omega)
  · have e:=over_sep hr h
    refine touch_lem2 (by omega) (by rw [e]; omega) (over_iff hq hr) (by omega)
theorem sep_back {q r:Sq} (hq:0 < q.w) (hr:0 < r.w) (h:Sep q r):rightB r q=false∧downB r q=false:=by
  refine ⟨Bool.eq_false_iff.mpr fun c => ?_,Bool.eq_false_iff.mpr fun c => ?_⟩
  · obtain ⟨c1,c2,c3⟩:=rightB_iff.mp c
    rcases h with h | h <;> omega
  · obtain ⟨c1,c2,c3⟩:=downB_iff.mp c
    rcases h with h | h <;> omega
theorem not_self {q:Sq} (hq:0 < q.w):rightB q q=false∧downB q q=false:=by
  refine ⟨Bool.eq_false_iff.mpr fun c => ?_,Bool.eq_false_iff.mpr fun c => ?_⟩
  · obtain ⟨c1,c2,c3⟩:=rightB_iff.mp c
    omega
  · obtain ⟨c1,c2,c3⟩:=downB_iff.mp c
    omega
theorem one_way {q r:Sq} (hq:0 < q.w) (h:rightB q r=true):downB q r=false:=by
  refine Bool.eq_false_iff.mpr fun c => ?_
  obtain ⟨c1,c2,c3⟩:=rightB_iff.mp h
  obtain ⟨d1,d2,d3⟩:=downB_iff.mp c
  omega
theorem sqs_in:∀ (t:Tr) (p:List Nat) (x y k:Nat),Good k t→∀ q∈sqs p t x y k,x≤q.x∧q.x + q.w≤x + 2 ^ k∧y≤q.y∧q.y + q.w≤y + 2 ^ k∧0 < q.w
  | .col c,p,x,y,k,_,q,hq=>by
    have e:q=⟨p,c,x,y,2 ^ k⟩:=List.mem_singleton.mp hq
    subst e
    exact ⟨Nat.le_refl _,Nat.le_refl _,Nat.le_refl _,Nat.le_refl _,Nat.two_pow_pos k⟩
  | .four a b c d,p,x,y,0,g,_,_=>g.elim
  | .four a b c d,p,x,y,k + 1,⟨ga,gb,gc,gd,_⟩,q,hq=>by
    have hq':q∈sqs (p++[0]) a x y k++(sqs (p++[1]) b (x + 2 ^ k) y k++(sqs (p++[2]) c x (y + 2 ^ k) k++sqs (p++[3]) d (x + 2 ^ k) (y + 2 ^ k) k)):=hq
    have e2:2 ^ (k + 1)=2 ^ k + 2 ^ k:=by rw [Nat.pow_succ]; omega
    simp only [List.mem_append] at hq'
    rw [e2]
    rcases hq' with h | h | h | h
    · obtain ⟨h1,h2,h3,h4,h5⟩:=sqs_in a _ _ _ k ga q h
      refine ⟨?_,?_,?_,?_,h5⟩ <;> omega
    · obtain ⟨h1,h2,h3,h4,h5⟩:=sqs_in b _ _ _ k gb q h
      refine ⟨?_,?_,?_,?_,h5⟩ <;> omega
    · obtain ⟨h1,h2,h3,h4,h5⟩:=sqs_in c _ _ _ k gc q h
      refine ⟨?_,?_,?_,?_,h5⟩ <;> omega
    · obtain ⟨h1,h2,h3,h4,h5⟩:=sqs_in d _ _ _ k gd q h
      refine ⟨?_,?_,?_,?_,h5⟩ <;> omega
theorem lt_app (p:List Nat) {a b:Nat} (h:a < b) (v w:List Nat):p++a::v < p++b::w:=by
  induction p with
  | nil=>exact List.cons_lt_cons_iff.mpr (.inl h)
  | cons x p ih=>exact List.cons_lt_cons_iff.mpr (.inr ⟨rfl,ih⟩)

def Bef (q r:Sq):Prop:=Sep q r∧q.z < r.z
theorem sqs_pre {t:Tr} {p:List Nat} {x y k:Nat} (g:Good k t) {q:Sq} (hq:q∈sqs p t x y k):∃ w,q.z=p++w:=by
  obtain ⟨w,e,_⟩:=sqs_ok t p x y k g q hq
  exact ⟨w,e⟩
theorem bef_two {a b:Tr} {p:List Nat} {d e x y x' y' k:Nat} (ga:Good k a) (gb:Good k b) (hd:d < e) (hs:∀ q r:Sq,(x≤q.x∧q.x + q.w≤x + 2 ^ k∧y≤q.y∧q.y + q.w≤y + 2 ^ k∧0 < q.w)→(x'≤r.x∧r.x + r.w≤x' + 2 ^ k∧y'≤r.y∧r.y + r.w≤y' + 2 ^ k∧0 < r.w)→Sep q r) :
    ∀ q∈sqs (p++[d]) a x y k,∀ r∈sqs (p++[e]) b x' y' k,Bef q r:=fun q hq r hr=>by
  refine ⟨hs q r (sqs_in a _ _ _ k ga q hq) (sqs_in b _ _ _ k gb r hr),?_⟩
  obtain ⟨v,ev⟩:=sqs_pre ga hq
  obtain ⟨w,ew⟩:=sqs_pre gb hr
  rw [ev,ew]
  have:=lt_app p hd v w
  simpa using this
theorem sqs_bef:∀ (t:Tr) (p:List Nat) (x y k:Nat),Good k t→(sqs p t x y k).Pairwise Bef
  | .col c,p,x,y,k,_=>List.pairwise_singleton _ _
  | .four a b c d,p,x,y,0,g=>g.elim
  | .four a b c d,p,x,y,k + 1,⟨ga,gb,gc,gd,_⟩=>by
    show (sqs (p++[0]) a x y k++(sqs (p++[1]) b (x + 2 ^ k) y k++(sqs (p++[2]) c x (y + 2 ^ k) k++sqs (p++[3]) d (x + 2 ^ k) (y + 2 ^ k) k))).Pairwise Bef
    refine List.pairwise_append.mpr ⟨sqs_bef a _ _ _ k ga,List.pairwise_append.mpr ⟨sqs_bef b _ _ _ k gb,List.pairwise_append.mpr ⟨sqs_bef c _ _ _ k gc,sqs_bef d _ _ _ k gd,?_⟩,?_⟩,?_⟩
    · refine bef_two gc gd (by decide) fun q r hq hr => ?_
      unfold Sep
      omega
    · intro q hq r hr
      rcases List.mem_append.mp hr with hr | hr
      · refine bef_two gb gc (by decide) (fun q r hq hr => ?_) q hq r hr
        unfold Sep
        omega
      · refine bef_two gb gd (by decide) (fun q r hq hr => ?_) q hq r hr
        unfold Sep
        omega
    · intro q hq r hr
      rcases List.mem_append.mp hr with hr | hr
      · refine bef_two ga gb (by decide) (fun q r hq hr => ?_) q hq r hr
        unfold Sep
        omega
      rcases List.mem_append.mp hr with hr | hr
      · refine bef_two ga gc (by decide) (fun q r hq hr => ?_) q hq r hr
        unfold Sep
        omega
      · refine bef_two ga gd (by decide) (fun q r hq hr => ?_) q hq r hr
        unfold Sep
        omega

abbrev Pr:Type:=List Nat × List Nat
def dueP:List Sq→List Pr
  | []=>[]
  | q::L=>((L.filter fun r=>touchB q r).map fun r=>(q.z,r.z))++dueP L
def toldOf (A:List Sq) (q:Sq):List Pr:=((A.filter fun r=>rightB q r).map fun r=>(q.z,r.z))++((A.filter fun r=>downB q r).map fun r=>(q.z,r.z))
theorem filter_or {α:Type} {a b:α→Bool}:∀ {L:List α},(∀ x∈L,a x=true→b x=false)→(L.filter a++L.filter b).Perm (L.filter fun x=>a x || b x)
  | [],_=>List.Perm.refl _
  | x::L,h=>by
    have ih:=filter_or (L:=L) fun y hy=>h y (List.mem_cons_of_mem _ hy)
    cases ea:a x with
    | true =>
      have eb:=h x List.mem_cons_self ea
      rw [List.filter_cons_of_pos ea,List.filter_cons_of_neg (by rw [eb]; exact Bool.false_ne_true),List.filter_cons_of_pos (by rw [ea]; rfl)]
      exact ih.cons x
    | false =>
      rw [List.filter_cons_of_neg (by rw [ea]; exact Bool.false_ne_true)]
      cases eb:b x with
      | true =>
        rw [List.filter_cons_of_pos eb,List.filter_cons_of_pos (by rw [ea,eb]; rfl)]
        exact List.perm_middle.trans (ih.cons x)
      | false =>
        rw [List.filter_cons_of_neg (by rw [eb]; exact Bool.false_ne_true),List.filter_cons_of_neg (by rw [ea,eb]; exact Bool.false_ne_true)]
        exact ih
theorem filter_none {α:Type} {a:α→Bool} {L:List α} (h:∀ x∈L,a x=false):L.filter a=[]:=by
  rw [List.filter_eq_nil_iff]
  intro x hx
  rw [h x hx]
  exact Bool.false_ne_true
theorem told_one {B L:List Sq} {q:Sq} (hB:∀ b∈B,Bef b q∧0 < b.w) (hL:∀ r∈L,Bef q r∧0 < r.w) (hq:0 < q.w):(toldOf (B++q::L) q).Perm ((L.filter fun r=>touchB q r).map fun r=>(q.z,r.z)):=by
  have ns:=not_self hq
  have e1:(B++q::L).filter (fun r=>rightB q r)=L.filter (fun r=>rightB q r):=by
    rw [List.filter_append,filter_none fun b hb=>(sep_back (hB b hb).2 hq (hB b hb).1.1).1,List.nil_append,List.filter_cons_of_neg (by rw [ns.1]; exact Bool.false_ne_true)]
  have e2:(B++q::L).filter (fun r=>downB q r)=L.filter (fun r=>downB q r):=by
    rw [List.filter_append,filter_none fun b hb=>(sep_back (hB b hb).2 hq (hB b hb).1.1).2,List.nil_append,List.filter_cons_of_neg (by rw [ns.2]; exact Bool.false_ne_true)]
  unfold toldOf
  rw [e1,e2,← List.map_append]
  have e3:L.filter (fun r=>touchB q r)=L.filter (fun r=>rightB q r || downB q r):=List.filter_congr fun r hr=>sep_touch hq (hL r hr).2 (hL r hr).1.1
  rw [e3]
  exact (filter_or fun r hr h=>one_way hq h).map _
theorem told_perm:∀ (L B:List Sq),(B++L).Pairwise Bef→(∀ q∈B++L,0 < q.w)→(L.flatMap fun q=>toldOf (B++L) q).Perm (dueP L)
  | [],B,_,_=>List.Perm.refl _
  | q::L,B,h,hw=>by
    have ih:=told_perm L (B++[q]) (by simpa using h) (by simpa using hw)
    rw [List.append_assoc,List.singleton_append] at ih
    obtain ⟨p1,p2,p3⟩:=List.pairwise_append.mp h
    rw [List.flatMap_cons]
    refine List.Perm.append (told_one (fun b hb=>⟨p3 b hb q List.mem_cons_self,hw b (by simp [hb])⟩) (fun r hr=>⟨(List.pairwise_cons.mp p2).1 r hr,hw r (by simp [hr])⟩) (hw q (by simp))) ih

def PrLt (a b:Pr):Prop:=a.1 < b.1∨(a.1=b.1∧a.2 < b.2)
theorem dueP_mem:∀ {L:List Sq} {d:Pr},d∈dueP L→∃ q∈L,d.1=q.z
  | [],d,h=>by cases h
  | q::L,d,h=>by
    rcases List.mem_append.mp h with h | h
    · obtain ⟨r,_,rfl⟩:=List.mem_map.mp h
      exact ⟨q,List.mem_cons_self,rfl⟩
    · obtain ⟨r,hr,e⟩:=dueP_mem h
      exact ⟨r,List.mem_cons_of_mem _ hr,e⟩
theorem dueP_asc:∀ {L:List Sq},L.Pairwise Bef→(dueP L).Pairwise PrLt
  | [],_=>List.Pairwise.nil
  | q::L,h=>by
    obtain ⟨h1,h2⟩:=List.pairwise_cons.mp h
    refine List.pairwise_append.mpr ⟨?_,dueP_asc h2,fun a ha b hb => ?_⟩
    · rw [List.pairwise_map]
      exact (h2.filter _).imp fun h=>.inr ⟨rfl,h.2⟩
    · obtain ⟨r,_,rfl⟩:=List.mem_map.mp ha
      obtain ⟨s,hs,e⟩:=dueP_mem hb
      left
      rw [e]
      exact (h1 s hs).2
theorem dueP_len:∀ (L:List Sq),(dueP L).length≤L.length * L.length
  | []=>Nat.le_refl _
  | q::L=>by
    have ih:=dueP_len L
    have h1:=List.length_filter_le (fun r=>touchB q r) L
    show (((L.filter fun r=>touchB q r).map fun r=>(q.z,r.z))++dueP L).length≤_
    rw [List.length_append,List.length_map,List.length_cons,Nat.add_mul,Nat.mul_add]
    omega

def PrV (H:Hp) (u:V) (d:Pr):Prop:=∃ p,u=.ref p∧H p=some (.tup [sV d.1,sV d.2])
theorem PrV.up {H H':Hp} {u:V} {d:Pr} (h:PrV H u d) (s:Tups H H'):PrV H' u d:=by
  obtain ⟨p,e,hp⟩:=h
  exact ⟨p,e,s _ _ hp⟩
abbrev PrsAt (H:Hp):List V→List Pr→Prop:=Paired (PrV H)
theorem PrsAt.up {H H':Hp} {us:List V} {L:List Pr} (h:PrsAt H us L) (s:Tups H H'):PrsAt H' us L:=by
  induction h with
  | nil=>exact .nil
  | cons p _ ih=>exact .cons (p.up s) ih
theorem PrsAt.app {H:Hp} {us vs:List V} {L M:List Pr} (h:PrsAt H us L) (k:PrsAt H vs M):PrsAt H (us++vs) (L++M):=by
  induction h with
  | nil=>exact k
  | cons p _ ih=>exact .cons p ih
theorem PrsAt.len {H:Hp} {us:List V} {L:List Pr} (h:PrsAt H us L):us.length=L.length:=Paired.length h
theorem PrsAt.get {H:Hp} {us:List V} {L:List Pr} (h:PrsAt H us L):∀ {i:Nat} {u:V},us[i]? = some u→∃ d,L[i]? = some d∧PrV H u d:=by
  induction h with
  | nil=>intro i u e; simp at e
  | cons p _ ih =>
    intro i u e
    rcases i with _ | i
    · exact ⟨_,rfl,by rw [← Option.some.inj e]; exact p⟩
    · exact ih (by simpa using e)
def kp (d:Pr):Pky:=pkV (txt d.1) (.str (txt d.2))
theorem txt_inj {a b:List Nat} (h:(txt a).cps.toList=(txt b).cps.toList):a=b:=by
  have:=congrArg dig (cps_inj h)
  rwa [dig_txt,dig_txt] at this
theorem kp_inj {d e:Pr} (h:kp d=kp e):d=e:=by
  have h1:(txt d.1).cps.toList=(txt e.1).cps.toList:=congrArg Prod.fst h
  have h2:(txt d.2).cps.toList=(txt e.2).cps.toList:=congrArg (fun x:Pky=>x.2.2) h
  exact Prod.ext (txt_inj h1) (txt_inj h2)
theorem txt_lt {a b:List Nat} (h:a < b):(txt a).cps.toList < (txt b).cps.toList:=by
  show (a.map (48 + ·)).toArray.toList < (b.map (48 + ·)).toArray.toList
  exact List.map_lt (fun x y h=>Nat.add_lt_add_left h 48) h
theorem kp_lt {d e:Pr} (h:PrLt d e):ltP (kp d) (kp e)=true:=by
  have hv:ltP (kp d) (kp e)=if (txt d.1).cps.toList=(txt e.1).cps.toList then decide ((txt d.2).cps.toList < (txt e.2).cps.toList) else decide ((txt d.1).cps.toList < (txt e.1).cps.toList):=rfl
  rw [hv]
  rcases h with h | ⟨h1,h2⟩
  · rw [if_neg fun c=>absurd (txt_inj c▸h) (List.lt_irrefl _)]
    exact decide_eq_true (txt_lt h)
  · rw [if_pos (by rw [h1])]
    exact decide_eq_true (txt_lt h2)
theorem prs_back {H:Hp}:∀ {us:List V} {D:List Pr},PrsAt H us D→∃ as:List Addr,us=as.map V.ref∧as.map (pkH H)=D.map kp∧∀ a∈as,∃ d:Pr,H a=some (.tup [sV d.1,sV d.2])
  | _,_,.nil=>⟨[],rfl,rfl,fun _ h=>nomatch h⟩
  | _,_,.cons (a:=u) (b:=d) ⟨p,e,hp⟩ t=>by
    obtain ⟨as,h1,h2,h3⟩:=prs_back t
    refine ⟨p::as,by rw [h1,e]; rfl,?_,fun a ha => ?_⟩
    · rw [List.map_cons,List.map_cons,h2]
      congr 1
      unfold pkH
      rw [hp]
      rfl
    · rcases List.mem_cons.mp ha with rfl | ha
      · exact ⟨d,hp⟩
      · exact h3 a ha
theorem prs_of {H:Hp}:∀ {as:List Addr} {E:List Pr},as.map (pkH H)=E.map kp→(∀ a∈as,∃ d:Pr,H a=some (.tup [sV d.1,sV d.2]))→PrsAt H (as.map V.ref) E
  | [],[],_,_=>.nil
  | [],_::_,h,_=>by cases h
  | _::_,[],h,_=>by cases h
  | a::as,e::E,h,h3=>by
    obtain ⟨h1,h2⟩:=List.cons.inj h
    obtain ⟨d,hd⟩:=h3 a List.mem_cons_self
    have:pkH H a=kp d:=by
      unfold pkH
      rw [hd]
      rfl
    have e1:=kp_inj (this.symm.trans h1)
    subst e1
    exact .cons ⟨a,rfl,hd⟩ (prs_of h2 fun b hb=>h3 b (List.mem_cons_of_mem _ hb))

theorem sorted_due {H:Hp} {as as':List Addr} {D E:List Pr} (h2:as.map (pkH H)=D.map kp) (h3:∀ a∈as,∃ d:Pr,H a=some (.tup [sV d.1,sV d.2])) (pm:as'.Perm as) (pw:as'.Pairwise fun x y=>ltP (pkH H y) (pkH H x)=false) (hp:D.Perm E) (he:E.Pairwise PrLt):PrsAt H (as'.map V.ref) E:=by
  refine prs_of ?_ fun a ha=>h3 a (pm.mem_iff.mp ha)
  have p1:(as'.map (pkH H)).Perm (E.map kp):=((pm.map _).trans (h2▸List.Perm.refl _)).trans (hp.map kp)
  refine List.Perm.eq_of_pairwise (le:=fun a b=>ltP b a=false) (fun a b _ _ h1 h2=>lin_P.tot _ _ h2 h1) (List.pairwise_map.mpr pw) ?_ p1
  rw [List.pairwise_map]
  refine he.imp fun h => ?_
  cases c:ltP (kp _) (kp _) with
  | false=>rfl
  | true =>
    have:=lin_P.tr _ _ _ c (kp_lt h)
    rw [lin_P.irr] at this
    cases this
end Qs


namespace Qs
open PySem L2

def PaV (H:Hp) (n:Nat) (u:V) (q:List Nat × Int):Prop:=∃ p z,u=.ref p∧H p=some (.tup [.str z,.int q.2])∧IsC z∧dig z=q.1∧z.length≤n∧0≤q.2∧q.2≤35
theorem PaV.up {H H':Hp} {n:Nat} {u:V} {q:List Nat × Int} (h:PaV H n u q) (s:Tups H H'):PaV H' n u q:=by
  obtain ⟨p,z,e,hp,h⟩:=h
  exact ⟨p,z,e,s _ _ hp,h⟩
inductive PasAt (H:Hp) (n:Nat):List V→List (List Nat × Int)→Prop
  | nil:PasAt H n [] []
  | cons {u:V} {q:List Nat × Int} {us:List V} {L:List (List Nat × Int)}:PaV H n u q→PasAt H n us L→PasAt H n (u::us) (q::L)
theorem PasAt.up {H H':Hp} {n:Nat} {us:List V} {L:List (List Nat × Int)} (h:PasAt H n us L) (s:Tups H H'):PasAt H' n us L:=by
  induction h with
  | nil=>exact .nil
  | cons p _ ih=>exact .cons (p.up s) ih
theorem PasAt.len {H:Hp} {n:Nat} {us:List V} {L:List (List Nat × Int)} (h:PasAt H n us L):us.length=L.length:=by
  induction h with
  | nil=>rfl
  | cons p _ ih=>simp [ih]
theorem PasAt.app {H:Hp} {n:Nat} {us vs:List V} {L M:List (List Nat × Int)} (h:PasAt H n us L) (k:PasAt H n vs M):PasAt H n (us++vs) (L++M):=by
  induction h with
  | nil=>exact k
  | cons p _ ih=>exact .cons p ih
theorem PasAt.get {H:Hp} {n:Nat} {us:List V} {L:List (List Nat × Int)} (h:PasAt H n us L):∀ {i:Nat} {u:V},us[i]? = some u→∃ q,L[i]? = some q∧PaV H n u q:=by
  induction h with
  | nil=>intro i u e; simp at e
  | cons p _ ih =>
    intro i u e
    rcases i with _ | i
    · exact ⟨_,rfl,by rw [← Option.some.inj e]; exact p⟩
    · exact ih (by simpa using e)

theorem huge {n:Nat} (h:n≤10000000):n≤sizeLine:=Nat.le_trans h (by decide)
theorem lvs_sqs:∀ (t:Tr) (p:List Nat) (x y k:Nat),lvs p t=(sqs p t x y k).map fun q=>(q.z,q.c)
  | .col c,p,x,y,k=>rfl
  | .four a b c d,p,x,y,k=>by
    show lvs (p++[0]) a++(lvs (p++[1]) b++(lvs (p++[2]) c++lvs (p++[3]) d))=(sqs (p++[0]) a x y (k - 1)++(sqs (p++[1]) b (x + 2 ^ (k - 1)) y (k - 1)++(sqs (p++[2]) c x (y + 2 ^ (k - 1)) (k - 1)++sqs (p++[3]) d (x + 2 ^ (k - 1)) (y + 2 ^ (k - 1)) (k - 1)))).map _
    rw [List.map_append,List.map_append,List.map_append,lvs_sqs a (p++[0]) x y (k - 1),lvs_sqs b (p++[1]) (x + 2 ^ (k - 1)) y (k - 1),lvs_sqs c (p++[2]) x (y + 2 ^ (k - 1)) (k - 1),lvs_sqs d (p++[3]) (x + 2 ^ (k - 1)) (y + 2 ^ (k - 1)) (k - 1)]
def part (A:List Sq) (q:Sq) (j:Nat):List Pr:=(A.filter fun r=>liesB (decide (j=1)) false q r.x r.y r.w).map fun r=>(q.z,r.z)
theorem part_len (A:List Sq) (q:Sq) (j:Nat):(part A q j).length≤A.length:=by
  unfold part
  rw [List.length_map]
  exact List.length_filter_le _ _
theorem part_two (A:List Sq) (q:Sq):(List.range 2).flatMap (part A q)=toldOf A q:=by
  rw [show List.range 2=[0,1] from rfl]
  show part A q 0++(part A q 1++[])=_
  rw [List.append_nil]
  rfl
theorem part_succ (A:List Sq) (q:Sq) (j:Nat):(List.range (j + 1)).flatMap (part A q)=(List.range j).flatMap (part A q)++part A q j:=by
  rw [List.range_succ,List.flatMap_append]
  simp
theorem side_rd {j:Nat} {x:V} (h:[V.str "right",V.str "down"][j]? = some x):j < 2∧∃ (side s1 s2:Str) (dx dy:Int),x=.str side∧Dir side s1 s2 dx dy∧dig s2=nearOf (decide (j=1)) false∧dx=(if decide (j=1) then 0 else if false then -1 else 1)∧dy=(if decide (j=1) then (if false then -1 else 1) else 0):=by
  rcases j with _ | _ | j
  · exact ⟨by decide,"right",_,_,_,_,(Option.some.inj h).symm,.inr (.inl ⟨rfl,rfl,rfl,rfl,rfl⟩),by decide +kernel,rfl,rfl⟩
  · exact ⟨by decide,"down",_,_,_,_,(Option.some.inj h).symm,.inr (.inr (.inl ⟨rfl,rfl,rfl,rfl,rfl⟩)),by decide +kernel,rfl,rfl⟩
  · exact absurd h (by simp)
theorem log_small4:∀ n:Nat,n < 4→((n:Int)).natAbs.log2 < 1920:=by decide +kernel
section
variable {P:Program} {w:World} {K:PySem.W.Frag} {mg:Str→Option Value} {base:Heap} {CX:CXT} {f:Addr} {fd:FuncData}
abbrev s_leaves_below:Stmt:=top 17
theorem sc_leaves_below:FnScope ["tree","code","row","quarter"] ["tree","code"] (defScope s_leaves_below):=⟨rfl,rfl,rfl,by decide +kernel,rfl,by decide +kernel,by decide +kernel⟩
def sp_leaves_below (m:Nat):Sp:=fun vs H Q _=>∃ (v:V) (t:Tr) (z:Str) (k n:Nat),vs=[v,.str z]∧TrAt H v t∧Good k t∧IsC z∧z.length + k≤n∧n≤40∧k < m∧m≤41∧cnt t≤4000∧∀ l us H',Same H H'→H l=none→H' l=some (.lst us)→PasAt H' n us (lvs (dig z) t)→Q (.ref l) H'
theorem ok_leaves_below (T:Tx K mg) (q:Quiet CX) (F:FunD K "leaves_below" "leaves_below" s_leaves_below f fd .none) (b:Binds K fd ["tree","code"] []) (m:mg "leaves_below" = some (.ref f)) :
    ∀ n,FnOk P w K mg base CX (1 + n) f fd ["tree","code"] (sp_leaves_below n)
  | 0=>by
    refine F.ok sc_leaves_below (fun vs H Q E h => ?_) (fun cdv A outer s H vs Q E hr h => ?_)
    · obtain ⟨_,_,_,_,_,rfl,_⟩:=h
      rfl
    obtain ⟨_,_,_,_,_,_,_,_,_,_,_,h,_⟩:=h
    exact absurd h (Nat.not_lt_zero _)
  | m' + 1=>by
    have C_leaves_below:Fok P w K mg base CX (1 + m') "leaves_below" ["tree","code"] [] (sp_leaves_below m'):=fok F (ok_leaves_below T q F b m m') b m
    refine F.ok sc_leaves_below (fun vs H Q E h => ?_) (fun cdv A outer s H vs Q E hr h => ?_)
    · obtain ⟨_,_,_,_,_,rfl,_⟩:=h
      rfl
    obtain ⟨v,t,z,k,n,rfl,ht,gt,hz,hl,hn,hk,hm,hc,q'⟩:=h
    refine ⟨_,(pss_cons (ps_if (pt_not (pt_val (pe_callB (call_isiT "tuple") rfl T.b_isinstance bb_isinstance (pa_cons (pv 0) (pa_cons (pe_bty T.b_tuple bt_tuple) pa_nil))))) (pss_one (ps_ret (pe_lstx (pax_c (pe_tupx (pax_c (pv 1) (pax_c (pv 0) pax_nil))) pax_nil)))) pss_nil) (pss_cons (ps_set (i:=2) sc_leaves_below.nd rfl (Or.inl rfl) (pe_lstx pax_nil)) (pss_cons (ps_for PassesOwn.never rfl (pi_range1 rfl T.b_range (pa_cons pe_int pa_nil)) (pg_name (i:=3) sc_leaves_below.nd rfl (Or.inl rfl)) (pss_one (ps_expr (pe_bm PySem.F.plainAttrs_list PySem.F.slot_list_extend PySem.F.type_list_extend mt_extend (pv 2) (pa_cons (pe_callF C_leaves_below q hr (pa_cons (pe_ix ix_tup (pv 0) (pv 3) (fun _ _=>rfl)) (pa_cons (pe_op op_add_str (pv 1) (pe_callTy call_str_int rfl T.b_str bt_str (pa_cons (pv 3) pa_nil))) pa_nil)) (hj:=by first | decide | omega | (simp only [Nat.add_eq]; omega))) pa_nil))))) (pss_one (ps_ret (pv 2)))))),?_⟩
    cases ht with
    | col i =>
      have g':0≤i∧i≤35:=by cases k <;> exact gt
      refine ⟨_,rfl,_,_,_,rfl,.int _,kit_it,_,rfl,iteT ?_⟩
      refine ⟨_,rfl,_,rfl,(by show 2≤sizeLine; decide),fun p hp => ?_⟩
      have s1:=Same.new hp (.tup [.str z,.int i])
      have u1:upd H p (.tup [.str z,.int i]) p=some (.tup [.str z,.int i]):=upd_same
      generalize upd H p (.tup [.str z,.int i])=H1 at *
      refine ⟨(by show 1≤sizeLine; decide),fun l hl1 => ?_⟩
      have s2:=Same.new hl1 (.lst [.ref p])
      exact q' l _ _ (s1.trans s2) (Same.free s1 hl1) upd_same (.cons ⟨p,z,rfl,s2 _ _ u1,hz,rfl,by omega,g'⟩ .nil)
    | @four p xa xb xc xd ta tb tc td e ja jb jc jd =>
      rcases k with _ | k
      · exact gt.elim
      obtain ⟨ga,gb,gc,gd,ho⟩:=gt
      have hc':cnt ta + cnt tb + cnt tc + cnt td≤4000:=hc
      refine ⟨_,rfl,_,_,_,rfl,.tup e,kit_tt,_,rfl,iteF ?_⟩
      refine ⟨(by show 0≤sizeLine; decide),fun l hl1 => ?_⟩
      have s1:=Same.new hl1 (.lst [])
      have u1:upd H l (.lst []) l=some (.lst []):=upd_same
      generalize upd H l (.lst [])=H1 at *
      obtain ⟨ps,eps⟩:∃ ps:List (List (List Nat × Int)),ps=[lvs (dig z++[0]) ta,lvs (dig z++[1]) tb,lvs (dig z++[2]) tc,lvs (dig z++[3]) td]:=⟨_,rfl⟩
      have lps:ps.length=4:=by rw [eps]; rfl
      have tot:ps.flatten.length≤4000:=by
        rw [eps]
        simp only [List.flatten_cons,List.flatten_nil,List.append_nil,List.length_append,lvs_count]
        omega
      refine ⟨4,rfl,by decide,by decide,for_range (fun j σ H2=>Same H H2∧∃ (us:List V) (o3:Option V),H2 l=some (.lst us)∧j≤4∧PasAt H2 n us (ps.take j).flatten∧σ=[some (.ref p),some (.str z),some (.ref l),o3]) ⟨s1,[],none,u1,by decide,.nil,rfl⟩ ?_ ?_⟩
      · rintro j σ H2 hj ⟨s2,us,o3,u2,hj4,hus,rfl⟩
        have hj4:j < 4:=hj
        rw [show (0:Int) + (j:Int)=(j:Int) from Int.zero_add _]
        have key:∃ x t',atI [xa,xb,xc,xd] (j:Int)=some x∧TrAt H x t'∧Good k t'∧cnt t'≤4000∧ps[j]? = some (lvs (dig z++[j]) t'):=by
          rw [eps]
          rcases j with _ | _ | _ | _ | j
          · exact ⟨xa,ta,rfl,ja,ga,by omega,rfl⟩
          · exact ⟨xb,tb,rfl,jb,gb,by omega,rfl⟩
          · exact ⟨xc,tc,rfl,jc,gc,by omega,rfl⟩
          · exact ⟨xd,td,rfl,jd,gd,by omega,rfl⟩
          · omega
        obtain ⟨x,t',k1,k2,k3,k4,k5⟩:=key
        have l1:(one j).length=1:=rfl
        refine ⟨_,rfl,.inl ⟨rfl,_,SqL.of u2⟩,_,rfl,_,rfl,p,_,_,x,rfl,rfl,SqT.of (s2 _ _ e),k1,_,rfl,_,rfl,(j:Int),rfl,log_small4 j hj4,?_⟩
        rw [str_one hj4]
        refine ⟨_,_,rfl,rfl,(by rw [l1]; exact small (by omega)),x,t',z++one j,k,n,rfl,k2.up s2.tups,k3,IsC.app hz (IsC.one hj4),by rw [app_len,l1]; omega,hn,by omega,by omega,k4,fun l2 us2 H3 s3 hl2 u3 hus2 => ?_⟩
        rw [dig_app,dig_one] at hus2
        have u2':=s3 _ _ u2
        have et:(ps.take (j + 1)).flatten=(ps.take j).flatten++lvs (dig z++[j]) t':=by rw [List.take_add_one,k5,List.flatten_append]; simp
        have n1:=hus.len
        have n2:=hus2.len
        have n3:(ps.take j).flatten.length≤ps.flatten.length:=by
          conv=>rhs; rw [← List.take_append_drop j ps,List.flatten_append,List.length_append]
          omega
        have n4:=lvs_count t' (dig z++[j])
        have tl:=Tups.lst (ys:=us++us2) u2'
        refine ⟨l,l2,us,us2,rfl,rfl,u2',u3,big (by omega),Same.set (s2.trans s3) hl1 _,us++us2,_,upd_same,hj4,?_,rfl⟩
        rw [et]
        exact (hus.up (s3.tups.trans tl)).app (hus2.up tl)
      · rintro σ H2 ⟨s2,us,o3,u2,hj4,hus,rfl⟩
        have e4:(ps.take 4).flatten=lvs (dig z) (.four ta tb tc td):=by
          rw [List.take_of_length_le (by omega),eps]
          simp [lvs]
        have hus':PasAt H2 n us (ps.take 4).flatten:=hus
        rw [e4] at hus'
        exact ⟨_,rfl,q' l us H2 s2 hl1 u2 hus'⟩
abbrev s_leaves:Stmt:=top 18
theorem sc_leaves:FnScope ["sheet"] ["sheet"] (defScope s_leaves):=⟨rfl,rfl,rfl,by decide +kernel,rfl,by decide +kernel,by decide +kernel⟩
def sp_leaves:Sp:=fun vs H Q _=>∃ (v:V) (t:Tr) (n:Nat),vs=[v]∧ShAt H v n t∧Good n t∧n≤40∧cnt t≤4000∧∀ l us H',Same H H'→H l=none→H' l=some (.lst us)→PasAt H' n us (lvs [] t)→Q (.ref l) H'
theorem ok_leaves (T:Tx K mg) (q:Quiet CX) (F:FunD K "leaves" "leaves" s_leaves f fd .none) (C_leaves_below:Fok P w K mg base CX 42 "leaves_below" ["tree","code"] [] (sp_leaves_below 41)):FnOk P w K mg base CX 43 f fd ["sheet"] sp_leaves:=by
  refine F.ok sc_leaves (fun vs H Q E h => ?_) (fun cdv A outer s H vs Q E hr h => ?_)
  · obtain ⟨_,_,_,rfl,_⟩:=h
    rfl
  obtain ⟨v,t,n,rfl,⟨p,x,rfl,hp,hx⟩,gt,hn,hc,q'⟩:=h
  refine ⟨_,(pss_one (ps_ret (pe_callF C_leaves_below q hr (pa_cons (pe_ix ix_tup (pv 0) pe_int (fun _ _=>rfl)) (pa_cons pe_str pa_nil))))),?_⟩
  refine ⟨_,rfl,p,_,_,_,rfl,rfl,SqT.of hp,rfl,x,t,("" : Str),n,n,rfl,hx,gt,empty_eq▸IsC.nil,by rw [show ("" : Str).length=0 by decide +kernel]; omega,hn,by omega,by decide,hc,fun l us H' s' hl u' hus => ?_⟩
  rw [(show dig ("" : Str)=[] by decide +kernel)] at hus
  exact q' l us H' s' hl u' hus

abbrev s_touches:Stmt:=top 24
theorem sc_touches:FnScope ["sheet","told","code","colour","side"] ["sheet"] (defScope s_touches):=⟨rfl,rfl,rfl,by decide +kernel,rfl,by decide +kernel,by decide +kernel⟩
def sp_touches:Sp:=fun vs H Q _=>∃ (ps:Addr) (n:Nat) (v:V) (t:Tr),vs=[.ref ps]∧H ps=some (.tup [.int (n:Int),v])∧TrAt H v t∧Good n t∧n≤40∧cnt t≤1500∧∀ l us H',Same H H'→H l=none→H' l=some (.lst us)→PrsAt H' us (dueP (sqs [] t 0 0 n))→Q (.ref l) H'
theorem ok_touches (T:Tx K mg) (Y:Yx K mg) (q:Quiet (CXe P w)) (F:FunD K "touches" "touches" s_touches f fd .none) (C_leaves:Fok P w K mg base (CXe P w) 43 "leaves" ["sheet"] [] sp_leaves) (C_beyond_leaf:Fok P w K mg base (CXe P w) 43 "beyond_leaf" ["sheet","code","side"] [] (sp_beyond_leaf Y)) :
    FnOk P w K mg base (CXe P w) 44 f fd ["sheet"] sp_touches:=by
  refine F.ok sc_touches (fun vs H Q E h => ?_) (fun cdv A outer s H vs Q E hr h => ?_)
  · obtain ⟨_,_,_,_,rfl,_⟩:=h
    rfl
  obtain ⟨ps,n,v,t,rfl,hps,ht,gt,hn,hc,q'⟩:=h
  refine ⟨_,(pss_cons (ps_set (i:=1) sc_touches.nd rfl (Or.inl rfl) (pe_lstx pax_nil)) (pss_cons (ps_for PassesOwn.never rfl (pi_list (pe_callF C_leaves q hr (pa_cons (pv 0) pa_nil))) (pg_tup rfl (pgs_cons (pg_name (i:=2) sc_touches.nd rfl (Or.inr rfl)) (pgs_cons (pg_name (i:=3) sc_touches.nd rfl (Or.inl rfl)) pgs_nil))) (pss_one (ps_for PassesOwn.never rfl (pi_tup (pe_tupx (pax_c pe_str (pax_c pe_str pax_nil)))) (pg_name (i:=4) sc_touches.nd rfl (Or.inl rfl)) (pss_one (ps_expr (pe_bm PySem.F.plainAttrs_list PySem.F.slot_list_extend PySem.F.type_list_extend mt_extend (pv 1) (pa_cons (pe_compC (N':=["other","code"]) ["code"] ["code"] [2] 1 (by with_unfolding_all rfl) rfl (capsOk_cons rfl rfl (by decide) capsOk_nil) rfl rfl (by decide) rfl (by decide +kernel) rfl (by decide +kernel) rfl (pi_list (pe_callF C_beyond_leaf q hr (pa_cons (pv 0) (pa_cons (pv 2) (pa_cons (pv 4) pa_nil))))) (fun C s0 H0 fp pins=>(pg_name (i:=0) (show (["other","code"]:List Str).Nodup by decide +kernel) rfl (Or.inl rfl) (Or.inr rfl))) (fun C s0 H0 fp pins=>(pe_tupx (pax_c (pv 1) (pax_c (pv 0) pax_nil))))) pa_nil))))))) (pss_one (ps_ret (pe_callB (call_sortP rfl) rfl T.b_sorted bt_sorted (pa_cons (pv 1) pa_nil)))))),?_⟩
  refine ⟨(by show 0≤sizeLine; decide),fun lt hlt => ?_⟩
  have s1:=Same.new hlt (.lst [])
  have u1:upd H lt (.lst []) lt=some (.lst []):=upd_same
  generalize upd H lt (.lst [])=H1 at *
  refine ⟨_,rfl,.ref ps,t,n,rfl,⟨ps,v,rfl,s1 _ _ hps,ht.up s1.tups⟩,gt,hn,by omega,fun l us H2 s2 hl u2 hus => ?_⟩
  have ll:=hus.len
  have hld:l≠lt:=fun z=>by rw [z,u1] at hl; cases hl
  obtain ⟨L,eL⟩:∃ L,L=sqs [] t 0 0 n:=⟨_,rfl⟩
  have lc:L.length=cnt t:=by rw [eL]; exact sqs_len t [] 0 0 n
  have eS:lvs [] t=L.map fun q=>(q.z,q.c):=by rw [eL]; exact lvs_sqs t [] 0 0 n
  rw [← eL] at q'
  rw [eS] at hus ll
  rw [List.length_map] at ll
  refine ⟨l,rfl,⟨_,SqL.of u2⟩,for_list (xs:=us) (fun i σ H3=>Same H H3∧(∀ b o,b≠lt→H2 b=some o→H3 b=some o)∧(∃ ts,H3 lt=some (.lst ts)∧PrsAt H3 ts ((L.take i).flatMap (toldOf L))∧ts.length≤i * 3000∧i≤us.length)∧∃ o2 o3 o4:Option V,σ=[some (.ref ps),some (.ref lt),o2,o3,o4]) ⟨s1.trans s2,fun _ _ _ e=>e,⟨[],s2 _ _ u1,.nil,by simp,Nat.zero_le _⟩,none,none,none,rfl⟩ (fun i σ H3 _ h=>SqL.of (h.2.1 _ _ hld u2)) ?_ ?_⟩
  · rintro i u σ H3 hu ⟨s3,k3,⟨ts,ut,hts,tl,hi⟩,o2,o3,o4,rfl⟩
    obtain ⟨hiu,_⟩:=List.getElem?_eq_some_iff.mp hu
    obtain ⟨pq,eq,r,z,rfl,hr',hz,ez,lz,hcc⟩:=hus.get hu
    rw [List.getElem?_map] at eq
    obtain ⟨sq,esq,epq⟩:=Option.map_eq_some_iff.mp eq
    have ok1:SqOk sq [] t 0 0 n:=sqs_ok t [] 0 0 n gt sq (by rw [← eL]; exact List.mem_of_getElem? esq)
    have hrd:r≠lt:=fun q=>by rw [q,s2 _ _ u1] at hr'; cases hr'
    have esz:dig z=sq.z:=by rw [ez,← epq]
    have ezt:txt sq.z=z:=by rw [← esz,txt_dig hz]
    have eT:(L.take (i + 1)).flatMap (toldOf L)=(L.take i).flatMap (toldOf L)++toldOf L sq:=by
      rw [List.take_add_one,esq,List.flatMap_append]
      simp
    refine ⟨r,_,rfl,SqT.of (k3 _ _ hrd hr'),rfl,_,_,rfl,_,_,rfl,rfl,?_⟩
    refine ⟨(by show 2≤sizeLine; decide),fun pt hpt => ?_⟩
    generalize e4:upd H3 pt _=H4
    have s4:Same H3 H4:=e4▸Same.new hpt _
    have w4:H4 pt=some (.tup [.str "right",.str "down"]):=by rw [← e4]; exact upd_same
    have hptd:pt≠lt:=fun q=>by rw [q,ut] at hpt; cases hpt
    refine ⟨pt,rfl,⟨_,SqT.of w4⟩,for_tup (xs:=[.str "right",.str "down"]) (fun j σ H5=>Same H H5∧(∀ b o,b≠lt→H4 b=some o→H5 b=some o)∧(∃ ts,H5 lt=some (.lst ts)∧PrsAt H5 ts ((L.take i).flatMap (toldOf L)++(List.range j).flatMap (part L sq))∧ts.length≤i * 3000 + j * 1500∧j≤2)∧∃ o4:Option V,σ=[some (.ref ps),some (.ref lt),some (.str z),some (.int pq.2),o4]) ⟨s3.trans s4,fun _ _ _ e=>e,⟨ts,s4 _ _ ut,by rw [show (List.range 0).flatMap (part L sq)=[] from rfl,List.append_nil]; exact hts.up s4.tups,by omega,by decide⟩,_,rfl⟩ (fun j σ H5 _ h=>SqT.of (h.2.1 _ _ hptd w4)) ?_ ?_⟩
    · rintro j x σ H5 hx ⟨s5,k5,⟨ts5,ut5,hts5,tl5,hj⟩,o4,rfl⟩
      obtain ⟨hj2,side,b1,b2,dx,dy,rfl,hd,e2,ex,ey⟩:=side_rd hx
      have hps5:=s5 _ _ hps
      have ht5:=ht.up s5.tups
      refine ⟨_,rfl,.inl ⟨rfl,_,SqL.of ut5⟩,[.str z],rfl,_,rfl,_,rfl,_,rfl,ps,n,v,.str side,t,z,rfl,hps5,ht5,gt,hn,by omega,hz,by omega,ezt▸bey_of gt ok1 hd e2 ex ey fun lb H6 s6 hlb u6 => ?_⟩
      obtain ⟨zs,ezs⟩:∃ zs,zs=fl (liesB (decide (j=1)) false sq) [] t 0 0 n:=⟨_,rfl⟩
      rw [← ezs] at u6
      have ep:zs.map (fun o=>(sq.z,o))=part L sq j:=by
        rw [ezs,fl_sqs,List.map_map,← eL]
        rfl
      have lzs:zs.length≤1500:=by
        have h1:=congrArg List.length ep
        rw [List.length_map] at h1
        have h2:=part_len L sq j
        omega
      refine ⟨lb,rfl,⟨_,SqL.of u6⟩,compC_list (zs.map sV) (fun D (k:Nat) ys H'=>Same H6 H'∧H' D=some (.lst ys)∧k≤zs.length∧PrsAt H' ys ((zs.take k).map fun o=>(sq.z,o))) (by rw [List.length_map]; exact big (by omega)) (fun D k ys H' h=>SqL.of (h.1 _ _ u6))
        (fun D k ys H' h=>⟨h.2.1,by rw [h.2.2.2.len,List.length_map,List.length_take]; omega⟩) (fun D hD=>⟨Same.new hD _,upd_same,Nat.zero_le _,.nil⟩) ?_ ?_ (fun _ _ _ _ _ k h=>k _ _ h) ?_⟩
      · rintro D k y ys H7 hy hD ⟨c1,c2,c3,c4⟩
        rw [List.getElem?_map] at hy
        obtain ⟨o,eo,rfl⟩:=Option.map_eq_some_iff.mp hy
        refine ⟨rfl,_,rfl,_,rfl,(by show 2≤sizeLine; decide),fun pn hpn => ?_⟩
        generalize e8:upd H7 pn _=H8
        have s8:Same H7 H8:=e8▸Same.new hpn _
        have w8:H8 pn=some (.tup [sV sq.z,sV o]):=by rw [← e8]; exact upd_same
        have uD:=s8 _ _ c2
        have tl8:=Tups.lst (ys:=ys++[V.ref pn]) uD
        refine ⟨uD,Same.set (c1.trans s8) hD _,upd_same,(List.getElem?_eq_some_iff.mp eo).1,?_⟩
        rw [List.take_add_one,eo,List.map_append]
        exact (c4.up (s8.tups.trans tl8)).app (.cons ⟨pn,rfl,tl8 _ _ w8⟩ .nil)
      · rintro D ys H7 hD ⟨c1,c2,c3,c4⟩
        rw [List.length_map,List.take_length,ep] at c4
        have ut7:=(s6.trans c1) _ _ ut5
        have tl7:=Tups.lst (ys:=ts5++ys) ut7
        have n1:=c4.len
        have n2:=part_len L sq j
        refine ⟨lt,D,ts5,ys,rfl,rfl,ut7,c2,huge (by omega),Same.set (s5.trans (s6.trans c1)) hlt _,fun b o hb e=>by rw [upd_ne hb]; exact (s6.trans c1) _ _ (k5 b o hb e),⟨ts5++ys,upd_same,?_,by rw [List.length_append]; omega,by omega⟩,_,rfl⟩
        rw [part_succ,← List.append_assoc]
        exact (hts5.up ((s6.trans c1).tups.trans tl7)).app (c4.up tl7)
      · rintro σ H7 R R' k ⟨x1,g1,x2,g2,h3,h4⟩
        exact ⟨x1,g1,x2,g2,h3,fun p hp=>k _ _ (h4 p hp)⟩
    · rintro σ H5 ⟨s5,k5,⟨ts5,ut5,hts5,tl5,hj⟩,o4,rfl⟩
      have hts5':PrsAt H5 ts5 ((L.take i).flatMap (toldOf L)++(List.range 2).flatMap (part L sq)):=hts5
      rw [part_two,← eT] at hts5'
      have tl5':ts5.length≤i * 3000 + 2 * 1500:=tl5
      exact ⟨s5,fun b o hb e=>k5 b o hb (s4 _ _ (k3 b o hb e)),⟨ts5,ut5,hts5',by omega,by omega⟩,_,_,_,rfl⟩
  · rintro σ H3 ⟨s3,k3,⟨ts,ut,hts,tl,hi⟩,o2,o3,o4,rfl⟩
    rw [List.take_of_length_le (by omega)] at hts
    obtain ⟨as,e1,e2,e3⟩:=prs_back hts
    subst e1
    have hPr:Prs H3 true as:=fun b hb=>by
      obtain ⟨d,hd⟩:=e3 b hb
      exact ⟨_,_,hd,_,rfl⟩
    refine ⟨_,rfl,lt,true,as,rfl,SqL.of ut,hPr,fun S as' hS pm pw => ?_⟩
    have tS:=(Same.new hS (.lst (as'.map V.ref))).tups
    have bf:L.Pairwise Bef:=eL▸sqs_bef t [] 0 0 n gt
    have hw:∀ q∈L,0 < q.w:=fun q hq=>(sqs_in t [] 0 0 n gt q (eL▸hq)).2.2.2.2
    have tp:=told_perm L [] bf hw
    exact q' S _ _ (s3.trans (Same.new hS _)) (Same.free s3 hS) upd_same ((sorted_due e2 e3 pm pw tp (dueP_asc bf)).up tS)
end
end Qs


namespace Qs
open PySem L2

def olap (T W t w:Nat):Nat:=min (T + W) (t + w) - max T t
theorem olap_two (T W t h:Nat):olap T W t h + olap T W (t + h) h=olap T W t (2 * h):=by
  unfold olap
  omega

def reach1 (ax:Bool) (N T W x y w:Nat):Nat:=if nC ax x y≤N∧N < nC ax x y + w then olap T W (tC' ax x y) w else 0
theorem reach4 (ax:Bool) (N T W x y h:Nat):reach1 ax N T W x y h + (reach1 ax N T W (x + h) y h + (reach1 ax N T W x (y + h) h + reach1 ax N T W (x + h) (y + h) h))=reach1 ax N T W x y (2 * h):=by
  have e1:=olap_two T W x h
  have e2:=olap_two T W y h
  unfold reach1
  cases ax <;> simp only [nC,tC',if_true,if_false,Bool.false_eq_true] <;> repeat' split
  all_goals omega
theorem reach_sum {ax:Bool} {N T W:Nat}:∀ (u:Tr) (p:List Nat) (x y k:Nat),Good k u→((sqs p u x y k).map fun q=>reach1 ax N T W q.x q.y q.w).sum=reach1 ax N T W x y (2 ^ k)
  | .col c,p,x,y,k,_=>by
    show ([reach1 ax N T W x y (2 ^ k)]:List Nat).sum=_
    simp
  | .four a b c d,p,x,y,0,g=>g.elim
  | .four a b c d,p,x,y,k + 1,⟨ga,gb,gc,gd,_⟩=>by
    show ((sqs (p++[0]) a x y k++(sqs (p++[1]) b (x + 2 ^ k) y k++(sqs (p++[2]) c x (y + 2 ^ k) k++sqs (p++[3]) d (x + 2 ^ k) (y + 2 ^ k) k))).map fun q=>reach1 ax N T W q.x q.y q.w).sum=_
    rw [List.map_append,List.map_append,List.map_append,List.sum_append,List.sum_append,List.sum_append,reach_sum a _ _ _ _ ga,reach_sum b _ _ _ _ gb,reach_sum c _ _ _ _ gc,reach_sum d _ _ _ _ gd,reach4,Nat.pow_succ,Nat.mul_comm]
theorem sum_filter {α:Type} (P:α→Bool) (g:α→Nat):∀ L:List α,((L.filter P).map g).sum=(L.map fun r=>if P r=true then g r else 0).sum
  | []=>rfl
  | a::L=>by
    rw [List.filter_cons,List.map_cons,List.sum_cons,← sum_filter P g L]
    cases h:P a <;> simp

def Apart (q r:Sq):Prop:=Sep q r∨Sep r q
theorem lies_reach {ax s:Bool} {q r:Sq} (hq:0 < q.w) (hr:0 < r.w) (ha:Apart q r) (h0:s=true→0 < nC ax q.x q.y):(if liesB ax s q r.x r.y r.w=true then olap (tC' ax q.x q.y) q.w (tC' ax r.x r.y) r.w else 0)=reach1 ax (if s then nC ax q.x q.y - 1 else nC ax q.x q.y + q.w) (tC' ax q.x q.y) q.w r.x r.y r.w:=by
  unfold Apart Sep at ha
  unfold reach1 olap liesB LiesP
  cases ax <;> cases s <;> simp only [nC,tC',if_true,if_false,Bool.false_eq_true,decide_eq_true_eq,forall_const,false_imp_iff] at h0 ⊢ <;> repeat' split
  all_goals omega
theorem lies_self {ax s:Bool} {q:Sq} (hq:0 < q.w):liesB ax s q q.x q.y q.w=false:=by
  unfold liesB LiesP
  cases ax <;> cases s <;> simp only [nC,tC',if_true,if_false,Bool.false_eq_true,decide_eq_false_iff_not] <;> omega

def endB (ax s:Bool) (n:Nat) (q:Sq):Bool:=if s then decide (nC ax q.x q.y=0) else decide (nC ax q.x q.y + q.w=2 ^ n)
theorem apart_of {L:List Sq} (h:L.Pairwise Bef):∀ {q r:Sq},q∈L→r∈L→q=r∨Apart q r:=by
  induction L with
  | nil=>intro q r hq; cases hq
  | cons p L ih =>
    obtain ⟨h1,h2⟩:=List.pairwise_cons.mp h
    intro q r hq hr
    rcases List.mem_cons.mp hq with eq | hq
    · rcases List.mem_cons.mp hr with er | hr
      · exact .inl (eq.trans er.symm)
      · exact .inr (.inl (eq▸(h1 r hr).1))
    · rcases List.mem_cons.mp hr with er | hr
      · exact .inr (.inr (er▸(h1 q hq).1))
      · exact ih h2 hq hr
theorem along_side {ax s:Bool} {n:Nat} {t:Tr} (gt:Good n t) {q:Sq} (hq:q∈sqs [] t 0 0 n):(((sqs [] t 0 0 n).filter fun r=>liesB ax s q r.x r.y r.w).map fun r=>olap (tC' ax q.x q.y) q.w (tC' ax r.x r.y) r.w).sum=if endB ax s n q=true then 0 else q.w:=by
  have hB:=sqs_bef t [] 0 0 n gt
  have hin:=sqs_in t [] 0 0 n gt
  obtain ⟨i1,i2,i3,i4,i5⟩:=hin q hq
  by_cases h0:s=true∧nC ax q.x q.y=0
  · have e1:endB ax s n q=true:=by
      unfold endB
      rw [if_pos h0.1,decide_eq_true h0.2]
    rw [if_pos e1,List.filter_eq_nil_iff.mpr fun r hr c => ?_]
    · rfl
    · have hr':=(hin r hr).2.2.2.2
      have c':LiesP ax s (nC ax q.x q.y) (tC' ax q.x q.y) q.w r.x r.y r.w:=of_decide_eq_true c
      have c1:=c'.1
      rw [if_pos h0.1,h0.2] at c1
      omega
  · rw [sum_filter,show ((sqs [] t 0 0 n).map fun r=>if liesB ax s q r.x r.y r.w=true then olap (tC' ax q.x q.y) q.w (tC' ax r.x r.y) r.w else 0)=(sqs [] t 0 0 n).map fun r=>reach1 ax (if s then nC ax q.x q.y - 1 else nC ax q.x q.y + q.w) (tC' ax q.x q.y) q.w r.x r.y r.w from List.map_congr_left fun r hr => ?_,reach_sum t [] 0 0 n gt]
    · unfold reach1 endB olap
      cases ax <;> cases s <;> simp only [nC,tC',if_true,if_false,Bool.false_eq_true,decide_eq_true_eq,true_and,false_and,not_false_eq_true] at h0 ⊢ <;> repeat' split
      all_goals omega
    · rcases apart_of hB hq hr with e | ha
      · subst e
        rw [lies_self i5,if_neg Bool.false_ne_true]
        unfold reach1
        cases s
        · simp only [if_false,Bool.false_eq_true]
          rw [if_neg (by omega)]
        · simp only [true_and] at h0
          simp only [if_true]
          rw [if_neg (by omega)]
      · exact lies_reach i5 (hin r hr).2.2.2.2 ha fun e=>by
          have:¬ nC ax q.x q.y=0:=fun c=>h0 ⟨e,c⟩
          omega

def sideS (q r:Sq):Str:=if over q.x q.w r.x r.w > 0∧over q.y q.w r.y r.w=0 then (if r.y > q.y then "down" else "up") else if over q.x q.w r.x r.w=0∧over q.y q.w r.y r.w > 0 then (if r.x > q.x then "right" else "left") else ""
def lenS (q r:Sq):Int:=if over q.x q.w r.x r.w > 0∧over q.y q.w r.y r.w=0 then over q.x q.w r.x r.w else if over q.x q.w r.x r.w=0∧over q.y q.w r.y r.w > 0 then over q.y q.w r.y r.w else 0
theorem side_apart:("down" : Str) ≠ "up" ∧ ("down" : Str) ≠ "left" ∧ ("down" : Str) ≠ "right" ∧ ("up" : Str) ≠ "left" ∧ ("up" : Str) ≠ "right" ∧ ("left" : Str) ≠ "right" ∧ ("" : Str) ≠ "up" ∧ ("" : Str) ≠ "down" ∧ ("" : Str) ≠ "left" ∧ ("" : Str) ≠ "right" := by decide +kernel
theorem side_lies {q r:Sq} (hq:0 < q.w) (hr:0 < r.w) (ha:Apart q r) {sd:Str} {ax s:Bool} (hd:DirA sd ax s):sideS q r=sd↔liesB ax s q r.x r.y r.w=true:=by
  obtain ⟨n1,n2,n3,n4,n5,n6,n7,n8,n9,n10⟩:=side_apart
  unfold Apart Sep at ha
  unfold sideS liesB LiesP over mn mx
  rcases hd with ⟨rfl,rfl,rfl⟩ | ⟨rfl,rfl,rfl⟩ | ⟨rfl,rfl,rfl⟩ | ⟨rfl,rfl,rfl⟩ <;> simp only [nC,tC',if_true,if_false,Bool.false_eq_true,decide_eq_true_eq] <;> repeat' split
  all_goals (simp only [n1,n2,n3,n4,n5,n6,n7,n8,n9,n10,Ne.symm n1,Ne.symm n2,Ne.symm n3,Ne.symm n4,Ne.symm n5,Ne.symm n6,false_iff,true_iff]; omega)
theorem len_olap {q r:Sq} (hq:0 < q.w) (hr:0 < r.w) (ha:Apart q r) {ax s:Bool} (h:liesB ax s q r.x r.y r.w=true):lenS q r=(olap (tC' ax q.x q.y) q.w (tC' ax r.x r.y) r.w:Int):=by
  have h':LiesP ax s (nC ax q.x q.y) (tC' ax q.x q.y) q.w r.x r.y r.w:=of_decide_eq_true h
  unfold Apart Sep at ha
  unfold LiesP at h'
  unfold lenS over mn mx olap
  cases ax <;> cases s <;> simp only [nC,tC',if_true,if_false,Bool.false_eq_true] at h' ⊢ <;> repeat' split
  all_goals omega
theorem side_of_touch {q r:Sq} (h:touchB q r=true):∃ sd ax s,DirA sd ax s∧sideS q r=sd:=by
  rw [touchB_iff] at h
  unfold sideS
  generalize over q.x q.w r.x r.w=X at *
  generalize over q.y q.w r.y r.w=Y at *
  by_cases c1:X > 0∧Y=0
  · rw [if_pos c1]
    split
    · exact ⟨_,true,false,.inr (.inr (.inl ⟨rfl,rfl,rfl⟩)),rfl⟩
    · exact ⟨_,true,true,.inl ⟨rfl,rfl,rfl⟩,rfl⟩
  · rw [if_neg c1,if_pos (by omega)]
    split
    · exact ⟨_,false,false,.inr (.inl ⟨rfl,rfl,rfl⟩),rfl⟩
    · exact ⟨_,false,true,.inr (.inr (.inr ⟨rfl,rfl,rfl⟩)),rfl⟩
theorem touch_of_lies {q r:Sq} (hq:0 < q.w) (hr:0 < r.w) {ax s:Bool} (h:liesB ax s q r.x r.y r.w=true):touchB q r=true:=by
  have h':LiesP ax s (nC ax q.x q.y) (tC' ax q.x q.y) q.w r.x r.y r.w:=of_decide_eq_true h
  unfold LiesP at h'
  rw [touchB_iff]
  unfold over mn mx
  cases ax <;> cases s <;> simp only [nC,tC',if_true,if_false,Bool.false_eq_true] at h' ⊢ <;> repeat' split
  all_goals omega
theorem touch_sym (q r:Sq):touchB q r=touchB r q:=by
  rw [Bool.eq_iff_iff,touchB_iff,touchB_iff]
  unfold over
  rw [mn_min,mn_min,mn_min,mn_min,mx_max,mx_max,mx_max,mx_max]
  omega

def duePS:List Sq→List (Sq × Sq)
  | []=>[]
  | q::L=>((L.filter fun r=>touchB q r).map fun r=>(q,r))++duePS L
theorem duePS_z:∀ L:List Sq,(duePS L).map (fun p=>(p.1.z,p.2.z))=dueP L
  | []=>rfl
  | q::L=>by
    show (((L.filter fun r=>touchB q r).map fun r=>(q,r))++duePS L).map _=((L.filter fun r=>touchB q r).map fun r=>(q.z,r.z))++dueP L
    rw [List.map_append,duePS_z L,List.map_map]
    rfl
theorem duePS_mem:∀ {L:List Sq} {p:Sq × Sq},L.Pairwise Bef→p∈duePS L→p.1∈L∧p.2∈L∧touchB p.1 p.2=true∧Bef p.1 p.2
  | [],p,_,h=>by cases h
  | q::L,p,hB,h=>by
    obtain ⟨h1,h2⟩:=List.pairwise_cons.mp hB
    rcases List.mem_append.mp h with h | h
    · obtain ⟨r,hr,rfl⟩:=List.mem_map.mp h
      obtain ⟨k1,k2⟩:=List.mem_filter.mp hr
      exact ⟨List.mem_cons_self,List.mem_cons_of_mem _ k1,k2,h1 r k1⟩
    · obtain ⟨k1,k2,k3,k4⟩:=duePS_mem h2 h
      exact ⟨List.mem_cons_of_mem _ k1,List.mem_cons_of_mem _ k2,k3,k4⟩
def ent2 (z:List Nat) (sd:Str) (p:Sq × Sq):List (List Nat × Int):=(if p.1.z=z∧sideS p.1 p.2=sd then [(p.2.z,lenS p.1 p.2)] else [])++(if p.2.z=z∧sideS p.2 p.1=sd then [(p.1.z,lenS p.2 p.1)] else [])
def nrE (D:List (Sq × Sq)) (z:List Nat) (sd:Str):List (List Nat × Int):=D.flatMap (ent2 z sd)
theorem bef_z {q r:Sq} (h:Bef q r):q.z≠r.z:=fun e=>by
  have:=h.2
  rw [e] at this
  exact List.lt_irrefl _ this
theorem flatMap_nil' {α β:Type} {f:α→List β}:∀ {l:List α},(∀ x∈l,f x=[])→l.flatMap f=[]
  | [],_=>rfl
  | x::l,h=>by
    rw [List.flatMap_cons,h x List.mem_cons_self,flatMap_nil' fun y hy=>h y (List.mem_cons_of_mem _ hy)]
    rfl
theorem flatMap_one {α β:Type} {f:α→List β}:∀ {l:List α} {a:α},l.Nodup→a∈l→(∀ x∈l,x≠a→f x=[])→l.flatMap f=f a
  | [],_,_,h,_=>by cases h
  | x::l,a,nd,h,k=>by
    obtain ⟨n1,n2⟩:=List.nodup_cons.mp nd
    rw [List.flatMap_cons]
    rcases List.mem_cons.mp h with e | h
    · subst e
      rw [flatMap_nil' fun y hy=>k y (List.mem_cons_of_mem _ hy) fun e=>n1 (e▸hy),List.append_nil]
    · rw [k x List.mem_cons_self fun e=>n1 (e▸h),List.nil_append]
      exact flatMap_one n2 h fun y hy=>k y (List.mem_cons_of_mem _ hy)
theorem flatMap_congr' {α β:Type} {f g:α→List β}:∀ {l:List α},(∀ x∈l,f x=g x)→l.flatMap f=l.flatMap g
  | [],_=>rfl
  | x::l,h=>by rw [List.flatMap_cons,List.flatMap_cons,h x List.mem_cons_self,flatMap_congr' fun y hy=>h y (List.mem_cons_of_mem _ hy)]
theorem flatMap_filter {α β:Type} {f:α→β} (P Q:α→Bool):∀ l:List α,(∀ x∈l,Q x=true→P x=true)→((l.filter P).flatMap fun x=>if Q x=true then [f x] else [])=(l.filter Q).map f
  | [],_=>rfl
  | x::l,h=>by
    have ih:=flatMap_filter (f:=f) P Q l fun y hy=>h y (List.mem_cons_of_mem _ hy)
    cases hP:P x with
    | true =>
      rw [List.filter_cons_of_pos hP,List.flatMap_cons,ih]
      cases hQ:Q x with
      | true=>rw [List.filter_cons_of_pos hQ]; rfl
      | false=>rw [List.filter_cons_of_neg (by rw [hQ]; exact Bool.false_ne_true)]; rfl
    | false =>
      have hQ:¬ Q x=true:=fun c=>by rw [h x List.mem_cons_self c] at hP; cases hP
      rw [List.filter_cons_of_neg (by rw [hP]; exact Bool.false_ne_true),ih,List.filter_cons_of_neg hQ]

theorem noted {sd:Str} {ax s:Bool} (hd:DirA sd ax s):∀ {L:List Sq},L.Pairwise Bef→(∀ q∈L,0 < q.w)→∀ {q:Sq},q∈L→nrE (duePS L) q.z sd=(L.filter fun r=>liesB ax s q r.x r.y r.w).map fun r=>(r.z,lenS q r)
  | [],_,_,_,h=>by cases h
  | p::L,hB,hw,q,hq=>by
    obtain ⟨h1,h2⟩:=List.pairwise_cons.mp hB
    have wp:=hw p List.mem_cons_self
    have wL:∀ r∈L,0 < r.w:=fun r hr=>hw r (List.mem_cons_of_mem _ hr)
    show (((L.filter fun r=>touchB p r).map fun r=>(p,r))++duePS L).flatMap (ent2 q.z sd)=_
    rw [List.flatMap_append,List.flatMap_map]
    rcases List.mem_cons.mp hq with e | hq
    · subst e
      have n2:(duePS L).flatMap (ent2 q.z sd)=[]:=flatMap_nil' fun x hx=>by
        obtain ⟨k1,k2,_,_⟩:=duePS_mem h2 hx
        unfold ent2
        rw [if_neg fun c=>bef_z (h1 _ k1) c.1.symm,if_neg fun c=>bef_z (h1 _ k2) c.1.symm]
        rfl
      rw [n2,List.append_nil,List.filter_cons_of_neg (by rw [lies_self wp]; exact Bool.false_ne_true)]
      have e3:∀ r∈L.filter (fun r=>touchB q r),ent2 q.z sd (q,r)=if liesB ax s q r.x r.y r.w=true then [(r.z,lenS q r)] else []:=fun r hr=>by
        obtain ⟨k1,_⟩:=List.mem_filter.mp hr
        have ap:Apart q r:=.inl (h1 r k1).1
        unfold ent2
        rw [if_neg (c:=r.z=q.z∧_) fun c=>bef_z (h1 r k1) c.1.symm,List.append_nil]
        by_cases c:liesB ax s q r.x r.y r.w=true
        · rw [if_pos c,if_pos ⟨rfl,(side_lies wp (wL r k1) ap hd).mpr c⟩]
        · rw [if_neg c,if_neg fun k=>c ((side_lies wp (wL r k1) ap hd).mp k.2)]
      rw [flatMap_congr' e3]
      exact flatMap_filter (f:=fun r=>(r.z,lenS q r)) (fun r=>touchB q r) (fun r=>liesB ax s q r.x r.y r.w) L fun r hr c=>touch_of_lies wp (wL r hr) c
    · have ih:=noted hd h2 wL hq
      have wq:=wL q hq
      have ap:Apart q p:=.inr (h1 q hq).1
      show _++nrE (duePS L) q.z sd=_
      rw [ih]
      have zq:∀ r∈L,r≠q→r.z≠q.z:=fun r hr ne e=>by
        have go:∀ {M:List Sq},M.Pairwise Bef→r∈M→q∈M→r=q:=by
          intro M
          induction M with
          | nil=>intro _ h; cases h
          | cons a M ihM =>
            intro hM h5 h6
            obtain ⟨m1,m2⟩:=List.pairwise_cons.mp hM
            rcases List.mem_cons.mp h5 with e5 | h5
            · rcases List.mem_cons.mp h6 with e6 | h6
              · rw [e5,e6]
              · exact absurd e (by rw [e5]; exact bef_z (m1 q h6))
            · rcases List.mem_cons.mp h6 with e6 | h6
              · exact absurd e.symm (by rw [e6]; exact bef_z (m1 r h5))
              · exact ihM m2 h5 h6
        exact ne (go h2 hr hq)
      have ndL:L.Nodup:=by
        unfold List.Nodup
        exact h2.imp fun {a b} (h:Bef a b) (e:a=b)=>bef_z h (congrArg Sq.z e)
      have first:((L.filter fun r=>touchB p r).flatMap fun r=>ent2 q.z sd (p,r))=if liesB ax s q p.x p.y p.w=true then [(p.z,lenS q p)] else []:=by
        have ent:∀ r,ent2 q.z sd (p,r)=if r.z=q.z∧sideS r p=sd then [(p.z,lenS r p)] else []:=fun r=>by
          unfold ent2
          rw [if_neg (c:=p.z=q.z∧_) fun c=>bef_z (h1 q hq) c.1,List.nil_append]
        by_cases c:touchB p q=true
        · rw [flatMap_one (a:=q) (ndL.filter _) (List.mem_filter.mpr ⟨hq,c⟩) fun r hr ne=>by rw [ent,if_neg fun k=>zq r (List.mem_filter.mp hr).1 ne k.1],ent]
          by_cases c2:liesB ax s q p.x p.y p.w=true
          · rw [if_pos c2,if_pos ⟨rfl,(side_lies wq wp ap hd).mpr c2⟩]
          · rw [if_neg c2,if_neg fun k=>c2 ((side_lies wq wp ap hd).mp k.2)]
        · rw [if_neg fun c2=>c (by rw [touch_sym]; exact touch_of_lies wq wp c2),flatMap_nil' fun r hr=>by
            rw [ent,if_neg fun k=>c (by
              have e:r=q:=Classical.byContradiction fun ne=>zq r (List.mem_filter.mp hr).1 ne k.1
              rw [← e]
              exact (List.mem_filter.mp hr).2)]]
      rw [first]
      by_cases c2:liesB ax s q p.x p.y p.w=true
      · rw [if_pos c2,List.filter_cons,if_pos c2]
        rfl
      · rw [if_neg c2,List.filter_cons,if_neg c2]
        rfl
end Qs


namespace Qs
open PySem L2
theorem strOk_isC {z:Str} (h:IsC z):PyData.strOk z=true:=by
  unfold PyData.strOk
  rw [← Array.all_toList,List.all_eq_true]
  intro c hc
  have:=h c hc
  exact decide_eq_true (by omega)

theorem two_ix (b:Bool) (x y:Str):atI [V.str x,V.str y] (if b=true then 1 else 0)=some (.str (if b=true then y else x)):=by cases b <;> rfl
theorem and4 {c A R:Prop} [Decidable c] (h:A) (g:A→c→R):if c then R else if false=true then False else A:=by
  by_cases hc:c
  · rw [if_pos hc]; exact g h hc
  · rw [if_neg hc,if_neg Bool.false_ne_true]; exact h
section
variable {P:Program} {w:World} {K:PySem.W.Frag} {mg:Str→Option Value} {base:Heap} {CX:CXT} {f:Addr} {fd:FuncData}
abbrev s_law_side:Stmt:=top 35
theorem sc_law_side:FnScope ["_law_one","_law_other","_law_across","_law_down"] ["_law_one","_law_other"] (defScope s_law_side):=⟨rfl,rfl,rfl,by decide +kernel,rfl,by decide +kernel,by decide +kernel⟩
def sp_law_side:Sp:=fun vs H Q _=>∃ (u1 u2:V) (q r:Sq),vs=[u1,u2]∧SqV H u1 q∧SqV H u2 r∧∀ p H',Same H H'→H' p=some (.tup [.str (sideS q r),.int (lenS q r)])→Q (.ref p) H'
theorem ok_law_side (T:Tx K mg) (F:FunD K "_law_side" "_law_side" s_law_side f fd .none):FnOk P w K mg base CX 1 f fd ["_law_one","_law_other"] sp_law_side:=by
  refine F.ok sc_law_side (fun vs H Q E h => ?_) (fun cdv A outer s H vs Q E hr h => ?_)
  · obtain ⟨_,_,_,_,rfl,_⟩:=h
    rfl
  obtain ⟨_,_,q,r,rfl,⟨p1,rfl,h1,_⟩,⟨p2,rfl,h2,_⟩,q'⟩:=h
  refine ⟨_,(pss_cons (ps_set (i:=2) sc_law_side.nd rfl (Or.inl rfl) (pe_op op_sub (pe_callB (call_min2 rfl) rfl T.b_min bb_min (pa_cons (pe_op op_add (pe_ix ix_tup (pv 0) pe_int (fun _ _=>rfl)) (pe_ix ix_tup (pv 0) pe_int (fun _ _=>rfl))) (pa_cons (pe_op op_add (pe_ix ix_tup (pv 1) pe_int (fun _ _=>rfl)) (pe_ix ix_tup (pv 1) pe_int (fun _ _=>rfl))) pa_nil))) (pe_callB (call_max2 rfl) rfl T.b_max bb_max (pa_cons (pe_ix ix_tup (pv 0) pe_int (fun _ _=>rfl)) (pa_cons (pe_ix ix_tup (pv 1) pe_int (fun _ _=>rfl)) pa_nil))))) (pss_cons (ps_set (i:=3) sc_law_side.nd rfl (Or.inl rfl) (pe_op op_sub (pe_callB (call_min2 rfl) rfl T.b_min bb_min (pa_cons (pe_op op_add (pe_ix ix_tup (pv 0) pe_int (fun _ _=>rfl)) (pe_ix ix_tup (pv 0) pe_int (fun _ _=>rfl))) (pa_cons (pe_op op_add (pe_ix ix_tup (pv 1) pe_int (fun _ _=>rfl)) (pe_ix ix_tup (pv 1) pe_int (fun _ _=>rfl))) pa_nil))) (pe_callB (call_max2 rfl) rfl T.b_max bb_max (pa_cons (pe_ix ix_tup (pv 0) pe_int (fun _ _=>rfl)) (pa_cons (pe_ix ix_tup (pv 1) pe_int (fun _ _=>rfl)) pa_nil))))) (pss_cons (ps_if (PW.pt (pw_and (pt_cmpR op_gt (pv 2) pe_int (nomark _)) (pw_and1 (pt_cmpR op_eq (pv 3) pe_int (nomark _))))) (pss_one (ps_ret (pe_tupx (pax_c (pe_ix ix_list (pe_lstx (pax_c pe_str (pax_c pe_str pax_nil))) (pe_callTy call_int1 rfl T.b_int bt_int (pa_cons (pe_cmpR op_gt (pe_ix ix_tup (pv 1) pe_int (fun _ _=>rfl)) (pe_ix ix_tup (pv 0) pe_int (fun _ _=>rfl)) (nomark _)) pa_nil)) (fun _ _=>rfl)) (pax_c (pv 2) pax_nil))))) pss_nil) (pss_cons (ps_if (PW.pt (pw_and (pt_cmpR op_eq (pv 2) pe_int (nomark _)) (pw_and1 (pt_cmpR op_gt (pv 3) pe_int (nomark _))))) (pss_one (ps_ret (pe_tupx (pax_c (pe_ix ix_list (pe_lstx (pax_c pe_str (pax_c pe_str pax_nil))) (pe_callTy call_int1 rfl T.b_int bt_int (pa_cons (pe_cmpR op_gt (pe_ix ix_tup (pv 1) pe_int (fun _ _=>rfl)) (pe_ix ix_tup (pv 0) pe_int (fun _ _=>rfl)) (nomark _)) pa_nil)) (fun _ _=>rfl)) (pax_c (pv 3) pax_nil))))) pss_nil) (pss_one (ps_ret (pe_tupx (pax_c pe_str (pax_c pe_int pax_nil))))))))),?_⟩
  have t1:=SqT.of (K:=K) h1
  have t2:=SqT.of (K:=K) h2
  have ex:((if (r.x:Int) + r.w < (q.x:Int) + q.w then (r.x:Int) + r.w else (q.x:Int) + q.w) - if (r.x:Int) > q.x then (r.x:Int) else q.x)=over q.x q.w r.x r.w:=rfl
  have ey:((if (r.y:Int) + r.w < (q.y:Int) + q.w then (r.y:Int) + r.w else (q.y:Int) + q.w) - if (r.y:Int) > q.y then (r.y:Int) else q.y)=over q.y q.w r.y r.w:=rfl
  refine ⟨_,rfl,p1,_,_,_,rfl,rfl,t1,rfl,_,rfl,p1,_,_,_,rfl,rfl,t1,rfl,_,_,rfl,rfl,_,rfl,p2,_,_,_,rfl,rfl,t2,rfl,_,rfl,p2,_,_,_,rfl,rfl,t2,rfl,_,_,rfl,rfl,_,_,rfl,_,rfl,p1,_,_,_,rfl,rfl,t1,rfl,_,rfl,p2,_,_,_,rfl,rfl,t2,rfl,_,_,rfl,_,_,rfl,rfl,?_⟩
  refine ⟨_,rfl,p1,_,_,_,rfl,rfl,t1,rfl,_,rfl,p1,_,_,_,rfl,rfl,t1,rfl,_,_,rfl,rfl,_,rfl,p2,_,_,_,rfl,rfl,t2,rfl,_,rfl,p2,_,_,_,rfl,rfl,t2,rfl,_,_,rfl,rfl,_,_,rfl,_,rfl,p1,_,_,_,rfl,rfl,t1,rfl,_,rfl,p2,_,_,_,rfl,rfl,t2,rfl,_,_,rfl,_,_,rfl,rfl,?_⟩
  dsimp only
  rw [ex,ey]
  have eS:sideS q r=if over q.x q.w r.x r.w > 0∧over q.y q.w r.y r.w=0 then (if r.y > q.y then ("down" : Str) else "up") else if over q.x q.w r.x r.w=0∧over q.y q.w r.y r.w > 0 then (if r.x > q.x then ("right" : Str) else "left") else "" := rfl
  have eN:lenS q r=if over q.x q.w r.x r.w > 0∧over q.y q.w r.y r.w=0 then over q.x q.w r.x r.w else if over q.x q.w r.x r.w=0∧over q.y q.w r.y r.w > 0 then over q.y q.w r.y r.w else 0:=rfl
  rw [eS,eN] at q'
  generalize over q.x q.w r.x r.w=X at *
  generalize over q.y q.w r.y r.w=Y at *
  have fin:∀ (H1:Hp) (s1:Same H H1) (sd:Str) (m:Int),(sd=if X > 0∧Y=0 then (if r.y > q.y then ("down" : Str) else "up") else if X=0∧Y > 0 then (if r.x > q.x then ("right" : Str) else "left") else "")→(m=if X > 0∧Y=0 then X else if X=0∧Y > 0 then Y else 0)→∀ p,H1 p=none→Q (.ref p) (upd H1 p (.tup [.str sd,.int m])):=fun H1 s1 sd m e1 e2 p hp=>q' p _ (s1.trans (Same.new hp _)) (by rw [upd_same,e1,e2])
  have two:2≤sizeLine:=by decide
  have rest:∀ {R:Prop},(X=0∧Y > 0→R)→(¬ (X=0∧Y > 0)→R)→R:=fun {R} h1 h2=>if c:X=0∧Y > 0 then h1 c else h2 c
  have b1:(if decide ((q.y:Int) < (r.y:Int))=true then ("down" : Str) else "up")=if r.y > q.y then ("down" : Str) else "up" := by
    by_cases c:q.y < r.y
    · rw [if_pos (decide_eq_true (by omega)),if_pos c]
    · rw [if_neg (by simp; omega),if_neg c]
  have b2:(if decide ((q.x:Int) < (r.x:Int))=true then ("right" : Str) else "left")=if r.x > q.x then ("right" : Str) else "left" := by
    by_cases c:q.x < r.x
    · rw [if_pos (decide_eq_true (by omega)),if_pos c]
    · rw [if_neg (by simp; omega),if_neg c]
  by_cases c1:X > 0∧Y=0
  · refine ⟨_,rfl,_,_,rfl,rfl,_,rfl,ite2 (fun _ => ?_) (fun c=>absurd (decide_eq_true c1.1) c)⟩
    refine ⟨_,rfl,rfl,_,rfl,ite2 (fun _ => ?_) (fun c=>absurd (decide_eq_true (congrArg V.int c1.2)) c)⟩
    refine ⟨two,fun l hl => ?_⟩
    have s1:=Same.new hl (.lst [.str ("up" : Str),.str ("down" : Str)])
    have u1:upd H l (.lst [.str ("up" : Str),.str ("down" : Str)]) l=some (.lst [.str ("up" : Str),.str ("down" : Str)]):=upd_same
    generalize upd H l (.lst [.str ("up" : Str),.str ("down" : Str)])=H1 at *
    refine ⟨_,rfl,p2,_,_,_,rfl,rfl,SqT.of (s1 _ _ h2),rfl,_,rfl,p1,_,_,_,rfl,rfl,SqT.of (s1 _ _ h1),rfl,_,_,rfl,rfl,.inr ⟨_,rfl,l,_,_,_,rfl,rfl,SqL.of u1,two_ix _ _ _,_,rfl,two,?_⟩⟩
    exact fin H1 s1 _ _ (by rw [if_pos c1]; exact b1) (by rw [if_pos c1])
  · have go:∀ (R:Prop),(X > 0→¬ Y=0→R)→(¬ X > 0→R)→R:=fun R h1 h2=>if c:X > 0 then h1 c (fun e=>c1 ⟨c,e⟩) else h2 c
    refine ⟨_,rfl,_,_,rfl,rfl,_,rfl,and4 ?_ fun hY c=>⟨_,rfl,rfl,_,rfl,ite2 (fun c' => ?_) (fun _=>hY)⟩⟩
    · by_cases c2:X=0∧Y > 0
      · refine ⟨_,rfl,rfl,_,rfl,ite2 (fun _ => ?_) (fun c=>absurd (decide_eq_true (congrArg V.int c2.1)) c)⟩
        refine ⟨_,rfl,_,_,rfl,rfl,_,rfl,ite2 (fun _ => ?_) (fun c=>absurd (decide_eq_true c2.2) c)⟩
        refine ⟨two,fun l hl => ?_⟩
        have s1:=Same.new hl (.lst [.str ("left" : Str),.str ("right" : Str)])
        have u1:upd H l (.lst [.str ("left" : Str),.str ("right" : Str)]) l=some (.lst [.str ("left" : Str),.str ("right" : Str)]):=upd_same
        generalize upd H l (.lst [.str ("left" : Str),.str ("right" : Str)])=H1 at *
        refine ⟨_,rfl,p2,_,_,_,rfl,rfl,SqT.of (s1 _ _ h2),rfl,_,rfl,p1,_,_,_,rfl,rfl,SqT.of (s1 _ _ h1),rfl,_,_,rfl,rfl,.inr ⟨_,rfl,l,_,_,_,rfl,rfl,SqL.of u1,two_ix _ _ _,_,rfl,two,?_⟩⟩
        exact fin H1 s1 _ _ (by rw [if_neg c1,if_pos c2]; exact b2) (by rw [if_neg c1,if_pos c2])
      · refine ⟨_,rfl,rfl,_,rfl,and4 ?_ fun hY c=>⟨_,rfl,_,_,rfl,rfl,_,rfl,ite2 (fun c' => ?_) (fun _=>hY)⟩⟩
        · exact ⟨two,fin H (Same.refl H) _ _ (by rw [if_neg c1,if_neg c2]) (by rw [if_neg c1,if_neg c2])⟩
        · have h1':V.int X=V.int 0:=of_decide_eq_true c
          injection h1' with h1'
          have h2':Y > 0:=of_decide_eq_true c'
          exact absurd ⟨h1',h2'⟩ c2
    · have h1':X > 0:=of_decide_eq_true c
      have h2':V.int Y=V.int 0:=of_decide_eq_true c'
      injection h2' with h2'
      exact absurd ⟨h1',h2'⟩ c1
abbrev s_law_ends:Stmt:=top 36
theorem sc_law_ends:FnScope ["_law_one","_law_wide","_law_ends_here"] ["_law_one","_law_wide"] (defScope s_law_ends):=⟨rfl,rfl,rfl,by decide +kernel,rfl,by decide +kernel,by decide +kernel⟩
def bI (b:Bool):Int:=if b=true then 1 else 0
def endsS (n:Nat) (q:Sq):Int:=bI (endB false true n q) + bI (endB true true n q) + bI (endB false false n q) + bI (endB true false n q)
def sp_law_ends:Sp:=fun vs H Q _=>∃ (u:V) (q:Sq) (n:Nat),vs=[u,.int ((2 ^ n:Nat):Int)]∧SqV H u q∧q.w≤2 ^ 40∧Q (.int ((q.w:Int) * endsS n q)) H
theorem ok_law_ends (T:Tx K mg) (F:FunD K "_law_ends" "_law_ends" s_law_ends f fd .none):FnOk P w K mg base CX 1 f fd ["_law_one","_law_wide"] sp_law_ends:=by
  refine F.ok sc_law_ends (fun vs H Q E h => ?_) (fun cdv A outer s H vs Q E hr h => ?_)
  · obtain ⟨_,_,_,rfl,_⟩:=h
    rfl
  obtain ⟨_,q,n,rfl,⟨p1,rfl,h1,_⟩,hw,q'⟩:=h
  refine ⟨_,(pss_cons (ps_set (i:=2) sc_law_ends.nd rfl (Or.inl rfl) (pe_op op_add (pe_callTy call_int1 rfl T.b_int bt_int (pa_cons (pe_cmpR op_eq (pe_ix ix_tup (pv 0) pe_int (fun _ _=>rfl)) pe_int (nomark _)) pa_nil)) (pe_callTy call_int1 rfl T.b_int bt_int (pa_cons (pe_cmpR op_eq (pe_ix ix_tup (pv 0) pe_int (fun _ _=>rfl)) pe_int (nomark _)) pa_nil)))) (pss_cons (ps_set (i:=2) sc_law_ends.nd rfl (Or.inl rfl) (pe_op op_add (pv 2) (pe_callTy call_int1 rfl T.b_int bt_int (pa_cons (pe_cmpR op_eq (pe_op op_add (pe_ix ix_tup (pv 0) pe_int (fun _ _=>rfl)) (pe_ix ix_tup (pv 0) pe_int (fun _ _=>rfl))) (pv 1) (nomark _)) pa_nil)))) (pss_cons (ps_set (i:=2) sc_law_ends.nd rfl (Or.inl rfl) (pe_op op_add (pv 2) (pe_callTy call_int1 rfl T.b_int bt_int (pa_cons (pe_cmpR op_eq (pe_op op_add (pe_ix ix_tup (pv 0) pe_int (fun _ _=>rfl)) (pe_ix ix_tup (pv 0) pe_int (fun _ _=>rfl))) (pv 1) (nomark _)) pa_nil)))) (pss_one (ps_ret (pe_op op_mul (pe_ix ix_tup (pv 0) pe_int (fun _ _=>rfl)) (pv 2))))))),?_⟩
  have t1:=SqT.of (K:=K) h1
  refine ⟨_,rfl,p1,_,_,_,rfl,rfl,t1,rfl,rfl,.inr ⟨_,rfl,_,rfl,p1,_,_,_,rfl,rfl,t1,rfl,rfl,.inr ⟨_,rfl,_,_,rfl,rfl,?_⟩⟩⟩
  refine ⟨_,rfl,_,rfl,p1,_,_,_,rfl,rfl,t1,rfl,_,rfl,p1,_,_,_,rfl,rfl,t1,rfl,_,_,rfl,rfl,_,rfl,rfl,.inr ⟨_,rfl,_,_,rfl,rfl,?_⟩⟩
  refine ⟨_,rfl,_,rfl,p1,_,_,_,rfl,rfl,t1,rfl,_,rfl,p1,_,_,_,rfl,rfl,t1,rfl,_,_,rfl,rfl,_,rfl,rfl,.inr ⟨_,rfl,_,_,rfl,rfl,?_⟩⟩
  refine ⟨_,rfl,p1,_,_,_,rfl,rfl,t1,rfl,_,rfl,_,_,rfl,rfl,?_⟩
  dsimp only
  have a1:decide (V.int (q.x:Int)=V.int 0)=endB false true n q:=by
    unfold endB nC
    rw [if_pos rfl,decide_eq_decide,V.int.injEq]
    simp
  have a2:decide (V.int (q.y:Int)=V.int 0)=endB true true n q:=by
    unfold endB nC
    rw [if_pos rfl,decide_eq_decide,V.int.injEq]
    simp
  have a3:decide (V.int ((q.x:Int) + (q.w:Int))=V.int ((2 ^ n:Nat):Int))=endB false false n q:=by
    unfold endB nC
    rw [if_neg Bool.false_ne_true,decide_eq_decide,V.int.injEq,← Int.natCast_add,Int.natCast_inj]
    simp
  have a4:decide (V.int ((q.y:Int) + (q.w:Int))=V.int ((2 ^ n:Nat):Int))=endB true false n q:=by
    unfold endB nC
    rw [if_neg Bool.false_ne_true,decide_eq_decide,V.int.injEq,← Int.natCast_add,Int.natCast_inj]
    simp
  rw [a1,a2,a3,a4]
  have bb:∀ b:Bool,0≤bI b∧bI b≤1:=fun b=>by cases b <;> decide
  have b1:=bb (endB false true n q)
  have b2:=bb (endB true true n q)
  have b3:=bb (endB false false n q)
  have b4:=bb (endB true false n q)
  refine ⟨?_,q'⟩
  show CMul (q.w:Int) (endsS n q)
  have e5:0≤endsS n q∧endsS n q≤4:=by unfold endsS; omega
  exact .inr ⟨by omega,by omega⟩
end
end Qs


namespace Qs
open PySem L2
abbrev ky (z:List Nat):Key:=Sum.inr (txt z)
theorem txt_inj2 {a b:List Nat} (h:txt a=txt b):a=b:=by
  have:=congrArg dig h
  rwa [dig_txt,dig_txt] at this
theorem ky_inj {a b:List Nat} (h:ky a=ky b):a=b:=txt_inj2 (Sum.inr.inj h)
abbrev kN (z:List Nat) (sd:Str):List Key:=[ky z,Sum.inr sd]
theorem kN_inj {z z':List Nat} {sd sd':Str} (h:kN z sd=kN z' sd'):z=z'∧sd=sd':=by
  injection h with h1 h2
  injection h2 with h2 _
  exact ⟨ky_inj h1,Sum.inr.inj h2⟩
def EnV (H:Hp) (u:V) (e:List Nat × Int):Prop:=∃ p,u=.ref p∧H p=some (.tup [sV e.1,.int e.2])
theorem env_up {H H':Hp} {us:List V} {E:List (List Nat × Int)} (h:Paired (EnV H) us E) (s:Tups H H'):Paired (EnV H') us E:=Paired.mapP h fun _ _ ⟨p,e,hp⟩=>⟨p,e,s _ _ hp⟩
theorem pair_app {α β:Type} {F:α→β→Prop} {l1 l2:List α} {r1 r2:List β} (h:Paired F l1 r1) (k:Paired F l2 r2):Paired F (l1++l2) (r1++r2):=by
  induction h with
  | nil=>exact k
  | cons p _ ih=>exact .cons p ih
theorem tups_upd {H:Hp} {a:Addr} {o o':HO} (h:H a=some o) (n:∀ xs,o≠.tup xs):Tups H (upd H a o'):=fun b xs e=>by
  rw [upd_ne fun q=>n xs (by rw [q,h] at e; exact Option.some.inj e)]
  exact e
abbrev EnF:Type:=List Nat→Str→List (List Nat × Int)
def addE (E:EnF) (z:List Nat) (sd:Str) (e:List Nat × Int):EnF:=fun z' sd'=>if z'=z∧sd'=sd then E z' sd'++[e] else E z' sd'
theorem nrE_step (D:List (Sq × Sq)) (q r:Sq):nrE (D++[(q,r)])=addE (addE (nrE D) q.z (sideS q r) (r.z,lenS q r)) r.z (sideS r q) (q.z,lenS r q):=by
  funext z sd
  have e:nrE (D++[(q,r)]) z sd=nrE D z sd++ent2 z sd (q,r):=by
    unfold nrE
    rw [List.flatMap_append]
    simp
  rw [e]
  unfold addE ent2
  by_cases c1:q.z=z∧sideS q r=sd <;> by_cases c2:r.z=z∧sideS r q=sd
  · rw [if_pos c1,if_pos c2,if_pos ⟨c2.1.symm,c2.2.symm⟩,if_pos ⟨c1.1.symm,c1.2.symm⟩,List.append_assoc]
  · rw [if_pos c1,if_neg c2,if_neg fun k=>c2 ⟨k.1.symm,k.2.symm⟩,if_pos ⟨c1.1.symm,c1.2.symm⟩,List.append_nil]
  · rw [if_neg c1,if_pos c2,if_pos ⟨c2.1.symm,c2.2.symm⟩,if_neg fun k=>c1 ⟨k.1.symm,k.2.symm⟩,List.nil_append]
  · rw [if_neg c1,if_neg c2,if_neg fun k=>c2 ⟨k.1.symm,k.2.symm⟩,if_neg fun k=>c1 ⟨k.1.symm,k.2.symm⟩,List.append_nil,List.append_nil]

structure NrAt (H0 H:Hp) (d:Addr) (m:Nat) (Pr:List Nat→Str→Prop) (E:EnF) (lo:List Nat→Str→Addr):Prop where
  ex:∃ kvs,H d=some (.dT kvs)∧kvs.length≤m∧(∀ z sd,¬ Pr z sd→valV kvs (kN z sd)=none)∧∀ z sd,Pr z sd→valV kvs (kN z sd)=some (.ref (lo z sd))
  at_:∀ z sd,Pr z sd→∃ us,H (lo z sd)=some (.lst us)∧Paired (EnV H) us (E z sd)
  inj:∀ z sd z' sd',Pr z sd→Pr z' sd'→lo z sd=lo z' sd'→z=z'∧sd=sd'
  no:∀ z sd,¬ Pr z sd→E z sd=[]
  nw:∀ z sd,Pr z sd→H0 (lo z sd)=none
theorem NrAt.up {H0 H H':Hp} {d:Addr} {m:Nat} {Pr:List Nat→Str→Prop} {E:EnF} {lo:List Nat→Str→Addr} (h:NrAt H0 H d m Pr E lo) (s:Same H H'):NrAt H0 H' d m Pr E lo:=by
  obtain ⟨kvs,h1,h2⟩:=h.ex
  refine ⟨⟨kvs,s _ _ h1,h2⟩,fun z sd p => ?_,h.inj,h.no,h.nw⟩
  obtain ⟨us,k1,k2⟩:=h.at_ z sd p
  exact ⟨us,s _ _ k1,env_up k2 s.tups⟩
theorem NrAt.new {H0 H:Hp} {d:Addr} {m:Nat} {Pr:List Nat→Str→Prop} {E:EnF} {lo:List Nat→Str→Addr} (h:NrAt H0 H d m Pr E lo) {kvs:List (List Key × V)} (hd:H d=some (.dT kvs)) {z:List Nat} {sd:Str} {l:Addr} (hp:¬ Pr z sd) (hl:H l=some (.lst [])) (hn:H0 l=none) (ne:∀ z sd,Pr z sd→lo z sd≠l) :
    NrAt H0 (upd H d (.dT (putK kvs (kN z sd) (.ref l)))) d (m + 1) (fun z' sd'=>Pr z' sd'∨(z'=z∧sd'=sd)) E (fun z' sd'=>if z'=z∧sd'=sd then l else lo z' sd'):=by
  obtain ⟨kvs0,h1,h2,h3,h4⟩:=h.ex
  have e:kvs0=kvs:=by
    rw [hd] at h1
    injection h1 with h1
    injection h1 with h1
    exact h1.symm
  subst e
  have hld:l≠d:=fun q=>by rw [q,hd] at hl; cases hl
  have tt:Tups H (upd H d (.dT (putK kvs0 (kN z sd) (.ref l)))):=tups_upd hd (by intro xs q; cases q)
  have np:∀ {z' sd'},Pr z' sd'→¬ (z'=z∧sd'=sd):=fun {z' sd'} p c=>hp (c.1▸c.2▸p)
  refine ⟨⟨_,upd_same,?_,fun z' sd' p => ?_,fun z' sd' p => ?_⟩,fun z' sd' p => ?_,fun z1 s1 z2 s2 p1 p2 e => ?_,fun z' sd' p=>h.no z' sd' fun k=>p (.inl k),fun z' sd' p => ?_⟩
  · have:=length_putK kvs0 (kN z sd) (.ref l)
    omega
  · rw [valV_put,if_neg fun c=>p (.inr (kN_inj c))]
    exact h3 z' sd' fun k=>p (.inl k)
  · rw [valV_put]
    by_cases c:z'=z∧sd'=sd
    · rw [if_pos (by rw [c.1,c.2]),if_pos c]
    · rw [if_neg fun k=>c (kN_inj k),if_neg c]
      exact h4 z' sd' (p.resolve_right c)
  · by_cases c:z'=z∧sd'=sd
    · refine ⟨[],?_,?_⟩
      · show upd _ _ _ (if z'=z∧sd'=sd then l else lo z' sd')=_
        rw [if_pos c,upd_ne hld]
        exact hl
      · rw [c.1,c.2,h.no z sd hp]
        exact .nil
    · have p':=p.resolve_right c
      obtain ⟨us,k1,k2⟩:=h.at_ z' sd' p'
      refine ⟨us,?_,env_up k2 tt⟩
      show upd _ _ _ (if z'=z∧sd'=sd then l else lo z' sd')=_
      rw [if_neg c,upd_ne fun q=>by rw [q,hd] at k1; cases k1]
      exact k1
  · have e':(if z1=z∧s1=sd then l else lo z1 s1)=if z2=z∧s2=sd then l else lo z2 s2:=e
    by_cases c1:z1=z∧s1=sd <;> by_cases c2:z2=z∧s2=sd
    · exact ⟨c1.1.trans c2.1.symm,c1.2.trans c2.2.symm⟩
    · rw [if_pos c1,if_neg c2] at e'
      exact absurd e'.symm (ne z2 s2 (p2.resolve_right c2))
    · rw [if_neg c1,if_pos c2] at e'
      exact absurd e' (ne z1 s1 (p1.resolve_right c1))
    · rw [if_neg c1,if_neg c2] at e'
      exact h.inj z1 s1 z2 s2 (p1.resolve_right c1) (p2.resolve_right c2) e'
  · show H0 (if z'=z∧sd'=sd then l else lo z' sd')=none
    by_cases c:z'=z∧sd'=sd
    · rw [if_pos c]; exact hn
    · rw [if_neg c]; exact h.nw z' sd' (p.resolve_right c)
theorem NrAt.app {H0 H:Hp} {d:Addr} {m:Nat} {Pr:List Nat→Str→Prop} {E:EnF} {lo:List Nat→Str→Addr} (h:NrAt H0 H d m Pr E lo) {z:List Nat} {sd:Str} {us:List V} {pn:Addr} {e:List Nat × Int} (hp:Pr z sd) (hl:H (lo z sd)=some (.lst us)) (hu:Paired (EnV H) us (E z sd)) (hn:H pn=some (.tup [sV e.1,.int e.2])) :
    NrAt H0 (upd H (lo z sd) (.lst (us++[.ref pn]))) d m Pr (addE E z sd e) lo:=by
  obtain ⟨kvs,h1,h2⟩:=h.ex
  have tt:Tups H (upd H (lo z sd) (.lst (us++[.ref pn]))):=tups_upd hl (by intro xs q; cases q)
  refine ⟨⟨kvs,by rw [upd_ne fun q=>by rw [← q,h1] at hl; cases hl]; exact h1,h2⟩,fun z' sd' p => ?_,h.inj,fun z' sd' p => ?_,h.nw⟩
  · unfold addE
    by_cases c:z'=z∧sd'=sd
    · rw [if_pos c,c.1,c.2]
      exact ⟨_,upd_same,pair_app (env_up hu tt) (.cons ⟨pn,rfl,tt _ _ hn⟩ .nil)⟩
    · rw [if_neg c]
      obtain ⟨us',k1,k2⟩:=h.at_ z' sd' p
      exact ⟨us',by rw [upd_ne fun q=>c (h.inj _ _ _ _ p hp q)]; exact k1,env_up k2 tt⟩
  · unfold addE
    rw [if_neg fun (c:z'=z∧sd'=sd)=>p (by rw [c.1,c.2]; exact hp)]
    exact h.no z' sd' p
theorem NrAt.le {H0 H:Hp} {d:Addr} {m m':Nat} {Pr:List Nat→Str→Prop} {E:EnF} {lo:List Nat→Str→Addr} (h:NrAt H0 H d m Pr E lo) (hm:m≤m'):NrAt H0 H d m' Pr E lo:=by
  obtain ⟨kvs,h1,h2,h3⟩:=h.ex
  exact ⟨⟨kvs,h1,Nat.le_trans h2 hm,h3⟩,h.at_,h.inj,h.no,h.nw⟩
theorem nrE_len (z:List Nat) (sd:Str):∀ D:List (Sq × Sq),(nrE D z sd).length≤2 * D.length
  | []=>Nat.zero_le _
  | p::D=>by
    have ih:=nrE_len z sd D
    have e:nrE (p::D) z sd=ent2 z sd p++nrE D z sd:=rfl
    have l:(ent2 z sd p).length≤2:=by
      unfold ent2
      rw [List.length_append]
      have h1:∀ {c:Prop} [Decidable c] {x:List Nat × Int},(if c then [x] else []).length≤1:=fun {c} _ {x}=>by split <;> simp
      have h2:=h1 (c:=p.1.z=z∧sideS p.1 p.2=sd) (x:=(p.2.z,lenS p.1 p.2))
      have h3:=h1 (c:=p.2.z=z∧sideS p.2 p.1=sd) (x:=(p.1.z,lenS p.2 p.1))
      omega
    rw [e,List.length_append,List.length_cons]
    omega
theorem addE_len (E:EnF) (z:List Nat) (sd:Str) (e:List Nat × Int) (z':List Nat) (sd':Str):(addE E z sd e z' sd').length≤(E z' sd').length + 1:=by
  unfold addE
  split
  · rw [List.length_append]; exact Nat.le_refl _
  · exact Nat.le_succ _
section
variable {P:Program} {w:World} {K:PySem.W.Frag} {mg:Str→Option Value} {base:Heap} {CX:CXT} {f:Addr} {fd:FuncData}
abbrev s_law_met:Stmt:=top 37
theorem sc_law_met:FnScope ["_law_found","_law_places","_law_near","_law_last","_law_k","_law_entry","_law_one","_law_other","_law_side_here","_law_many"] ["_law_found","_law_places"] (defScope s_law_met):=⟨rfl,rfl,rfl,by decide +kernel,rfl,by decide +kernel,by decide +kernel⟩
def sp_law_met:Sp:=fun vs H Q _=>∃ (lf pl:Addr) (uf:List V) (kvp:List (Key × V)) (L:List Sq),vs=[.ref lf,.ref pl]∧H lf=some (.lst uf)∧PrsAt H uf (dueP L)∧H pl=some (.dK kvp)∧(∀ q∈L,∃ u,valV kvp (ky q.z)=some u∧SqV H u q)∧L.Pairwise Bef∧L.length≤1500 ∧
  ∀ d lo Pr m H',Same H H'→NrAt H H' d m Pr (nrE (duePS L)) lo→Q (.ref d) H'
theorem ok_law_met (T:Tx K mg) (q:Quiet CX) (F:FunD K "_law_met" "_law_met" s_law_met f fd .none) (C__law_side:Fok P w K mg base CX 1 "_law_side" ["_law_one","_law_other"] [] sp_law_side):FnOk P w K mg base CX 2 f fd ["_law_found","_law_places"] sp_law_met:=by
  refine F.ok sc_law_met (fun vs H Q E h => ?_) (fun cdv A outer s H vs Q E hr h => ?_)
  · obtain ⟨_,_,_,_,_,rfl,_⟩:=h
    rfl
  obtain ⟨lf,pl,uf,kvp,L,rfl,hlf,hD,hpl,hpv,hB,hL,q'⟩:=h
  refine ⟨_,(pss_cons (ps_set (i:=2) sc_law_met.nd rfl (Or.inl rfl) pe_dnewT) (pss_cons (ps_set (i:=3) sc_law_met.nd rfl (Or.inl rfl) (pe_tupx (pax_c pe_str (pax_c pe_str pax_nil)))) (pss_cons (ps_for PassesOwn.never rfl (pi_enumerate rfl T.b_enumerate (pa_cons (pv 0) pa_nil)) (pg_tup rfl (pgs_cons (pg_name (i:=4) sc_law_met.nd rfl (Or.inl rfl)) (pgs_cons (pg_name (i:=5) sc_law_met.nd rfl (Or.inl rfl)) pgs_nil))) (pss_cons (ps_if (PW.pt (pw_or (pt_not (pt_val (pe_callB (call_isiT "tuple") rfl T.b_isinstance bb_isinstance (pa_cons (pv 5) (pa_cons (pe_bty T.b_tuple bt_tuple) pa_nil))))) (pw_or1 (pt_cmpR op_ne (pe_callB call_len rfl T.b_len bb_len (pa_cons (pv 5) pa_nil)) pe_int (nomark _))))) (pss_one (ps_ret pe_non)) pss_nil) (pss_cons (ps_if (PW.pt (pw_or (pt_not (pt_cmpR (op_inD hr.dic) (pe_ix ix_tup (pv 5) pe_int (fun _ _=>rfl)) (pv 1) (by with_unfolding_all rfl))) (pw_or1 (pt_not (pt_cmpR (op_inD hr.dic) (pe_ix ix_tup (pv 5) pe_int (fun _ _=>rfl)) (pv 1) (by with_unfolding_all rfl)))))) (pss_one (ps_ret pe_non)) pss_nil) (pss_cons (ps_if (PW.pt (pw_or (pt_cmpR op_ge_str (pe_ix ix_tup (pv 5) pe_int (fun _ _=>rfl)) (pe_ix ix_tup (pv 5) pe_int (fun _ _=>rfl)) (nomark _)) (pw_or1 (PW.pt (pw_and (pt_cmpR op_gt (pv 4) pe_int (nomark _)) (pw_and1 (pt_cmpR (op_le2 hr) (pv 5) (pv 3) (nomark _)))))))) (pss_one (ps_ret pe_non)) pss_nil) (pss_cons (ps_set (i:=3) sc_law_met.nd rfl (Or.inl rfl) (pv 5)) (pss_one (ps_for PassesOwn.never rfl (pi_list (pe_lstx (pax_c (pv 5) (pax_c (pe_tupx (pax_c (pe_ix ix_tup (pv 5) pe_int (fun _ _=>rfl)) (pax_c (pe_ix ix_tup (pv 5) pe_int (fun _ _=>rfl)) pax_nil))) pax_nil)))) (pg_tup rfl (pgs_cons (pg_name (i:=6) sc_law_met.nd rfl (Or.inl rfl)) (pgs_cons (pg_name (i:=7) sc_law_met.nd rfl (Or.inl rfl)) pgs_nil))) (pss_cons (ps_asg (pe_callF C__law_side q hr (pa_cons (pe_dget hr.dic (pv 1) (pv 6) (fun _ _=>rfl)) (pa_cons (pe_dget hr.dic (pv 1) (pv 7) (fun _ _=>rfl)) pa_nil))) (pg_tup rfl (pgs_cons (pg_name (i:=8) sc_law_met.nd rfl (Or.inl rfl)) (pgs_cons (pg_name (i:=9) sc_law_met.nd rfl (Or.inl rfl)) pgs_nil)))) (pss_cons (ps_if (pt_cmpR op_eq (pv 8) pe_str (nomark _)) (pss_one (ps_ret pe_non)) pss_nil) (pss_one (ps_expr (pe_bm PySem.F.plainAttrs_list PySem.F.slot_list_append PySem.F.type_list_append mt_append (pe_dsetT hr.dic (pv 2) (pe_tupx (pax_c (pv 6) (pax_c (pv 8) pax_nil))) (pe_lstx pax_nil) ⟨rfl,rfl,rfl,rfl⟩) (pa_cons (pe_tupx (pax_c (pv 7) (pax_c (pv 9) pax_nil))) pa_nil))))))))))))) (pss_one (ps_ret (pv 2)))))),?_⟩
  have two:2≤sizeLine:=by decide
  have lD:=hD.len
  have lD2:=dueP_len L
  have lq:L.length * L.length≤1500 * 1500:=Nat.mul_le_mul hL hL
  have ezz:=duePS_z L
  refine fun d hd => ?_
  have s1:=Same.new hd (.dT [])
  have u1:upd H d (.dT []) d=some (.dT []):=upd_same
  generalize upd H d (.dT [])=H1 at *
  refine ⟨two,fun p0 hp0 => ?_⟩
  have s2:=Same.new hp0 (.tup [.str ("" : Str),.str ("" : Str)])
  have u2:upd H1 p0 (.tup [.str ("" : Str),.str ("" : Str)]) p0=some (.tup [.str ("" : Str),.str ("" : Str)]):=upd_same
  have d2:=s2 _ _ u1
  generalize upd H1 p0 (.tup [.str ("" : Str),.str ("" : Str)])=H2 at *
  have s12:=s1.trans s2
  refine ⟨_,rfl,lf,rfl,⟨_,SqL.of (s12 _ _ hlf)⟩,for_enum (xs:=uf) (fun (i:Nat) σ H3=>Same H H3∧(∃ Pr lo,NrAt H H3 d (2 * i) Pr (nrE ((duePS L).take i)) lo)∧(∃ (pp:Addr) (x y:Str),H3 pp=some (.tup [.str x,.str y])∧(0 < i→∃ dd,(dueP L)[i - 1]? = some dd∧x=txt dd.1∧y=txt dd.2)∧∃ o4 o5 o6 o7 o8 o9:Option V,σ=[some (.ref lf),some (.ref pl),some (.ref d),some (.ref pp),o4,o5,o6,o7,o8,o9]))
    ⟨s12,⟨fun _ _=>False,fun _ _=>0,⟨[],d2,Nat.le_refl _,fun _ _ _=>rfl,fun _ _ h=>h.elim⟩,fun _ _ h=>h.elim,fun _ _ _ _ h=>h.elim,fun _ _ _=>rfl,fun _ _ h=>h.elim⟩,p0,"","",u2,fun h=>absurd h (Nat.lt_irrefl _),_,_,_,_,_,_,rfl⟩ (fun i σ H3 h=>SqL.of (h.1 _ _ hlf)) ?_ ?_⟩
  rotate_left
  · rintro σ H3 ⟨s3,⟨Pr,lo,nr⟩,pp,x,y,_,_,o4,o5,o6,o7,o8,o9,rfl⟩
    have e:(duePS L).take uf.length=duePS L:=List.take_of_length_le (by
      have:=congrArg List.length ezz
      rw [List.length_map] at this
      omega)
    rw [e] at nr
    exact ⟨_,rfl,q' d lo Pr _ H3 s3 nr⟩
  rintro i x pr σ H3 hx ⟨s3,⟨Pr,lo,nr⟩,pp,xl,yl,hpp,hlast,o4,o5,o6,o7,o8,o9,rfl⟩ hpr
  obtain ⟨hi,_⟩:=List.getElem?_eq_some_iff.mp hx
  obtain ⟨dd,edd,pe,rfl,hpe⟩:=hD.get hx
  obtain ⟨⟨a,b⟩,eab,edz⟩:∃ p,(duePS L)[i]? = some p∧dd=(p.1.z,p.2.z):=by
    rw [← ezz,List.getElem?_map] at edd
    obtain ⟨p,h1,h2⟩:=Option.map_eq_some_iff.mp edd
    exact ⟨p,h1,h2.symm⟩
  subst edz
  obtain ⟨ha,hb,htc,hbf⟩:=duePS_mem hB (List.mem_of_getElem? eab)
  have s4:=s3.trans (Same.new hpr (.tup [.int (i:Int),.ref pe]))
  have hpr4:upd H3 pr (.tup [.int (i:Int),.ref pe]) pr=some (.tup [.int (i:Int),.ref pe]):=upd_same
  have nr4:=nr.up (Same.new hpr (.tup [.int (i:Int),.ref pe]))
  have hpp4:=Same.new hpr (.tup [.int (i:Int),.ref pe]) _ _ hpp
  generalize upd H3 pr (.tup [.int (i:Int),.ref pe])=H4 at *
  have hpe4:=s4 _ _ hpe
  have te:=SqT.of (K:=K) hpe4
  obtain ⟨ua,va,sa⟩:=hpv a ha
  obtain ⟨ub,vb,sb⟩:=hpv b hb
  have ga:∀ {H':Hp},Same H H'→DGet H' pl (sV a.z) (some ua):=fun sm=>va▸DGet.k (k:=ky a.z) (sm _ _ hpl)
  have gb:∀ {H':Hp},Same H H'→DGet H' pl (sV b.z) (some ub):=fun sm=>vb▸DGet.k (k:=ky b.z) (sm _ _ hpl)
  refine ⟨pr,_,rfl,SqT.of hpr4,rfl,_,_,rfl,_,_,rfl,rfl,?_⟩
  refine ⟨_,rfl,_,_,_,rfl,.tup hpe4,kit_tt,_,rfl,iteF ?_⟩
  refine ⟨_,rfl,_,_,rfl,.inr ⟨_,te,rfl⟩,rfl,_,rfl,iteNS rfl ?_⟩
  refine ⟨_,rfl,pe,_,_,_,rfl,rfl,te,rfl,_,rfl,pl,_,rfl,ga s4,_,rfl,iteF ?_⟩
  refine ⟨_,rfl,pe,_,_,_,rfl,rfl,te,rfl,_,rfl,pl,_,rfl,gb s4,_,rfl,iteF ?_⟩
  have ltab:=txt_lt hbf.2
  refine ⟨_,rfl,pe,_,_,_,rfl,rfl,te,rfl,_,rfl,pe,_,_,_,rfl,rfl,te,rfl,_,_,rfl,rfl,_,rfl,ite2 (fun c => ?_) (fun _ => ?_)⟩
  · have c':(!decide ((txt a.z).cps.toList < (txt b.z).cps.toList))=true:=c
    rw [decide_eq_true ltab] at c'
    cases c'
  have lastF:0 < i→(if txt a.z=xl then (if txt b.z=yl then true else !decide (yl.cps.toList < (txt b.z).cps.toList)) else !decide (xl.cps.toList < (txt a.z).cps.toList))=false:=fun hi0=>by
    obtain ⟨d0,e0,rfl,rfl⟩:=hlast hi0
    have pw:=List.pairwise_iff_getElem.mp (dueP_asc hB) (i - 1) i (by omega) (by omega) (by omega)
    have e1:(dueP L)[i - 1]'(by omega)=d0:=(List.getElem?_eq_some_iff.mp e0).2
    have e2:(dueP L)[i]'(by omega)=(a.z,b.z):=(List.getElem?_eq_some_iff.mp edd).2
    rw [e1,e2] at pw
    rcases pw with h | ⟨h1,h2⟩
    · have h':=txt_lt h
      rw [if_neg fun c=>by rw [c] at h'; exact List.lt_irrefl _ h',decide_eq_true h']
      rfl
    · have h1':d0.1=a.z:=h1
      have h':=txt_lt h2
      rw [if_pos (by rw [h1']),if_neg fun c=>by rw [c] at h'; exact List.lt_irrefl _ h',decide_eq_true h']
      rfl
  refine ⟨_,rfl,_,_,rfl,rfl,_,rfl,and4 ?_ fun hY c => ?_⟩
  rotate_left
  · have hi0:0 < i:=by
      have:(0:Int) < (i:Int):=of_decide_eq_true c
      omega
    refine ⟨_,rfl,_,rfl,pe,pp,txt a.z,txt b.z,xl,yl,rfl,rfl,te,SqT.of hpp4,?_⟩
    rw [lastF hi0]
    exact ⟨_,rfl,iteF hY⟩
  refine ⟨_,rfl,_,rfl,_,rfl,pe,_,_,_,rfl,rfl,te,rfl,_,rfl,pe,_,_,_,rfl,rfl,te,rfl,two,fun p2 hp2 => ?_⟩
  have s5:=Same.new hp2 (.tup [sV b.z,sV a.z])
  have w5:upd H4 p2 (.tup [sV b.z,sV a.z]) p2=some (.tup [sV b.z,sV a.z]):=upd_same
  generalize upd H4 p2 (.tup [sV b.z,sV a.z])=H5 at *
  refine ⟨two,fun lo2 hlo2 => ?_⟩
  have s6:=Same.new hlo2 (.lst [.ref pe,.ref p2])
  have w6:upd H5 lo2 (.lst [.ref pe,.ref p2]) lo2=some (.lst [.ref pe,.ref p2]):=upd_same
  have w56:=s6 _ _ w5
  have nr6:=(nr4.up s5).up s6
  have ne6:∀ z sd,Pr z sd→lo z sd≠lo2:=fun z sd p e=>by
    obtain ⟨us,k1,_⟩:=(nr4.up s5).at_ z sd p
    rw [e,hlo2] at k1
    cases k1
  generalize upd H5 lo2 (.lst [.ref pe,.ref p2])=H6 at *
  have s06:=s4.trans (s5.trans s6)
  obtain ⟨E0,eE0⟩:∃ E0,E0=nrE ((duePS L).take i):=⟨_,rfl⟩
  obtain ⟨E1,eE1⟩:∃ E1,E1=addE E0 a.z (sideS a b) (b.z,lenS a b):=⟨_,rfl⟩
  obtain ⟨E2,eE2⟩:∃ E2,E2=addE E1 b.z (sideS b a) (a.z,lenS b a):=⟨_,rfl⟩
  have eE:nrE ((duePS L).take (i + 1))=E2:=by
    rw [List.take_add_one,eab,eE2,eE1,eE0]
    exact nrE_step _ a b
  rw [← eE0] at nr6
  obtain ⟨Ej,eEj⟩:∃ Ej:Nat→EnF,Ej=fun j=>if j=0 then E0 else if j=1 then E1 else E2:=⟨_,rfl⟩
  have lenE:∀ j z sd,(Ej j z sd).length≤2 * i + 2:=fun j z sd=>by
    have h0:(E0 z sd).length≤2 * i:=by
      rw [eE0]
      have h1:=nrE_len z sd ((duePS L).take i)
      have h2:=List.length_take_le i (duePS L)
      omega
    have h1:=addE_len E0 a.z (sideS a b) (b.z,lenS a b) z sd
    have h2:=addE_len E1 b.z (sideS b a) (a.z,lenS b a) z sd
    rw [← eE1] at h1
    rw [← eE2] at h2
    rw [eEj]
    show ((if j=0 then E0 else if j=1 then E1 else E2) z sd).length≤_
    split
    · omega
    · split <;> omega
  refine ⟨lo2,rfl,⟨_,SqL.of w6⟩,for_list (xs:=[.ref pe,.ref p2]) (fun (j:Nat) σ H7=>Same H H7∧H7 lo2=some (.lst [.ref pe,.ref p2])∧H7 p2=some (.tup [sV b.z,sV a.z])∧j≤2∧(∃ Pr lo,NrAt H H7 d (2 * i + j) Pr (Ej j) lo∧∀ z sd,Pr z sd→lo z sd≠lo2)∧∃ o6 o7 o8 o9:Option V,σ=[some (.ref lf),some (.ref pl),some (.ref d),some (.ref pe),some (.int (i:Int)),some (.ref pe),o6,o7,o8,o9])
    ⟨s06,w6,w56,Nat.zero_le _,⟨Pr,lo,by rw [eEj]; exact nr6,ne6⟩,_,_,_,_,rfl⟩ (fun j σ H7 _ h=>SqL.of h.2.1) ?_ ?_⟩
  rotate_left
  · rintro σ H7 ⟨s7,_,_,_,⟨Pr7,lo7,nr7,_⟩,o6,o7,o8,o9,rfl⟩
    refine ⟨s7,⟨Pr7,lo7,?_⟩,pe,txt a.z,txt b.z,s7 _ _ hpe,fun _=>⟨_,edd,rfl,rfl⟩,_,_,_,_,_,_,rfl⟩
    rw [eE]
    have e2:Ej 2=E2:=by rw [eEj]; rfl
    rw [← e2]
    exact nr7
  rintro j x σ H7 hx7 ⟨s7,w7,p7,hj2,⟨Pr7,lo7,nr7,ne7⟩,o6,o7,o8,o9,rfl⟩
  have key:∃ (px:Addr) (c e:Sq) (uc ue:V),x=.ref px∧H7 px=some (.tup [sV c.z,sV e.z])∧(∀ {H':Hp},Same H H'→DGet H' pl (sV c.z) (some uc))∧(∀ {H':Hp},Same H H'→DGet H' pl (sV e.z) (some ue))∧SqV H uc c∧SqV H ue e∧touchB c e=true∧j < 2∧Ej (j + 1)=addE (Ej j) c.z (sideS c e) (e.z,lenS c e):=by
    rcases j with _ | _ | j
    · exact ⟨pe,a,b,ua,ub,(Option.some.inj hx7).symm,s7 _ _ hpe,ga,gb,sa,sb,htc,by decide,by rw [eEj]; exact eE1⟩
    · exact ⟨p2,b,a,ub,ua,(Option.some.inj hx7).symm,p7,gb,ga,sb,sa,by rw [touch_sym]; exact htc,by decide,by rw [eEj]; exact eE2⟩
    · simp at hx7
  obtain ⟨px,c,e,uc,ue,rfl,hpx,gc,ge,sc,se,tch,hj,eEn⟩:=key
  obtain ⟨sdn,axn,sn,hdn,esd⟩:=side_of_touch tch
  have snon:sideS c e ≠ "" := by
    obtain ⟨_,_,_,_,_,_,n7,n8,n9,n10⟩:=side_apart
    rw [esd]
    rcases hdn with ⟨h,_⟩ | ⟨h,_⟩ | ⟨h,_⟩ | ⟨h,_⟩
    · rw [h]; exact Ne.symm n7
    · rw [h]; exact Ne.symm n10
    · rw [h]; exact Ne.symm n8
    · rw [h]; exact Ne.symm n9
  refine ⟨px,_,rfl,SqT.of hpx,rfl,_,_,rfl,_,_,rfl,rfl,?_⟩
  refine ⟨_,rfl,_,rfl,pl,uc,rfl,gc s7,_,rfl,_,rfl,pl,ue,rfl,ge s7,uc,ue,c,e,rfl,sc.up s7.tups,se.up s7.tups,fun ps H8 s8 hps => ?_⟩
  refine ⟨ps,_,rfl,SqT.of hps,rfl,_,_,rfl,_,_,rfl,rfl,?_⟩
  refine ⟨_,rfl,rfl,_,rfl,ite2 (fun k => ?_) (fun _ => ?_)⟩
  · have k':V.str (sideS c e)=V.str "" := of_decide_eq_true k
    injection k' with k'
    exact absurd k' snon
  have nr8:=nr7.up s8
  obtain ⟨kvs,d8,l8,v8,w8⟩:=nr8.ex
  have bnd:2 * i + j < 5000000:=by omega
  refine ⟨_,rfl,d,rfl,.inr ⟨_,.inl d8⟩,_,rfl,_,rfl,two,fun pk hpk => ?_⟩
  have s9:=Same.new hpk (.tup [sV c.z,.str (sideS c e)])
  have k9:upd H8 pk (.tup [sV c.z,.str (sideS c e)]) pk=some (.tup [sV c.z,.str (sideS c e)]):=upd_same
  generalize upd H8 pk (.tup [sV c.z,.str (sideS c e)])=H9 at *
  refine ⟨(by show 0≤sizeLine; decide),fun l0 hl0 => ?_⟩
  have s10:=Same.new hl0 (.lst [])
  have w10:upd H9 l0 (.lst []) l0=some (.lst []):=upd_same
  have n10:H l0=none:=(s7.trans (s8.trans s9)).free hl0
  have nr9:=nr8.up s9
  have ne9:∀ z sd,Pr7 z sd→lo7 z sd≠l0:=fun z sd p k=>by
    obtain ⟨us,k1,_⟩:=nr9.at_ z sd p
    rw [k,hl0] at k1
    cases k1
  have l02:l0≠lo2:=fun k=>by rw [k,(s8.trans s9) _ _ w7] at hl0; cases hl0
  generalize upd H9 l0 (.lst [])=H10 at *
  have nr10:=nr9.up s10
  have s810:=s9.trans s10
  have s710:=s8.trans s810
  have s010:=s7.trans s710
  have w710:=s710 _ _ w7
  have p710:=s710 _ _ p7
  have d10:=s810 _ _ d8
  refine ⟨kvs,kN c.z (sideS c e),pk,d10,rfl,s10 _ _ k9,Nat.lt_of_lt_of_le (by omega:kvs.length < 5000000) (by decide),fun v hv => ?_,fun hv => ?_⟩
  · have hP:Pr7 c.z (sideS c e):=Classical.byContradiction fun k=>by rw [v8 _ _ k] at hv; cases hv
    have ev:v=.ref (lo7 c.z (sideS c e)):=by rw [w8 _ _ hP] at hv; exact (Option.some.inj hv).symm
    subst ev
    obtain ⟨us,k1,k2⟩:=nr10.at_ _ _ hP
    refine ⟨.inl ⟨rfl,_,SqL.of k1⟩,_,rfl,_,rfl,two,fun pn hpn => ?_⟩
    have s11:=Same.new hpn (.tup [sV e.z,.int (lenS c e)])
    have w11:upd H10 pn (.tup [sV e.z,.int (lenS c e)]) pn=some (.tup [sV e.z,.int (lenS c e)]):=upd_same
    generalize upd H10 pn (.tup [sV e.z,.int (lenS c e)])=H11 at *
    have lu:us.length≤2 * i + 2:=by rw [Paired.length k2]; exact lenE j _ _
    have k1':=s11 _ _ k1
    have tt:Tups H11 (upd H11 (lo7 c.z (sideS c e)) (.lst (us++[.ref pn]))):=tups_upd k1' (by intro xs q; cases q)
    refine ⟨lo7 c.z (sideS c e),us,_,rfl,rfl,k1',Nat.lt_of_lt_of_le (by omega:us.length < 5000000) (by decide),?_⟩
    refine ⟨Same.set (s010.trans s11) (nr7.nw _ _ hP) _,by rw [upd_ne (Ne.symm (ne7 _ _ hP))]; exact s11 _ _ w710,tt _ _ (s11 _ _ p710),by omega,⟨Pr7,lo7,?_,ne7⟩,_,_,_,_,rfl⟩
    rw [eEn]
    exact ((nr10.up s11).app (e:=(e.z,lenS c e)) hP k1' (env_up k2 s11.tups) w11).le (by omega)
  · have hP:¬ Pr7 c.z (sideS c e):=fun k=>by rw [w8 _ _ k] at hv; cases hv
    have nrn:=nr10.new d10 hP w10 n10 ne9
    have l0d:l0≠d:=fun k=>by rw [k,d10] at w10; cases w10
    have w11:upd H10 d (.dT (putK kvs (kN c.z (sideS c e)) (.ref l0))) l0=some (.lst []):=by rw [upd_ne l0d]; exact w10
    have lo2d:lo2≠d:=fun k=>by rw [k,d10] at w710; cases w710
    have w711:upd H10 d (.dT (putK kvs (kN c.z (sideS c e)) (.ref l0))) lo2=some (.lst [.ref pe,.ref p2]):=by rw [upd_ne lo2d]; exact w710
    have p711:upd H10 d (.dT (putK kvs (kN c.z (sideS c e)) (.ref l0))) p2=some (.tup [sV b.z,sV a.z]):=tups_upd d10 (by intro xs q; cases q) _ _ p710
    have s011:Same H (upd H10 d (.dT (putK kvs (kN c.z (sideS c e)) (.ref l0)))):=Same.set s010 hd _
    generalize upd H10 d (.dT (putK kvs (kN c.z (sideS c e)) (.ref l0)))=H11 at *
    refine ⟨.inl ⟨rfl,_,SqL.of w11⟩,_,rfl,_,rfl,two,fun pn hpn => ?_⟩
    have s12:=Same.new hpn (.tup [sV e.z,.int (lenS c e)])
    have w12:upd H11 pn (.tup [sV e.z,.int (lenS c e)]) pn=some (.tup [sV e.z,.int (lenS c e)]):=upd_same
    generalize upd H11 pn (.tup [sV e.z,.int (lenS c e)])=H12 at *
    have k1':=s12 _ _ w11
    have tt:Tups H12 (upd H12 l0 (.lst ([]++[.ref pn]))):=tups_upd k1' (by intro xs q; cases q)
    refine ⟨l0,[],_,rfl,rfl,k1',(by show 0 < sizeLine; decide),?_⟩
    refine ⟨Same.set (s011.trans s12) n10 _,by rw [upd_ne (Ne.symm l02)]; exact s12 _ _ w711,tt _ _ (s12 _ _ p711),by omega,⟨fun z' sd'=>Pr7 z' sd'∨(z'=c.z∧sd'=sideS c e),fun z' sd'=>if z'=c.z∧sd'=sideS c e then l0 else lo7 z' sd',?_,fun z sd p => ?_⟩,_,_,_,_,rfl⟩
    rotate_left
    · show (if z=c.z∧sd=sideS c e then l0 else lo7 z sd)≠lo2
      by_cases k:z=c.z∧sd=sideS c e
      · rw [if_pos k]; exact l02
      · rw [if_neg k]; exact ne7 z sd (p.resolve_right k)
    rw [eEn]
    have el:(if c.z=c.z∧sideS c e=sideS c e then l0 else lo7 c.z (sideS c e))=l0:=if_pos ⟨rfl,rfl⟩
    have hE:Ej j c.z (sideS c e)=[]:=nr10.no _ _ hP
    have ap:=(nrn.up s12).app (z:=c.z) (sd:=sideS c e) (us:=[]) (pn:=pn) (e:=(e.z,lenS c e)) (.inr ⟨rfl,rfl⟩) (by rw [el]; exact k1') (by rw [hE]; exact .nil) w12
    rw [el] at ap
    exact ap.le (by omega)
end
end Qs


namespace Qs
open PySem L2
theorem shl_pow (n:Nat):(1:Int) * 2 ^ ((n:Int)).toNat=((2 ^ n:Nat):Int):=by rw [Int.toNat_natCast]; simp

def txD (ss:List Str):PyData:=.list (ss.map PyData.str)
theorem txs_dats {H:Hp}:∀ (ss:List Str),Dats H (ss.map V.str) (ss.map PyData.str)
  | []=>.nil
  | x::ss=>.cons (.str x) (txs_dats ss)
theorem txs_lay {ss:List Str} (h:∀ x∈ss,PyData.strOk x=true):PyData.canLayAll0 (ss.map PyData.str)=true∧PyData.depthAll (ss.map PyData.str)=0:=by
  induction ss with
  | nil=>exact ⟨rfl,rfl⟩
  | cons x r ih =>
    obtain ⟨i1,i2⟩:=ih fun y hy=>h y (List.mem_cons_of_mem _ hy)
    refine ⟨?_,?_⟩
    · show (PyData.strOk x && PyData.canLayAll0 (r.map PyData.str))=true
      rw [h x List.mem_cons_self,i1]; rfl
    · show max 0 (PyData.depthAll (r.map PyData.str))=0
      omega
theorem txs_shaped {ss:List Str} (h:∀ x∈ss,PyData.strOk x=true):SeqAt.shaped (txD ss)=true:=by
  obtain ⟨e1,e2⟩:=txs_lay h
  unfold SeqAt.shaped txD
  show (PyData.canLayAll0 (ss.map PyData.str) && decide (PyData.depthAll (ss.map PyData.str) + 1≤64))=true
  rw [e1,e2]; rfl
theorem txs_eqv:∀ (ss:List Str),PyData.eqv (txD ss) (txD ss)=true
  | []=>rfl
  | x::ss=>by
    have ih:=txs_eqv ss
    show (x == x && PyData.eqv (txD ss) (txD ss))=true
    rw [ih]
    simp
theorem sum_cast (f:Sq→Nat):∀ qs:List Sq,(qs.map fun q=>((f q:Nat):Int)).sum=(((qs.map f).sum:Nat):Int)
  | []=>rfl
  | q::qs=>by
    rw [List.map_cons,List.sum_cons,sum_cast f qs,List.map_cons,List.sum_cons,Int.natCast_add]

theorem valV_mem {kvs:List (Key × V)} {k:Key} {v:V}:(kvs.map (·.1)).Nodup→(k,v)∈kvs→valV kvs k=some v:=by
  induction kvs with
  | nil=>intro _ h; cases h
  | cons p r ih =>
    intro nd h
    rw [List.map_cons,List.nodup_cons] at nd
    rcases List.mem_cons.mp h with rfl | h
    · exact valV_pos rfl
    · rw [valV_neg fun e=>nd.1 (e▸List.mem_map.mpr ⟨_,h,rfl⟩)]
      exact ih nd.2 h
def kpI (e:List Nat × Int):Pky:=((txt e.1).cps.toList,e.2,[])
theorem kpI_lt {d e:List Nat × Int} (h:d.1 < e.1):ltP (kpI d) (kpI e)=true:=by
  have h':=txt_lt h
  have hv:ltP (kpI d) (kpI e)=if (txt d.1).cps.toList=(txt e.1).cps.toList then (if d.2=e.2 then decide (([]:List Nat) < []) else decide (d.2 < e.2)) else decide ((txt d.1).cps.toList < (txt e.1).cps.toList):=rfl
  rw [hv,if_neg fun c=>by rw [c] at h'; exact List.lt_irrefl _ h']
  exact decide_eq_true h'
theorem ent_back {H:Hp}:∀ {us:List V} {EE:List (List Nat × Int)},Paired (EnV H) us EE→∃ as:List Addr,us=as.map V.ref∧as.map (pkH H)=EE.map kpI∧Prs H false as
  | _,_,.nil=>⟨[],rfl,rfl,fun _ h=>nomatch h⟩
  | _,_,.cons (a:=u) (b:=d) ⟨p,e,hp⟩ t=>by
    obtain ⟨as,h1,h2,h3⟩:=ent_back t
    refine ⟨p::as,by rw [h1,e]; rfl,?_,fun a ha => ?_⟩
    · rw [List.map_cons,List.map_cons,h2]
      congr 1
      unfold pkH
      rw [hp]
      rfl
    · rcases List.mem_cons.mp ha with rfl | ha
      · exact ⟨_,_,hp,⟨_,rfl⟩⟩
      · exact h3 a ha
theorem pw_inj {α:Type} {g:α→Pky}:∀ {l:List α} {a b:α},l.Pairwise (fun x y=>ltP (g x) (g y)=true)→a∈l→b∈l→g a=g b→a=b
  | [],_,_,_,h,_,_=>by cases h
  | x::l,a,b,hp,ha,hb,e=>by
    obtain ⟨h1,h2⟩:=List.pairwise_cons.mp hp
    rcases List.mem_cons.mp ha with ea | ha
    · rcases List.mem_cons.mp hb with eb | hb
      · rw [ea,eb]
      · have:=h1 b hb
        rw [← ea,e,lin_P.irr] at this
        cases this
    · rcases List.mem_cons.mp hb with eb | hb
      · have:=h1 a ha
        rw [← eb,e,lin_P.irr] at this
        cases this
      · exact pw_inj h2 ha hb e
theorem sorted_same {H:Hp} {as as':List Addr} {EE:List (List Nat × Int)} (h:as.map (pkH H)=EE.map kpI) (hE:EE.Pairwise fun d e=>d.1 < e.1) (pm:as'.Perm as) (pw:as'.Pairwise fun x y=>ltP (pkH H y) (pkH H x)=false):as'=as:=by
  have st:as.Pairwise fun x y=>ltP (pkH H x) (pkH H y)=true:=by
    rw [← List.pairwise_map (f:=pkH H) (R:=fun x y=>ltP x y=true),h,List.pairwise_map]
    exact hE.imp kpI_lt
  refine List.Perm.eq_of_pairwise (le:=fun x y=>ltP (pkH H y) (pkH H x)=false) (fun x y hx hy h1 h2=>pw_inj st (pm.mem_iff.mp hx) hy (lin_P.tot _ _ h2 h1)) pw (st.imp fun {x y} h1 => ?_) pm
  cases c:ltP (pkH H y) (pkH H x) with
  | false=>rfl
  | true =>
    have:=lin_P.tr _ _ _ c h1
    rw [lin_P.irr] at this
    cases this

def vE (n:Nat) (q:Sq) (ax s:Bool):Int:=if endB ax s n q=true then 0 else (q.w:Int)
def vals (n:Nat) (q:Sq):List Int:=[vE n q true true,vE n q false false,vE n q true false,vE n q false true]
theorem vals_all (n:Nat) (q:Sq):(q.w:Int) * endsS n q + (vals n q).sum=4 * (q.w:Int):=by
  have h:∀ b:Bool,(q.w:Int) * bI b + (if b=true then (0:Int) else (q.w:Int))=(q.w:Int):=fun b=>by cases b <;> simp [bI]
  have h1:=h (endB true true n q)
  have h2:=h (endB false false n q)
  have h3:=h (endB true false n q)
  have h4:=h (endB false true n q)
  unfold endsS vals vE
  rw [Int.mul_add,Int.mul_add,Int.mul_add]
  simp only [List.sum_cons,List.sum_nil]
  generalize (q.w:Int) * bI (endB true true n q)=x1 at *
  generalize (q.w:Int) * bI (endB false false n q)=x2 at *
  generalize (q.w:Int) * bI (endB true false n q)=x3 at *
  generalize (q.w:Int) * bI (endB false true n q)=x4 at *
  omega
theorem side_of2 {n:Nat} {q:Sq} {i:Nat} {x:V} (h:sideV[i]? = some x):∃ (side s1 s2:Str) (dx dy:Int) (ax s:Bool),x=.str side∧Dir side s1 s2 dx dy∧DirA side ax s∧dig s2=nearOf ax s∧dx=(if ax then 0 else if s then -1 else 1)∧dy=(if ax then (if s then -1 else 1) else 0)∧(vals n q)[i]? = some (vE n q ax s):=by
  rcases i with _ | _ | _ | _ | i
  · exact ⟨"up",_,_,_,_,true,true,(Option.some.inj h).symm,.inl ⟨rfl,rfl,rfl,rfl,rfl⟩,.inl ⟨rfl,rfl,rfl⟩,by decide +kernel,rfl,rfl,rfl⟩
  · exact ⟨"right",_,_,_,_,false,false,(Option.some.inj h).symm,.inr (.inl ⟨rfl,rfl,rfl,rfl,rfl⟩),.inr (.inl ⟨rfl,rfl,rfl⟩),by decide +kernel,rfl,rfl,rfl⟩
  · exact ⟨"down",_,_,_,_,true,false,(Option.some.inj h).symm,.inr (.inr (.inl ⟨rfl,rfl,rfl,rfl,rfl⟩)),.inr (.inr (.inl ⟨rfl,rfl,rfl⟩)),by decide +kernel,rfl,rfl,rfl⟩
  · exact ⟨"left",_,_,_,_,false,true,(Option.some.inj h).symm,.inr (.inr (.inr ⟨rfl,rfl,rfl,rfl,rfl⟩)),.inr (.inr (.inr ⟨rfl,rfl,rfl⟩)),by decide +kernel,rfl,rfl,rfl⟩
  · exact absurd h (by simp [sideV])
section
variable {P:Program} {w:World} {K:PySem.W.Frag} {mg:Str→Option Value} {base:Heap} {CX:CXT} {f:Addr} {fd:FuncData}
abbrev s_law:Stmt:=top 38
theorem sc_law:FnScope ["_law_script","_law_level","_law_many","_law_tree","_law_some","_law_places","_law_found","_law_near","_law_one","_law_side_here","_law_here"] ["_law_script"] (defScope s_law):=⟨rfl,rfl,rfl,by decide +kernel,rfl,by decide +kernel,by decide +kernel⟩
def sp_law (K:PySem.W.Frag):Sp:=fun vs H Q _=>∃ (a:Addr) (ns:List Int),vs=[.ref a]∧SqL K H a (ns.map V.int)∧ns.length≤63∧∀ H',Q (.bl true) H'
theorem ok_law (T:Tx K mg) (Y:Yx K mg) (q:Quiet (CXe P w)) (F:FunD K "law" "law" s_law f fd .none) (C__law_at:Fok P w K mg base (CXe P w) 1 "_law_at" ["_law_script","_law_k"] [] (sp_law_at K)) (C__law_level_by:Fok P w K mg base (CXe P w) 1 "_law_level_by" ["_law_cell"] [] sp_law_level_by)
    (C__law_tree_by:Fok P w K mg base (CXe P w) 43 "_law_tree_by" ["_law_script","_law_first","_law_level","_law_many"] [] (sp_law_tree_by K)) (C__law_squares:Fok P w K mg base (CXe P w) 42 "_law_squares" ["_law_tree","_law_code","_law_x","_law_y","_law_wide"] [] (sp_law_squares 41)) (C_touches:Fok P w K mg base (CXe P w) 44 "touches" ["sheet"] [] sp_touches) (C__law_met:Fok P w K mg base (CXe P w) 2 "_law_met" ["_law_found","_law_places"] [] sp_law_met)
    (C__law_ends:Fok P w K mg base (CXe P w) 1 "_law_ends" ["_law_one","_law_wide"] [] sp_law_ends) (C_beyond:Fok P w K mg base (CXe P w) 44 "beyond" ["sheet","code","side"] [] (sp_beyond Y)) :
    FnOk P w K mg base (CXe P w) 45 f fd ["_law_script"] (sp_law K):=by
  refine F.ok sc_law (fun vs H Q E h => ?_) (fun cdv A outer s H vs Q E hr h => ?_)
  · obtain ⟨_,_,rfl,_⟩:=h
    rfl
  obtain ⟨a,ns,rfl,hS,h63,q'⟩:=h
  refine ⟨_,(pss_cons (ps_set (i:=1) sc_law.nd rfl (Or.inl rfl) (pe_callF C__law_level_by q hr (pa_cons (pe_callF C__law_at q hr (pa_cons (pv 0) (pa_cons pe_int pa_nil))) pa_nil))) (pss_cons (ps_set (i:=2) sc_law.nd rfl (Or.inl rfl) (pe_callB (call_min2 rfl) rfl T.b_min bb_min (pa_cons (pe_op op_mod (pe_callF C__law_at q hr (pa_cons (pv 0) (pa_cons pe_int pa_nil))) pe_int) (pa_cons (pe_op op_sub (pe_op op_add pe_int (pe_op op_mul pe_int (pe_callTy call_int1 rfl T.b_int bt_int (pa_cons (pe_cmpR op_lt (pv 1) pe_int (nomark _)) pa_nil)))) (pe_callTy call_int1 rfl T.b_int bt_int (pa_cons (pe_cmpR op_gt (pv 1) pe_int (nomark _)) pa_nil))) pa_nil)))) (pss_cons (ps_set (i:=3) sc_law.nd rfl (Or.inl rfl) (pe_callF C__law_tree_by q hr (pa_cons (pv 0) (pa_cons pe_int (pa_cons (pv 1) (pa_cons (pv 2) pa_nil)))))) (pss_cons (ps_set (i:=4) sc_law.nd rfl (Or.inl rfl) (pe_callF C__law_squares q hr (pa_cons (pv 3) (pa_cons pe_str (pa_cons pe_int (pa_cons pe_int (pa_cons (pe_op op_shl pe_int (pv 1)) pa_nil))))))) (pss_cons (ps_set (i:=5) sc_law.nd rfl (Or.inl rfl) (pe_callTy (call_dictL rfl) rfl T.b_dict bt_dict (pa_cons (pe_compC (N':=["_law_one"]) [] [] [] 1 (by with_unfolding_all rfl) rfl capsOk_nil rfl rfl (by decide) rfl (by decide +kernel) rfl (by decide +kernel) rfl (pi_list (pv 4)) (fun C s0 H0 fp pins=>(pg_name (i:=0) (show (["_law_one"]:List Str).Nodup by decide +kernel) rfl (Or.inl rfl) (Or.inr rfl))) (fun C s0 H0 fp pins=>(pe_tupx (pax_c (pe_ix (ix_tupK (K:=K)) (pv 0) pe_int (fun _ _=>rfl)) (pax_c (pv 0) pax_nil))))) pa_nil))) (pss_cons (ps_set (i:=6) sc_law.nd rfl (Or.inl rfl) (pe_callF C_touches q hr (pa_cons (pe_tupx (pax_c (pv 1) (pax_c (pv 3) pax_nil))) pa_nil))) (pss_cons (ps_if (pt_not (pt_val (pe_callB (call_isiT "list") rfl T.b_isinstance bb_isinstance (pa_cons (pv 6) (pa_cons (pe_bty T.b_list bt_list) pa_nil))))) (pss_one (ps_ret pe_bl)) pss_nil) (pss_cons (ps_set (i:=7) sc_law.nd rfl (Or.inl rfl) (pe_callF C__law_met q hr (pa_cons (pv 6) (pa_cons (pv 5) pa_nil)))) (pss_cons (ps_if (pt_cmpR op_isN (pv 7) pe_non (nomark _)) (pss_one (ps_ret pe_bl)) pss_nil) (pss_cons (ps_for PassesOwn.never rfl (pi_list (pv 4)) (pg_name (i:=8) sc_law.nd rfl (Or.inl rfl)) (pss_cons (ps_set (i:=2) sc_law.nd rfl (Or.inl rfl) (pe_callF C__law_ends q hr (pa_cons (pv 8) (pa_cons (pe_op op_shl pe_int (pv 1)) pa_nil)))) (pss_cons (ps_for PassesOwn.never rfl (pi_list (pe_lstx (pax_c pe_str (pax_c pe_str (pax_c pe_str (pax_c pe_str pax_nil)))))) (pg_name (i:=9) sc_law.nd rfl (Or.inl rfl)) (pss_cons (ps_set (i:=10) sc_law.nd rfl (Or.inl rfl) (pe_callB (call_sortP rfl) rfl T.b_sorted bt_sorted (pa_cons (pe_dget2 hr.dic (pv 7) (pe_tupx (pax_c (pe_ix ix_tup (pv 8) pe_int (fun _ _=>rfl)) (pax_c (pv 9) pax_nil))) (pe_lstx pax_nil) ⟨rfl,rfl,rfl,rfl⟩) pa_nil))) (pss_cons (ps_set (i:=2) sc_law.nd rfl (Or.inl rfl) (pe_op op_add (pv 2) (pe_callB (call_sumL rfl) rfl T.b_sum bb_sum (pa_cons (pe_compC (N':=["_law_entry"]) [] [] [] 1 (by with_unfolding_all rfl) rfl capsOk_nil rfl rfl (by decide) rfl (by decide +kernel) rfl (by decide +kernel) rfl (pi_list (pv 10)) (fun C s0 H0 fp pins=>(pg_name (i:=0) (show (["_law_entry"]:List Str).Nodup by decide +kernel) rfl (Or.inl rfl) (Or.inr rfl))) (fun C s0 H0 fp pins=>(pe_ix (ix_tupK (K:=K)) (pv 0) pe_int (fun _ _=>rfl)))) pa_nil)))) (pss_one (ps_if (pt_cmpR (op_neD hr) (pe_callF C_beyond q hr (pa_cons (pe_tupx (pax_c (pv 1) (pax_c (pv 3) pax_nil))) (pa_cons (pe_ix ix_tup (pv 8) pe_int (fun _ _=>rfl)) (pa_cons (pv 9) pa_nil)))) (pe_compC (N':=["_law_entry"]) [] [] [] 1 (by with_unfolding_all rfl) rfl capsOk_nil rfl rfl (by decide) rfl (by decide +kernel) rfl (by decide +kernel) rfl (pi_list (pv 10)) (fun C s0 H0 fp pins=>(pg_name (i:=0) (show (["_law_entry"]:List Str).Nodup by decide +kernel) rfl (Or.inl rfl) (Or.inr rfl))) (fun C s0 H0 fp pins=>(pe_ix (ix_tupK (K:=K)) (pv 0) pe_int (fun _ _=>rfl)))) (nomark _)) (pss_one (ps_ret pe_bl)) pss_nil))))) (pss_one (ps_if (pt_cmpR op_ne (pv 2) (pe_op op_mul pe_int (pe_ix ix_tup (pv 8) pe_int (fun _ _=>rfl))) (nomark _)) (pss_one (ps_ret pe_bl)) pss_nil))))) (pss_one (ps_ret pe_bl)))))))))))),?_⟩
  have two:2≤sizeLine:=by decide
  refine ⟨_,rfl,a,ns,0,rfl,hS,h63,cell ns 0,rfl,fun n hn => ?_⟩
  refine ⟨_,rfl,a,ns,2,rfl,hS,h63,_,_,rfl,rfl,(by show (0:Int) < 13; decide),_,rfl,_,_,rfl,rfl,.inr ⟨_,rfl,_,_,rfl,rfl,.inl ⟨by decide,by decide⟩,_,_,rfl,rfl,_,rfl,_,_,rfl,rfl,.inr ⟨_,rfl,_,_,rfl,rfl,_,_,rfl,?_⟩⟩⟩
  dsimp only
  obtain ⟨many,hmany,em⟩:∃ m:Nat,m≤12∧(if ((2 + 10 * if decide ((n:Int) < 5)=true then 1 else 0) - if decide ((20:Int) < (n:Int))=true then 1 else 0) < cell ns 2 % 13 then (2 + 10 * if decide ((n:Int) < 5)=true then 1 else 0) - if decide ((20:Int) < (n:Int))=true then 1 else 0 else cell ns 2 % 13)=(m:Int):=by
    have g:∀ x:Int,0≤x→x≤12→∃ m:Nat,m≤12∧x=(m:Int):=fun x h1 h2=>⟨x.toNat,by omega,by omega⟩
    refine g _ ?_ ?_
    · cases decide ((n:Int) < 5) <;> cases decide ((20:Int) < (n:Int)) <;> simp only [if_true,if_false,Bool.false_eq_true] <;> split <;> omega
    · cases decide ((n:Int) < 5) <;> cases decide ((20:Int) < (n:Int)) <;> simp only [if_true,if_false,Bool.false_eq_true] <;> split <;> omega
  rw [em]
  refine ⟨_,rfl,_,rfl,_,rfl,a,ns,4,n,many,rfl,hS,h63,by omega,hn,hmany,fun v t H1 s1 ht gt ct => ?_⟩
  have hS1:=s1.seq hS
  have cpow:CPow 1 (n:Int):=⟨by omega,by omega,by decide⟩
  have d0:dig ("" : Str)=[]:=by decide +kernel
  have l0:("" : Str).length=0:=by decide +kernel
  refine ⟨_,rfl,_,rfl,_,_,rfl,rfl,cpow,v,t,("" : Str),n,0,0,(by rw [← shl_pow]; rfl),ht,gt,empty_eq▸IsC.nil,by omega,by omega,by decide,by omega,fun l us H2 s2 hl u2 hus => ?_⟩
  rw [d0] at hus
  have lus:=hus.len
  have lc:=sqs_len t [] 0 0 n
  obtain ⟨L,eL⟩:∃ L,L=sqs [] t 0 0 n:=⟨_,rfl⟩
  rw [← eL] at hus lus lc
  have hB:L.Pairwise Bef:=by rw [eL]; exact sqs_bef t [] 0 0 n gt
  have hin:∀ q∈L,0 < q.w∧q.w≤2 ^ n:=fun q1 h1=>by
    obtain ⟨i1,i2,i3,i4,i5⟩:=sqs_in t [] 0 0 n gt q1 (by rw [← eL]; exact h1)
    exact ⟨i5,by omega⟩
  have p40:2 ^ n≤2 ^ 40:=Nat.pow_le_pow_right (by decide) hn
  have hwL:∀ q∈L,0 < q.w:=fun q1 h1=>(hin q1 h1).1
  have big:∀ {k:Nat},k≤1000000→k≤sizeLine:=fun {k} h=>Nat.le_trans h (by decide)
  obtain ⟨kvl,ekv⟩:∃ kvl:List (Key × V),kvl=(L.zip us).map fun p=>(ky p.1.z,p.2):=⟨_,rfl⟩
  have lkv:kvl.length=us.length:=by rw [ekv,List.length_map,List.length_zip]; omega
  have atk:∀ {i:Nat} {u:V} {q1:Sq},us[i]? = some u→L[i]? = some q1→kvl[i]? = some (ky q1.z,u):=fun {i u q1} h1 h2=>by
    rw [ekv,List.getElem?_map,show (L.zip us)[i]? = some (q1,u) from List.getElem?_zip_eq_some.mpr ⟨h2,h1⟩]
    rfl
  have ndk:(kvl.map (·.1)).Nodup:=by
    have e:kvl.map (·.1)=L.map fun q=>ky q.z:=by
      rw [ekv,List.map_map]
      have:∀ (A:List Sq) (B:List V),A.length=B.length→(A.zip B).map ((·.1) ∘ fun p=>(ky p.1.z,p.2))=A.map fun q=>ky q.z:=by
        intro A
        induction A with
        | nil=>intro B _; rfl
        | cons x A ih =>
          intro B hB
          cases B with
          | nil=>cases hB
          | cons y B =>
            rw [List.zip_cons_cons,List.map_cons,List.map_cons,ih B (by simpa using hB)]
            rfl
      exact this L us (by omega)
    rw [e]
    unfold List.Nodup
    rw [List.pairwise_map]
    exact hB.imp fun {x y} h c=>bef_z h (ky_inj c)
  refine ⟨[],rfl,_,rfl,l,rfl,⟨_,SqL.of u2⟩,compC_list us (fun D (j:Nat) ys H'=>Same H2 H'∧H' D=some (.lst ys)∧j≤us.length∧∃ as:List Addr,ys=as.map V.ref∧PairsAt H' as (kvl.take j)) (big (by omega)) (fun D j ys H' h=>SqL.of (h.1 _ _ u2))
    (fun D j ys H' h => ?_) (fun D hD=>⟨Same.new hD _,upd_same,Nat.zero_le _,[],rfl,.nil⟩) ?_ ?_ ?_ ?_⟩
  · obtain ⟨_,h2,h3,as,rfl,h5⟩:=h
    refine ⟨h2,?_⟩
    have:=Paired.length h5
    rw [List.length_take] at this
    rw [List.length_map]
    omega
  · rintro D j u ys H3 hu hD ⟨c1,c2,c3,as,rfl,hP⟩
    obtain ⟨q1,eq1,p1,rfl,hp1,_⟩:=hus.get hu
    have hju:=(List.getElem?_eq_some_iff.mp hu).1
    refine ⟨rfl,_,rfl,p1,_,_,_,rfl,rfl,SqT.of (c1 _ _ hp1),rfl,_,rfl,two,fun pn hpn => ?_⟩
    have s4:=Same.new hpn (.tup [sV q1.z,.ref p1])
    have w4:upd H3 pn (.tup [sV q1.z,.ref p1]) pn=some (.tup [sV q1.z,.ref p1]):=upd_same
    generalize upd H3 pn (.tup [sV q1.z,.ref p1])=H4 at *
    have c24:=s4 _ _ c2
    have tt:Tups H4 (upd H4 D (.lst (as.map V.ref++[.ref pn]))):=tups_upd c24 (by intro xs q; cases q)
    refine ⟨c24,Same.set (c1.trans s4) hD _,upd_same,hju,as++[pn],by rw [List.map_append]; rfl,?_⟩
    rw [List.take_add_one,atk hu eq1]
    exact pair_app (Paired.mapP hP fun _ _ h=>tt _ _ (s4 _ _ h)) (.cons (tt _ _ w4) .nil)
  rotate_left
  · rintro x σ H' R R' k h
    exact k _ _ h
  · rintro σ H' R R' k ⟨_,h1,_,_,_,_,h2,h3,h4,h5,_,h6,h7,h8⟩
    exact ⟨_,h1,_,_,_,_,h2,h3,h4,h5,_,h6,h7,fun p hp=>k _ _ (h8 p hp)⟩
  rintro D ys H3 hD ⟨s3,uD,_,as,rfl,hP⟩
  rw [List.take_of_length_le (by omega)] at hP
  refine ⟨D,as,kvl,rfl,SqL.of uD,hP,ndk,fun pd hpd => ?_⟩
  have s4:=Same.new hpd (.dK kvl)
  have w4:upd H3 pd (.dK kvl) pd=some (.dK kvl):=upd_same
  generalize upd H3 pd (.dK kvl)=H4 at *
  have s24:=s3.trans s4
  refine ⟨_,rfl,_,rfl,two,fun ps hps => ?_⟩
  have s5:=Same.new hps (.tup [.int (n:Int),v])
  have w5:upd H4 ps (.tup [.int (n:Int),v]) ps=some (.tup [.int (n:Int),v]):=upd_same
  generalize upd H4 ps (.tup [.int (n:Int),v])=H5 at *
  have s25:=s24.trans s5
  have s15:=s2.trans s25
  refine ⟨ps,n,v,t,rfl,w5,ht.up s15.tups,gt,hn,by omega,fun lf uf H6 s6 hlf u6 hDu => ?_⟩
  rw [← eL] at hDu
  have s26:=s25.trans s6
  refine ⟨_,rfl,_,_,_,rfl,.lst u6,kit_ll,_,rfl,iteF ?_⟩
  have w46:=(s5.trans s6) _ _ w4
  refine ⟨_,rfl,_,rfl,lf,pd,uf,kvl,L,rfl,u6,hDu,w46,fun q1 h1 => ?_,hB,by omega,fun d lo Pr m H7 s7 nr => ?_⟩
  · obtain ⟨i,hi⟩:=List.getElem?_of_mem h1
    have hil:=(List.getElem?_eq_some_iff.mp hi).1
    obtain ⟨u,hu⟩:∃ u,us[i]? = some u:=⟨us[i],List.getElem?_eq_getElem (by omega)⟩
    obtain ⟨q2,eq2,vq⟩:=hus.get hu
    rw [hi] at eq2
    cases eq2
    exact ⟨u,valV_mem ndk (List.mem_of_getElem? (atk hu hi)),vq.up s26.tups⟩
  refine ⟨_,rfl,rfl,_,rfl,iteF ?_⟩
  have s27:=s26.trans s7
  have u27:=s27 _ _ u2
  refine ⟨_,rfl,l,rfl,⟨_,SqL.of u27⟩,for_list (xs:=us) (fun (i:Nat) σ H8=>Same H7 H8∧∃ (m2 o8 o9 o10:Option V),σ=[some (.ref a),some (.int (n:Int)),m2,some v,some (.ref l),some (.ref pd),some (.ref lf),some (.ref d),o8,o9,o10]) ⟨Same.refl _,_,_,_,_,rfl⟩ (fun i σ H8 _ h=>SqL.of (h.1 _ _ u27)) ?_ ?_⟩
  rotate_left
  · rintro σ H8 ⟨s8,m2,o8,o9,o10,rfl⟩
    exact q' _
  rintro i u σ H8 hu ⟨s8,m2,o8,o9,o10,rfl⟩
  obtain ⟨q1,eq1,v1⟩:=hus.get hu
  have hq1:=List.mem_of_getElem? eq1
  have s28:=s27.trans s8
  have v18:=v1.up s28.tups
  have ok1:SqOk q1 [] t 0 0 n:=sqs_ok t [] 0 0 n gt q1 (by rw [← eL]; exact hq1)
  refine ⟨_,rfl,_,rfl,_,_,rfl,rfl,cpow,u,q1,n,(by rw [← shl_pow]; rfl),v18,by have:=(hin q1 hq1).2; omega,?_⟩
  refine ⟨(by show 4≤sizeLine; decide),fun ls hls => ?_⟩
  generalize e9:upd H8 ls _=H9
  have s9:Same H8 H9:=e9▸Same.new hls _
  have w9:H9 ls=some (.lst sideV):=by rw [← e9]; exact upd_same
  have s79:=s8.trans s9
  refine ⟨ls,rfl,⟨_,SqL.of w9⟩,for_list (xs:=sideV) (fun (j:Nat) σ H10=>Same H9 H10∧∃ (o9 o10:Option V),σ=[some (.ref a),some (.int (n:Int)),some (.int ((q1.w:Int) * endsS n q1 + ((vals n q1).take j).sum)),some v,some (.ref l),some (.ref pd),some (.ref lf),some (.ref d),some u,o9,o10]) ⟨Same.refl _,_,_,by rw [List.take_zero,List.sum_nil,Int.add_zero]; rfl⟩ (fun j σ H10 _ h=>SqL.of (h.1 _ _ w9)) ?_ ?_⟩
  rotate_left
  · rintro σ H10 ⟨s10,o9',o10',rfl⟩
    obtain ⟨p1,rfl,hp1,_⟩:=id v1
    have e4:(q1.w:Int) * endsS n q1 + ((vals n q1).take sideV.length).sum=4 * (q1.w:Int):=vals_all n q1
    have hp110:=(s28.trans (s9.trans s10)) _ _ hp1
    refine ⟨_,rfl,_,rfl,p1,_,_,_,rfl,rfl,SqT.of hp110,rfl,_,_,rfl,rfl,.inl ⟨by decide,by decide⟩,rfl,_,rfl,ite2 (fun c => ?_) (fun _=>⟨s79.trans s10,_,_,_,_,rfl⟩)⟩
    have c':(!decide (V.int ((q1.w:Int) * endsS n q1 + ((vals n q1).take sideV.length).sum)=V.int (4 * (q1.w:Int))))=true:=c
    rw [e4] at c'
    simp at c'
  rintro j x σ H10 hx ⟨s10,o9',o10',rfl⟩
  obtain ⟨side,b1,b2,dx,dy,ax,sd,rfl,hd,hda,e2,ex,ey,ev⟩:=side_of2 (n:=n) (q:=q1) hx
  obtain ⟨p1,rfl,hp1,_⟩:=id v1
  have s710:=s79.trans s10
  have s210:=s27.trans s710
  have hp110:=s210 _ _ hp1
  have nr10:=nr.up s710
  obtain ⟨kvs,d10,_,v10,w10⟩:=nr10.ex
  obtain ⟨EE,eEE⟩:∃ EE,EE=(L.filter fun r=>liesB ax sd q1 r.x r.y r.w).map fun r=>(r.z,lenS q1 r):=⟨_,rfl⟩
  have eN:nrE (duePS L) q1.z side=EE:=by rw [eEE]; exact noted hda hB hwL hq1
  have ascE:EE.Pairwise fun d e=>d.1 < e.1:=by
    rw [eEE,List.pairwise_map]
    exact (hB.filter _).imp fun h=>h.2
  refine ⟨_,rfl,d,rfl,.inr ⟨_,.inl d10⟩,_,rfl,p1,_,_,_,rfl,rfl,SqT.of hp110,rfl,_,rfl,two,fun pk hpk => ?_⟩
  have s11:=Same.new hpk (.tup [sV q1.z,.str side])
  have w11:upd H10 pk (.tup [sV q1.z,.str side]) pk=some (.tup [sV q1.z,.str side]):=upd_same
  generalize upd H10 pk (.tup [sV q1.z,.str side])=H11 at *
  refine ⟨(by show 0≤sizeLine; decide),fun le hle => ?_⟩
  have s12:=Same.new hle (.lst [])
  have w12:upd H11 le (.lst []) le=some (.lst []):=upd_same
  generalize upd H11 le (.lst [])=H12 at *
  have s1012:=s11.trans s12
  have d12:=s1012 _ _ d10
  have nr12:=nr10.up s1012
  refine ⟨valV kvs (kN q1.z side),DGet.t (k:=kN q1.z side) d12 (s12 _ _ w11),?_⟩
  have got:∃ (lh:Addr) (uh:List V),(valV kvs (kN q1.z side)).getD (.ref le)=.ref lh∧H12 lh=some (.lst uh)∧Paired (EnV H12) uh EE:=by
    by_cases hP:Pr q1.z side
    · obtain ⟨uh,k1,k2⟩:=nr12.at_ _ _ hP
      rw [eN] at k2
      exact ⟨_,uh,by rw [w10 _ _ hP]; rfl,k1,k2⟩
    · have e0:EE=[]:=by rw [← eN]; exact nr12.no _ _ hP
      exact ⟨le,[],by rw [v10 _ _ hP]; rfl,w12,by rw [e0]; exact .nil⟩
  obtain ⟨lh,uh,eg,hlh,hE⟩:=got
  rw [eg]
  obtain ⟨as2,eas2,hk,hPr⟩:=ent_back hE
  refine ⟨lh,false,as2,rfl,SqL.of (by rw [hlh,eas2]),hPr,fun S as' hS' pm pw => ?_⟩
  have e':=sorted_same hk ascE pm pw
  subst e'
  rw [← eas2]
  have s13:=Same.new hS' (.lst uh)
  have w13:upd H12 S (.lst uh) S=some (.lst uh):=upd_same
  generalize upd H12 S (.lst uh)=H13 at *
  have hE13:=env_up hE s13.tups
  have luh:=Paired.length hE13
  have lEE:EE.length≤1500:=by
    rw [eEE,List.length_map]
    have:=List.length_filter_le (fun r=>liesB ax sd q1 r.x r.y r.w) L
    omega
  have entat:∀ {i:Nat} {y:V},uh[i]? = some y→∃ e p,EE[i]? = some e∧y=.ref p∧H13 p=some (.tup [sV e.1,.int e.2]):=fun {i y} hy=>by
    have go:∀ {A:List V} {B:List (List Nat × Int)} {i:Nat},Paired (EnV H13) A B→A[i]? = some y→∃ e p,B[i]? = some e∧y=.ref p∧H13 p=some (.tup [sV e.1,.int e.2]):=fun {A B i} h=>by
      induction h generalizing i with
      | nil=>intro e; simp at e
      | cons p _ ih =>
        intro e
        rcases i with _ | i
        · obtain ⟨pp,e1,e2⟩:=p
          exact ⟨_,pp,rfl,by rw [← Option.some.inj e]; exact e1,e2⟩
        · exact ih (by simpa using e)
    exact go hE13 hy
  have bigu:uh.length≤sizeLine:=big (by omega)
  have esum:(EE.map (·.2)).sum=vE n q1 ax sd:=by
    have e1:EE.map (·.2)=(L.filter fun r=>liesB ax sd q1 r.x r.y r.w).map fun r=>((olap (tC' ax q1.x q1.y) q1.w (tC' ax r.x r.y) r.w:Nat):Int):=by
      rw [eEE,List.map_map]
      refine List.map_congr_left fun r hr => ?_
      obtain ⟨h1,h2⟩:=List.mem_filter.mp hr
      have ap:Apart q1 r:=by
        rcases apart_of hB hq1 h1 with e | ap
        · subst e
          rw [lies_self (hwL _ hq1)] at h2
          cases h2
        · exact ap
      exact len_olap (hwL _ hq1) (hwL _ h1) ap h2
    rw [e1,sum_cast]
    have al:=along_side (ax:=ax) (s:=sd) gt (q:=q1) (by rw [← eL]; exact hq1)
    rw [← eL] at al
    rw [al]
    unfold vE
    split <;> rfl
  refine ⟨_,rfl,[],rfl,_,rfl,S,rfl,⟨_,SqL.of w13⟩,compC_list uh (fun D2 (k:Nat) ys H'=>Same H13 H'∧H' D2=some (.lst ys)∧k≤uh.length∧ys=((EE.map (·.2)).take k).map V.int) bigu (fun D2 k ys H' h=>SqL.of (h.1 _ _ w13))
    (fun D2 k ys H' h=>⟨h.2.1,by rw [h.2.2.2]; simp; omega⟩) (fun D2 hD2=>⟨Same.new hD2 _,upd_same,Nat.zero_le _,rfl⟩) ?_ ?_ ?_ ?_⟩
  · rintro D2 k y ys H14 hy hD2 ⟨c1,c2,c3,c4⟩
    obtain ⟨e,pe,eE,rfl,hpe⟩:=entat hy
    refine ⟨rfl,_,rfl,pe,_,_,_,rfl,rfl,SqT.of (c1 _ _ hpe),rfl,c2,Same.set c1 hD2 _,upd_same,(List.getElem?_eq_some_iff.mp hy).1,?_⟩
    rw [List.take_add_one,List.getElem?_map,eE,c4,List.map_append]
    rfl
  rotate_left
  · rintro x σ H' R R' k h
    exact k _ _ h
  · rintro σ H' R R' k ⟨_,h1,_,_,_,_,h2,h3,h4,h5,h6⟩
    exact ⟨_,h1,_,_,_,_,h2,h3,h4,h5,k _ _ h6⟩
  rintro D2 ys H14 hD2 ⟨s14,uD2,_,c4⟩
  rw [List.take_of_length_le (by rw [List.length_map]; omega)] at c4
  subst c4
  refine ⟨D2,EE.map (·.2),rfl,SqL.of uD2,_,_,rfl,rfl,?_⟩
  dsimp only
  rw [esum]
  have s1314:=s13.trans s14
  have s714:=s710.trans (s1012.trans s1314)
  have s214:=s27.trans s714
  refine ⟨_,rfl,_,rfl,two,fun ps2 hps2 => ?_⟩
  have s15':=Same.new hps2 (.tup [.int (n:Int),v])
  have w15:upd H14 ps2 (.tup [.int (n:Int),v]) ps2=some (.tup [.int (n:Int),v]):=upd_same
  generalize upd H14 ps2 (.tup [.int (n:Int),v])=H15 at *
  have s215:=s214.trans s15'
  obtain ⟨w1,z1,w4',wn,wl,_⟩:=id ok1
  rw [List.nil_append] at z1
  have c4':IsC (txt q1.z):=txt_isC (by rw [z1]; exact w4')
  have l4':(txt q1.z).length≤40:=by rw [txt_len,z1]; omega
  have lf4:leafB t (dig (txt q1.z))=true:=by unfold leafB; rw [dig_txt,z1,wn]
  refine ⟨_,rfl,p1,_,0,_,rfl,rfl,SqT.of (s215 _ _ hp1),rfl,_,rfl,ps2,n,v,.str side,sV q1.z,t,rfl,w15,ht.up (s2.trans s215).tups,gt,hn,by omega,.inr ⟨txt q1.z,rfl,c4',l4',lf4,bey_of gt ok1 hd e2 ex ey fun lb H16 s16 hlb u16 => ?_⟩⟩
  have w1316:=(s14.trans (s15'.trans s16)) _ _ w13
  have s1316:=s14.trans (s15'.trans s16)
  refine ⟨[],rfl,_,rfl,S,rfl,⟨_,SqL.of w1316⟩,compC_list uh (fun D3 (k:Nat) ys H'=>Same H16 H'∧H' D3=some (.lst ys)∧k≤uh.length∧ys=((EE.map (·.1)).take k).map sV) bigu (fun D3 k ys H' h=>SqL.of (h.1 _ _ w1316))
    (fun D3 k ys H' h=>⟨h.2.1,by rw [h.2.2.2]; simp; omega⟩) (fun D3 hD3=>⟨Same.new hD3 _,upd_same,Nat.zero_le _,rfl⟩) ?_ ?_ ?_ ?_⟩
  · rintro D3 k y ys H17 hy hD3 ⟨c1,c2,c3,c4⟩
    obtain ⟨e,pe,eE,rfl,hpe⟩:=entat hy
    refine ⟨rfl,_,rfl,pe,_,_,_,rfl,rfl,SqT.of ((s1316.trans c1) _ _ hpe),rfl,c2,Same.set c1 hD3 _,upd_same,(List.getElem?_eq_some_iff.mp hy).1,?_⟩
    rw [List.take_add_one,List.getElem?_map,eE,c4,List.map_append]
    rfl
  rotate_left
  · rintro x σ H' R R' k h
    exact k _ _ h
  · rintro σ H' R R' k ⟨_,h1,_,_,_,_,h2,h3,h4,h5,h6⟩
    exact ⟨_,h1,_,_,_,_,h2,h3,h4,h5,k _ _ h6⟩
  rintro D3 ys H17 hD3 ⟨s17,uD3,_,c4⟩
  rw [List.take_of_length_le (by rw [List.length_map]; omega)] at c4
  subst c4
  have ezs:fl (liesB ax sd q1) [] t 0 0 n=EE.map (·.1):=by
    rw [fl_sqs,← eL,eEE,List.map_map]
    rfl
  rw [ezs] at u16
  have emap:(EE.map (·.1)).map sV=((EE.map (·.1)).map txt).map V.str:=by rw [List.map_map (g:=V.str)]; rfl
  rw [emap] at u16 uD3
  have fok:∀ x∈(EE.map (·.1)).map txt,PyData.strOk x=true:=fun x hx=>by
    obtain ⟨z,hz,rfl⟩:=List.mem_map.mp hx
    obtain ⟨e,he,rfl⟩:=List.mem_map.mp hz
    rw [eEE] at he
    obtain ⟨r,hr,rfl⟩:=List.mem_map.mp he
    obtain ⟨w2,z2,k4,_⟩:=sqs_ok t [] 0 0 n gt r (by rw [← eL]; exact (List.mem_filter.mp hr).1)
    refine strOk_isC (txt_isC ?_)
    show ∀ d∈r.z,d < 4
    rw [z2,List.nil_append]
    exact k4
  generalize (EE.map (·.1)).map txt=fs at *
  refine ⟨txD fs,txD fs,.lst (s17 _ _ u16) (txs_dats fs),.lst uD3 (txs_dats fs),txs_shaped fok,txs_shaped fok,?_⟩
  rw [show (if true=true then !PyData.eqv (txD fs) (txD fs) else PyData.eqv (txD fs) (txD fs))=false by rw [txs_eqv]; rfl]
  refine ⟨_,rfl,iteF ⟨?_,some (.str side),some (.ref S),?_⟩⟩
  · exact s10.trans (s1012.trans (s13.trans (s1316.trans s17)))
  · have e5:((vals n q1).take (j + 1)).sum=((vals n q1).take j).sum + vE n q1 ax sd:=by
      rw [List.take_add_one,ev,List.sum_append]
      simp
    rw [e5,← Int.add_assoc]
    rfl
end
end Qs


namespace Qs
open PySem L2
theorem kd4 {P:Program} {w:World} {K:PySem.W.Frag} {aC p0 p1 p2 p3:Addr} {dk0 dk1 dk2 dk3:Tok} {nC:Nat} (y:K.lookup aC=some ⟨.type "dict",none,.dict #[⟨PyData.keyHash w.params "up",.str "up" dk0,.ref p0⟩,⟨PyData.keyHash w.params "right",.str "right" dk1,.ref p1⟩,⟨PyData.keyHash w.params "down",.str "down" dk2,.ref p2⟩,⟨PyData.keyHash w.params "left",.str "left" dk3,.ref p3⟩] nC,#[]⟩) :
    KD P w K aC [(.inr "up",.ref p0),(.inr "right",.ref p1),(.inr "down",.ref p2),(.inr "left",.ref p3)]:=by
  refine ⟨_,[(.inr "up",.ref p0),(.inr "right",.ref p1),(.inr "down",.ref p2),(.inr "left",.ref p3)],y,.cons ⟨rfl,rfl⟩ (.cons ⟨rfl,rfl⟩ (.cons ⟨rfl,rfl⟩ (.cons ⟨rfl,rfl⟩ .nil))),_,_,⟨rfl,rfl,rfl⟩,rfl,fun e he => ?_,.cons (kV_is ⟨_,rfl⟩) rfl (.cons (kV_is ⟨_,rfl⟩) rfl (.cons (kV_is ⟨_,rfl⟩) rfl (.cons (kV_is ⟨_,rfl⟩) rfl .nil))),(by show ([.inr "up",.inr "right",.inr "down",.inr "left"]:List Key).Nodup; decide +kernel)⟩
  simp only [List.mem_toArray,List.mem_cons,List.not_mem_nil,or_false] at he
  rcases he with rfl | rfl | rfl | rfl
  · exact ⟨.inr "up",kV_is ⟨_,rfl⟩,rfl⟩
  · exact ⟨.inr "right",kV_is ⟨_,rfl⟩,rfl⟩
  · exact ⟨.inr "down",kV_is ⟨_,rfl⟩,rfl⟩
  · exact ⟨.inr "left",kV_is ⟨_,rfl⟩,rfl⟩
end Qs
namespace Qs
open PySem L2
theorem all_mk {l:PySem.W.OpenLaw} {w:World} {K:PySem.W.Frag} {h:Heap} {mg:Str→Option Value} {fa f0 f1 f2 f3 f4 f5 f6 f7 f8 f9 f10 f11 f12 f13 f14 f15 f16 f17 f18 f19 f20 f21 f22 f23 f24:Addr} (X:K.In h) (G:h.Ns mainGlobals mg) (hfa:mg "law" = some (.ref fa))
    {od0 an0 od1 an1 od2 an2 od3 an3 od4 an4 od5 an5 od6 an6 od7 an7 od8 an8 od9 an9 od10 an10 od11 an11 od12 an12 od13 an13 od14 an14 od15 an15 od16 an16 od17 an17 od18 an18 od19 an19 od20 an20 od21 an21 od22 an22 od23 an23 od24 an24:Option Addr} {sl0 sl1 sl2 sl3 sl4 sl5 sl6 sl7 sl8 sl9 sl10 sl11 sl12 sl13 sl14 sl15 sl16 sl17 sl18 sl19 sl20 sl21 sl22 sl23 sl24:Array (Option Value)} {oc0 kV0 dc0 pm0 cd0 ct0 oc1 kV1 dc1 pm1 cd1 ct1 oc2 kV2 dc2 pm2 cd2 ct2 oc3 kV3 dc3 pm3 cd3 ct3 oc4 kV4 dc4 pm4 cd4 ct4 oc5 kV5 dc5 pm5 cd5 ct5 oc6 kV6 dc6 pm6 cd6 ct6 oc7 kV7 dc7 pm7 cd7 ct7 oc8 kV8 dc8 pm8 cd8 ct8 oc9 kV9 dc9 pm9 cd9 ct9 oc10 kV10 dc10 pm10 cd10 ct10 oc11 kV11 dc11 pm11 cd11 ct11 oc12 kV12 dc12 pm12 cd12 ct12 oc13 kV13 dc13 pm13 cd13 ct13 oc14 kV14 dc14 pm14 cd14 ct14 oc15 kV15 dc15 pm15 cd15 ct15 oc16 kV16 dc16 pm16 cd16 ct16 oc17 kV17 dc17 pm17 cd17 ct17 oc18 kV18 dc18 pm18 cd18 ct18 oc19 kV19 dc19 pm19 cd19 ct19 oc20 kV20 dc20 pm20 cd20 ct20 oc21 kV21 dc21 pm21 cd21 ct21 oc22 kV22 dc22 pm22 cd22 ct22 oc23 kV23 dc23 pm23 cd23 ct23 oc24 kV24 dc24 pm24 cd24 ct24:Value}
    (a0:PySem.W.nsIn K mainGlobals "is_side" = some (some (.ref f0))) (l0:K.lookup f0=some ⟨oc0,od0,.func (PySem.W.fnOf "is_side" "is_side" (defArgs s_is_side) (defBody s_is_side) (defScope s_is_side) .none kV0 dc0 pm0 an0 cd0 ct0),sl0⟩) (c0:PySem.W.codeIn K cd0 "is_side" = true) (k0:PySem.W.keepIn K (.ref f0)=true)
    (a1:PySem.W.nsIn K mainGlobals "is_code" = some (some (.ref f1))) (l1:K.lookup f1=some ⟨oc1,od1,.func (PySem.W.fnOf "is_code" "is_code" (defArgs s_is_code) (defBody s_is_code) (defScope s_is_code) .none kV1 dc1 pm1 an1 cd1 ct1),sl1⟩) (c1:PySem.W.codeIn K cd1 "is_code" = true) (k1:PySem.W.keepIn K (.ref f1)=true)
    (a2:PySem.W.nsIn K mainGlobals "need_code" = some (some (.ref f2))) (l2:K.lookup f2=some ⟨oc2,od2,.func (PySem.W.fnOf "need_code" "need_code" (defArgs s_need_code) (defBody s_need_code) (defScope s_need_code) .none kV2 dc2 pm2 an2 cd2 ct2),sl2⟩) (c2:PySem.W.codeIn K cd2 "need_code" = true) (k2:PySem.W.keepIn K (.ref f2)=true)
    (a3:PySem.W.nsIn K mainGlobals "need_side" = some (some (.ref f3))) (l3:K.lookup f3=some ⟨oc3,od3,.func (PySem.W.fnOf "need_side" "need_side" (defArgs s_need_side) (defBody s_need_side) (defScope s_need_side) .none kV3 dc3 pm3 an3 cd3 ct3),sl3⟩) (c3:PySem.W.codeIn K cd3 "need_side" = true) (k3:PySem.W.keepIn K (.ref f3)=true)
    (a4:PySem.W.nsIn K mainGlobals "beside" = some (some (.ref f4))) (l4:K.lookup f4=some ⟨oc4,od4,.func (PySem.W.fnOf "beside" "beside" (defArgs s_beside) (defBody s_beside) (defScope s_beside) .none kV4 dc4 pm4 an4 cd4 ct4),sl4⟩) (c4:PySem.W.codeIn K cd4 "beside" = true) (k4:PySem.W.keepIn K (.ref f4)=true)
    (a5:PySem.W.nsIn K mainGlobals "leaves_below" = some (some (.ref f5))) (l5:K.lookup f5=some ⟨oc5,od5,.func (PySem.W.fnOf "leaves_below" "leaves_below" (defArgs s_leaves_below) (defBody s_leaves_below) (defScope s_leaves_below) .none kV5 dc5 pm5 an5 cd5 ct5),sl5⟩) (c5:PySem.W.codeIn K cd5 "leaves_below" = true) (k5:PySem.W.keepIn K (.ref f5)=true)
    (a6:PySem.W.nsIn K mainGlobals "leaves" = some (some (.ref f6))) (l6:K.lookup f6=some ⟨oc6,od6,.func (PySem.W.fnOf "leaves" "leaves" (defArgs s_leaves) (defBody s_leaves) (defScope s_leaves) .none kV6 dc6 pm6 an6 cd6 ct6),sl6⟩) (c6:PySem.W.codeIn K cd6 "leaves" = true) (k6:PySem.W.keepIn K (.ref f6)=true)
    (a7:PySem.W.nsIn K mainGlobals "is_leaf" = some (some (.ref f7))) (l7:K.lookup f7=some ⟨oc7,od7,.func (PySem.W.fnOf "is_leaf" "is_leaf" (defArgs s_is_leaf) (defBody s_is_leaf) (defScope s_is_leaf) .none kV7 dc7 pm7 an7 cd7 ct7),sl7⟩) (c7:PySem.W.codeIn K cd7 "is_leaf" = true) (k7:PySem.W.keepIn K (.ref f7)=true)
    (a8:PySem.W.nsIn K mainGlobals "leaves_along" = some (some (.ref f8))) (l8:K.lookup f8=some ⟨oc8,od8,.func (PySem.W.fnOf "leaves_along" "leaves_along" (defArgs s_leaves_along) (defBody s_leaves_along) (defScope s_leaves_along) .none kV8 dc8 pm8 an8 cd8 ct8),sl8⟩) (c8:PySem.W.codeIn K cd8 "leaves_along" = true) (k8:PySem.W.keepIn K (.ref f8)=true)
    (a9:PySem.W.nsIn K mainGlobals "beyond_leaf" = some (some (.ref f9))) (l9:K.lookup f9=some ⟨oc9,od9,.func (PySem.W.fnOf "beyond_leaf" "beyond_leaf" (defArgs s_beyond_leaf) (defBody s_beyond_leaf) (defScope s_beyond_leaf) .none kV9 dc9 pm9 an9 cd9 ct9),sl9⟩) (c9:PySem.W.codeIn K cd9 "beyond_leaf" = true) (k9:PySem.W.keepIn K (.ref f9)=true)
    (a10:PySem.W.nsIn K mainGlobals "beyond" = some (some (.ref f10))) (l10:K.lookup f10=some ⟨oc10,od10,.func (PySem.W.fnOf "beyond" "beyond" (defArgs s_beyond) (defBody s_beyond) (defScope s_beyond) .none kV10 dc10 pm10 an10 cd10 ct10),sl10⟩) (c10:PySem.W.codeIn K cd10 "beyond" = true) (k10:PySem.W.keepIn K (.ref f10)=true)
    (a11:PySem.W.nsIn K mainGlobals "touches" = some (some (.ref f11))) (l11:K.lookup f11=some ⟨oc11,od11,.func (PySem.W.fnOf "touches" "touches" (defArgs s_touches) (defBody s_touches) (defScope s_touches) .none kV11 dc11 pm11 an11 cd11 ct11),sl11⟩) (c11:PySem.W.codeIn K cd11 "touches" = true) (k11:PySem.W.keepIn K (.ref f11)=true)
    (a12:PySem.W.nsIn K mainGlobals "_law_at" = some (some (.ref f12))) (l12:K.lookup f12=some ⟨oc12,od12,.func (PySem.W.fnOf "_law_at" "_law_at" (defArgs s_law_at) (defBody s_law_at) (defScope s_law_at) .none kV12 dc12 pm12 an12 cd12 ct12),sl12⟩) (c12:PySem.W.codeIn K cd12 "_law_at" = true) (k12:PySem.W.keepIn K (.ref f12)=true)
    (a13:PySem.W.nsIn K mainGlobals "_law_mix" = some (some (.ref f13))) (l13:K.lookup f13=some ⟨oc13,od13,.func (PySem.W.fnOf "_law_mix" "_law_mix" (defArgs s_law_mix) (defBody s_law_mix) (defScope s_law_mix) .none kV13 dc13 pm13 an13 cd13 ct13),sl13⟩) (c13:PySem.W.codeIn K cd13 "_law_mix" = true) (k13:PySem.W.keepIn K (.ref f13)=true)
    (a14:PySem.W.nsIn K mainGlobals "_law_level_by" = some (some (.ref f14))) (l14:K.lookup f14=some ⟨oc14,od14,.func (PySem.W.fnOf "_law_level_by" "_law_level_by" (defArgs s_law_level_by) (defBody s_law_level_by) (defScope s_law_level_by) .none kV14 dc14 pm14 an14 cd14 ct14),sl14⟩) (c14:PySem.W.codeIn K cd14 "_law_level_by" = true) (k14:PySem.W.keepIn K (.ref f14)=true)
    (a15:PySem.W.nsIn K mainGlobals "_law_code_by" = some (some (.ref f15))) (l15:K.lookup f15=some ⟨oc15,od15,.func (PySem.W.fnOf "_law_code_by" "_law_code_by" (defArgs s_law_code_by) (defBody s_law_code_by) (defScope s_law_code_by) .none kV15 dc15 pm15 an15 cd15 ct15),sl15⟩) (c15:PySem.W.codeIn K cd15 "_law_code_by" = true) (k15:PySem.W.keepIn K (.ref f15)=true)
    (a16:PySem.W.nsIn K mainGlobals "_law_colour_by" = some (some (.ref f16))) (l16:K.lookup f16=some ⟨oc16,od16,.func (PySem.W.fnOf "_law_colour_by" "_law_colour_by" (defArgs s_law_colour_by) (defBody s_law_colour_by) (defScope s_law_colour_by) .none kV16 dc16 pm16 an16 cd16 ct16),sl16⟩) (c16:PySem.W.codeIn K cd16 "_law_colour_by" = true) (k16:PySem.W.keepIn K (.ref f16)=true)
    (a17:PySem.W.nsIn K mainGlobals "_law_four" = some (some (.ref f17))) (l17:K.lookup f17=some ⟨oc17,od17,.func (PySem.W.fnOf "_law_four" "_law_four" (defArgs s_law_four) (defBody s_law_four) (defScope s_law_four) .none kV17 dc17 pm17 an17 cd17 ct17),sl17⟩) (c17:PySem.W.codeIn K cd17 "_law_four" = true) (k17:PySem.W.keepIn K (.ref f17)=true)
    (a18:PySem.W.nsIn K mainGlobals "_law_painted" = some (some (.ref f18))) (l18:K.lookup f18=some ⟨oc18,od18,.func (PySem.W.fnOf "_law_painted" "_law_painted" (defArgs s_law_painted) (defBody s_law_painted) (defScope s_law_painted) .none kV18 dc18 pm18 an18 cd18 ct18),sl18⟩) (c18:PySem.W.codeIn K cd18 "_law_painted" = true) (k18:PySem.W.keepIn K (.ref f18)=true)
    (a19:PySem.W.nsIn K mainGlobals "_law_tree_by" = some (some (.ref f19))) (l19:K.lookup f19=some ⟨oc19,od19,.func (PySem.W.fnOf "_law_tree_by" "_law_tree_by" (defArgs s_law_tree_by) (defBody s_law_tree_by) (defScope s_law_tree_by) .none kV19 dc19 pm19 an19 cd19 ct19),sl19⟩) (c19:PySem.W.codeIn K cd19 "_law_tree_by" = true) (k19:PySem.W.keepIn K (.ref f19)=true)
    (a20:PySem.W.nsIn K mainGlobals "_law_squares" = some (some (.ref f20))) (l20:K.lookup f20=some ⟨oc20,od20,.func (PySem.W.fnOf "_law_squares" "_law_squares" (defArgs s_law_squares) (defBody s_law_squares) (defScope s_law_squares) .none kV20 dc20 pm20 an20 cd20 ct20),sl20⟩) (c20:PySem.W.codeIn K cd20 "_law_squares" = true) (k20:PySem.W.keepIn K (.ref f20)=true)
    (a21:PySem.W.nsIn K mainGlobals "_law_side" = some (some (.ref f21))) (l21:K.lookup f21=some ⟨oc21,od21,.func (PySem.W.fnOf "_law_side" "_law_side" (defArgs s_law_side) (defBody s_law_side) (defScope s_law_side) .none kV21 dc21 pm21 an21 cd21 ct21),sl21⟩) (c21:PySem.W.codeIn K cd21 "_law_side" = true) (k21:PySem.W.keepIn K (.ref f21)=true)
    (a22:PySem.W.nsIn K mainGlobals "_law_ends" = some (some (.ref f22))) (l22:K.lookup f22=some ⟨oc22,od22,.func (PySem.W.fnOf "_law_ends" "_law_ends" (defArgs s_law_ends) (defBody s_law_ends) (defScope s_law_ends) .none kV22 dc22 pm22 an22 cd22 ct22),sl22⟩) (c22:PySem.W.codeIn K cd22 "_law_ends" = true) (k22:PySem.W.keepIn K (.ref f22)=true)
    (a23:PySem.W.nsIn K mainGlobals "_law_met" = some (some (.ref f23))) (l23:K.lookup f23=some ⟨oc23,od23,.func (PySem.W.fnOf "_law_met" "_law_met" (defArgs s_law_met) (defBody s_law_met) (defScope s_law_met) .none kV23 dc23 pm23 an23 cd23 ct23),sl23⟩) (c23:PySem.W.codeIn K cd23 "_law_met" = true) (k23:PySem.W.keepIn K (.ref f23)=true)
    (a24:PySem.W.nsIn K mainGlobals "law" = some (some (.ref f24))) (l24:K.lookup f24=some ⟨oc24,od24,.func (PySem.W.fnOf "law" "law" (defArgs s_law) (defBody s_law) (defScope s_law) .none kV24 dc24 pm24 an24 cd24 ct24),sl24⟩) (c24:PySem.W.codeIn K cd24 "law" = true) (k24:PySem.W.keepIn K (.ref f24)=true)
    (z0:PySem.W.nsIn K mainGlobals "all" = some none)
    {zt1:Tok} (z1:PySem.W.nsIn K mainGlobals "MOST" = some (some (.int 40 zt1)))
    (z2:PySem.W.nsIn K mainGlobals "isinstance" = some none)
    (z3:PySem.W.nsIn K mainGlobals "str" = some none)
    (z4:PySem.W.nsIn K mainGlobals "len" = some none)
    {zt5:Tok} (z5:PySem.W.nsIn K mainGlobals "QUARTERS" = some (some (.str "0123" zt5)))
    (z6:PySem.W.nsIn K mainGlobals "range" = some none)
    (z7:PySem.W.nsIn K mainGlobals "int" = some none)
    (z8:PySem.W.nsIn K mainGlobals "tuple" = some none)
    (z9:PySem.W.nsIn K mainGlobals "sorted" = some none)
    (z10:PySem.W.nsIn K mainGlobals "list" = some none)
    (z11:PySem.W.nsIn K mainGlobals "min" = some none)
    (z12:PySem.W.nsIn K mainGlobals "max" = some none)
    (z13:PySem.W.nsIn K mainGlobals "enumerate" = some none)
    (z14:PySem.W.nsIn K mainGlobals "dict" = some none)
    (z15:PySem.W.nsIn K mainGlobals "sum" = some none)
    {aS aC p0 p1 p2 p3:Addr} {oS r0 r1 r2 r3:Option Addr} {ts0 ts1 ts2 ts3 dk0 dk1 dk2 dk3:Tok} {nC nS:Nat} {slS:Array (Option Value)}
    (u0:PySem.W.nsIn K mainGlobals "SIDES" = some (some (.ref aS))) (u1:K.lookup aS=some ⟨.type "tuple",oS,.seq #[.str "up" ts0,.str "right" ts1,.str "down" ts2,.str "left" ts3] nS,slS⟩)
    (u2:PySem.W.nsIn K mainGlobals "CROSSINGS" = some (some (.ref aC))) (u3:K.lookup aC=some ⟨.type "dict",none,.dict #[⟨PyData.keyHash w.params "up",.str "up" dk0,.ref p0⟩,⟨PyData.keyHash w.params "right",.str "right" dk1,.ref p1⟩,⟨PyData.keyHash w.params "down",.str "down" dk2,.ref p2⟩,⟨PyData.keyHash w.params "left",.str "left" dk3,.ref p3⟩] nC,#[]⟩)
    {ta0 tb0:Tok} {nn0:Nat} {sk0:Array (Option Value)} (u4:K.lookup p0=some ⟨.type "tuple",r0,.seq #[.str "2301" ta0,.str "23" tb0] nn0,sk0⟩)
    {ta1 tb1:Tok} {nn1:Nat} {sk1:Array (Option Value)} (u5:K.lookup p1=some ⟨.type "tuple",r1,.seq #[.str "1032" ta1,.str "02" tb1] nn1,sk1⟩)
    {ta2 tb2:Tok} {nn2:Nat} {sk2:Array (Option Value)} (u6:K.lookup p2=some ⟨.type "tuple",r2,.seq #[.str "2301" ta2,.str "01" tb2] nn2,sk2⟩)
    {ta3 tb3:Tok} {nn3:Nat} {sk3:Array (Option Value)} (u7:K.lookup p3=some ⟨.type "tuple",r3,.seq #[.str "1032" ta3,.str "13" tb3] nn3,sk3⟩)
    {cNoSide cNoLeaf cSheetError:Addr}
    (y0:PySem.W.nsIn K mainGlobals "NoSide" = some (some (.ref cNoSide)))
    (y1:PySem.W.nsIn K mainGlobals "NoLeaf" = some (some (.ref cNoLeaf)))
    (y2:PySem.W.nsIn K mainGlobals "SheetError" = some (some (.ref cSheetError)))
    (y3:PySem.W.excIn K cNoSide bmV "ValueError.__new__" = true)
    (y4:PySem.W.findIn K (.ref cNoSide) "__getattribute__" = some (some (.builtin "BaseException.__getattribute__")))
    (y5:PySem.W.findIn K (.ref cNoSide) "__getattr__" = some none)
    (y6:PySem.W.findIn K (.ref cNoSide) "__class__" = some (some (.builtin "object.__class__")))
    (y7:PySem.W.subIn K (.ref cNoSide) (.type "object")=some true)
    (y8:PySem.W.subIn K (.ref cNoSide) (.type "BaseException")=some true)
    {cdNoSide:ClassData}
    (y9:PySem.W.clsIn K cNoSide=some cdNoSide)
    (y10:PySem.W.exmOne K (.ref cNoSide) (.ref cSheetError)=some true)
    (y11:PySem.W.kitOne K (.ref cNoSide) (.type "ValueError")=some true)
    (y12:PySem.W.kitOne K (.ref cNoSide) (.ref cNoLeaf)=some false)
    (y13:PySem.W.excIn K cNoLeaf bmV "ValueError.__new__" = true)
    (y14:PySem.W.findIn K (.ref cNoLeaf) "__getattribute__" = some (some (.builtin "BaseException.__getattribute__")))
    (y15:PySem.W.findIn K (.ref cNoLeaf) "__getattr__" = some none)
    (y16:PySem.W.findIn K (.ref cNoLeaf) "__class__" = some (some (.builtin "object.__class__")))
    (y17:PySem.W.subIn K (.ref cNoLeaf) (.type "object")=some true)
    (y18:PySem.W.subIn K (.ref cNoLeaf) (.type "BaseException")=some true)
    {cdNoLeaf:ClassData}
    (y19:PySem.W.clsIn K cNoLeaf=some cdNoLeaf)
    (y20:PySem.W.exmOne K (.ref cNoLeaf) (.ref cSheetError)=some true)
    (y21:PySem.W.kitOne K (.ref cNoLeaf) (.type "ValueError")=some true)
    (y22:PySem.W.kitOne K (.ref cNoLeaf) (.ref cNoSide)=some false)
    : ∃ fd:FuncData,(∀ (s:Shared) (v:Value),BindsTo s fd ⟨[v],[]⟩ [("_law_script",v)])∧∀ base:Heap,K.In base→base.Ns mainGlobals mg→FnOk l.prog w K mg base (CXe l.prog w) 45 fa fd ["_law_script"] (sp_law K):=by
  have e:=hfa.symm.trans (PySem.W.mg_of X G a24)
  cases e
  have T:Tx K mg:=⟨PySem.W.mg_none_of X G z0,⟨_,PySem.W.mg_of X G z1⟩,PySem.W.mg_none_of X G z2,PySem.W.mg_none_of X G z3,PySem.W.mg_none_of X G z4,⟨_,PySem.W.mg_of X G z5⟩,PySem.W.mg_none_of X G z6,PySem.W.mg_none_of X G z7,PySem.W.mg_none_of X G z8,PySem.W.mg_none_of X G z9,PySem.W.mg_none_of X G z10,PySem.W.mg_none_of X G z11,PySem.W.mg_none_of X G z12,PySem.W.mg_none_of X G z13,PySem.W.mg_none_of X G z14,PySem.W.mg_none_of X G z15⟩
  have U:Ty l.prog w K mg:=⟨⟨aS,PySem.W.mg_of X G u0,_,_,_,u1,rfl,rfl,(by show 4≤sizeLine; decide),.cons ⟨_,rfl⟩ (.cons ⟨_,rfl⟩ (.cons ⟨_,rfl⟩ (.cons ⟨_,rfl⟩ .nil)))⟩,aC,p0,p1,p2,p3,PySem.W.mg_of X G u2,kd4 u3,⟨_,_,_,u4,rfl,rfl,(by show 2≤sizeLine; decide),.cons ⟨_,rfl⟩ (.cons ⟨_,rfl⟩ .nil)⟩,⟨_,_,_,u5,rfl,rfl,(by show 2≤sizeLine; decide),.cons ⟨_,rfl⟩ (.cons ⟨_,rfl⟩ .nil)⟩,⟨_,_,_,u6,rfl,rfl,(by show 2≤sizeLine; decide),.cons ⟨_,rfl⟩ (.cons ⟨_,rfl⟩ .nil)⟩,⟨_,_,_,u7,rfl,rfl,(by show 2≤sizeLine; decide),.cons ⟨_,rfl⟩ (.cons ⟨_,rfl⟩ .nil)⟩⟩
  have Y:Yx K mg:=⟨cNoSide,cNoLeaf,cSheetError,PySem.W.mg_of X G y0,PySem.W.mg_of X G y1,PySem.W.mg_of X G y2,⟨PySem.W.mg_of X G y0,y3⟩,⟨y4,y5,y6,y7,y8,by rw [y9]; rfl⟩,y10,y11,y12,⟨PySem.W.mg_of X G y1,y13⟩,⟨y14,y15,y16,y17,y18,by rw [y19]; rfl⟩,y20,y21,y22⟩
  have F0:=funD_mk (st:=s_is_side) l0 c0 k0
  have F1:=funD_mk (st:=s_is_code) l1 c1 k1
  have F2:=funD_mk (st:=s_need_code) l2 c2 k2
  have F3:=funD_mk (st:=s_need_side) l3 c3 k3
  have F4:=funD_mk (st:=s_beside) l4 c4 k4
  have F5:=funD_mk (st:=s_leaves_below) l5 c5 k5
  have F6:=funD_mk (st:=s_leaves) l6 c6 k6
  have F7:=funD_mk (st:=s_is_leaf) l7 c7 k7
  have F8:=funD_mk (st:=s_leaves_along) l8 c8 k8
  have F9:=funD_mk (st:=s_beyond_leaf) l9 c9 k9
  have F10:=funD_mk (st:=s_beyond) l10 c10 k10
  have F11:=funD_mk (st:=s_touches) l11 c11 k11
  have F12:=funD_mk (st:=s_law_at) l12 c12 k12
  have F13:=funD_mk (st:=s_law_mix) l13 c13 k13
  have F14:=funD_mk (st:=s_law_level_by) l14 c14 k14
  have F15:=funD_mk (st:=s_law_code_by) l15 c15 k15
  have F16:=funD_mk (st:=s_law_colour_by) l16 c16 k16
  have F17:=funD_mk (st:=s_law_four) l17 c17 k17
  have F18:=funD_mk (st:=s_law_painted) l18 c18 k18
  have F19:=funD_mk (st:=s_law_tree_by) l19 c19 k19
  have F20:=funD_mk (st:=s_law_squares) l20 c20 k20
  have F21:=funD_mk (st:=s_law_side) l21 c21 k21
  have F22:=funD_mk (st:=s_law_ends) l22 c22 k22
  have F23:=funD_mk (st:=s_law_met) l23 c23 k23
  have F24:=funD_mk (st:=s_law) l24 c24 k24
  have b0:=F0.binds (ps:=["thing"]) fun _ _ _ _ _ _ us hl=>match us,hl with | [_],_=>rfl
  have b1:=F1.binds (ps:=["thing"]) fun _ _ _ _ _ _ us hl=>match us,hl with | [_],_=>rfl
  have b2:=F2.binds (ps:=["code"]) fun _ _ _ _ _ _ us hl=>match us,hl with | [_],_=>rfl
  have b3:=F3.binds (ps:=["side"]) fun _ _ _ _ _ _ us hl=>match us,hl with | [_],_=>rfl
  have b4:=F4.binds (ps:=["code","side"]) fun _ _ _ _ _ _ us hl=>match us,hl with | [_,_],_=>rfl
  have b5:=F5.binds (ps:=["tree","code"]) fun _ _ _ _ _ _ us hl=>match us,hl with | [_,_],_=>rfl
  have b6:=F6.binds (ps:=["sheet"]) fun _ _ _ _ _ _ us hl=>match us,hl with | [_],_=>rfl
  have b7:=F7.binds (ps:=["sheet","code"]) fun _ _ _ _ _ _ us hl=>match us,hl with | [_,_],_=>rfl
  have b8:=F8.binds (ps:=["tree","code","near"]) fun _ _ _ _ _ _ us hl=>match us,hl with | [_,_,_],_=>rfl
  have b9:=F9.binds (ps:=["sheet","code","side"]) fun _ _ _ _ _ _ us hl=>match us,hl with | [_,_,_],_=>rfl
  have b10:=F10.binds (ps:=["sheet","code","side"]) fun _ _ _ _ _ _ us hl=>match us,hl with | [_,_,_],_=>rfl
  have b11:=F11.binds (ps:=["sheet"]) fun _ _ _ _ _ _ us hl=>match us,hl with | [_],_=>rfl
  have b12:=F12.binds (ps:=["_law_script","_law_k"]) fun _ _ _ _ _ _ us hl=>match us,hl with | [_,_],_=>rfl
  have b13:=F13.binds (ps:=["_law_cell","_law_k"]) fun _ _ _ _ _ _ us hl=>match us,hl with | [_,_],_=>rfl
  have b14:=F14.binds (ps:=["_law_cell"]) fun _ _ _ _ _ _ us hl=>match us,hl with | [_],_=>rfl
  have b15:=F15.binds (ps:=["_law_cell","_law_k","_law_most"]) fun _ _ _ _ _ _ us hl=>match us,hl with | [_,_,_],_=>rfl
  have b16:=F16.binds (ps:=["_law_script","_law_cell","_law_k"]) fun _ _ _ _ _ _ us hl=>match us,hl with | [_,_,_],_=>rfl
  have b17:=F17.binds (ps:=["_law_tree"]) fun _ _ _ _ _ _ us hl=>match us,hl with | [_],_=>rfl
  have b18:=F18.binds (ps:=["_law_tree","_law_code","_law_colour"]) fun _ _ _ _ _ _ us hl=>match us,hl with | [_,_,_],_=>rfl
  have b19:=F19.binds (ps:=["_law_script","_law_first","_law_level","_law_many"]) fun _ _ _ _ _ _ us hl=>match us,hl with | [_,_,_,_],_=>rfl
  have b20:=F20.binds (ps:=["_law_tree","_law_code","_law_x","_law_y","_law_wide"]) fun _ _ _ _ _ _ us hl=>match us,hl with | [_,_,_,_,_],_=>rfl
  have b21:=F21.binds (ps:=["_law_one","_law_other"]) fun _ _ _ _ _ _ us hl=>match us,hl with | [_,_],_=>rfl
  have b22:=F22.binds (ps:=["_law_one","_law_wide"]) fun _ _ _ _ _ _ us hl=>match us,hl with | [_,_],_=>rfl
  have b23:=F23.binds (ps:=["_law_found","_law_places"]) fun _ _ _ _ _ _ us hl=>match us,hl with | [_,_],_=>rfl
  refine ⟨PySem.W.fnOf "law" "law" (defArgs s_law) (defBody s_law) (defScope s_law) .none kV24 dc24 pm24 an24 cd24 ct24,fun s v=>.of_eq rfl,fun base _ _ => ?_⟩
  have C_is_side:Fok l.prog w K mg base (CXe l.prog w) 1 "is_side" ["thing"] [] (sp_is_side):=fok F0 (ok_is_side T U F0) b0 (PySem.W.mg_of X G a0)
  have C_is_code:Fok l.prog w K mg base (CXe l.prog w) 1 "is_code" ["thing"] [] (gsp_is_code K):=fok F1 (gok_is_code T F1) b1 (PySem.W.mg_of X G a1)
  have C_need_code:Fok l.prog w K mg base (CXe l.prog w) 2 "need_code" ["code"] [] (sp_need_code):=fok F2 (ok_need_code T quietE F2 C_is_code) b2 (PySem.W.mg_of X G a2)
  have C_need_side:Fok l.prog w K mg base (CXe l.prog w) 2 "need_side" ["side"] [] (sp_need_side Y):=fok F3 (ok_need_side T Y quietE F3 C_is_side) b3 (PySem.W.mg_of X G a3)
  have C_beside:Fok l.prog w K mg base (CXe l.prog w) 3 "beside" ["code","side"] [] (sp_besideX Y):=fok F4 (ok_beside T Y U quietE F4 C_need_code C_need_side) b4 (PySem.W.mg_of X G a4)
  have C_leaves_below:Fok l.prog w K mg base (CXe l.prog w) 42 "leaves_below" ["tree","code"] [] (sp_leaves_below 41):=fok F5 (ok_leaves_below T quietE F5 b5 (PySem.W.mg_of X G a5) 41) b5 (PySem.W.mg_of X G a5)
  have C_leaves:Fok l.prog w K mg base (CXe l.prog w) 43 "leaves" ["sheet"] [] (sp_leaves):=fok F6 (ok_leaves T quietE F6 C_leaves_below) b6 (PySem.W.mg_of X G a6)
  have C_is_leaf:Fok l.prog w K mg base (CXe l.prog w) 1 "is_leaf" ["sheet","code"] [] (sp_is_leaf):=fok F7 (ok_is_leaf T F7) b7 (PySem.W.mg_of X G a7)
  have C_leaves_along:Fok l.prog w K mg base (CXe l.prog w) 42 "leaves_along" ["tree","code","near"] [] (sp_leaves_along 41):=fok F8 (ok_leaves_along T quietE F8 b8 (PySem.W.mg_of X G a8) 41) b8 (PySem.W.mg_of X G a8)
  have C_beyond_leaf:Fok l.prog w K mg base (CXe l.prog w) 43 "beyond_leaf" ["sheet","code","side"] [] (sp_beyond_leaf Y):=fok F9 (ok_beyond_leaf T Y U quietE F9 C_beside C_leaves_along) b9 (PySem.W.mg_of X G a9)
  have C_beyond:Fok l.prog w K mg base (CXe l.prog w) 44 "beyond" ["sheet","code","side"] [] (sp_beyond Y):=fok F10 (ok_beyond T Y quietE F10 C_is_code C_is_leaf C_beyond_leaf) b10 (PySem.W.mg_of X G a10)
  have C_touches:Fok l.prog w K mg base (CXe l.prog w) 44 "touches" ["sheet"] [] (sp_touches):=fok F11 (ok_touches T Y quietE F11 C_leaves C_beyond_leaf) b11 (PySem.W.mg_of X G a11)
  have C__law_at:Fok l.prog w K mg base (CXe l.prog w) 1 "_law_at" ["_law_script","_law_k"] [] (sp_law_at K):=fok F12 (ok_law_at T F12) b12 (PySem.W.mg_of X G a12)
  have C__law_mix:Fok l.prog w K mg base (CXe l.prog w) 1 "_law_mix" ["_law_cell","_law_k"] [] (sp_law_mix):=fok F13 (ok_law_mix T F13) b13 (PySem.W.mg_of X G a13)
  have C__law_level_by:Fok l.prog w K mg base (CXe l.prog w) 1 "_law_level_by" ["_law_cell"] [] (sp_law_level_by):=fok F14 (ok_law_level_by T F14) b14 (PySem.W.mg_of X G a14)
  have C__law_code_by:Fok l.prog w K mg base (CXe l.prog w) 2 "_law_code_by" ["_law_cell","_law_k","_law_most"] [] (sp_law_code_by):=fok F15 (ok_law_code_by T quietE F15 C__law_mix) b15 (PySem.W.mg_of X G a15)
  have C__law_colour_by:Fok l.prog w K mg base (CXe l.prog w) 2 "_law_colour_by" ["_law_script","_law_cell","_law_k"] [] (sp_law_colour_by K):=fok F16 (ok_law_colour_by T quietE F16 C__law_mix C__law_at) b16 (PySem.W.mg_of X G a16)
  have C__law_four:Fok l.prog w K mg base (CXe l.prog w) 1 "_law_four" ["_law_tree"] [] (sp_law_four):=fok F17 (ok_law_four T F17) b17 (PySem.W.mg_of X G a17)
  have C__law_painted:Fok l.prog w K mg base (CXe l.prog w) 42 "_law_painted" ["_law_tree","_law_code","_law_colour"] [] (sp_law_painted 40):=fok F18 (ok_law_painted T quietE F18 C__law_four b18 (PySem.W.mg_of X G a18) 40) b18 (PySem.W.mg_of X G a18)
  have C__law_tree_by:Fok l.prog w K mg base (CXe l.prog w) 43 "_law_tree_by" ["_law_script","_law_first","_law_level","_law_many"] [] (sp_law_tree_by K):=fok F19 (ok_law_tree_by T quietE F19 C__law_at C__law_mix C__law_code_by C__law_colour_by C__law_painted) b19 (PySem.W.mg_of X G a19)
  have C__law_squares:Fok l.prog w K mg base (CXe l.prog w) 42 "_law_squares" ["_law_tree","_law_code","_law_x","_law_y","_law_wide"] [] (sp_law_squares 41):=fok F20 (ok_law_squares T quietE F20 b20 (PySem.W.mg_of X G a20) 41) b20 (PySem.W.mg_of X G a20)
  have C__law_side:Fok l.prog w K mg base (CXe l.prog w) 1 "_law_side" ["_law_one","_law_other"] [] (sp_law_side):=fok F21 (ok_law_side T F21) b21 (PySem.W.mg_of X G a21)
  have C__law_ends:Fok l.prog w K mg base (CXe l.prog w) 1 "_law_ends" ["_law_one","_law_wide"] [] (sp_law_ends):=fok F22 (ok_law_ends T F22) b22 (PySem.W.mg_of X G a22)
  have C__law_met:Fok l.prog w K mg base (CXe l.prog w) 2 "_law_met" ["_law_found","_law_places"] [] (sp_law_met):=fok F23 (ok_law_met T quietE F23 C__law_side) b23 (PySem.W.mg_of X G a23)
  exact ok_law T Y quietE F24 C__law_at C__law_level_by C__law_tree_by C__law_squares C_touches C__law_met C__law_ends C_beyond
theorem walk {l:PySem.W.OpenLaw} {q:Program} {loose:List Str} {XP:(Str→Option Value)→Heap→Prop} {YP:World→Heap→Prop} {d:DefRec} {K:Params→PySem.W.Frag} (hn:l.most=some 63) (hdf:d.params.defaults=[])
    (hY:∀ (w:World) (h:Heap),YP w h→(K w.params).In h)
    (F:∀ (w:World) (mg:Str→Option Value) (fa:Addr) (h:Heap),(K w.params).In h→h.Ns mainGlobals mg→mg d.name=some (.ref fa) →
      ∃ fd:FuncData,(∀ (s:Shared) (u:Value),BindsTo s fd ⟨[u],[]⟩ [("_law_script",u)])∧∀ base:Heap,(K w.params).In base→base.Ns mainGlobals mg→FnOk l.prog w (K w.params) mg base (CXe l.prog w) 45 fa fd ["_law_script"] (sp_law (K w.params))) :
    PySem.W.WalkO q loose XP YP l.row.toRowW d [] (fun f vs=>PySem.call f vs) :=
  L2.walk_of (n:=63) (k:=45) (x := "_law_script") (CX:=fun w=>(CXe l.prog w)) (sp:=fun w=>sp_law (K w.params)) hn (by decide) hdf ⟨rfl,by decide,by decide⟩ hY F (fun _ _ a ns hl _ hS=>⟨a,ns,rfl,hS,hl,fun _=>rfl⟩) fun _ _ _ _ _ z=>quietE _ _ _ _ _ z
end Qs
-- The head lays a twin equation for each constant of the run; those of the largest ones are most of its size and are not needed. A name that stands already is not laid anew.
def PySem.W.Fast.tw13443052356115703813:Nat:=0
def PySem.W.Fast.tw13587718658675463910:Nat:=0
def PySem.W.Fast.tw7349653722846698753:Nat:=0
def PySem.W.Fast.tw18017455348185488834:Nat:=0
def PySem.W.Fast.tw15912540285624981859:Nat:=0
def PySem.W.Fast.tw9201496456726677681:Nat:=0
def PySem.W.Fast.tw9524881705772603662:Nat:=0
def PySem.W.Fast.tw15820619518658196307:Nat:=0
def PySem.W.Fast.tw9794893591406333600:Nat:=0
def PySem.W.Fast.tw2126888242378259501:Nat:=0
def PySem.W.Fast.tw12560683204051403601:Nat:=0
def PySem.W.Fast.tw874558389110262682:Nat:=0
def PySem.W.Fast.tw9572583321226609119:Nat:=0
def PySem.W.Fast.tw73632799119242324:Nat:=0
def PySem.W.Fast.tw14751643757462801809:Nat:=0
def PySem.W.Fast.tw4073800746190090240:Nat:=0
def PySem.W.Fast.tw11792143565464645648:Nat:=0
def PySem.W.Fast.tw13791577316126457952:Nat:=0
def PySem.W.Fast.tw15518834961377964060:Nat:=0
def PySem.W.Fast.tw337420565013845595:Nat:=0
def PySem.W.Fast.tw1451944962738265818:Nat:=0
def PySem.W.Fast.tw6698300449055414505:Nat:=0
def PySem.W.Fast.tw7438958934072657487:Nat:=0
def PySem.W.Fast.tw2940234125569307242:Nat:=0
def PySem.W.Fast.tw5697039360517516074:Nat:=0
def PySem.W.Fast.tw13241974138264571519:Nat:=0
def PySem.W.Fast.tw6062041410775188003:Nat:=0
def PySem.W.Fast.tw15350380963735730115:Nat:=0
def PySem.W.Fast.tw8526972081722159258:Nat:=0
def PySem.W.Fast.tw9808199260573547408:Nat:=0
def PySem.W.Fast.tw14559658243867554368:Nat:=0
def PySem.W.Fast.tw1622051649481695066:Nat:=0
def PySem.W.Fast.tw4929154117657901689:Nat:=0
def PySem.W.Fast.tw5368633339782325070:Nat:=0
def PySem.W.Fast.tw3678238864725964288:Nat:=0
def PySem.W.Fast.tw16394376229045856969:Nat:=0
def PySem.W.Fast.tw16541197935813271796:Nat:=0
def PySem.W.Fast.tw1971499544952679538:Nat:=0
def PySem.W.Fast.tw7859246453910804224:Nat:=0
def PySem.W.Fast.tw6259012793279405010:Nat:=0
def PySem.W.Fast.tw9926792501655476366:Nat:=0
def PySem.W.Fast.tw15522461863501433803:Nat:=0
def PySem.W.Fast.tw11202787196431257430:Nat:=0
def PySem.W.Fast.tw9871917543853809946:Nat:=0
def PySem.W.Fast.tw15855308677637301054:Nat:=0
def PySem.W.Fast.tw6570088755806422414:Nat:=0
def PySem.W.Fast.tw10999469402419079200:Nat:=0
def PySem.W.Fast.tw16840087249283694386:Nat:=0
def PySem.W.Fast.tw10742977888873654267:Nat:=0
def PySem.W.Fast.tw1611705266836621110:Nat:=0
open PySem PySem.W PyProof.Rows
set_option maxRecDepth 100000 in
set_option maxHeartbeats 0 in
theorem PySem.Challenge.cw_quartersheet_k53_all_that_touch_holds : PySem.Challenge.rw_quartersheet_k53_all_that_touch.Holds := by
  w_on; o_law; k_head; (case hw=>w_witness2)
  k_fill
  refine Qs.walk (l:=PySem.Challenge.rw_quartersheet_k53_all_that_touch) rfl rfl (fun w h Y=>PySem.W.kIn_of Y) ?F
  case F =>
    intro w mg fa h KX G hmg
    refine' Qs.all_mk KX G hmg ?a0 ?l0 ?c0 ?k0 ?a1 ?l1 ?c1 ?k1 ?a2 ?l2 ?c2 ?k2 ?a3 ?l3 ?c3 ?k3 ?a4 ?l4 ?c4 ?k4 ?a5 ?l5 ?c5 ?k5 ?a6 ?l6 ?c6 ?k6 ?a7 ?l7 ?c7 ?k7 ?a8 ?l8 ?c8 ?k8 ?a9 ?l9 ?c9 ?k9 ?a10 ?l10 ?c10 ?k10 ?a11 ?l11 ?c11 ?k11 ?a12 ?l12 ?c12 ?k12 ?a13 ?l13 ?c13 ?k13 ?a14 ?l14 ?c14 ?k14 ?a15 ?l15 ?c15 ?k15 ?a16 ?l16 ?c16 ?k16 ?a17 ?l17 ?c17 ?k17 ?a18 ?l18 ?c18 ?k18 ?a19 ?l19 ?c19 ?k19 ?a20 ?l20 ?c20 ?k20 ?a21 ?l21 ?c21 ?k21 ?a22 ?l22 ?c22 ?k22 ?a23 ?l23 ?c23 ?k23 ?a24 ?l24 ?c24 ?k24 ?z0 ?z1 ?z2 ?z3 ?z4 ?z5 ?z6 ?z7 ?z8 ?z9 ?z10 ?z11 ?z12 ?z13 ?z14 ?z15 ?u0 ?u1 ?u2 ?u3 ?u4 ?u5 ?u6 ?u7 ?y0 ?y1 ?y2 ?y3 ?y4 ?y5 ?y6 ?y7 ?y8 ?y9 ?y10 ?y11 ?y12 ?y13 ?y14 ?y15 ?y16 ?y17 ?y18 ?y19 ?y20 ?y21 ?y22
    (case a0=>k_is)
    (case l0=>k_is)
    (case c0=>k_is)
    (case k0=>k_is)
    (case a1=>k_is)
    (case l1=>k_is)
    (case c1=>k_is)
    (case k1=>k_is)
    (case a2=>k_is)
    (case l2=>k_is)
    (case c2=>k_is)
    (case k2=>k_is)
    (case a3=>k_is)
    (case l3=>k_is)
    (case c3=>k_is)
    (case k3=>k_is)
    (case a4=>k_is)
    (case l4=>k_is)
    (case c4=>k_is)
    (case k4=>k_is)
    (case a5=>k_is)
    (case l5=>k_is)
    (case c5=>k_is)
    (case k5=>k_is)
    (case a6=>k_is)
    (case l6=>k_is)
    (case c6=>k_is)
    (case k6=>k_is)
    (case a7=>k_is)
    (case l7=>k_is)
    (case c7=>k_is)
    (case k7=>k_is)
    (case a8=>k_is)
    (case l8=>k_is)
    (case c8=>k_is)
    (case k8=>k_is)
    (case a9=>k_is)
    (case l9=>k_is)
    (case c9=>k_is)
    (case k9=>k_is)
    (case a10=>k_is)
    (case l10=>k_is)
    (case c10=>k_is)
    (case k10=>k_is)
    (case a11=>k_is)
    (case l11=>k_is)
    (case c11=>k_is)
    (case k11=>k_is)
    (case a12=>k_is)
    (case l12=>k_is)
    (case c12=>k_is)
    (case k12=>k_is)
    (case a13=>k_is)
    (case l13=>k_is)
    (case c13=>k_is)
    (case k13=>k_is)
    (case a14=>k_is)
    (case l14=>k_is)
    (case c14=>k_is)
    (case k14=>k_is)
    (case a15=>k_is)
    (case l15=>k_is)
    (case c15=>k_is)
    (case k15=>k_is)
    (case a16=>k_is)
    (case l16=>k_is)
    (case c16=>k_is)
    (case k16=>k_is)
    (case a17=>k_is)
    (case l17=>k_is)
    (case c17=>k_is)
    (case k17=>k_is)
    (case a18=>k_is)
    (case l18=>k_is)
    (case c18=>k_is)
    (case k18=>k_is)
    (case a19=>k_is)
    (case l19=>k_is)
    (case c19=>k_is)
    (case k19=>k_is)
    (case a20=>k_is)
    (case l20=>k_is)
    (case c20=>k_is)
    (case k20=>k_is)
    (case a21=>k_is)
    (case l21=>k_is)
    (case c21=>k_is)
    (case k21=>k_is)
    (case a22=>k_is)
    (case l22=>k_is)
    (case c22=>k_is)
    (case k22=>k_is)
    (case a23=>k_is)
    (case l23=>k_is)
    (case c23=>k_is)
    (case k23=>k_is)
    (case a24=>k_is)
    (case l24=>k_is)
    (case c24=>k_is)
    (case k24=>k_is)
    (case z0=>k_is)
    (case z1=>k_is)
    (case z2=>k_is)
    (case z3=>k_is)
    (case z4=>k_is)
    (case z5=>k_is)
    (case z6=>k_is)
    (case z7=>k_is)
    (case z8=>k_is)
    (case z9=>k_is)
    (case z10=>k_is)
    (case z11=>k_is)
    (case z12=>k_is)
    (case z13=>k_is)
    (case z14=>k_is)
    (case z15=>k_is)
    (case u0=>k_is)
    (case u1=>k_is)
    (case u2=>k_is)
    (case u3=>k_is)
    (case u4=>k_is)
    (case u5=>k_is)
    (case u6=>k_is)
    (case u7=>k_is)
    (case y0=>k_is)
    (case y1=>k_is)
    (case y2=>k_is)
    (case y3=>k_exc)
    (case y4=>k_is)
    (case y5=>k_is)
    (case y6=>k_is)
    (case y7=>k_is)
    (case y8=>k_is)
    (case y9=>k_is)
    (case y10=>kts_exm)
    (case y11=>kit_is)
    (case y12=>kit_is)
    (case y13=>k_exc)
    (case y14=>k_is)
    (case y15=>k_is)
    (case y16=>k_is)
    (case y17=>k_is)
    (case y18=>k_is)
    (case y19=>k_is)
    (case y20=>kts_exm)
    (case y21=>kit_is)
    (case y22=>kit_is)


