import PyProof.Rows.All
import Wide.All
import OpenK.AllK
import Wide.FinOn
import Lean
import PyProof.EqAt
import PyProof.EqKinds
import PyProof.TupleCall
import PySem.Challenge.RW_quartersheet_k64_ways_as_short_as_can_be
set_option Elab.async false
set_option linter.all false
set_option maxRecDepth 100000

namespace L2
open PySem PySem.Spec PyProof.Rows


abbrev Key:=Sum Int Str
def keyIs:Key→Value→Bool
  | .inl k,v=>Value.isInt k v
  | .inr x,v=>Value.isStrOf x v
def keyH (w:World):Key→Int
  | .inl k=>hashInt k
  | .inr x=>hashStr w x
theorem keyIs_shape:∀ {k:Key} {v:Value},keyIs k v=true→(∃ i t,k=Sum.inl i∧v=Value.int i t)∨(∃ x t,k=Sum.inr x∧v=Value.str x t)
  | .inl i,v,h=>by
    obtain ⟨t,e⟩:=Value.isInt_shape (k:=i) (v:=v) h;exact .inl ⟨i,t,rfl,e⟩
  | .inr x,v,h=>by
    obtain ⟨t,e⟩:=Value.isStrOf_shape (x:=x) (v:=v) h;exact .inr ⟨x,t,rfl,e⟩
theorem keyIs_int (i:Int) (t:Tok):keyIs (.inl i) (.int i t)=true:=by simp [keyIs,Value.isInt]
theorem keyIs_str (x:Str) (t:Tok):keyIs (.inr x) (.str x t)=true:=by simp [keyIs,Value.isStrOf]
theorem key_ll (a b:Int):decide ((Sum.inl a:Key)=Sum.inl b)=(a == b):=by
  by_cases e:a=b
  · subst e; simp
  · have h:¬ (Sum.inl a:Key)=Sum.inl b:=fun q=>e (Sum.inl.inj q);rw [decide_eq_false h];exact (beq_eq_false_iff_ne.mpr e).symm
theorem key_rr (a b:Str):decide ((Sum.inr a:Key)=Sum.inr b)=decide (a=b):=by
  by_cases e:a=b
  · subst e; simp
  · have h:¬ (Sum.inr a:Key)=Sum.inr b:=fun q=>e (Sum.inr.inj q);rw [decide_eq_false h,decide_eq_false e]
theorem key_lr (a:Int) (b:Str):decide ((Sum.inl a:Key)=Sum.inr b)=false:=decide_eq_false (fun q=>nomatch q)
theorem key_rl (a:Str) (b:Int):decide ((Sum.inr a:Key)=Sum.inl b)=false:=decide_eq_false (fun q=>nomatch q)

def mixKind (prog:Program) (w:World):PySem.KeyKind prog w Key where
  is:=keyIs
  hash:=keyH w
  inj:=fun v a b ha hb=>by
    rcases keyIs_shape ha with ⟨i,t,rfl,rfl⟩ | ⟨x,t,rfl,rfl⟩
    · rcases keyIs_shape hb with ⟨j,u,rfl,e⟩ | ⟨y,u,rfl,e⟩
      · injection e with e1 _; rw [e1]
      · exact nomatch e
    · rcases keyIs_shape hb with ⟨j,u,rfl,e⟩ | ⟨y,u,rfl,e⟩
      · exact nomatch e
      · injection e with e1 _; rw [e1]
  byValue:=fun k v h=>by
    rcases keyIs_shape h with ⟨i,t,rfl,rfl⟩ | ⟨x,t,rfl,rfl⟩ <;> rfl
  pyHash:=fun hv h=>by
    rcases keyIs_shape hv with ⟨i,t,rfl,rfl⟩ | ⟨x,t,rfl,rfl⟩
    · exact wpAny_pyHash_int h
    · exact wpAny_pyHash_str h
  eqBool:=fun hu hv h=>by
    rcases keyIs_shape hu with ⟨i,t,rfl,rfl⟩ | ⟨x,t,rfl,rfl⟩
    · rcases keyIs_shape hv with ⟨j,u,rfl,rfl⟩ | ⟨y,u,rfl,rfl⟩
      · rw [key_ll] at h; exact wpAny_eqBool_int h
      · rw [key_lr] at h; exact SeqAt.EqAt.int_str i t y u _ _ _ _ h
    · rcases keyIs_shape hv with ⟨j,u,rfl,rfl⟩ | ⟨y,u,rfl,rfl⟩
      · rw [key_rl] at h; exact SeqAt.EqAt.str_int x t j u _ _ _ _ h
      · rw [key_rr] at h; exact wpAny_eqBool_str h
  «strs» := fun k x t v h=>by
    rcases keyIs_shape h with ⟨i,u,rfl,e⟩ | ⟨y,u,rfl,e⟩
    · exact nomatch e
    · injection e with e1 _;subst e1;cases v <;> rfl

theorem mixKind_int (prog:Program) (w:World) (i:Int) (t:Tok):(mixKind prog w).is (.inl i) (.int i t)=true:=keyIs_int i t
theorem mixKind_str (prog:Program) (w:World) (x:Str) (t:Tok):(mixKind prog w).is (.inr x) (.str x t)=true:=keyIs_str x t
end L2

namespace L2
open PySem PySem.Spec PyProof.Rows


inductive V where
  | non | bl (b:Bool) | int (i:Int) | str (x:Str) | byt (b:Array UInt8) | flt (b:UInt64) | ref (a:Addr) | ty (n:String)
  deriving DecidableEq

def RelV:V→Value→Prop
  | .non,u=>u=Value.none
  | .bl b,u=>u=Value.bool b
  | .int i,u=>∃ t,u=Value.int i t
  | .str x,u=>∃ t,u=Value.str x t
  | .byt b,u=>∃ t,u=Value.bytes b t
  | .flt b,u=>∃ t,u=Value.float b t
  | .ref a,u=>u=Value.ref a
  | .ty n,u=>u=Value.type n

abbrev Vals:List V→List Value→Prop:=Paired RelV
theorem Vals.length {xs:List V} {us:List Value} (r:Vals xs us):xs.length=us.length:=Paired.length r
theorem Vals.get:∀ {xs:List V} {us:List Value} {i:Nat} {x:V},Vals xs us→xs[i]? = some x→∃ u,us[i]? = some u∧RelV x u
  | _,_,_,_,.nil,e=>by simp at e
  | _,_,0,_,.cons r _,e=>by simp at e; subst e; exact ⟨_,rfl,r⟩
  | _,_,i + 1,x,.cons _ t,e=>by
    obtain ⟨u,h1,h2⟩:=Vals.get (i:=i) (x:=x) t (by simpa using e);exact ⟨u,by simpa using h1,h2⟩
theorem Vals.append:∀ {xs ys:List V} {us ws:List Value},Vals xs us→Vals ys ws→Vals (xs++ys) (us++ws)
  | _,_,_,_,.nil,s=>s
  | _,_,_,_,.cons r t,s=>.cons r (Vals.append t s)
theorem Vals.take:∀ {xs:List V} {us:List Value} (n:Nat),Vals xs us→Vals (xs.take n) (us.take n)
  | _,_,0,_=>.nil
  | _,_,_ + 1,.nil=>.nil
  | _,_,n + 1,.cons r t=>.cons r (Vals.take n t)
theorem Vals.drop:∀ {xs:List V} {us:List Value} (n:Nat),Vals xs us→Vals (xs.drop n) (us.drop n)
  | _,_,0,r=>r
  | _,_,_ + 1,.nil=>.nil
  | _,_,n + 1,.cons _ t=>Vals.drop n t
def RelO:Option V→Option Value→Prop
  | some v,some u=>RelV v u
  | none,none=>True
  | _,_=>False
def KV {κ:Type}:List (κ × V)→List (κ × Value)→Prop:=Paired fun (p:κ × V) (q:κ × Value)=>p.1=q.1∧RelV p.2 q.2


def kV:Key→V
  | .inl i=>.int i
  | .inr x=>.str x


inductive HO where
  
  | lst (xs:List V)
  
  | tup (xs:List V)
  
  | dK (kvs:List (Key × V)) | dT (kvs:List (List Key × V))
  
  | set (S:Int→Bool) (n:Nat)
  
  | ins (C dx:Addr) (fs:List (Str × V))
  
  | own (x:Addr)
  
  | xd (fs:List (Str × V))
  
  | met (f x:Addr)
  
  | rng (lo hi:Int)
  
  | frz (o:Obj) (u:HO)
  
  | tbl (ps:Array Value)
  
  | ext (φ:Heap→Prop)

abbrev Hp:=Addr→Option HO
def upd (H:Hp) (a:Addr) (o:HO):Hp:=fun b=>if b=a then some o else H b
theorem upd_same {H:Hp} {a:Addr} {o:HO}:upd H a o a=some o:=by unfold upd; rw [if_pos rfl]
theorem upd_ne {H:Hp} {a b:Addr} {o:HO} (h:b≠a):upd H a o b=H b:=by unfold upd; rw [if_neg h]
theorem upd_upd {H:Hp} {a:Addr} {o u:HO}:upd (upd H a o) a u=upd H a u:=by
  funext b; unfold upd; split <;> rfl

theorem ne_of {H:Hp} {a b:Addr} {o u:HO} (h:H a=some o) (h':H b=some u) (d:o≠u):a≠b:=by
  intro e; subst e; rw [h] at h'; exact d (Option.some.inj h')
theorem ne_of_none {H:Hp} {a b:Addr} {o:HO} (h:H a=some o) (h':H b=none):a≠b:=by
  intro e; subst e; rw [h] at h'; cases h'

section
variable (P:Program) (w:World)
def ObjOk (H:Hp) (h:Heap) (a:Addr):HO→Prop
  | .lst xs=>xs.length≤sizeLine∧∃ (its:List Value) (n:Nat),Vals xs its∧h.get? a=some { cls:=.type "list",data:=.seq its.toArray n }
  | .tup xs=>xs.length≤sizeLine∧∃ its:List Value,Vals xs its∧IsTup h a its.toArray
  | .dK kvs=>kvs.length≤sizeLine∧(a == sysModules)=false∧∃ vs,KV kvs vs∧h.DictOf (mixKind P w) a vs
  | .dT kvs=>kvs.length≤sizeLine∧(a == sysModules)=false∧∃ xs:List (List Key × Addr × Value),
      Paired (fun (p:List Key × V) (q:List Key × Addr × Value)=>p.1=q.1∧H q.2.1=some (.tup (p.1.map kV))∧RelV p.2 q.2.2) kvs xs ∧
      ∃ o es ep,h.get? a=some o∧o.ExactDict∧o.data=.dict es ep∧es.toList=xs.map (entryOfKey (tupleKind (mixKind P w)))∧(xs.map (·.1)).Nodup
  | .set S n=>h.SetOf (intKind P w) a S n
  | .ins C dx fs=>H dx=some (.own a)∧fs.length≤1000∧dx≠a∧h.get? a=some (PySem.W.instObj C dx) ∧
      ∃ mA,h.Ns1 dx mA∧(∀ f,RelO (fs.lookup f) (mA f))∧PySem.Within mA (fs.map (·.1))
  | .own _=>∃ o,h.get? a=some o
  | .xd fs=>∃ mA,h.Ns1 a mA∧∀ f,RelO (fs.lookup f) (mA f)
  | .rng lo hi=>∃ t u v,h.get? a=some { cls:=.type "range",data:=.fields #[.int lo t,.int hi u,.int 1 v] }
  | .frz o u=>h.get? a=some o∧ObjOk H h a u
  | .tbl ps=>h.get? a=some { cls:=.none,data:=.fields ps }
  | .met f x=>h.get? a=some (PySem.W.methodObj (.ref f) (.ref x))
  | .ext φ=>φ h∧(∃ o,h.get? a=some o)∧∀ h1 h2:Heap,φ h1→(∀ o,h1.get? a=some o→h2.get? a=some o)→φ h2

def HOk (H:Hp) (h:Heap):Prop:=∀ a o,H a=some o→ObjOk P w H h a o
end

section
variable {P:Program} {w:World} {H H':Hp} {h h':Heap} {a:Addr} {o:HO}
theorem ObjOk.lt (x:ObjOk P w H h a o):a < h.objs.size:=by
  cases o with
  | lst xs=>obtain ⟨_,_,_,_,e⟩:=x; exact Heap.lt_size e
  | tup xs=>obtain ⟨_,_,_,p⟩:=x; exact p.lt
  | dK kvs=>obtain ⟨_,_,_,_,o,_,_,e,_⟩:=x; exact Heap.lt_size e
  | dT kvs=>obtain ⟨_,_,_,_,o,_,_,e,_⟩:=x; exact Heap.lt_size e
  | set S n=>obtain ⟨o,_,_,_,e,_⟩:=x; exact Heap.lt_size e
  | ins C dx fs=>obtain ⟨_,_,_,e,_⟩:=x; exact Heap.lt_size e
  | own y=>obtain ⟨_,e⟩:=x; exact Heap.lt_size e
  | xd fs=>obtain ⟨_,⟨_,_,_,e,_⟩,_⟩:=x; exact Heap.lt_size e
  | rng lo hi=>obtain ⟨_,_,_,e⟩:=x; exact Heap.lt_size e
  | frz ob u=>obtain ⟨e,_⟩:=x; exact Heap.lt_size e
  | tbl ps=>exact Heap.lt_size (show h.get? a=some _ from x)
  | met f y=>exact Heap.lt_size (show h.get? a=some _ from x)
  | ext φ=>obtain ⟨_,⟨_,e⟩,_⟩:=x; exact Heap.lt_size e
theorem Paired.mapP {α β:Type} {F G:α→β→Prop}:∀ {l₁:List α} {l₂:List β},Paired F l₁ l₂→(∀ a b,F a b→G a b)→Paired G l₁ l₂
  | _,_,.nil,_=>.nil
  | _,_,.cons r t,f=>.cons (f _ _ r) (Paired.mapP t f)
theorem ObjOk.stay (x:ObjOk P w H h a o) (k:∀ b u,(b=a∨H b=some (.own a))→h.get? b=some u→h'.get? b=some u)
    (ho:∀ b,H b=some (.own a)→H' b=some (.own a)) (ht:∀ b xs,H b=some (.tup xs)→H' b=some (.tup xs)):ObjOk P w H' h' a o:=by
  induction o with
  | lst xs=>obtain ⟨z,its,n,r,e⟩:=x; exact ⟨z,its,n,r,k _ _ (.inl rfl) e⟩
  | tup xs=>obtain ⟨z,its,r,ob,e,c⟩:=x; exact ⟨z,its,r,ob,k _ _ (.inl rfl) e,c⟩
  | dK kvs=>obtain ⟨z,y,vs,r,ob,es,ep,e,c⟩:=x; exact ⟨z,y,vs,r,ob,es,ep,k _ _ (.inl rfl) e,c⟩
  | dT kvs =>
    obtain ⟨z,y,xs,r,ob,es,ep,e,c⟩:=x;exact ⟨z,y,xs,Paired.mapP r fun p q z=>⟨z.1,ht _ _ z.2.1,z.2.2⟩,ob,es,ep,k _ _ (.inl rfl) e,c⟩
  | set S n=>obtain ⟨ob,es,ep,t,e,c⟩:=x; exact ⟨ob,es,ep,t,k _ _ (.inl rfl) e,c⟩
  | ins C dx fs =>
    obtain ⟨d,z,ne,e,mA,⟨od,es,ep,e2,c⟩,r⟩:=x;exact ⟨ho _ d,z,ne,k _ _ (.inl rfl) e,mA,⟨od,es,ep,k _ _ (.inr d) e2,c⟩,r⟩
  | own y=>obtain ⟨ob,e⟩:=x; exact ⟨ob,k _ _ (.inl rfl) e⟩
  | xd fs=>obtain ⟨mA,⟨od,es,ep,e,c⟩,r⟩:=x; exact ⟨mA,⟨od,es,ep,k _ _ (.inl rfl) e,c⟩,r⟩
  | rng lo hi=>obtain ⟨t,u,v,e⟩:=x; exact ⟨t,u,v,k _ _ (.inl rfl) e⟩
  | frz ob u ih=>obtain ⟨e,q⟩:=x; exact ⟨k _ _ (.inl rfl) e,ih q⟩
  | tbl ps =>
    have e:h.get? a=some { cls:=.none,data:=.fields ps }:=x;show h'.get? a=some { cls:=.none,data:=.fields ps };exact k a _ (.inl rfl) e
  | met f y =>
    have e:h.get? a=some (PySem.W.methodObj (.ref f) (.ref y)):=x;show h'.get? a=some (PySem.W.methodObj (.ref f) (.ref y));exact k a _ (.inl rfl) e
  | ext φ=>obtain ⟨p,⟨o,e⟩,st⟩:=x; exact ⟨st _ _ p fun o q=>k _ _ (.inl rfl) q,⟨o,k _ _ (.inl rfl) e⟩,st⟩
theorem HOk.lt (x:HOk P w H h) (e:H a=some o):a < h.objs.size:=(x a o e).lt
theorem HOk.fresh (x:HOk P w H h) (e:h.objs.size≤a):H a=none:=by
  cases q:H a with
  | none=>rfl
  | some u=>exact absurd (Nat.lt_of_lt_of_le (x.lt q) e) (Nat.lt_irrefl _)

theorem HOk.kept (x:HOk P w H h) (k:∀ b u,h.get? b=some u→h'.get? b=some u):HOk P w H h':=fun a o e =>
  (x a o e).stay (fun b u _ q=>k b u q) (fun _ q=>q) fun _ _ q=>q

theorem HOk.laid (x:HOk P w H h) (k:∀ b u,h.get? b=some u→h'.get? b=some u) (hp:h.objs.size≤a) (new:ObjOk P w (upd H a o) h' a o):HOk P w (upd H a o) h':=fun b u e=>by
  have hn:=x.fresh hp;by_cases hb:b=a
  · subst hb; rw [upd_same] at e; cases e; exact new
  · rw [upd_ne hb] at e;exact (x b u e).stay (fun c v _ q=>k c v q) (fun c q=>by rw [upd_ne (ne_of_none q hn)]; exact q) fun c xs q=>by rw [upd_ne (ne_of_none q hn)]; exact q
end


def Rd (H:Hp) (a:Addr) (u:HO):Prop:=H a=some u∨∃ o,H a=some (.frz o u)
theorem Rd.ok {P:Program} {w:World} {H:Hp} {h:Heap} {a:Addr} {u:HO} (r:Rd H a u) (x:HOk P w H h):ObjOk P w H h a u:=by
  rcases r with r | ⟨o,r⟩
  · exact x a u r
  · obtain ⟨_,q⟩:=x a _ r;exact q

def Mut:Option HO→Prop
  | some (.lst _)=>True
  | some (.dK _)=>True
  | some (.dT _)=>True
  | some (.set _ _)=>True
  | some (.ins _ _ _)=>True
  | some (.ext _)=>True
  | _=>False
section
variable {P:Program} {w:World} {H:Hp} {h h':Heap} {x e:Addr} {o':HO}

theorem HOk.write (ok:HOk P w H h) (mu:Mut (H x)) (he:e=x∨H e=some (.own x)) (k:∀ b u,b≠e→h.get? b=some u→h'.get? b=some u) (heo:∃ u,h'.get? e=some u)
    (new:ObjOk P w (upd H x o') h' x o'):HOk P w (upd H x o') h':=fun b u q=>by
  have nown:∀ c y,H c=some (.own y)→c≠x:=fun c y r z=>by subst z; rw [r] at mu; exact mu
  have ntup:∀ c xs,H c=some (.tup xs)→c≠x:=fun c xs r z=>by subst z; rw [r] at mu; exact mu
  by_cases hb:b=x
  · subst hb; rw [upd_same] at q; cases q; exact new
  · rw [upd_ne hb] at q;by_cases hbe:b=e
    · have q':H b=some (.own x):=by
        rcases he with z | z
        · exact absurd (hbe.trans z) hb
        · rw [hbe]; exact z
      rw [q] at q'; cases q';obtain ⟨v,hv⟩:=heo;exact ⟨v,by rw [hbe]; exact hv⟩
    · refine (ok b u q).stay (fun c v hc r=>k c v ?_ r) (fun c r=>by rw [upd_ne (nown c b r)]; exact r) fun c xs r=>by rw [upd_ne (ntup c xs r)]; exact r
      rcases hc with rfl | hc
      · exact hbe
      · rintro rfl;rcases he with z | z
        · exact nown c b hc z
        · rw [hc] at z; cases z; exact hb rfl
end


structure Un (fs ex:List Addr) (H H':Hp) (h h':Heap):Prop where
  keep:∀ b o,h.get? b=some o→H b=none→b∉fs→b∉ex→h'.get? b=some o
  slot:∀ b o,h.get? b=some o→H b=none→b∈fs→b∉ex→∃ sl,h'.get? b=some { o with slots:=sl }
  free:∀ b o,h.get? b=some o→H b=none→b∉ex→H' b=none
  there:∀ b o,h.get? b=some o→b∉ex→∃ o',h'.get? b=some o'
  tups:∀ b xs,H b=some (.tup xs)→H' b=some (.tup xs)
  frzs:∀ b o u,H b=some (.frz o u)→H' b=some (.frz o u)
  tbls:∀ b ps,H b=some (.tbl ps)→∃ more,H' b=some (.tbl (ps++more))
section
variable {fs fs' ex ex':List Addr} {H H1 H2:Hp} {h h1 h2 h':Heap} {a x e:Addr} {o:HO}
theorem Un.any (u:Un fs ex H H1 h h1) {b:Addr} {ob:Obj} (q:h.get? b=some ob) (n:H b=none) (hx:b∉ex):∃ sl,h1.get? b=some { ob with slots:=sl }:=by
  by_cases hb:b∈fs
  · exact u.slot b ob q n hb hx
  · exact ⟨ob.slots,u.keep b ob q n hb hx⟩
theorem Un.kept (k:∀ b u,h.get? b=some u→h'.get? b=some u):Un fs ex H H h h' :=
  ⟨fun b ob q _ _ _=>k b ob q,fun b ob q _ _ _=>⟨ob.slots,k b ob q⟩,fun _ _ _ n _=>n,fun b ob q _=>⟨ob,k b ob q⟩,fun _ _ q=>q,fun _ _ _ q=>q,fun _ ps q=>⟨#[],by rw [q]; simp⟩⟩
theorem Un.refl:Un fs ex H H h h:=Un.kept fun _ _ q=>q
theorem Un.laid (k:∀ b u,h.get? b=some u→h'.get? b=some u) (hp:h.objs.size≤a) (hn:H a=none):Un fs ex H (upd H a o) h h' where
  keep:=fun b u q _ _ _=>k b u q
  slot:=fun b u q _ _ _=>⟨u.slots,k b u q⟩
  free:=fun b u q n _=>by rw [upd_ne (Nat.ne_of_lt (Nat.lt_of_lt_of_le (Heap.lt_size q) hp))]; exact n
  there:=fun b u q _=>⟨u,k b u q⟩
  tups:=fun b xs q=>by rw [upd_ne (ne_of_none q hn)]; exact q
  frzs:=fun b u xs q=>by rw [upd_ne (ne_of_none q hn)]; exact q
  tbls:=fun b ps q=>⟨#[],by rw [upd_ne (ne_of_none q hn),q]; simp⟩
theorem Un.write (mu:Mut (H x)) (he:e=x∨H e=some (.own x)) (k:∀ b u,b≠e→h.get? b=some u→h'.get? b=some u) (heo:∃ u,h'.get? e=some u):Un fs ex H (upd H x o) h h':=by
  have hx:∀ b,H b=none→b≠x:=fun b n z=>by subst z; rw [n] at mu; exact mu
  have hb:∀ b,H b=none→b≠e:=fun b n z=>by
    subst z;rcases he with r | r
    · exact hx b n r
    · rw [n] at r; cases r
  have hm:∀ b u,H b=some u→¬ Mut (some u)→b≠x:=fun b u q nm z=>by subst z; rw [q] at mu; exact nm mu
  refine ⟨fun b u q n _ _=>k b u (hb b n) q,fun b u q n _ _=>⟨u.slots,k b u (hb b n) q⟩,fun b u q n _=>by rw [upd_ne (hx b n)]; exact n,fun b u q _ => ?_,
    fun b xs q=>by rw [upd_ne (hm b _ q fun z=>z)]; exact q,fun b u xs q=>by rw [upd_ne (hm b _ q fun z=>z)]; exact q,fun b ps q=>⟨#[],by rw [upd_ne (hm b _ q fun z=>z),q]; simp⟩⟩
  by_cases hbe:b=e
  · subst hbe; exact heo
  · exact ⟨u,k b u hbe q⟩
end


def trk (h:Heap) (H:Hp):List Addr:=(List.range h.objs.size).filter fun a=>(H a).isSome
def hidT (h:Heap) (H:Hp):Heap:=PySem.W.hideAll h (trk h H)
theorem hidT_size (h:Heap) (H:Hp):(hidT h H).objs.size=h.objs.size:=PySem.W.hideAll_size _ _
theorem hidT_get {h:Heap} {H:Hp} {b:Addr} {o:Obj} (e:h.get? b=some o) (n:H b=none):(hidT h H).get? b=some o :=
  PySem.W.hideAll_get _ e fun hm=>by
    have q:(H b).isSome=true:=(List.mem_filter.mp hm).2;rw [n] at q; simp at q
theorem of_hidT {h:Heap} {H:Hp} {b:Addr} {o:Obj} (e:(hidT h H).get? b=some o):h.get? b=some o∧H b=none:=by
  have e':h.get? b=some o:=PySem.W.of_hideAll (trk h H) e;refine ⟨e',?_⟩;cases q:H b with
  | none=>rfl
  | some x =>
    have hm:b∈trk h H:=List.mem_filter.mpr ⟨List.mem_range.mpr (Heap.lt_size e'),by simp [q]⟩;have z:(hidT h H).get? b=none:=PySem.W.hideAll_none (trk h H) hm;rw [z] at e; cases e


end L2

namespace L2
open PySem PySem.Spec PyProof.Rows


structure Mod (K:PySem.W.Frag) (mg:Str→Option Value) (base:Heap):Prop where
  kin:K.In base
  glob:base.Ns mainGlobals mg
  blt:∃ mb,base.Ns builtinsNs mb∧∀ x:Str,x ≠ "__name__" → mb x=bootBuiltins x
  nolimit:base.NoLimit


structure Cx where
  prog:Program
  w:World
  K:PySem.W.Frag
  mg:Str→Option Value
  base:Heap
  A:Around
  N:List Str
  s₀:Shared
  H₀:Hp
  env:Env
  outer:List Env
  stack:List Env
  ex:List Addr
  fn:Str→Bool
  calm:Bool
  pn:List (Addr × Obj)
  xe:Value→Shared→Prop

def frs (l:List Env):List Addr:=l.filterMap (·.frame)
abbrev Cx.fs (X:Cx):List Addr:=frs X.outer

def Vis (sc:Scope) (x:Str):Prop:=sc.names.lookup x=some .local∨sc.names.lookup x=some .cell∨sc.names.lookup x=some .free
def Loc (sc:Scope) (x:Str):Prop:=sc.names.lookup x=some .local∨sc.names.lookup x=some .cell
def Look (env:Env) (h:Heap) (m:Str→Option Value) (x:Str) (u:Value):Prop :=
  (env.kindOf x=some .local∧m x=some u)∨((env.kindOf x=some .cell∨env.kindOf x=some .free)∧∃ c,env.cells.lookup x=some c∧h.IsCell c (some u))

structure Cx.Ok (X:Cx):Prop where
  mod:Mod X.K X.mg X.base
  kind:X.env.scope.kind=.function
  glob:X.env.globals=mainGlobals
  blt:X.env.builtins=builtinsNs
  above:X.s₀.heap.objs.size≤X.env.locals
  inj:∀ x y c,X.env.cells.lookup x=some c→X.env.cells.lookup y=some c→x=y
  has:∀ x,(X.env.kindOf x=some .cell∨X.env.kindOf x=some .free)→∃ c,X.env.cells.lookup x=some c
  cab:∀ x c,X.fn x=true→X.env.cells.lookup x=some c→X.s₀.heap.objs.size≤c
  hd:X.calm=true→X.A.handled=none
  frames:X.A.frames=some X.stack
  stk:X.stack=X.outer∨(X.stack=X.env::X.outer∧X.env.frame=some X.env.locals)
  exf:∀ b∈X.ex,b≠X.env.locals∧∀ x c,X.env.cells.lookup x=some c→c≠b
  bs:∀ b o,X.base.get? b=some o→X.s₀.heap.get? b=some o∧X.H₀ b=none
  bsz:X.base.objs.size≤X.s₀.heap.objs.size
  noex:∀ b o,X.base.get? b=some o→b∉X.ex
  exfs:∀ b∈X.ex,b∉X.fs
  funs:X.s₀.heap.FunFrames X.base X.outer
  frf:∀ b∈X.fs,X.H₀ b=none

structure Inv (X:Cx) (pins:List (Addr × Obj)) (σ:List (Option V)) (H:Hp) (s:Shared):Prop where
  ok:X.Ok
  os:s.os=X.s₀.os
  bare:AllBare s.gens
  base:Un X.fs X.ex X.H₀ H X.s₀.heap s.heap
  loc:∃ m,s.heap.Ns X.env.locals m∧∀ (i:Nat) (x:Str) (v:V),X.N[i]? = some x→σ[i]? = some (some v)→Vis X.env.scope x→∃ u,RelV v u∧Look X.env s.heap m x u
  cell:∀ x c,X.env.cells.lookup x=some c→∃ v,s.heap.IsCell c v
  free:H X.env.locals=none
  freeC:∀ x c,X.env.cells.lookup x=some c→H c=none
  pin:∀ p∈X.pn++pins,s.heap.get? p.1=some p.2∧H p.1=none∧p.1≠X.env.locals∧p.1∉X.fs∧∀ v,p.2.data≠.cell v
  hok:HOk X.prog X.w H s.heap
  len:σ.length=X.N.length

section
variable {X:Cx} {pins:List (Addr × Obj)} {σ:List (Option V)} {H H':Hp} {s:Shared} {h':Heap}

theorem Cx.Ok.nofr (ok:X.Ok) {b:Addr} {o:Obj} (e:X.base.get? b=some o):b∉X.fs:=fun hb=>by
  have:=(ok.funs.mem hb).1
  rw [e] at this; cases this
theorem Inv.bs (I:Inv X pins σ H s):∀ b o,X.base.get? b=some o→s.heap.get? b=some o∧H b=none:=fun b o e =>
  ⟨I.base.keep b o (I.ok.bs b o e).1 (I.ok.bs b o e).2 (I.ok.nofr e) (I.ok.noex b o e),I.base.free b o (I.ok.bs b o e).1 (I.ok.bs b o e).2 (I.ok.noex b o e)⟩
theorem Inv.bk (I:Inv X pins σ H s):∀ b o,X.base.get? b=some o→s.heap.get? b=some o:=fun b o e=>(I.bs b o e).1
theorem Inv.mod (I:Inv X pins σ H s):Mod X.K X.mg X.base:=I.ok.mod
theorem Inv.kIn (I:Inv X pins σ H s):X.K.In s.heap:=I.ok.mod.kin.keeps I.bk
theorem Inv.lt (I:Inv X pins σ H s):X.env.locals < s.heap.objs.size:=let ⟨_,hn,_⟩:=I.loc; hn.lt
theorem Inv.sz (I:Inv X pins σ H s):X.s₀.heap.objs.size≤s.heap.objs.size:=Nat.le_trans I.ok.above (Nat.le_of_lt I.lt)
theorem Inv.nofs (I:Inv X pins σ H s) {a:Addr} (h:s.heap.objs.size≤a):a∉X.fs:=fun hb=>by
  obtain ⟨_,o,ho,_⟩:=I.ok.funs.mem hb;exact absurd (Nat.lt_of_lt_of_le (Heap.lt_size ho) (Nat.le_trans I.sz h)) (Nat.lt_irrefl _)
theorem Inv.cne (I:Inv X pins σ H s):∀ x c,X.env.cells.lookup x=some c→c≠X.env.locals:=fun x c e z=>by
  obtain ⟨v,o,ho,hd⟩:=I.cell x c e;obtain ⟨m,⟨o',es,ep,ho',hd',_⟩,_⟩:=I.loc;rw [z,ho'] at ho; cases ho; rw [hd'] at hd; cases hd
theorem Inv.funs (I:Inv X pins σ H s):s.heap.FunFrames X.base X.outer:=by
  have all:∀ (l:List Env),(∀ b∈frs l,b∈X.fs)→X.s₀.heap.FunFrames X.base l→s.heap.FunFrames X.base l:=by
    intro l
    induction l with
    | nil=>intro _ _; trivial
    | cons env r ih =>
      intro hs hl;obtain ⟨hk,⟨L,o,hf,hn,ho,hd⟩,hr⟩:=hl;have hL:L∈X.fs:=hs L (by unfold frs; rw [List.filterMap_cons,hf]; exact List.mem_cons_self);obtain ⟨sl,e⟩:=I.base.slot L o ho (I.ok.frf L hL) hL fun z=>I.ok.exfs L z hL;exact ⟨hk,⟨L,_,hf,hn,e,hd⟩,ih (fun b hb=>hs b (by unfold frs; rw [List.filterMap_cons,hf]; exact List.mem_cons_of_mem _ hb)) hr⟩
  exact all X.outer (fun _ hb=>hb) I.ok.funs


theorem Inv.stack (I:Inv X pins σ H s):s.heap.FunFrames X.base X.stack:=by
  rcases I.ok.stk with e | ⟨e,hf⟩
  · rw [e]; exact I.funs
  · rw [e];obtain ⟨m,hn,_⟩:=I.loc;refine .cons (by rw [I.ok.kind]; decide) hf hn ?_ I.funs;exact Heap.get?_none_of_le (Nat.le_trans I.ok.bsz I.ok.above)
theorem Inv.stkSub (I:Inv X pins σ H s):∀ b∈frs X.stack,b∈X.env.locals::X.fs:=fun b hb=>by
  rcases I.ok.stk with e | ⟨e,hf⟩
  · rw [e] at hb; exact List.mem_cons_of_mem _ hb
  · rw [e] at hb;unfold frs at hb;rw [List.filterMap_cons,hf] at hb;exact hb
theorem Inv.stkFree (I:Inv X pins σ H s):∀ b∈frs X.stack,H b=none:=fun b hb=>by
  rcases List.mem_cons.mp (I.stkSub b hb) with e | hb
  · rw [e]; exact I.free
  · obtain ⟨_,o,ho,_⟩:=I.ok.funs.mem hb;exact I.base.free b o ho (I.ok.frf b hb) fun z=>I.ok.exfs b z hb


theorem Inv.step {g':Array GenState} {t':Nat} {d':Drawn} {ch:List Addr} (I:Inv X pins σ H s)
    (hch:∀ b∈ch,(b∈X.ex∨X.s₀.heap.objs.size≤b)∧b≠X.env.locals∧(∀ x c,X.env.cells.lookup x=some c→c≠b)∧∀ p∈X.pn++pins,p.1≠b)
    (keep:∀ b o,b≠X.env.locals→b∉X.fs→b∉ch→s.heap.get? b=some o→H b=none→h'.get? b=some o)
    (slot:∀ b o,b≠X.env.locals→b∈X.fs→b∉ch→s.heap.get? b=some o→H b=none→∃ sl,h'.get? b=some { o with slots:=sl }) (free:∀ b o,b∉ch→s.heap.get? b=some o→H b=none→H' b=none)
    (there:∀ b o,b∉ch→s.heap.get? b=some o→∃ o',h'.get? b=some o')
    (tups:∀ b xs,H b=some (.tup xs)→H' b=some (.tup xs)) (frzs:∀ b o u,H b=some (.frz o u)→H' b=some (.frz o u)) (tbls:∀ b ps,H b=some (.tbl ps)→∃ more,H' b=some (.tbl (ps++more)))
    (ns:∀ m,s.heap.Ns X.env.locals m→h'.Ns X.env.locals m) (hok:HOk X.prog X.w H' h') (hg:AllBare g') :
    Inv X pins σ H' { s with heap:=h',gens:=g',drawn:=d',toks:=t' }:=by
  have neL:∀ b o,X.s₀.heap.get? b=some o→b≠X.env.locals:=fun b o e=>Nat.ne_of_lt (Nat.lt_of_lt_of_le (Heap.lt_size e) I.ok.above);have neC:∀ b o,X.s₀.heap.get? b=some o→b∉X.ex→b∉ch:=fun b o e hx hb=>by
    rcases (hch b hb).1 with z | z
    · exact hx z
    · exact absurd (Nat.lt_of_lt_of_le (Heap.lt_size e) z) (Nat.lt_irrefl _)
  have cellK:∀ x c,X.env.cells.lookup x=some c→∀ v,s.heap.IsCell c v→h'.IsCell c v:=fun x c e v ⟨o,ho,hd⟩=>by
    have nch:c∉ch:=fun z=>(hch c z).2.2.1 x c e rfl;by_cases hc:c∈X.fs
    · obtain ⟨sl,q⟩:=slot c o (I.cne x c e) hc nch ho (I.freeC x c e);exact ⟨_,q,hd⟩
    · exact ⟨o,keep c o (I.cne x c e) hc nch ho (I.freeC x c e),hd⟩
  refine ⟨I.ok,I.os,hg,⟨fun b o e n hb hx => ?_,fun b o e n hb hx => ?_,fun b o e n hx => ?_,fun b o e hx => ?_,fun b xs e=>tups b xs (I.base.tups b xs e),fun b o xs e=>frzs b o xs (I.base.frzs b o xs e),fun b ps e => ?_⟩,?_,fun x c e => ?_,?_,fun x c e => ?_,fun p hp => ?_,hok,I.len⟩
  · exact keep b o (neL b o e) hb (neC b o e hx) (I.base.keep b o e n hb hx) (I.base.free b o e n hx)
  · obtain ⟨sl,e1⟩:=I.base.slot b o e n hb hx;obtain ⟨sl',e2⟩:=slot b _ (neL b o e) hb (neC b o e hx) e1 (I.base.free b o e n hx);exact ⟨sl',e2⟩
  · obtain ⟨o',e1⟩:=I.base.there b o e hx;exact free b o' (neC b o e hx) e1 (I.base.free b o e n hx)
  · obtain ⟨o',e1⟩:=I.base.there b o e hx;exact there b o' (neC b o e hx) e1
  · obtain ⟨m1,e1⟩:=I.base.tbls b ps e;obtain ⟨m2,e2⟩:=tbls b _ e1;exact ⟨m1++m2,by rw [e2,Array.append_assoc]⟩
  · obtain ⟨m,hn,hl⟩:=I.loc;refine ⟨m,ns m hn,fun i x v e1 e2 e3 => ?_⟩;obtain ⟨u,r,l⟩:=hl i x v e1 e2 e3;refine ⟨u,r,?_⟩;rcases l with l | ⟨k,c,e,z⟩
    · exact .inl l
    · exact .inr ⟨k,c,e,cellK x c e _ z⟩
  · obtain ⟨v,z⟩:=I.cell x c e;exact ⟨v,cellK x c e v z⟩
  · obtain ⟨m,⟨o,_,_,ho,_⟩,_⟩:=I.loc;exact free _ o (fun z=>(hch _ z).2.1 rfl) ho I.free
  · obtain ⟨v,o,ho,hd⟩:=I.cell x c e;exact free c o (fun z=>(hch c z).2.2.1 x c e rfl) ho (I.freeC x c e)
  · obtain ⟨e,n,ne,nf,d⟩:=I.pin p hp;have nch:p.1∉ch:=fun z=>(hch p.1 z).2.2.2 p hp rfl;exact ⟨keep p.1 p.2 ne nf nch e n,free p.1 p.2 nch e n,ne,nf,d⟩

theorem Inv.un {t':Nat} (I:Inv X pins σ H s) (u:Un X.fs [] H H' s.heap h') (hok:HOk X.prog X.w H' h'):Inv X pins σ H' { s with heap:=h',toks:=t' }:=by
  obtain ⟨m,⟨o,es,ep,ho,r⟩,_⟩:=id I.loc;obtain ⟨sl,hL⟩:=u.any ho I.free (by simp);exact I.step (g':=s.gens) (d':=s.drawn) (ch:=[]) (fun _ z=>nomatch z) (fun b o _ hb _ e n=>u.keep b o e n hb (by simp)) (fun b o _ hb _ e n=>u.slot b o e n hb (by simp)) (fun b o _ e n=>u.free b o e n (by simp)) (fun b o _ e=>u.there b o e (by simp)) u.tups u.frzs u.tbls (fun m' hm=>by
    obtain ⟨o',es',ep',ho',r'⟩:=hm;rw [ho] at ho'; cases ho';exact ⟨_,es',ep',hL,r'⟩) hok I.bare

theorem Inv.call {g':Array GenState} {t':Nat} {d':Drawn} {ch:List Addr} (I:Inv X pins σ H s) (u:Un (frs X.stack) ch H H' s.heap h') (hok:HOk X.prog X.w H' h') (hg:AllBare g')
    (hch:∀ b∈ch,(b∈X.ex∨X.s₀.heap.objs.size≤b)∧b≠X.env.locals∧(∀ x c,X.env.cells.lookup x=some c→c≠b)∧∀ p∈X.pn++pins,p.1≠b) :
    Inv X pins σ H' { s with heap:=h',gens:=g',drawn:=d',toks:=t' }:=by
  obtain ⟨m,⟨o,es,ep,ho,r⟩,_⟩:=id I.loc;obtain ⟨sl,hL⟩:=u.any ho I.free fun z=>(hch _ z).2.1 rfl;exact I.step (ch:=ch) hch (fun b o hL hb hc e n=>u.keep b o e n (fun z=>(List.mem_cons.mp (I.stkSub b z)).elim hL hb) hc) (fun b o _ _ hc e n=>u.any e n hc) (fun b o hc e n=>u.free b o e n hc) (fun b o hc e=>u.there b o e hc) u.tups u.frzs u.tbls (fun m' hm=>by
    obtain ⟨o',es',ep',ho',r'⟩:=hm;rw [ho] at ho'; cases ho';exact ⟨_,es',ep',hL,r'⟩) hok hg

theorem Inv.turned {t':Nat} {it:Addr} (I:Inv X pins σ H s) (k:∀ b o,b≠it→s.heap.get? b=some o→h'.get? b=some o) (hn:H it=none) (hL:it≠X.env.locals)
    (h1:it∈X.ex∨X.s₀.heap.objs.size≤it) (h2:∀ x c,X.env.cells.lookup x=some c→c≠it) (h3:∀ p∈X.pn++pins,p.1≠it):Inv X pins σ H { s with heap:=h',toks:=t' }:=by
  have nit:∀ b u,H b=some u→b≠it:=fun b u e z=>by rw [z,hn] at e; cases e
  refine I.step (g':=s.gens) (d':=s.drawn) (ch:=[it]) (fun b hb => ?_) (fun b o _ _ hc e _=>k b o (fun z=>hc (by simp [z])) e) (fun b o _ _ hc e _=>⟨o.slots,k b o (fun z=>hc (by simp [z])) e⟩) (fun _ _ _ _ n=>n)
    (fun b o hc e=>⟨o,k b o (fun z=>hc (by simp [z])) e⟩) (fun _ _ e=>e) (fun _ _ _ e=>e) (fun b ps e=>⟨#[],by rw [e]; simp⟩) (fun m hm => ?_) (fun b u e => ?_) I.bare
  · have e:b=it:=by simpa using hb
    subst e;exact ⟨h1,hL,h2,h3⟩
  · obtain ⟨o,es,ep,ho,r⟩:=hm;exact ⟨o,es,ep,k _ o (Ne.symm hL) ho,r⟩
  · refine (I.hok b u e).stay (fun c v hc q=>k c v ?_ q) (fun _ q=>q) fun _ _ q=>q;rcases hc with z | z
    · rw [z]; exact nit b u e
    · exact nit c _ z
theorem Inv.tok (I:Inv X pins σ H s) (t:Nat):Inv X pins σ H { s with toks:=t }:=I.un (h':=s.heap) (t':=t) Un.refl I.hok

theorem Inv.kept {t':Nat} (I:Inv X pins σ H s) (k:∀ b u,s.heap.get? b=some u→h'.get? b=some u):Inv X pins σ H { s with heap:=h',toks:=t' }:=I.un (Un.kept k) (I.hok.kept k)

theorem Inv.laid {a:Addr} {o:HO} {t':Nat} (I:Inv X pins σ H s) (k:∀ b u,s.heap.get? b=some u→h'.get? b=some u) (hp:s.heap.objs.size≤a) (new:ObjOk X.prog X.w (upd H a o) h' a o) :
    Inv X pins σ (upd H a o) { s with heap:=h',toks:=t' }:=I.un (Un.laid k hp (I.hok.fresh hp)) (I.hok.laid k hp new)

theorem Inv.write {x e:Addr} {o:HO} {t':Nat} (I:Inv X pins σ H s) (mu:Mut (H x)) (he:e=x∨H e=some (.own x)) (k:∀ b u,b≠e→s.heap.get? b=some u→h'.get? b=some u) (heo:∃ u,h'.get? e=some u)
    (new:ObjOk X.prog X.w (upd H x o) h' x o):Inv X pins σ (upd H x o) { s with heap:=h',toks:=t' }:=I.un (Un.write mu he k heo) (I.hok.write mu he k heo new)

theorem Inv.weak {σ':List (Option V)} (I:Inv X pins σ H s) (hl:σ'.length=σ.length) (w:∀ (i:Nat) v,σ'[i]? = some (some v)→σ[i]? = some (some v)):Inv X pins σ' H s :=
  ⟨I.ok,I.os,I.bare,I.base,let ⟨m,hn,hl'⟩:=I.loc; ⟨m,hn,fun i x v e1 e2 e3=>hl' i x v e1 (w i v e2) e3⟩,I.cell,I.free,I.freeC,I.pin,I.hok,hl.trans I.len⟩
theorem Inv.pins_of {pins':List (Addr × Obj)} (I:Inv X pins σ H s) (h:∀ p∈pins',s.heap.get? p.1=some p.2∧H p.1=none∧p.1≠X.env.locals∧p.1∉X.fs∧∀ v,p.2.data≠.cell v):Inv X pins' σ H s :=
  ⟨I.ok,I.os,I.bare,I.base,I.loc,I.cell,I.free,I.freeC,fun p hp=>(List.mem_append.mp hp).elim (fun z=>I.pin p (List.mem_append_left _ z)) (h p),I.hok,I.len⟩

theorem nodup_ix {N:List Str} (hN:N.Nodup) {i j:Nat} {x:Str} (a:N[i]? = some x) (b:N[j]? = some x):i=j:=by
  obtain ⟨h1,e1⟩:=List.getElem?_eq_some_iff.mp a;obtain ⟨h2,e2⟩:=List.getElem?_eq_some_iff.mp b;exact (List.getElem_inj hN).mp (e1.trans e2.symm)


theorem store_ok2 {M:Model} {A:Around} {E:Value→Shared→Prop} {i:Nat} {x:Str} {v:V} {u:Value} {Q:Unit→Shared→Prop} (I:Inv X pins σ H s) (hN:X.N.Nodup) (hi:X.N[i]? = some x) (hx:Loc X.env.scope x) (r:RelV v u)
    (h:∀ s',Inv X pins (σ.set i (some v)) H s'→(∃ a,Heap.SameBut a s.heap s'.heap∧(a=X.env.locals∨X.env.cells.lookup x=some a))→Q () s') (hf:X.fn x=true∨X.env.scope.names.lookup x=some .local:=by first | exact .inl rfl | exact .inr rfl | assumption):wpAny M A (storeName X.env x u) Q E s:=by
  obtain ⟨m,hn,hl⟩:=id I.loc;have hcls:(X.env.scope.kind == .class || (X.env.scope.kind == .module && X.env.locals != X.env.globals))=false:=by rw [I.ok.kind]; rfl
  have hiσ:i < σ.length:=by rw [I.len]; exact (List.getElem?_eq_some_iff.mp hi).1
  have cne:=I.cne;have tracked:∀ {a:Addr} {h':Heap},(∃ o,s.heap.get? a=some o∧H a=none)→Heap.SameBut a s.heap h'→HOk X.prog X.w H h':=fun {a h'} ha hs b ob e=>by
    obtain ⟨_,_,hfree⟩:=ha;refine (I.hok b ob e).stay (fun c w' hc q=>(hs.2 c ?_).trans q) (fun _ q=>q) fun _ _ q=>q;rintro rfl;rcases hc with rfl | hc
    · rw [hfree] at e; cases e
    · rw [hfree] at hc; cases hc
  rcases hx with hk | hk
  · refine wpAny_storeName_local hk hn (fun h' hn' hs => ?_) hcls;obtain ⟨oL,_,_,hoL,_⟩:=id hn;refine h _ ⟨I.ok,I.os,I.bare,⟨fun b o e n hb hx => ?_,fun b o e n hb hx => ?_,I.base.free,fun b o e hx => ?_,I.base.tups,I.base.frzs,I.base.tbls⟩,⟨_,hn',fun j y v' e1 e2 e3 => ?_⟩,fun y c e => ?_,I.free,I.freeC,fun p hp => ?_,tracked ⟨oL,hoL,I.free⟩ hs,by simpa using I.len⟩ ⟨_,hs,.inl rfl⟩
    · exact (hs.2 b (Nat.ne_of_lt (Nat.lt_of_lt_of_le (Heap.lt_size e) I.ok.above))).trans (I.base.keep b o e n hb hx)
    · obtain ⟨sl,e1⟩:=I.base.slot b o e n hb hx;exact ⟨sl,(hs.2 b (Nat.ne_of_lt (Nat.lt_of_lt_of_le (Heap.lt_size e) I.ok.above))).trans e1⟩
    · obtain ⟨o',e1⟩:=I.base.there b o e hx;exact ⟨o',(hs.2 b (Nat.ne_of_lt (Nat.lt_of_lt_of_le (Heap.lt_size e) I.ok.above))).trans e1⟩
    · by_cases hj:j=i
      · subst hj;rw [hi] at e1; cases e1;rw [List.getElem?_set_self hiσ] at e2;cases e2;exact ⟨u,r,.inl ⟨hk,by simp⟩⟩
      · rw [List.getElem?_set_ne (Ne.symm hj)] at e2;obtain ⟨u',r',q⟩:=hl j y v' e1 e2 e3;refine ⟨u',r',?_⟩;rcases q with ⟨k,e⟩ | ⟨k,c,e,z⟩
        · refine .inl ⟨k,?_⟩
          have:y≠x:=fun e=>hj (nodup_ix hN e1 (e▸hi))
          simp [this,e]
        · exact .inr ⟨k,c,e,z.sameBut hs (cne y c e)⟩
    · obtain ⟨w',z⟩:=I.cell y c e;exact ⟨w',z.sameBut hs (cne y c e)⟩
    · obtain ⟨e,n,ne,nf,d⟩:=I.pin p hp;exact ⟨(hs.2 p.1 ne).trans e,n,ne,nf,d⟩
  · have hfn:X.fn x=true:=by
      rcases hf with z | z
      · exact z
      · rw [z] at hk; cases hk
    obtain ⟨c,hc⟩:=I.ok.has x (.inl hk);obtain ⟨w',z⟩:=I.cell x c hc;refine wpAny_storeName_cell I.ok.kind hk hc z (fun h' hc' hs => ?_);obtain ⟨oc,hoc,hocd⟩:=id z;refine h { s with heap:=h' } ⟨I.ok,I.os,I.bare,⟨fun b o e n hb hx => ?_,fun b o e n hb hx => ?_,I.base.free,fun b o e hx => ?_,I.base.tups,I.base.frzs,I.base.tbls⟩,⟨m,hn.sameBut hs (Ne.symm (cne x c hc)),fun j y v' e1 e2 e3 => ?_⟩,fun y c' e => ?_,I.free,I.freeC,fun p hp => ?_,tracked ⟨oc,hoc,I.freeC x c hc⟩ hs,by simpa using I.len⟩ ⟨c,hs,.inr hc⟩
    · exact (hs.2 b (Nat.ne_of_lt (Nat.lt_of_lt_of_le (Heap.lt_size e) (I.ok.cab x c hfn hc)))).trans (I.base.keep b o e n hb hx)
    · obtain ⟨sl,e1⟩:=I.base.slot b o e n hb hx;exact ⟨sl,(hs.2 b (Nat.ne_of_lt (Nat.lt_of_lt_of_le (Heap.lt_size e) (I.ok.cab x c hfn hc)))).trans e1⟩
    · obtain ⟨o',e1⟩:=I.base.there b o e hx;exact ⟨o',(hs.2 b (Nat.ne_of_lt (Nat.lt_of_lt_of_le (Heap.lt_size e) (I.ok.cab x c hfn hc)))).trans e1⟩
    · by_cases hj:j=i
      · subst hj;rw [hi] at e1; cases e1;rw [List.getElem?_set_self hiσ] at e2;cases e2;exact ⟨u,r,.inr ⟨.inl hk,c,hc,hc'⟩⟩
      · rw [List.getElem?_set_ne (Ne.symm hj)] at e2;obtain ⟨u',r',q⟩:=hl j y v' e1 e2 e3;refine ⟨u',r',?_⟩;rcases q with q | ⟨k,c',e,z'⟩
        · exact .inl q
        · refine .inr ⟨k,c',e,z'.sameBut hs ?_⟩;rintro rfl;exact hj (nodup_ix hN e1 (I.ok.inj _ _ _ e hc▸hi))
    · by_cases hcc:c'=c
      · subst hcc; exact ⟨_,hc'⟩
      · obtain ⟨w2,z2⟩:=I.cell y c' e;exact ⟨w2,z2.sameBut hs hcc⟩
    · obtain ⟨e,n,ne,nf,d⟩:=I.pin p hp;refine ⟨(hs.2 p.1 ?_).trans e,n,ne,nf,d⟩;intro q;rw [q,hoc] at e;have q':oc=p.2:=Option.some.inj e;exact d w' (by rw [← q']; exact hocd)
theorem store_ok {M:Model} {A:Around} {E:Value→Shared→Prop} {i:Nat} {x:Str} {v:V} {u:Value} {Q:Unit→Shared→Prop} (I:Inv X pins σ H s) (hN:X.N.Nodup) (hi:X.N[i]? = some x) (hx:Loc X.env.scope x) (r:RelV v u)
    (h:∀ s',Inv X pins (σ.set i (some v)) H s'→Q () s') (hf:X.fn x=true∨X.env.scope.names.lookup x=some .local:=by first | exact .inl rfl | exact .inr rfl | assumption):wpAny M A (storeName X.env x u) Q E s :=
  store_ok2 I hN hi hx r (fun s' I' _=>h s' I') hf

theorem Inv.call' {s':Shared} {ch:List Addr} (I:Inv X pins σ H s) (ho:s'.os=s.os) (u:Un (frs X.stack) ch H H' s.heap s'.heap) (hok:HOk X.prog X.w H' s'.heap) (hg:AllBare s'.gens)
    (hch:∀ b∈ch,(b∈X.ex∨X.s₀.heap.objs.size≤b)∧b≠X.env.locals∧(∀ x c,X.env.cells.lookup x=some c→c≠b)∧∀ p∈X.pn++pins,p.1≠b):Inv X pins σ H' s':=by
  obtain ⟨h',g',d',t',o'⟩:=s';have e:o'=s.os:=ho;subst e;exact I.call (g':=g') (t':=t') (d':=d') u hok hg hch
end



abbrev XK:=Value→Option Addr→Hp→Prop
abbrev St:=List (Option V)
abbrev VK:=V→Hp→Prop

abbrev TE:=St→Hp→VK→Prop
abbrev TT:=St→Hp→(Bool→Hp→Prop)→Prop
abbrev TA:=St→Hp→(List V→Hp→Prop)→Prop

structure Ends where
  nx:St→Hp→Prop
  rt:VK
  bk:St→Hp→Prop:=fun _ _=>False
  ct:St→Hp→Prop:=fun _ _=>False
abbrev TS:=Ends→St→Hp→Prop

def EP (X:Cx) (pins:List (Addr × Obj)) (σ:St) (Q:VK) (u:Value) (s':Shared):Prop:=∃ v H',Inv X pins σ H' s'∧RelV v u∧Q v H'
def TP (X:Cx) (pins:List (Addr × Obj)) (σ:St) (Q:Bool→Hp→Prop) (b:Bool) (s':Shared):Prop:=∃ H',Inv X pins σ H' s'∧Q b H'
def AP (X:Cx) (pins:List (Addr × Obj)) (σ:St) (Q:List V→Hp→Prop) (us:List Value) (s':Shared):Prop:=∃ vs H',Inv X pins σ H' s'∧Vals vs us∧Q vs H'
def SP (X:Cx) (pins:List (Addr × Obj)) (D:Ends) (f:Flow) (s':Shared):Prop :=
  match f with
  | .next=>∃ σ' H',Inv X pins σ' H' s'∧D.nx σ' H'
  | .brk=>∃ σ' H',Inv X pins σ' H' s'∧D.bk σ' H'
  | .cont=>∃ σ' H',Inv X pins σ' H' s'∧D.ct σ' H'
  | .ret u=>∃ v σ' H',Inv X pins σ' H' s'∧RelV v u∧D.rt v H'

def PE (X:Cx) (e:Expr) (t:TE):Prop :=
  ∀ (pins:List (Addr × Obj)) (s:Shared) (σ:St) (H:Hp) (Q:VK),Inv X pins σ H s→t σ H Q→wpAny (model X.prog X.w) X.A (eval e X.env) (EP X pins σ Q) X.xe s
def PT (X:Cx) (e:Expr) (t:TT):Prop :=
  ∀ (pins:List (Addr × Obj)) (s:Shared) (σ:St) (H:Hp) (Q:Bool→Hp→Prop),Inv X pins σ H s→t σ H Q→wpAny (model X.prog X.w) X.A (isTrue e X.env (eval e X.env)) (TP X pins σ Q) X.xe s

def PW (X:Cx) (e:Expr) (t:TT):Prop :=
  ∀ (whole:Sem Value) (pins:List (Addr × Obj)) (s:Shared) (σ:St) (H:Hp) (Q:Bool→Hp→Prop),Inv X pins σ H s→t σ H Q→wpAny (model X.prog X.w) X.A (isTrue e X.env whole) (TP X pins σ Q) X.xe s
theorem PW.pt {X:Cx} {e:Expr} {t:TT} (h:PW X e t):PT X e t:=h _

def PA (X:Cx) (es:List Expr) (t:TA):Prop :=
  ∀ (pos:Pos) (pins:List (Addr × Obj)) (s:Shared) (σ:St) (H:Hp) (Q:List V→Hp→Prop),Inv X pins σ H s→t σ H Q→wpAny (model X.prog X.w) X.A (spliced (backTo pos (starEach es X.env))) (AP X pins σ Q) X.xe s
def PS (X:Cx) (st:Stmt) (t:TS):Prop :=
  ∀ (pins:List (Addr × Obj)) (s:Shared) (σ:St) (H:Hp) (D:Ends),Inv X pins σ H s→t D σ H→wpAny (model X.prog X.w) X.A (exec st X.env) (SP X pins D) X.xe s
def PSs (X:Cx) (st:List Stmt) (t:TS):Prop :=
  ∀ (pins:List (Addr × Obj)) (s:Shared) (σ:St) (H:Hp) (D:Ends),Inv X pins σ H s→t D σ H→wpAny (model X.prog X.w) X.A (execs st X.env) (SP X pins D) X.xe s

theorem thn {α:Type} {t:Sem α} {Q Q':α→Shared→Prop} {M:Model} {A:Around} {E:Value→Shared→Prop} {s:Shared} (h:wpAny M A t Q E s) (hQ:∀ a s,Q a s→Q' a s):wpAny M A t Q' E s:=wpAny_mono h hQ fun _ _ x=>x
end L2

namespace L2
open PySem PySem.Spec PyProof.Rows
section
variable {X:Cx}


def tVar (i:Nat):TE:=fun σ H Q=>∃ v,σ[i]? = some (some v)∧Q v H
def tC (v:V):TE:=fun _ H Q=>Q v H
theorem pe_var {i:Nat} {x:Str} {pos:Pos} (hN:X.N[i]? = some x) (hv:Vis X.env.scope x) (hd:(x == ("__debug__" : Str))=false:=by decide) (hcd:(x == ("__classdict__" : Str))=false:=by decide):PE X (.Name x pos) (tVar i):=by
  intro pins s σ H Q I h;obtain ⟨v,e,h⟩:=h;obtain ⟨m,hn,hl⟩:=I.loc;obtain ⟨u,r,l⟩:=hl i x v hN e hv;have fin:EP X pins σ Q u s:=⟨v,H,I,r,h⟩;rcases l with ⟨hk,hm⟩ | ⟨hk,c,hc,hcell⟩
  · exact wpAny_Name (wpAny_loadName_local I.ok.kind hk hn hm fin) hd
  · rcases hk with hk | hk
    · exact wpAny_Name (wpAny_loadName_cell I.ok.kind hk hc hcell fin) hd
    · exact wpAny_Name (wpAny_loadName_free I.ok.kind hk hc hcell fin hcd) hd
theorem pe_int {i j pos}:PE X (.Constant (.int i) j pos) (tC (.int i)):=fun _ _ _ H _ I h=>wpAny_Constant_int ⟨.int i,H,I.tok _,⟨_,rfl⟩,h⟩
theorem pe_bl {b j pos}:PE X (.Constant (.bool b) j pos) (tC (.bl b)):=fun _ _ _ H _ I h=>Constant_bool ⟨.bl b,H,I,rfl,h⟩
theorem pe_non {j pos}:PE X (.Constant .none j pos) (tC .non):=fun _ _ _ H _ I h=>Constant_none ⟨.non,H,I,rfl,h⟩
theorem pe_str {x j pos}:PE X (.Constant (.str x) j pos) (tC (.str x)):=fun _ _ _ H _ I h=>Calls.Constant_str ⟨.str x,H,I.tok _,⟨_,rfl⟩,h⟩


def Gl (X:Cx) (x:Str):Prop:=X.env.kindOf x=some .globalImplicit
theorem ld_glob {E:Value→Shared→Prop} {pins:List (Addr × Obj)} {s:Shared} {σ:St} {H:Hp} {x:Str} {u:Value} {pos:Pos} {Q:Value→Shared→Prop} (I:Inv X pins σ H s) (hg:Gl X x) (hm:X.mg x=some u) (h:Q u s)
    (hd:(x == ("__debug__" : Str))=false:=by decide):wpAny (model X.prog X.w) X.A (eval (.Name x pos) X.env) Q E s :=
  Calls.Name_function_global I.ok.kind hg (Calls.loadGlobal_global (by rw [I.ok.glob]; exact I.mod.glob.keeps I.bk) hm h) hd
theorem ld_blt {E:Value→Shared→Prop} {pins:List (Addr × Obj)} {s:Shared} {σ:St} {H:Hp} {x:Str} {u:Value} {pos:Pos} {Q:Value→Shared→Prop} (I:Inv X pins σ H s) (hg:Gl X x) (hm:X.mg x=none) (hv:bootBuiltins x=some u) (h:Q u s)
    (hn:x ≠ "__name__" := by decide) (hd:(x == ("__debug__" : Str))=false:=by decide):wpAny (model X.prog X.w) X.A (eval (.Name x pos) X.env) Q E s:=by
  obtain ⟨mb,h1,h2⟩:=I.mod.blt;exact Calls.Name_function_global I.ok.kind hg (Calls.loadGlobal_builtin (by rw [I.ok.glob]; exact I.mod.glob.keeps I.bk) hm (by rw [I.ok.blt]; exact h1.keeps I.bk) ((h2 x hn).trans hv) h) hd

theorem pe_glob {x:Str} {v:V} {u:Value} {pos:Pos} (hg:Gl X x) (hm:X.mg x=some u) (r:RelV v u) (hd:(x == ("__debug__" : Str))=false:=by decide):PE X (.Name x pos) (tC v) :=
  fun _ _ _ H _ I h=>ld_glob I hg hm ⟨v,H,I,r,h⟩ hd
theorem pe_bltn {x:Str} {v:V} {u:Value} {pos:Pos} (hg:Gl X x) (hm:X.mg x=none) (hv:bootBuiltins x=some u) (r:RelV v u) (hn:x ≠ "__name__" := by decide) (hd:(x == ("__debug__" : Str))=false:=by decide):PE X (.Name x pos) (tC v) :=
  fun _ _ _ H _ I h=>ld_blt I hg hm hv ⟨v,H,I,r,h⟩ hn hd



variable {a b:Expr} {ta tb:TE} {pos:Pos}
def tB (t:TE):TT:=fun σ H Q=>t σ H fun x H1=>∃ c,x=.bl c∧Q c H1
theorem pt_val {e:Expr} {t:TE} (h:PE X e t) (he:∀ whole,isTrue e X.env whole=(do let v ← whole; standAt e.pos; holding [v] (truthy v)):=by intro _; rfl):PT X e (tB t):=by
  intro pins s σ H Q I hw;refine isTrue_plain (thn (h pins s σ H _ I hw) fun v s1 ⟨x,H1,I1,r1,q1⟩ => ?_) (he _);obtain ⟨d,rfl,q⟩:=q1;cases r1;exact wpAny_truthy_bool ⟨H1,I1,q⟩


variable {tA tB':TT} {rest:List Expr}
def tAnd (t u:TT):TT:=fun σ H Q=>t σ H fun c H1=>if c=true then u σ H1 Q else Q false H1
def tOr (t u:TT):TT:=fun σ H Q=>t σ H fun c H1=>if c=true then Q true H1 else u σ H1 Q
def tNot (t:TT):TT:=fun σ H Q=>t σ H fun c H1=>Q (!c) H1
theorem pw_and1 (ha:PT X a tA):PW X (.BoolOp .And [a] pos) tA:=by
  intro wh pins s σ H Q I h;refine isTrue_and (thn (ha pins s σ H Q I h) fun c s1 e => ?_);cases c with
  | true=>exact isTrue_and_nil e
  | false=>exact e
theorem pw_or1 (ha:PT X a tA):PW X (.BoolOp .Or [a] pos) tA:=by
  intro wh pins s σ H Q I h;refine isTrue_or (thn (ha pins s σ H Q I h) fun c s1 e => ?_);cases c with
  | false=>exact isTrue_or_nil e
  | true=>exact e
theorem pw_and (ha:PT X a tA) (hb:PW X (.BoolOp .And (b::rest) pos) tB'):PW X (.BoolOp .And (a::b::rest) pos) (tAnd tA tB'):=by
  intro wh pins s σ H Q I h;refine isTrue_and (thn (ha pins s σ H _ I h) fun c s1 ⟨H1,I1,q1⟩ => ?_);cases c with
  | true=>exact hb wh pins s1 σ H1 Q I1 q1
  | false=>exact ⟨H1,I1,q1⟩
theorem pw_or (ha:PT X a tA) (hb:PW X (.BoolOp .Or (b::rest) pos) tB'):PW X (.BoolOp .Or (a::b::rest) pos) (tOr tA tB'):=by
  intro wh pins s σ H Q I h;refine isTrue_or (thn (ha pins s σ H _ I h) fun c s1 ⟨H1,I1,q1⟩ => ?_);cases c with
  | true=>exact ⟨H1,I1,q1⟩
  | false=>exact hb wh pins s1 σ H1 Q I1 q1
theorem pt_not (ha:PT X a tA):PT X (.UnaryOp .Not a pos) (tNot tA):=by
  intro pins s σ H Q I h;exact isTrue_not (ha pins s σ H (fun c H1=>Q (!c) H1) I h)

def tAndV (ta tb:TE):TE:=fun σ H Q=>ta σ H fun x H1=>∃ c,x=.bl c∧if c=true then tb σ H1 Q else Q (.bl false) H1
def tNotV (ta:TE):TE:=fun σ H Q=>ta σ H fun x H1=>∃ c,x=.bl c∧Q (.bl (!c)) H1
theorem pe_one {op} {t:TE} (h:PE X a t):PE X (.BoolOp op [a] pos) t:=fun pins s σ H Q I hw=>BoolOp_one (h pins s σ H Q I hw)
theorem pe_and (ha:PE X a ta) (hb:PE X (.BoolOp .And (b::rest) pos) tb):PE X (.BoolOp .And (a::b::rest) pos) (tAndV ta tb):=by
  intro pins s σ H Q I h;refine BoolOp_and (thn (ha pins s σ H _ I h) fun v s1 ⟨x,H1,I1,r1,q1⟩ => ?_);obtain ⟨c,rfl,q1⟩:=q1;cases r1;refine wpAny_truthy_bool ?_;cases c with
  | true=>exact hb pins s1 σ H1 Q I1 q1
  | false=>exact ⟨.bl false,H1,I1,rfl,q1⟩
theorem pe_not (ha:PE X a ta):PE X (.UnaryOp .Not a pos) (tNotV ta):=by
  intro pins s σ H Q I h;refine UnaryOp_ (thn (ha pins s σ H _ I h) fun v s1 ⟨x,H1,I1,r1,q1⟩ => ?_);obtain ⟨c,rfl,q1⟩:=q1;cases r1;exact not_of (wpAny_truthy_bool ⟨.bl (!c),H1,I1,rfl,q1⟩)

end
end L2

namespace L2
open PySem PySem.Spec PyProof.Rows


def SqL (K:PySem.W.Frag) (H:Hp) (a:Addr) (xs:List V):Prop :=
  Rd H a (.lst xs) ∨
    ∃ (o:Obj) (its:Array Value) (n:Nat),K.lookup a=some o∧o.cls=.type "list" ∧ o.dict=none∧o.data=.seq its n∧its.size≤sizeLine∧Vals xs its.toList
def SqT (K:PySem.W.Frag) (H:Hp) (a:Addr) (xs:List V):Prop :=
  Rd H a (.tup xs) ∨
    ∃ (o:Obj) (its:Array Value) (n:Nat),K.lookup a=some o∧o.cls=.type "tuple" ∧ o.data=.seq its n∧its.size≤sizeLine∧Vals xs its.toList
def absV:Value→Option V
  | .none=>some .non
  | .bool b=>some (.bl b)
  | .int i _=>some (.int i)
  | .str x _=>some (.str x)
  | .bytes b _=>some (.byt b)
  | .float b _=>some (.flt b)
  | .ref a=>some (.ref a)
  | .type n=>some (.ty n)
  | _=>none
theorem RelV.abs {x:V} {u:Value} (r:RelV x u):absV u=some x:=by
  cases x with
  | non=>cases r; rfl
  | bl _=>cases r; rfl
  | int _=>obtain ⟨t,rfl⟩:=r; rfl
  | str _=>obtain ⟨t,rfl⟩:=r; rfl
  | byt _=>obtain ⟨t,rfl⟩:=r; rfl
  | flt _=>obtain ⟨t,rfl⟩:=r; rfl
  | ref _=>cases r; rfl
  | ty _=>cases r; rfl
theorem RelV.inj {x y:V} {u:Value} (r:RelV x u) (q:RelV y u):x=y:=Option.some.inj (r.abs.symm.trans q.abs)
theorem Vals.inj:∀ {xs ys:List V} {us:List Value},Vals xs us→Vals ys us→xs=ys
  | _,_,_,.nil,.nil=>rfl
  | _,_,_,.cons r t,.cons r' t'=>by rw [r.inj r',Vals.inj t t']
section
variable {X:Cx} {pins:List (Addr × Obj)} {σ:St} {H:Hp} {s:Shared} {a:Addr} {xs ys:List V}
theorem SqL.of {K:PySem.W.Frag} (h:H a=some (.lst xs)):SqL K H a xs:=.inl (.inl h)
theorem SqT.of {K:PySem.W.Frag} (h:H a=some (.tup xs)):SqT K H a xs:=.inl (.inl h)
theorem Inv.list (I:Inv X pins σ H s) (h:SqL X.K H a xs):∃ its:List Value,Vals xs its∧PlainL s.heap a its.toArray∧xs.length≤sizeLine:=by
  rcases h with h | ⟨o,its,n,hk,hc,hd,hs,hz,r⟩
  · obtain ⟨z,its,n,r,e⟩:=h.ok I.hok;exact ⟨its,r,⟨_,n,e,rfl,rfl,rfl⟩,z⟩
  · refine ⟨its.toList,r,⟨o,n,I.kIn a o hk,hc,hd,by simpa using hs⟩,?_⟩;have e:=r.length;simp only [Array.length_toList] at e;omega
theorem Inv.tuple (I:Inv X pins σ H s) (h:SqT X.K H a xs):∃ its:List Value,Vals xs its∧IsTup s.heap a its.toArray∧xs.length≤sizeLine:=by
  rcases h with h | ⟨o,its,n,hk,hc,hs,hz,r⟩
  · obtain ⟨z,its,r,p⟩:=h.ok I.hok;exact ⟨its,r,p,z⟩
  · refine ⟨its.toList,r,⟨o,I.kIn a o hk,hc,n,by simpa using hs⟩,?_⟩;have e:=r.length;simp only [Array.length_toList] at e;omega
theorem Inv.list_inj (I:Inv X pins σ H s) (h:SqL X.K H a xs) (h':SqL X.K H a ys):xs=ys:=by
  obtain ⟨its,r,⟨o,n,e,_,_,d⟩,_⟩:=I.list h;obtain ⟨its',r',⟨o',n',e',_,_,d'⟩,_⟩:=I.list h';rw [e] at e'; cases e';rw [d] at d';injection d' with d1 _
  have:its=its':=by simpa using congrArg Array.toList d1
  subst this;exact r.inj r'
theorem Inv.tuple_inj (I:Inv X pins σ H s) (h:SqT X.K H a xs) (h':SqT X.K H a ys):xs=ys:=by
  obtain ⟨its,r,⟨o,e,_,n,d⟩,_⟩:=I.tuple h;obtain ⟨its',r',⟨o',e',_,n',d'⟩,_⟩:=I.tuple h';rw [e] at e'; cases e';rw [d] at d';injection d' with d1 _
  have:its=its':=by simpa using congrArg Array.toList d1
  subst this;exact r.inj r'
end


abbrev Cx.wish (X:Cx) (E:Value→Shared→Prop):Cx:={ X with xe:=E }

abbrev Cx.nox (X:Cx):Cx:=X.wish fun _ _=>False
theorem Cx.Ok.wish {X:Cx} (ok:X.Ok) (E:Value→Shared→Prop):(X.wish E).Ok :=
  ⟨ok.mod,ok.kind,ok.glob,ok.blt,ok.above,ok.inj,ok.has,ok.cab,ok.hd,ok.frames,ok.stk,ok.exf,ok.bs,ok.bsz,ok.noex,ok.exfs,ok.funs,ok.frf⟩
theorem Cx.Ok.unwish {X:Cx} {E:Value→Shared→Prop} (ok:(X.wish E).Ok):X.Ok :=
  ⟨ok.mod,ok.kind,ok.glob,ok.blt,ok.above,ok.inj,ok.has,ok.cab,ok.hd,ok.frames,ok.stk,ok.exf,ok.bs,ok.bsz,ok.noex,ok.exfs,ok.funs,ok.frf⟩
section
variable {X:Cx} {pins:List (Addr × Obj)} {σ:St} {H:Hp} {s:Shared} {E:Value→Shared→Prop}
theorem Inv.wish (I:Inv X pins σ H s) (E:Value→Shared→Prop):Inv (X.wish E) pins σ H s:=⟨I.ok.wish E,I.os,I.bare,I.base,I.loc,I.cell,I.free,I.freeC,I.pin,I.hok,I.len⟩
theorem Inv.unwish (I:Inv (X.wish E) pins σ H s):Inv X pins σ H s:=⟨I.ok.unwish,I.os,I.bare,I.base,I.loc,I.cell,I.free,I.freeC,I.pin,I.hok,I.len⟩
theorem SP.unwish {D:Ends} {f:Flow} {s':Shared} (h:SP (X.wish E) pins D f s'):SP X pins D f s':=by
  cases f with
  | next=>obtain ⟨σ',H',I,q⟩:=h; exact ⟨σ',H',I.unwish,q⟩
  | brk=>obtain ⟨σ',H',I,q⟩:=h; exact ⟨σ',H',I.unwish,q⟩
  | cont=>obtain ⟨σ',H',I,q⟩:=h; exact ⟨σ',H',I.unwish,q⟩
  | ret u=>obtain ⟨v,σ',H',I,r,q⟩:=h; exact ⟨v,σ',H',I.unwish,r,q⟩
theorem PSs.nox {st:List Stmt} {t:TS} (h:PSs X.nox st t):PSs X st t:=fun pins s σ H D I hw =>
  wpAny_mono (h pins s σ H D (I.wish _) hw) (fun _ _ q=>q.unwish) fun _ _ z=>False.elim z
end


section
variable {X:Cx} {st:Stmt} {rest:List Stmt} {t u:TS} {e:Expr} {te:TE} {pos:Pos}
def tNext:TS:=fun D σ H=>D.nx σ H
def tSeq (t u:TS):TS:=fun D σ H=>t { D with nx:=u D } σ H
theorem pss_nil:PSs X [] tNext:=fun _ _ σ H _ I h=>wpAny_execs_nil ⟨σ,H,I,h⟩
theorem pss_cons (h1:PS X st t) (h2:PSs X rest u):PSs X (st::rest) (tSeq t u):=by
  intro pins s σ H D I h;refine wpAny_execs_cons (thn (h1 pins s σ H { D with nx:=u D } I h) fun f s1 q => ?_);cases f with
  | next =>
    obtain ⟨σ',H',I',q⟩:=q;exact h2 pins s1 σ' H' D I' q
  | ret v=>exact q
  | brk=>exact q
  | cont=>exact q
theorem pss_one (h1:PS X st t):PSs X [st] t:=by
  intro pins s σ H D I h;refine wpAny_execs_cons (thn (h1 pins s σ H D I h) fun f s1 q => ?_);cases f with
  | next=>exact wpAny_execs_nil q
  | ret v=>exact q
  | brk=>exact q
  | cont=>exact q
theorem Inv.quiet {pins:List (Addr × Obj)} {σ:St} {H:Hp} {s:Shared} (I:Inv X pins σ H s):interactive X.env=false:=by simp [interactive,I.ok.kind]

def tDrop (te:TE):TS:=fun D σ H=>te σ H fun _ H1=>D.nx σ H1
theorem ps_expr (he:PE X e te) (hs:swapsWith e none pos.line X.env=pure false:=by rfl):PS X (.Expr e pos) (tDrop te):=by
  intro pins s σ H D I h;exact wpAny_Expr_any (thn (he pins s σ H _ I h) fun v s1 ⟨x,H1,I1,r1,q1⟩=>⟨σ,H1,I1,q1⟩) I.quiet hs
def tRet (te:TE):TS:=fun D σ H=>te σ H D.rt
theorem ps_ret (he:PE X e te):PS X (.Return (some e) pos) (tRet te):=by
  intro pins s σ H D I h;exact wpAny_Return_some (thn (he pins s σ H _ I h) fun v s1 ⟨x,H1,I1,r1,q1⟩=>⟨x,σ,H1,I1,r1,q1⟩)
def tIfS (c:TT) (t u:TS):TS:=fun D σ H=>c σ H fun b H1=>if b=true then t D σ H1 else u D σ H1
theorem ps_if {c:Expr} {a b:List Stmt} {tc:TT} (hc:PT X c tc) (ha:PSs X a t) (hb:PSs X b u):PS X (.If c a b pos) (tIfS tc t u):=by
  intro pins s σ H D I h;refine wpAny_If (thn (hc pins s σ H _ I h) fun d s1 ⟨H1,I1,q1⟩ => ?_);cases d with
  | true=>exact ha pins s1 σ H1 D I1 q1
  | false=>exact hb pins s1 σ H1 D I1 q1

def tNever:TS:=fun _ _ _=>False
theorem ps_never:PS X st tNever:=fun _ _ _ _ _ _ h=>h.elim
end


abbrev TG:=V→St→Hp→(St→Hp→Prop)→Prop
abbrev TGs:=List V→St→Hp→(St→Hp→Prop)→Prop
def PG (X:Cx) (target:Expr) (t:TG):Prop :=
  ∀ (pins:List (Addr × Obj)) (s:Shared) (σ:St) (H:Hp) (v:V) (u:Value) (Q:St→Hp→Prop),Inv X pins σ H s→RelV v u→t v σ H Q →
    wpAny (model X.prog X.w) X.A (assign target X.env u) (fun _ s'=>∃ σ' H',Inv X pins σ' H' s'∧Q σ' H') X.xe s

def PGs (X:Cx) (ts:List Expr) (t:TGs):Prop :=
  ∀ (pins:List (Addr × Obj)) (s:Shared) (σ:St) (H:Hp) (vs:List V) (us:List Value) (Q:St→Hp→Prop),Inv X pins σ H s→Vals vs us→t vs σ H Q →
    wpAny (model X.prog X.w) X.A (assignInOrder ((assignEach ts X.env).map (·.2)) us) (fun _ s'=>∃ σ' H',Inv X pins σ' H' s'∧Q σ' H') X.xe s

section
variable {X:Cx} {pos:Pos}
def gName (i:Nat):TG:=fun v σ H Q=>Q (σ.set i (some v)) H
theorem pg_name {i:Nat} {x:Str} (hN:X.N.Nodup) (hi:X.N[i]? = some x) (hx:Loc X.env.scope x) (hf:X.fn x=true∨X.env.scope.names.lookup x=some .local:=by first | exact .inl rfl | exact .inr rfl | assumption):PG X (.Name x pos) (gName i):=by
  intro pins s σ H v u Q I r h;exact wpAny_assign_Name (store_ok I hN hi hx r (fun s' I'=>⟨_,H,I',h⟩) hf)
def gNil:TGs:=fun vs σ H Q=>vs=[]∧Q σ H
def gCons (t:TG) (u:TGs):TGs:=fun vs σ H Q=>∃ v r,vs=v::r∧t v σ H fun σ' H'=>u r σ' H' Q
theorem pgs_nil:PGs X [] gNil:=by
  intro pins s σ H vs us Q I r h;obtain ⟨e,h⟩:=h;subst e;cases r;exact assignInOrder_nil ⟨σ,H,I,h⟩
theorem pgs_cons {e:Expr} {es:List Expr} {t:TG} {u:TGs} (h1:PG X e t) (h2:PGs X es u)
    (hs:(assignEach (e::es) X.env).map (·.2)=assign e X.env::(assignEach es X.env).map (·.2):=by rfl):PGs X (e::es) (gCons t u):=by
  intro pins s σ H vs us Q I r h;obtain ⟨v,vr,e1,h⟩:=h;subst e1;cases r with
  | cons r rr =>
    rw [hs];refine assignInOrder_cons (thn (h1 pins s σ H _ _ _ I r h) fun _ s1 ⟨σ1,H1,I1,q1⟩ => ?_);exact h2 pins s1 σ1 H1 _ _ Q I1 rr q1

def gTup (K:PySem.W.Frag) (n:Nat) (t:TGs):TG:=fun v σ H Q=>∃ a xs,v=.ref a∧SqT K H a xs∧xs.length=n∧t xs σ H Q
theorem pg_tup {es:List Expr} {k:Nat} {t:TGs} {n:Nat} (hc:X.calm=true) (h:PGs X es t)
    (hn:(assignEach es X.env).length=n:=by rfl) (hst:(assignEach es X.env).findIdx? (·.1)=none:=by rfl):PG X (.Tuple es k pos) (gTup X.K n t):=by
  intro pins s σ H v u Q I r hw;obtain ⟨a,xs,e1,hq,hl,hw⟩:=hw;subst e1;cases r;obtain ⟨its,rv,ht,hz⟩:=I.tuple hq;refine assign_Tuple_tuple (I.ok.hd hc) ht (by simp [hn,← hl,rv.length]) hst fun h' hx => ?_;have I1:Inv X pins σ H { s with heap:=h' }:=I.kept (t':=s.toks) fun b o e=>hx b o (Nat.ne_of_lt (Heap.lt_size e)) e;exact h pins _ σ H xs _ Q I1 (by simpa using rv) hw

def tAsg (te:TE) (g:TG):TS:=fun D σ H=>te σ H fun x H1=>g x σ H1 D.nx
theorem ps_asg {tg e:Expr} {te:TE} {g:TG} (he:PE X e te) (hg:PG X tg g) (hs:swapsWithSole [tg] e pos.line X.env=pure false:=by rfl) (hw:swappedStores [tg] e X.env=pure none:=by rfl)
    (h1:(assignEach [tg] X.env).map (·.2)=[assign tg X.env]:=by rfl):PS X (.Assign [tg] e pos) (tAsg te g):=by
  intro pins s σ H D I h;refine wpAny_Assign_stores (thn (he pins s σ H _ I h) fun v s1 ⟨x,H1,I1,r1,q1⟩ => ?_) hs hw;rw [h1];exact thn (hg pins s1 σ H1 x v _ I1 r1 q1) fun _ s2 q=>q

theorem ps_set {i:Nat} {x:Str} {e:Expr} {te:TE} {pos':Pos} (hN:X.N.Nodup) (hi:X.N[i]? = some x) (hx:Loc X.env.scope x) (he:PE X e te) (hs:swapsWith e (some (.Name x pos')) pos.line X.env=pure false:=by rfl) (hf:X.fn x=true∨X.env.scope.names.lookup x=some .local:=by first | exact .inl rfl | exact .inr rfl | assumption) :
    PS X (.Assign [.Name x pos'] e pos) (tAsg te (gName i)):=by
  intro pins s σ H D I h;refine wpAny_Assign_Name (thn (he pins s σ H _ I h) fun v s1 ⟨y,H1,I1,r1,q1⟩ => ?_) hs;exact store_ok I1 hN hi hx r1 (fun s2 I2=>⟨_,H1,I2,q1⟩) hf

end


section
variable {X:Cx} {pos:Pos}

def tWhile (c:TT) (tb:TS):TS:=fun D σ H=>∃ W:Nat→St→Hp→Prop,(∃ m,W m σ H)∧∀ m σ H,W m σ H →
  c σ H fun b H1=>if b=true then ∃ N:St→Hp→Prop,(∀ σ' H',N σ' H'→∃ m',m' < m∧W m' σ' H')∧tb { D with nx:=N,ct:=N,bk:=D.nx } σ H1 else D.nx σ H1
theorem ps_while {c:Expr} {body:List Stmt} {tc:TT} {tb:TS} (hp:PassesOwn (model X.prog X.w) X.A X.env X.xe) (hc:PT X c tc) (hb:PSs X body tb):PS X (.While c body [] pos) (tWhile tc tb):=by
  intro pins s σ H D I h;obtain ⟨W,⟨m0,w0⟩,turn⟩:=h;refine wpAny_While (codeAny_whileLoop (fun n s'=>∃ σ' H',Inv X pins σ' H' s'∧W n σ' H') ?_ m0 ⟨σ,H,I,w0⟩);rintro n s1 ⟨σ1,H1,I1,w1⟩;refine wpAny_passesOwn hp (thn (hc pins s1 σ1 H1 _ I1 (turn n σ1 H1 w1)) fun b s2 ⟨H2,I2,q2⟩ => ?_);cases b with
  | true =>
    obtain ⟨N,hN,q2⟩:=q2;rw [if_pos rfl];refine wpAny_passesOwn hp (thn (hb pins s2 σ1 H2 _ I2 q2) fun f s3 q3 => ?_);cases f with
    | next =>
      obtain ⟨σ3,H3,I3,n3⟩:=q3;obtain ⟨m',hm,w3⟩:=hN σ3 H3 n3;exact ⟨m',hm,σ3,H3,I3,w3⟩
    | cont =>
      obtain ⟨σ3,H3,I3,n3⟩:=q3;obtain ⟨m',hm,w3⟩:=hN σ3 H3 n3;exact ⟨m',hm,σ3,H3,I3,w3⟩
    | brk=>exact q3
    | ret v=>exact q3
  | false =>
    rw [if_neg Bool.false_ne_true];exact wpAny_execs_nil ⟨σ1,H2,I2,q2⟩
end



structure It where
  go:Nat→Hp→Prop
  yld:Nat→Hp→V→Hp→Prop
  stop:Nat→Hp→Prop

def FpOk (X:Cx) (pins:List (Addr × Obj)) (H:Hp) (b:Addr):Prop :=
  H b=none∧b≠X.env.locals∧b∉X.fs∧(b∈X.ex∨X.s₀.heap.objs.size≤b)∧(∀ x c,X.env.cells.lookup x=some c→c≠b)∧∀ p∈X.pn++pins,p.1≠b
theorem Inv.fpOk {X:Cx} {pins:List (Addr × Obj)} {σ:St} {H H':Hp} {s:Shared} {b:Addr} (I:Inv X pins σ H s) (hb:s.heap.objs.size≤b) (hn:H' b=none):FpOk X pins H' b:=by
  refine ⟨hn,Nat.ne_of_gt (Nat.lt_of_lt_of_le I.lt hb),I.nofs hb,.inr (Nat.le_trans I.sz hb),fun x c e z => ?_,fun p hp z => ?_⟩
  · obtain ⟨v,q⟩:=I.cell x c e;exact absurd (Nat.lt_of_lt_of_le q.lt (by rw [z]; exact hb)) (Nat.lt_irrefl _)
  · exact absurd (Nat.lt_of_lt_of_le (Heap.lt_size (I.pin p hp).1) (by rw [z]; exact hb)) (Nat.lt_irrefl _)
structure Turn (P:Program) (w:World) (K:PySem.W.Frag) (tg:Expr) (J:It) (fp:List Addr) (it:Addr) (tn:Nat→Heap→Prop):Prop where
  mem:it∈fp
  obj:∀ i h,tn i h→∀ b∈fp,∃ o,h.get? b=some o∧∀ v,o.data≠.cell v
  keep:∀ i h h',tn i h→(∀ b∈fp,∀ o,h.get? b=some o→h'.get? b=some o)→tn i h'
  item:∀ (X:Cx),X.prog=P→X.w=w→X.K=K→X.calm=true→∀ (i:Nat) (pins:List (Addr × Obj)) (s:Shared) (σ:St) (H:Hp) (E:Value→Shared→Prop),Inv X pins σ H s→(∀ b∈fp,FpOk X pins H b)→tn i s.heap→J.go i H →
    wpAny (model P w) X.A (pyNext (.ref it)) (fun r s1=>∃ u,r=some u ∧
      wpAny (model P w) X.A (letOwnedTupleGo tg (.ref it) u) (fun _ s2=>∃ x H',Inv X pins σ H' s2∧RelV x u∧J.yld i H x H'∧tn (i + 1) s2.heap∧∀ b∈fp,H' b=none) E s1) E s
  done:∀ (X:Cx),X.prog=P→X.w=w→X.K=K→X.calm=true→∀ (i:Nat) (pins:List (Addr × Obj)) (s:Shared) (σ:St) (H:Hp) (E:Value→Shared→Prop),Inv X pins σ H s→(∀ b∈fp,FpOk X pins H b)→tn i s.heap→J.stop i H →
    wpAny (model P w) X.A (pyNext (.ref it)) (fun r s1=>r=none∧Inv X pins σ H s1) E s
  self:∀ (A:Around) (i:Nat) (s:Shared) (Q:Value→Shared→Prop) (E:Value→Shared→Prop),tn i s.heap→Q (.ref it) s→wpAny (model P w) A (pyIter (.ref it)) Q E s
abbrev TI:=St→Hp→(It→Hp→Prop)→Prop

def PIE (X:Cx) (pins:List (Addr × Obj)) (σ:St) (tg:Expr) (R:It→Hp→Prop) (itv:Value) (s2:Shared):Prop :=
  ∃ (it:Addr) (fp:List Addr) (tn:Nat→Heap→Prop) (J:It) (H':Hp),itv=.ref it∧Inv X pins σ H' s2∧Turn X.prog X.w X.K tg J fp it tn∧tn 0 s2.heap∧(∀ b∈fp,FpOk X pins H' b)∧R J H'
def PI (X:Cx) (tg iter:Expr) (wi:TI):Prop :=
  ∀ (pins:List (Addr × Obj)) (s:Shared) (σ:St) (H:Hp) (R:It→Hp→Prop),Inv X pins σ H s→wi σ H R →
    wpAny (model X.prog X.w) X.A (eval iter X.env) (fun v s1=>wpAny (model X.prog X.w) X.A (pyIter v) (PIE X pins σ tg R) X.xe s1) X.xe s


theorem go_of {M:Model} {A:Around} {E:Value→Shared→Prop} {s:Shared} {tg:Expr} {it:Addr} {u:Value} {o:Obj} {n:String} {vs:Array Value} {Q:Unit→Shared→Prop} (ho:s.heap.get? it=some o) (hc:o.cls=.type n) (hd:o.data=.fields vs)
    (hn:["enumerate","zip","dict_itemiterator","dict_reverseitemiterator","odict_iterator","itertools.zip_longest","itertools.pairwise"].contains n=false) (hQ:Q () s):wpAny M A (letOwnedTupleGo tg (.ref it) u) Q E s:=by
  unfold letOwnedTupleGo;cases tg <;> first
    | exact wpAny_pure hQ
    | (cases u <;> first
        | exact wpAny_pure hQ
        | (refine wpAny_bind (wpAny_load ho ?_)
           rw [hc,hd];show wpAny M A (if (["enumerate","zip","dict_itemiterator","dict_reverseitemiterator","odict_iterator","itertools.zip_longest","itertools.pairwise"].contains n && vs[0]? == some (rawInt _))=true then _ else _) Q E s
           rw [if_neg (by intro h; rw [hn,Bool.false_and] at h; cases h)];exact wpAny_pure hQ))


def Itl (K:PySem.W.Frag) (a:Addr):It :=
  ⟨fun i H=>∃ xs x,SqL K H a xs∧xs[i]? = some x,fun i H x H'=>H'=H∧∀ xs,SqL K H a xs→xs[i]? = some x,fun i H=>∃ xs,SqL K H a xs∧xs.length≤i⟩
def Itt (K:PySem.W.Frag) (a:Addr):It :=
  ⟨fun i H=>∃ xs x,SqT K H a xs∧xs[i]? = some x,fun i H x H'=>H'=H∧∀ xs,SqT K H a xs→xs[i]? = some x,fun i H=>∃ xs,SqT K H a xs∧xs.length≤i⟩

def Itr (lo:Int) (n:Nat):It:=⟨fun i _=>i < n,fun i H x H'=>H'=H∧x=.int (lo + i),fun i _=>n≤i⟩
theorem turn_list {P:Program} {w:World} {K:PySem.W.Frag} {tg:Expr} (a it:Addr):Turn P w K tg (Itl K a) [it] it (fun i h=>h.IsListIter it a i) where
  mem:=by simp
  obj:=fun i h st b hb=>by
    have e:b=it:=by simpa using hb
    subst e;obtain ⟨o,e,c,d⟩:=st;exact ⟨o,e,fun v z=>by rw [d] at z; cases z⟩
  keep:=fun i h h' st k=>st.at fun o e=>k it (by simp) o e
  item:=by
    intro X hP hw hK hc i pins s σ H E I hf st hg;subst hP hw hK;obtain ⟨xs,x,hq,hx⟩:=hg;obtain ⟨its,rv,p,hz⟩:=I.list hq;obtain ⟨u,hu,ru⟩:=rv.get hx;obtain ⟨f0,f1,f2,f3,f4,f5⟩:=hf it (by simp);refine wpAny_pyNext_list_item st p.isList (x:=u) (by simpa using hu) fun h' st' sb => ?_;have I1:Inv X pins σ H { s with heap:=h' }:=I.turned (t':=s.toks) (fun b o hb e=>(sb.2 b hb).trans e) f0 f1 f3 f4 f5;obtain ⟨o,e,c,d⟩:=id st';exact ⟨u,rfl,go_of (s:={ s with heap:=h' }) e c d (by decide) ⟨x,H,I1,ru,⟨rfl,fun ys hy=>by rw [I.list_inj hy hq]; exact hx⟩,st',fun b hb=>(hf b hb).1⟩⟩
  done:=by
    intro X hP hw hK hc i pins s σ H E I hf st hg;subst hP hw hK;obtain ⟨xs,hq,hx⟩:=hg;obtain ⟨its,rv,p,hz⟩:=I.list hq;obtain ⟨f0,f1,f2,f3,f4,f5⟩:=hf it (by simp);have hl:=rv.length;exact wpAny_pyNext_list_end (I.ok.hd hc) st p.isList (by simp; omega) fun h' eb=>⟨rfl,I.turned (t':=s.toks) (fun b o hb e=>eb b o hb e) f0 f1 f3 f4 f5⟩
  self:=fun _ _ _ _ _ st h=>wpAny_pyIter_listiter st h
theorem turn_tuple {P:Program} {w:World} {K:PySem.W.Frag} {tg:Expr} (a it:Addr):Turn P w K tg (Itt K a) [it] it (fun i h=>h.IsTupleIter it a i) where
  mem:=by simp
  obj:=fun i h st b hb=>by
    have e:b=it:=by simpa using hb
    subst e;obtain ⟨o,e,c,d⟩:=st;exact ⟨o,e,fun v z=>by rw [d] at z; cases z⟩
  keep:=fun i h h' st k=>st.at fun o e=>k it (by simp) o e
  item:=by
    intro X hP hw hK hc i pins s σ H E I hf st hg;subst hP hw hK;obtain ⟨xs,x,hq,hx⟩:=hg;obtain ⟨its,rv,p,hz⟩:=I.tuple hq;obtain ⟨u,hu,ru⟩:=rv.get hx;obtain ⟨f0,f1,f2,f3,f4,f5⟩:=hf it (by simp);refine wpAny_pyNext_tuple_item st (show s.heap.IsTuple a its.toArray from p) (x:=u) (by simpa using hu) fun h' st' sb => ?_;have I1:Inv X pins σ H { s with heap:=h' }:=I.turned (t':=s.toks) (fun b o hb e=>(sb.2 b hb).trans e) f0 f1 f3 f4 f5;obtain ⟨o,e,c,d⟩:=id st';exact ⟨u,rfl,go_of (s:={ s with heap:=h' }) e c d (by decide) ⟨x,H,I1,ru,⟨rfl,fun ys hy=>by rw [I.tuple_inj hy hq]; exact hx⟩,st',fun b hb=>(hf b hb).1⟩⟩
  done:=by
    intro X hP hw hK hc i pins s σ H E I hf st hg;subst hP hw hK;obtain ⟨xs,hq,hx⟩:=hg;obtain ⟨its,rv,p,hz⟩:=I.tuple hq;obtain ⟨f0,f1,f2,f3,f4,f5⟩:=hf it (by simp);have hl:=rv.length;exact wpAny_pyNext_tuple_end (I.ok.hd hc) st (show s.heap.IsTuple a its.toArray from p) (by simp; omega) fun h' eb=>⟨rfl,I.turned (t':=s.toks) (fun b o hb e=>eb b o hb e) f0 f1 f3 f4 f5⟩
  self:=fun _ _ _ _ _ st h=>wpAny_pyIter_tupleiter st h
theorem turn_range {P:Program} {w:World} {K:PySem.W.Frag} {tg:Expr} (it:Addr) (lo:Int) (n:Nat):Turn P w K tg (Itr lo n) [it] it (fun i h=>IsRangeIter h it (lo + (i:Nat) * 1) ((n:Int) - (i:Nat)) 1) where
  mem:=by simp
  obj:=fun i h st b hb=>by
    have e:b=it:=by simpa using hb
    subst e;exact ⟨_,st,fun v z=>by
      have z':Data.fields _=Data.cell v:=z;cases z'⟩
  keep:=fun i h h' st k=>k it (by simp) _ st
  item:=by
    intro X hP hw hK hc i pins s σ H E I hf st hg;subst hP hw hK;obtain ⟨f0,f1,f2,f3,f4,f5⟩:=hf it (by simp);have W:=Walks.range (prog:=X.prog) (w:=X.w) (I.ok.hd hc) it lo 1 n;refine W.item i s _ _ hg st fun v h' tk hv st' kk => ?_;obtain ⟨t,rfl⟩:=hv;have I1:Inv X pins σ H { s with heap:=h',toks:=tk }:=I.turned (fun b o hb e=>kk b o (by simpa using hb) e) f0 f1 f3 f4 f5;refine ⟨_,rfl,go_of (s:={ s with heap:=h',toks:=tk }) (n := "range_iterator") st' rfl rfl (by decide) ⟨.int (lo + i),H,I1,⟨t,?_⟩,⟨rfl,rfl⟩,st',fun b hb=>(hf b hb).1⟩⟩
    rw [Int.mul_one]
  done:=by
    intro X hP hw hK hc i pins s σ H E I hf st hg;subst hP hw hK;obtain ⟨f0,f1,f2,f3,f4,f5⟩:=hf it (by simp);exact wpAny_pyNext_range_end (I.ok.hd hc) st (by have:n≤i:=hg; omega) fun h' eb=>⟨rfl,I.turned (t':=s.toks) (fun b o hb e=>eb b o hb e) f0 f1 f3 f4 f5⟩
  self:=fun _ _ _ _ _ st h=>wpAny_pyIter_rangeiter st h
end L2

namespace L2
open PySem PySem.Spec PyProof.Rows
section
variable {X:Cx} {tg:Expr}
def iList (K:PySem.W.Frag) (tl:TE):TI:=fun σ H R=>tl σ H fun x H1=>∃ a,x=.ref a∧(∃ xs,SqL K H1 a xs)∧R (Itl K a) H1
def iTup (K:PySem.W.Frag) (tl:TE):TI:=fun σ H R=>tl σ H fun x H1=>∃ a,x=.ref a∧(∃ xs,SqT K H1 a xs)∧R (Itt K a) H1
theorem pi_list {l:Expr} {tl:TE} (hl:PE X l tl):PI X tg l (iList X.K tl):=by
  intro pins s σ H R I h;refine thn (hl pins s σ H _ I h) fun v s1 ⟨x,H1,I1,r1,q1⟩ => ?_;obtain ⟨a,e,⟨xs,hq⟩,q⟩:=q1;subst e;cases r1;obtain ⟨its,rv,p,hz⟩:=I1.list hq;refine wpAny_pyIter_list p.isList ?_;refine ⟨s1.heap.objs.size,[s1.heap.objs.size],_,_,H1,rfl,I1.kept (t':=s1.toks) fun b o e=>Heap.get?_push_of_some _ e,turn_list a _,⟨_,Heap.get?_push_size _ rfl,rfl,rfl⟩,fun b hb => ?_,q⟩;have e:b=s1.heap.objs.size:=by simpa using hb
  subst e;exact I1.fpOk (Nat.le_refl _) (I1.hok.fresh (Nat.le_refl _))
theorem pi_tup {l:Expr} {tl:TE} (hl:PE X l tl):PI X tg l (iTup X.K tl):=by
  intro pins s σ H R I h;refine thn (hl pins s σ H _ I h) fun v s1 ⟨x,H1,I1,r1,q1⟩ => ?_;obtain ⟨a,e,⟨xs,hq⟩,q⟩:=q1;subst e;cases r1;obtain ⟨its,rv,p,hz⟩:=I1.tuple hq;refine wpAny_pyIter_tuple (show s1.heap.IsTuple a its.toArray from p) ?_;refine ⟨s1.heap.objs.size,[s1.heap.objs.size],_,_,H1,rfl,I1.kept (t':=s1.toks) fun b o e=>Heap.get?_push_of_some _ e,turn_tuple a _,⟨_,Heap.get?_push_size _ rfl,rfl,rfl⟩,fun b hb => ?_,q⟩;have e:b=s1.heap.objs.size:=by simpa using hb
  subst e;exact I1.fpOk (Nat.le_refl _) (I1.hok.fresh (Nat.le_refl _))

theorem range_it {pins:List (Addr × Obj)} {σ:St} {H:Hp} {s:Shared} {R:It→Hp→Prop} {E:Value→Shared→Prop} {lo hi:Int} {t u v:Tok} {tk:Nat} (I:Inv X pins σ H s) (h1:-(2 ^ 62)≤lo) (h2:lo < 2 ^ 62) (h3:-(2 ^ 62)≤hi) (h4:hi < 2 ^ 62)
    (q:R (Itr lo (hi - lo).toNat) H):wpAny (model X.prog X.w) X.A (pyIter (.ref s.heap.objs.size)) (PIE X pins σ tg R) E { s with heap:=s.heap.push { cls:=.type "range",data:=.fields #[.int lo t,.int hi u,.int 1 v] },toks:=tk }:=by
  refine wpAny_pyIter_range (IsRange.new ..) (small_one h1 h2 h3 h4) ?_;have I1:Inv X pins σ H { s with heap:=s.heap.push { cls:=.type "range",data:=.fields #[.int lo t,.int hi u,.int 1 v] },toks:=tk }:=I.kept fun b o e=>Heap.get?_push_of_some _ e
  refine ⟨(s.heap.push { cls:=.type "range",data:=.fields #[.int lo t,.int hi u,.int 1 v] }).objs.size,[(s.heap.push { cls:=.type "range",data:=.fields #[.int lo t,.int hi u,.int 1 v] }).objs.size],_,_,H,rfl,
    I1.kept (t':=tk) fun b o e=>Heap.get?_push_of_some _ e,turn_range _ lo (hi - lo).toNat,?_,fun b hb => ?_,q⟩
  · have e1:lo + ((0:Nat):Int) * 1=lo:=by simp
    have e2:(((hi - lo).toNat:Nat):Int) - ((0:Nat):Int)=Builtin.Range.rangeSize lo hi 1:=by rw [rangeSize_one]; split <;> omega
    show IsRangeIter _ _ (lo + ((0:Nat):Int) * 1) ((((hi - lo).toNat:Nat):Int) - ((0:Nat):Int)) 1;rw [e1,e2];exact Heap.get?_push_size _ rfl
  · have e:b=(s.heap.push { cls:=.type "range",data:=.fields #[.int lo t,.int hi u,.int 1 v] }).objs.size:=by simpa using hb
    subst e;exact I1.fpOk (Nat.le_refl _) (I1.hok.fresh (Nat.le_refl _))
def iRng1 (ta:TA):TI:=fun σ H R=>ta σ H fun vs H1=>∃ j:Int,vs=[.int j]∧-(2 ^ 62)≤j∧j < 2 ^ 62∧R (Itr 0 j.toNat) H1
theorem pi_range1 {a:Expr} {ta:TA} {p pos:Pos} (hg:Gl X "range") (hm:X.mg "range" = none) (ha:PA X [a] ta) (hs:starEach [a] X.env=[(false,eval a X.env)]:=by rfl):PI X tg (.Call (.Name "range" p) [a] [] pos) (iRng1 ta):=by
  intro pins s σ H R I h;refine Call_ (ld_blt I hg hm boot_range (PyProof.Rows.callWith_type1 (thn (ha pos pins s σ H _ I h) fun us s1 ⟨vs,H1,I1,r1,q1⟩ => ?_) hs rfl));obtain ⟨j,e,q1,q2,q⟩:=q1;subst e;cases r1 with
  | cons r rr =>
    cases rr;obtain ⟨t,rfl⟩:=r;exact call_range_1 (range_it I1 (by omega) (by omega) q1 q2 (by simpa using q))
def tFor (wi:TI) (g:TG) (tb:TS):TS:=fun D σ H=>wi σ H fun J H1=>∃ W:Nat→Nat→St→Hp→Prop,(∃ m,W 0 m σ H1)∧∀ i m σ H,W i m σ H →
  (J.stop i H∧D.nx σ H)∨(J.go i H∧∃ N:St→Hp→Prop,(∀ σ' H',N σ' H'→∃ m',m' < m∧W (i + 1) m' σ' H')∧∀ x H',J.yld i H x H'→g x σ H' fun σ2 H2=>tb { D with nx:=N,ct:=N,bk:=D.nx } σ2 H2)

def pinsAt (fp:List Addr) (h:Heap):List (Addr × Obj):=fp.filterMap fun b=>(h.get? b).map fun o=>(b,o)
theorem mem_pinsAt {fp:List Addr} {h:Heap} {b:Addr} {o:Obj} (hb:b∈fp) (e:h.get? b=some o):(b,o)∈pinsAt fp h:=List.mem_filterMap.mpr ⟨b,hb,by rw [e]; rfl⟩
theorem of_pinsAt {fp:List Addr} {h:Heap} {p:Addr × Obj} (hp:p∈pinsAt fp h):p.1∈fp∧h.get? p.1=some p.2:=by
  obtain ⟨b,hb,e⟩:=List.mem_filterMap.mp hp;cases q:h.get? b with
  | none=>rw [q] at e; cases e
  | some o =>
    rw [q] at e;have e':(b,o)=p:=Option.some.inj e;subst e';exact ⟨hb,q⟩
theorem Inv.pinned {pins:List (Addr × Obj)} {σ:St} {H:Hp} {s:Shared} {fp:List Addr} (I:Inv X pins σ H s) (hf:∀ b∈fp,FpOk X pins H b) (ho:∀ b∈fp,∃ o,s.heap.get? b=some o∧∀ v,o.data≠.cell v):Inv X (pins++pinsAt fp s.heap) σ H s :=
  I.pins_of fun p hp=>(List.mem_append.mp hp).elim (fun z=>I.pin p (List.mem_append_right _ z)) fun z=>by
    obtain ⟨hb,e⟩:=of_pinsAt z;obtain ⟨f0,f1,f2,_⟩:=hf p.1 hb;obtain ⟨o,e',d⟩:=ho p.1 hb;rw [e] at e'; cases e';exact ⟨e,f0,f1,f2,d⟩
theorem Inv.unpinned {pins pl:List (Addr × Obj)} {σ:St} {H:Hp} {s:Shared} (I:Inv X (pins++pl) σ H s):Inv X pins σ H s:=I.pins_of fun p hp=>I.pin p (List.mem_append_right _ (List.mem_append_left _ hp))
theorem ps_for {iter:Expr} {body:List Stmt} {wi:TI} {g:TG} {tb:TS} {pos:Pos} (hp:PassesOwn (model X.prog X.w) X.A X.env X.xe) (hc:X.calm=true) (hi:PI X tg iter wi) (hg:PG X tg g) (hb:PSs X body tb)
    (hs:∀ x,foldedSetIterable iter X.env x=pure x:=by intro _; rfl):PS X (.For tg iter body [] pos) (tFor wi g tb):=by
  intro pins s σ H D I h;refine wpAny_For (thn (hi pins s σ H _ I h) fun v s1 h1=>thn h1 fun itv s2 h2 => ?_) hs;obtain ⟨it,fp,tn,J,H2,e,I2,T,st2,f2,W,⟨m0,w0⟩,turn⟩:=h2;subst e
  -- what stays true of the iterator's objects through the loop
  have stat:∀ {H':Hp},(∀ b∈fp,H' b=none)→∀ b∈fp,FpOk X pins H' b:=fun hn b hb=>⟨hn b hb,(f2 b hb).2⟩;refine codeAny_forLoop_any (fun n s'=>∃ i σ' H',Inv X pins σ' H' s'∧tn i s'.heap∧(∀ b∈fp,H' b=none)∧W i n σ' H') ?_ m0 ⟨0,σ,H2,I2,st2,fun b hb=>(f2 b hb).1,w0⟩;rintro n s3 ⟨i,σ3,H3,I3,st3,fr3,w3⟩;rcases turn i n σ3 H3 w3 with ⟨stop,qn⟩ | ⟨go,N,hN,step⟩
  · refine wpAny_passesOwn hp (thn (T.done X rfl rfl rfl hc i pins s3 σ3 H3 X.xe I3 (stat fr3) st3 stop) fun r s4 ⟨hr,I4⟩ => ?_);subst hr;exact wpAny_execs_nil ⟨σ3,H3,I4,qn⟩
  · refine wpAny_passesOwn hp (thn (T.item X rfl rfl rfl hc i pins s3 σ3 H3 X.xe I3 (stat fr3) st3 go) fun r s4 ⟨u,hr,h4⟩ => ?_);subst hr;refine wpAny_passesOwn hp (thn h4 fun _ s5 ⟨x,H5,I5,r5,y5,st5,fr5⟩ => ?_);have I5':=I5.pinned (stat fr5) (T.obj _ _ st5);refine wpAny_passesOwn hp (thn (hg _ s5 σ3 H5 x u _ I5' r5 (step x H5 y5)) fun _ s6 ⟨σ6,H6,I6,q6⟩ => ?_);refine wpAny_passesOwn hp (thn (hb _ s6 σ6 H6 _ I6 q6) fun f s7 q7 => ?_);have again:∀ {σ7:St} {H7:Hp},Inv X (pins++pinsAt fp s5.heap) σ7 H7 s7→N σ7 H7→∃ m,m < n∧∃ i σ' H',Inv X pins σ' H' s7∧tn i s7.heap∧(∀ b∈fp,H' b=none)∧W i m σ' H':=fun {σ7 H7} I7 n7=>by
      obtain ⟨m',hm,w7⟩:=hN σ7 H7 n7;refine ⟨m',hm,i + 1,σ7,H7,I7.unpinned,T.keep _ _ _ st5 fun b hb o e=>(I7.pin (b,o) (List.mem_append_right _ (List.mem_append_right _ (mem_pinsAt hb e)))).1,fun b hb => ?_,w7⟩;obtain ⟨o,e,d⟩:=T.obj _ _ st5 b hb;exact (I7.pin (b,o) (List.mem_append_right _ (List.mem_append_right _ (mem_pinsAt hb e)))).2.1
    cases f with
    | next=>obtain ⟨σ7,H7,I7,n7⟩:=q7; exact again I7 n7
    | cont=>obtain ⟨σ7,H7,I7,n7⟩:=q7; exact again I7 n7
    | brk=>obtain ⟨σ7,H7,I7,q7⟩:=q7; exact ⟨σ7,H7,I7.unpinned,q7⟩
    | ret v=>obtain ⟨x7,σ7,H7,I7,r7,q7⟩:=q7; exact ⟨x7,σ7,H7,I7.unpinned,r7,q7⟩
end



theorem for_list {K:PySem.W.Frag} {a:Addr} {xs:List V} {g:TG} {tb:TS} {D:Ends} {σ:St} {H:Hp} (Pv:Nat→St→Hp→Prop) (h0:Pv 0 σ H) (hl:∀ i σ H,i≤xs.length→Pv i σ H→SqL K H a xs)
    (hs:∀ i x σ H,xs[i]? = some x→Pv i σ H→g x σ H fun σ2 H2=>tb { D with nx:=Pv (i + 1),ct:=Pv (i + 1),bk:=D.nx } σ2 H2) (hd:∀ σ H,Pv xs.length σ H→D.nx σ H) :
    ∃ W:Nat→Nat→St→Hp→Prop,(∃ m,W 0 m σ H)∧∀ i m σ H,W i m σ H →
      ((Itl K a).stop i H∧D.nx σ H)∨((Itl K a).go i H∧∃ N:St→Hp→Prop,(∀ σ' H',N σ' H'→∃ m',m' < m∧W (i + 1) m' σ' H')∧∀ x H',(Itl K a).yld i H x H'→g x σ H' fun σ2 H2=>tb { D with nx:=N,ct:=N,bk:=D.nx } σ2 H2):=by
  refine ⟨fun i m σ H=>m=xs.length - i∧i≤xs.length∧Pv i σ H,⟨xs.length,by simp,Nat.zero_le _,h0⟩,?_⟩;rintro i m σ H ⟨rfl,hi,p⟩;have q:=hl i σ H hi p;by_cases hlt:i < xs.length
  · refine .inr ⟨⟨xs,xs[i],q,by simp [hlt]⟩,Pv (i + 1),fun σ' H' p'=>⟨xs.length - (i + 1),by omega,rfl,hlt,p'⟩,fun x H' y => ?_⟩;obtain ⟨e,y⟩:=y;subst e;exact hs i x σ _ (y xs q) p
  · have e:i=xs.length:=by omega
    subst e;exact .inl ⟨⟨xs,q,Nat.le_refl _⟩,hd σ H p⟩
theorem for_tup {K:PySem.W.Frag} {a:Addr} {xs:List V} {g:TG} {tb:TS} {D:Ends} {σ:St} {H:Hp} (Pv:Nat→St→Hp→Prop) (h0:Pv 0 σ H) (hl:∀ i σ H,i≤xs.length→Pv i σ H→SqT K H a xs)
    (hs:∀ i x σ H,xs[i]? = some x→Pv i σ H→g x σ H fun σ2 H2=>tb { D with nx:=Pv (i + 1),ct:=Pv (i + 1),bk:=D.nx } σ2 H2) (hd:∀ σ H,Pv xs.length σ H→D.nx σ H) :
    ∃ W:Nat→Nat→St→Hp→Prop,(∃ m,W 0 m σ H)∧∀ i m σ H,W i m σ H →
      ((Itt K a).stop i H∧D.nx σ H)∨((Itt K a).go i H∧∃ N:St→Hp→Prop,(∀ σ' H',N σ' H'→∃ m',m' < m∧W (i + 1) m' σ' H')∧∀ x H',(Itt K a).yld i H x H'→g x σ H' fun σ2 H2=>tb { D with nx:=N,ct:=N,bk:=D.nx } σ2 H2):=by
  refine ⟨fun i m σ H=>m=xs.length - i∧i≤xs.length∧Pv i σ H,⟨xs.length,by simp,Nat.zero_le _,h0⟩,?_⟩;rintro i m σ H ⟨rfl,hi,p⟩;have q:=hl i σ H hi p;by_cases hlt:i < xs.length
  · refine .inr ⟨⟨xs,xs[i],q,by simp [hlt]⟩,Pv (i + 1),fun σ' H' p'=>⟨xs.length - (i + 1),by omega,rfl,hlt,p'⟩,fun x H' y => ?_⟩;obtain ⟨e,y⟩:=y;subst e;exact hs i x σ _ (y xs q) p
  · have e:i=xs.length:=by omega
    subst e;exact .inl ⟨⟨xs,q,Nat.le_refl _⟩,hd σ H p⟩
theorem for_range {lo:Int} {n:Nat} {g:TG} {tb:TS} {D:Ends} {σ:St} {H:Hp} (Pv:Nat→St→Hp→Prop) (h0:Pv 0 σ H)
    (hs:∀ i σ H,i < n→Pv i σ H→g (.int (lo + i)) σ H fun σ2 H2=>tb { D with nx:=Pv (i + 1),ct:=Pv (i + 1),bk:=D.nx } σ2 H2) (hd:∀ σ H,Pv n σ H→D.nx σ H) :
    ∃ W:Nat→Nat→St→Hp→Prop,(∃ m,W 0 m σ H)∧∀ i m σ H,W i m σ H →
      ((Itr lo n).stop i H∧D.nx σ H)∨((Itr lo n).go i H∧∃ N:St→Hp→Prop,(∀ σ' H',N σ' H'→∃ m',m' < m∧W (i + 1) m' σ' H')∧∀ x H',(Itr lo n).yld i H x H'→g x σ H' fun σ2 H2=>tb { D with nx:=N,ct:=N,bk:=D.nx } σ2 H2):=by
  refine ⟨fun i m σ H=>m=n - i∧i≤n∧Pv i σ H,⟨n,by simp,Nat.zero_le _,h0⟩,?_⟩;rintro i m σ H ⟨rfl,hi,p⟩;by_cases hlt:i < n
  · refine .inr ⟨hlt,Pv (i + 1),fun σ' H' p'=>⟨n - (i + 1),by omega,rfl,hlt,p'⟩,fun x H' y => ?_⟩;obtain ⟨e,y⟩:=y;subst e y;exact hs i σ _ hlt p
  · have e:i=n:=by omega
    subst e;exact .inl ⟨Nat.le_refl _,hd σ H p⟩

theorem while_by {c:TT} {tb:TS} {D:Ends} {σ:St} {H:Hp} (Pv:St→Hp→Prop) (μ:St→Hp→Nat) (h0:Pv σ H)
    (hs:∀ σ H,Pv σ H→c σ H fun b H1=>if b=true then tb { D with nx:=fun σ' H'=>Pv σ' H'∧μ σ' H' < μ σ H,ct:=fun σ' H'=>Pv σ' H'∧μ σ' H' < μ σ H,bk:=D.nx } σ H1 else D.nx σ H1)
    (mono:∀ σ H Q Q',(∀ b H1,Q b H1→Q' b H1)→c σ H Q→c σ H Q'):tWhile c tb D σ H:=by
  refine ⟨fun m σ H=>m=μ σ H∧Pv σ H,⟨_,rfl,h0⟩,?_⟩;rintro m σ H ⟨rfl,p⟩;refine mono σ H _ _ (fun b H1 q => ?_) (hs σ H p);cases b with
  | true=>exact ⟨_,fun σ' H' ⟨p',l⟩=>⟨_,l,rfl,p'⟩,q⟩
  | false=>exact q
end L2

namespace L2
open PySem PySem.Spec PyProof.Rows

abbrev R2:=V→V→Hp→VK→Prop

def OpR (X:Cx) (f:Value→Value→Sem Value) (r:R2):Prop :=
  ∀ (pins:List (Addr × Obj)) (s:Shared) (σ:St) (H:Hp) (x y:V) (v u:Value) (Q:VK),Inv X pins σ H s→RelV x v→RelV y u→r x y H Q →
    wpAny (model X.prog X.w) X.A (f v u) (EP X pins σ Q) X.xe s

def UnR (X:Cx) (f:Value→Sem Value) (r:V→Hp→VK→Prop):Prop :=
  ∀ (pins:List (Addr × Obj)) (s:Shared) (σ:St) (H:Hp) (x:V) (v:Value) (Q:VK),Inv X pins σ H s→RelV x v→r x H Q →
    wpAny (model X.prog X.w) X.A (f v) (EP X pins σ Q) X.xe s

def CallR (X:Cx) (f:Value) (r:List V→Hp→VK→Prop):Prop :=
  ∀ (pins:List (Addr × Obj)) (s:Shared) (σ:St) (H:Hp) (xs:List V) (us:List Value) (Q:VK),Inv X pins σ H s→Vals xs us→r xs H Q →
    wpAny (model X.prog X.w) X.A (call f us) (EP X pins σ Q) X.xe s

def tOp (r:R2) (ta tb:TE):TE:=fun σ H Q=>ta σ H fun x H1=>tb σ H1 fun y H2=>r x y H2 Q
def tUn (r:V→Hp→VK→Prop) (ta:TE):TE:=fun σ H Q=>ta σ H fun x H1=>r x H1 Q

def rI (C:Int→Int→Prop) (g:Int→Int→V):R2:=fun x y H Q=>∃ i j,x=.int i∧y=.int j∧C i j∧Q (g i j) H
def rI0 (g:Int→Int→V):R2:=fun x y H Q=>∃ i j,x=.int i∧y=.int j∧Q (g i j) H
def rU (g:Int→V):V→Hp→VK→Prop:=fun x H Q=>∃ i,x=.int i∧Q (g i) H

section
variable {X:Cx} {a b c:Expr} {ta tb tc:TE} {pos:Pos}

theorem binT (ha:PE X a ta) (hb:PE X b tb) {pins:List (Addr × Obj)} {s:Shared} {σ:St} {H:Hp} {R:V→V→Hp→Prop} (I:Inv X pins σ H s)
    (h:ta σ H fun x H1=>tb σ H1 fun y H2=>R x y H2) {Q:Value→Shared→Prop} {f:Value→Value→Sem Value}
    (hf:∀ v u s2 x y H2,Inv X pins σ H2 s2→RelV x v→RelV y u→R x y H2→wpAny (model X.prog X.w) X.A (f v u) Q X.xe s2) :
    wpAny (model X.prog X.w) X.A (eval a X.env) (fun v s₁=>wpAny (model X.prog X.w) X.A (eval b X.env) (fun u s₂=>wpAny (model X.prog X.w) X.A (f v u) Q X.xe s₂) X.xe s₁) X.xe s:=by
  refine thn (ha pins s σ H _ I h) fun v s1 ⟨x,H1,I1,r1,q1⟩ => ?_;refine thn (hb pins s1 σ H1 _ I1 q1) fun u s2 ⟨y,H2,I2,r2,q2⟩ => ?_;exact hf v u s2 x y H2 I2 r1 r2 q2

theorem pe_op {op:Operator} {r:R2} (ho:OpR X (binaryOp op) r) (ha:PE X a ta) (hb:PE X b tb):PE X (.BinOp a op b pos) (tOp r ta tb):=by
  intro pins s σ H Q I h;exact wpAny_BinOp (binT ha hb I h fun v u s2 x y H2 I2 rx ry q=>ho pins s2 σ H2 x y v u Q I2 rx ry q)
theorem pe_un {op:UnaryOp} {r:V→Hp→VK→Prop} (ho:UnR X (unaryOp op) r) (ha:PE X a ta):PE X (.UnaryOp op a pos) (tUn r ta):=by
  intro pins s σ H Q I h;exact UnaryOp_ (thn (ha pins s σ H _ I h) fun v s1 ⟨x,H1,I1,r1,q1⟩=>ho pins s1 σ H1 x v Q I1 r1 q1)

theorem opI {f:Value→Value→Sem Value} {C:Int→Int→Prop} {g:Int→Int→Int}
    (rule:∀ (i j:Int) (t u:Tok) (s:Shared) (Q:Value→Shared→Prop) (E:Value→Shared→Prop),C i j→Q (.int (g i j) s.toks) { s with toks:=s.toks + 1 }→wpAny (model X.prog X.w) X.A (f (.int i t) (.int j u)) Q E s) :
    OpR X f (rI C fun i j=>.int (g i j)):=by
  intro pins s σ H x y v u Q I rx ry h;obtain ⟨i,j,rfl,rfl,hc,q⟩:=h;obtain ⟨t,rfl⟩:=rx;obtain ⟨t',rfl⟩:=ry;exact rule i j t t' s _ _ hc ⟨.int (g i j),H,I.tok _,⟨_,rfl⟩,q⟩
theorem opI0 {f:Value→Value→Sem Value} {g:Int→Int→Int}
    (rule:∀ (i j:Int) (t u:Tok) (s:Shared) (Q:Value→Shared→Prop) (E:Value→Shared→Prop),Q (.int (g i j) s.toks) { s with toks:=s.toks + 1 }→wpAny (model X.prog X.w) X.A (f (.int i t) (.int j u)) Q E s) :
    OpR X f (rI0 fun i j=>.int (g i j)):=by
  intro pins s σ H x y v u Q I rx ry h;obtain ⟨i,j,rfl,rfl,q⟩:=h;obtain ⟨t,rfl⟩:=rx;obtain ⟨t',rfl⟩:=ry;exact rule i j t t' s _ _ ⟨.int (g i j),H,I.tok _,⟨_,rfl⟩,q⟩
theorem opB0 {f:Value→Value→Sem Value} {g:Int→Int→Bool}
    (rule:∀ (i j:Int) (t u:Tok) (s:Shared) (Q:Value→Shared→Prop) (E:Value→Shared→Prop),Q (.bool (g i j)) s→wpAny (model X.prog X.w) X.A (f (.int i t) (.int j u)) Q E s) :
    OpR X f (rI0 fun i j=>.bl (g i j)):=by
  intro pins s σ H x y v u Q I rx ry h;obtain ⟨i,j,rfl,rfl,q⟩:=h;obtain ⟨t,rfl⟩:=rx;obtain ⟨t',rfl⟩:=ry;exact rule i j t t' s _ _ ⟨.bl (g i j),H,I,rfl,q⟩

def CPow (i j:Int):Prop:=0≤j∧j≤1000000∧i.natAbs < 2 ^ 64
def CMul (i j:Int):Prop:=(-(2 ^ 64) < i∧i < 2 ^ 64)∨(-(2 ^ 64) < j∧j < 2 ^ 64)
theorem CMul.ok {i j:Int} (h:CMul i j):IntMulOk i j:=by
  rcases h with ⟨h1,h2⟩ | ⟨h1,h2⟩
  · exact .of_left (intBits_le_64 h1 h2)
  · exact .of_right (intBits_le_64 h1 h2)
theorem op_add:OpR X (binaryOp .Add) (rI0 fun i j=>.int (i + j)):=opI0 fun _ _ _ _ _ _ _ q=>add_int q
theorem op_sub:OpR X (binaryOp .Sub) (rI0 fun i j=>.int (i - j)):=opI0 fun _ _ _ _ _ _ _ q=>sub_int q
theorem op_mul:OpR X (binaryOp .Mult) (rI CMul fun i j=>.int (i * j)):=opI fun _ _ _ _ _ _ _ hc q=>mul_int q hc.ok

theorem op_mod:OpR X (binaryOp .Mod) (rI (fun _ j=>0 < j) fun i j=>.int (i % j)):=opI fun i j _ _ _ _ _ hc q=>by
  have h1:(0:Int) < j:=hc;exact mod_int' (by omega) (by rw [Int.fmod_eq_emod_of_nonneg i (by omega)]; exact q)
theorem op_pow:OpR X (binaryOp .Pow) (rI CPow fun i j=>.int (i ^ j.toNat)):=opI fun _ _ _ _ _ _ _ hc q=>pow_int_small hc.1 hc.2.1 hc.2.2 q
theorem op_shl:OpR X (binaryOp .LShift) (rI CPow fun i j=>.int (i * 2 ^ j.toNat)):=opI fun _ _ _ _ _ _ _ hc q=>lshift_int_small hc.1 hc.2.1 hc.2.2 q
theorem unI {f:Value→Sem Value} {g:Int→Int}
    (rule:∀ (i:Int) (t:Tok) (s:Shared) (Q:Value→Shared→Prop) (E:Value→Shared→Prop),Q (.int (g i) s.toks) { s with toks:=s.toks + 1 }→wpAny (model X.prog X.w) X.A (f (.int i t)) Q E s) :
    UnR X f (rU fun i=>.int (g i)):=by
  intro pins s σ H x v Q I rx h;obtain ⟨i,rfl,q⟩:=h;obtain ⟨t,rfl⟩:=rx;exact rule i t s _ _ ⟨.int (g i),H,I.tok _,⟨_,rfl⟩,q⟩
theorem un_neg:UnR X (unaryOp .USub) (rU fun i=>.int (-i)):=unI fun _ _ _ _ _ q=>neg_int q
end



def scal:V→V→Bool
  | .non,.non=>true | .non,.int _=>true | .int _,.non=>true | .non,.bl _=>true | .bl _,.non=>true | .non,.str _=>true | .str _,.non=>true
  | .int _,.int _=>true | .bl _,.bl _=>true | .str _,.str _=>true | .byt _,.byt _=>true
  | .int _,.str _=>true | .str _,.int _=>true | .bl _,.str _=>true | .str _,.bl _=>true
  | _,_=>false
def rEq:R2:=fun x y H Q=>scal x y=true∧Q (.bl (decide (x=y))) H
def rNe:R2:=fun x y H Q=>scal x y=true∧Q (.bl (!decide (x=y))) H

theorem dec_int {i j:Int}:decide (V.int i=V.int j)=(i == j):=by
  rw [Bool.eq_iff_iff];simp
theorem dec_bl {i j:Bool}:decide (V.bl i=V.bl j)=(i == j):=by
  rw [Bool.eq_iff_iff];simp
theorem dec_str {i j:Str}:decide (V.str i=V.str j)=(i == j):=by
  rw [Bool.eq_iff_iff];simp
theorem dec_byt {i j:Array UInt8}:decide (V.byt i=V.byt j)=(i.toList == j.toList):=by
  rw [Bool.eq_iff_iff];cases i;cases j;simp

section
variable {X:Cx} {a b c:Expr} {ta tb tc:TE} {pos:Pos}
theorem fin_bl {pins:List (Addr × Obj)} {σ:St} {H:Hp} {s:Shared} {Q:VK} {k k':Bool} (I:Inv X pins σ H s) (q:Q (.bl k) H) (e:k=k'):EP X pins σ Q (.bool k') s:=by
  subst e;exact ⟨.bl k,H,I,rfl,q⟩
theorem op_eq:OpR X (compareOp .Eq) rEq:=by
  intro pins s σ H x y v u Q I rx ry h;obtain ⟨hs,q⟩:=h;cases x with
  | non =>
    cases rx;cases y with
    | non=>cases ry; exact PySem.EqNone.eq_none_none (fin_bl I q (by simp))
    | bl j=>cases ry; exact PySem.EqNone.eq_none_bool (fin_bl I q (by simp))
    | int j=>obtain ⟨t',rfl⟩:=ry; exact PySem.EqNone.eq_none_int (fin_bl I q (by simp))
    | str j=>obtain ⟨t',rfl⟩:=ry; exact PySem.EqNone.eq_none_str (fin_bl I q (by simp))
    | _=>exact absurd (show false=true from hs) Bool.false_ne_true
  | bl i =>
    cases rx;cases y with
    | non=>cases ry; exact PySem.EqNone.eq_bool_none (fin_bl I q (by simp))
    | bl j=>cases ry; exact eq_bool (fin_bl I q dec_bl)
    | str j=>obtain ⟨t',rfl⟩:=ry; exact PySem.EqMixed.eq_bool_str (fin_bl I q (by simp))
    | _=>exact absurd (show false=true from hs) Bool.false_ne_true
  | int i =>
    obtain ⟨t,rfl⟩:=rx;cases y with
    | non=>cases ry; exact PySem.EqNone.eq_int_none (fin_bl I q (by simp))
    | int j=>obtain ⟨t',rfl⟩:=ry; exact eq_int (fin_bl I q dec_int)
    | str j=>obtain ⟨t',rfl⟩:=ry; exact PySem.EqMixed.eq_int_str (fin_bl I q (by simp))
    | _=>exact absurd (show false=true from hs) Bool.false_ne_true
  | str i =>
    obtain ⟨t,rfl⟩:=rx;cases y with
    | non=>cases ry; exact PySem.EqNone.eq_str_none (fin_bl I q (by simp))
    | bl j=>cases ry; exact PySem.EqMixed.eq_str_bool (fin_bl I q (by simp))
    | int j=>obtain ⟨t',rfl⟩:=ry; exact PySem.EqMixed.eq_str_int (fin_bl I q (by simp))
    | str j=>obtain ⟨t',rfl⟩:=ry; exact eq_str (fin_bl I q dec_str)
    | _=>exact absurd (show false=true from hs) Bool.false_ne_true
  | byt i =>
    obtain ⟨t,rfl⟩:=rx;cases y with
    | byt j=>obtain ⟨t',rfl⟩:=ry; exact PySem.W.eq_bytes (fin_bl I q dec_byt)
    | _=>exact absurd (show false=true from hs) Bool.false_ne_true
  | _=>cases y <;> exact absurd (show false=true from hs) Bool.false_ne_true
theorem op_ne:OpR X (compareOp .NotEq) rNe:=by
  intro pins s σ H x y v u Q I rx ry h;obtain ⟨hs,q⟩:=h;cases x with
  | non =>
    cases rx;cases y with
    | non=>cases ry; exact PySem.EqNone.ne_none_none (fin_bl I q (by simp))
    | bl j=>cases ry; exact PySem.EqNone.ne_none_bool (fin_bl I q (by simp))
    | int j=>obtain ⟨t',rfl⟩:=ry; exact PySem.EqNone.ne_none_int (fin_bl I q (by simp))
    | str j=>obtain ⟨t',rfl⟩:=ry; exact PySem.EqNone.ne_none_str (fin_bl I q (by simp))
    | _=>exact absurd (show false=true from hs) Bool.false_ne_true
  | bl i =>
    cases rx;cases y with
    | non=>cases ry; exact PySem.EqNone.ne_bool_none (fin_bl I q (by simp))
    | bl j=>cases ry; exact ne_bool (fin_bl I q (congrArg not dec_bl))
    | str j=>obtain ⟨t',rfl⟩:=ry; exact PySem.EqMixed.ne_bool_str (fin_bl I q (by simp))
    | _=>exact absurd (show false=true from hs) Bool.false_ne_true
  | int i =>
    obtain ⟨t,rfl⟩:=rx;cases y with
    | non=>cases ry; exact PySem.EqNone.ne_int_none (fin_bl I q (by simp))
    | int j=>obtain ⟨t',rfl⟩:=ry; exact ne_int (fin_bl I q (congrArg not dec_int))
    | str j=>obtain ⟨t',rfl⟩:=ry; exact PySem.EqMixed.ne_int_str (fin_bl I q (by simp))
    | _=>exact absurd (show false=true from hs) Bool.false_ne_true
  | str i =>
    obtain ⟨t,rfl⟩:=rx;cases y with
    | non=>cases ry; exact PySem.EqNone.ne_str_none (fin_bl I q (by simp))
    | bl j=>cases ry; exact PySem.EqMixed.ne_str_bool (fin_bl I q (by simp))
    | int j=>obtain ⟨t',rfl⟩:=ry; exact PySem.EqMixed.ne_str_int (fin_bl I q (by simp))
    | str j=>obtain ⟨t',rfl⟩:=ry; exact ne_str (fin_bl I q (congrArg not dec_str))
    | _=>exact absurd (show false=true from hs) Bool.false_ne_true
  | byt i =>
    obtain ⟨t,rfl⟩:=rx;cases y with
    | byt j=>obtain ⟨t',rfl⟩:=ry; exact PySem.W.ne_bytes (fin_bl I q (congrArg not dec_byt))
    | _=>exact absurd (show false=true from hs) Bool.false_ne_true
  | _=>cases y <;> exact absurd (show false=true from hs) Bool.false_ne_true

theorem op_lt:OpR X (compareOp .Lt) (rI0 fun i j=>.bl (decide (i < j))):=opB0 fun _ _ _ _ _ _ _ q=>lt_int q
theorem op_le:OpR X (compareOp .LtE) (rI0 fun i j=>.bl (decide (i≤j))):=opB0 fun _ _ _ _ _ _ _ q=>le_int q
theorem op_gt:OpR X (compareOp .Gt) (rI0 fun i j=>.bl (decide (j < i))):=opB0 fun _ _ _ _ _ _ _ q=>gt_int q
theorem op_in_str:OpR X (compareOp .In) (fun x y H Q=>∃ i j,x=.str i∧y=.str j∧Q (.bl (!(Builtin.Str.occurrences j i 0 j.length 1).isEmpty)) H):=by
  intro pins s σ H x y v u Q I rx ry h;obtain ⟨i,j,rfl,rfl,q⟩:=h;obtain ⟨t,rfl⟩:=rx;obtain ⟨t',rfl⟩:=ry;exact in_str (fin_bl I q rfl)


theorem op_isN:OpR X (compareOp .Is) (fun x y H Q=>y=.non∧Q (.bl (decide (x=.non))) H):=by
  intro pins s σ H x y v u Q I rx ry h;obtain ⟨rfl,q⟩:=h;cases ry;refine is_none_gen (fin_bl I q ?_);cases x <;> first
    | (cases rx; rfl)
    | (obtain ⟨t,rfl⟩:=rx; rfl)
theorem op_notN:OpR X (compareOp .IsNot) (fun x y H Q=>y=.non∧Q (.bl (!decide (x=.non))) H):=by
  intro pins s σ H x y v u Q I rx ry h;obtain ⟨rfl,q⟩:=h;cases ry;refine isnot_none_gen (fin_bl I q ?_);cases x <;> first
    | (cases rx; rfl)
    | (obtain ⟨t,rfl⟩:=rx; rfl)

theorem nomark (b:Expr) {op:CmpOp} (h:op≠.In:=by decide) (h2:op≠.NotIn:=by decide):behindInMarks op b=false:=by
  have e1:(op == CmpOp.In)=false:=by cases op <;> first | rfl | exact absurd rfl h
  have e2:(op == CmpOp.NotIn)=false:=by cases op <;> first | rfl | exact absurd rfl h2
  cases b <;> simp [behindInMarks,e1,e2]

theorem pe_cmpR {op:CmpOp} {r:R2} (ho:OpR X (compareOp op) r) (ha:PE X a ta) (hb:PE X b tb) (hm:behindInMarks op b=false):PE X (.Compare a [op] [b] pos) (tOp r ta tb):=by
  intro pins s σ H Q I h;exact wpAny_Compare1 (binT ha hb I h fun v u s2 x y H2 I2 rx ry q=>ho pins s2 σ H2 x y v u Q I2 rx ry q) hm

def tTest (t:TE):TT:=fun σ H Q=>t σ H fun x H'=>∃ k,x=.bl k∧Q k H'
theorem pt_cmpR {op:CmpOp} {r:R2} (ho:OpR X (compareOp op) r) (ha:PE X a ta) (hb:PE X b tb) (hm:behindInMarks op b=false):PT X (.Compare a [op] [b] pos) (tTest (tOp r ta tb)):=by
  intro pins s σ H Q I h;refine wpAny_isTrue_Compare1 (thn (ha pins s σ H _ I h) fun v s1 ⟨x,H1,I1,r1,q1⟩=>thn (hb pins s1 σ H1 _ I1 q1) fun u s2 ⟨y,H2,I2,r2,q2⟩ =>
    thn (ho pins s2 σ H2 x y v u _ I2 r1 r2 q2) fun c s3 ⟨z,H3,I3,r3,k,e,q3⟩ => ?_) hm
  subst e;cases r3;exact wpAny_truthy_bool ⟨H3,I3,q3⟩

def tChain (r r':R2) (ta tb tc:TE):TE:=fun σ H Q=>ta σ H fun x H1=>tb σ H1 fun y H2=>r x y H2 fun z H3=>∃ k,z=.bl k ∧
  (if k=true then tc σ H3 fun w' H4=>r' y w' H4 Q else Q (.bl false) H3)
theorem pe_chain {op op':CmpOp} {r r':R2} (ho:OpR X (compareOp op) r) (ho':OpR X (compareOp op') r') (ha:PE X a ta) (hb:PE X b tb) (hc:PE X c tc)
    (hm:lastMarks [op,op'] [b,c]=false:=by with_unfolding_all rfl):PE X (.Compare a [op,op'] [b,c] pos) (tChain r r' ta tb tc):=by
  intro pins s σ H Q I h;refine Compare_chain (thn (ha pins s σ H _ I h) fun v s1 ⟨x,H1,I1,r1,q1⟩=>chain_link (thn (hb pins s1 σ H1 _ I1 q1) fun u s2 ⟨y,H2,I2,r2,q2⟩ =>
    thn (ho pins s2 σ H2 x y v u _ I2 r1 r2 q2) fun d s3 ⟨z,H3,I3,r3,k,e,q3⟩ => ?_)) hm
  subst e;cases r3;refine wpAny_truthy_bool ?_;cases k with
  | false=>exact ite_ff ⟨.bl false,H3,I3,rfl,q3⟩
  | true=>exact ite_tt (chain_last (thn (hc pins s3 σ H3 _ I3 q3) fun w' s4 ⟨z',H4,I4,r4,q4⟩=>ho' pins s4 σ H4 y z' u w' Q I4 r2 r4 q4))
theorem pt_chain {op op':CmpOp} {r r':R2} (ho:OpR X (compareOp op) r) (ho':OpR X (compareOp op') r') (ha:PE X a ta) (hb:PE X b tb) (hc:PE X c tc)
    (hm:lastMarks [op,op'] [b,c]=false:=by with_unfolding_all rfl):PT X (.Compare a [op,op'] [b,c] pos) (tTest (tChain r r' ta tb tc)):=by
  intro pins s σ H Q I h;refine isTrue_chain (thn (ha pins s σ H _ I h) fun v s1 ⟨x,H1,I1,r1,q1⟩=>test_link (thn (hb pins s1 σ H1 _ I1 q1) fun u s2 ⟨y,H2,I2,r2,q2⟩ =>
    thn (ho pins s2 σ H2 x y v u _ I2 r1 r2 q2) fun d s3 ⟨z,H3,I3,r3,k,e,q3⟩ => ?_)) hm
  subst e;cases r3;refine wpAny_truthy_bool ?_;cases k with
  | false =>
    obtain ⟨k',e',q'⟩:=q3;cases e';exact ite_ff ⟨H3,I3,q'⟩
  | true =>
    refine ite_tt (test_last (thn (hc pins s3 σ H3 _ I3 q3) fun w' s4 ⟨z',H4,I4,r4,q4⟩=>thn (ho' pins s4 σ H4 y z' u w' _ I4 r2 r4 q4) fun d' s5 ⟨z2,H5,I5,r5,k2,e2,q5⟩ => ?_));subst e2;cases r5;exact wpAny_truthy_bool ⟨H5,I5,q5⟩



theorem line63:(sizeLine:Nat) < 2 ^ 63:=by rw [sizeLine_eq]; decide
theorem op_add_str:OpR X (binaryOp .Add) (fun x y H Q=>∃ i j,x=.str i∧y=.str j∧i.length + j.length≤sizeLine∧Q (.str (i++j)) H):=by
  intro pins s σ H x y v u Q I rx ry h;obtain ⟨i,j,rfl,rfl,hz,q⟩:=h;obtain ⟨t,rfl⟩:=rx;obtain ⟨t',rfl⟩:=ry;exact add_str (fun t' tk=>⟨.str (i++j),H,I.tok _,⟨_,rfl⟩,q⟩) hz
theorem vals1 {x:V} {us:List Value} (r:Vals [x] us):∃ u,us=[u]∧RelV x u:=by
  cases r with
  | cons r1 r2=>cases r2; exact ⟨_,rfl,r1⟩
theorem vals2 {x y:V} {us:List Value} (r:Vals [x,y] us):∃ u w',us=[u,w']∧RelV x u∧RelV y w':=by
  cases r with
  | cons r1 r2 =>
    cases r2 with
    | cons r3 r4=>cases r4; exact ⟨_,_,rfl,r1,r3⟩
theorem call_max2 (hc:X.calm=true):CallR X (.builtin "max") (fun xs H Q=>∃ i j,xs=[.int i,.int j]∧Q (.int (if j > i then j else i)) H):=by
  intro pins s σ H xs us Q I r h;obtain ⟨i,j,rfl,q⟩:=h;obtain ⟨u,w',rfl,⟨t,rfl⟩,⟨t',rfl⟩⟩:=vals2 r;refine max_two_ints (I.ok.hd hc) fun h' tk k=>⟨_,H,I.kept k,?_,q⟩;by_cases hj:j > i
  · rw [if_pos hj,if_pos hj]; exact ⟨_,rfl⟩
  · rw [if_neg hj,if_neg hj]; exact ⟨_,rfl⟩
theorem call_min2 (hc:X.calm=true):CallR X (.builtin "min") (fun xs H Q=>∃ i j,xs=[.int i,.int j]∧Q (.int (if j < i then j else i)) H):=by
  intro pins s σ H xs us Q I r h;obtain ⟨i,j,rfl,q⟩:=h;obtain ⟨u,w',rfl,⟨t,rfl⟩,⟨t',rfl⟩⟩:=vals2 r;refine min_two_ints (I.ok.hd hc) fun h' tk k=>⟨_,H,I.kept k,?_,q⟩;by_cases hj:j < i
  · rw [if_pos hj,if_pos hj]; exact ⟨_,rfl⟩
  · rw [if_neg hj,if_neg hj]; exact ⟨_,rfl⟩
theorem call_int1:CallR X (.type "int") (fun xs H Q=>(∃ i,xs=[.int i]∧Q (.int i) H)∨∃ k,xs=[.bl k]∧Q (.int (if k then 1 else 0)) H):=by
  intro pins s σ H xs us Q I r h;rcases h with ⟨i,rfl,q⟩ | ⟨k,rfl,q⟩
  · obtain ⟨u,rfl,t,rfl⟩:=vals1 r;exact call_int_int ⟨.int i,H,I,⟨_,rfl⟩,q⟩
  · obtain ⟨u,rfl,r1⟩:=vals1 r;cases r1;exact call_int_bool ⟨.int (if k then 1 else 0),H,I.tok _,⟨_,rfl⟩,q⟩
theorem call_str_int:CallR X (.type "str") (fun xs H Q=>∃ i,xs=[.int i]∧i.natAbs.log2 < 1920∧Q (.str (toString i)) H):=by
  intro pins s σ H xs us Q I r h;obtain ⟨i,rfl,hz,q⟩:=h;obtain ⟨u,rfl,t,rfl⟩:=vals1 r;exact PySem.P.str_of_int hz ⟨.str _,H,I.tok _,⟨_,rfl⟩,q⟩
def LenV (K:PySem.W.Frag) (x:V) (H:Hp) (n:Nat):Prop :=
  match x with
  | .str y=>y.length≤sizeLine∧n=y.length
  | .byt y=>y.size≤sizeLine∧n=y.size
  | .ref p=>(∃ xs,SqL K H p xs∧n=xs.length)∨∃ xs,SqT K H p xs∧n=xs.length
  | _=>False
theorem call_len:CallR X (.builtin "len") (fun xs H Q=>∃ x n,xs=[x]∧LenV X.K x H n∧Q (.int n) H):=by
  intro pins s σ H xs us Q I r h;obtain ⟨x,n,rfl,e,q⟩:=h;obtain ⟨u,rfl,rx⟩:=vals1 r;have hl:=line63;have hs:sizeLine=16777216:=sizeLine_eq;cases x with
  | str y =>
    obtain ⟨t,rfl⟩:=rx;obtain ⟨hy,e'⟩:y.length≤sizeLine∧n=y.length:=e;subst e';exact len_str (by omega) ⟨.int _,H,I.tok _,⟨_,rfl⟩,q⟩
  | byt y =>
    obtain ⟨t,rfl⟩:=rx;obtain ⟨hy,e'⟩:y.size≤sizeLine∧n=y.size:=e;subst e';exact PySem.W.len_bytes (by omega) ⟨.int _,H,I.tok _,⟨_,rfl⟩,q⟩
  | ref p =>
    cases rx;have e':(∃ xs,SqL X.K H p xs∧n=xs.length)∨∃ xs,SqT X.K H p xs∧n=xs.length:=e;rcases e' with ⟨xs,hx,e'⟩ | ⟨xs,hx,e'⟩
    · subst e';obtain ⟨its,r',pl,hz⟩:=I.list hx;have hlen:=r'.length;exact Calls.call_len_list pl.isList (by simp only [List.size_toArray]; omega) ⟨.int xs.length,H,I.tok _,⟨_,by simp only [List.size_toArray]; rw [hlen]⟩,q⟩
    · subst e';obtain ⟨its,r',pl,hz⟩:=I.tuple hx;have hlen:=r'.length;exact len_tuple pl (by simp only [List.size_toArray]; omega) ⟨.int xs.length,H,I.tok _,⟨_,by simp only [List.size_toArray]; rw [hlen]⟩,q⟩
  | _=>exact (show False from e).elim

end
end L2

namespace L2
open PySem PySem.Spec PyProof.Rows


structure ObjM (h:Heap) (x dx C:Addr) (mA:Str→Option Value):Prop where
  obj:h.get? x=some (PySem.W.instObj C dx)
  ns:h.Ns1 dx mA
  ne:dx≠x

theorem lookIn_ns {h:Heap} {dx:Addr} {mA:Str→Option Value} (n:h.Ns1 dx mA):∃ od,h.get? dx=some od∧∀ name,PySem.W.lookIn name od=some (mA name):=by
  obtain ⟨o,es,ep,ho,hd,hk,_,hm⟩:=n;refine ⟨o,ho,fun name => ?_⟩;have e:=hm name;unfold nsFind findBy at e;rw [← Array.find?_toList] at e;unfold PySem.W.lookIn;rw [hd];dsimp only
  split
  · rename_i y q
    rw [q] at e;exact congrArg some e
  · rename_i q
    rw [q] at e;have a:es.toList.any (·.refKey)=false:=by
      rw [List.any_eq_false];intro y hy;obtain ⟨z,t,hkey⟩:=hk y (Array.mem_toList_iff.mp hy);simp [DictEntry.refKey,hkey]
    have a':¬ es.toList.any (·.refKey)=true:=by rw [a]; exact Bool.false_ne_true
    rw [if_neg a'];exact congrArg some e

theorem ObjM.look {h:Heap} {x dx C:Addr} {mA:Str→Option Value} (I:ObjM h x dx C mA):∃ od,PySem.W.InstAt h x (PySem.W.instObj C dx) C (some od)∧∀ name,PySem.W.lookIn name od=some (mA name) :=
  let ⟨od,ho,hl⟩:=lookIn_ns I.ns
  ⟨od,⟨I.obj,rfl,rfl,ho⟩,hl⟩

section
variable {prog:Program} {w:World} {A:Around} {E:Value→Shared→Prop} {s:Shared} {K:PySem.W.Frag} {x dx C f:Addr} {mA:Str→Option Value} {name:Str} {v:Value}

end


theorem RelO.some_of {v:V} {o:Option Value} (r:RelO (some v) o):∃ u,o=some u∧RelV v u:=by
  cases o with
  | none=>exact (show False from r).elim
  | some u=>exact ⟨u,rfl,r⟩
section
variable {P:Program} {w:World} {H H':Hp} {h h':Heap} {a C dx:Addr} {fs fs':List (Str × V)}
theorem ins_get (hok:HOk P w H h) (e:H a=some (.ins C dx fs)):∃ mA,ObjM h a dx C mA∧(∀ f,RelO (fs.lookup f) (mA f))∧PySem.Within mA (fs.map (·.1))∧fs.length≤1000∧H dx=some (.own a):=by
  obtain ⟨d,z,ne,ob,mA,n,r,q⟩:=(show ObjOk P w H h a (.ins C dx fs) from hok a _ e);exact ⟨mA,⟨ob,n,ne⟩,r,q,z,d⟩
end


structure Cls (K:PySem.W.Frag) (C:Addr):Prop where
  pg:PySem.W.plainGet K C Str.empty=true
  hd:PySem.W.hasDictIn K C=true
  po:PySem.W.plainOver K C=true
  sa:PySem.W.findIn K (.ref C) "__setattr__" = some (some (.builtin "object.__setattr__"))
theorem Cls.get {K:PySem.W.Frag} {C:Addr} (c:Cls K C) (f:Str):PySem.W.plainGet K C f=true:=c.pg

section
variable {X:Cx} {pins:List (Addr × Obj)} {σ:St} {H:Hp} {s:Shared} {a C dx:Addr} {fs:List (Str × V)} {f:Str} {v:V} {A:Around} {E:Value→Shared→Prop}

end



section
variable {X:Cx} {o e value:Expr} {f:Str} {pos pos' tpos:Pos} {ta tv:TE}
end


section
variable {X:Cx} {pins:List (Addr × Obj)} {σ:St} {H:Hp} {s:Shared} {A:Around} {E:Value→Shared→Prop} {Q:Value→Shared→Prop} {c:Value} {b:Bool}

inductive TyOf (K:PySem.W.Frag) (H:Hp):V→Value→Prop where
  | non:TyOf K H .non (.type "NoneType")
  | bl (x:Bool):TyOf K H (.bl x) (.type "bool")
  | int (i:Int):TyOf K H (.int i) (.type "int")
  | str (x:Str):TyOf K H (.str x) (.type "str")
  | flt (x:UInt64):TyOf K H (.flt x) (.type "float")
  | lst {a:Addr} {xs:List V} (e:H a=some (.lst xs)):TyOf K H (.ref a) (.type "list")
  | frz {a:Addr} {o:Obj} {xs:List V} (e:H a=some (.frz o (.lst xs))):TyOf K H (.ref a) (.type "list")
  | tup {a:Addr} {xs:List V} (e:H a=some (.tup xs)):TyOf K H (.ref a) (.type "tuple")
  | dK {a:Addr} {kvs:List (Key × V)} (e:H a=some (.dK kvs)):TyOf K H (.ref a) (.type "dict")
  | dT {a:Addr} {kvs:List (List Key × V)} (e:H a=some (.dT kvs)):TyOf K H (.ref a) (.type "dict")
  | ins {a C dx:Addr} {fs:List (Str × V)} (e:H a=some (.ins C dx fs)) (cl:Cls K C) (ha:PySem.W.findIn K (.ref C) "__class__" = some (some (.builtin "object.__class__")))
      (hn:PySem.W.specialIn K (.builtin "object.__class__") "__get__" = some (some (.builtin "getset_descriptor.__get__"))) (htk:PySem.W.takesIn K (.builtin "object.__class__")=some true)
      (hm:PySem.W.mroIn K C (.type "object")=some true):TyOf K H (.ref a) (.ref C)

theorem isinst_ok {x:V} {u t:Value} (I:Inv X pins σ H s) (rx:RelV x u) (ty:TyOf X.K H x t) (e:PySem.W.kitOne X.K t c=some b) (h:∀ tk,Q (.bool b) { s with toks:=tk }) :
    wpAny (model X.prog X.w) A (call (.builtin "isinstance") [u,c]) Q E s:=by
  cases ty with
  | non=>cases (show u=Value.none from rx); exact PySem.W.kia_one PySem.W.kitx_none I.kIn True.intro e (fun z=>nomatch z) h
  | bl y=>cases (show u=Value.bool y from rx); exact PySem.W.kia_one PySem.W.kitx_bool I.kIn True.intro e (fun z=>nomatch z) h
  | int i=>obtain ⟨t,q⟩:=(show ∃ t,u=Value.int i t from rx); cases q; exact PySem.W.kia_one PySem.W.kitx_int I.kIn True.intro e (fun z=>nomatch z) h
  | str y=>obtain ⟨t,q⟩:=(show ∃ t,u=Value.str y t from rx); cases q; exact PySem.W.kia_one PySem.W.kitx_str I.kIn True.intro e (fun z=>nomatch z) h
  | flt y=>obtain ⟨t,q⟩:=(show ∃ t,u=Value.float y t from rx); cases q; exact PySem.W.kia_one PySem.W.kitx_float I.kIn True.intro e (fun z=>nomatch z) h
  | @lst a xs ea =>
    cases (show u=Value.ref a from rx);obtain ⟨_,_,n,_,h1⟩:=(show ObjOk X.prog X.w H s.heap a (.lst xs) from I.hok a _ ea);exact PySem.W.kia_one PySem.W.kitx_list I.kIn ⟨_,h1,rfl⟩ e (fun z=>nomatch z) h
  | @frz a ob xs ea =>
    cases (show u=Value.ref a from rx);obtain ⟨_,_,_,n,_,h1⟩:=(show ObjOk X.prog X.w H s.heap a (.frz ob (.lst xs)) from I.hok a _ ea);exact PySem.W.kia_one PySem.W.kitx_list I.kIn ⟨_,h1,rfl⟩ e (fun z=>nomatch z) h
  | @tup a xs ea =>
    cases (show u=Value.ref a from rx);obtain ⟨_,_,_,p⟩:=(show ObjOk X.prog X.w H s.heap a (.tup xs) from I.hok a _ ea);obtain ⟨o,h1,h2,_⟩:=p;exact PySem.W.kia_one PySem.W.kitx_tuple I.kIn ⟨o,h1,h2⟩ e (fun z=>nomatch z) h
  | @dK a kvs ea =>
    cases (show u=Value.ref a from rx);obtain ⟨_,_,vs,_,p⟩:=(show ObjOk X.prog X.w H s.heap a (.dK kvs) from I.hok a _ ea);obtain ⟨o,es,ep,h1,h2,_⟩:=p;exact PySem.W.kia_one PySem.W.kitx_dict I.kIn ⟨o,h1,h2.1⟩ e (fun z=>nomatch z) h
  | @dT a kvs ea =>
    cases (show u=Value.ref a from rx);obtain ⟨_,_,xs,_,o,es,ep,h1,h2,_⟩:=(show ObjOk X.prog X.w H s.heap a (.dT kvs) from I.hok a _ ea);exact PySem.W.kia_one PySem.W.kitx_dict I.kIn ⟨o,h1,h2.1⟩ e (fun z=>nomatch z) h
  | @ins a C dx fs ea cl ha hn htk hm =>
    cases (show u=Value.ref a from rx);obtain ⟨mA,O,_⟩:=ins_get I.hok ea;obtain ⟨od,J,_⟩:=O.look;exact PySem.W.kia_one (PySem.W.kitx_own (cl.get _) cl.hd ha hn htk hm) I.kIn J e (fun z=>nomatch z) h
end
end L2

namespace L2
open PySem PySem.Spec PyProof.Rows


structure Room (k:Nat) (A:Around):Prop where
  hd:A.handled=none
  dp:A.depth + 3 * k + 5 < recursionLimit
  un:A.units + 16 * k + 200 < cLine
theorem Room.mono {j k:Nat} {A:Around} (r:Room k A) (h:j≤k):Room j A:=⟨r.hd,by have:=r.dp; omega,by have:=r.un; omega⟩
theorem Room.deeper {k:Nat} {A:Around} (r:Room (k + 1) A) (env:Env):Room k (A.deeper env) :=
  ⟨r.hd,by have:=r.dp; show A.depth + 1 + 3 * k + 5 < _; omega,by have:=r.un; show A.units + 3 + 16 * k + 200 < _; omega⟩
theorem Room.depth {k:Nat} {A:Around} (r:Room k A):A.depth < recursionLimit:=by have:=r.dp; omega
theorem Room.units {k:Nat} {A:Around} (r:Room k A):A.units + 64 < cLine:=by have:=r.un; omega
def tNil:TA:=fun _ H Q=>Q [] H
def tCons (ta:TE) (tr:TA):TA:=fun σ H Q=>ta σ H fun x H1=>tr σ H1 fun xs H2=>Q (x::xs) H2
section
variable {X:Cx} {e:Expr} {es:List Expr} {te:TE} {t:TA} {pos:Pos}
theorem pa_nil:PA X [] tNil:=fun _ _ _ _ H Q I h=>Calls.spliced_nil ⟨[],H,I,.nil,h⟩
theorem pa_cons (ha:PE X e te) (hr:PA X es t) (hs:starEach (e::es) X.env=(false,eval e X.env)::starEach es X.env:=by rfl):PA X (e::es) (tCons te t):=by
  intro pos pins s σ H Q I h;rw [hs];show wpAny _ _ (spliced ((false,eval e X.env)::backTo pos (starEach es X.env))) _ _ s;refine Calls.spliced_cons (thn (ha pins s σ H _ I h) fun u s1 ⟨x,H1,I1,r1,q1⟩ => ?_);exact thn (hr pos pins s1 σ H1 _ I1 q1) fun us s2 ⟨xs,H2,I2,r2,q2⟩=>⟨x::xs,H2,I2,.cons r1 r2,q2⟩


def tTup (t:TA):TE:=fun σ H Q=>t σ H fun xs H1=>xs.length≤sizeLine∧∀ p,H1 p=none→Q (.ref p) (upd H1 p (.tup xs))
def tLst (t:TA):TE:=fun σ H Q=>t σ H fun xs H1=>xs.length≤sizeLine∧∀ p,H1 p=none→Q (.ref p) (upd H1 p (.lst xs))
theorem pe_tup {x1} (h:PA X es t):PE X (.Tuple es x1 pos) (tTup t):=by
  intro pins s σ H Q I hq;refine wpAny_Tuple_spliced (thn (h pos pins s σ H _ I hq) fun us s1 ⟨xs,H1,I1,r,z,q⟩=>⟨by rw [← r.length]; exact z,?_⟩);have hf:H1 s1.heap.objs.size=none:=I1.hok.fresh (Nat.le_refl _);refine ⟨.ref s1.heap.objs.size,upd H1 s1.heap.objs.size (.tup xs),I1.laid (t':=s1.toks) (fun b u e=>Heap.get?_push_of_some _ e) (Nat.le_refl _) ?_,rfl,q _ hf⟩;exact ⟨z,us,r,⟨_,Heap.get?_push_size _ rfl,rfl,_,rfl⟩⟩
theorem pe_lst (h:PA X es t):PE X (.List es pos) (tLst t):=by
  intro pins s σ H Q I hq;refine wpAny_List_spliced (thn (h pos pins s σ H _ I hq) fun us s1 ⟨xs,H1,I1,r,z,q⟩=>⟨by rw [← r.length]; exact z,?_⟩);have hf:H1 s1.heap.objs.size=none:=I1.hok.fresh (Nat.le_refl _);refine ⟨.ref s1.heap.objs.size,upd H1 s1.heap.objs.size (.lst xs),I1.laid (t':=s1.toks) (fun b u e=>Heap.get?_push_of_some _ e) (Nat.le_refl _) ?_,rfl,q _ hf⟩;exact ⟨z,us,0,r,Heap.get?_push_size _ rfl⟩
end



abbrev Sp:=List V→Hp→VK→XK→Prop

abbrev CXT:=List Env→Hp→Shared→XK→Value→Shared→Prop


structure Env0 (P:Program) (w:World) (K:PySem.W.Frag) (mg:Str→Option Value) (base:Heap) (A:Around) (outer:List Env) (s:Shared) (H:Hp):Prop where
  frames:A.frames=some outer
  mod:Mod K mg base
  bs:∀ b o,base.get? b=some o→s.heap.get? b=some o∧H b=none
  bsz:base.objs.size≤s.heap.objs.size
  funs:s.heap.FunFrames base outer
  frf:∀ b∈frs outer,H b=none
  hok:HOk P w H s.heap
  bare:AllBare s.gens

def CE (outer:List Env) (P:Program) (w:World) (H:Hp) (s:Shared) (Q:VK) (u:Value) (s':Shared):Prop :=
  ∃ v H',s'.os=s.os∧AllBare s'.gens∧Un (frs outer) [] H H' s.heap s'.heap∧HOk P w H' s'.heap∧RelV v u∧Q v H'
def CR (CX:CXT) (outer:List Env) (P:Program) (w:World) (H:Hp) (s:Shared) (Q:VK) (E:XK) (r:Result) (s':Shared):Prop :=
  match r with
  | .ok (.ret u)=>CE outer P w H s Q u s'
  | .ok _=>False
  | .error e=>CX outer H s E e s'
structure FnOk (P:Program) (w:World) (K:PySem.W.Frag) (mg:Str→Option Value) (base:Heap) (CX:CXT) (k:Nat) (f:Addr) (fd:FuncData) (ps:List Str) (sp:Sp):Prop where
  len:∀ vs H Q E,sp vs H Q E→vs.length=ps.length
  run:∀ (A:Around) (outer:List Env) (s:Shared) (H:Hp) (args:Args) (us:List Value) (vs:List V) (Q:VK) (E:XK),Room k A→Env0 P w K mg base A outer s H→BindsTo s fd args (ps.zip us)→Vals vs us→sp vs H Q E →
    codeAny (model P w) A (.call (.ref f) args) (CR CX outer P w H s Q E) s
section
variable {X:Cx} {pins:List (Addr × Obj)} {σ:St} {H:Hp} {s s':Shared}

theorem Inv.env0 (I:Inv X pins σ H s):Env0 X.prog X.w X.K X.mg X.base X.A X.stack s H :=
  ⟨I.ok.frames,I.ok.mod,I.bs,Nat.le_trans I.ok.bsz I.sz,I.stack,I.stkFree,I.hok,I.bare⟩

theorem Inv.after {Q:VK} {u:Value} (I:Inv X pins σ H s) (h:CE X.stack X.prog X.w H s Q u s'):EP X pins σ Q u s':=by
  obtain ⟨v,H',os,bare,un,hok,r,q⟩:=h;obtain ⟨hh,g,d,t,os'⟩:=s';obtain rfl:os'=s.os:=os;exact ⟨v,H',I.call (h':=hh) (g':=g) (d':=d) (t':=t) (ch:=[]) un hok bare (fun b z=>absurd z (by simp)),r,q⟩
end



def tCall (sp:Sp) (dvs:List V) (E:XK) (t:TA):TE:=fun σ H Q=>t σ H fun vs H1=>sp (vs++dvs) H1 Q E

def Binds (K:PySem.W.Frag) (fd:FuncData) (ps:List Str) (ds:List Value):Prop :=
  ∀ (s:Shared) (us:List Value),K.In s.heap→(us++ds).length=ps.length→BindsTo s fd ⟨us,[]⟩ (ps.zip (us++ds))

theorem Binds.all {K:PySem.W.Frag} {fd:FuncData} {ps:List Str} (h:∀ us:List Value,us.length=ps.length→bindArgs fd ⟨us,[]⟩=pure (ps.zip us)):Binds K fd ps []:=fun s us _ hl=>by
  rw [List.append_nil] at hl ⊢;exact .of_eq (h us hl)


def Passes (CX:CXT) (X:Cx) (E:XK):Prop:=∀ (pins:List (Addr × Obj)) (σ:St) (H:Hp) (s:Shared) (e:Value) (s':Shared),Inv X pins σ H s→CX X.stack H s E e s'→X.xe e s'

section
variable {X:Cx} {CX:CXT} {k:Nat} {f C:Addr} {fd:FuncData} {ps:List Str} {sp:Sp} {dvs:List V} {ds:List Value} {E:XK} {x m:Str} {p pos apos:Pos} {e o:Expr} {es:List Expr} {ta:TE} {t:TA}


theorem run_fn {pins:List (Addr × Obj)} {σ:St} {H:Hp} {s:Shared} {Q:VK} {us:List Value} {vs:List V} (F:FnOk X.prog X.w X.K X.mg X.base CX k f fd ps sp) (hr:Room k X.A) (hb:Binds X.K fd ps ds) (hd:Vals dvs ds) (hx:Passes CX X E)
    (I:Inv X pins σ H s) (r:Vals vs us) (h:sp (vs++dvs) H Q E):wpAny (model X.prog X.w) X.A (call (.ref f) us) (EP X pins σ Q) X.xe s:=by
  have r2:Vals (vs++dvs) (us++ds):=r.append hd;have hl:(us++ds).length=ps.length:=by rw [← r2.length]; exact F.len _ _ _ _ h
  refine wpAny_call (codeAny_mono (F.run X.A X.stack s H ⟨us,[]⟩ (us++ds) (vs++dvs) Q E hr I.env0 (hb s us I.kIn hl) r2 h) fun r s' hq => ?_);cases r with
  | error e=>exact hx pins σ H s e s' I hq
  | ok fl =>
    cases fl with
    | ret u=>exact I.after hq
    | next=>exact False.elim hq
    | brk=>exact False.elim hq
    | cont=>exact False.elim hq

theorem pe_call (F:FnOk X.prog X.w X.K X.mg X.base CX k f fd ps sp) (hr:Room k X.A) (hg:Gl X x) (hm:X.mg x=some (.ref f)) (hk:PySem.W.keepIn X.K (.ref f)=true) (hb:Binds X.K fd ps ds) (hd:Vals dvs ds) (hx:Passes CX X E)
    (ha:PA X (e::es) t) (hdb:(x == ("__debug__" : Str))=false:=by decide) (he:starEach (e::es) X.env=(false,eval e X.env)::starEach es X.env:=by rfl) (hpl:(backTo pos (starEach es X.env)).any (·.1)=false:=by rfl) :
    PE X (.Call (.Name x p) (e::es) [] pos) (tCall sp dvs E t):=by
  intro pins s σ H Q I h;refine wpAny_Call_Name_kw (ld_glob I hg hm ?_ hdb);refine PySem.W.callWith_K (h₀:=X.base) I.ok.mod.kin hk (thn (ha pos pins s σ H _ I h) fun us s1 ⟨vs,H1,I1,r,q⟩=>⟨I1.kIn,?_⟩) he hpl;exact run_fn F hr hb hd hx I1 r q
end



section
variable {X:Cx} {CX:CXT} {k:Nat} {f C:Addr} {fd:FuncData} {ps ks:List Str} {sp:Sp} {E:XK} {x m:Str} {p pos apos kpos:Pos} {e o:Expr} {es:List Expr} {kws:List Keyword} {te ta:TE} {t tk:TA} {nm:Option Str}
variable {g:List Value→List Value→List Value} {gV:List V→List V→List V}
end



structure FnScope (N P:List Str) (sc:Scope):Prop where
  kind:sc.kind=.function
  co:sc.isCoroutine=false
  gen:sc.isGenerator=false
  nd:N.Nodup
  pre:N.take P.length=P
  par:∀ x∈P,sc.names.lookup x=some .local∨sc.names.lookup x=some .cell
  nofree:∀ y∈sc.names,y.2≠.free

theorem bindL_out {kindOf:Str→Option NameKind} {x:Str}:∀ {binds:List (Str × Value)} {m:Str→Option Value},(∀ v,(x,v)∉binds)→bindL kindOf binds m x=m x
  | [],_,_=>rfl
  | (n,v)::r,m,h=>by
    unfold bindL;rw [bindL_out fun w hw=>h w (List.mem_cons_of_mem _ hw)]
    split
    · have:x≠n:=by rintro rfl; exact h v List.mem_cons_self
      simp [this]
    · rfl
theorem bindC_out {kindOf:Str→Option NameKind} {x:Str}:∀ {binds:List (Str × Value)} {m:Str→Option Value},(∀ v,(x,v)∉binds)→bindC kindOf binds m x=m x
  | [],_,_=>rfl
  | (n,v)::r,m,h=>by
    unfold bindC;rw [bindC_out fun w hw=>h w (List.mem_cons_of_mem _ hw)]
    split
    · rfl
    · have:x≠n:=by rintro rfl; exact h v List.mem_cons_self
      simp [this]
theorem bindL_get {kindOf:Str→Option NameKind} {x:Str} {v:Value}:∀ {P:List Str} {vs:List Value} {i:Nat} {m:Str→Option Value},P.Nodup→P[i]? = some x→vs[i]? = some v→kindOf x=some .local →
    bindL kindOf (P.zip vs) m x=some v
  | [],_,_,_,_,h,_,_=>by simp at h
  | _::_,[],_,_,_,_,h,_=>by simp at h
  | p::P,w::vs,0,m,nd,h1,h2,hk=>by
    simp at h1 h2; subst h1; subst h2;show bindL kindOf ((p,w)::P.zip vs) m p=_;unfold bindL;rw [bindL_out fun v hv=>(List.nodup_cons.mp nd).1 (List.of_mem_zip hv).1,if_pos hk];simp
  | p::P,w::vs,i + 1,m,nd,h1,h2,hk=>by
    show bindL kindOf ((p,w)::P.zip vs) m x=_;unfold bindL;exact bindL_get (i:=i) (List.nodup_cons.mp nd).2 (by simpa using h1) (by simpa using h2) hk
theorem bindC_get {kindOf:Str→Option NameKind} {x:Str} {v:Value}:∀ {P:List Str} {vs:List Value} {i:Nat} {m:Str→Option Value},P.Nodup→P[i]? = some x→vs[i]? = some v→kindOf x≠some .local →
    bindC kindOf (P.zip vs) m x=some v
  | [],_,_,_,_,h,_,_=>by simp at h
  | _::_,[],_,_,_,_,h,_=>by simp at h
  | p::P,w::vs,0,m,nd,h1,h2,hk=>by
    simp at h1 h2; subst h1; subst h2;show bindC kindOf ((p,w)::P.zip vs) m p=_;unfold bindC;rw [bindC_out fun v hv=>(List.nodup_cons.mp nd).1 (List.of_mem_zip hv).1,if_neg hk];simp
  | p::P,w::vs,i + 1,m,nd,h1,h2,hk=>by
    show bindC kindOf ((p,w)::P.zip vs) m x=_;unfold bindC;exact bindC_get (i:=i) (List.nodup_cons.mp nd).2 (by simpa using h1) (by simpa using h2) hk


def start (N:List Str) (vs:List V):St:=vs.map some++List.replicate (N.length - vs.length) none


def cxOf (CX:CXT) (P:Program) (w:World) (K:PySem.W.Frag) (mg:Str→Option Value) (base:Heap) (N:List Str) (qual:Str) (scope:Scope) (f:Addr) (cd:Value) (A:Around) (outer:List Env) (s:Shared) (H:Hp) (E:XK):Cx where
  prog:=P
  w:=w
  K:=K
  mg:=mg
  base:=base
  A:=A.deeper (envOfC qual scope s.heap.objs.size f cd)
  N:=N
  s₀:=s
  H₀:=H
  env:=envOfC qual scope s.heap.objs.size f cd
  outer:=outer
  stack:=envOfC qual scope s.heap.objs.size f cd::outer
  ex:=[]
  calm:=true
  fn:=fun _=>true
  pn:=[]
  xe:=fun e s'=>wpAny (model P w) (A.deeper (envOfC qual scope s.heap.objs.size f cd)) (leaving (envOfC qual scope s.heap.objs.size f cd) e) (fun _ s''=>CX outer H s E e s'') (fun e' s''=>CX outer H s E e' s'') s'

theorem cell_has {sc:Scope} {n:Nat} {x:Str} (h:sc.names.lookup x=some .cell):∃ c,(cellsFrom n sc.names []).lookup x=some c:=by
  have q:=PySem.W.cellsFrom_some sc.names n [] (.inl h);exact Option.isSome_iff_exists.mp q

theorem inv_start {CX:CXT} {P:Program} {w:World} {K:PySem.W.Frag} {mg:Str→Option Value} {base:Heap} {N ps:List Str} {qual:Str} {scope:Scope} {f:Addr} {cd:Value} {A:Around} {outer:List Env} {s s1:Shared} {H:Hp} {E:XK} {us:List Value} {vs:List V}
    (S:FnScope N ps scope) (hd:A.handled=none) (e0:Env0 P w K mg base A outer s H) (hl:vs.length=ps.length) (r:Vals vs us)
    (x:InCallC s s.heap.objs.size (bindL (envOfC qual scope s.heap.objs.size f cd).kindOf (ps.zip us) fun _=>none) (cellsFrom (s.heap.objs.size + 1) scope.names []) (bindC (envOfC qual scope s.heap.objs.size f cd).kindOf (ps.zip us) fun _=>none) s1) :
    Inv (cxOf CX P w K mg base N qual scope f cd A outer s H E) [] (start N vs) H s1:=by
  have hpl:ps.length≤N.length:=by have:=congrArg List.length S.pre; rw [List.length_take] at this; omega
  obtain ⟨h1,tk,rfl,hk⟩:=x.done;have noA:∀ b:Addr,b∉(cxOf CX P w K mg base N qual scope f cd A outer s H E).ex:=fun b z=>absurd (show b∈([]:List Addr) from z) (by simp);refine ⟨⟨e0.mod,S.kind,rfl,rfl,Nat.le_refl _,fun y z c h1 h2 => ?_,fun y hy => ?_,fun y c _ h => ?_,fun _=>hd,Around.frames_deeper e0.frames,.inr ⟨rfl,rfl⟩,fun b z=>absurd z (noA b),e0.bs,e0.bsz,fun b _ _=>noA b,fun b z=>absurd z (noA b),e0.funs,e0.frf⟩,
    rfl,e0.bare,Un.kept hk,⟨_,x.toInCall.ns,fun i y v h1 h2 h3 => ?_⟩,fun y c h=>⟨_,x.cell y c h⟩,e0.hok.fresh (Nat.le_refl _),fun y c h => ?_,fun p hp=>absurd (show p∈([]:List (Addr × Obj)) from hp) (by simp),e0.hok.kept hk,?_⟩
  · exact name_of_addr x.apart (PySem.mem_of_lookup h1) (PySem.mem_of_lookup h2)
  · have hy:scope.names.lookup y=some .cell∨scope.names.lookup y=some .free:=hy;rcases hy with hy | hy
    · exact cell_has hy
    · exact absurd rfl (S.nofree _ (PySem.mem_of_lookup hy))
  · exact Nat.le_of_lt (x.above y c (PySem.mem_of_lookup h))
  · have hi:i < vs.length:=by
      unfold start at h2;by_cases hi:i < vs.length
      · exact hi
      · rw [List.getElem?_append_right (by simpa using hi)] at h2;rw [List.getElem?_replicate] at h2
        split at h2 <;> cases h2
    have ha:vs[i]? = some v:=by
      unfold start at h2;rw [List.getElem?_append_left (by simpa using hi),List.getElem?_map] at h2;cases e:vs[i]? with
      | none=>rw [e] at h2; cases h2
      | some a=>rw [e] at h2; cases h2; rfl
    obtain ⟨u,hu,rv⟩:=r.get ha;have hp:ps[i]? = some y:=by
      rw [← S.pre,List.getElem?_take_of_lt (by omega)]; exact h1
    have ndP:ps.Nodup:=by rw [← S.pre]; exact S.nd.sublist (List.take_sublist _ _)
    refine ⟨u,rv,?_⟩;rcases S.par y (List.mem_of_getElem? hp) with k | k
    · exact .inl ⟨k,bindL_get ndP hp hu k⟩
    · obtain ⟨c,e⟩:=cell_has (n:=s.heap.objs.size + 1) k;refine .inr ⟨.inl k,c,e,?_⟩;have q:=x.cell y c e;rw [bindC_get ndP hp hu (by show scope.names.lookup y≠_; rw [k]; decide)] at q;exact q
  · exact e0.hok.fresh (Nat.le_of_lt (x.above y c (PySem.mem_of_lookup h)))
  · unfold start;show _=N.length;rw [List.length_append,List.length_map,List.length_replicate];omega


theorem fn_of {CX:CXT} {P:Program} {w:World} {K:PySem.W.Frag} {mg:Str→Option Value} {base:Heap} {k:Nat} {f:Addr} {name qual:Str} {params:Arguments} {body:List Stmt} {scope:Scope} {dV kV doc pm cdv ct oc:Value} {an od:Option Addr}
    {osl:Array (Option Value)} {N ps:List Str} {sp:Sp} (lk:K.lookup f=some ⟨oc,od,.func (PySem.W.fnOf name qual params body scope dV kV doc pm an cdv ct),osl⟩) (hcd:PySem.W.codeIn K cdv qual=true) (S:FnScope N ps scope)
    (len:∀ vs H Q E,sp vs H Q E→vs.length=ps.length)
    (hbody:∀ (A:Around) (outer:List Env) (s:Shared) (H:Hp) (vs:List V) (Q:VK) (E:XK),Room k (A.deeper (envOfC qual scope s.heap.objs.size f cdv))→sp vs H Q E →
      ∃ t,PSs (cxOf CX P w K mg base N qual scope f cdv A outer s H E) body t∧t { nx:=fun _ H'=>Q .non H',rt:=Q } (start N vs) H) :
    FnOk P w K mg base CX (k + 1) f (PySem.W.fnOf name qual params body scope dV kV doc pm an cdv ct) ps sp:=by
  refine ⟨len,fun A outer s H args us vs Q E hr e0 hb r hsp => ?_⟩;have hl:=len _ _ _ _ hsp;have KX:K.In s.heap:=e0.mod.kin.keeps fun b o e=>(e0.bs b o e).1;have lim:s.heap.NoLimit:=e0.mod.nolimit.keeps fun b o e=>(e0.bs b o e).1;have hkind:∀ y∈ps.zip us,scope.names.lookup y.1=some .local∨(scope.names.lookup y.1=some .cell∧((cellsFrom (s.heap.objs.size + 1) scope.names []).lookup y.1).isSome=true):=fun ⟨n,v⟩ hy=>by
    rcases S.par n (List.of_mem_zip hy).1 with q | q
    · exact .inl q
    · exact .inr ⟨q,PySem.W.cellsFrom_some _ _ _ (.inl q)⟩
  refine codeAny_call_function hr.depth (KX _ _ lk) rfl S.co S.gen rfl (PySem.W.codeRec_of KX hcd) (hb _ _ _ _ ?_);refine wpAny_newFunctionEnv_cells S.kind hkind fun env he s1 x => ?_;subst he;refine ⟨lim.keeps x.toInCall.keep,codeAny_func ?_⟩;obtain ⟨t,ht,hq⟩:=hbody A outer s H vs Q E (hr.deeper _) hsp;have I:Inv (cxOf CX P w K mg base N qual scope f cdv A outer s H E) [] (start N vs) H s1:=inv_start S hr.hd e0 hl r x;refine wpAny_mono (ht [] s1 (start N vs) H _ I hq) (fun fl s' hs => ?_) fun e s' hs=>hs;have fin:∀ {σ':St} {H':Hp} {v:V} {u:Value},Inv (cxOf CX P w K mg base N qual scope f cdv A outer s H E) [] σ' H' s'→RelV v u→Q v H'→CE outer P w H s Q u s' :=
    fun {σ' H' v u} J rv q=>⟨v,H',J.os,J.bare,J.base,J.hok,rv,q⟩
  cases fl with
  | ret u =>
    obtain ⟨v,σ',H',J,rv,q⟩:=hs;exact fin J rv q
  | next =>
    obtain ⟨σ',H',J,q⟩:=hs;exact fin (v:=V.non) (u:=Value.none) J rfl q
  | brk =>
    obtain ⟨_,_,_,q⟩:=hs;exact False.elim q
  | cont =>
    obtain ⟨_,_,_,q⟩:=hs;exact False.elim q
end L2

namespace L2
open PySem PySem.Spec PyProof.Rows
section
variable {X:Cx} {x:Str} {p pos:Pos} {e:Expr} {es:List Expr} {t:TA} {id T:String} {r:List V→Hp→VK→Prop}

def tCB (r:List V→Hp→VK→Prop) (t:TA):TE:=fun σ H Q=>t σ H fun vs H1=>r vs H1 Q

theorem pe_callB (hc:CallR X (.builtin id) r) (hg:Gl X x) (hm:X.mg x=none) (hv:bootBuiltins x=some (.builtin id)) (ha:PA X (e::es) t) (hn:x ≠ "__name__" := by decide) (hdb:(x == ("__debug__" : Str))=false:=by decide)
    (he:starEach (e::es) X.env=(false,eval e X.env)::starEach es X.env:=by rfl) (hpl:(backTo pos (starEach es X.env)).any (·.1)=false:=by rfl):PE X (.Call (.Name x p) (e::es) [] pos) (tCB r t):=by
  intro pins s σ H Q I h;refine wpAny_Call_Name_kw (ld_blt I hg hm hv ?_ hn hdb);exact PyProof.Rows.callWith_builtin1 (thn (ha pos pins s σ H _ I h) fun us s1 ⟨vs,H1,I1,r1,q1⟩=>hc pins s1 σ H1 vs us Q I1 r1 q1) he hpl

theorem pe_callTy (hc:CallR X (.type T) r) (hg:Gl X x) (hm:X.mg x=none) (hv:bootBuiltins x=some (.type T)) (ha:PA X (e::es) t) (hn:x ≠ "__name__" := by decide) (hdb:(x == ("__debug__" : Str))=false:=by decide)
    (he:starEach (e::es) X.env=(false,eval e X.env)::starEach es X.env:=by rfl) (hpl:(backTo pos (starEach es X.env)).any (·.1)=false:=by rfl):PE X (.Call (.Name x p) (e::es) [] pos) (tCB r t):=by
  intro pins s σ H Q I h;refine wpAny_Call_Name_kw (ld_blt I hg hm hv ?_ hn hdb);exact PyProof.Rows.callWith_type1 (thn (ha pos pins s σ H _ I h) fun us s1 ⟨vs,H1,I1,r1,q1⟩=>hc pins s1 σ H1 vs us Q I1 r1 q1) he hpl

end
end L2

namespace HT
open PySem PyProof.Rows


section
open PySem.SeqAt
open PySem.AutoSeq1 (wpAny_loadPart')
open PySem.MeetsSeq PySem.MeetsSeq2 PySem.MeetsSeq3

end

section
variable {prog:Program} {w:World} {A:Around} {E:Value→Shared→Prop} {s:Shared}

def sIx (n d:Nat):Option Int→Nat
  | none=>d
  | some v=>if v < 0 then (v + (n:Int)).toNat else min v.toNat n
end
end HT

namespace L2
open PySem PySem.Spec PyProof.Rows


abbrev TO:=St→Hp→(Option Int→Hp→Prop)→Prop

def PO (X:Cx) (e:Option Expr) (t:TO):Prop :=
  ∀ (pins:List (Addr × Obj)) (s:Shared) (σ:St) (H:Hp) (Q:Option Int→Hp→Prop),Inv X pins σ H s→t σ H Q →
    wpAny (model X.prog X.w) X.A (evalPart e X.env) (fun u s'=>∃ o H',Inv X pins σ H' s'∧IsPart u o∧Q o H') X.xe s
def tNoPart:TO:=fun _ H Q=>Q none H
def tPart (t:TE):TO:=fun σ H Q=>t σ H fun x H1=>∃ i,x=.int i∧Q (some i) H1

section
variable {X:Cx} {e:Expr} {te:TE} {lo hi:Option Expr} {tl th:TO} {pos p2:Pos}

theorem po_none:PO X none tNoPart:=by
  intro pins s σ H Q I h;rw [evalPart_none];exact wpAny_pure ⟨none,H,I,.none,h⟩
theorem po_some (h:PE X e te):PO X (some e) (tPart te):=by
  intro pins s σ H Q I hw;rw [evalPart_some];refine thn (h pins s σ H _ I hw) fun u s1 ⟨x,H1,I1,r1,q1⟩ => ?_;obtain ⟨i,rfl,q⟩:=q1;obtain ⟨t,rfl⟩:=r1;exact ⟨some i,H1,I1,.int i t,q⟩


def SlR (X:Cx) (r:V→Option Int→Option Int→Hp→VK→Prop):Prop :=
  ∀ (pins:List (Addr × Obj)) (s:Shared) (σ:St) (H:Hp) (x:V) (v vl vu:Value) (lo hi:Option Int) (sl:Addr) (Q:VK),Inv X pins σ H s→RelV x v→s.heap.IsSliceOf sl vl vu .none→IsPart vl lo→IsPart vu hi→r x lo hi H Q →
    ∃ T id,typeLookup (.type T) "__getitem__" = pure (some (.builtin id))∧s.TypeIs v T∧wpAny (model X.prog X.w) X.A (getItem v (.ref sl)) (EP X pins σ Q) X.xe s
def tSl (r:V→Option Int→Option Int→Hp→VK→Prop) (te:TE) (tl th:TO):TE:=fun σ H Q=>te σ H fun x H1=>tl σ H1 fun l H2=>th σ H2 fun u H3=>r x l u H3 Q

theorem pe_slice {r:V→Option Int→Option Int→Hp→VK→Prop} (hr:SlR X r) (he:PE X e te) (hl:PO X lo tl) (hu:PO X hi th):PE X (.Subscript e (.Slice lo hi none p2) pos) (tSl r te tl th):=by
  intro pins s σ H Q I h;refine Subscript_ (thn (he pins s σ H _ I h) fun v s1 ⟨x,H1,I1,r1,q1⟩ => ?_);refine wpAny_Slice (thn (hl pins s1 σ H1 _ I1 q1) fun vl s2 ⟨l,H2,I2,pl,q2⟩=>thn (hu pins s2 σ H2 _ I2 q2) fun vu s3 ⟨u,H3,I3,pu,q3⟩ => ?_);rw [evalPart_none];refine wpAny_pure ?_;have I4:Inv X pins σ H3 { s3 with heap:=s3.heap.push { cls:=.type "slice",data:=.fields #[vl,vu,.none] } }:=I3.kept (t':=s3.toks) fun b ob q=>Heap.get?_push_of_some _ q
  obtain ⟨T,id,hT,ht,hg⟩:=hr pins { s3 with heap:=s3.heap.push { cls:=.type "slice",data:=.fields #[vl,vu,.none] } } σ H3 x v vl vu l u s3.heap.objs.size Q I4 r1 (Heap.IsSliceOf.new ..) pl pu q3
  show wpAny (model X.prog X.w) X.A (subscriptTail e (.Slice lo hi none p2) v (.ref s3.heap.objs.size)) (EP X pins σ Q) X.xe { s3 with heap:=s3.heap.push { cls:=.type "slice",data:=.fields #[vl,vu,.none] } }
  exact tail_any (ops:=[.ref s3.heap.objs.size,v]) ht hT hg (by with_unfolding_all rfl)


def cutV (xs:List V) (lo hi:Option Int):List V:=(xs.drop (HT.sIx xs.length 0 lo)).take (HT.sIx xs.length xs.length hi - HT.sIx xs.length 0 lo)
theorem cutV_length (xs:List V) (lo hi:Option Int):(cutV xs lo hi).length≤xs.length:=by
  unfold cutV;rw [List.length_take,List.length_drop];omega

end
end L2

namespace L2
open PySem PySem.Spec PyProof.Rows



def ixN (n:Nat) (i:Int):Option Nat:=if 0≤i then (if i < n then some i.toNat else none) else if -(n:Int)≤i then some (i + n).toNat else none
def atI {α:Type} (xs:List α) (i:Int):Option α:=(ixN xs.length i).bind fun j=>xs[j]?
theorem ixN_seq {n:Nat} {i:Int} {j:Nat} (h:ixN n i=some j):seqIndex? i n=some j∧j < n∧-(n:Int)≤i∧i < n:=by
  unfold ixN at h;by_cases h0:0≤i
  · rw [if_pos h0] at h;by_cases h1:i < n
    · rw [if_pos h1] at h;have e:i.toNat=j:=Option.some.inj h;exact ⟨by rw [seqIndex_of h0 h1,e],by omega,by omega,h1⟩
    · rw [if_neg h1] at h; cases h
  · rw [if_neg h0] at h;by_cases h1:-(n:Int)≤i
    · rw [if_pos h1] at h;have e:(i + n).toNat=j:=Option.some.inj h;exact ⟨by rw [seqIndex_neg (by omega) h1,e],by omega,h1,by omega⟩
    · rw [if_neg h1] at h; cases h
theorem atI_get {α:Type} {xs:List α} {i:Int} {v:α} (h:atI xs i=some v):∃ j,seqIndex? i xs.length=some j∧xs[j]? = some v∧j < xs.length∧-(xs.length:Int)≤i∧i < xs.length:=by
  unfold atI at h;cases e:ixN xs.length i with
  | none=>rw [e] at h; cases h
  | some j =>
    rw [e] at h;obtain ⟨h1,h2,h3,h4⟩:=ixN_seq e;exact ⟨j,h1,h,h2,h3,h4⟩
theorem atI_nat {α:Type} {xs:List α} {j:Nat} {v:α} (h:xs[j]? = some v):atI xs (j:Int)=some v:=by
  have hj:j < xs.length:=(List.getElem?_eq_some_iff.mp h).1;have e:ixN xs.length (j:Int)=some j:=by
    unfold ixN;rw [if_pos (by omega),if_pos (by omega)]; simp
  unfold atI; rw [e]; exact h
def PlainIx (b:Expr):Prop:=∀ o i,subscripted b false o i=operate [o,i] (getItem o i)

def IxR (X:Cx) (r:R2):Prop :=
  ∀ (value slice:Expr) (pins:List (Addr × Obj)) (s:Shared) (σ:St) (H:Hp) (x y:V) (v u:Value) (Q:VK),Inv X pins σ H s→RelV x v→RelV y u→r x y H Q →
    subscripted slice false v u=operate [v,u] (getItem v u)→wpAny (model X.prog X.w) X.A (subscriptTail value slice v u) (EP X pins σ Q) X.xe s

def MtR (X:Cx) (id:String) (r:V→List V→Hp→VK→Prop):Prop :=
  ∀ (pins:List (Addr × Obj)) (s:Shared) (σ:St) (H:Hp) (x:V) (xs:List V) (v:Value) (us:List Value) (Q:VK),Inv X pins σ H s→RelV x v→Vals xs us→r x xs H Q →
    wpAny (model X.prog X.w) X.A (call (.builtin id) (v::us)) (EP X pins σ Q) X.xe s
section
variable {X:Cx} {a b:Expr} {ta tb:TE} {pos:Pos}
theorem pe_ix {r:R2} (hr:IxR X r) (ha:PE X a ta) (hb:PE X b tb) (hs:PlainIx b):PE X (.Subscript a b pos) (tOp r ta tb):=by
  intro pins s σ H Q I h;exact Subscript_ (binT ha hb I h fun v u s2 x y H2 I2 rx ry q=>hr a b pins s2 σ H2 x y v u Q I2 rx ry q (hs _ _))

def rIxL (K:PySem.W.Frag):R2:=fun x y H Q=>∃ p xs i v,x=.ref p∧y=.int i∧SqL K H p xs∧atI xs i=some v∧Q v H
def rIxT (K:PySem.W.Frag):R2:=fun x y H Q=>∃ p xs i v,x=.ref p∧y=.int i∧SqT K H p xs∧atI xs i=some v∧Q v H
def rIxS:R2:=fun x y H Q=>∃ z i c,x=.str z∧y=.int i∧z.length≤sizeLine∧atI z.cps.toList i=some c∧Q (.str ⟨#[c]⟩) H
theorem ix_list:IxR X (rIxL X.K):=by
  intro value slice pins s σ H x y v u Q I rx ry h hs;obtain ⟨p,xs,i,z,rfl,rfl,hq,he,q⟩:=h;cases rx;obtain ⟨t,rfl⟩:=ry;obtain ⟨its,r,pl,hz⟩:=I.list hq;obtain ⟨j,h1,h2,h3,h4,h5⟩:=atI_get he;obtain ⟨w,ew,rw'⟩:=r.get h2;have hl:=r.length;have hn:=line63;have fin:EP X pins σ Q w s:=⟨z,H,I,rw',q⟩;by_cases h0:0≤i
  · have hj:i.toNat=j:=by
      rw [seqIndex_of h0 h5] at h1;exact Option.some.inj h1
    exact item_listR pl.isList h0 (by omega) (by rw [hj]; simpa using ew) fin hs
  · have hj:(i + (its.toArray.size:Int)).toNat=j:=by
      rw [seqIndex_neg (by omega) h4] at h1;rw [List.size_toArray,← hl];exact Option.some.inj h1
    exact subscriptTail_builtinR (x:=w) pl.isList.typeIs slot_list_getitem.lookup
      (wpAny_getItem_list_neg (Q:=fun r s'=>r=w∧EP X pins σ Q r s') pl.isList (by omega) (by rw [List.size_toArray] <;> omega) (by omega) (by rw [hj]; simpa using ew) ⟨rfl,fin⟩) hs
theorem ix_tup:IxR X (rIxT X.K):=by
  intro value slice pins s σ H x y v u Q I rx ry h hs;obtain ⟨p,xs,i,z,rfl,rfl,hq,he,q⟩:=h;cases rx;obtain ⟨t,rfl⟩:=ry;obtain ⟨its,r,pl,hz⟩:=I.tuple hq;obtain ⟨j,h1,h2,h3,h4,h5⟩:=atI_get he;obtain ⟨w,ew,rw'⟩:=r.get h2;have hl:=r.length;have hn:=line63;have fin:EP X pins σ Q w s:=⟨z,H,I,rw',q⟩;exact subscriptTail_builtinR (x:=w) pl.typeIs slot_tuple_getitem.lookup
    (getItem_tuple (j:=j) (Q:=fun r s'=>r=w∧EP X pins σ Q r s') pl (by omega) (by omega) (by rw [List.size_toArray,← hl]; exact h1) (by simpa using ew) ⟨rfl,fin⟩) hs
theorem ix_str:IxR X rIxS:=by
  intro value slice pins s σ H x y v u Q I rx ry h hs;obtain ⟨z,i,c,rfl,rfl,hz,he,q⟩:=h;obtain ⟨t,rfl⟩:=rx;obtain ⟨t',rfl⟩:=ry;obtain ⟨j,h1,h2,h3,h4,h5⟩:=atI_get he;have hl:z.cps.toList.length=z.length:=by simp [Str.length]
  rw [hl] at h1 h4 h5;have hn:=line63;exact tail_any (typeIs_str s z t) slot_str_getitem.lookup (getItem_str (c:=c) (by
    have e1:decide (i < -(2 ^ 63:Int))=false:=decide_eq_false (by omega);have e2:decide (i ≥ 2 ^ 63)=false:=decide_eq_false (by omega);rw [e1,e2,Bool.or_false]) (by rw [h1]; simpa using h2) ⟨.str ⟨#[c]⟩,H,I.tok _,⟨_,rfl⟩,q⟩) hs

theorem slice_bounds (lo hi:Option Int) (n:Nat):(sliceBounds lo hi none n).1=((HT.sIx n 0 lo:Nat):Int)∧(sliceBounds lo hi none n).2.1=((HT.sIx n n hi:Nat):Int)∧(sliceBounds lo hi none n).2.2=1:=by
  refine ⟨?_,?_,rfl⟩
  · cases lo with
    | none=>simp [sliceBounds,HT.sIx]
    | some i =>
      simp only [sliceBounds,HT.sIx,Option.getD_none,show (1:Int) > 0 by decide,if_true];by_cases h:i < 0
      · simp only [h,if_true] <;> omega
      · simp only [h,if_false] <;> omega
  · cases hi with
    | none=>simp [sliceBounds,HT.sIx]
    | some i =>
      simp only [sliceBounds,HT.sIx,Option.getD_none,show (1:Int) > 0 by decide,if_true];by_cases h:i < 0
      · simp only [h,if_true] <;> omega
      · simp only [h,if_false] <;> omega
theorem slicePick_cut (its:List Value) (lo hi:Option Int):slicePick its.toArray lo hi none=((its.drop (HT.sIx its.length 0 lo)).take (HT.sIx its.length its.length hi - HT.sIx its.length 0 lo)).toArray:=by
  obtain ⟨h1,h2,h3⟩:=slice_bounds lo hi its.toArray.size;unfold slicePick;rw [h1,h2,h3];simp only [sliceRange_one,pick_run,List.size_toArray] <;> rfl

def rSlL (K:PySem.W.Frag):V→Option Int→Option Int→Hp→VK→Prop:=fun x lo hi H Q=>∃ a xs,x=.ref a∧SqL K H a xs∧∀ p,H p=none→Q (.ref p) (upd H p (.lst (cutV xs lo hi)))
theorem sl_list:SlR X (rSlL X.K):=by
  intro pins s σ H x v vl vu lo hi sl Q I rx hs pl pu h;obtain ⟨a,xs,rfl,hx,q⟩:=h;cases rx;obtain ⟨its,r,ht,hz⟩:=I.list hx;have hlen:=r.length;refine ⟨"list",_,slot_list_getitem.lookup,ht.isList.typeIs,?_⟩
  refine wpAny_getItem_list_slice ht.isList hs pl pu .none (by simp) ?_ (by rw [List.size_toArray] <;> omega);rw [slicePick_cut,← hlen];refine ⟨.ref s.heap.objs.size,_,I.laid (t':=s.toks) (o:=.lst (cutV xs lo hi)) (fun b ob q=>Heap.get?_push_of_some _ q) (Nat.le_refl _) ?_,rfl,q _ (I.hok.fresh (Nat.le_refl _))⟩;exact ⟨Nat.le_trans (cutV_length xs lo hi) hz,_,0,(r.drop (HT.sIx xs.length 0 lo)).take (HT.sIx xs.length xs.length hi - HT.sIx xs.length 0 lo),Heap.get?_push_size _ rfl⟩


def flatV:V→Bool
  | .non=>true
  | .bl _=>true
  | .int _=>true
  | .str _=>true
  | _=>false

def eqV:V→V→Bool
  | .non,.non=>true
  | .bl a,.bl b=>a == b
  | .bl a,.int b=>(if a then 1 else 0) == b
  | .int a,.bl b=>a == (if b then 1 else 0)
  | .int a,.int b=>a == b
  | .str a,.str b=>a == b
  | _,_=>false
theorem eqAt_V {A:Around} {s:Shared} {y x:V} {u v:Value} (ry:RelV y u) (rx:RelV x v) (fy:flatV y=true) (fx:flatV x=true):SeqAt.EqAt A s u v (eqV y x):=by
  cases y with
  | non =>
    cases ry;cases x with
    | non=>cases rx; exact SeqAt.EqAt.same _
    | bl b=>cases rx; exact SeqAt.EqAt.none_bool b
    | int b=>obtain ⟨t,rfl⟩:=rx; exact SeqAt.EqAt.none_int b t
    | str b=>obtain ⟨t,rfl⟩:=rx; exact SeqAt.EqAt.none_str b t
    | _=>exact absurd (show false=true from fx) Bool.false_ne_true
  | bl a =>
    cases ry;cases x with
    | non=>cases rx; exact SeqAt.EqAt.bool_none a
    | bl b=>cases rx; exact SeqAt.EqAt.bool_bool a b
    | int b=>obtain ⟨t,rfl⟩:=rx; exact SeqAt.EqAt.bool_int a b t
    | str b=>obtain ⟨t,rfl⟩:=rx; exact SeqAt.EqAt.bool_str a b t
    | _=>exact absurd (show false=true from fx) Bool.false_ne_true
  | int a =>
    obtain ⟨t',rfl⟩:=ry;cases x with
    | non=>cases rx; exact SeqAt.EqAt.int_none a t'
    | bl b=>cases rx; exact SeqAt.EqAt.int_bool a t' b
    | int b=>obtain ⟨t,rfl⟩:=rx; exact SeqAt.EqAt.int_int a t' b t
    | str b=>obtain ⟨t,rfl⟩:=rx; exact SeqAt.EqAt.int_str a t' b t
    | _=>exact absurd (show false=true from fx) Bool.false_ne_true
  | str a =>
    obtain ⟨t',rfl⟩:=ry;cases x with
    | non=>cases rx; exact SeqAt.EqAt.str_none a t'
    | bl b=>cases rx; exact SeqAt.EqAt.str_bool a t' b
    | int b=>obtain ⟨t,rfl⟩:=rx; exact SeqAt.EqAt.str_int a t' b t
    | str b=>obtain ⟨t,rfl⟩:=rx; exact SeqAt.EqAt.str_str a t' b t
    | _=>exact absurd (show false=true from fx) Bool.false_ne_true
  | _=>exact absurd (show false=true from fy) Bool.false_ne_true

def eqU (x:V) (u:Value):Bool:=match u with
  | .none=>eqV .non x
  | .bool b=>eqV (.bl b) x
  | .int i _=>eqV (.int i) x
  | .str z _=>eqV (.str z) x
  | _=>false
theorem eqU_of {x y:V} {u:Value} (r:RelV y u) (f:flatV y=true):eqU x u=eqV y x:=by
  cases y with
  | non=>cases r; rfl
  | bl b=>cases r; rfl
  | int i=>obtain ⟨t,rfl⟩:=r; rfl
  | str z=>obtain ⟨t,rfl⟩:=r; rfl
  | _=>exact absurd (show false=true from f) Bool.false_ne_true
theorem any_eqU {x:V}:∀ {xs:List V} {us:List Value},Vals xs us→xs.all flatV=true→us.any (eqU x)=xs.any fun y=>eqV y x
  | _,_,.nil,_=>rfl
  | y::xs,u::us,.cons r t,f=>by
    rw [List.all_cons,Bool.and_eq_true] at f;rw [List.any_cons,List.any_cons,eqU_of r f.1,any_eqU t f.2]
theorem mem_eqAt {A:Around} {s:Shared} {x:V} {v:Value} (rx:RelV x v) (fx:flatV x=true):∀ {xs:List V} {us:List Value},Vals xs us→xs.all flatV=true→∀ u∈us,SeqAt.EqAt A s u v (eqU x u)
  | _,_,.nil,_=>fun u hu=>by cases hu
  | y::xs,u::us,.cons r t,f=>fun u' hu=>by
    rw [List.all_cons,Bool.and_eq_true] at f;rcases List.mem_cons.mp hu with rfl | hu
    · rw [eqU_of r f.1]; exact eqAt_V r rx f.1 fx
    · exact mem_eqAt rx fx t f.2 u' hu
def inV (x:V) (xs:List V):Bool:=xs.any fun y=>eqV y x

def rIn (K:PySem.W.Frag) (neg:Bool):R2:=fun x y H Q=>∃ p xs,y=.ref p∧(SqL K H p xs∨SqT K H p xs)∧flatV x=true∧xs.all flatV=true∧Q (.bl (if neg then !inV x xs else inV x xs)) H
theorem op_in_seq:OpR X (compareOp .In) (rIn X.K false):=by
  intro pins s σ H x y v u Q I rx ry h;obtain ⟨p,xs,rfl,hq,fx,fs,q⟩:=h;cases ry;rcases hq with hq | hq
  · obtain ⟨its,r,pl,hz⟩:=I.list hq;refine SeqAt.in_listAt (eqU x) pl.isList (fun w hw=>mem_eqAt rx fx r fs w (by simpa using hw)) ⟨.bl _,H,I,rfl,?_⟩;rw [show its.toArray.any (eqU x)=its.any (eqU x) by simp,any_eqU r fs];exact q
  · obtain ⟨its,r,pl,hz⟩:=I.tuple hq;refine SeqAt.in_tupleAt (eqU x) pl (fun w hw=>mem_eqAt rx fx r fs w (by simpa using hw)) ⟨.bl _,H,I,rfl,?_⟩;rw [show its.toArray.any (eqU x)=its.any (eqU x) by simp,any_eqU r fs];exact q
def tyV (K:PySem.W.Frag) (T:String) (x:V) (H:Hp):Prop:=match x with
  | .str _=>T = "str"
  | .int _=>T = "int"
  | .ref p=>(T = "list" ∧ ∃ xs,SqL K H p xs)∨(T = "tuple" ∧ ∃ o,K.lookup p=some o∧o.cls=.type "tuple" ∧ o.dict=none) ∨
      (T = "dict" ∧ ((∃ kvs,H p=some (.dK kvs))∨∃ kvs,H p=some (.dT kvs)))∨(T = "set" ∧ ∃ S n,H p=some (.set S n))
  | _=>False
theorem tyV_is {pins:List (Addr × Obj)} {σ:St} {H:Hp} {s:Shared} {T:String} {x:V} {v:Value} (I:Inv X pins σ H s) (r:RelV x v) (ty:tyV X.K T x H) :
    s.TypeIs v T∧∀ a,v=.ref a→∃ ob,s.heap.get? a=some ob∧ob.dict=none:=by
  cases x with
  | str z =>
    obtain ⟨t,rfl⟩:=r;cases (show T = "str" from ty)
    exact ⟨typeIs_str s z t,fun _ e=>nomatch e⟩
  | int i =>
    obtain ⟨t,rfl⟩:=r;cases (show T = "int" from ty)
    exact ⟨typeIs_int s i t,fun _ e=>nomatch e⟩
  | ref p =>
    cases r;rcases ty with ⟨rfl,xs,hq⟩ | ⟨rfl,o,hk,hc,hd⟩ | ⟨rfl,hk⟩ | ⟨rfl,S,n,hk⟩
    · obtain ⟨its,_,pl,_⟩:=I.list hq;refine ⟨pl.isList.typeIs,fun a e => ?_⟩;cases e;obtain ⟨o,n,e,c,hd,_⟩:=pl;exact ⟨o,e,hd⟩
    · refine ⟨⟨o,I.kIn p o hk,hc⟩,fun a e => ?_⟩;cases e;exact ⟨o,I.kIn _ o hk,hd⟩
    · have z:∃ o,s.heap.get? p=some o∧o.ExactDict:=by
        rcases hk with ⟨kvs,hk⟩ | ⟨kvs,hk⟩
        · obtain ⟨_,_,_,_,o,_,_,e,ex,_⟩:=I.hok p _ hk;exact ⟨o,e,ex⟩
        · obtain ⟨_,_,_,_,o,_,_,e,ex,_⟩:=I.hok p _ hk;exact ⟨o,e,ex⟩
      obtain ⟨o,e,ex⟩:=z;refine ⟨⟨o,e,ex.1⟩,fun a e2 => ?_⟩;cases e2;exact ⟨o,e,ex.2.1⟩
    · obtain ⟨o,_,_,_,e,ex,_⟩:=I.hok p _ hk;refine ⟨⟨o,e,ex.1⟩,fun a e2 => ?_⟩;cases e2;exact ⟨o,e,ex.2.1⟩
  | _=>exact False.elim ty
def tBM (K:PySem.W.Frag) (T:String) (r:V→List V→Hp→VK→Prop) (to:TE) (t:TA):TE:=fun σ H Q=>to σ H fun x H1=>tyV K T x H1∧t σ H1 fun xs H2=>r x xs H2 Q
variable {o e:Expr} {es:List Expr} {to:TE} {t:TA} {name:Str} {apos cpos:Pos} {T id:String} {r:V→List V→Hp→VK→Prop}
theorem pe_bm (pa:PlainAttrs T) (slot:Slot T name id) (hty:typeOf (.builtin id)=pure (.type "method_descriptor")) (hm:MtR X id r) (ho:PE X o to) (ha:PA X (e::es) t)
    (hbase:attributeBase o name X.env (eval o X.env)=eval o X.env:=by rfl)
    (hfew:((backTo cpos (starEach (e::es) X.env)).all (fun x => !x.1) && (backToKw cpos (keywordEach [] X.env)).all (fun x=>x.1.isSome)
      && decide ((e::es).length + ([]:List Keyword).length + (if ([]:List Keyword).isEmpty then 0 else 1) < 30))=true:=by rfl)
    (hline:(apos.endLine == cpos.line)=true:=by rfl) (hs:starEach (e::es) X.env=(false,eval e X.env)::starEach es X.env:=by rfl) (hplain:(backTo cpos (starEach es X.env)).any (·.1)=false:=by rfl) :
    PE X (.Call (.Attribute o name apos) (e::es) [] cpos) (tBM X.K T r to t):=by
  intro pins s σ H Q I h;refine wpAny_Call_method_late hbase hfew hline rfl (thn (ho pins s σ H _ I h) fun v s1 ⟨x,H1,I1,r1,ty,q1⟩ => ?_);obtain ⟨h1,h2⟩:=tyV_is I1 r1 ty;refine ⟨T,id,pa,slot,hty,h1,h2,?_⟩;have hA:=ha cpos pins s1 σ H1 _ I1 q1;rw [hs] at hA ⊢;refine Calls.callWith_builtin (by show (false || (backTo cpos (starEach es X.env)).any (·.1))=false; rw [hplain] <;> rfl) (Calls.evalArgs_plain ?_);exact thn hA fun us s2 ⟨vs,H2,I2,r2,q2⟩=>hm pins s2 σ H2 x vs v us Q I2 r1 r2 q2

end
end L2

namespace L2
open PySem PySem.Spec PyProof.Rows

def MtM (X:Cx) (id:String) (r:V→List V→Hp→VK→Prop):Prop :=
  ∀ (pins:List (Addr × Obj)) (s:Shared) (σ:St) (H:Hp) (x:V) (xs:List V) (v:Value) (us:List Value) (Q:VK),Inv X pins σ H s→RelV x v→Vals xs us→r x xs H Q →
    wpAny (model X.prog X.w) X.A (call (.builtin id) (v::us)) (EP X pins σ Q) X.xe s


theorem Vals.one:∀ {x:V} {us:List Value},Vals [x] us→∃ u,us=[u]∧RelV x u
  | _,_,.cons r .nil=>⟨_,rfl,r⟩
section
variable {X:Cx} {pins:List (Addr × Obj)} {σ:St} {H:Hp} {s:Shared} {l b:Addr} {xs ys zs:List V}


theorem Inv.lset {its its':List Value} {n:Nat} {f:Array Value→Array Value} {t':Nat} (I:Inv X pins σ H s) (hH:H l=some (.lst xs))
    (e:s.heap.get? l=some { cls:=.type "list",data:=.seq its.toArray n }) (hf:f its.toArray=its'.toArray) (hv:Vals ys its') (hz:ys.length≤sizeLine) :
    Inv X pins σ (upd H l (.lst ys)) { s with heap:=s.heap.update l (Obj.mapSeq f),toks:=t' }:=by
  have q:=PySem.IsL.update e f;rw [hf] at q;refine I.write (x:=l) (e:=l) (by rw [hH]; exact trivial) (.inl rfl) (fun b' u hb hu=>(Heap.get?_update_other s.heap (Obj.mapSeq f) (Ne.symm hb)).trans hu) ⟨_,q⟩ ?_;exact ⟨hz,its',_,hv,q⟩
theorem Inv.lnew {its:List Value} {t':Nat} (I:Inv X pins σ H s) (hv:Vals ys its) (hz:ys.length≤sizeLine) :
    Inv X pins σ (upd H s.heap.objs.size (.lst ys)) { s with heap:=s.heap.push { cls:=.type "list",data:=.seq its.toArray },toks:=t' } :=
  I.laid (fun _ _ q=>Heap.get?_push_of_some _ q) (Nat.le_refl _) ⟨hz,its,0,hv,Heap.get?_push_size _ rfl⟩
theorem Inv.fresh (I:Inv X pins σ H s):H s.heap.objs.size=none:=I.hok.fresh (Nat.le_refl _)
theorem Inv.lstM (I:Inv X pins σ H s) (hH:H l=some (.lst xs)):xs.length≤sizeLine∧∃ (its:List Value) (n:Nat),Vals xs its∧xs.length=its.length∧s.heap.get? l=some { cls:=.type "list",data:=.seq its.toArray n }:=by
  obtain ⟨z,its,n,r,e⟩:=I.hok l _ hH;exact ⟨z,its,n,r,r.length,e⟩

theorem notLongL {n:Nat} (h:n≤sizeLine):Builtin.List.listTooLong n=false:=by
  unfold Builtin.List.listTooLong;exact decide_eq_false (by omega)
end

section
variable {X:Cx}


def rAppend:V→List V→Hp→VK→Prop:=fun x vs H Q=>∃ l xs y,x=.ref l∧vs=[y]∧H l=some (.lst xs)∧xs.length < sizeLine∧Q .non (upd H l (.lst (xs++[y])))
theorem mt_append:MtM X "list.append" rAppend:=by
  intro pins s σ H x vs v us Q I rx rv h;obtain ⟨l,xs,y,rfl,rfl,hH,hz,q⟩:=h;cases rx;obtain ⟨u,rfl,ru⟩:=rv.one;obtain ⟨z,its,n,r,hl,e⟩:=I.lstM hH;refine call_meets F.slot_list_append ⟨_,e,rfl⟩ F.entry_list_append (F.args_list_append_2 _ _) (PySem.list_append l its.toArray n u (by rw [List.size_toArray]; omega)) ⟨e,?_⟩;refine ⟨.non,_,I.lset (its':=its++[u]) hH e (by simp) (r.append (.cons ru .nil)) ?_,rfl,q⟩;rw [List.length_append,List.length_singleton];omega

def rExtend:V→List V→Hp→VK→Prop:=fun x vs H Q=>∃ l b xs zs,x=.ref l∧vs=[.ref b]∧H l=some (.lst xs)∧H b=some (.lst zs)∧xs.length + zs.length≤sizeLine∧Q .non (upd H l (.lst (xs++zs)))
theorem mt_extend:MtM X "list.extend" rExtend:=by
  intro pins s σ H x vs v us Q I rx rv h;obtain ⟨l,b,xs,zs,rfl,rfl,hH,hB,hz,q⟩:=h;cases rx;obtain ⟨u,rfl,ru⟩:=rv.one;cases ru;obtain ⟨z,its,n,r,hl,e⟩:=I.lstM hH;obtain ⟨z2,its2,n2,r2,hl2,e2⟩:=I.lstM hB;have hsz:its.toArray.size + its2.toArray.size≤sizeLine:=by rw [List.size_toArray,List.size_toArray]; omega
  have hlong:¬ (!its.toArray.isEmpty && Builtin.List.listTooLong (its.toArray.size + its2.toArray.size))=true:=by
    rw [notLongL hsz,Bool.and_false];exact Bool.false_ne_true
  refine call_meets F.slot_list_extend ⟨_,e,rfl⟩ F.entry_list_extend (F.args_list_extend_2 _ _)
    (AutoSeq1.list_extend_list_list_0 l its.toArray n b its2.toArray n2 hlong (by rw [List.size_toArray]; omega) (by omega)) ⟨e,e2,?_⟩
  refine ⟨.non,_,I.lset (its':=its++its2) hH e (by simp) (r.append r2) ?_,rfl,q⟩;rw [List.length_append];omega

def rCat:R2:=fun x y H Q=>∃ l b xs zs,x=.ref l∧y=.ref b∧H l=some (.lst xs)∧H b=some (.lst zs)∧xs.length + zs.length≤sizeLine∧∀ p,H p=none→Q (.ref p) (upd H p (.lst (xs++zs)))
theorem op_cat:OpR X (binaryOp .Add) rCat:=by
  intro pins s σ H x y v u Q I rx ry h;obtain ⟨l,b,xs,zs,rfl,rfl,hH,hB,hz,q⟩:=h;cases rx;cases ry;obtain ⟨z,its,n,r,hl,e⟩:=I.lstM hH;obtain ⟨z2,its2,n2,r2,hl2,e2⟩:=I.lstM hB;refine PySem.P.add_list e e2 ?_ (by rw [List.size_toArray,List.size_toArray]; omega);have ea:its.toArray++its2.toArray=(its++its2).toArray:=by simp
  rw [ea];exact ⟨.ref _,_,I.lnew (t':=s.toks) (r.append r2) (by rw [List.length_append]; omega),rfl,q _ I.fresh⟩

end


section
variable {prog:Program} {w:World} {A:Around} {E:Value→Shared→Prop} {s:Shared}
set_option maxRecDepth 100000 in

end

section
variable {X:Cx}

end
end L2

namespace Att
open PySem PySem.W PySem.Calls PyProof.Rows


theorem ints_of_wellAll {P:Params} {h:Heap}:∀ (ns:List Int) (vs:List Value),WellAll P h vs (ns.map WData.int)→IntsAre vs ns:=by
  intro ns
  induction ns with
  | nil =>
    intro vs w;rw [List.map_nil] at w;cases w;exact .nil
  | cons n ns ih =>
    intro vs w;rw [List.map_cons] at w;cases w with
    | cons a b =>
      cases a;exact .cons _ _ (ih _ b)

theorem script_of {l:OpenLaw} {n:Nat} (hn:l.most=some n) {P:Params} {h:Heap} {args:List WData} {vals:List Value}
    (hpre:l.row.toRowW.claim.pre args=true) (hwl:WellAll P h vals args) :
    ∃ a vs ns,vals=[Value.ref a]∧args=[WData.list (ns.map WData.int)]∧h.get? a=some { cls:=.type "list",data:=.seq vs.toArray }∧IntsAre vs ns∧ns.length≤n:=by
  have hsh:WShape.hasAll [] args [.list .int]=true:=(pre_splitW hpre).1;have hc:l.pre.holds [] { args:=args }=true:=(pre_splitW hpre).2;obtain ⟨d,r,rfl,h1,h2⟩:=hasAllW_cons hsh;obtain rfl:=hasAllW_nil h2;obtain ⟨xs,rfl,h3⟩:=hasW_list h1;obtain ⟨ns,rfl⟩:=items_int h3;have hlen:ns.length≤n:=by
    unfold OpenLaw.pre at hc;have h4:(WTm.not (.lt (.lit (.int (n:Int))) (.len (.arg 0)))).holds [] { args:=[.list (ns.map .int)] }=true:=by
      have h4:=(holds_andW hc).1;rw [hn] at h4;exact h4
    have h5:=condW_of h4 (w_not (w_lt w_lit (w_len_list (w_arg rfl))));rw [List.length_map] at h5;refine Nat.le_of_not_lt fun q => ?_;have q':(n:Int) < ((ns.length:Nat):Int):=by omega
    first
      | (rw [decide_eq_true q'] at h5; exact absurd h5 (by decide))
      | (simp at h5; omega)
  cases hwl with
  | cons w1 w2 =>
    cases w2;cases w1 with
    | list ho hall=>exact ⟨_,_,ns,rfl,rfl,ho,ints_of_wellAll ns _ hall,hlen⟩

theorem post_true (l:OpenLaw) (args:List WData):l.row.toRowW.claim.post args (.bool true) args=true :=
  postW_of (r:=l.row.toRowW) (X:=(true == true))
    (show WShape.has [] (.bool true) .bool=true by first | rfl | decide | simp [WShape.has,WShape.arms,WShape.armsAll])
    (show (WTm.eq .res (.lit (.bool true))).value [] { args:=args,res:=some (.bool true),after:=args }=some (.bool (true == true)) from w_eq_bool (w_res rfl) w_lit) rfl


theorem attach_call {l:OpenLaw} {n:Nat} {q:Program} {loose:List Str} {XP:(Str→Option Value)→Heap→Prop} {YP:World→Heap→Prop} {d:DefRec}
    (hn:l.most=some n) (hdf:d.params.defaults=[])
    (call:∀ (w:World) (s₀ s₁:Shared) (mg mb:Str→Option Value) (fa:Addr) (o:Obj) (pm cd doc:Value) (a:Addr) (vs:List Value) (ns:List Int),
      Ground q loose [] XP w s₀ mg mb s₁.heap→YP w s₁.heap →
      s₁.heap.get? fa=some o→o.data=.func (docDef d.name d.params d.body d.scope pm cd doc)→s₁.heap.CodeRec cd d.name→mg d.name=some (.ref fa) →
      s₁.heap.get? a=some { cls:=.type "list",data:=.seq vs.toArray }→IntsAre vs ns→ns.length≤n→s₁.gens = #[] →
      codeAny (model l.prog w) callerA (.call (.ref fa) ⟨[.ref a],[]⟩) (fun r s'=>r=.ok (.ret (.bool true))∧OldK s₁.heap s'.heap∧s'.os=s₁.os∧AllBare s'.gens) s₁) :
    WalkO q loose XP YP l.row.toRowW d [] (fun f vs=>PySem.call f vs):=by
  intro w s₀ s₁ mg mb G Y fa o pm cd doc dV kV ho hd hcd hD hmg hg args vals as hpre hlay hrd hwl hlo;obtain rfl:dV=.none:=Dflts.none hD hdf;obtain rfl:kV=.none:=Dflts.noKw hD;obtain ⟨a,vs,ns,rfl,rfl,hobj,hints,hlen⟩:=script_of hn hpre hwl;refine enter_call (codeAny_mono (call w s₀ s₁ mg mb fa o pm cd doc a vs ns G Y ho (fd_plain hd) hcd hmg hobj hints hlen hg) fun r s' hq => ?_);obtain ⟨rfl,h2,h3,h4⟩:=hq;exact ⟨.inl ⟨.bool true,.bool true,[],rfl,fun _=>rfl,.bool true,post_true l _,fun _=>⟨List.Pairwise.nil,fun _ hm=>(nomatch hm)⟩⟩,h2,h3,h4⟩


section
variable {prog:Program} {w:World} {A:Around} {E:Value→Shared→Prop} {s:Shared} {K:Frag}


end
end Att

namespace L2
open PySem PySem.Spec PyProof.Rows

theorem vals_ints:∀ {vs:List Value} {ns:List Int},IntsAre vs ns→Vals (ns.map V.int) vs
  | _,_,.nil=>.nil
  | _,_,.cons n t h=>.cons ⟨t,rfl⟩ (vals_ints h)


def Only (H:Hp):Prop:=∀ b,H b=none∨∃ o xs,H b=some (.frz o (.lst xs))


theorem law_call {P:Program} {w:World} {K:PySem.W.Frag} {mg mb:Str→Option Value} {CX:CXT} {k:Nat} {fa a:Addr} {fd:FuncData} {x:Str} {sp:Sp} {s₁:Shared} {vs:List Value} {ns:List Int}
    (KX:K.In s₁.heap) (hns:s₁.heap.Ns mainGlobals mg) (hb:s₁.heap.Ns builtinsNs mb) (hbb:∀ x:Str,x ≠ "__name__" → mb x=bootBuiltins x) (hlim:s₁.heap.NoLimit) (hg:s₁.gens = #[])
    (ha:s₁.heap.get? a=some { cls:=.type "list",data:=.seq vs.toArray }) (hi:IntsAre vs ns) (hl:ns.length≤sizeLine) (hr:Room k callerA)
    (F:∀ base:Heap,K.In base→base.Ns mainGlobals mg→FnOk P w K mg base CX k fa fd [x] sp) (hbind:∀ (s:Shared) (u:Value),BindsTo s fd ⟨[u],[]⟩ [(x,u)])
    (hsp:∀ H:Hp,Only H→SqL K H a (ns.map V.int)→sp [.ref a] H (fun v _=>v=.bl true) fun _ _ _=>False)
    (hCX:∀ H e s',CX [] H s₁ (fun _ _ _=>False) e s'→False) :
    codeAny (model P w) callerA (.call (.ref fa) ⟨[.ref a],[]⟩) (fun r s'=>r=.ok (.ret (.bool true))∧OldK s₁.heap s'.heap∧s'.os=s₁.os∧AllBare s'.gens) s₁:=by
  have rv:=vals_ints hi;have lenV:=hi.length
  -- from an abstract heap in which nothing but the script may be tracked
  have core:∀ H:Hp,Only H→SqL K H a (ns.map V.int)→HOk P w H s₁.heap→(∀ b,H b≠none→b=a)→(H a≠none→K.lookup a=none) →
      codeAny (model P w) callerA (.call (.ref fa) ⟨[.ref a],[]⟩) (fun r s'=>r=.ok (.ret (.bool true))∧OldK s₁.heap s'.heap∧s'.os=s₁.os∧AllBare s'.gens) s₁:=by
    intro H hO hS hok hA hK;have base_of:∀ {b:Addr} {o:Obj},s₁.heap.get? b=some o→H b=none→(hidT s₁.heap H).get? b=some o:=fun e n=>hidT_get e n;have noA:∀ {b:Addr} {o:Obj} {es:Array DictEntry} {ep:Nat},s₁.heap.get? b=some o→o.data=.dict es ep→H b=none:=fun {b o es ep} e d=>by
      cases q:H b with
      | none=>rfl
      | some u =>
        have e':b=a:=hA b (by rw [q]; simp);subst e';rw [ha] at e; cases e;have d':Data.seq vs.toArray _=Data.dict es ep:=d;cases d'
    have nsK:∀ {b:Addr} {m:Str→Option Value},s₁.heap.Ns b m→(hidT s₁.heap H).Ns b m:=fun {b m} ⟨o,es,ep,e,d,r⟩=>⟨o,es,ep,base_of e (noA e d),d,r⟩;have hKb:K.In (hidT s₁.heap H):=fun b o e=>base_of (KX b o e) (by
      cases q:H b with
      | none=>rfl
      | some u =>
        have e':b=a:=hA b (by rw [q]; simp);subst e';rw [hK (by rw [q]; simp)] at e; cases e)
    have hM:Mod K mg (hidT s₁.heap H):=⟨hKb,nsK hns,⟨mb,nsK hb,hbb⟩,let ⟨mc,h1,h2⟩:=hlim; ⟨mc,nsK h1,h2⟩⟩;have e0:Env0 P w K mg (hidT s₁.heap H) callerA [] s₁ H:=⟨rfl,hM,fun b o e=>of_hidT e,Nat.le_of_eq (hidT_size _ _),trivial,fun b hb=>absurd (show b∈([]:List Addr) from hb) (by simp),hok,.of_eq hg⟩;refine codeAny_mono ((F _ hKb (nsK hns)).run callerA [] s₁ H ⟨[.ref a],[]⟩ [.ref a] [.ref a] _ _ hr e0 (hbind s₁ (.ref a)) (.cons rfl .nil) (hsp H hO hS)) fun r s' h => ?_;cases r with
    | error e=>exact (hCX H e s' h).elim
    | ok fl =>
      cases fl with
      | next=>exact False.elim h
      | brk=>exact False.elim h
      | cont=>exact False.elim h
      | ret u =>
        obtain ⟨v,H',os,bare,un,hok',r',q⟩:=h;have q':v=.bl true:=q;subst q';obtain rfl:u=Value.bool true:=r';refine ⟨rfl,OldK.of_keep fun b o e => ?_,os,bare⟩;cases q:H b with
        | none=>exact un.keep b o e q (by intro z; exact absurd (show b∈([]:List Addr) from z) (by simp)) (by simp)
        | some u =>
          rcases hO b with z | ⟨ob,xs,z⟩
          · rw [q] at z; cases z
          · have z2:=un.frzs b ob _ z;obtain ⟨e1,_⟩:=hok b _ z;obtain ⟨e2,_⟩:=hok' b _ z2;rw [e] at e1; cases e1;exact e2
  cases hk:K.lookup a with
  | some o =>
    -- the script is one of the module's own objects
    have e:=KX a o hk;rw [ha] at e;cases e;refine core (fun _=>none) (fun _=>.inl rfl) (.inr ⟨_,vs.toArray,_,hk,rfl,rfl,rfl,by rw [List.size_toArray,lenV]; exact hl,by simpa using rv⟩) (fun b u z=>by have z':(none:Option HO)=some u:=z; cases z') (fun b z=>absurd rfl z) fun z=>absurd rfl z
  | none =>
    refine core (fun b=>if b=a then some (.frz { cls:=.type "list",data:=.seq vs.toArray } (.lst (ns.map V.int))) else none) (fun b => ?_) (.inl (.inr ⟨{ cls:=.type "list",data:=.seq vs.toArray },if_pos rfl⟩)) (fun b u z => ?_) (fun b z => ?_) fun _=>hk
    · by_cases hb:b=a
      · exact .inr ⟨_,_,if_pos hb⟩
      · exact .inl (if_neg hb)
    · by_cases hb:b=a
      · have z':=(if_pos hb).symm.trans z;cases z';subst hb;exact ⟨ha,by rw [List.length_map]; exact hl,vs,_,rv,ha⟩
      · have z':=(if_neg hb).symm.trans z;cases z'
    · by_cases hb:b=a
      · exact hb
      · exact absurd (if_neg hb) z
end L2

namespace L2
open PySem PySem.Spec PyProof.Rows

theorem walk_of {l:PySem.W.OpenLaw} {n k:Nat} {q:Program} {loose:List Str} {XP:(Str→Option Value)→Heap→Prop} {YP:World→Heap→Prop} {d:DefRec} {K:Params→PySem.W.Frag} {CX:World→CXT} {sp:World→Sp} {x:Str}
    (hn:l.most=some n) (hn2:n≤sizeLine) (hdf:d.params.defaults=[]) (hr:Room k callerA)
    (hY:∀ (w:World) (h:Heap),YP w h→(K w.params).In h)
    (F:∀ (w:World) (mg:Str→Option Value) (fa:Addr) (h:Heap),(K w.params).In h→h.Ns mainGlobals mg→mg d.name=some (.ref fa) →
      ∃ fd:FuncData,(∀ (s:Shared) (u:Value),BindsTo s fd ⟨[u],[]⟩ [(x,u)]) ∧
        ∀ base:Heap,(K w.params).In base→base.Ns mainGlobals mg→FnOk l.prog w (K w.params) mg base (CX w) k fa fd [x] (sp w))
    (hsp:∀ (w:World) (H:Hp) (a:Addr) (ns:List Int),ns.length≤n→Only H→SqL (K w.params) H a (ns.map V.int)→sp w [.ref a] H (fun v _=>v=.bl true) fun _ _ _=>False)
    (hCX:∀ (w:World) (H:Hp) (s:Shared) (e:Value) (s':Shared),CX w [] H s (fun _ _ _=>False) e s'→False) :
    PySem.W.WalkO q loose XP YP l.row.toRowW d [] (fun f vs=>PySem.call f vs):=by
  refine Att.attach_call hn hdf fun w s₀ s₁ mg mb fa o pm cd doc a vs ns G Y ho hd hcd hmg hobj hints hlen hg => ?_;have KX:=hY w _ Y;obtain ⟨fd,hb,hF⟩:=F w mg fa _ KX G.T.g hmg;exact law_call KX G.T.g G.T.b G.T.builtins G.T.nolimit hg hobj hints (Nat.le_trans hlen hn2) hr hF hb (fun H hO hS=>hsp w H a ns hlen hO hS) fun H e s'=>hCX w H s₁ e s'

end L2




namespace L2
open PySem PySem.Spec PyProof.Rows



def defArgs (s:Stmt):Arguments:=match s with
  | .FunctionDef _ a _ _ _ _ _ _ _ _=>a
  | _=>{ posonlyargs:=[],args:=[],vararg:=none,kwonlyargs:=[],kw_defaults:=[],kwarg:=none,defaults:=[] }
def defBody (s:Stmt):List Stmt:=match s with
  | .FunctionDef _ _ b _ _ _ _ _ _ _=>b
  | _=>[]
def defScope (s:Stmt):Scope:=match s with
  | .FunctionDef _ _ _ _ _ _ sc _ _ _=>sc
  | _=>{ kind:=.function,names:=[],isGenerator:=false,isCoroutine:=false }


abbrev E0:XK:=fun _ _ _=>False
section
variable {P:Program} {w:World} {K:PySem.W.Frag} {mg:Str→Option Value} {base:Heap}

end
theorem small1000 {n:Nat} (h:n≤1000):n < sizeLine:=Nat.lt_of_le_of_lt h (by decide)


section
variable {X:Cx}
theorem pv (i:Nat) {x:Str} {pos:Pos} (hN:X.N[i]? = some x:=by rfl) (hv:Vis X.env.scope x:=by first | exact Or.inl rfl | exact Or.inr (Or.inl rfl) | exact Or.inr (Or.inr rfl)) (hd:(x == ("__debug__" : Str))=false:=by decide)
    (hcd:(x == ("__classdict__" : Str))=false:=by decide):PE X (.Name x pos) (tVar i):=pe_var hN hv hd hcd
end


theorem iteF {A B:Prop} (h:B):if false=true then A else B:=by
  rw [if_neg Bool.false_ne_true];exact h
theorem iteT {A B:Prop} (h:A):if true=true then A else B:=by
  rw [if_pos rfl];exact h
theorem ite2 {c A B:Prop} [Decidable c] (h1:c→A) (h2:¬ c→B):if c then A else B:=by
  by_cases h:c
  · rw [if_pos h];exact h1 h
  · rw [if_neg h];exact h2 h
theorem iteNS {c A B:Prop} [Decidable c] (hc:c) (h:B):if (!decide c)=true then A else B:=by
  rw [decide_eq_true hc];exact iteF h



def Same (H H':Hp):Prop:=∀ b o,H b=some o→H' b=some o
theorem Same.refl (H:Hp):Same H H:=fun _ _ h=>h
theorem Same.trans {H H1 H2:Hp} (a:Same H H1) (b:Same H1 H2):Same H H2:=fun c o h=>b c o (a c o h)
theorem Same.free {H H':Hp} (e:Same H H') {l:Addr} (h:H' l=Option.none):H l=Option.none:=by
  cases q:H l with
  | none=>rfl
  | some o =>
    rw [e l o q] at h;cases h
theorem Same.seq {K:PySem.W.Frag} {H H':Hp} {a:Addr} {xs:List V} (e:Same H H') (h:SqL K H a xs):SqL K H' a xs:=by
  rcases h with (h | ⟨o,h⟩) | h
  · exact .inl (.inl (e _ _ h))
  · exact .inl (.inr ⟨o,e _ _ h⟩)
  · exact .inr h

end L2
namespace L2
open PySem PySem.Spec PyProof.Rows


section
variable {κ:Type} [DecidableEq κ]
def valV (kvs:List (κ × V)) (k:κ):Option V:=(kvs.find? fun kv=>decide (kv.1=k)).map (·.2)

def putK (kvs:List (κ × V)) (k:κ) (v:V):List (κ × V) :=
  if (kvs.any fun kv=>decide (kv.1=k))=true then kvs.map (fun kv=>if kv.1=k then (kv.1,v) else kv) else kvs++[(k,v)]
theorem valV_nil {k:κ}:valV ([]:List (κ × V)) k=none:=rfl
theorem valV_pos {p:κ × V} {r:List (κ × V)} {k:κ} (e:p.1=k):valV (p::r) k=some p.2:=by simp [valV,List.find?_cons,e]
theorem valV_neg {p:κ × V} {r:List (κ × V)} {k:κ} (e:¬ p.1=k):valV (p::r) k=valV r k:=by simp [valV,List.find?_cons,e]
theorem valV_any (k:κ):∀ kvs:List (κ × V),(kvs.any fun kv=>decide (kv.1=k))=(valV kvs k).isSome
  | []=>rfl
  | p::r=>by
    rw [List.any_cons];by_cases e:p.1=k
    · simp only [valV_pos e,decide_eq_true e,Bool.true_or,Option.isSome_some]
    · rw [valV_neg e,decide_eq_false e,Bool.false_or]; exact valV_any k r
theorem valV_map (k j:κ) (y:V):∀ kvs:List (κ × V),valV (kvs.map fun kv=>if kv.1=k then (kv.1,y) else kv) j=(valV kvs j).map fun x=>if j=k then y else x
  | []=>rfl
  | p::r=>by
    have ih:=valV_map k j y r;rw [List.map_cons];by_cases h:p.1=k
    · rw [if_pos h];by_cases e:p.1=j
      · rw [valV_pos (p:=(p.1,y)) e,valV_pos e,Option.map_some,if_pos (e.symm.trans h)]
      · rw [valV_neg (p:=(p.1,y)) e,valV_neg e,ih]
    · rw [if_neg h];by_cases e:p.1=j
      · rw [valV_pos (p:=p) e,valV_pos e,Option.map_some,if_neg (fun z=>h (e.trans z))]
      · rw [valV_neg (p:=p) e,valV_neg e,ih]
theorem valV_snoc (k j:κ) (y:V):∀ kvs:List (κ × V),valV kvs k=none→valV (kvs++[(k,y)]) j=if j=k then some y else valV kvs j
  | [],_=>by
    by_cases e:k=j
    · rw [if_pos e.symm]; exact valV_pos (p:=(k,y)) e
    · rw [if_neg (fun z=>e z.symm)]; exact valV_neg (p:=(k,y)) e
  | p::r,hn=>by
    rw [List.cons_append];have hk:¬ p.1=k:=fun z=>by rw [valV_pos z] at hn; cases hn
    rw [valV_neg hk] at hn;have ih:=valV_snoc k j y r hn;by_cases e:p.1=j
    · rw [valV_pos e,valV_pos e,if_neg (fun z=>hk (e.trans z))]
    · rw [valV_neg e,valV_neg e,ih]
theorem valV_put (kvs:List (κ × V)) (k j:κ) (y:V):valV (putK kvs k y) j=if j=k then some y else valV kvs j:=by
  unfold putK;by_cases a:(kvs.any fun kv=>decide (kv.1=k))=true
  · rw [if_pos a,valV_map];rw [valV_any] at a;by_cases e:j=k
    · obtain ⟨x,hx⟩:=Option.isSome_iff_exists.mp a;rw [if_pos e,e,hx,Option.map_some,if_pos rfl]
    · rw [if_neg e];cases valV kvs j with
      | none=>rfl
      | some x=>rw [Option.map_some,if_neg e]
  · rw [if_neg a];refine valV_snoc k j y kvs ?_;rw [valV_any] at a;cases q:valV kvs k with
    | none=>rfl
    | some x=>rw [q] at a; exact (a rfl).elim
theorem length_putK (kvs:List (κ × V)) (k:κ) (v:V):(putK kvs k v).length≤kvs.length + 1:=by
  unfold putK
  split
  · rw [List.length_map]; omega
  · rw [List.length_append,List.length_cons,List.length_nil]; omega
theorem RelO.isSome_eq {o:Option V} {u:Option Value} (r:RelO o u):o.isSome=u.isSome:=by
  cases o with
  | none=>cases u with
    | none=>rfl
    | some _=>exact (show False from r).elim
  | some _=>cases u with
    | none=>exact (show False from r).elim
    | some _=>rfl
theorem KV.val {kvs:List (κ × V)} {vs:List (κ × Value)} (r:KV kvs vs) (k:κ):RelO (valV kvs k) (valueAt vs k):=by
  unfold KV at r
  induction r with
  | nil=>exact True.intro
  | @cons p q ps qs h t ih =>
    obtain ⟨h1,h2⟩:=h;by_cases e:p.1=k
    · have e':q.1=k:=h1.symm.trans e;have b:valueAt (q::qs) k=some q.2:=by simp [valueAt,List.find?_cons,e']
      rw [valV_pos e,b]; exact h2
    · have e':¬ q.1=k:=fun z=>e (h1.trans z);have b:valueAt (q::qs) k=valueAt qs k:=by simp [valueAt,List.find?_cons,e']
      rw [valV_neg e,b]; exact ih
theorem KV.any {kvs:List (κ × V)} {vs:List (κ × Value)} (r:KV kvs vs) (k:κ):(kvs.any fun kv=>decide (kv.1=k))=vs.any fun kv=>decide (kv.1=k):=by
  unfold KV at r
  induction r with
  | nil=>rfl
  | cons h t ih=>rw [List.any_cons,List.any_cons,ih,h.1]
theorem KV.repl {kvs:List (κ × V)} {vs:List (κ × Value)} (r:KV kvs vs) (k:κ) {y:V} {u:Value} (ry:RelV y u) :
    KV (kvs.map fun kv=>if kv.1=k then (kv.1,y) else kv) (vs.map fun kv=>if kv.1=k then (kv.1,u) else kv):=by
  unfold KV at r ⊢
  induction r with
  | nil=>exact .nil
  | @cons p q ps qs h t ih =>
    rw [List.map_cons,List.map_cons];refine .cons ?_ ih;obtain ⟨h1,h2⟩:=h;by_cases e:p.1=k
    · rw [if_pos e,if_pos (h1.symm.trans e)]; exact ⟨h1,ry⟩
    · rw [if_neg e,if_neg (fun z=>e (h1.trans z))]; exact ⟨h1,h2⟩
theorem KV.put {kvs:List (κ × V)} {vs:List (κ × Value)} (r:KV kvs vs) (k:κ) {y:V} {u:Value} (ry:RelV y u):KV (putK kvs k y) (stored vs k u):=by
  unfold putK stored;rw [r.any k];by_cases e:(vs.any fun kv=>decide (kv.1=k))=true
  · rw [if_pos e,if_pos e]; exact r.repl k ry
  · rw [if_neg e,if_neg e]; exact Paired.snoc r ⟨rfl,ry⟩
theorem KV.length {kvs:List (κ × V)} {vs:List (κ × Value)} (r:KV kvs vs):kvs.length=vs.length:=Paired.length r
end



theorem kV_is {P:Program} {w:World} {k:Key} {u:Value} (r:RelV (kV k) u):(mixKind P w).is k u=true:=by
  cases k with
  | inl i=>obtain ⟨t,e⟩:=(show ∃ t,u=Value.int i t from r); subst e; exact mixKind_int P w i t
  | inr x=>obtain ⟨t,e⟩:=(show ∃ t,u=Value.str x t from r); subst e; exact mixKind_str P w x t
theorem items_are {P:Program} {w:World}:∀ {ks:List Key} {us:List Value},Vals (ks.map kV) us→ItemsAre (mixKind P w) ks us
  | [],_,r=>by rw [List.map_nil] at r; cases r; exact .nil
  | k::ks,_,r=>by
    rw [List.map_cons] at r;cases r with
    | cons h t=>exact .cons (kV_is h) (items_are t)


abbrev KT (H:Hp):List (List Key × V)→List (List Key × Addr × Value)→Prop:=Paired fun p q=>p.1=q.1∧H q.2.1=some (.tup (p.1.map kV))∧RelV p.2 q.2.2
theorem KT.val {H:Hp} {kvs:List (List Key × V)} {xs:List (List Key × Addr × Value)} (r:KT H kvs xs) (k:List Key):RelO (valV kvs k) ((atKey xs k).map (·.2)):=by
  induction r with
  | nil=>exact True.intro
  | @cons p q ps qs h t ih =>
    obtain ⟨h1,_,h2⟩:=h;by_cases e:p.1=k
    · have e':q.1=k:=h1.symm.trans e;have b:atKey (q::qs) k=some q.2:=by simp [atKey,List.find?_cons,e']
      rw [valV_pos e,b]; exact h2
    · have e':¬ q.1=k:=fun z=>e (h1.trans z);have b:atKey (q::qs) k=atKey qs k:=by simp [atKey,List.find?_cons,e']
      rw [valV_neg e,b]; exact ih
theorem KT.repl {H:Hp} {kvs:List (List Key × V)} {xs:List (List Key × Addr × Value)} (r:KT H kvs xs) (k:List Key) {y:V} {u:Value} (ry:RelV y u) :
    KT H (kvs.map fun kv=>if kv.1=k then (kv.1,y) else kv) (xs.map (putAt k u)):=by
  induction r with
  | nil=>exact .nil
  | @cons p q ps qs h t ih =>
    rw [List.map_cons,List.map_cons];refine .cons ?_ ih;obtain ⟨h1,h2,h3⟩:=h;unfold putAt;by_cases e:p.1=k
    · rw [if_pos e,if_pos (h1.symm.trans e)]; exact ⟨h1,h2,ry⟩
    · rw [if_neg e,if_neg (fun z=>e (h1.trans z))]; exact ⟨h1,h2,h3⟩
theorem KT.put {H:Hp} {kvs:List (List Key × V)} {xs:List (List Key × Addr × Value)} (r:KT H kvs xs) (k:List Key) {b:Addr} {y:V} {u:Value} (hb:H b=some (.tup (k.map kV))) (ry:RelV y u) :
    KT H (putK kvs k y) (storedH xs k b u):=by
  have e:(kvs.any fun kv=>decide (kv.1=k))=(atKey xs k).isSome:=by
    rw [valV_any,(r.val k).isSome_eq,Option.isSome_map]
  unfold putK storedH;rw [e];by_cases q:(atKey xs k).isSome=true
  · rw [if_pos q,if_pos q]; exact r.repl k ry
  · rw [if_neg q,if_neg q]; exact Paired.snoc r ⟨rfl,hb,ry⟩
theorem KT.keeps {H H':Hp} {kvs:List (List Key × V)} {xs:List (List Key × Addr × Value)} (r:KT H kvs xs) (ht:∀ b ys,H b=some (.tup ys)→H' b=some (.tup ys)):KT H' kvs xs :=
  Paired.mapP r fun _ _ z=>⟨z.1,ht _ _ z.2.1,z.2.2⟩

section
variable {P:Program} {w:World} {H:Hp} {h:Heap} {a:Addr}
theorem rd_of {u:HO} (ok:HOk P w H h) (e:Rd H a u):ObjOk P w H h a u:=e.ok ok
theorem dk_rd {kvs:List (Key × V)} (ok:HOk P w H h) (e:Rd H a (.dK kvs)):kvs.length≤sizeLine∧(a == sysModules)=false∧∃ vs,KV kvs vs∧h.DictOf (mixKind P w) a vs :=
  show ObjOk P w H h a (.dK kvs) from rd_of ok e
theorem dk_of {kvs:List (Key × V)} (ok:HOk P w H h) (e:H a=some (.dK kvs)):kvs.length≤sizeLine∧(a == sysModules)=false∧∃ vs,KV kvs vs∧h.DictOf (mixKind P w) a vs:=dk_rd ok (.inl e)

theorem key_of {ks:List Key} (ok:HOk P w H h) (e:H a=some (.tup (ks.map kV))):(tupleKind (mixKind P w)).is h ks a:=by
  obtain ⟨_,its,r,o,h1,h2,n,h3⟩:=(show ObjOk P w H h a (.tup (ks.map kV)) from ok a _ e);exact ⟨o,its.toArray,n,h1,h2,h3,by simpa using items_are r⟩
theorem dt_rd {kvs:List (List Key × V)} (ok:HOk P w H h) (e:Rd H a (.dT kvs)):kvs.length≤sizeLine∧(a == sysModules)=false ∧
    ∃ xs,KT H kvs xs∧h.DictOfH (tupleKind (mixKind P w)) a xs:=by
  obtain ⟨z,y,xs,r,o,es,ep,h1,h2,h3,h4,h5⟩:=(show ObjOk P w H h a (.dT kvs) from rd_of ok e);refine ⟨z,y,xs,r,o,es,ep,h1,h2,h3,h4,fun x hx => ?_,h5⟩;have all:∀ {l:List (List Key × V)} {m:List (List Key × Addr × Value)},KT H l m→∀ x∈m,(tupleKind (mixKind P w)).is h x.1 x.2.1:=by
    intro l m q
    induction q with
    | nil=>intro x hx; exact nomatch hx
    | @cons p q ps qs hq t ih =>
      intro x hx;rcases List.mem_cons.mp hx with e | hx
      · subst e;exact key_of ok (by rw [← hq.1]; exact hq.2.1)
      · exact ih x hx
  exact all r x hx
theorem dt_of {kvs:List (List Key × V)} (ok:HOk P w H h) (e:H a=some (.dT kvs)):kvs.length≤sizeLine∧(a == sysModules)=false ∧
    ∃ xs,KT H kvs xs∧h.DictOfH (tupleKind (mixKind P w)) a xs:=dt_rd ok (.inl e)
end


def DGet (H:Hp) (a:Addr) (y:V) (r:Option V):Prop :=
  (∃ kvs k,Rd H a (.dK kvs)∧y=kV k∧r=valV kvs k)∨∃ kvs k b,Rd H a (.dT kvs)∧y=.ref b∧H b=some (.tup (k.map kV))∧r=valV kvs k

def DPut (H:Hp) (a:Addr) (y v:V) (H':Hp):Prop :=
  (∃ kvs k,H a=some (.dK kvs)∧y=kV k∧kvs.length < sizeLine∧H'=upd H a (.dK (putK kvs k v))) ∨
  ∃ kvs k b,H a=some (.dT kvs)∧y=.ref b∧H b=some (.tup (k.map kV))∧kvs.length < sizeLine∧H'=upd H a (.dT (putK kvs k v))
theorem DGet.k {H:Hp} {a:Addr} {kvs:List (Key × V)} {k:Key} (e:H a=some (.dK kvs)):DGet H a (kV k) (valV kvs k):=.inl ⟨kvs,k,.inl e,rfl,rfl⟩
theorem DPut.k {H:Hp} {a:Addr} {kvs:List (Key × V)} {k:Key} {v:V} (e:H a=some (.dK kvs)) (hl:kvs.length < sizeLine):DPut H a (kV k) v (upd H a (.dK (putK kvs k v))):=.inl ⟨kvs,k,e,rfl,hl,rfl⟩
section
variable {X:Cx} {pins:List (Addr × Obj)} {σ:St} {H:Hp} {s:Shared} {a:Addr} {y v:V} {u r:Value} {o:Option V} {A:Around} {E:Value→Shared→Prop}

theorem Inv.big (I:Inv X pins σ H s):sysModules < s.heap.objs.size:=by
  have h:mainGlobals < s.heap.objs.size:=(I.mod.glob.keeps I.bk).lt;exact Nat.lt_trans (by decide) h


theorem d_getItem {Q:Value→Shared→Prop} (hu:A.units + 1 < cLine) (I:Inv X pins σ H s) (g:DGet H a y (some v)) (ry:RelV y u) (h:∀ w' s',Inv X pins σ H s'→RelV v w'→Q w' s') :
    wpAny (model X.prog X.w) A (getItem (.ref a) u) Q E s:=by
  rcases g with ⟨kvs,k,e,ey,l⟩ | ⟨kvs,k,b,e,ey,eb,l⟩
  · subst ey;obtain ⟨z,hd,vs,rel,dd⟩:=dk_rd I.hok e;obtain ⟨w',hw,rw'⟩:=RelO.some_of (v:=v) (o:=valueAt vs k) (by rw [l]; exact rel.val k);exact wpAny_getItem_of (kV_is ry) dd.mapOf hw (h w' _ (I.tok _) rw')
  · subst ey;cases (show u=Value.ref b from ry);obtain ⟨z,hd,xs,rel,dd⟩:=dt_rd I.hok e;obtain ⟨w',hw,rw'⟩:=RelO.some_of (v:=v) (o:=(atKey xs k).map (·.2)) (by rw [l]; exact rel.val k);obtain ⟨p,hp,hp2⟩:=Option.map_eq_some_iff.mp hw;refine wpAny_getItem_heap (tupleKind_room_in1 hu) (key_of I.hok eb) dd hp ?_;rw [hp2];exact h w' _ (I.tok _) rw'

theorem d_notIn {Q:Value→Shared→Prop} (hu:A.units + 1 < cLine) (I:Inv X pins σ H s) (g:DGet H a y o) (ry:RelV y u) (h:∀ s',Inv X pins σ H s'→Q (.bool (!o.isSome)) s') :
    wpAny (model X.prog X.w) A (compareOp .NotIn u (.ref a)) Q E s:=by
  rcases g with ⟨kvs,k,e,ey,l⟩ | ⟨kvs,k,b,e,ey,eb,l⟩
  · subst ey;obtain ⟨z,hd,vs,rel,dd⟩:=dk_rd I.hok e;refine wpAny_notIn_of (kV_is ry) hd dd.mapOf ?_;rw [← (rel.val k).isSome_eq,← l];exact h _ (I.tok _)
  · subst ey;cases (show u=Value.ref b from ry);obtain ⟨z,hd,xs,rel,dd⟩:=dt_rd I.hok e;refine wpAny_notIn_heap (tupleKind_room_in1 hu) (key_of I.hok eb) hd dd ?_;have q:=(rel.val k).isSome_eq;rw [Option.isSome_map] at q;rw [← q,← l];exact h _ (I.tok _)

theorem d_write {h':Heap} {t':Nat} {ob:HO} (I:Inv X pins σ H s) (mu:Mut (H a)) (hs:Heap.SameBut a s.heap h') (he:∃ q,h'.get? a=some q) (new:ObjOk X.prog X.w (upd H a ob) h' a ob) :
    Inv X pins σ (upd H a ob) { s with heap:=h',toks:=t' } :=
  I.write (x:=a) (e:=a) mu (.inl rfl) (fun b q hb z=>(hs.2 b hb).trans z) he new
theorem dk_new {P:Program} {w:World} {H':Hp} {h':Heap} {kvs:List (Key × V)} {vs:List (Key × Value)} (z:kvs.length≤sizeLine) (hd:(a == sysModules)=false) (rel:KV kvs vs) (dd:h'.DictOf (mixKind P w) a vs) :
    ObjOk P w H' h' a (.dK kvs):=⟨z,hd,vs,rel,dd⟩

theorem d_setItem {H':Hp} {Q:Unit→Shared→Prop} (hu:A.units + 1 < cLine) (I:Inv X pins σ H s) (g:DPut H a y v H') (ry:RelV y u) (rv:RelV v r) (h:∀ s',Inv X pins σ H' s'→Q () s') :
    wpAny (model X.prog X.w) A (setItem (.ref a) u r) Q E s:=by
  rcases g with ⟨kvs,k,e,ey,l,eH⟩ | ⟨kvs,k,b,e,ey,eb,l,eH⟩
  · subst ey eH;obtain ⟨z,hd,vs,rel,dd⟩:=dk_of I.hok e;have hz:vs.length≤sizeLine:=by rw [← rel.length]; exact z
    have hl:(putK kvs k v).length≤sizeLine:=by have:=length_putK kvs k v; omega
    refine wpAny_setItem_pairs (hsz:=hz) (kV_is ry) dd fun h' dd' hs=>h _ ?_;have he:∃ q,h'.get? a=some q:=let ⟨q,_,_,hq,_⟩:=dd'; ⟨q,hq⟩
    exact d_write I (by rw [e]; exact True.intro) hs he (dk_new hl hd (rel.put k rv) dd')
  · subst ey eH;cases (show u=Value.ref b from ry);obtain ⟨z,hd,xs,rel,dd⟩:=dt_of I.hok e;have hz:xs.length≤sizeLine:=by rw [← Paired.length rel]; exact z
    have hl:(putK kvs k v).length≤sizeLine:=by have:=length_putK kvs k v; omega
    refine wpAny_setItem_heap (hsz:=hz) (tupleKind_room_in1 hu) (key_of I.hok eb) dd fun h' dd' hs=>h _ ?_;obtain ⟨q,es,ep,hq,h2,h3,h4,_,h5⟩:=dd';refine d_write I (by rw [e]; exact True.intro) hs ⟨q,hq⟩ ⟨hl,hd,_,(rel.put k eb rv).keeps fun c ys ec => ?_,q,es,ep,hq,h2,h3,h4,h5⟩;rw [upd_ne (ne_of ec e (fun z=>nomatch z))];exact ec
end

section
variable {X:Cx} {pins:List (Addr × Obj)} {σ:St} {H:Hp} {s:Shared} {a:Addr} {kvs:List (Key × V)} {k:Key} {u:Value} {A:Around} {E:Value→Shared→Prop}

theorem d_len {Q:Value→Shared→Prop} (I:Inv X pins σ H s) (e:Rd H a (.dK kvs)) (h:∀ t s',Inv X pins σ H s'→Q (.int kvs.length t) s'):wpAny (model X.prog X.w) A (call (.builtin "len") [.ref a]) Q E s:=by
  obtain ⟨z,hd,vs,rel,dd⟩:=dk_rd I.hok e;refine call_len_dict hd dd (by rw [← rel.length]; rw [sizeLine_eq] at z; omega) ?_;rw [← rel.length];exact h _ _ (I.tok _)

end




def NoSl (i:Expr):Prop:=∀ ov iv,subscripted i false ov iv=operate [ov,iv] (getItem ov iv)
theorem subD_of {prog:Program} {w:World} {A:Around} {E:Value→Shared→Prop} {s:Shared} {env:Env} {value slice:Expr} {pos:Pos} {T id:String} {Q:Value→Shared→Prop}
    (hl:typeLookup (.type T) "__getitem__" = pure (some (.builtin id))) (hs:NoSl slice)
    (h:wpAny (model prog w) A (eval value env) (fun o s₁=>wpAny (model prog w) A (eval slice env) (fun i s₂=>s₂.TypeIs o T∧wpAny (model prog w) A (getItem o i) Q E s₂) E s₁) E s) :
    wpAny (model prog w) A (eval (.Subscript value slice pos) env) Q E s:=by
  refine Subscript_ (wpAny_mono h (fun o s₁ h₁=>wpAny_mono h₁ (fun i s₂ h₂ => ?_) fun _ _ x=>x) fun _ _ x=>x);obtain ⟨hT,h₂⟩:=h₂;unfold subscriptTail;refine wpAny_bind ?_;rw [getitemInPython_of_ne hT.not_modules];refine wpAny_bind (wpAny_specialOf hT hl ?_);have fin:wpAny (model prog w) A (subscripted slice false o i) (fun r s₃=>wpAny (model prog w) A (letTemporaryGo value o r >>= fun _=>pure r) Q E s₃) E s₂:=by
    rw [hs o i];exact wpAny_operating (wpAny_mono h₂ (fun r s₃ h₃=>wpAny_bind (wpAny_letTemporaryGo (wpAny_pure h₃))) fun _ _ x=>x)
  first
    | exact wpAny_pure (wpAny_bind fin)
    | exact wpAny_bind (wpAny_pure (wpAny_bind fin))
    | exact wpAny_bind fin

theorem dict_typeIs {X:Cx} {pins:List (Addr × Obj)} {σ:St} {H:Hp} {s:Shared} {a:Addr} {y:V} {o:Option V} (I:Inv X pins σ H s) (g:DGet H a y o):s.TypeIs (.ref a) "dict" := by
  rcases g with ⟨kvs,k,e,_,_⟩ | ⟨kvs,k,b,e,_,_,_⟩
  · obtain ⟨_,_,vs,_,dd⟩:=dk_rd I.hok e;exact dd.typeIs
  · obtain ⟨_,_,xs,_,dd⟩:=dt_rd I.hok e;exact dd.typeIs
def tDGet (td ty:TE):TE:=fun σ H Q=>td σ H fun x H1=>ty σ H1 fun y H2=>∃ a v,x=.ref a∧DGet H2 a y (some v)∧Q v H2

def sDPut (td ty tv:TE):TS:=fun D σ H=>tv σ H fun v H1=>td σ H1 fun x H2=>ty σ H2 fun y H3=>∃ a H4,x=.ref a∧DPut H3 a y v H4∧D.nx σ H4

section
variable {X:Cx} {o i e value:Expr} {pos pos' tpos:Pos} {td ty tv:TE}
theorem pe_dget (hu:X.A.units + 1 < cLine) (ho:PE X o td) (hi:PE X i ty) (hs:NoSl i):PE X (.Subscript o i pos) (tDGet td ty):=by
  intro pins s σ H Q I h;refine subD_of PySem.F.slot_dict_getitem.lookup hs (thn (ho pins s σ H _ I h) fun u s1 ⟨x,H1,I1,rx,q1⟩=>thn (hi pins s1 σ H1 _ I1 q1) fun iv s2 ⟨y,H2,I2,ry,a,v,ex,g,q2⟩ => ?_);subst ex;obtain rfl:u=Value.ref a:=rx;exact ⟨dict_typeIs I2 g,d_getItem hu I2 g ry fun w' s3 I3 rw'=>⟨v,H2,I3,rw',q2⟩⟩
theorem ps_dput (hu:X.A.units + 1 < cLine) (ho:PE X o td) (hi:PE X i ty) (hv:PE X value tv) (hs:swapsWith value (some (.Subscript o i pos')) pos.line X.env=pure false) :
    PS X (.Assign [.Subscript o i pos'] value pos) (sDPut td ty tv):=by
  intro pins s σ H D I h;refine wpAny_Assign_Subscript (thn (hv pins s σ H _ I h) fun r s1 ⟨v,H1,I1,rv,q1⟩=>thn (ho pins s1 σ H1 _ I1 q1) fun u s2 ⟨x,H2,I2,rx,q2⟩=>thn (hi pins s2 σ H2 _ I2 q2) fun iv s3 ⟨y,H3,I3,ry,a,H4,ex,g,q3⟩ => ?_) hs;subst ex;obtain rfl:u=Value.ref a:=rx;exact d_setItem hu I3 g ry rv fun s4 I4=>⟨σ,H4,I4,q3⟩
end



theorem dk_empty {P:Program} {w:World} {H:Hp} (h:Heap) (hb:sysModules < h.objs.size):ObjOk P w H (h.push { cls:=.type "dict",data:=.dict #[] }) h.objs.size (.dK []) :=
  ⟨Nat.zero_le _,beq_eq_false_iff_ne.mpr (Ne.symm (Nat.ne_of_lt hb)),[],.nil,Heap.DictOf.new h⟩
def tDNewK:TE:=fun _ H Q=>∀ p,H p=none→Q (.ref p) (upd H p (.dK []))
section
variable {X:Cx} {pos:Pos}
theorem pe_dnewK:PE X (.Dict [] [] pos) tDNewK:=fun pins s σ H Q I h =>
  wpAny_Dict_empty ⟨.ref s.heap.objs.size,_,I.laid (a:=s.heap.objs.size) (o:=.dK []) (t':=s.toks) (fun _ _ q=>Heap.get?_push_of_some _ q) (Nat.le_refl _) (dk_empty s.heap I.big),rfl,h _ (I.hok.fresh (Nat.le_refl _))⟩
end


def tPairs:List (TE × TE)→St→Hp→(List (V × V)→Hp→Prop)→Prop
  | [],_,H,Q=>Q [] H
  | (tk,tv)::r,σ,H,Q=>tk σ H fun x H1=>tv σ H1 fun y H2=>tPairs r σ H2 fun ps H3=>Q ((x,y)::ps) H3
abbrev VV:List (V × V)→List (Value × Value)→Prop:=Paired fun p q=>RelV p.1 q.1∧RelV p.2 q.2
def PPs (X:Cx) (pos:Pos) (keys:List (Option Expr)) (values:List Expr) (trs:List (TE × TE)):Prop :=
  ∀ (pins:List (Addr × Obj)) (s:Shared) (σ:St) (H:Hp) (Q:List (V × V)→Hp→Prop),Inv X pins σ H s→tPairs trs σ H Q →
    wpAny (model X.prog X.w) X.A (evalPairs (pairTrees keys values X.env pos)) (fun vs s'=>∃ ps H',Inv X pins σ H' s'∧VV ps vs∧Q ps H') X.xe s
theorem pps_nil {X:Cx} {pos:Pos}:PPs X pos [] [] []:=fun pins s σ H Q I h=>pairTrees_nil_walk ⟨[],H,I,.nil,h⟩
theorem pps_cons {X:Cx} {pos:Pos} {k v:Expr} {ks:List (Option Expr)} {vs:List Expr} {tk tv:TE} {trs:List (TE × TE)} (hk:PE X k tk) (hv:PE X v tv) (hr:PPs X pos ks vs trs) :
    PPs X pos (some k::ks) (v::vs) ((tk,tv)::trs):=fun pins s σ H Q I h =>
  pairTrees_cons_walk (thn (hk pins s σ H _ I h) fun u s1 ⟨x,H1,I1,rx,q1⟩=>thn (hv pins s1 σ H1 _ I1 q1) fun w2 s2 ⟨y,H2,I2,ry,q2⟩ =>
    thn (hr pins s2 σ H2 _ I2 q2) fun ws s3 ⟨ps,H3,I3,rel,q3⟩=>⟨(x,y)::ps,H3,I3,.cons ⟨rx,ry⟩ rel,q3⟩)

def mergeK (kvs more:List (Key × V)):List (Key × V):=more.foldl (fun acc kv=>putK acc kv.1 kv.2) kvs
theorem KV.merge:∀ {more:List (Key × V)} {rs:List (Key × Value)} {kvs:List (Key × V)} {vs:List (Key × Value)},KV more rs→KV kvs vs→KV (mergeK kvs more) (merged vs rs):=by
  intro more rs kvs vs r;unfold KV at r
  induction r generalizing kvs vs with
  | nil=>intro q; exact q
  | @cons p q ps qs h t ih =>
    intro r0;have e:KV (putK kvs p.1 p.2) (stored vs q.1 q.2):=by
      have:=r0.put p.1 h.2
      rw [← h.1]; exact this
    exact ih e
theorem length_mergeK:∀ (more kvs:List (Key × V)),(mergeK kvs more).length≤kvs.length + more.length
  | [],kvs=>by show kvs.length≤kvs.length + 0; omega
  | p::r,kvs=>by
    have h1:=length_mergeK r (putK kvs p.1 p.2);have h2:=length_putK kvs p.1 p.2;show (mergeK (putK kvs p.1 p.2) r).length≤_;rw [List.length_cons]; omega
theorem carries_of {P:Program} {w:World}:∀ {kvs:List (Key × V)} {ws:List (Value × Value)},VV (kvs.map fun kv=>(kV kv.1,kv.2)) ws→∃ rs,Carries (mixKind P w) ws rs∧KV kvs rs
  | [],_,r=>by rw [List.map_nil] at r; cases r; exact ⟨[],True.intro,.nil⟩
  | p::kvs,_,r=>by
    rw [List.map_cons] at r;cases r with
    | @cons a b as bs h t =>
      obtain ⟨rs,c,q⟩:=carries_of (P:=P) (w:=w) t;obtain ⟨b1,b2⟩:=b;exact ⟨(p.1,b2)::rs,⟨kV_is h.1,rfl,c⟩,.cons ⟨rfl,h.2⟩ q⟩

def tDisp (trs:List (TE × TE)):TE:=fun σ H Q=>∀ p,H p=none→tPairs trs σ (upd H p (.dK [])) fun ps H2=>H2 p=some (.dK [])∧∃ kvs:List (Key × V),ps=kvs.map (fun kv=>(kV kv.1,kv.2))∧kvs.length≤15∧Q (.ref p) (upd H2 p (.dK (mergeK [] kvs)))
theorem pe_disp {X:Cx} {pos:Pos} {keys:List (Option Expr)} {values:List Expr} {trs:List (TE × TE)} (h:PPs X pos keys values trs) (hall:keys.all (·.isSome)=true) (hl:keys.length=values.length) (h0:keys≠[])
    (h15:keys.length≤15):PE X (.Dict keys values pos) (tDisp trs):=by
  intro pins s σ H Q I q;have hn:=I.hok.fresh (Nat.le_refl s.heap.objs.size);have I1:=I.laid (a:=s.heap.objs.size) (o:=.dK []) (h':=s.heap.push { cls:=.type "dict",data:=.dict #[] }) (t':=s.toks) (fun _ _ q=>Heap.get?_push_of_some _ q) (Nat.le_refl _) (dk_empty s.heap I.big)
  refine wpAny_Dict_walk (knd:=mixKind X.prog X.w) hall hl h0 h15 (thn (h pins _ σ _ _ I1 (q _ hn)) fun ws s2 ⟨ps,H2,I2,rel,e,kvs,ep,lk,q2⟩ => ?_);subst ep;obtain ⟨rs,c,rk⟩:=carries_of (P:=X.prog) (w:=X.w) rel;obtain ⟨z,hd,vs0,r0,dd⟩:=dk_of I2.hok e;cases r0;refine ⟨rs,c,dd,fun h' dd' hs=>⟨.ref s.heap.objs.size,_,?_,rfl,q2⟩⟩;have hz:(mergeK [] kvs).length≤sizeLine:=by
    have h1:=length_mergeK kvs [];rw [List.length_nil] at h1;rw [sizeLine_eq]; omega
  have he:∃ q,h'.get? s.heap.objs.size=some q:=let ⟨q,_,_,hq,_⟩:=dd'; ⟨q,hq⟩
  exact d_write I2 (by rw [e]; exact True.intro) hs he (dk_new hz hd (rk.merge .nil) dd')




section
variable {X:Cx} {pins:List (Addr × Obj)} {σ:St} {H:Hp} {s:Shared} {a:Addr} {y d:V} {u r:Value} {o:Option V} {A:Around} {E:Value→Shared→Prop}

end

section
variable {X:Cx} {o e f:Expr} {apos cpos:Pos} {td ty tx:TE}
end


section
variable {X:Cx} {pins:List (Addr × Obj)} {σ:St} {H:Hp} {s:Shared} {a:Addr} {kvs:List (Key × V)} {A:Around} {E:Value→Shared→Prop}
end


section
variable {X:Cx} {pins:List (Addr × Obj)} {σ:St} {H:Hp} {s:Shared} {a:Addr} {y:V} {u:Value} {A:Around} {E:Value→Shared→Prop}

end
end L2
namespace L2
open PySem PySem.Spec PyProof.Rows
section
variable {κ:Type} [DecidableEq κ]
end
end L2

set_option maxHeartbeats 4000000
namespace L2
open PySem PySem.Spec PyProof.Rows


def Itg (n:Nat) (g:Nat→V):It:=⟨fun i _=>i < n,fun i H x H'=>H'=H∧x=g i,fun i _=>n≤i⟩
theorem turn_walk {P:Program} {w:World} {K:PySem.W.Frag} {tg:Expr} {it:Addr} {n:Nat} {Pn:Nat→Value→Prop} {St:Nat→Heap→Prop} {g:Nat→V}
    (W:∀ A:Around,A.handled=none→Walks P w A it [it] [it] n Pn St) (hv:∀ i v,Pn i v→RelV (g i) v)
    (hk:∀ i h h',St i h→(∀ o,h.get? it=some o→h'.get? it=some o)→St i h')
    (hself:∀ (A:Around) (i:Nat) (s:Shared) (Q:Value→Shared→Prop) (E:Value→Shared→Prop),St i s.heap→Q (.ref it) s→wpAny (model P w) A (pyIter (.ref it)) Q E s)
    (ho:∀ i h,St i h→∃ o c vs,h.get? it=some o∧o.cls=.type c∧o.data=.fields vs ∧
      ["enumerate","zip","dict_itemiterator","dict_reverseitemiterator","odict_iterator","itertools.zip_longest","itertools.pairwise"].contains c=false) :
    Turn P w K tg (Itg n g) [it] it (fun i h=>i≤n∧St i h) where
  mem:=by simp
  obj:=fun i h st b hb=>by
    have e:b=it:=by simpa using hb
    subst e;obtain ⟨o,c,vs,e,_,d,_⟩:=ho i h st.2;exact ⟨o,e,fun v z=>by rw [d] at z; cases z⟩
  keep:=fun i h h' st k=>⟨st.1,hk i h h' st.2 fun o e=>k it (by simp) o e⟩
  item:=by
    intro X hP hw hK hc i pins s σ H E I hf st hg;subst hP hw hK;obtain ⟨f0,f1,f2,f3,f4,f5⟩:=hf it (by simp);refine (W X.A (I.ok.hd hc)).item i s _ _ hg st.2 fun v h' tk hP st' kk => ?_;have I1:Inv X pins σ H { s with heap:=h',toks:=tk }:=I.turned (fun b o hb e=>kk b o (by simpa using hb) e) f0 f1 f3 f4 f5;obtain ⟨o,c,vs,e,hcls,d,hn⟩:=ho _ _ st';exact ⟨v,rfl,go_of (s:={ s with heap:=h',toks:=tk }) e hcls d hn ⟨g i,H,I1,hv i v hP,⟨rfl,rfl⟩,⟨hg,st'⟩,fun b hb=>(hf b hb).1⟩⟩
  done:=by
    intro X hP hw hK hc i pins s σ H E I hf st hg;subst hP hw hK;obtain ⟨f0,f1,f2,f3,f4,f5⟩:=hf it (by simp);have hg':n≤i:=hg;have e:i=n:=Nat.le_antisymm st.1 hg';subst e;exact (W X.A (I.ok.hd hc)).done s _ _ st.2 fun h' tk kk=>⟨rfl,I.turned (fun b o hb e=>kk b o (by simpa using hb) e) f0 f1 f3 f4 f5⟩
  self:=fun A i s Q E st h=>hself A i s Q E st.2 h
theorem for_gen {n:Nat} {g':Nat→V} {g:TG} {tb:TS} {D:Ends} {σ:St} {H:Hp} (Pv:Nat→St→Hp→Prop) (h0:Pv 0 σ H)
    (hs:∀ i σ H,i < n→Pv i σ H→g (g' i) σ H fun σ2 H2=>tb { D with nx:=Pv (i + 1),ct:=Pv (i + 1),bk:=D.nx } σ2 H2) (hd:∀ σ H,Pv n σ H→D.nx σ H) :
    ∃ W:Nat→Nat→St→Hp→Prop,(∃ m,W 0 m σ H)∧∀ i m σ H,W i m σ H →
      ((Itg n g').stop i H∧D.nx σ H)∨((Itg n g').go i H∧∃ N:St→Hp→Prop,(∀ σ' H',N σ' H'→∃ m',m' < m∧W (i + 1) m' σ' H')∧∀ x H',(Itg n g').yld i H x H'→g x σ H' fun σ2 H2=>tb { D with nx:=N,ct:=N,bk:=D.nx } σ2 H2):=by
  refine ⟨fun i m σ H=>m=n - i∧i≤n∧Pv i σ H,⟨n,by simp,Nat.zero_le _,h0⟩,?_⟩;rintro i m σ H ⟨rfl,hi,p⟩;by_cases hlt:i < n
  · refine .inr ⟨hlt,Pv (i + 1),fun σ' H' p'=>⟨n - (i + 1),by omega,rfl,hlt,p'⟩,fun x H' y => ?_⟩;obtain ⟨e,y⟩:=y;subst e y;exact hs i σ _ hlt p
  · have e:i=n:=by omega
    subst e;exact .inl ⟨Nat.le_refl _,hd σ H p⟩

section
variable {X:Cx} {tg:Expr}

def sgn (z:Str) (i:Nat):Str:=⟨#[z.cps.getD i 0]⟩
def iStr (tl:TE):TI:=fun σ H R=>tl σ H fun x H1=>∃ z,x=.str z∧R (Itg z.length fun i=>.str (sgn z i)) H1
theorem sgn_of {z:Str} {i:Nat} {v:Value} (h:SignAt z i v):RelV (.str (sgn z i)) v:=by
  obtain ⟨c,u,hc,rfl⟩:=h;refine ⟨u,?_⟩;have e:z.cps.getD i 0=c:=by simp [Array.getD_eq_getD_getElem?,hc]
  unfold sgn;rw [e]
theorem pi_str {l:Expr} {tl:TE} (hl:PE X l tl):PI X tg l (iStr tl):=by
  intro pins s σ H R I h;refine thn (hl pins s σ H _ I h) fun v s1 ⟨x,H1,I1,r1,q1⟩ => ?_;obtain ⟨z,e,q⟩:=q1;subst e;obtain ⟨t,rfl⟩:=r1;have fp:∀ b∈[s1.heap.objs.size],FpOk X pins H1 b:=fun b hb=>by
    have e:b=s1.heap.objs.size:=by simpa using hb
    subst e;exact I1.fpOk (Nat.le_refl _) (I1.hok.fresh (Nat.le_refl _))
  cases ha:z.cps.all (· < 128)
  · refine wpAny_pyIter_wide ha ?_;refine ⟨s1.heap.objs.size,[s1.heap.objs.size],_,_,H1,rfl,I1.kept (t':=s1.toks) fun b o e=>Heap.get?_push_of_some _ e,
      turn_walk (St:=fun i h=>h.IsStrIter s1.heap.objs.size "str_iterator" z t i) (fun A hA=>Walks.strWide hA _ z t) (fun i v=>sgn_of) (fun i h h' st k=>let ⟨o,ho,r⟩:=st; ⟨o,k o ho,r⟩) (fun A i s Q E st hQ=>wpAny_pyIter_striter_wide st hQ)
        (fun i h st=>let ⟨o,ho,hc,hd⟩:=st; ⟨o,_,_,ho,hc,hd,by decide⟩),⟨Nat.zero_le _,⟨_,Heap.get?_push_size _ rfl,rfl,rfl⟩⟩,fp,q⟩
  · refine wpAny_pyIter_ascii ha ?_;refine ⟨s1.heap.objs.size,[s1.heap.objs.size],_,_,H1,rfl,I1.kept (t':=s1.toks) fun b o e=>Heap.get?_push_of_some _ e,
      turn_walk (St:=fun i h=>h.IsStrIter s1.heap.objs.size "str_ascii_iterator" z t i) (fun A hA=>Walks.strAscii hA _ z t) (fun i v=>sgn_of) (fun i h h' st k=>let ⟨o,ho,r⟩:=st; ⟨o,k o ho,r⟩) (fun A i s Q E st hQ=>wpAny_pyIter_striter_ascii st hQ)
        (fun i h st=>let ⟨o,ho,hc,hd⟩:=st; ⟨o,_,_,ho,hc,hd,by decide⟩),⟨Nat.zero_le _,⟨_,Heap.get?_push_size _ rfl,rfl,rfl⟩⟩,fp,q⟩


def iRng3 (ta:TA):TI:=fun σ H R=>ta σ H fun vs H1=>∃ (i j c:Int) (n:Nat),vs=[.int i,.int j,.int c]∧c≠0∧(c < 1073741824∧-1073741824 < c)∧Builtin.Range.small i j c=true∧Builtin.Range.rangeSize i j c=(n:Int)∧R (Itg n fun k=>.int (i + (k:Int) * c)) H1
theorem pi_range3 {a b d:Expr} {ta:TA} {p pos:Pos} (hg:Gl X "range") (hm:X.mg "range" = none) (ha:PA X [a,b,d] ta)
    (hs:starEach [a,b,d] X.env=(false,eval a X.env)::starEach [b,d] X.env:=by rfl) (hpl:(backTo pos (starEach [b,d] X.env)).any (·.1)=false:=by rfl) :
    PI X tg (.Call (.Name "range" p) [a,b,d] [] pos) (iRng3 ta):=by
  intro pins s σ H R I h;refine Call_ (ld_blt I hg hm boot_range (PyProof.Rows.callWith_type1 (thn (ha pos pins s σ H _ I h) fun us s1 ⟨vs,H1,I1,r1,q1⟩ => ?_) hs hpl));obtain ⟨i,j,c,n,e,hc,hc2,hsm,hsz,q⟩:=q1;subst e;cases r1 with
  | cons r rr =>
    cases rr with
    | cons r' rr =>
      cases rr with
      | cons r'' rr =>
        cases rr;obtain ⟨t,rfl⟩:=r;obtain ⟨t',rfl⟩:=r';obtain ⟨t'',rfl⟩:=r'';refine call_range_3 hc ?_ (.inl (PyProof.noPylong_small (by omega)));refine wpAny_pyIter_range (IsRange.new ..) hsm ?_;have I2:Inv X pins σ H1 { s1 with heap:=s1.heap.push { cls:=.type "range",data:=.fields #[.int i t,.int j t',.int c t''] } }:=I1.kept (t':=s1.toks) fun b o e=>Heap.get?_push_of_some _ e
        refine ⟨(s1.heap.push { cls:=.type "range",data:=.fields #[.int i t,.int j t',.int c t''] }).objs.size,[(s1.heap.push { cls:=.type "range",data:=.fields #[.int i t,.int j t',.int c t''] }).objs.size],_,_,H1,rfl,
          I2.kept (t':=s1.toks) fun b o e=>Heap.get?_push_of_some _ e,
          turn_walk (g:=fun k=>.int (i + (k:Int) * c)) (fun A hA=>Walks.range hA _ i c n) (fun k v h=>let ⟨t,e⟩:=h; ⟨t,e⟩) (fun i h h' st k=>k _ st) (fun A i s Q E st hQ=>wpAny_pyIter_rangeiter st hQ)
            (fun i h st=>⟨_,_,_,st,rfl,rfl,by decide⟩),⟨Nat.zero_le _,?_⟩,fun b hb => ?_,q⟩
        · have e1:i + ((0:Nat):Int) * c=i:=by simp
          have e2:(n:Int) - ((0:Nat):Int)=Builtin.Range.rangeSize i j c:=by rw [hsz]; simp
          show IsRangeIter _ _ (i + ((0:Nat):Int) * c) ((n:Int) - ((0:Nat):Int)) c;rw [e1,e2];exact Heap.get?_push_size _ rfl
        · have e:b=(s1.heap.push { cls:=.type "range",data:=.fields #[.int i t,.int j t',.int c t''] }).objs.size:=by simpa using hb
          subst e;exact I2.fpOk (Nat.le_refl _) (I2.hok.fresh (Nat.le_refl _))
end


section
variable {X:Cx}
theorem call_int_str:CallR X (.type "int") (fun xs H Q=>∃ z n,xs=[.str z]∧PySem.intText? z=some n∧z.length≤640∧Q (.int n) H):=by
  intro pins s σ H xs us Q I r h;obtain ⟨z,n,rfl,hn,hl,q⟩:=h;obtain ⟨u,rfl,t,rfl⟩:=vals1 r;exact PySem.W.KIN.call_text hn hl ⟨.int n,H,I.tok _,⟨_,rfl⟩,q⟩
theorem strsAre_of:∀ {ys:List Str} {us:List Value},Vals (ys.map V.str) us→StrsAre us ys
  | [],us,r=>by rw [List.map_nil] at r; cases r; exact .nil
  | y::ys,us,r=>by
    rw [List.map_cons] at r;cases r with
    | cons r1 r2 =>
      obtain ⟨t,e⟩:=r1;subst e;exact .cons y t (strsAre_of r2)
def rJoin (K:PySem.W.Frag):V→List V→Hp→VK→Prop:=fun x vs H Q=>∃ z a ys,x=.str z∧vs=[.ref a]∧SqL K H a (ys.map V.str)∧(ys.map (·.length)).sum + ys.length * z.length≤16777216∧Q (.str (Txt.join z ys)) H
theorem mt_join:MtR X "str.join" (rJoin X.K):=by
  intro pins s σ H x vs v us Q I rx rv h;obtain ⟨z,a,ys,rfl,rfl,hS,hz,q⟩:=h;obtain ⟨t,rfl⟩:=rx;obtain ⟨u,rfl,ru⟩:=rv.one;cases ru;obtain ⟨its,r,pl,_⟩:=I.list hS;exact join_list pl.isList (by simpa using strsAre_of r) hz fun t' k=>⟨.str _,H,I.tok _,⟨_,rfl⟩,q⟩
def rSlS:V→Option Int→Option Int→Hp→VK→Prop:=fun x lo hi H Q=>∃ z,x=.str z∧z.length≤sizeLine∧Q (.str (Txt.slice z lo hi)) H
theorem sl_str:SlR X rSlS:=by
  intro pins s σ H x v vl vu lo hi sl Q I rx hs pl pu h;obtain ⟨z,rfl,hz,q⟩:=h;obtain ⟨t,rfl⟩:=rx;refine ⟨"str",_,F.slot_str_getitem.lookup,typeIs_str _ _ _,?_⟩
  obtain ⟨o,e1,e2,e3⟩:=hs;have fin:∀ (z':Str) (t':Tok) (k:Nat),z'=Txt.slice z lo hi→EP X pins σ Q (.str z' t') { s with toks:=k }:=fun z' t' k e=>by
    subst e;exact ⟨.str _,H,I.tok _,⟨_,rfl⟩,q⟩
  cases pl with
  | none =>
    cases pu with
    | none=>exact wpAny_getItem_str_slice (l:=none) (u:=none) (st:=none) ⟨o,e1,e2,e3⟩ rfl (post_val_or_str ⟨Nat.le_trans (Txt.slice_le z _ _) hz,fun t' k=>fin _ t' k rfl⟩)
    | int j uj=>exact wpAny_getItem_str_slice (l:=none) (u:=some (j,uj)) (st:=none) ⟨o,e1,e2,e3⟩ rfl (post_val_or_str ⟨Nat.le_trans (Txt.slice_le z _ _) hz,fun t' k=>fin _ t' k rfl⟩)
  | int i ui =>
    cases pu with
    | none=>exact wpAny_getItem_str_slice (l:=some (i,ui)) (u:=none) (st:=none) ⟨o,e1,e2,e3⟩ rfl (post_val_or_str ⟨Nat.le_trans (Txt.slice_le z _ _) hz,fun t' k=>fin _ t' k rfl⟩)
    | int j uj=>exact wpAny_getItem_str_slice (l:=some (i,ui)) (u:=some (j,uj)) (st:=none) ⟨o,e1,e2,e3⟩ rfl (post_val_or_str ⟨Nat.le_trans (Txt.slice_le z _ _) hz,fun t' k=>fin _ t' k rfl⟩)


def rIsiT (K:PySem.W.Frag) (T:String):List V→Hp→VK→Prop:=fun xs H Q=>∃ x t b,xs=[x,.ty T]∧TyOf K H x t∧PySem.W.kitOne K t (.type T)=some b∧Q (.bl b) H
theorem call_isiT (T:String):CallR X (.builtin "isinstance") (rIsiT X.K T):=by
  intro pins s σ H xs us Q I r h;obtain ⟨x,t,b,rfl,ty,hk,q⟩:=h;obtain ⟨u,c,rfl,rx,rc⟩:=vals2 r;cases (show c=.type T from rc);exact isinst_ok I rx ty hk fun tk=>⟨.bl b,H,I.tok _,rfl,q⟩
end
end L2

namespace L2
open PySem PySem.Spec PyProof.Rows


section
variable {prog:Program} {w:World} {A:Around} {R:Result→Shared→Prop} {s:Shared}
theorem compLoop_go {elt target iter:Expr} {scope:Scope} {pos:Pos} {it acc:Value} {env:Env} (I:Nat→Shared→Prop)
    (turn:∀ n s,I n s→wpAny (model prog w) A (pyNext it) (fun r s1=>match r with
      | none=>R (.ok .next) s1
      | some v=>wpAny (model prog w) A (letOwnedTupleGo target it v) (fun _ s2=>wpAny (model prog w) A (assign target env v) (fun _ s3 =>
          wpAny (model prog w) A (eval elt env) (fun x s4 =>
            wpAny (model prog w) A (call (.builtin "list.append") [acc,x]) (fun _ s5=>∃ m,m < n∧I m s5) (notedBy (model prog w) A env fun e s'=>R (.error e) s') s4) (notedBy (model prog w) A env fun e s'=>R (.error e) s') s3)
          (notedBy (model prog w) A env fun e s'=>R (.error e) s') s2) (notedBy (model prog w) A env fun e s'=>R (.error e) s') s1) (notedBy (model prog w) A env fun e s'=>R (.error e) s') s)
    (n:Nat) (h:I n s) :
    codeAny (model prog w) A (.compLoop (.ListComp elt [⟨target,iter,[],0⟩] scope pos) 0 it acc env) R s:=by
  refine codeAny_loop rfl I (fun n s hI => ?_) n h;show wpAny _ A ((compTurn (.ListComp elt [⟨target,iter,[],0⟩] scope pos) 0 it acc env).onRaise (fun x=>do noteFrame x env; theTreesLotGoes x)) _ _ s;refine wpAny_noted ?_;rw [compTurn_list];refine wpAny_bind (wpAny_standAt (wpAny_bind (wpAny_mono (turn n s hI) (fun r s1 h1 => ?_) fun _ _ h'=>h')));cases r with
  | none=>exact wpAny_pure h1
  | some v =>
    refine wpAny_bind (wpAny_mono h1 (fun _ s2 h2=>wpAny_bind (wpAny_mono h2 (fun _ s3 h3 => ?_) fun _ _ h'=>h')) fun _ _ h'=>h');refine wpAny_bind (wpAny_tests_nil ?_);exact wpAny_bind (wpAny_bind (wpAny_mono h3 (fun x s4 h4=>wpAny_bind (wpAny_mono h4 (fun _ s5 h5=>wpAny_pure (wpAny_pure ⟨rfl,h5⟩)) fun _ _ h'=>h')) fun _ _ h'=>h'))
theorem compLoop_if {elt target iter c:Expr} {scope:Scope} {pos:Pos} {it acc:Value} {env:Env} (I:Nat→Shared→Prop)
    (turn:∀ n s,I n s→wpAny (model prog w) A (pyNext it) (fun r s1=>match r with
      | none=>R (.ok .next) s1
      | some v=>wpAny (model prog w) A (letOwnedTupleGo target it v) (fun _ s2=>wpAny (model prog w) A (assign target env v) (fun _ s3 =>
          wpAny (model prog w) A (isTrue c env (eval c env)) (fun ok s4=>if ok=true then
          wpAny (model prog w) A (eval elt env) (fun x s4 =>
            wpAny (model prog w) A (call (.builtin "list.append") [acc,x]) (fun _ s5=>∃ m,m < n∧I m s5) (notedBy (model prog w) A env fun e s'=>R (.error e) s') s4) (notedBy (model prog w) A env fun e s'=>R (.error e) s') s4
          else ∃ m,m < n∧I m s4) (notedBy (model prog w) A env fun e s'=>R (.error e) s') s3)
          (notedBy (model prog w) A env fun e s'=>R (.error e) s') s2) (notedBy (model prog w) A env fun e s'=>R (.error e) s') s1) (notedBy (model prog w) A env fun e s'=>R (.error e) s') s)
    (n:Nat) (h:I n s) :
    codeAny (model prog w) A (.compLoop (.ListComp elt [⟨target,iter,[c],0⟩] scope pos) 0 it acc env) R s:=by
  refine codeAny_loop rfl I (fun n s hI => ?_) n h;show wpAny _ A ((compTurn (.ListComp elt [⟨target,iter,[c],0⟩] scope pos) 0 it acc env).onRaise (fun x=>do noteFrame x env; theTreesLotGoes x)) _ _ s;refine wpAny_noted ?_;rw [compTurn_list];refine wpAny_bind (wpAny_standAt (wpAny_bind (wpAny_mono (turn n s hI) (fun r s1 h1 => ?_) fun _ _ h'=>h')));cases r with
  | none=>exact wpAny_pure h1
  | some v =>
    refine wpAny_bind (wpAny_mono h1 (fun _ s2 h2=>wpAny_bind (wpAny_mono h2 (fun _ s3 h3 => ?_) fun _ _ h'=>h')) fun _ _ h'=>h');refine wpAny_bind (wpAny_mono (wpAny_tests_one h3) (fun ok s4 h4 => ?_) fun _ _ h'=>h');cases ok with
    | false=>exact wpAny_pure ⟨rfl,h4⟩
    | true =>
      exact wpAny_bind (wpAny_bind (wpAny_mono h4 (fun x s4 h4=>wpAny_bind (wpAny_mono h4 (fun _ s5 h5=>wpAny_pure (wpAny_pure ⟨rfl,h5⟩)) fun _ _ h'=>h')) fun _ _ h'=>h'))
end

def cxComp (X:Cx) (N':List Str) (scope:Scope) (C:Addr) (s0:Shared) (H0:Hp) (fp:List Addr) (pins:List (Addr × Obj)):Cx where
  prog:=X.prog
  w:=X.w
  K:=X.K
  mg:=X.mg
  base:=X.base
  A:=X.A
  N:=N'
  s₀:=s0
  H₀:=H0
  env:=compEnv scope C X.env
  outer:=X.stack
  stack:=X.stack
  ex:=fp
  fn:=fun _=>false
  calm:=X.calm
  pn:=X.pn++pins
  xe:=fun _ _=>False


def compK (N':List Str) (g:TG) (te:TE) (Q:VK):It→Hp→Prop:=fun J H1=>∀ D,H1 D=none→∃ W:Nat→Nat→List V→Hp→Prop,(∃ m,W 0 m [] (upd H1 D (.lst []))) ∧
  ∀ i m ys H2,W i m ys H2→H2 D=some (.lst ys)∧((J.stop i H2∧Q (.ref D) H2)∨(J.go i H2∧ys.length < sizeLine ∧
    ∀ x H',J.yld i H2 x H'→g x (List.replicate N'.length none) H' fun σ2 H3=>te σ2 H3 fun y H4=>H4 D=some (.lst ys)∧∃ m',m' < m∧W (i + 1) m' (ys++[y]) (upd H4 D (.lst (ys++[y])))))
def tComp (N':List Str) (wi:TI) (g:TG) (te:TE):TE:=fun σ H Q=>wi σ H (compK N' g te Q)

section
variable {X:Cx} {elt tg iter:Expr} {scope:Scope} {pos:Pos} {N':List Str} {wi:TI} {g:TG} {te:TE}
theorem HOk.but {P:Program} {w:World} {H:Hp} {h h':Heap} {C:Addr} (x:HOk P w H h) (n:H C=none) (k:∀ b u,b≠C→h.get? b=some u→h'.get? b=some u):HOk P w H h':=fun a o e =>
  (x a o e).stay (fun b u hb q=>k b u (by
    rcases hb with z | z
    · rw [z]; intro z2; rw [z2,n] at e; cases e
    · intro z2; rw [z2,n] at z; cases z) q) (fun _ q=>q) fun _ _ q=>q
theorem pe_comp (hfree:∀ y∈scope.names,y.2≠.free) (hcell:∀ y∈scope.names,y.2≠.cell) (hkind:scope.kind=.function) (hnames:∀ y∈scope.names,y.2=.local→scope.names.lookup y.1=some .local)
    (hcalm:X.calm=true) (hi:PI X tg iter wi) (hg:∀ C s0 H0 fp pins,PG (cxComp X N' scope C s0 H0 fp pins) tg g) (he:∀ C s0 H0 fp pins,PE (cxComp X N' scope C s0 H0 fp pins) elt te)
    (hs:∀ x,foldedSetIterable iter X.env x=pure x:=by intro _; rfl):PE X (.ListComp elt [⟨tg,iter,[],0⟩] scope pos) (tComp N' wi g te):=by
  intro pins s σ H Q I h;refine wpAny_ListComp hfree hkind hnames (thn (hi pins s σ H _ I h) fun v s1 h1=>thn h1 fun itv s2 h2 => ?_) hs;obtain ⟨it,fp,tn,J,H2,e,I2,T,st2,f2,hW⟩:=h2;subst e;refine wpAny_newObj_type (wpAny_newFunctionEnv hcell (by intro y hy; simp at hy) (fun h₁ hns₁ hsb₁ => ?_) hkind);dsimp only at hns₁ hsb₁ ⊢;generalize hH2:s2.heap.push { cls:=.type "list",dict:=none,data:=.seq ([]:List Value).toArray }=P2 at hns₁ hsb₁ ⊢
  have hC:P2.objs.size=s2.heap.objs.size + 1:=by rw [← hH2,Heap.size_push]
  have below:∀ b,b < s2.heap.objs.size→b≠P2.objs.size∧b≠s2.heap.objs.size:=fun b hb=>⟨by rw [hC]; exact Nat.ne_of_lt (Nat.lt_succ_of_lt hb),Nat.ne_of_lt hb⟩;have hDC:s2.heap.objs.size≠P2.objs.size:=by rw [hC]; exact Nat.ne_of_lt (Nat.lt_succ_self _)
  have old:∀ b o,s2.heap.get? b=some o→h₁.get? b=some o:=fun b o e=>hsb₁.extBut b o (below b (Heap.lt_size e)).1 (Heap.get?_push_of_some _ (hH2▸Heap.get?_push_of_some _ e));have hD:h₁.get? s2.heap.objs.size=some { cls:=.type "list",dict:=none,data:=.seq ([]:List Value).toArray }:=hsb₁.extBut _ _ hDC (Heap.get?_push_of_some _ (hH2▸Heap.get?_push_size _ rfl))
  have frD:H2 s2.heap.objs.size=none:=I2.hok.fresh (Nat.le_refl _);have frC:H2 P2.objs.size=none:=I2.hok.fresh (by rw [hC]; exact Nat.le_succ _);have hfp:∀ b∈fp,b < s2.heap.objs.size:=fun b hb=>by
    obtain ⟨o,e,_⟩:=T.obj _ _ st2 b hb;exact Heap.lt_size e
  have nst:∀ b,b≠X.env.locals→b∉X.fs→b∉frs X.stack:=fun b n1 n2 z=>by
    rcases List.mem_cons.mp (I2.stkSub b z) with e | e
    · exact n1 e
    · exact n2 e
  obtain ⟨W,⟨m0,w0⟩,turn⟩:=hW s2.heap.objs.size frD;have nocell:∀ (x:Str) (c:Addr),(compEnv scope P2.objs.size X.env).cells.lookup x=some c→False:=fun x c e=>by
    have e':([]:List (Str × Addr)).lookup x=some c:=e;cases e'
  have ok':(cxComp X N' scope P2.objs.size s2 H2 fp pins).Ok:=by
    refine ⟨I2.ok.mod,hkind,I2.ok.glob,I2.ok.blt,?_,fun x y c e=>(nocell x c e).elim,fun x hx => ?_,fun x c _ e=>(nocell x c e).elim,I2.ok.hd,I2.ok.frames,.inl rfl,fun b hb=>⟨(below b (hfp b hb)).1,fun x c e=>(nocell x c e).elim⟩,I2.bs,Nat.le_trans I2.ok.bsz I2.sz,fun b o e hb => ?_,fun b hb=>nst b (f2 b hb).2.1 (f2 b hb).2.2.1,I2.stack,I2.stkFree⟩
    · show s2.heap.objs.size≤P2.objs.size;rw [hC]; exact Nat.le_succ _
    · have hx':scope.names.lookup x=some .cell∨scope.names.lookup x=some .free:=hx;rcases hx' with z | z
      · exact absurd rfl (hcell _ (PySem.mem_of_lookup z))
      · exact absurd rfl (hfree _ (PySem.mem_of_lookup z))
    · rcases (f2 b hb).2.2.2.1 with z | z
      · exact I2.ok.noex b o e z
      · exact absurd (Nat.lt_of_lt_of_le (Heap.lt_size (I2.ok.bs b o e).1) z) (Nat.lt_irrefl _)
  have I':Inv (cxComp X N' scope P2.objs.size s2 H2 fp pins) [] (List.replicate N'.length none) (upd H2 s2.heap.objs.size (.lst [])) { s2 with heap:=h₁,toks:=s2.toks + ([]:List (Str × Value)).length }:=by
    refine ⟨ok',rfl,I2.bare,Un.laid old (Nat.le_refl _) frD,⟨_,hns₁,fun i x v e1 e2 e3 => ?_⟩,fun x c e=>(nocell x c e).elim,?_,fun x c e=>(nocell x c e).elim,fun p hp => ?_,I2.hok.laid old (Nat.le_refl _) ⟨by simp,[],0,.nil,hD⟩,by simp [cxComp]⟩
    · rw [List.getElem?_replicate] at e2
      split at e2 <;> cases e2
    · show upd H2 s2.heap.objs.size (.lst []) P2.objs.size=none;rw [upd_ne (Ne.symm hDC)]; exact frC
    · have hp':p∈X.pn++pins:=by
        rcases List.mem_append.mp hp with z | z
        · exact z
        · cases z
      obtain ⟨a1,a2,a3,a4,a5⟩:=I2.pin p hp';refine ⟨old _ _ a1,?_,(below _ (Heap.lt_size a1)).1,nst _ a3 a4,a5⟩;rw [upd_ne (below _ (Heap.lt_size a1)).2]; exact a2
  have stat:∀ {H':Hp},(∀ b∈fp,H' b=none)→∀ b∈fp,FpOk (cxComp X N' scope P2.objs.size s2 H2 fp pins) [] H' b:=fun {H'} hn b hb =>
    ⟨hn b hb,(below b (hfp b hb)).1,nst b (f2 b hb).2.1 (f2 b hb).2.2.1,.inl hb,fun x c e=>(nocell x c e).elim,fun p hp=>(f2 b hb).2.2.2.2.2 p (by
      rcases List.mem_append.mp hp with z | z
      · exact z
      · cases z)⟩
  have fin:∀ (ys:List V) (σ':St) (H':Hp) (s':Shared),Inv (cxComp X N' scope P2.objs.size s2 H2 fp pins) [] σ' H' s'→Q (.ref s2.heap.objs.size) H' →
      ∃ m,s'.heap.Ns P2.objs.size m∧∀ h',Heap.SameBut P2.objs.size s'.heap h'→EP X pins σ Q (.ref s2.heap.objs.size) { s' with heap:=h' }:=by
    intro ys σ' H' s' J1 q;obtain ⟨m,hm,_⟩:=id J1.loc;refine ⟨m,hm,fun h' sb=>⟨.ref s2.heap.objs.size,H',?_,rfl,q⟩⟩;have ne:∀ b o,s2.heap.get? b=some o→b≠P2.objs.size:=fun b o e=>(below b (Heap.lt_size e)).1;refine I2.call' (s':={ s' with heap:=h' }) (ch:=fp) J1.os ⟨fun b o e n hb hx => ?_,fun b o e n hb hx => ?_,fun b o e n hx=>J1.base.free b o e n hx,fun b o e hx => ?_,J1.base.tups,J1.base.frzs,J1.base.tbls⟩ (J1.hok.but J1.free fun b u hb q=>(sb.2 b hb).trans q) J1.bare fun b hb=>⟨(f2 b hb).2.2.2.1,(f2 b hb).2.1,(f2 b hb).2.2.2.2.1,(f2 b hb).2.2.2.2.2⟩
    · exact (sb.2 b (ne b o e)).trans (J1.base.keep b o e n hb hx)
    · obtain ⟨sl,z⟩:=J1.base.slot b o e n hb hx;exact ⟨sl,(sb.2 b (ne b o e)).trans z⟩
    · obtain ⟨o',z⟩:=J1.base.there b o e hx;exact ⟨o',(sb.2 b (ne b o e)).trans z⟩
  have loop:codeAny (model X.prog X.w) X.A (.compLoop (.ListComp elt [⟨tg,iter,[],0⟩] scope pos) 0 (.ref it) (.ref s2.heap.objs.size) (compEnv scope P2.objs.size X.env))
      (fun r s'=>∃ m,s'.heap.Ns P2.objs.size m∧∀ h',Heap.SameBut P2.objs.size s'.heap h'→match r with
        | .ok _=>EP X pins σ Q (.ref s2.heap.objs.size) { s' with heap:=h' }
        | .error x=>wpAny (model X.prog X.w) X.A (passOn "comprehension.variables-let-go" x (compEnv scope P2.objs.size X.env)) (EP X pins σ Q) X.xe { s' with heap:=h' })
      { s2 with heap:=h₁,toks:=s2.toks + ([]:List (Str × Value)).length }:=by
    refine compLoop_go (fun n s'=>∃ i ys σ' H',Inv (cxComp X N' scope P2.objs.size s2 H2 fp pins) [] σ' H' s'∧tn i s'.heap∧(∀ b∈fp,H' b=none)∧W i n ys H') ?_ m0
      ⟨0,[],List.replicate N'.length none,_,I',T.keep _ _ _ st2 (fun b hb o e=>old b o e),fun b hb=>by rw [upd_ne (below b (hfp b hb)).2]; exact (f2 b hb).1,w0⟩
    rintro n s3 ⟨i,ys,σ3,H3,J3,st3,fr3,w3⟩;obtain ⟨hl,q3⟩:=turn i n ys H3 w3;rcases q3 with ⟨stop,q⟩ | ⟨go,hlt,step⟩
    · refine thn (T.done (cxComp X N' scope P2.objs.size s2 H2 fp pins) rfl rfl rfl hcalm i [] s3 σ3 H3 _ J3 (stat fr3) st3 stop) fun r s4 ⟨hr,J4⟩ => ?_;subst hr;exact fin ys σ3 H3 s4 J4 q
    · refine thn (T.item (cxComp X N' scope P2.objs.size s2 H2 fp pins) rfl rfl rfl hcalm i [] s3 σ3 H3 _ J3 (stat fr3) st3 go) fun r s4 ⟨u,hr,h4⟩ => ?_;subst hr;refine thn h4 fun _ s5 ⟨x,H5,J5,r5,y5,st5,fr5⟩ => ?_;have J5':=J5.pinned (stat fr5) (T.obj _ _ st5);have J6:Inv (cxComp X N' scope P2.objs.size s2 H2 fp pins) ([]++pinsAt fp s5.heap) (List.replicate N'.length none) H5 s5:=J5'.weak (by rw [J5'.len]; simp [cxComp]) fun j v e=>by
        rw [List.getElem?_replicate] at e
        split at e <;> cases e
      refine wpAny_mono (hg _ _ _ _ _ _ s5 _ H5 x u _ J6 r5 (step x H5 y5)) (fun _ s6 ⟨σ6,H6,J7,q6⟩ => ?_) fun _ _ z=>False.elim z;refine wpAny_mono (he _ _ _ _ _ _ s6 σ6 H6 _ J7 q6) (fun yv s7 ⟨y,H7,J8,r7,q7⟩ => ?_) fun _ _ z=>False.elim z;obtain ⟨hl7,m',hm',w7⟩:=q7;refine wpAny_mono (mt_append (X:=cxComp X N' scope P2.objs.size s2 H2 fp pins) _ s7 σ6 H7 (.ref s2.heap.objs.size) [y] (.ref s2.heap.objs.size) [yv] (fun v H8=>H8=upd H7 s2.heap.objs.size (.lst (ys++[y]))) J8 rfl (.cons r7 .nil) ⟨_,ys,y,rfl,rfl,hl7,hlt,rfl⟩) (fun _ s8 ⟨v8,H8,J9,r8,e8⟩ => ?_) fun _ _ z=>False.elim z;subst e8;have pk:∀ b∈fp,∀ o,s5.heap.get? b=some o→s8.heap.get? b=some o∧upd H7 s2.heap.objs.size (.lst (ys++[y])) b=none:=fun b hb o e =>
        let z:=J9.pin (b,o) (List.mem_append_right _ (List.mem_append_right _ (mem_pinsAt hb e)))
        ⟨z.1,z.2.1⟩
      refine ⟨m',hm',i + 1,ys++[y],σ6,_,J9.unpinned,T.keep _ _ _ st5 fun b hb o e=>(pk b hb o e).1,fun b hb => ?_,w7⟩;obtain ⟨o,e,_⟩:=T.obj _ _ st5 b hb;exact (pk b hb o e).2
  exact codeAny_compStart_list loop (T.self X.A 0 { s2 with heap:=h₁,toks:=s2.toks + ([]:List (Str × Value)).length } _ _ (T.keep _ _ _ st2 fun b hb o e=>old b o e) loop)
end

section
variable {X:Cx}
theorem boolsAre_of:∀ {bs:List Bool} {us:List Value},Vals (bs.map V.bl) us→LSm.BoolsAre us bs
  | [],us,r=>by rw [List.map_nil] at r; cases r; exact .nil
  | b::bs,us,r=>by
    rw [List.map_cons] at r;cases r with
    | cons r1 r2 =>
      cases (show _=Value.bool b from r1);exact .cons b (boolsAre_of r2)
theorem call_all (hc:X.calm=true):CallR X (.builtin "all") (fun xs H Q=>∃ (a:Addr) (bs:List Bool),xs=[.ref a]∧SqL X.K H a (bs.map V.bl)∧Q (.bl (bs.all id)) H):=by
  intro pins s σ H xs us Q I r h;obtain ⟨a,bs,rfl,hS,q⟩:=h;obtain ⟨u,rfl,ru⟩:=vals1 r;cases ru;obtain ⟨its,rv,pl,_⟩:=I.list hS;have hb:=boolsAre_of rv;have hlt:a < s.heap.objs.size:=by obtain ⟨_,e,_⟩:=pl.isList; exact Heap.lt_size e
  refine call_all_walk (wpAny_pyIter_list pl.isList ?_);refine ⟨s.heap.objs.size,[s.heap.objs.size,a],[s.heap.objs.size],its.toArray.size,_,_,fun i=>(bs[i]?).getD true,rfl,Walks.list (A:=X.A.in1) (I.ok.hd hc) _ a (Nat.ne_of_lt hlt) its.toArray,
    ⟨⟨_,Heap.get?_push_size _ rfl,rfl,rfl⟩,pl.isList.push _⟩,fun i v s' Q' E' hP hQ => ?_,fun h' tk hk => ?_⟩
  · obtain ⟨b,e,rfl⟩:=hb.get i v (by simpa using hP);simp only [e,Option.getD_some] at hQ;exact wpAny_truthy_bool hQ
  · have e:((List.range its.toArray.size).all fun i=>(bs[i]?).getD true)=bs.all id:=by
      rw [List.size_toArray,hb.length]; exact LSm.range_all bs
    rw [e];exact ⟨.bl _,H,I.kept (LSm.kept_iter hk),rfl,q⟩


theorem mt_index:MtR X "str.index" (fun x vs H Q=>∃ z y i rest,x=.str z∧vs=[.str y]∧Builtin.Str.occurrences z y 0 z.length 1=i::rest∧Q (.int (i:Nat)) H):=by
  intro pins s σ H x vs v us Q I rx rv h;obtain ⟨z,y,i,rest,rfl,rfl,ho,q⟩:=h;obtain ⟨t,rfl⟩:=rx;obtain ⟨u,rfl,tu,rfl⟩:=rv.one;exact SC.index ho ⟨.int _,H,I.tok _,⟨_,rfl⟩,q⟩
end
end L2

namespace L2
open PySem PySem.Spec PyProof.Rows



def Quiet (CX:CXT):Prop:=∀ outer H s e s',CX outer H s E0 e s'→False
theorem passQ {CX:CXT} {X:Cx} (q:Quiet CX):Passes CX X E0:=fun _ _ _ _ _ _ _ h=>(q _ _ _ _ _ h).elim
structure Fok (P:Program) (w:World) (K:PySem.W.Frag) (mg:Str→Option Value) (base:Heap) (CX:CXT) (j:Nat) (x:Str) (ps:List Str) (dvs:List V) (sp:Sp):Prop where
  ex:∃ f fd ds,FnOk P w K mg base CX j f fd ps sp∧Binds K fd ps ds∧Vals dvs ds∧PySem.W.keepIn K (.ref f)=true∧mg x=some (.ref f)
section
variable {X:Cx} {CX:CXT} {j k:Nat} {ps:List Str} {sp:Sp} {dvs:List V} {E:XK} {x:Str} {p pos:Pos} {e:Expr} {es:List Expr} {t:TA}

theorem pe_callX (F:Fok X.prog X.w X.K X.mg X.base CX j x ps dvs sp) (hr:Room k X.A) (hx:Passes CX X E) (ha:PA X (e::es) t) (hj:j≤k:=by decide) (hg:Gl X x:=by rfl)
    (hdb:(x == ("__debug__" : Str))=false:=by decide) (he:starEach (e::es) X.env=(false,eval e X.env)::starEach es X.env:=by rfl) (hpl:(backTo pos (starEach es X.env)).any (·.1)=false:=by rfl) :
    PE X (.Call (.Name x p) (e::es) [] pos) (tCall sp dvs E t):=by
  obtain ⟨f,fd,ds,G,b,v,kp,m⟩:=F.ex;exact pe_call G (hr.mono hj) hg m kp b v hx ha hdb he hpl
theorem pe_callF (F:Fok X.prog X.w X.K X.mg X.base CX j x ps dvs sp) (q:Quiet CX) (hr:Room k X.A) (ha:PA X (e::es) t) (hj:j≤k:=by decide) (hg:Gl X x:=by rfl)
    (hdb:(x == ("__debug__" : Str))=false:=by decide) (he:starEach (e::es) X.env=(false,eval e X.env)::starEach es X.env:=by rfl) (hpl:(backTo pos (starEach es X.env)).any (·.1)=false:=by rfl) :
    PE X (.Call (.Name x p) (e::es) [] pos) (tCall sp dvs E0 t):=pe_callX F hr (passQ q) ha hj hg hdb he hpl
end
section
variable {P:Program} {w:World} {K:PySem.W.Frag} {mg:Str→Option Value} {base:Heap}

structure FunD (K:PySem.W.Frag) (x qual:Str) (st:Stmt) (f:Addr) (fd:FuncData) (dV:Value):Prop where
  ex:∃ (oc:Value) (od:Option Addr) (kV doc pm:Value) (an:Option Addr) (cdv ct:Value) (osl:Array (Option Value)),
    fd=PySem.W.fnOf x qual (defArgs st) (defBody st) (defScope st) dV kV doc pm an cdv ct∧K.lookup f=some ⟨oc,od,.func fd,osl⟩∧PySem.W.codeIn K cdv qual=true
  kp:PySem.W.keepIn K (.ref f)=true
theorem funD_mk {x qual:Str} {st:Stmt} {f:Addr} {oc:Value} {od an:Option Addr} {osl:Array (Option Value)} {dV kV doc pm cdv ct:Value} (l:K.lookup f=some ⟨oc,od,.func (PySem.W.fnOf x qual (defArgs st) (defBody st) (defScope st) dV kV doc pm an cdv ct),osl⟩)
    (c:PySem.W.codeIn K cdv qual=true) (k:PySem.W.keepIn K (.ref f)=true):FunD K x qual st f (PySem.W.fnOf x qual (defArgs st) (defBody st) (defScope st) dV kV doc pm an cdv ct) dV:=⟨⟨oc,od,kV,doc,pm,an,cdv,ct,osl,rfl,l,c⟩,k⟩

theorem FunD.ok {x qual:Str} {st:Stmt} {f:Addr} {fd:FuncData} {dV:Value} {N ps:List Str} {k:Nat} {sp:Sp} {CX:CXT} (F:FunD K x qual st f fd dV) (S:FnScope N ps (defScope st)) (len:∀ vs H Q E,sp vs H Q E→vs.length=ps.length)
    (hbody:∀ (cdv:Value) (A:Around) (outer:List Env) (s:Shared) (H:Hp) (vs:List V) (Q:VK) (E:XK),Room k (A.deeper (envOfC qual (defScope st) s.heap.objs.size f cdv))→sp vs H Q E →
      ∃ t,PSs (cxOf CX P w K mg base N qual (defScope st) f cdv A outer s H E).nox (defBody st) t∧t { nx:=fun _ H'=>Q .non H',rt:=Q } (start N vs) H):FnOk P w K mg base CX (k + 1) f fd ps sp:=by
  obtain ⟨oc,od,kV,doc,pm,an,cdv,ct,osl,rfl,lk,hcd⟩:=F.ex;refine fn_of lk hcd S len fun A outer s H vs Q E hr hsp => ?_;obtain ⟨t,h,q⟩:=hbody cdv A outer s H vs Q E hr hsp;exact ⟨t,h.nox,q⟩

theorem FunD.okX {x qual:Str} {st:Stmt} {f:Addr} {fd:FuncData} {dV:Value} {N ps:List Str} {k:Nat} {sp:Sp} {CX:CXT} (F:FunD K x qual st f fd dV) (S:FnScope N ps (defScope st)) (len:∀ vs H Q E,sp vs H Q E→vs.length=ps.length)
    (hbody:∀ (cdv:Value) (A:Around) (outer:List Env) (s:Shared) (H:Hp) (vs:List V) (Q:VK) (E:XK),Room k (A.deeper (envOfC qual (defScope st) s.heap.objs.size f cdv))→sp vs H Q E →
      ∃ t,PSs (cxOf CX P w K mg base N qual (defScope st) f cdv A outer s H E) (defBody st) t∧t { nx:=fun _ H'=>Q .non H',rt:=Q } (start N vs) H):FnOk P w K mg base CX (k + 1) f fd ps sp:=by
  obtain ⟨oc,od,kV,doc,pm,an,cdv,ct,osl,rfl,lk,hcd⟩:=F.ex;exact fn_of lk hcd S len fun A outer s H vs Q E hr hsp=>hbody cdv A outer s H vs Q E hr hsp

theorem FunD.binds {x qual:Str} {st:Stmt} {f:Addr} {fd:FuncData} {dV:Value} {ps:List Str} (F:FunD K x qual st f fd dV)
    (h:∀ (kV doc pm:Value) (an:Option Addr) (cdv ct:Value) (us:List Value),us.length=ps.length→bindArgs (PySem.W.fnOf x qual (defArgs st) (defBody st) (defScope st) dV kV doc pm an cdv ct) ⟨us,[]⟩=pure (ps.zip us)):Binds K fd ps []:=by
  obtain ⟨oc,od,kV,doc,pm,an,cdv,ct,osl,rfl,lk,hcd⟩:=F.ex;exact .all (h kV doc pm an cdv ct)

theorem FunD.bindsD {x qual:Str} {st:Stmt} {f t:Addr} {fd:FuncData} {ps:List Str} {o:Obj} {items:Array Value} {n:Nat} {ds:List Value} (F:FunD K x qual st f fd (.ref t)) (ho:K.lookup t=some o) (hs:o.data=.seq items n)
    (h:∀ (kV doc pm:Value) (an:Option Addr) (cdv ct:Value) (us:List Value),(us++ds).length=ps.length →
      ∃ k,bindArgs (PySem.W.fnOf x qual (defArgs st) (defBody st) (defScope st) (.ref t) kV doc pm an cdv ct) ⟨us,[]⟩=seqItems? (.ref t) >>= k∧k (some items)=pure (ps.zip (us++ds))):Binds K fd ps ds:=by
  obtain ⟨oc,od,kV,doc,pm,an,cdv,ct,osl,rfl,lk,hcd⟩:=F.ex;intro s us X hl;obtain ⟨k,h1,h2⟩:=h kV doc pm an cdv ct us hl;exact BindsTo.of_defaults rfl (X _ _ ho) hs h1 h2

theorem fok {CX:CXT} {j:Nat} {x qual:Str} {st:Stmt} {f:Addr} {fd:FuncData} {dV:Value} {ps:List Str} {sp:Sp} (F:FunD K x qual st f fd dV) (G:FnOk P w K mg base CX j f fd ps sp) (b:Binds K fd ps []) (m:mg x=some (.ref f)) :
    Fok P w K mg base CX j x ps [] sp:=⟨f,fd,[],G,b,.nil,F.kp,m⟩

theorem fokD {CX:CXT} {j:Nat} {x qual:Str} {st:Stmt} {f:Addr} {fd:FuncData} {dV:Value} {ps:List Str} {sp:Sp} {ds:List Value} {dvs:List V} (F:FunD K x qual st f fd dV) (G:FnOk P w K mg base CX j f fd ps sp) (b:Binds K fd ps ds) (v:Vals dvs ds) (m:mg x=some (.ref f)) :
    Fok P w K mg base CX j x ps dvs sp:=⟨f,fd,ds,G,b,v,F.kp,m⟩
end


section
variable {X:Cx}
def CDivW (i j:Int):Prop:=0 < j∧j < 2 ^ 1000
theorem op_fdivW:OpR X (binaryOp .FloorDiv) (rI CDivW fun i j=>.int (i / j)):=opI fun i j _ _ _ _ _ hc q=>by
  have h1:(0:Int) < j:=hc.1;have h2:j < 2 ^ 1000:=hc.2;refine floordiv_int (by omega) (by rw [Int.fdiv_eq_ediv_of_nonneg i (by omega)]; exact q) (.inl (PyProof.noPylong_of_log2 ?_));have e:j.natAbs.log2 < 1000:=by
    refine (Nat.log2_lt (by omega)).mpr ?_;have e2:((j.natAbs:Nat):Int)=j:=by omega
    have e3:((2 ^ 1000:Nat):Int)=(2:Int) ^ 1000:=by rw [Int.natCast_pow]; rfl
    omega
  omega
theorem cdivW {i j:Int} (h0:0 < j) (h1:j < 1000000000000000000000000):CDivW i j:=⟨h0,Int.lt_trans h1 (by decide +kernel)⟩
end
theorem bt_int:bootBuiltins "int" = some (.type "int"):=by decide +kernel
theorem bt_str:bootBuiltins "str" = some (.type "str"):=by decide +kernel
theorem bt_bool:bootBuiltins "bool" = some (.type "bool"):=by decide +kernel
theorem bt_list:bootBuiltins "list" = some (.type "list"):=by decide +kernel
theorem bt_tuple:bootBuiltins "tuple" = some (.type "tuple"):=by decide +kernel
theorem bt_dict:bootBuiltins "dict" = some (.type "dict"):=by decide +kernel
theorem bb_isinstance:bootBuiltins "isinstance" = some (.builtin "isinstance"):=by decide +kernel
theorem bb_max:bootBuiltins "max" = some (.builtin "max"):=by decide +kernel
theorem bb_min:bootBuiltins "min" = some (.builtin "min"):=by decide +kernel
theorem bb_all:bootBuiltins "all" = some (.builtin "all"):=by decide +kernel
theorem bb_any:bootBuiltins "any" = some (.builtin "any"):=by decide +kernel
theorem bb_len:bootBuiltins "len" = some (.builtin "len"):=by decide +kernel
section
variable {K:PySem.W.Frag}
theorem kit_ii:PySem.W.kitOne K (.type "int") (.type "int")=some true:=by kernel_rfl
theorem kit_ib:PySem.W.kitOne K (.type "int") (.type "bool")=some false:=by kernel_rfl
theorem kit_ss:PySem.W.kitOne K (.type "str") (.type "str")=some true:=by kernel_rfl
theorem kit_bi:PySem.W.kitOne K (.type "bool") (.type "int")=some true:=by kernel_rfl
theorem kit_bb:PySem.W.kitOne K (.type "bool") (.type "bool")=some true:=by kernel_rfl
theorem kit_tt:PySem.W.kitOne K (.type "tuple") (.type "tuple")=some true:=by kernel_rfl
end
end L2

namespace L2
open PySem PySem.Spec PyProof.Rows


section
variable {prog:Program} {w:World} {A:Around} {E:Value→Shared→Prop} {s:Shared}
end
end L2

namespace L2
open PySem PySem.Spec PyProof.Rows

end L2

namespace L2
open PySem PySem.Spec PyProof.Rows
section
variable {prog:Program} {w:World} {A:Around} {E:Value→Shared→Prop} {s:Shared}
end

section
variable {X:Cx} {pins:List (Addr × Obj)} {σ:St} {H:Hp} {s:Shared} {h':Heap}
theorem Inv.turnedL {t':Nat} {L:List Addr} (I:Inv X pins σ H s) (k:∀ b o,b∉L→s.heap.get? b=some o→h'.get? b=some o) (f:∀ b∈L,FpOk X pins H b):Inv X pins σ H { s with heap:=h',toks:=t' }:=by
  have nit:∀ b u,H b=some u→b∉L:=fun b u e z=>by rw [(f b z).1] at e; cases e
  refine I.step (g':=s.gens) (d':=s.drawn) (ch:=L) (fun b hb => ?_) (fun b o _ _ hc e _=>k b o hc e) (fun b o _ _ hc e _=>⟨o.slots,k b o hc e⟩) (fun _ _ _ _ n=>n)
    (fun b o hc e=>⟨o,k b o hc e⟩) (fun _ _ e=>e) (fun _ _ _ e=>e) (fun b ps e=>⟨#[],by rw [e]; simp⟩) (fun m hm => ?_) (fun b u e => ?_) I.bare
  · obtain ⟨f0,f1,f2,f3,f4,f5⟩:=f b hb;exact ⟨f3,f1,f4,f5⟩
  · obtain ⟨o,es,ep,ho,r⟩:=hm;exact ⟨o,es,ep,k _ o (fun z=>(f _ z).2.1 rfl) ho,r⟩
  · refine (I.hok b u e).stay (fun c v hc q=>k c v ?_ q) (fun _ q=>q) fun _ _ q=>q;rcases hc with z | z
    · rw [z]; exact nit b u e
    · exact nit c _ z
end
section
variable {X:Cx}
end
end L2

namespace L2
open PySem PySem.Spec PyProof.Rows


def KTu (K:PySem.W.Frag) (a:Addr) (xs:List V):Prop:=∃ (o:Obj) (its:Array Value) (n:Nat),K.lookup a=some o∧o.cls=.type "tuple" ∧ o.data=.seq its n∧its.size≤sizeLine∧Vals xs its.toList
theorem KTu.sq {K:PySem.W.Frag} {a:Addr} {xs:List V} {H:Hp} (h:KTu K a xs):SqT K H a xs:=.inr h

def KD (P:Program) (w:World) (K:PySem.W.Frag) (a:Addr) (kvs:List (Key × V)):Prop:=∃ (o:Obj) (vs:List (Key × Value)),K.lookup a=some o∧KV kvs vs∧o.IsDictOf (mixKind P w) vs
def tKGet (P:Program) (w:World) (K:PySem.W.Frag) (td ty:TE):TE:=fun σ H Q=>td σ H fun x H1=>ty σ H1 fun y H2=>∃ a kvs k v,x=.ref a∧y=kV k∧KD P w K a kvs∧valV kvs k=some v∧Q v H2
theorem pe_kget {X:Cx} {o i:Expr} {pos:Pos} {td ty:TE} (ho:PE X o td) (hi:PE X i ty) (hs:NoSl i):PE X (.Subscript o i pos) (tKGet X.prog X.w X.K td ty):=by
  intro pins s σ H Q I h;refine subD_of PySem.F.slot_dict_getitem.lookup hs (thn (ho pins s σ H _ I h) fun u s1 ⟨x,H1,I1,rx,q1⟩=>thn (hi pins s1 σ H1 _ I1 q1) fun iv s2 ⟨y,H2,I2,ry,a,kvs,k,v,ex,ey,kd,l,q2⟩ => ?_);subst ex ey;obtain rfl:u=Value.ref a:=rx;obtain ⟨ob,vs,hk,rel,dd⟩:=kd;have dd':s2.heap.DictOf (mixKind X.prog X.w) a vs:=Heap.dictOf_iff.mpr ⟨ob,I2.kIn a ob hk,dd⟩;obtain ⟨w',hw,rw'⟩:=RelO.some_of (v:=v) (o:=valueAt vs k) (by rw [← l]; exact rel.val k);exact ⟨dd'.typeIs,wpAny_getItem_of (kV_is ry) dd'.mapOf hw ⟨v,H2,I2.tok _,rw',q2⟩⟩
end L2

namespace L2
open PySem PySem.Spec PyProof.Rows

end L2

namespace L2
open PySem PySem.Spec PyProof.Rows


theorem ObjOk.there {P:Program} {w:World} {H:Hp} {h:Heap} {a:Addr} {o:HO} (x:ObjOk P w H h a o):∃ u,h.get? a=some u:=by
  cases o with
  | lst xs=>obtain ⟨_,_,_,_,e⟩:=x; exact ⟨_,e⟩
  | tup xs=>obtain ⟨_,_,_,o,e,_⟩:=x; exact ⟨_,e⟩
  | dK kvs=>obtain ⟨_,_,_,_,o,_,_,e,_⟩:=x; exact ⟨_,e⟩
  | dT kvs=>obtain ⟨_,_,_,_,o,_,_,e,_⟩:=x; exact ⟨_,e⟩
  | set S n=>obtain ⟨o,_,_,_,e,_⟩:=x; exact ⟨_,e⟩
  | ins C dx fs=>obtain ⟨_,_,_,e,_⟩:=x; exact ⟨_,e⟩
  | own y=>exact x
  | xd fs=>obtain ⟨_,⟨_,_,_,e,_⟩,_⟩:=x; exact ⟨_,e⟩
  | rng lo hi=>obtain ⟨_,_,_,e⟩:=x; exact ⟨_,e⟩
  | frz ob u=>obtain ⟨e,_⟩:=x; exact ⟨_,e⟩
  | tbl ps=>exact ⟨_,(show h.get? a=some _ from x)⟩
  | met f y=>exact ⟨_,(show h.get? a=some _ from x)⟩
  | ext φ=>obtain ⟨_,e,_⟩:=x; exact e
theorem HOk.not {P:Program} {w:World} {H:Hp} {h:Heap} {a:Addr} (x:HOk P w H h) (e:h.get? a=none):H a=none:=by
  cases q:H a with
  | none=>rfl
  | some o =>
    obtain ⟨u,z⟩:=(x a o q).there;rw [e] at z; cases z

structure Fly (h0:Heap) (H:Hp) (h:Heap) (e:Addr) (cls:Value):Prop where
  ex:∃ oe vs a0 T oT ts,h.get? e=some oe∧(oe.cls=cls∧vs[0]? = some a0)∧oe.data=.fields vs∧vs[1]? = some (.ref T)∧(h0.get? T=none∧H T=none)∧T≠e∧h.get? T=some oT∧oT.data=.fields ts∧ts[3]? = some .none
  new:h0.get? e=none
  un:H e=none
def CXe (P:Program) (w:World):CXT:=fun outer H s E ev s'=>∃ e cls H',ev=.ref e∧s'.os=s.os∧AllBare s'.gens∧Un (frs outer) [] H H' s.heap s'.heap∧HOk P w H' s'.heap∧Fly s.heap H' s'.heap e cls∧E cls none H'
theorem quietE {P:Program} {w:World}:Quiet (CXe P w):=fun _ _ _ _ _ ⟨_,_,_,_,_,_,_,_,_,h⟩=>h

theorem rebase {h b b':Heap}:∀ {l:List Env},h.FunFrames b l→(∀ a∈frs l,b'.get? a=none)→h.FunFrames b' l
  | [],_,_=>trivial
  | env::r,⟨hk,⟨L,o,hf,hn,ho,hd⟩,hr⟩,k=>by
    have e:frs (env::r)=L::frs r:=by unfold frs; rw [List.filterMap_cons,hf]
    rw [e] at k;exact ⟨hk,⟨L,o,hf,k L List.mem_cons_self,ho,hd⟩,rebase hr fun a ha=>k a (List.mem_cons_of_mem _ ha)⟩

abbrev less (h:Heap) (l:List Addr):Heap:=PySem.W.hideAll h l
theorem less_stays (h:Heap) (l:List Addr):(less h l).StaysIn h:=fun _ _ e=>PySem.W.of_hideAll l e

section
variable {P:Program} {w:World} {H H':Hp} {h h' h'' bs:Heap} {l:List Env} {hid:List Addr}

theorem un_upto (u:Un (frs l) [] H H' h h') (ok:HOk P w H' h') (fr:h'.FunFrames bs l) (fre:∀ b∈frs l,H' b=none) (hh:∀ b∈hid,h.get? b=none∧H' b=none)
    (st:(less h' (hid++frs l)).StaysIn h'') (up:h'.UpToSlots h''):Un (frs l) [] H H' h h''∧HOk P w H' h'':=by
  have kp:∀ b o,h'.get? b=some o→b∉hid→b∉frs l→h''.get? b=some o:=fun b o e n1 n2=>st b o (PySem.W.hideAll_get _ e fun z=>(List.mem_append.mp z).elim n1 n2);have nh:∀ b o,h.get? b=some o→b∉hid:=fun b o e z=>by rw [(hh b z).1] at e; cases e
  have fs:∀ b o,h'.get? b=some o→b∈frs l→∃ sl,h''.get? b=some { o with slots:=sl }:=fun b o e hb=>by
    obtain ⟨_,o',e',nf⟩:=fr.mem hb;rw [e] at e'; cases e';exact up b o e nf
  refine ⟨⟨fun b o e n hb hx=>kp b o (u.keep b o e n hb hx) (nh b o e) hb,fun b o e n hb hx => ?_,u.free,fun b o e hx => ?_,u.tups,u.frzs,u.tbls⟩,fun a o e => ?_⟩
  · obtain ⟨sl,e1⟩:=u.slot b o e n hb hx;obtain ⟨sl',e2⟩:=fs b _ e1 hb;exact ⟨sl',e2⟩
  · obtain ⟨o',e1⟩:=u.there b o e hx;by_cases hb:b∈frs l
    · obtain ⟨sl',e2⟩:=fs b _ e1 hb;exact ⟨_,e2⟩
    · exact ⟨o',kp b o' e1 (nh b o e) hb⟩
  · refine (ok a o e).stay (fun b v hb q => ?_) (fun _ q=>q) fun _ _ q=>q;have tr:∃ v,H' b=some v:=by
      rcases hb with z | z
      · exact ⟨o,z▸e⟩
      · exact ⟨_,z⟩
    obtain ⟨v',tr⟩:=tr;refine kp b v q (fun z => ?_) fun z => ?_
    · rw [(hh b z).2] at tr; cases tr
    · rw [fre b z] at tr; cases tr

theorem entry_new (u:Un (frs l) [] H H' h h') (ok:HOk P w H' h') (fr:h'.FunFrames bs l) (hh:∀ b∈hid,h.get? b=none∧H' b=none) (up:h'.UpToSlots h'') {T:Addr} {oT:Obj} {ts:Array Value}
    (e:h''.get? T=some oT) (d:oT.data=.fields ts) (n:(less h' (hid++frs l)).get? T=none):h.get? T=none∧H' T=none:=by
  have nf:T∉frs l:=fun z=>by
    obtain ⟨_,o',e',nf⟩:=fr.mem z;obtain ⟨sl,q⟩:=up T o' e' nf;rw [e] at q;cases q;exact nf ts d
  by_cases hb:T∈hid
  · exact hh T hb
  · have z:h'.get? T=none:=by
      cases q:h'.get? T with
      | none=>rfl
      | some o =>
        have z:(less h' (hid++frs l)).get? T=some o:=PySem.W.hideAll_get _ q fun z=>(List.mem_append.mp z).elim hb nf;rw [n] at z; cases z
    refine ⟨?_,ok.not z⟩;cases q:h.get? T with
    | none=>rfl
    | some o =>
      obtain ⟨o',q'⟩:=u.there T o q (by simp);rw [z] at q'; cases q'
end
theorem back {fs:List Addr} {H H':Hp} {h h':Heap} (u:Un fs [] H H' h h') {a:Addr} (e:h'.get? a=none):h.get? a=none:=by
  cases q:h.get? a with
  | none=>rfl
  | some o =>
    obtain ⟨o',q'⟩:=u.there a o q (by simp);rw [e] at q'; cases q'


section
variable {P:Program} {w:World} {K:PySem.W.Frag} {mg:Str→Option Value} {base:Heap} {N:List Str} {qual:Str} {scope:Scope} {f:Addr} {cd:Value} {A:Around} {outer:List Env} {s0:Shared} {H0:Hp} {E:XK}

theorem leave_made {pins:List (Addr × Obj)} {σ:St} {H:Hp} {s:Shared} {h':Heap} {e:Addr} {cls:Value} {args:List Value} (I:Inv (cxOf (CXe P w) P w K mg base N qual scope f cd A outer s0 H0 E) pins σ H s)
    (hx:Heap.MadeExcOf s.heap h' e cls args) (q:E cls none H):(cxOf (CXe P w) P w K mg base N qual scope f cd A outer s0 H0 E).xe (.ref e) { s with heap:=h' }:=by
  have fr:s.heap.FunFrames _ (cxOf (CXe P w) P w K mg base N qual scope f cd A outer s0 H0 E).stack:=I.stack;have kin:=I.stkFree;refine wpAny_leaves_madeW (base:=less s.heap ([]++frs (cxOf (CXe P w) P w K mg base N qual scope f cd A outer s0 H0 E).stack)) (h:=s.heap) (L:=s0.heap.objs.size) I.ok.frames rfl (less_stays _ _)
    (rebase fr fun a ha=>PySem.W.hideAll_none _ (List.mem_append_right _ ha)) hx fun h'' t x1 x2 x3 x4 => ?_
  have up:s.heap.UpToSlots h'':=(Heap.UpToSlots.of_keeps hx.keeps).trans x4;obtain ⟨y1,y2,y3,oe,vs,T,oT,ts,z1,z2,z3,z4,z5,z6,z7,z8,z9⟩:=x1;obtain ⟨u,ok⟩:=un_upto (H:=H) (hid:=[]) Un.refl I.hok fr kin (fun b z=>by cases z) y1 up;have J:=I.call' (s':={ s with heap:=h'' }) (ch:=[]) rfl u ok I.bare (fun b z=>by cases z);obtain ⟨n1,n2⟩:=entry_new (H:=H) (hid:=[]) Un.refl I.hok fr (fun b z=>by cases z) up z7 z8 z5;exact ⟨e,cls,H,rfl,J.os,J.bare,J.base,ok,⟨⟨oe,vs,_,T,oT,ts,z1,z2,z3,z4,⟨back I.base n1,n2⟩,z6,z7,z8,z9⟩,back I.base hx.new,I.hok.not hx.new⟩,q⟩

theorem leave_on {pins:List (Addr × Obj)} {σ:St} {H:Hp} {s s':Shared} {e:Value} (I:Inv (cxOf (CXe P w) P w K mg base N qual scope f cd A outer s0 H0 E) pins σ H s)
    (c:CXe P w (cxOf (CXe P w) P w K mg base N qual scope f cd A outer s0 H0 E).stack H s E e s'):(cxOf (CXe P w) P w K mg base N qual scope f cd A outer s0 H0 E).xe e s':=by
  obtain ⟨ea,cls,H',rfl,c1,c2,c3,c4,⟨⟨oe,vs,a0,T,oT,ts,f1,f2,f3,f4,f5,f6,f7,f8,f9⟩,fn,fu⟩,q⟩:=c;have J:=I.call' (s':=s') (ch:=[]) c1 c3 c4 c2 (fun b z=>by cases z);have fr:s'.heap.FunFrames _ (cxOf (CXe P w) P w K mg base N qual scope f cd A outer s0 H0 E).stack:=J.stack;have hh:∀ b∈[ea,T],s.heap.get? b=none∧H' b=none:=fun b hb=>by
    rcases List.mem_cons.mp hb with rfl | hb
    · exact ⟨fn,fu⟩
    · rcases List.mem_cons.mp hb with rfl | hb
      · exact f5
      · cases hb
  refine wpAny_leaves_onW (base:=less s'.heap ([ea,T]++frs (cxOf (CXe P w) P w K mg base N qual scope f cd A outer s0 H0 E).stack)) (L:=s0.heap.objs.size) (cls:=cls) (a0:=a0) I.ok.frames rfl
    ⟨less_stays _ _,PySem.W.hideAll_none _ (by simp),rebase fr fun a ha=>PySem.W.hideAll_none _ (List.mem_append_right _ ha),oe,vs,T,oT,ts,f1,f2,f3,f4,PySem.W.hideAll_none _ (by simp),f6,f7,f8,f9⟩ fun h'' x1 x4 => ?_
  obtain ⟨y1,y2,y3,oe',vs',T',oT',ts',z1,z2,z3,z4,z5,z6,z7,z8,z9⟩:=x1;obtain ⟨u,ok⟩:=un_upto c3 c4 fr J.stkFree hh y1 x4;have J':=I.call' (s':={ s' with heap:=h'' }) (ch:=[]) c1 u ok c2 (fun b z=>by cases z);obtain ⟨n1,n2⟩:=entry_new c3 c4 fr hh x4 z7 z8 z5;exact ⟨ea,cls,H',rfl,J'.os,J'.bare,J'.base,ok,⟨⟨oe',vs',_,T',oT',ts',z1,z2,z3,z4,⟨back I.base n1,n2⟩,z6,z7,z8,z9⟩,back I.base fn,fu⟩,q⟩
theorem passE:Passes (CXe P w) (cxOf (CXe P w) P w K mg base N qual scope f cd A outer s0 H0 E) E:=fun _ _ _ _ _ _ I c=>leave_on I c
end
end L2

namespace L2
open PySem PySem.Spec PyProof.Rows


abbrev bmV:List Value:=[.type "ValueError",.type "Exception",.type "BaseException",.type "object"]
structure OwnX (K:PySem.W.Frag) (mg:Str→Option Value) (x:Str) (C:Addr):Prop where
  m:mg x=some (.ref C)
  ok:PySem.W.excIn K C bmV "ValueError.__new__" = true
theorem own_obj {K:PySem.W.Frag} {h:Heap} {C:Addr} {bmB:List Value} {newId:String} (X:K.In h) (q:PySem.W.excIn K C bmB newId=true) :
    ∃ bm N nm qn bs hd sn sub ab col dd k0 k1 k2 k3 k5 mN,h.get? C=some (excClassObj nm qn C N bs bm hd sn sub ab col dd k0 k1 k2 k3 k5 newId)∧h.Ns N mN∧mN "__init__" = none∧OwnTail h bmB bm:=by
  unfold PySem.W.excIn at q
  split at q
  · rename_i dct cdt slo hob
    split at q
    · rename_i C2 bmx j0 j1 j2 j3 nw j5 hmr hsl
      simp only [Bool.and_eq_true,beq_iff_eq,Bool.not_eq_true'] at q;obtain ⟨⟨⟨⟨⟨q1,q2⟩,q3⟩,q4⟩,q5⟩,q6⟩:=q;subst q1 q2;obtain ⟨nm,bs,mro,ns,qn,hd,sn,sub,ab,col,del⟩:=cdt;dsimp only at hmr q3 q5 q6;subst hmr q3;have es:slo = #[j0,j1,j2,j3,some (.builtin nw),j5]:=by
        obtain ⟨l⟩:=slo;simp only at hsl;rw [hsl]
      subst es;exact ⟨bmx,ns,nm,qn,bs,hd,sn,sub,ab,col,dct,j0,j1,j2,j3,j5,_,X _ _ hob,.of_isNs (PySem.W.isNs_of_in X q5),PySem.W.nsMap_none_of_in X q5 q6,PySem.W.tail_of_in X q4⟩
    · cases q
  · cases q

def Raises (X:Cx) (E:XK):Prop:=∀ (pins:List (Addr × Obj)) (σ:St) (H:Hp) (s:Shared) (h':Heap) (e:Addr) (cls:Value) (args:List Value),Inv X pins σ H s→Heap.MadeExcOf s.heap h' e cls args→E cls none H→X.xe (.ref e) { s with heap:=h' }
theorem raisesE {P:Program} {w:World} {K:PySem.W.Frag} {mg:Str→Option Value} {base:Heap} {N:List Str} {qual:Str} {scope:Scope} {f:Addr} {cd:Value} {A:Around} {outer:List Env} {s0:Shared} {H0:Hp} {E:XK} :
    Raises (cxOf (CXe P w) P w K mg base N qual scope f cd A outer s0 H0 E) E:=fun _ _ _ _ _ _ _ _ I hx q=>leave_made I hx q
def tRaise (te:TE) (cls:Value) (E:XK):TS:=fun _ σ H=>te σ H fun _ H1=>E cls none H1
section
variable {X:Cx}
theorem ps_raise {x:Str} {C:Addr} {np cpos pos:Pos} {e:Expr} {te:TE} {E:XK} (o:OwnX X.K X.mg x C) (hE:Raises X E) (ha:PE X e te) (hc:X.calm=true:=by rfl) (hg:Gl X x:=by rfl) (hd:(x == ("__debug__" : Str))=false:=by decide)
    (he:starEach [e] X.env=(false,eval e X.env)::starEach [] X.env:=by rfl):PS X (.Raise (some (.Call (.Name x np) [e] [] cpos)) none pos) (tRaise te (.ref C) E):=by
  intro pins s σ H D I h;obtain ⟨bm,N,nm,qn,bs,hdt,sn,sub,ab,col,dd,k0,k1,k2,k3,k5,mN,hC,hN,hni,T⟩:=own_obj I.mod.kin o.ok;refine wpAny_Raise_call_subT (C:=C) (nm:=nm) (q:=qn) (N:=N) (bs:=bs) (bm:=bm) (hdct:=hdt) (sn:=sn) (sub:=sub) (ab:=ab) (col:=col) (dd:=dd) (k0:=k0) (k1:=k1) (k2:=k2) (k3:=k3) (k5:=k5) (mN:=mN)
    F.excBase_ValueError (T.hasType F.excBase_ValueError.hasBase) (I.ok.hd hc) (by rw [he]; rfl) hni (ld_glob I hg o.m ⟨rfl,?_⟩ hd)
  have ha':=pa_cons ha pa_nil he cpos pins s σ H (fun vs H1=>vs.length=1∧E (.ref C) none H1) I (by
    refine (?_:tCons te tNil σ H _);exact (show te σ H _ from by
      have e1:(fun x H1=>tNil σ H1 fun xs H2=>(x::xs).length=1∧E (Value.ref C) none H2)=fun (_:V) H1=>E (Value.ref C) none H1:=by
        funext x H1; simp [tNil]
      rw [e1]; exact h))
  rw [he] at ha' ⊢;refine Calls.evalArgs_plain (wpAny_mono ha' (fun us s2 z => ?_) fun _ _ y=>y);obtain ⟨vs,H1,I2,r,hl,q⟩:=z;refine ⟨rfl,by rw [← r.length,hl]; decide,I2.bk _ _ hC,hN.keeps I2.bk,T.keeps I2.bk,fun h' e hm=>hE pins σ H1 s2 h' e _ us I2 hm q⟩
end


structure ExcC (K:PySem.W.Frag) (C:Addr):Prop where
  ga:PySem.W.findIn K (.ref C) "__getattribute__" = some (some (.builtin "BaseException.__getattribute__"))
  gt:PySem.W.findIn K (.ref C) "__getattr__" = some none
  ca:PySem.W.findIn K (.ref C) "__class__" = some (some (.builtin "object.__class__"))
  m1:PySem.W.subIn K (.ref C) (.type "object")=some true
  m2:PySem.W.subIn K (.ref C) (.type "BaseException")=some true
  cl:(PySem.W.clsIn K C).isSome=true
section
variable {prog:Program} {w:World} {A:Around} {E:Value→Shared→Prop} {h:Heap} {g:Array GenState} {d:Drawn} {t:Nat} {os:OsState} {a C:Addr} {o:Obj} {vs:Array Value}
end
end L2

namespace L2
open PySem PySem.Spec PyProof.Rows
section
variable {X:Cx}

end


section
variable {X:Cx} {pins:List (Addr × Obj)} {σ:St} {H:Hp} {s:Shared}
end
end L2

namespace L2
open PySem PySem.Spec PyProof.Rows
section
variable {X:Cx}
end
end L2

namespace L2
open PySem PySem.Spec PyProof.Rows

section
variable {prog:Program} {w:World} {A:Around} {E:Value→Shared→Prop} {s:Shared} {x:Str} {t:Tok}
end
section
variable {X:Cx} {tg:Expr}
end
end L2

namespace L2
open PySem PySem.Spec PyProof.Rows

def clo (env:Env) (xs:List Str):List (Str × Addr):=xs.map fun x=>(x,(env.cells.lookup x).getD 0)
def CapsOk (env:Env) (scope:Scope) (xs caps:List Str):Prop:=∀ x∈caps,env.kindOf x=some .cell∧(relabel scope env).names.lookup x=some .cell∧x∈xs
theorem capsOk_nil {env:Env} {scope:Scope} {xs:List Str}:CapsOk env scope xs []:=fun _ h=>by cases h
theorem capsOk_cons {env:Env} {scope:Scope} {xs:List Str} {x:Str} {r:List Str} (h1:env.kindOf x=some .cell) (h2:(relabel scope env).names.lookup x=some .cell) (h3:x∈xs) (h:CapsOk env scope xs r):CapsOk env scope xs (x::r):=fun y hy=>by
  rcases List.mem_cons.mp hy with rfl | hy
  · exact ⟨h1,h2,h3⟩
  · exact h y hy
theorem clo_of {env:Env} {x:Str} {c:Addr}:∀ {xs:List Str},x∈xs→env.cells.lookup x=some c→(clo env xs).lookup x=some c
  | [],h,_=>by cases h
  | y::r,h,e=>by
    unfold clo;rw [List.map_cons,List.lookup_cons];by_cases z:x=y
    · subst z; simp [e]
    · have zb:(x == y)=false:=by simpa using z
      rw [zb];rcases List.mem_cons.mp h with q | q
      · exact absurd q z
      · exact clo_of q e
theorem clo_has {env:Env} {x:Str}:∀ {xs:List Str},x∈xs→∃ c,(clo env xs).lookup x=some c
  | [],h=>by cases h
  | y::r,h=>by
    unfold clo;rw [List.map_cons,List.lookup_cons];by_cases z:x=y
    · subst z; exact ⟨_,by simp; rfl⟩
    · have zb:(x == y)=false:=by simpa using z
      rw [zb];rcases List.mem_cons.mp h with q | q
      · exact absurd q z
      · exact clo_has q
theorem clo_sub {env:Env} {x:Str} {c:Addr} {xs:List Str} (hin:(xs.all fun x=>(env.cells.lookup x).isSome)=true) (e:(clo env xs).lookup x=some c):env.cells.lookup x=some c:=by
  induction xs with
  | nil=>cases e
  | cons y r ih =>
    unfold clo at e;rw [List.map_cons,List.lookup_cons] at e;rw [List.all_cons,Bool.and_eq_true] at hin;by_cases z:x=y
    · subst z;obtain ⟨a,ha⟩:=Option.isSome_iff_exists.mp hin.1;rw [ha] at e ⊢;simpa using e
    · have zb:(x == y)=false:=by simpa using z
      rw [zb] at e;exact ih hin.2 e
theorem caps_len {σ:St} {vs:List V} {is:List Nat} {N N' caps:List Str} {k:Nat} (hvs:is.map (fun i=>σ[i]?)=vs.map fun v=>some (some v)) (his:is.map (N[·]?)=caps.map some) (hN:N'.drop k=caps) (hk:k≤N'.length) :
    (List.replicate k (none:Option V)++vs.map some).length=N'.length:=by
  have h1:=congrArg List.length hvs;have h2:=congrArg List.length his;have h3:=congrArg List.length hN;simp only [List.length_map,List.length_drop,List.length_append,List.length_replicate] at *;omega
theorem caps_at {σ:St} {vs:List V} {is:List Nat} {N N' caps:List Str} {k i:Nat} {x:Str} {v:V} (hvs:is.map (fun i=>σ[i]?)=vs.map fun v=>some (some v)) (his:is.map (N[·]?)=caps.map some) (hN:N'.drop k=caps)
    (e1:N'[i]? = some x) (e2:(List.replicate k (none:Option V)++vs.map some)[i]? = some (some v)):∃ j:Nat,N[j]? = some x∧x∈caps∧σ[j]? = some (some v):=by
  have hik:k≤i:=by
    by_cases h:k≤i
    · exact h
    · rw [List.getElem?_append_left (by simpa using h),List.getElem?_replicate] at e2
      split at e2 <;> cases e2
  rw [List.getElem?_append_right (by simpa using hik),List.length_replicate] at e2;have e1':caps[i - k]? = some x:=by rw [← hN,List.getElem?_drop,Nat.add_sub_cancel' hik]; exact e1
  have ev:vs[i - k]? = some v:=by
    rw [List.getElem?_map] at e2;cases z:vs[i - k]? with
    | none=>rw [z] at e2; cases e2
    | some a=>rw [z] at e2; cases e2; rfl
  have q1:=congrArg (·[i - k]?) hvs;have q2:=congrArg (·[i - k]?) his;simp only [List.getElem?_map,ev,e1',Option.map_some] at q1 q2;cases z:is[i - k]? with
  | none=>rw [z] at q1; cases q1
  | some j =>
    rw [z] at q1 q2;exact ⟨j,Option.some.inj q2,List.mem_of_getElem? e1',Option.some.inj q1⟩
theorem caps_keep {σ:St} {vs:List V} {k:Nat} (h:σ.drop k=vs.map some) (i:Nat) (v:V) (e:(List.replicate k (none:Option V)++vs.map some)[i]? = some (some v)):σ[i]? = some (some v):=by
  have hik:k≤i:=by
    by_cases h:k≤i
    · exact h
    · rw [List.getElem?_append_left (by simpa using h),List.getElem?_replicate] at e
      split at e <;> cases e
  rw [List.getElem?_append_right (by simpa using hik),List.length_replicate,← h,List.getElem?_drop,Nat.add_sub_cancel' hik] at e;exact e
theorem all_of {names:List (Str × NameKind)} {xs:List Str} (h:(names.all fun y => !(y.2 == .cell || y.2 == .free) || xs.contains y.1)=true):∀ y∈names,(y.2=.cell∨y.2=.free)→y.1∈xs:=fun y hy hk=>by
  have z:=List.all_eq_true.mp h y hy;rcases hk with e | e
  · rw [e] at z;exact List.contains_iff_mem.mp (by simpa using z)
  · rw [e] at z;exact List.contains_iff_mem.mp (by simpa using z)
def cxCompC (X:Cx) (N':List Str) (scope:Scope) (xs:List Str) (C:Addr) (s0:Shared) (H0:Hp) (fp:List Addr) (pins:List (Addr × Obj)):Cx where
  prog:=X.prog
  w:=X.w
  K:=X.K
  mg:=X.mg
  base:=X.base
  A:=X.A
  N:=N'
  s₀:=s0
  H₀:=H0
  env:=compEnvC scope (clo X.env xs) C X.env
  outer:=X.stack
  stack:=X.stack
  ex:=fp
  fn:=fun _=>false
  calm:=X.calm
  pn:=X.pn++pins
  xe:=fun _ _=>False

def compKC (σ0:St) (k:Nat) (cs:St) (g:TG) (te:TE) (Q:VK):It→Hp→Prop:=fun J H1=>∀ D,H1 D=none→∃ W:Nat→Nat→List V→Hp→Prop,(∃ m,W 0 m [] (upd H1 D (.lst []))) ∧
  ∀ i m ys H2,W i m ys H2→H2 D=some (.lst ys)∧((J.stop i H2∧Q (.ref D) H2)∨(J.go i H2∧ys.length < sizeLine ∧
    ∀ x H',J.yld i H2 x H'→g x σ0 H' fun σ2 H3=>σ2.drop k=cs∧te σ2 H3 fun y H4=>H4 D=some (.lst ys)∧∃ m',m' < m∧W (i + 1) m' (ys++[y]) (upd H4 D (.lst (ys++[y])))))
def tCompC (is:List Nat) (k:Nat) (wi:TI) (g:TG) (te:TE):TE:=fun σ H Q=>∃ vs:List V,is.map (fun i=>σ[i]?)=vs.map (fun v=>some (some v))∧wi σ H (compKC (List.replicate k none++vs.map some) k (vs.map some) g te Q)
def compKCI (σ0:St) (k:Nat) (cs:St) (g:TG) (tt:TT) (te:TE) (Q:VK):It→Hp→Prop:=fun J H1=>∀ D,H1 D=none→∃ W:Nat→Nat→List V→Hp→Prop,(∃ m,W 0 m [] (upd H1 D (.lst []))) ∧
  ∀ i m ys H2,W i m ys H2→H2 D=some (.lst ys)∧((J.stop i H2∧Q (.ref D) H2)∨(J.go i H2∧ys.length < sizeLine ∧
    ∀ x H',J.yld i H2 x H'→g x σ0 H' fun σ2 H3=>σ2.drop k=cs∧tt σ2 H3 fun b H4=>if b=true then te σ2 H4 fun y H5=>H5 D=some (.lst ys)∧∃ m',m' < m∧W (i + 1) m' (ys++[y]) (upd H5 D (.lst (ys++[y])))
      else ∃ m',m' < m∧W (i + 1) m' ys H4))
def tCompCI (is:List Nat) (k:Nat) (wi:TI) (g:TG) (tt:TT) (te:TE):TE:=fun σ H Q=>∃ vs:List V,is.map (fun i=>σ[i]?)=vs.map (fun v=>some (some v))∧wi σ H (compKCI (List.replicate k none++vs.map some) k (vs.map some) g tt te Q)
section
variable {X:Cx} {elt tg iter cnd:Expr} {scope:Scope} {pos:Pos} {N':List Str} {wi:TI} {g:TG} {te:TE} {tt:TT}
theorem pe_compC (xs caps:List Str) (is:List Nat) (k:Nat) (hclos:closureFor scope X.env=pure (clo X.env xs)) (hin:(xs.all fun x=>(X.env.cells.lookup x).isSome)=true) (hcap:CapsOk X.env scope xs caps) (his:is.map (X.N[·]?)=caps.map some) (hN:N'.drop k=caps) (hk:k≤N'.length)
    (hallB:((relabel scope X.env).names.all fun y => !(y.2 == .cell || y.2 == .free) || xs.contains y.1)=true) (hcell:∀ y∈scope.names,y.2≠.cell) (hkind:scope.kind=.function) (hnames:∀ y∈scope.names,y.2=.local→scope.names.lookup y.1=some .local)
    (hcalm:X.calm=true) (hi:PI X tg iter wi) (hg:∀ C s0 H0 fp pins,PG (cxCompC X N' scope xs C s0 H0 fp pins) tg g) (he:∀ C s0 H0 fp pins,PE (cxCompC X N' scope xs C s0 H0 fp pins) elt te)
    (hs:∀ x,foldedSetIterable iter X.env x=pure x:=by intro _; rfl):PE X (.ListComp elt [⟨tg,iter,[],0⟩] scope pos) (tCompC is k wi g te):=by
  intro pins s σ H Q I h;have hall:=all_of hallB;obtain ⟨vs,hvs,h⟩:=h;rw [eval_ListComp];refine wpAny_comprehension_free (use:=none) rfl hs hclos hkind hnames (thn (hi pins s σ H _ I h) fun v s1 h1=>thn h1 fun itv s2 h2 => ?_);obtain ⟨it,fp,tn,J,H2,e,I2,T,st2,f2,hW⟩:=h2;subst e;refine wpAny_newObj_type (wpAny_newFunctionEnv hcell (by intro y hy; simp at hy) (fun h₁ hns₁ hsb₁ => ?_) hkind);dsimp only at hns₁ hsb₁ ⊢;generalize hH2:s2.heap.push { cls:=.type "list",dict:=none,data:=.seq ([]:List Value).toArray }=P2 at hns₁ hsb₁ ⊢
  have hC:P2.objs.size=s2.heap.objs.size + 1:=by rw [← hH2,Heap.size_push]
  have below:∀ b,b < s2.heap.objs.size→b≠P2.objs.size∧b≠s2.heap.objs.size:=fun b hb=>⟨by rw [hC]; exact Nat.ne_of_lt (Nat.lt_succ_of_lt hb),Nat.ne_of_lt hb⟩;have hDC:s2.heap.objs.size≠P2.objs.size:=by rw [hC]; exact Nat.ne_of_lt (Nat.lt_succ_self _)
  have old:∀ b o,s2.heap.get? b=some o→h₁.get? b=some o:=fun b o e=>hsb₁.extBut b o (below b (Heap.lt_size e)).1 (Heap.get?_push_of_some _ (hH2▸Heap.get?_push_of_some _ e));have hD:h₁.get? s2.heap.objs.size=some { cls:=.type "list",dict:=none,data:=.seq ([]:List Value).toArray }:=hsb₁.extBut _ _ hDC (Heap.get?_push_of_some _ (hH2▸Heap.get?_push_size _ rfl))
  have frD:H2 s2.heap.objs.size=none:=I2.hok.fresh (Nat.le_refl _);have frC:H2 P2.objs.size=none:=I2.hok.fresh (by rw [hC]; exact Nat.le_succ _);have hfp:∀ b∈fp,b < s2.heap.objs.size:=fun b hb=>by
    obtain ⟨o,e,_⟩:=T.obj _ _ st2 b hb;exact Heap.lt_size e
  have nst:∀ b,b≠X.env.locals→b∉X.fs→b∉frs X.stack:=fun b n1 n2 z=>by
    rcases List.mem_cons.mp (I2.stkSub b z) with e | e
    · exact n1 e
    · exact n2 e
  obtain ⟨W,⟨m0,w0⟩,turn⟩:=hW s2.heap.objs.size frD;have csub:∀ (x:Str) (c:Addr),(clo X.env xs).lookup x=some c→X.env.cells.lookup x=some c:=fun x c e=>clo_sub hin e;have cold:∀ (x:Str) (c:Addr),(clo X.env xs).lookup x=some c→∃ v,s2.heap.IsCell c v:=fun x c e=>I2.cell x c (csub x c e);have clt:∀ (x:Str) (c:Addr),(clo X.env xs).lookup x=some c→c < s2.heap.objs.size:=fun x c e=>by
    obtain ⟨v,o,ho,_⟩:=cold x c e;exact Heap.lt_size ho
  have ok':(cxCompC X N' scope xs P2.objs.size s2 H2 fp pins).Ok:=by
    refine ⟨I2.ok.mod,hkind,I2.ok.glob,I2.ok.blt,?_,fun x y c e e'=>I2.ok.inj x y c (csub x c e) (csub y c e'),fun x hx => ?_,(fun x c z _=>by cases z),I2.ok.hd,I2.ok.frames,.inl rfl,fun b hb=>⟨(below b (hfp b hb)).1,fun x c e=>(f2 b hb).2.2.2.2.1 x c (csub x c e)⟩,I2.bs,Nat.le_trans I2.ok.bsz I2.sz,fun b o e hb => ?_,fun b hb=>nst b (f2 b hb).2.1 (f2 b hb).2.2.1,I2.stack,I2.stkFree⟩
    · show s2.heap.objs.size≤P2.objs.size;rw [hC]; exact Nat.le_succ _
    · have hx':(relabel scope X.env).names.lookup x=some .cell∨(relabel scope X.env).names.lookup x=some .free:=hx;rcases hx' with z | z
      · exact clo_has (hall _ (PySem.mem_of_lookup z) (.inl rfl))
      · exact clo_has (hall _ (PySem.mem_of_lookup z) (.inr rfl))
    · rcases (f2 b hb).2.2.2.1 with z | z
      · exact I2.ok.noex b o e z
      · exact absurd (Nat.lt_of_lt_of_le (Heap.lt_size (I2.ok.bs b o e).1) z) (Nat.lt_irrefl _)
  have I':Inv (cxCompC X N' scope xs P2.objs.size s2 H2 fp pins) [] (List.replicate k none++vs.map some) (upd H2 s2.heap.objs.size (.lst [])) { s2 with heap:=h₁,toks:=s2.toks + ([]:List (Str × Value)).length }:=by
    refine ⟨ok',rfl,I2.bare,Un.laid old (Nat.le_refl _) frD,⟨_,hns₁,fun i x v e1 e2 e3 => ?_⟩,fun x c e => ?_,?_,fun x c e => ?_,fun p hp => ?_,I2.hok.laid old (Nat.le_refl _) ⟨by simp,[],0,.nil,hD⟩,?_⟩
    · obtain ⟨j,ej,hj1,hj2⟩:=caps_at hvs his hN e1 e2;obtain ⟨hc1,hc2,hc3⟩:=hcap x hj1;obtain ⟨m,hn,hl⟩:=I2.loc;obtain ⟨u,r,l⟩:=hl j x v ej hj2 (.inr (.inl hc1));refine ⟨u,r,.inr ⟨.inl hc2,?_⟩⟩;rcases l with ⟨z,_⟩ | ⟨_,c,ec,⟨o,ho,hd⟩⟩
      · rw [show X.env.kindOf x=some .cell from hc1] at z; cases z
      · exact ⟨c,clo_of hc3 ec,o,old _ _ ho,hd⟩
    · obtain ⟨v,o,ho,hd⟩:=cold x c e;exact ⟨v,o,old _ _ ho,hd⟩
    · show upd H2 s2.heap.objs.size (.lst []) P2.objs.size=none;rw [upd_ne (Ne.symm hDC)]; exact frC
    · show upd H2 s2.heap.objs.size (.lst []) c=none;rw [upd_ne (below _ (clt x c e)).2]; exact I2.freeC x c (csub x c e)
    · have hp':p∈X.pn++pins:=by
        rcases List.mem_append.mp hp with z | z
        · exact z
        · cases z
      obtain ⟨a1,a2,a3,a4,a5⟩:=I2.pin p hp';refine ⟨old _ _ a1,?_,(below _ (Heap.lt_size a1)).1,nst _ a3 a4,a5⟩;rw [upd_ne (below _ (Heap.lt_size a1)).2]; exact a2
    · show (List.replicate k none++vs.map some).length=N'.length;exact caps_len hvs his hN hk
  have stat:∀ {H':Hp},(∀ b∈fp,H' b=none)→∀ b∈fp,FpOk (cxCompC X N' scope xs P2.objs.size s2 H2 fp pins) [] H' b:=fun {H'} hn b hb =>
    ⟨hn b hb,(below b (hfp b hb)).1,nst b (f2 b hb).2.1 (f2 b hb).2.2.1,.inl hb,fun x c e=>(f2 b hb).2.2.2.2.1 x c (csub x c e),fun p hp=>(f2 b hb).2.2.2.2.2 p (by
      rcases List.mem_append.mp hp with z | z
      · exact z
      · cases z)⟩
  have fin:∀ (ys:List V) (σ':St) (H':Hp) (s':Shared),Inv (cxCompC X N' scope xs P2.objs.size s2 H2 fp pins) [] σ' H' s'→Q (.ref s2.heap.objs.size) H' →
      ∃ m,s'.heap.Ns P2.objs.size m∧∀ h',Heap.SameBut P2.objs.size s'.heap h'→EP X pins σ Q (.ref s2.heap.objs.size) { s' with heap:=h' }:=by
    intro ys σ' H' s' J1 q;obtain ⟨m,hm,_⟩:=id J1.loc;refine ⟨m,hm,fun h' sb=>⟨.ref s2.heap.objs.size,H',?_,rfl,q⟩⟩;have ne:∀ b o,s2.heap.get? b=some o→b≠P2.objs.size:=fun b o e=>(below b (Heap.lt_size e)).1;refine I2.call' (s':={ s' with heap:=h' }) (ch:=fp) J1.os ⟨fun b o e n hb hx => ?_,fun b o e n hb hx => ?_,fun b o e n hx=>J1.base.free b o e n hx,fun b o e hx => ?_,J1.base.tups,J1.base.frzs,J1.base.tbls⟩ (J1.hok.but J1.free fun b u hb q=>(sb.2 b hb).trans q) J1.bare fun b hb=>⟨(f2 b hb).2.2.2.1,(f2 b hb).2.1,(f2 b hb).2.2.2.2.1,(f2 b hb).2.2.2.2.2⟩
    · exact (sb.2 b (ne b o e)).trans (J1.base.keep b o e n hb hx)
    · obtain ⟨sl,z⟩:=J1.base.slot b o e n hb hx;exact ⟨sl,(sb.2 b (ne b o e)).trans z⟩
    · obtain ⟨o',z⟩:=J1.base.there b o e hx;exact ⟨o',(sb.2 b (ne b o e)).trans z⟩
  have loop:codeAny (model X.prog X.w) X.A (.compLoop (.ListComp elt [⟨tg,iter,[],0⟩] scope pos) 0 (.ref it) (.ref s2.heap.objs.size) (compEnvC scope (clo X.env xs) P2.objs.size X.env))
      (compPost (model X.prog X.w) X.A X.xe none (EP X pins σ Q) (.ref s2.heap.objs.size) P2.objs.size)
      { s2 with heap:=h₁,toks:=s2.toks + ([]:List (Str × Value)).length }:=by
    refine compLoop_go (fun n s'=>∃ i ys σ' H',σ'.drop k=vs.map some∧Inv (cxCompC X N' scope xs P2.objs.size s2 H2 fp pins) [] σ' H' s'∧tn i s'.heap∧(∀ b∈fp,H' b=none)∧W i n ys H') ?_ m0
      ⟨0,[],List.replicate k none++vs.map some,_,by simp,I',T.keep _ _ _ st2 (fun b hb o e=>old b o e),fun b hb=>by rw [upd_ne (below b (hfp b hb)).2]; exact (f2 b hb).1,w0⟩
    rintro n s3 ⟨i,ys,σ3,H3,hd3,J3,st3,fr3,w3⟩;obtain ⟨hl,q3⟩:=turn i n ys H3 w3;rcases q3 with ⟨stop,q⟩ | ⟨go,hlt,step⟩
    · refine thn (T.done (cxCompC X N' scope xs P2.objs.size s2 H2 fp pins) rfl rfl rfl hcalm i [] s3 σ3 H3 _ J3 (stat fr3) st3 stop) fun r s4 ⟨hr,J4⟩ => ?_;subst hr;exact fin ys σ3 H3 s4 J4 q
    · refine thn (T.item (cxCompC X N' scope xs P2.objs.size s2 H2 fp pins) rfl rfl rfl hcalm i [] s3 σ3 H3 _ J3 (stat fr3) st3 go) fun r s4 ⟨u,hr,h4⟩ => ?_;subst hr;refine thn h4 fun _ s5 ⟨x,H5,J5,r5,y5,st5,fr5⟩ => ?_;have J5':=J5.pinned (stat fr5) (T.obj _ _ st5);have J6:Inv (cxCompC X N' scope xs P2.objs.size s2 H2 fp pins) ([]++pinsAt fp s5.heap) (List.replicate k none++vs.map some) H5 s5:=J5'.weak (by rw [J5'.len]; exact caps_len hvs his hN hk) (caps_keep hd3);refine wpAny_mono (hg _ _ _ _ _ _ s5 _ H5 x u _ J6 r5 (step x H5 y5)) (fun _ s6 ⟨σ6,H6,J7,hd6,q6⟩ => ?_) fun _ _ z=>False.elim z;refine wpAny_mono (he _ _ _ _ _ _ s6 σ6 H6 _ J7 q6) (fun yv s7 ⟨y,H7,J8,r7,q7⟩ => ?_) fun _ _ z=>False.elim z;obtain ⟨hl7,m',hm',w7⟩:=q7;refine wpAny_mono (mt_append (X:=cxCompC X N' scope xs P2.objs.size s2 H2 fp pins) _ s7 σ6 H7 (.ref s2.heap.objs.size) [y] (.ref s2.heap.objs.size) [yv] (fun v H8=>H8=upd H7 s2.heap.objs.size (.lst (ys++[y]))) J8 rfl (.cons r7 .nil) ⟨_,ys,y,rfl,rfl,hl7,hlt,rfl⟩) (fun _ s8 ⟨v8,H8,J9,r8,e8⟩ => ?_) fun _ _ z=>False.elim z;subst e8;have pk:∀ b∈fp,∀ o,s5.heap.get? b=some o→s8.heap.get? b=some o∧upd H7 s2.heap.objs.size (.lst (ys++[y])) b=none:=fun b hb o e =>
        let z:=J9.pin (b,o) (List.mem_append_right _ (List.mem_append_right _ (mem_pinsAt hb e)))
        ⟨z.1,z.2.1⟩
      refine ⟨m',hm',i + 1,ys++[y],σ6,_,hd6,J9.unpinned,T.keep _ _ _ st5 fun b hb o e=>(pk b hb o e).1,fun b hb => ?_,w7⟩;obtain ⟨o,e,_⟩:=T.obj _ _ st5 b hb;exact (pk b hb o e).2
  exact codeAny_compStart_list loop (T.self X.A 0 { s2 with heap:=h₁,toks:=s2.toks + ([]:List (Str × Value)).length } _ _ (T.keep _ _ _ st2 fun b hb o e=>old b o e) loop)
theorem pe_compCI (xs caps:List Str) (is:List Nat) (k:Nat) (hclos:closureFor scope X.env=pure (clo X.env xs)) (hin:(xs.all fun x=>(X.env.cells.lookup x).isSome)=true) (hcap:CapsOk X.env scope xs caps) (his:is.map (X.N[·]?)=caps.map some) (hN:N'.drop k=caps) (hk:k≤N'.length)
    (hallB:((relabel scope X.env).names.all fun y => !(y.2 == .cell || y.2 == .free) || xs.contains y.1)=true) (hcell:∀ y∈scope.names,y.2≠.cell) (hkind:scope.kind=.function) (hnames:∀ y∈scope.names,y.2=.local→scope.names.lookup y.1=some .local)
    (hcalm:X.calm=true) (hi:PI X tg iter wi) (hg:∀ C s0 H0 fp pins,PG (cxCompC X N' scope xs C s0 H0 fp pins) tg g) (ht:∀ C s0 H0 fp pins,PT (cxCompC X N' scope xs C s0 H0 fp pins) cnd tt) (he:∀ C s0 H0 fp pins,PE (cxCompC X N' scope xs C s0 H0 fp pins) elt te)
    (hs:∀ x,foldedSetIterable iter X.env x=pure x:=by intro _; rfl):PE X (.ListComp elt [⟨tg,iter,[cnd],0⟩] scope pos) (tCompCI is k wi g tt te):=by
  intro pins s σ H Q I h;have hall:=all_of hallB;obtain ⟨vs,hvs,h⟩:=h;rw [eval_ListComp];refine wpAny_comprehension_free (use:=none) rfl hs hclos hkind hnames (thn (hi pins s σ H _ I h) fun v s1 h1=>thn h1 fun itv s2 h2 => ?_);obtain ⟨it,fp,tn,J,H2,e,I2,T,st2,f2,hW⟩:=h2;subst e;refine wpAny_newObj_type (wpAny_newFunctionEnv hcell (by intro y hy; simp at hy) (fun h₁ hns₁ hsb₁ => ?_) hkind);dsimp only at hns₁ hsb₁ ⊢;generalize hH2:s2.heap.push { cls:=.type "list",dict:=none,data:=.seq ([]:List Value).toArray }=P2 at hns₁ hsb₁ ⊢
  have hC:P2.objs.size=s2.heap.objs.size + 1:=by rw [← hH2,Heap.size_push]
  have below:∀ b,b < s2.heap.objs.size→b≠P2.objs.size∧b≠s2.heap.objs.size:=fun b hb=>⟨by rw [hC]; exact Nat.ne_of_lt (Nat.lt_succ_of_lt hb),Nat.ne_of_lt hb⟩;have hDC:s2.heap.objs.size≠P2.objs.size:=by rw [hC]; exact Nat.ne_of_lt (Nat.lt_succ_self _)
  have old:∀ b o,s2.heap.get? b=some o→h₁.get? b=some o:=fun b o e=>hsb₁.extBut b o (below b (Heap.lt_size e)).1 (Heap.get?_push_of_some _ (hH2▸Heap.get?_push_of_some _ e));have hD:h₁.get? s2.heap.objs.size=some { cls:=.type "list",dict:=none,data:=.seq ([]:List Value).toArray }:=hsb₁.extBut _ _ hDC (Heap.get?_push_of_some _ (hH2▸Heap.get?_push_size _ rfl))
  have frD:H2 s2.heap.objs.size=none:=I2.hok.fresh (Nat.le_refl _);have frC:H2 P2.objs.size=none:=I2.hok.fresh (by rw [hC]; exact Nat.le_succ _);have hfp:∀ b∈fp,b < s2.heap.objs.size:=fun b hb=>by
    obtain ⟨o,e,_⟩:=T.obj _ _ st2 b hb;exact Heap.lt_size e
  have nst:∀ b,b≠X.env.locals→b∉X.fs→b∉frs X.stack:=fun b n1 n2 z=>by
    rcases List.mem_cons.mp (I2.stkSub b z) with e | e
    · exact n1 e
    · exact n2 e
  obtain ⟨W,⟨m0,w0⟩,turn⟩:=hW s2.heap.objs.size frD;have csub:∀ (x:Str) (c:Addr),(clo X.env xs).lookup x=some c→X.env.cells.lookup x=some c:=fun x c e=>clo_sub hin e;have cold:∀ (x:Str) (c:Addr),(clo X.env xs).lookup x=some c→∃ v,s2.heap.IsCell c v:=fun x c e=>I2.cell x c (csub x c e);have clt:∀ (x:Str) (c:Addr),(clo X.env xs).lookup x=some c→c < s2.heap.objs.size:=fun x c e=>by
    obtain ⟨v,o,ho,_⟩:=cold x c e;exact Heap.lt_size ho
  have ok':(cxCompC X N' scope xs P2.objs.size s2 H2 fp pins).Ok:=by
    refine ⟨I2.ok.mod,hkind,I2.ok.glob,I2.ok.blt,?_,fun x y c e e'=>I2.ok.inj x y c (csub x c e) (csub y c e'),fun x hx => ?_,(fun x c z _=>by cases z),I2.ok.hd,I2.ok.frames,.inl rfl,fun b hb=>⟨(below b (hfp b hb)).1,fun x c e=>(f2 b hb).2.2.2.2.1 x c (csub x c e)⟩,I2.bs,Nat.le_trans I2.ok.bsz I2.sz,fun b o e hb => ?_,fun b hb=>nst b (f2 b hb).2.1 (f2 b hb).2.2.1,I2.stack,I2.stkFree⟩
    · show s2.heap.objs.size≤P2.objs.size;rw [hC]; exact Nat.le_succ _
    · have hx':(relabel scope X.env).names.lookup x=some .cell∨(relabel scope X.env).names.lookup x=some .free:=hx;rcases hx' with z | z
      · exact clo_has (hall _ (PySem.mem_of_lookup z) (.inl rfl))
      · exact clo_has (hall _ (PySem.mem_of_lookup z) (.inr rfl))
    · rcases (f2 b hb).2.2.2.1 with z | z
      · exact I2.ok.noex b o e z
      · exact absurd (Nat.lt_of_lt_of_le (Heap.lt_size (I2.ok.bs b o e).1) z) (Nat.lt_irrefl _)
  have I':Inv (cxCompC X N' scope xs P2.objs.size s2 H2 fp pins) [] (List.replicate k none++vs.map some) (upd H2 s2.heap.objs.size (.lst [])) { s2 with heap:=h₁,toks:=s2.toks + ([]:List (Str × Value)).length }:=by
    refine ⟨ok',rfl,I2.bare,Un.laid old (Nat.le_refl _) frD,⟨_,hns₁,fun i x v e1 e2 e3 => ?_⟩,fun x c e => ?_,?_,fun x c e => ?_,fun p hp => ?_,I2.hok.laid old (Nat.le_refl _) ⟨by simp,[],0,.nil,hD⟩,?_⟩
    · obtain ⟨j,ej,hj1,hj2⟩:=caps_at hvs his hN e1 e2;obtain ⟨hc1,hc2,hc3⟩:=hcap x hj1;obtain ⟨m,hn,hl⟩:=I2.loc;obtain ⟨u,r,l⟩:=hl j x v ej hj2 (.inr (.inl hc1));refine ⟨u,r,.inr ⟨.inl hc2,?_⟩⟩;rcases l with ⟨z,_⟩ | ⟨_,c,ec,⟨o,ho,hd⟩⟩
      · rw [show X.env.kindOf x=some .cell from hc1] at z; cases z
      · exact ⟨c,clo_of hc3 ec,o,old _ _ ho,hd⟩
    · obtain ⟨v,o,ho,hd⟩:=cold x c e;exact ⟨v,o,old _ _ ho,hd⟩
    · show upd H2 s2.heap.objs.size (.lst []) P2.objs.size=none;rw [upd_ne (Ne.symm hDC)]; exact frC
    · show upd H2 s2.heap.objs.size (.lst []) c=none;rw [upd_ne (below _ (clt x c e)).2]; exact I2.freeC x c (csub x c e)
    · have hp':p∈X.pn++pins:=by
        rcases List.mem_append.mp hp with z | z
        · exact z
        · cases z
      obtain ⟨a1,a2,a3,a4,a5⟩:=I2.pin p hp';refine ⟨old _ _ a1,?_,(below _ (Heap.lt_size a1)).1,nst _ a3 a4,a5⟩;rw [upd_ne (below _ (Heap.lt_size a1)).2]; exact a2
    · show (List.replicate k none++vs.map some).length=N'.length;exact caps_len hvs his hN hk
  have stat:∀ {H':Hp},(∀ b∈fp,H' b=none)→∀ b∈fp,FpOk (cxCompC X N' scope xs P2.objs.size s2 H2 fp pins) [] H' b:=fun {H'} hn b hb =>
    ⟨hn b hb,(below b (hfp b hb)).1,nst b (f2 b hb).2.1 (f2 b hb).2.2.1,.inl hb,fun x c e=>(f2 b hb).2.2.2.2.1 x c (csub x c e),fun p hp=>(f2 b hb).2.2.2.2.2 p (by
      rcases List.mem_append.mp hp with z | z
      · exact z
      · cases z)⟩
  have fin:∀ (ys:List V) (σ':St) (H':Hp) (s':Shared),Inv (cxCompC X N' scope xs P2.objs.size s2 H2 fp pins) [] σ' H' s'→Q (.ref s2.heap.objs.size) H' →
      ∃ m,s'.heap.Ns P2.objs.size m∧∀ h',Heap.SameBut P2.objs.size s'.heap h'→EP X pins σ Q (.ref s2.heap.objs.size) { s' with heap:=h' }:=by
    intro ys σ' H' s' J1 q;obtain ⟨m,hm,_⟩:=id J1.loc;refine ⟨m,hm,fun h' sb=>⟨.ref s2.heap.objs.size,H',?_,rfl,q⟩⟩;have ne:∀ b o,s2.heap.get? b=some o→b≠P2.objs.size:=fun b o e=>(below b (Heap.lt_size e)).1;refine I2.call' (s':={ s' with heap:=h' }) (ch:=fp) J1.os ⟨fun b o e n hb hx => ?_,fun b o e n hb hx => ?_,fun b o e n hx=>J1.base.free b o e n hx,fun b o e hx => ?_,J1.base.tups,J1.base.frzs,J1.base.tbls⟩ (J1.hok.but J1.free fun b u hb q=>(sb.2 b hb).trans q) J1.bare fun b hb=>⟨(f2 b hb).2.2.2.1,(f2 b hb).2.1,(f2 b hb).2.2.2.2.1,(f2 b hb).2.2.2.2.2⟩
    · exact (sb.2 b (ne b o e)).trans (J1.base.keep b o e n hb hx)
    · obtain ⟨sl,z⟩:=J1.base.slot b o e n hb hx;exact ⟨sl,(sb.2 b (ne b o e)).trans z⟩
    · obtain ⟨o',z⟩:=J1.base.there b o e hx;exact ⟨o',(sb.2 b (ne b o e)).trans z⟩
  have loop:codeAny (model X.prog X.w) X.A (.compLoop (.ListComp elt [⟨tg,iter,[cnd],0⟩] scope pos) 0 (.ref it) (.ref s2.heap.objs.size) (compEnvC scope (clo X.env xs) P2.objs.size X.env))
      (compPost (model X.prog X.w) X.A X.xe none (EP X pins σ Q) (.ref s2.heap.objs.size) P2.objs.size)
      { s2 with heap:=h₁,toks:=s2.toks + ([]:List (Str × Value)).length }:=by
    refine compLoop_if (fun n s'=>∃ i ys σ' H',σ'.drop k=vs.map some∧Inv (cxCompC X N' scope xs P2.objs.size s2 H2 fp pins) [] σ' H' s'∧tn i s'.heap∧(∀ b∈fp,H' b=none)∧W i n ys H') ?_ m0
      ⟨0,[],List.replicate k none++vs.map some,_,by simp,I',T.keep _ _ _ st2 (fun b hb o e=>old b o e),fun b hb=>by rw [upd_ne (below b (hfp b hb)).2]; exact (f2 b hb).1,w0⟩
    rintro n s3 ⟨i,ys,σ3,H3,hd3,J3,st3,fr3,w3⟩;obtain ⟨hl,q3⟩:=turn i n ys H3 w3;rcases q3 with ⟨stop,q⟩ | ⟨go,hlt,step⟩
    · refine thn (T.done (cxCompC X N' scope xs P2.objs.size s2 H2 fp pins) rfl rfl rfl hcalm i [] s3 σ3 H3 _ J3 (stat fr3) st3 stop) fun r s4 ⟨hr,J4⟩ => ?_;subst hr;exact fin ys σ3 H3 s4 J4 q
    · refine thn (T.item (cxCompC X N' scope xs P2.objs.size s2 H2 fp pins) rfl rfl rfl hcalm i [] s3 σ3 H3 _ J3 (stat fr3) st3 go) fun r s4 ⟨u,hr,h4⟩ => ?_;subst hr;refine thn h4 fun _ s5 ⟨x,H5,J5,r5,y5,st5,fr5⟩ => ?_;have J5':=J5.pinned (stat fr5) (T.obj _ _ st5);have J6:Inv (cxCompC X N' scope xs P2.objs.size s2 H2 fp pins) ([]++pinsAt fp s5.heap) (List.replicate k none++vs.map some) H5 s5:=J5'.weak (by rw [J5'.len]; exact caps_len hvs his hN hk) (caps_keep hd3);refine wpAny_mono (hg _ _ _ _ _ _ s5 _ H5 x u _ J6 r5 (step x H5 y5)) (fun _ s6 ⟨σ6,H6,J7,hd6,q6⟩ => ?_) fun _ _ z=>False.elim z;refine wpAny_mono (ht _ _ _ _ _ _ s6 σ6 H6 _ J7 q6) (fun ok s6b ⟨H6b,J7b,q6b⟩ => ?_) fun _ _ z=>False.elim z;cases ok with
      | false =>
        rw [if_neg (by decide)];rw [if_neg (by decide)] at q6b;obtain ⟨m',hm',w7⟩:=q6b;have pk:∀ b∈fp,∀ o,s5.heap.get? b=some o→s6b.heap.get? b=some o∧H6b b=none:=fun b hb o e =>
          let z:=J7b.pin (b,o) (List.mem_append_right _ (List.mem_append_right _ (mem_pinsAt hb e)))
          ⟨z.1,z.2.1⟩
        refine ⟨m',hm',i + 1,ys,σ6,_,hd6,J7b.unpinned,T.keep _ _ _ st5 fun b hb o e=>(pk b hb o e).1,fun b hb => ?_,w7⟩;obtain ⟨o,e,_⟩:=T.obj _ _ st5 b hb;exact (pk b hb o e).2
      | true =>
        rw [if_pos rfl];rw [if_pos rfl] at q6b;refine wpAny_mono (he _ _ _ _ _ _ s6b σ6 H6b _ J7b q6b) (fun yv s7 ⟨y,H7,J8,r7,q7⟩ => ?_) fun _ _ z=>False.elim z;obtain ⟨hl7,m',hm',w7⟩:=q7;refine wpAny_mono (mt_append (X:=cxCompC X N' scope xs P2.objs.size s2 H2 fp pins) _ s7 σ6 H7 (.ref s2.heap.objs.size) [y] (.ref s2.heap.objs.size) [yv] (fun v H8=>H8=upd H7 s2.heap.objs.size (.lst (ys++[y]))) J8 rfl (.cons r7 .nil) ⟨_,ys,y,rfl,rfl,hl7,hlt,rfl⟩) (fun _ s8 ⟨v8,H8,J9,r8,e8⟩ => ?_) fun _ _ z=>False.elim z;subst e8;have pk:∀ b∈fp,∀ o,s5.heap.get? b=some o→s8.heap.get? b=some o∧upd H7 s2.heap.objs.size (.lst (ys++[y])) b=none:=fun b hb o e =>
          let z:=J9.pin (b,o) (List.mem_append_right _ (List.mem_append_right _ (mem_pinsAt hb e)))
          ⟨z.1,z.2.1⟩
        refine ⟨m',hm',i + 1,ys++[y],σ6,_,hd6,J9.unpinned,T.keep _ _ _ st5 fun b hb o e=>(pk b hb o e).1,fun b hb => ?_,w7⟩;obtain ⟨o,e,_⟩:=T.obj _ _ st5 b hb;exact (pk b hb o e).2
  exact codeAny_compStart_list loop (T.self X.A 0 { s2 with heap:=h₁,toks:=s2.toks + ([]:List (Str × Value)).length } _ _ (T.keep _ _ _ st2 fun b hb o e=>old b o e) loop)
end
end L2

namespace L2
open PySem PySem.Spec PyProof.Rows

def Ite (K:PySem.W.Frag) (l:Addr):It :=
  ⟨fun i H=>∃ xs x,SqL K H l xs∧xs[i]? = some x,
   fun i H v H'=>∃ p x,H p=none∧v=.ref p∧H'=upd H p (.tup [.int (i:Int),x])∧∀ xs,SqL K H l xs→xs[i]? = some x,
   fun i H=>∃ xs,SqL K H l xs∧xs.length≤i⟩
theorem turn_enum {P:Program} {w:World} {K:PySem.W.Frag} {elts:List Expr} {kk:Nat} {tp:Pos} {e it l:Addr} (hne:e≠it) (hl1:l≠e) (hl2:l≠it) :
    Turn P w K (.Tuple elts kk tp) (Ite K l) [e,it] e (fun i h=>(∃ old,IsEnum h e it (i:Int) old)∧h.IsListIter it l i) where
  mem:=by simp
  obj:=fun i h st b hb=>by
    obtain ⟨⟨old,he⟩,⟨o,ho,hc,hd⟩⟩:=st;simp only [List.mem_cons,List.not_mem_nil,or_false] at hb;rcases hb with rfl | rfl
    · exact ⟨_,he,fun v q=>by cases q⟩
    · exact ⟨o,ho,fun v q=>by rw [hd] at q; cases q⟩
  keep:=fun i h h' st k=>by
    obtain ⟨⟨old,he⟩,⟨o,ho,r⟩⟩:=st;exact ⟨⟨old,k _ (by simp) _ he⟩,⟨o,k _ (by simp) _ ho,r⟩⟩
  item:=by
    intro X hP hw hK hc i pins s σ H E I hf st hg;subst hP hw hK;obtain ⟨⟨old,he⟩,hit⟩:=st;obtain ⟨xs,x,q1,hx⟩:=hg;obtain ⟨us,r1,pl,_⟩:=I.list q1;obtain ⟨x',hx',rx⟩:=r1.get hx;have hn:H s.heap.objs.size=none:=I.hok.fresh (Nat.le_refl _);refine wpAny_pyNext_enum_item he hit pl.isList (x:=x') (by simpa using hx') hne fun g z' j1 tp' sz kp=>⟨_,rfl,?_⟩;have lt:∀ {b:Addr} {o:Obj},s.heap.get? b=some o→s.heap.objs.size≠b:=fun e=>Nat.ne_of_gt (Heap.lt_size e);refine wpAny_letOwnedTupleGo_enum z' fun g' z'' sb => ?_;have I1:Inv X pins σ (upd H s.heap.objs.size (.tup [.int (i:Int),x])) { s with heap:=s.heap.push { cls:=.type "tuple",data:=.seq #[.int i s.toks,x'] } } :=
      I.laid (t':=s.toks) (fun b u e=>Heap.get?_push_of_some _ e) (Nat.le_refl _) ⟨(by show 2≤sizeLine; decide),[.int i s.toks,x'],.cons ⟨_,rfl⟩ (.cons rx .nil),⟨_,Heap.get?_push_size _ rfl,rfl,_,rfl⟩⟩
    obtain ⟨oi,hoi,_⟩:=id hit;have fp':∀ b∈[e,it],s.heap.objs.size≠b∧upd H s.heap.objs.size (.tup [.int (i:Int),x]) b=none:=fun b hb=>by
      have q:s.heap.objs.size≠b:=by
        simp only [List.mem_cons,List.not_mem_nil,or_false] at hb;rcases hb with rfl | rfl
        · exact lt he
        · exact lt hoi
      exact ⟨q,by rw [upd_ne (Ne.symm q)]; exact (hf b hb).1⟩
    have I2:Inv X pins σ (upd H s.heap.objs.size (.tup [.int (i:Int),x])) { s with heap:=g',toks:=s.toks + 1 }:=by
      refine Inv.turnedL (s:={ s with heap:=s.heap.push { cls:=.type "tuple",data:=.seq #[.int i s.toks,x'] } }) (h':=g') (t':=s.toks + 1) (L:=[e,it]) I1 (fun b o hb q => ?_) fun b hb => ?_
      · have b1:b≠e:=fun z=>hb (by simp [z]);have b2:b≠it:=fun z=>hb (by simp [z]);rcases Heap.get?_push_cases q with ⟨e1,e2⟩ | e1
        · subst e1 e2;exact sb.extBut _ _ b1 tp'
        · exact sb.extBut _ _ b1 (kp b o b1 b2 e1)
      · obtain ⟨f0,f1,f2,f3,f4,f5⟩:=hf b hb;exact ⟨(fp' b hb).2,f1,f2,f3,f4,f5⟩
    refine ⟨.ref s.heap.objs.size,_,I2,rfl,⟨_,x,hn,rfl,rfl,fun zs hq => ?_⟩,⟨⟨_,by exact_mod_cast z''⟩,j1.extBut sb.extBut (Ne.symm hne)⟩,fun b hb=>(fp' b hb).2⟩;rw [I.list_inj hq q1]; exact hx
  done:=by
    intro X hP hw hK hc i pins s σ H E I hf st hg;subst hP hw hK;obtain ⟨⟨old,he⟩,hit⟩:=st;obtain ⟨xs,q1,hge⟩:=hg;obtain ⟨us,r1,pl,_⟩:=I.list q1;have e1:=r1.length;refine wpAny_pyNext_enum_end (I.ok.hd hc) he hit pl.isList (by simp; omega) fun g kp=>⟨rfl,I.turnedL (t':=s.toks) (L:=[e,it]) (fun b o hb q=>kp b o (fun z=>hb (by simp [z])) q) fun b hb=>hf b hb⟩
  self:=fun _ _ _ _ _ st h=>let ⟨⟨_,he⟩,_⟩:=st; wpAny_pyIter_enum he h
section
variable {X:Cx}
def iEnum (K:PySem.W.Frag) (ta:TA):TI:=fun σ H R=>ta σ H fun vs H1=>∃ l,vs=[.ref l]∧(∃ xs,SqL K H1 l xs)∧R (Ite K l) H1
theorem bt_enum:bootBuiltins "enumerate" = some (.type "enumerate"):=by decide +kernel
theorem pi_enumerate {a:Expr} {ta:TA} {p pos:Pos} {elts:List Expr} {kk:Nat} {tp:Pos} (hg:Gl X "enumerate") (hm:X.mg "enumerate" = none) (ha:PA X [a] ta)
    (hs:starEach [a] X.env=(false,eval a X.env)::starEach [] X.env:=by rfl) (hpl:(backTo pos (starEach [] X.env)).any (·.1)=false:=by rfl) :
    PI X (.Tuple elts kk tp) (.Call (.Name "enumerate" p) [a] [] pos) (iEnum X.K ta):=by
  intro pins s σ H R I h;refine Call_ (ld_blt I hg hm bt_enum (PyProof.Rows.callWith_type1 (thn (ha pos pins s σ H _ I h) fun us s1 ⟨vs,H1,I1,r1,q1⟩ => ?_) hs hpl));obtain ⟨l,e,⟨xs,q1⟩,q⟩:=q1;subst e;obtain ⟨u,rfl,ru⟩:=vals1 r1;cases ru;obtain ⟨its,r,pl,_⟩:=I1.list q1;have hlt:l < s1.heap.objs.size:=by obtain ⟨_,e,_⟩:=pl.isList; exact Heap.lt_size e
  refine call_enumerate_list pl.isList fun g he hit sz kp=>wpAny_pyIter_enum he ?_;refine ⟨_,[s1.heap.objs.size + 1,s1.heap.objs.size],_,_,H1,rfl,I1.kept (t':=s1.toks) kp,turn_enum (l:=l) (Nat.succ_ne_self _) (Nat.ne_of_lt (Nat.lt_succ_of_lt hlt)) (Nat.ne_of_lt hlt),⟨⟨_,he⟩,hit⟩,fun b hb => ?_,q⟩;have hb':s1.heap.objs.size≤b:=by
    simp only [List.mem_cons,List.not_mem_nil,or_false] at hb;rcases hb with h | h
    · rw [h]; exact Nat.le_add_right _ _
    · rw [h]; exact Nat.le_refl _
  exact I1.fpOk hb' (I1.hok.fresh hb')
end
theorem for_enum {K:PySem.W.Frag} {l:Addr} {xs:List V} {g:TG} {tb:TS} {D:Ends} {σ:St} {H:Hp} (Pv:Nat→St→Hp→Prop) (h0:Pv 0 σ H) (hl:∀ i σ H,Pv i σ H→SqL K H l xs)
    (hs:∀ i x p σ H,xs[i]? = some x→Pv i σ H→H p=none→g (.ref p) σ (upd H p (.tup [.int (i:Int),x])) fun σ2 H2=>tb { D with nx:=Pv (i + 1),ct:=Pv (i + 1),bk:=D.nx } σ2 H2) (hd:∀ σ H,Pv xs.length σ H→D.nx σ H) :
    ∃ W:Nat→Nat→St→Hp→Prop,(∃ m,W 0 m σ H)∧∀ i m σ H,W i m σ H →
      ((Ite K l).stop i H∧D.nx σ H)∨((Ite K l).go i H∧∃ N:St→Hp→Prop,(∀ σ' H',N σ' H'→∃ m',m' < m∧W (i + 1) m' σ' H')∧∀ x H',(Ite K l).yld i H x H'→g x σ H' fun σ2 H2=>tb { D with nx:=N,ct:=N,bk:=D.nx } σ2 H2):=by
  refine ⟨fun i m σ H=>m=xs.length - i∧i≤xs.length∧Pv i σ H,⟨_,rfl,Nat.zero_le _,h0⟩,?_⟩;rintro i m σ H ⟨rfl,hi,p⟩;have q:=hl i σ H p;by_cases hlt:i < xs.length
  · refine .inr ⟨⟨xs,xs[i],q,by simp [hlt]⟩,Pv (i + 1),fun σ' H' p'=>⟨_,by omega,rfl,hlt,p'⟩,fun v H' y => ?_⟩;obtain ⟨a,x,hn,rfl,rfl,hx⟩:=y;exact hs i x a σ H (hx xs q) p hn
  · have e:i=xs.length:=by omega
    subst e;exact .inl ⟨⟨xs,q,Nat.le_refl _⟩,hd σ H p⟩

mutual
inductive Dat (H:Hp):V→PyData→Prop
  | non:Dat H .non .none
  | bl (b:Bool):Dat H (.bl b) (.bool b)
  | int (i:Int):Dat H (.int i) (.int i)
  | str (x:Str):Dat H (.str x) (.str x)
  | lst {a:Addr} {xs:List V} {ds:List PyData}:H a=some (.lst xs)→Dats H xs ds→Dat H (.ref a) (.list ds)
  | tup {a:Addr} {xs:List V} {ds:List PyData}:H a=some (.tup xs)→Dats H xs ds→Dat H (.ref a) (.tuple ds)
inductive Dats (H:Hp):List V→List PyData→Prop
  | nil:Dats H [] []
  | cons {x:V} {xs:List V} {d:PyData} {ds:List PyData}:Dat H x d→Dats H xs ds→Dats H (x::xs) (d::ds)
end
section
variable {P:Program} {w:World} {H:Hp} {h:Heap}
mutual
theorem Dat.reads (ok:HOk P w H h):∀ {x:V} {d:PyData} {u:Value},Dat H x d→RelV x u→∃ as,Reads h u d as
  | _,_,u,.non,r=>by cases (show u=Value.none from r); exact ⟨_,.none⟩
  | _,_,u,.bl b,r=>by cases (show u=Value.bool b from r); exact ⟨_,.bool b⟩
  | _,_,u,.int i,r=>by obtain ⟨t,rfl⟩:=r; exact ⟨_,.int i t⟩
  | _,_,u,.str x,r=>by obtain ⟨t,rfl⟩:=r; exact ⟨_,.str x t⟩
  | _,_,u,.lst (a:=a) e q,r=>by
    cases (show u=Value.ref a from r);obtain ⟨_,its,n,rv,g⟩:=ok a _ e;obtain ⟨as,rs⟩:=Dats.reads ok q rv;exact ⟨_,.list g rfl rfl rs⟩
  | _,_,u,.tup (a:=a) e q,r=>by
    cases (show u=Value.ref a from r);obtain ⟨_,its,rv,o,g,c,n,dd⟩:=ok a _ e;obtain ⟨as,rs⟩:=Dats.reads ok q rv;exact ⟨_,.tuple g c dd rs⟩
theorem Dats.reads (ok:HOk P w H h):∀ {xs:List V} {ds:List PyData} {us:List Value},Dats H xs ds→Vals xs us→∃ as,ReadsAll h us ds as
  | _,_,_,.nil,.nil=>⟨_,.nil⟩
  | _,_,_,.cons p q,.cons r s=>by
    obtain ⟨as,x⟩:=Dat.reads ok p r;obtain ⟨bs,y⟩:=Dats.reads ok q s;exact ⟨_,.cons x y⟩
end
end
def rEqD (neg:Bool):R2:=fun x y H Q=>∃ d1 d2,Dat H x d1∧Dat H y d2∧SeqAt.shaped d1=true∧SeqAt.shaped d2=true∧Q (.bl (if neg then !PyData.eqv d1 d2 else PyData.eqv d1 d2)) H
section
variable {X:Cx}
theorem op_eqD {k:Nat} (hr:Room k X.A):OpR X (compareOp .Eq) (rEqD false):=by
  intro pins s σ H x y v u Q I rx ry h;obtain ⟨d1,d2,p,q,s1,s2,h⟩:=h;obtain ⟨as,r1⟩:=p.reads I.hok rx;obtain ⟨bs,r2⟩:=q.reads I.hok ry;exact eq_dataH r1 r2 s1 s2 hr.units ⟨.bl _,H,I,rfl,h⟩
theorem op_neD {k:Nat} (hr:Room k X.A):OpR X (compareOp .NotEq) (rEqD true):=by
  intro pins s σ H x y v u Q I rx ry h;obtain ⟨d1,d2,p,q,s1,s2,h⟩:=h;obtain ⟨as,r1⟩:=p.reads I.hok rx;obtain ⟨bs,r2⟩:=q.reads I.hok ry;exact ne_dataH r1 r2 s1 s2 hr.units ⟨.bl _,H,I,rfl,h⟩
end
end L2

namespace L2
open PySem PySem.Spec PyProof.Rows
section
variable {X:Cx}
theorem call_any (hc:X.calm=true):CallR X (.builtin "any") (fun xs H Q=>∃ (a:Addr) (bs:List Bool),xs=[.ref a]∧SqL X.K H a (bs.map V.bl)∧Q (.bl (bs.any id)) H):=by
  intro pins s σ H xs us Q I r h;obtain ⟨a,bs,rfl,hS,q⟩:=h;obtain ⟨u,rfl,ru⟩:=vals1 r;cases ru;obtain ⟨its,rv,pl,_⟩:=I.list hS;have hb:=boolsAre_of rv;have hlt:a < s.heap.objs.size:=by obtain ⟨_,e,_⟩:=pl.isList; exact Heap.lt_size e
  refine call_any_walk (wpAny_pyIter_list pl.isList ?_);refine ⟨s.heap.objs.size,[s.heap.objs.size,a],[s.heap.objs.size],its.toArray.size,_,_,fun i=>(bs[i]?).getD false,rfl,Walks.list (A:=X.A.in1) (I.ok.hd hc) _ a (Nat.ne_of_lt hlt) its.toArray,
    ⟨⟨_,Heap.get?_push_size _ rfl,rfl,rfl⟩,pl.isList.push _⟩,fun i v s' Q' E' hP hQ => ?_,fun h' tk hk => ?_⟩
  · obtain ⟨b,e,rfl⟩:=hb.get i v (by simpa using hP);simp only [e,Option.getD_some] at hQ;exact wpAny_truthy_bool hQ
  · have e:((List.range its.toArray.size).any fun i=>(bs[i]?).getD false)=bs.any id:=by
      rw [List.size_toArray,hb.length]; exact LSm.range_any bs
    rw [e];exact ⟨.bl _,H,I.kept (LSm.kept_iter hk),rfl,q⟩
end
section
variable {X:Cx} {K:PySem.W.Frag}

end

section
variable {K:PySem.W.Frag} {σ0 cs:St} {k:Nat} {g:TG} {te:TE} {tt:TT} {H1:Hp} {Q:VK}
theorem compC_by {J:It} (n:Nat) (gv:Nat→V→Prop) (Pv:Addr→Nat→List V→Hp→Prop) (hn:n≤sizeLine)
    (hgo:∀ D i ys H,i < n→Pv D i ys H→J.go i H) (hst:∀ D ys H,Pv D n ys H→J.stop n H) (hy:∀ D i ys H x H',i < n→Pv D i ys H→J.yld i H x H'→H'=H∧gv i x)
    (hl:∀ D i ys H,Pv D i ys H→H D=some (.lst ys)∧ys.length≤i) (h0:∀ D,H1 D=none→Pv D 0 [] (upd H1 D (.lst [])))
    (hs:∀ D i x ys H,i < n→gv i x→H1 D=none→Pv D i ys H→g x σ0 H fun σ2 H3=>σ2.drop k=cs∧te σ2 H3 fun y H4=>H4 D=some (.lst ys)∧Pv D (i + 1) (ys++[y]) (upd H4 D (.lst (ys++[y]))))
    (hd:∀ D ys H,H1 D=none→Pv D n ys H→Q (.ref D) H) (mono:∀ x σ H (R R':St→Hp→Prop),(∀ σ' H',R σ' H'→R' σ' H')→g x σ H R→g x σ H R')
    (mono2:∀ σ H (R R':VK),(∀ v H',R v H'→R' v H')→te σ H R→te σ H R'):compKC σ0 k cs g te Q J H1:=by
  intro D hD;refine ⟨fun i m ys H=>m=n - i∧i≤n∧Pv D i ys H,⟨n,rfl,Nat.zero_le _,h0 D hD⟩,?_⟩;rintro i m ys H ⟨rfl,hi,p⟩;obtain ⟨e1,e2⟩:=hl D i ys H p;refine ⟨e1,?_⟩;by_cases hlt:i < n
  · refine .inr ⟨hgo D i ys H hlt p,by omega,fun x H' y => ?_⟩;obtain ⟨rfl,hx⟩:=hy D i ys H x H' hlt p y;refine mono _ _ _ _ _ (fun σ2 H3 ⟨z1,z2⟩=>⟨z1,mono2 _ _ _ _ (fun v H4 ⟨z3,z4⟩=>⟨z3,n - (i + 1),by omega,rfl,hlt,z4⟩) z2⟩) (hs D i x ys H' hlt hx hD p)
  · have e:i=n:=by omega
    subst e;exact .inl ⟨hst D ys H p,hd D ys H hD p⟩
theorem compCI_by {J:It} (n:Nat) (gv:Nat→V→Prop) (Pv:Addr→Nat→List V→Hp→Prop) (hn:n≤sizeLine)
    (hgo:∀ D i ys H,i < n→Pv D i ys H→J.go i H) (hst:∀ D ys H,Pv D n ys H→J.stop n H) (hy:∀ D i ys H x H',i < n→Pv D i ys H→J.yld i H x H'→H'=H∧gv i x)
    (hl:∀ D i ys H,Pv D i ys H→H D=some (.lst ys)∧ys.length≤i) (h0:∀ D,H1 D=none→Pv D 0 [] (upd H1 D (.lst [])))
    (hs:∀ D i x ys H,i < n→gv i x→H1 D=none→Pv D i ys H→g x σ0 H fun σ2 H3=>σ2.drop k=cs∧tt σ2 H3 fun b H4=>if b=true then te σ2 H4 fun y H5=>H5 D=some (.lst ys)∧Pv D (i + 1) (ys++[y]) (upd H5 D (.lst (ys++[y]))) else Pv D (i + 1) ys H4)
    (hd:∀ D ys H,H1 D=none→Pv D n ys H→Q (.ref D) H) (mono:∀ x σ H (R R':St→Hp→Prop),(∀ σ' H',R σ' H'→R' σ' H')→g x σ H R→g x σ H R')
    (mono2:∀ σ H (R R':VK),(∀ v H',R v H'→R' v H')→te σ H R→te σ H R') (mono3:∀ σ H (R R':Bool→Hp→Prop),(∀ v H',R v H'→R' v H')→tt σ H R→tt σ H R'):compKCI σ0 k cs g tt te Q J H1:=by
  intro D hD;refine ⟨fun i m ys H=>m=n - i∧i≤n∧Pv D i ys H,⟨n,rfl,Nat.zero_le _,h0 D hD⟩,?_⟩;rintro i m ys H ⟨rfl,hi,p⟩;obtain ⟨e1,e2⟩:=hl D i ys H p;refine ⟨e1,?_⟩;by_cases hlt:i < n
  · refine .inr ⟨hgo D i ys H hlt p,by omega,fun x H' y => ?_⟩;obtain ⟨rfl,hx⟩:=hy D i ys H x H' hlt p y;refine mono _ _ _ _ _ (fun σ2 H3 ⟨z1,z2⟩=>⟨z1,mono3 _ _ _ _ (fun b H4 z => ?_) z2⟩) (hs D i x ys H' hlt hx hD p);cases b with
    | true =>
      rw [if_pos rfl] at z ⊢;exact mono2 _ _ _ _ (fun v H5 ⟨z3,z4⟩=>⟨z3,n - (i + 1),by omega,rfl,hlt,z4⟩) z
    | false =>
      rw [if_neg (by decide)] at z ⊢;exact ⟨n - (i + 1),by omega,rfl,hlt,z⟩
  · have e:i=n:=by omega
    subst e;exact .inl ⟨hst D ys H p,hd D ys H hD p⟩
theorem compC_list {a:Addr} (xs:List V) (Pv:Addr→Nat→List V→Hp→Prop) (hn:xs.length≤sizeLine) (hq:∀ D i ys H,Pv D i ys H→SqL K H a xs)
    (hl:∀ D i ys H,Pv D i ys H→H D=some (.lst ys)∧ys.length≤i) (h0:∀ D,H1 D=none→Pv D 0 [] (upd H1 D (.lst [])))
    (hs:∀ D i x ys H,xs[i]? = some x→H1 D=none→Pv D i ys H→g x σ0 H fun σ2 H3=>σ2.drop k=cs∧te σ2 H3 fun y H4=>H4 D=some (.lst ys)∧Pv D (i + 1) (ys++[y]) (upd H4 D (.lst (ys++[y]))))
    (hd:∀ D ys H,H1 D=none→Pv D xs.length ys H→Q (.ref D) H) (mono:∀ x σ H (R R':St→Hp→Prop),(∀ σ' H',R σ' H'→R' σ' H')→g x σ H R→g x σ H R')
    (mono2:∀ σ H (R R':VK),(∀ v H',R v H'→R' v H')→te σ H R→te σ H R'):compKC σ0 k cs g te Q (Itl K a) H1 :=
  compC_by xs.length (fun i x=>xs[i]? = some x) Pv hn (fun D i ys H hi p=>⟨xs,xs[i],hq D i ys H p,by simp [hi]⟩) (fun D ys H p=>⟨xs,hq D _ ys H p,Nat.le_refl _⟩)
    (fun D i ys H x H' hi p y=>⟨y.1,y.2 xs (hq D i ys H p)⟩) hl h0 (fun D i x ys H hi hx hD p=>hs D i x ys H hx hD p) hd mono mono2
end
inductive Tr where
  | col (i:Int)
  | four (a b c d:Tr)
deriving DecidableEq
def Tr.data:Tr→PyData
  | .col i=>.int i
  | .four a b c d=>.tuple [a.data,b.data,c.data,d.data]
def Tr.deep:Tr→Nat
  | .col _=>0
  | .four a b c d=>max a.deep (max b.deep (max c.deep d.deep)) + 1
def Tr.isCol:Tr→Bool
  | .col _=>true
  | .four ..=>false
inductive TrAt (H:Hp):V→Tr→Prop
  | col (i:Int):TrAt H (.int i) (.col i)
  | four {p:Addr} {a b c d:V} {ta tb tc td:Tr}:H p=some (.tup [a,b,c,d])→TrAt H a ta→TrAt H b tb→TrAt H c tc→TrAt H d td→TrAt H (.ref p) (.four ta tb tc td)

def Tups (H H':Hp):Prop:=∀ b xs,H b=some (.tup xs)→H' b=some (.tup xs)
theorem Same.tups {H H':Hp} (s:Same H H'):Tups H H':=fun b xs e=>s b _ e
theorem Tups.trans {H H' H'':Hp} (s:Tups H H') (t:Tups H' H''):Tups H H'':=fun b xs e=>t b xs (s b xs e)
theorem Tups.lst {H:Hp} {l:Addr} {xs ys:List V} (e:H l=some (.lst xs)):Tups H (upd H l (.lst ys)):=fun b zs q=>by
  rw [upd_ne (ne_of q e (by intro z; cases z))]; exact q
theorem TrAt.up {H H':Hp} (s:Tups H H'):∀ {v:V} {t:Tr},TrAt H v t→TrAt H' v t
  | _,_,.col i=>.col i
  | _,_,.four e a b c d=>.four (s _ _ e) (TrAt.up s a) (TrAt.up s b) (TrAt.up s c) (TrAt.up s d)
theorem TrAt.dat {H:Hp}:∀ {v:V} {t:Tr},TrAt H v t→Dat H v t.data
  | _,_,.col i=>.int i
  | _,_,.four e a b c d=>.tup e (.cons a.dat (.cons b.dat (.cons c.dat (.cons d.dat .nil))))
theorem Tr.eqv:∀ t u:Tr,PyData.eqv t.data u.data=decide (t=u)
  | .col i,.col j=>by
    show (i == j)=_;by_cases h:i=j <;> simp [h]
  | .col i,.four ..=>by
    show false=_;simp
  | .four ..,.col j=>by
    show false=_;simp
  | .four a b c d,.four a' b' c' d'=>by
    show (PyData.eqv a.data a'.data && (PyData.eqv b.data b'.data && (PyData.eqv c.data c'.data && (PyData.eqv d.data d'.data && true))))=_;rw [Tr.eqv a a',Tr.eqv b b',Tr.eqv c c',Tr.eqv d d'];by_cases h1:a=a' <;> by_cases h2:b=b' <;> by_cases h3:c=c' <;> by_cases h4:d=d' <;> simp [h1,h2,h3,h4]
theorem Tr.lay:∀ t:Tr,t.data.canLay0=true
  | .col i=>rfl
  | .four a b c d=>by
    show (a.data.canLay0 && (b.data.canLay0 && (c.data.canLay0 && (d.data.canLay0 && true))))=true;rw [Tr.lay a,Tr.lay b,Tr.lay c,Tr.lay d]; rfl
theorem Tr.depth:∀ t:Tr,t.data.depth=t.deep
  | .col i=>rfl
  | .four a b c d=>by
    show max a.data.depth (max b.data.depth (max c.data.depth (max d.data.depth 0))) + 1=_;rw [Tr.depth a,Tr.depth b,Tr.depth c,Tr.depth d,Nat.max_zero]; rfl
theorem Tr.shaped {t:Tr} (h:t.deep≤64):SeqAt.shaped t.data=true:=by
  unfold SeqAt.shaped;rw [Tr.lay,Tr.depth,decide_eq_true h]; rfl
theorem TrAt.ty {K:PySem.W.Frag} {H:Hp} {v:V} {t:Tr} (h:TrAt H v t):TyOf K H v (if t.isCol then .type "int" else .type "tuple"):=by
  cases h with
  | col i=>exact .int i
  | four e=>exact .tup e
end L2

namespace L2
open PySem PySem.Spec PyProof.Rows

section
variable {X:Cx} {elt tg iter cnd:Expr} {scope:Scope} {pos:Pos} {N':List Str} {wi:TI} {g:TG} {te:TE} {tt:TT}
theorem ps_setCI {y:Str} {py spos:Pos} {i0:Nat} (xs caps:List Str) (is:List Nat) (k:Nat) (hclos:closureFor scope X.env=pure (clo X.env xs)) (hin:(xs.all fun x=>(X.env.cells.lookup x).isSome)=true) (hcap:CapsOk X.env scope xs caps) (his:is.map (X.N[·]?)=caps.map some) (hN:N'.drop k=caps) (hk:k≤N'.length)
    (hallB:((relabel scope X.env).names.all fun y => !(y.2 == .cell || y.2 == .free) || xs.contains y.1)=true) (hcell:∀ y∈scope.names,y.2≠.cell) (hkind:scope.kind=.function) (hnames:∀ y∈scope.names,y.2=.local→scope.names.lookup y.1=some .local)
    (hcalm:X.calm=true) (hi:PI X tg iter wi) (hg:∀ C s0 H0 fp pins,PG (cxCompC X N' scope xs C s0 H0 fp pins) tg g) (ht:∀ C s0 H0 fp pins,PT (cxCompC X N' scope xs C s0 H0 fp pins) cnd tt) (he:∀ C s0 H0 fp pins,PE (cxCompC X N' scope xs C s0 H0 fp pins) elt te)
    (hNd:X.N.Nodup) (hi0:X.N[i0]? = some y) (hy:Loc X.env.scope y) (hsw:swapsWith (.ListComp elt [⟨tg,iter,[cnd],0⟩] scope pos) (some (.Name y py)) spos.line X.env=pure true:=by rfl) (hf:X.fn y=true∨X.env.scope.names.lookup y=some .local:=by first | exact .inl rfl | exact .inr rfl | assumption)
    (hs:∀ x,foldedSetIterable iter X.env x=pure x:=by intro _; rfl):PS X (.Assign [.Name y py] (.ListComp elt [⟨tg,iter,[cnd],0⟩] scope pos) spos) (tAsg (tCompCI is k wi g tt te) (gName i0)):=by
  intro pins s σ H D0 I h;have hall:=all_of hallB;obtain ⟨vs,hvs,h⟩:=h;rw [exec_Assign_Name_used _ _ _ _ hsw];refine wpAny_bind (wpAny_standAt (wpAny_bind ?_));show wpAny _ X.A (do let _ ← comprehension (.ListComp elt [⟨tg,iter,[cnd],0⟩] scope pos) scope X.env _ (newList []) false (eval iter X.env) (some (assign (.Name y py) X.env))) _ _ s;refine wpAny_bind (wpAny_mono (wpAny_comprehension_free (use:=some (assign (.Name y py) X.env)) (Q:=fun _ s'=>SP X pins D0 .next s') rfl hs hclos hkind hnames (thn (hi pins s σ H _ I h) fun v s1 h1=>thn h1 fun itv s2 h2 => ?_)) (fun _ s' hq=>wpAny_pure (wpAny_pure hq)) fun _ _ e=>e);obtain ⟨it,fp,tn,J,H2,e,I2,T,st2,f2,hW⟩:=h2;subst e;refine wpAny_newObj_type (wpAny_newFunctionEnv hcell (by intro y hy; simp at hy) (fun h₁ hns₁ hsb₁ => ?_) hkind);dsimp only at hns₁ hsb₁ ⊢;generalize hH2:s2.heap.push { cls:=.type "list",dict:=none,data:=.seq ([]:List Value).toArray }=P2 at hns₁ hsb₁ ⊢
  have hC:P2.objs.size=s2.heap.objs.size + 1:=by rw [← hH2,Heap.size_push]
  have below:∀ b,b < s2.heap.objs.size→b≠P2.objs.size∧b≠s2.heap.objs.size:=fun b hb=>⟨by rw [hC]; exact Nat.ne_of_lt (Nat.lt_succ_of_lt hb),Nat.ne_of_lt hb⟩;have hDC:s2.heap.objs.size≠P2.objs.size:=by rw [hC]; exact Nat.ne_of_lt (Nat.lt_succ_self _)
  have old:∀ b o,s2.heap.get? b=some o→h₁.get? b=some o:=fun b o e=>hsb₁.extBut b o (below b (Heap.lt_size e)).1 (Heap.get?_push_of_some _ (hH2▸Heap.get?_push_of_some _ e));have hD:h₁.get? s2.heap.objs.size=some { cls:=.type "list",dict:=none,data:=.seq ([]:List Value).toArray }:=hsb₁.extBut _ _ hDC (Heap.get?_push_of_some _ (hH2▸Heap.get?_push_size _ rfl))
  have frD:H2 s2.heap.objs.size=none:=I2.hok.fresh (Nat.le_refl _);have frC:H2 P2.objs.size=none:=I2.hok.fresh (by rw [hC]; exact Nat.le_succ _);have hfp:∀ b∈fp,b < s2.heap.objs.size:=fun b hb=>by
    obtain ⟨o,e,_⟩:=T.obj _ _ st2 b hb;exact Heap.lt_size e
  have nst:∀ b,b≠X.env.locals→b∉X.fs→b∉frs X.stack:=fun b n1 n2 z=>by
    rcases List.mem_cons.mp (I2.stkSub b z) with e | e
    · exact n1 e
    · exact n2 e
  obtain ⟨W,⟨m0,w0⟩,turn⟩:=hW s2.heap.objs.size frD;have csub:∀ (x:Str) (c:Addr),(clo X.env xs).lookup x=some c→X.env.cells.lookup x=some c:=fun x c e=>clo_sub hin e;have cold:∀ (x:Str) (c:Addr),(clo X.env xs).lookup x=some c→∃ v,s2.heap.IsCell c v:=fun x c e=>I2.cell x c (csub x c e);have clt:∀ (x:Str) (c:Addr),(clo X.env xs).lookup x=some c→c < s2.heap.objs.size:=fun x c e=>by
    obtain ⟨v,o,ho,_⟩:=cold x c e;exact Heap.lt_size ho
  have ok':(cxCompC X N' scope xs P2.objs.size s2 H2 fp pins).Ok:=by
    refine ⟨I2.ok.mod,hkind,I2.ok.glob,I2.ok.blt,?_,fun x y c e e'=>I2.ok.inj x y c (csub x c e) (csub y c e'),fun x hx => ?_,(fun x c z _=>by cases z),I2.ok.hd,I2.ok.frames,.inl rfl,fun b hb=>⟨(below b (hfp b hb)).1,fun x c e=>(f2 b hb).2.2.2.2.1 x c (csub x c e)⟩,I2.bs,Nat.le_trans I2.ok.bsz I2.sz,fun b o e hb => ?_,fun b hb=>nst b (f2 b hb).2.1 (f2 b hb).2.2.1,I2.stack,I2.stkFree⟩
    · show s2.heap.objs.size≤P2.objs.size;rw [hC]; exact Nat.le_succ _
    · have hx':(relabel scope X.env).names.lookup x=some .cell∨(relabel scope X.env).names.lookup x=some .free:=hx;rcases hx' with z | z
      · exact clo_has (hall _ (PySem.mem_of_lookup z) (.inl rfl))
      · exact clo_has (hall _ (PySem.mem_of_lookup z) (.inr rfl))
    · rcases (f2 b hb).2.2.2.1 with z | z
      · exact I2.ok.noex b o e z
      · exact absurd (Nat.lt_of_lt_of_le (Heap.lt_size (I2.ok.bs b o e).1) z) (Nat.lt_irrefl _)
  have I':Inv (cxCompC X N' scope xs P2.objs.size s2 H2 fp pins) [] (List.replicate k none++vs.map some) (upd H2 s2.heap.objs.size (.lst [])) { s2 with heap:=h₁,toks:=s2.toks + ([]:List (Str × Value)).length }:=by
    refine ⟨ok',rfl,I2.bare,Un.laid old (Nat.le_refl _) frD,⟨_,hns₁,fun i x v e1 e2 e3 => ?_⟩,fun x c e => ?_,?_,fun x c e => ?_,fun p hp => ?_,I2.hok.laid old (Nat.le_refl _) ⟨by simp,[],0,.nil,hD⟩,?_⟩
    · obtain ⟨j,ej,hj1,hj2⟩:=caps_at hvs his hN e1 e2;obtain ⟨hc1,hc2,hc3⟩:=hcap x hj1;obtain ⟨m,hn,hl⟩:=I2.loc;obtain ⟨u,r,l⟩:=hl j x v ej hj2 (.inr (.inl hc1));refine ⟨u,r,.inr ⟨.inl hc2,?_⟩⟩;rcases l with ⟨z,_⟩ | ⟨_,c,ec,⟨o,ho,hd⟩⟩
      · rw [show X.env.kindOf x=some .cell from hc1] at z; cases z
      · exact ⟨c,clo_of hc3 ec,o,old _ _ ho,hd⟩
    · obtain ⟨v,o,ho,hd⟩:=cold x c e;exact ⟨v,o,old _ _ ho,hd⟩
    · show upd H2 s2.heap.objs.size (.lst []) P2.objs.size=none;rw [upd_ne (Ne.symm hDC)]; exact frC
    · show upd H2 s2.heap.objs.size (.lst []) c=none;rw [upd_ne (below _ (clt x c e)).2]; exact I2.freeC x c (csub x c e)
    · have hp':p∈X.pn++pins:=by
        rcases List.mem_append.mp hp with z | z
        · exact z
        · cases z
      obtain ⟨a1,a2,a3,a4,a5⟩:=I2.pin p hp';refine ⟨old _ _ a1,?_,(below _ (Heap.lt_size a1)).1,nst _ a3 a4,a5⟩;rw [upd_ne (below _ (Heap.lt_size a1)).2]; exact a2
    · show (List.replicate k none++vs.map some).length=N'.length;exact caps_len hvs his hN hk
  have stat:∀ {H':Hp},(∀ b∈fp,H' b=none)→∀ b∈fp,FpOk (cxCompC X N' scope xs P2.objs.size s2 H2 fp pins) [] H' b:=fun {H'} hn b hb =>
    ⟨hn b hb,(below b (hfp b hb)).1,nst b (f2 b hb).2.1 (f2 b hb).2.2.1,.inl hb,fun x c e=>(f2 b hb).2.2.2.2.1 x c (csub x c e),fun p hp=>(f2 b hb).2.2.2.2.2 p (by
      rcases List.mem_append.mp hp with z | z
      · exact z
      · cases z)⟩
  have fin:∀ (ys:List V) (σ':St) (H':Hp) (s':Shared),Inv (cxCompC X N' scope xs P2.objs.size s2 H2 fp pins) [] σ' H' s'→D0.nx (σ.set i0 (some (.ref s2.heap.objs.size))) H' →
      wpAny (model X.prog X.w) X.A (assign (.Name y py) X.env (.ref s2.heap.objs.size)) (fun _ s''=>∃ m,s''.heap.Ns P2.objs.size m∧∀ h',Heap.SameBut P2.objs.size s''.heap h'→SP X pins D0 .next { s'' with heap:=h' }) X.xe s':=by
    intro ys σ' H' s' J1 q;obtain ⟨m,hm,_⟩:=id J1.loc;have J2:Inv X pins σ H' s':=I2.call' (s':=s') (ch:=fp) J1.os ⟨J1.base.keep,J1.base.slot,J1.base.free,J1.base.there,J1.base.tups,J1.base.frzs,J1.base.tbls⟩ J1.hok J1.bare fun b hb=>⟨(f2 b hb).2.2.2.1,(f2 b hb).2.1,(f2 b hb).2.2.2.2.1,(f2 b hb).2.2.2.2.2⟩;have s0C:X.s₀.heap.objs.size≤P2.objs.size:=Nat.le_trans I2.sz (by rw [hC]; exact Nat.le_succ _);have neL:P2.objs.size≠X.env.locals:=Ne.symm (below _ I2.lt).1;have neC:∀ x c,X.env.cells.lookup x=some c→c≠P2.objs.size:=fun x c e=>by
      obtain ⟨v,o,ho,_⟩:=I2.cell x c e;exact (below _ (Heap.lt_size ho)).1
    have neP:∀ p∈X.pn++pins,p.1≠P2.objs.size:=fun p hp=>(below _ (Heap.lt_size (I2.pin p hp).1)).1;refine wpAny_assign_Name (store_ok2 J2 hNd hi0 hy (v:=.ref s2.heap.objs.size) rfl (fun s5 J5 hsb => ?_) hf);obtain ⟨a,sb,ha⟩:=hsb;have nea:P2.objs.size≠a:=by
      rcases ha with rfl | ha
      · exact neL
      · exact Ne.symm (neC _ _ ha)
    refine ⟨m,hm.sameBut sb nea,fun h' sb'=>⟨_,H',?_,q⟩⟩;exact J5.turned (t':=s5.toks) (fun b o hb e=>(sb'.2 b hb).trans e) J1.free neL (.inr s0C) neC neP
  have loop:codeAny (model X.prog X.w) X.A (.compLoop (.ListComp elt [⟨tg,iter,[cnd],0⟩] scope pos) 0 (.ref it) (.ref s2.heap.objs.size) (compEnvC scope (clo X.env xs) P2.objs.size X.env))
      (compPost (model X.prog X.w) X.A X.xe (some (assign (.Name y py) X.env)) (fun _ s'=>SP X pins D0 .next s') (.ref s2.heap.objs.size) P2.objs.size)
      { s2 with heap:=h₁,toks:=s2.toks + ([]:List (Str × Value)).length }:=by
    refine compLoop_if (fun n s'=>∃ i ys σ' H',σ'.drop k=vs.map some∧Inv (cxCompC X N' scope xs P2.objs.size s2 H2 fp pins) [] σ' H' s'∧tn i s'.heap∧(∀ b∈fp,H' b=none)∧W i n ys H') ?_ m0
      ⟨0,[],List.replicate k none++vs.map some,_,by simp,I',T.keep _ _ _ st2 (fun b hb o e=>old b o e),fun b hb=>by rw [upd_ne (below b (hfp b hb)).2]; exact (f2 b hb).1,w0⟩
    rintro n s3 ⟨i,ys,σ3,H3,hd3,J3,st3,fr3,w3⟩;obtain ⟨hl,q3⟩:=turn i n ys H3 w3;rcases q3 with ⟨stop,q⟩ | ⟨go,hlt,step⟩
    · refine thn (T.done (cxCompC X N' scope xs P2.objs.size s2 H2 fp pins) rfl rfl rfl hcalm i [] s3 σ3 H3 _ J3 (stat fr3) st3 stop) fun r s4 ⟨hr,J4⟩ => ?_;subst hr;exact fin ys σ3 H3 s4 J4 q
    · refine thn (T.item (cxCompC X N' scope xs P2.objs.size s2 H2 fp pins) rfl rfl rfl hcalm i [] s3 σ3 H3 _ J3 (stat fr3) st3 go) fun r s4 ⟨u,hr,h4⟩ => ?_;subst hr;refine thn h4 fun _ s5 ⟨x,H5,J5,r5,y5,st5,fr5⟩ => ?_;have J5':=J5.pinned (stat fr5) (T.obj _ _ st5);have J6:Inv (cxCompC X N' scope xs P2.objs.size s2 H2 fp pins) ([]++pinsAt fp s5.heap) (List.replicate k none++vs.map some) H5 s5:=J5'.weak (by rw [J5'.len]; exact caps_len hvs his hN hk) (caps_keep hd3);refine wpAny_mono (hg _ _ _ _ _ _ s5 _ H5 x u _ J6 r5 (step x H5 y5)) (fun _ s6 ⟨σ6,H6,J7,hd6,q6⟩ => ?_) fun _ _ z=>False.elim z;refine wpAny_mono (ht _ _ _ _ _ _ s6 σ6 H6 _ J7 q6) (fun ok s6b ⟨H6b,J7b,q6b⟩ => ?_) fun _ _ z=>False.elim z;cases ok with
      | false =>
        rw [if_neg (by decide)];rw [if_neg (by decide)] at q6b;obtain ⟨m',hm',w7⟩:=q6b;have pk:∀ b∈fp,∀ o,s5.heap.get? b=some o→s6b.heap.get? b=some o∧H6b b=none:=fun b hb o e =>
          let z:=J7b.pin (b,o) (List.mem_append_right _ (List.mem_append_right _ (mem_pinsAt hb e)))
          ⟨z.1,z.2.1⟩
        refine ⟨m',hm',i + 1,ys,σ6,_,hd6,J7b.unpinned,T.keep _ _ _ st5 fun b hb o e=>(pk b hb o e).1,fun b hb => ?_,w7⟩;obtain ⟨o,e,_⟩:=T.obj _ _ st5 b hb;exact (pk b hb o e).2
      | true =>
        rw [if_pos rfl];rw [if_pos rfl] at q6b;refine wpAny_mono (he _ _ _ _ _ _ s6b σ6 H6b _ J7b q6b) (fun yv s7 ⟨y,H7,J8,r7,q7⟩ => ?_) fun _ _ z=>False.elim z;obtain ⟨hl7,m',hm',w7⟩:=q7;refine wpAny_mono (mt_append (X:=cxCompC X N' scope xs P2.objs.size s2 H2 fp pins) _ s7 σ6 H7 (.ref s2.heap.objs.size) [y] (.ref s2.heap.objs.size) [yv] (fun v H8=>H8=upd H7 s2.heap.objs.size (.lst (ys++[y]))) J8 rfl (.cons r7 .nil) ⟨_,ys,y,rfl,rfl,hl7,hlt,rfl⟩) (fun _ s8 ⟨v8,H8,J9,r8,e8⟩ => ?_) fun _ _ z=>False.elim z;subst e8;have pk:∀ b∈fp,∀ o,s5.heap.get? b=some o→s8.heap.get? b=some o∧upd H7 s2.heap.objs.size (.lst (ys++[y])) b=none:=fun b hb o e =>
          let z:=J9.pin (b,o) (List.mem_append_right _ (List.mem_append_right _ (mem_pinsAt hb e)))
          ⟨z.1,z.2.1⟩
        refine ⟨m',hm',i + 1,ys++[y],σ6,_,hd6,J9.unpinned,T.keep _ _ _ st5 fun b hb o e=>(pk b hb o e).1,fun b hb => ?_,w7⟩;obtain ⟨o,e,_⟩:=T.obj _ _ st5 b hb;exact (pk b hb o e).2
  exact codeAny_compStart_list loop (T.self X.A 0 { s2 with heap:=h₁,toks:=s2.toks + ([]:List (Str × Value)).length } _ _ (T.keep _ _ _ st2 fun b hb o e=>old b o e) loop)
end
end L2

namespace L2
open PySem PySem.Spec PyProof.Rows
section
variable {X:Cx}
end
end L2

namespace L2
open PySem PySem.Spec PyProof.Rows
section
variable {X:Cx} {pos:Pos}

theorem pg_tupK {K:PySem.W.Frag} {es:List Expr} {k:Nat} {t:TGs} {n:Nat} (hc:X.calm=true) (h:PGs X es t) (hK:X.K=K:=by rfl)
    (hn:(assignEach es X.env).length=n:=by rfl) (hst:(assignEach es X.env).findIdx? (·.1)=none:=by rfl):PG X (.Tuple es k pos) (gTup K n t):=by
  subst hK;exact pg_tup hc h hn hst
end
end L2

namespace L2
open PySem PySem.Spec PyProof.Rows

def tCut (t:TS):TS:=fun D σ H=>∃ Pv:St→Hp→Prop,t { D with nx:=Pv } σ H∧∀ σ' H',Pv σ' H'→D.nx σ' H'
section
variable {X:Cx} {st:Stmt} {t:TS}
theorem ps_cut (h:PS X st t):PS X st (tCut t):=by
  intro pins s σ H D I ⟨Pv,h1,h2⟩;refine thn (h pins s σ H { D with nx:=Pv } I h1) fun f s1 q => ?_;cases f with
  | next =>
    obtain ⟨σ',H',I',q⟩:=q;exact ⟨σ',H',I',h2 _ _ q⟩
  | ret v=>exact q
  | brk=>exact q
  | cont=>exact q
end
end L2

namespace L2
open PySem PySem.Spec PyProof.Rows
section
variable {prog:Program} {w:World} {A:Around} {E:Value→Shared→Prop} {s:Shared}

end
section
variable {prog:Program} {w:World} {A:Around} {E:Value→Shared→Prop} {s:Shared}
end
section
variable {X:Cx} {tg:Expr}
end
end L2

namespace L2
open PySem PySem.Spec PyProof.Rows
section
variable {K:PySem.W.Frag} {σ0 cs:St} {k:Nat} {g:TG} {te:TE} {tt:TT} {H1:Hp} {Q:VK}
theorem compCI_list {a:Addr} (xs:List V) (Pv:Addr→Nat→List V→Hp→Prop) (hn:xs.length≤sizeLine) (hq:∀ D i ys H,Pv D i ys H→SqL K H a xs)
    (hl:∀ D i ys H,Pv D i ys H→H D=some (.lst ys)∧ys.length≤i) (h0:∀ D,H1 D=none→Pv D 0 [] (upd H1 D (.lst [])))
    (hs:∀ D i x ys H,xs[i]? = some x→H1 D=none→Pv D i ys H→g x σ0 H fun σ2 H3=>σ2.drop k=cs∧tt σ2 H3 fun b H4=>if b=true then te σ2 H4 fun y H5=>H5 D=some (.lst ys)∧Pv D (i + 1) (ys++[y]) (upd H5 D (.lst (ys++[y]))) else Pv D (i + 1) ys H4)
    (hd:∀ D ys H,H1 D=none→Pv D xs.length ys H→Q (.ref D) H) (mono:∀ x σ H (R R':St→Hp→Prop),(∀ σ' H',R σ' H'→R' σ' H')→g x σ H R→g x σ H R')
    (mono2:∀ σ H (R R':VK),(∀ v H',R v H'→R' v H')→te σ H R→te σ H R') (mono3:∀ σ H (R R':Bool→Hp→Prop),(∀ v H',R v H'→R' v H')→tt σ H R→tt σ H R'):compKCI σ0 k cs g tt te Q (Itl K a) H1 :=
  compCI_by xs.length (fun i x=>xs[i]? = some x) Pv hn (fun D i ys H hi p=>⟨xs,xs[i],hq D i ys H p,by simp [hi]⟩) (fun D ys H p=>⟨xs,hq D _ ys H p,Nat.le_refl _⟩)
    (fun D i ys H x H' hi p y=>⟨y.1,y.2 xs (hq D i ys H p)⟩) hl h0 (fun D i x ys H hi hx hD p=>hs D i x ys H hx hD p) hd mono mono2 mono3
end
section
variable {X:Cx} {K:PySem.W.Frag} {o e:Expr} {es:List Expr} {to:TE} {t:TA} {name:Str} {apos cpos:Pos} {T id:String} {r:V→List V→Hp→VK→Prop}
end
end L2

namespace L2
open PySem PySem.Spec PySem.Calls PyProof.Rows
section
variable {X:Cx}
end
section
variable {K:PySem.W.Frag} {σ0 cs:St} {k:Nat} {g:TG} {te:TE} {tt:TT} {H1:Hp} {Q:VK}
end
end L2

namespace L2
open PySem PySem.Spec PySem.Calls PyProof.Rows
section
variable {X:Cx} {K:PySem.W.Frag}
end
end L2

namespace L2
open PySem PySem.Spec PySem.Calls PyProof.Rows

section
variable {P:Program} {w:World} {K:PySem.W.Frag} {mg:Str→Option Value} {base:Heap}
end
section
variable {X:Cx} {CX:CXT} {j k:Nat} {ps:List Str} {sp:Sp} {x:Str} {p pos:Pos} {e:Expr} {es:List Expr} {t:TA}
def isStrV:V→Bool
  | .str _=>true
  | _=>false
theorem strs_eqAt {A:Around} {s:Shared} {a:Addr} (hu:A.units < cLine) (h:(∃ is,s.heap.IsList a is)∨(∃ is,s.heap.IsTuple a is)):∀ {xs:List V} {us:List Value},Vals xs us→xs.all isStrV=true→∀ u∈us,SeqAt.EqAt A s u (.ref a) false
  | _,_,.nil,_=>fun u hu=>by cases hu
  | y::xs,u::us,.cons r t,f=>fun u' hu'=>by
    rw [List.all_cons,Bool.and_eq_true] at f;rcases List.mem_cons.mp hu' with rfl | hu'
    · cases y with
      | str z =>
        obtain ⟨t,rfl⟩:=r;rcases h with ⟨is,h⟩ | ⟨is,h⟩
        · exact SeqAt.EqAt.str_list z t h hu
        · exact SeqAt.EqAt.str_tuple z t h hu
      | _=>exact absurd f.1 (by simp [isStrV])
    · exact strs_eqAt hu h t f.2 u' hu'
theorem any_false {us:List Value}:us.any (fun _=>false)=false:=by induction us with
  | nil=>rfl
  | cons a r ih=>rw [List.any_cons,ih]; rfl
def rInX (K:PySem.W.Frag) (neg:Bool):R2:=fun x y H Q=>∃ p xs,y=.ref p∧(SqL K H p xs∨SqT K H p xs)∧((flatV x=true∧xs.all flatV=true∧Q (.bl (if neg then !inV x xs else inV x xs)) H)∨(∃ a ys,x=.ref a∧(SqL K H a ys∨SqT K H a ys)∧xs.all isStrV=true∧Q (.bl neg) H))
theorem op_inX {k:Nat} (hr:Room k X.A):OpR X (compareOp .In) (rInX X.K false):=by
  intro pins s σ H x y v u Q I rx ry h;obtain ⟨p,xs,rfl,hq,h⟩:=h;rcases h with ⟨fx,fs,q⟩ | ⟨a,ys,rfl,ha,fs,q⟩
  · exact op_in_seq pins s σ H x _ v u Q I rx ry ⟨p,xs,rfl,hq,fx,fs,q⟩
  cases ry;cases rx;have hu:X.A.in1.units < cLine:=by have:=hr.un; show X.A.units + 1 < cLine; omega
  have hs:(∃ is,s.heap.IsList a is)∨(∃ is,s.heap.IsTuple a is):=by
    rcases ha with ha | ha
    · obtain ⟨its,_,pl,_⟩:=I.list ha; exact .inl ⟨_,pl.isList⟩
    · obtain ⟨its,_,pl,_⟩:=I.tuple ha; exact .inr ⟨_,pl⟩
  rcases hq with hq | hq
  · obtain ⟨its,r,pl,hz⟩:=I.list hq;refine SeqAt.in_listAt (fun _=>false) pl.isList (fun w hw=>strs_eqAt hu hs r fs w (by simpa using hw)) ⟨.bl _,H,I,rfl,?_⟩;rw [show its.toArray.any (fun _=>false)=its.any (fun _=>false) by simp,any_false];exact q
  · obtain ⟨its,r,pl,hz⟩:=I.tuple hq;refine SeqAt.in_tupleAt (fun _=>false) pl (fun w hw=>strs_eqAt hu hs r fs w (by simpa using hw)) ⟨.bl _,H,I,rfl,?_⟩;rw [show its.toArray.any (fun _=>false)=its.any (fun _=>false) by simp,any_false];exact q
end
end L2


namespace Qs
open PySem L2
theorem len_eq (z:Str):z.length=z.cps.toList.length:=by
  show z.cps.size=z.cps.toList.length;rw [Array.length_toList]

def IsC (z:Str):Prop:=∀ c∈z.cps.toList,48≤c∧c≤51
def dig (z:Str):List Nat:=z.cps.toList.map (· - 48)
def cxs (ds:List Nat):Nat:=ds.foldl (fun a d=>a * 2 + d % 2) 0
def cys (ds:List Nat):Nat:=ds.foldl (fun a d=>a * 2 + d / 2) 0
theorem cxs_snoc (ds:List Nat) (d:Nat):cxs (ds++[d])=cxs ds * 2 + d % 2:=by simp [cxs]
theorem cys_snoc (ds:List Nat) (d:Nat):cys (ds++[d])=cys ds * 2 + d / 2:=by simp [cys]
theorem dig_len (z:Str):(dig z).length=z.length:=by simp [dig,len_eq]
theorem dig_at {z:Str} {i:Nat} (h:i < z.length):(dig z)[i]? = some (z.cps.getD i 0 - 48):=by
  have h':i < z.cps.size:=h;simp [dig,Array.getD_eq_getD_getElem?,h']
theorem dig_take {z:Str} {i:Nat} (h:i < z.length):(dig z).take (i + 1)=(dig z).take i++[z.cps.getD i 0 - 48]:=by
  rw [List.take_succ,dig_at h]; rfl
theorem sgn_in {z:Str} {i:Nat} (hz:IsC z) (h:i < z.length):48≤z.cps.getD i 0∧z.cps.getD i 0≤51:=by
  have h':i < z.cps.size:=h;refine hz _ ?_;have e:z.cps.getD i 0=z.cps[i]:=by simp [Array.getD_eq_getD_getElem?,h']
  rw [e];exact Array.getElem_mem_toList h'

def one (d:Nat):Str:=⟨#[48 + d]⟩
theorem sgn_one {z:Str} {i:Nat} (hz:IsC z) (h:i < z.length):∃ d,d < 4∧sgn z i=one d∧z.cps.getD i 0 - 48=d:=by
  obtain ⟨h1,h2⟩:=sgn_in hz h;refine ⟨z.cps.getD i 0 - 48,by omega,?_,rfl⟩;unfold sgn one;have e:48 + (z.cps.getD i 0 - 48)=z.cps.getD i 0:=by omega
  rw [e]
theorem four {P:Nat→Prop} (h0:P 0) (h1:P 1) (h2:P 2) (h3:P 3) {d:Nat} (h:d < 4):P d:=by
  rcases d with _ | _ | _ | _ | d
  · exact h0
  · exact h1
  · exact h2
  · exact h3
  · omega
theorem int_one {d:Nat} (h:d < 4):PySem.intText? (one d)=some (d:Int) :=
  four (P:=fun d=>PySem.intText? (one d)=some (d:Int)) (by decide +kernel) (by decide +kernel) (by decide +kernel) (by decide +kernel) h
theorem IsC.nil:IsC ⟨#[]⟩:=fun c h=>by simp at h
theorem IsC.app {a b:Str} (ha:IsC a) (hb:IsC b):IsC (a++b):=fun c h=>by
  have e:(a++b).cps.toList=a.cps.toList++b.cps.toList:=by
    show (a.cps++b.cps).toList=_;simp
  rw [e] at h;rcases List.mem_append.mp h with h | h
  · exact ha c h
  · exact hb c h
theorem IsC.one {d:Nat} (h:d < 4):IsC (one d):=fun c hc=>by
  have e:c=48 + d:=by simpa [Qs.one] using hc
  omega
end Qs

namespace L2
open PySem PySem.Spec PyProof.Rows
section
variable {X:Cx}
theorem pe_gint {x:Str} {i:Int} {pos:Pos} (h:∃ t,X.mg x=some (.int i t)) (hg:Gl X x:=by rfl) (hd:(x == ("__debug__" : Str))=false:=by decide):PE X (.Name x pos) (tC (.int i)):=by
  obtain ⟨t,h⟩:=h;exact pe_glob hg h ⟨t,rfl⟩ hd
theorem pe_gstr {x z:Str} {pos:Pos} (h:∃ t,X.mg x=some (.str z t)) (hg:Gl X x:=by rfl) (hd:(x == ("__debug__" : Str))=false:=by decide):PE X (.Name x pos) (tC (.str z)):=by
  obtain ⟨t,h⟩:=h;exact pe_glob hg h ⟨t,rfl⟩ hd
end
section
variable {X:Cx}
theorem pe_bty {x:Str} {n:String} {pos:Pos} (hm:X.mg x=none) (hv:bootBuiltins x=some (.type n)) (hg:Gl X x:=by rfl) (hn:x ≠ "__name__" := by decide) (hd:(x == ("__debug__" : Str))=false:=by decide):PE X (.Name x pos) (tC (.ty n)) :=
  pe_bltn hg hm hv rfl hn hd
theorem nd1 (x:Str):[x].Nodup:=by simp
end

theorem comp_of {n:Nat} {g':Nat→V} {g:TG} {te:TE} {N':List Str} {H1:Hp} {Q:VK} (F:Nat→V) (hn:n≤sizeLine)
    (hs:∀ i H' R,i < n→R (F i) H'→g (g' i) (List.replicate N'.length none) H' fun σ2 H3=>te σ2 H3 R) (hd:∀ D,H1 D=none→Q (.ref D) (upd H1 D (.lst ((List.range n).map F)))) :
    compK N' g te Q (Itg n g') H1:=by
  intro D hD;refine ⟨fun i m ys H2=>m=n - i∧i≤n∧ys=(List.range i).map F∧H2=upd H1 D (.lst ys),⟨n,rfl,Nat.zero_le _,rfl,rfl⟩,?_⟩;rintro i m ys H2 ⟨rfl,hi,rfl,rfl⟩;refine ⟨upd_same,?_⟩;by_cases hlt:i < n
  · refine .inr ⟨hlt,by simp; omega,fun x H' y => ?_⟩;obtain ⟨e,y⟩:=y;subst e y;refine hs i _ _ hlt ⟨upd_same,n - (i + 1),by omega,rfl,hlt,?_,?_⟩
    · rw [List.range_succ,List.map_append]; rfl
    · rw [upd_upd]
  · have e:i=n:=by omega
    subst e;exact .inl ⟨Nat.le_refl _,hd D hD⟩
theorem Same.new {H:Hp} {p:Addr} (h:H p=none) (o:HO):Same H (upd H p o):=fun b u q=>by rw [upd_ne (ne_of_none q h)]; exact q
theorem Same.set {H:Hp} {H':Hp} {p:Addr} (h:Same H H') (hp:H p=none) (o:HO):Same H (upd H' p o):=fun b u q=>by rw [upd_ne (ne_of_none q hp)]; exact h b u q
theorem small {n:Nat} (h:n≤1000):n≤sizeLine:=Nat.le_of_lt (small1000 h)
end L2

namespace L2
open PySem PySem.Spec PyProof.Rows
def notStar:PySem.Expr→Bool
  | .Starred _ _=>false
  | _=>true
theorem star_of {e:PySem.Expr} {es:List PySem.Expr} {env:Env} (h:notStar e=true):starEach (e::es) env=(false,eval e env)::starEach es env:=by
  cases e <;> first | rfl | (cases h)
theorem pa_c {X:Cx} {e:PySem.Expr} {es:List PySem.Expr} {te:TE} {t:TA} (ha:PE X e te) (hr:PA X es t) (h:notStar e=true:=by rfl):PA X (e::es) (tCons te t):=pa_cons ha hr (star_of h)
end L2
namespace L2
open PySem PySem.Spec PyProof.Rows
theorem pe_disp1 {X:Cx} {pos:Pos} {k v:PySem.Expr} {tk tv:TE} (hk:PE X k tk) (hv:PE X v tv):PE X (.Dict [some k] [v] pos) (tDisp [(tk,tv)]) :=
  pe_disp (pps_cons hk hv pps_nil) rfl rfl (by simp) (by show 1≤15; decide)
end L2
namespace L2
open PySem PySem.Spec PyProof.Rows

structure PAx (X:Cx) (es:List PySem.Expr) (t:TA):Prop where
  h:PA X es t
section
variable {X:Cx} {e:PySem.Expr} {es:List PySem.Expr} {te:TE} {t:TA} {pos:Pos}
theorem pax_nil:PAx X [] tNil:=⟨pa_nil⟩
theorem pax_c (ha:PE X e te) (hr:PAx X es t) (h:notStar e=true:=by rfl):PAx X (e::es) (tCons te t):=⟨pa_c ha hr.h h⟩
theorem pe_tupx {x1} (h:PAx X es t):PE X (.Tuple es x1 pos) (tTup t):=pe_tup h.h
theorem pe_lstx (h:PAx X es t):PE X (.List es pos) (tLst t):=pe_lst h.h
end
end L2

namespace L2
open PySem PySem.Spec PySem.Calls PyProof.Rows

section
variable {X:Cx}
end
def notComp:PySem.Expr→Bool
  | .ListComp _ _ _ _=>false
  | .SetComp _ _ _ _=>false
  | .DictComp _ _ _ _ _=>false
  | _=>true
theorem swaps_of {e:PySem.Expr} {t:Option PySem.Expr} {l:Nat} {env:Env} (h:notComp e=true):swapsWith e t l env=pure false:=by
  cases e <;> first | rfl | (cases h)

section
variable {X:Cx} {st:Stmt} {rest:List Stmt} {t u:TS}
end
section
variable {P:Program} {w:World} {K:PySem.W.Frag} {mg:Str→Option Value} {base:Heap}
end
end L2

namespace L2
open PySem PySem.Spec PySem.Calls PyProof.Rows
section
variable {X:Cx}

end

namespace HT
section
variable {prog:Program} {w:World} {A:Around} {E:Value→Shared→Prop} {s:Shared}
end
end HT
section
variable {X:Cx}
end

section
variable {X:Cx}
end
end L2

namespace L2
open PySem PySem.Spec PySem.Calls PyProof.Rows
section
variable {K:PySem.W.Frag} {σ0 cs:St} {k:Nat} {g:TG} {te:TE} {H1:Hp} {Q:VK}

end
theorem vals_of:∀ (xs:List V) (us:List Value),xs.length=us.length→(∀ (i:Nat) (x:V) (u:Value),xs[i]? = some x→us[i]? = some u→RelV x u)→Vals xs us
  | [],[],_,_=>.nil
  | [],_::_,h,_=>by simp at h
  | _::_,[],h,_=>by simp at h
  | x::xs,u::us,h,r=>.cons (r 0 x u rfl rfl) (vals_of xs us (by simpa using h) fun i y v hy hv=>r (i + 1) y v (by simpa using hy) (by simpa using hv))
section
variable {X:Cx}

end
end L2

namespace L2
open PySem PySem.Spec PySem.Calls PyProof.Rows

section
variable {prog:Program} {w:World} {A:Around} {E:Value→Shared→Prop} {s:Shared}
end


section
variable {X:Cx} {pins:List (Addr × Obj)} {σ:St}
end
end L2

namespace L2
open PySem PySem.Spec PySem.Calls PyProof.Rows PySem.W


section
variable {N:Nat} {f:Nat→Int}

end
end L2

namespace L2
open PySem PySem.Spec PySem.Calls PyProof.Rows PySem.W

section
variable {prog:Program} {w:World} {A:Around} {E:Value→Shared→Prop} {s:Shared}

end
end L2

namespace L2
open PySem PySem.Spec PySem.Calls PyProof.Rows PySem.W

theorem bt_sorted:bootBuiltins "sorted" = some (.builtin "sorted"):=by decide +kernel
section
variable {X:Cx} {pins:List (Addr × Obj)} {σ:St} {H H':Hp} {s:Shared} {h':Heap}

theorem sortedHeap_keep {h:Heap} {vs:List Value} {out:Array Value} {b:Addr} {o:Obj} (e:h.get? b=some o):(sortedHeap (h.push (seqObj "list" vs.toArray 0)) h.objs.size vs out).get? b=some o:=by
  rw [sortedHeap_old (Nat.ne_of_lt (Heap.lt_size e)) (by rw [size_push']; exact Nat.lt_succ_of_lt (Heap.lt_size e))];exact Heap.get?_push_of_some _ e
theorem sortedHeap_is {h:Heap} {vs:List Value} {out:Array Value}:∃ n,(sortedHeap (h.push (seqObj "list" vs.toArray 0)) h.objs.size vs out).get? h.objs.size=some (seqObj "list" out n) :=
  sortedHeap_at (n:=0) (Heap.get?_push_size _ rfl)

end
end L2

namespace L2
open PySem PySem.Spec PySem.Calls PyProof.Rows

section
variable {X:Cx}
theorem Room.dic {k:Nat} {A:Around} (r:Room k A):A.units + 1 < PySem.cLine:=by have:=r.un; omega
end
end L2

namespace L2
open PySem PySem.Spec PySem.Calls PyProof.Rows PySem.W

section
variable {X:Cx} {pins:List (Addr × Obj)} {σ:St} {H:Hp} {s:Shared} {Z:List (Addr × Obj)}
end

section
variable {P:Program} {w:World} {K:PySem.W.Frag} {mg:Str→Option Value} {base:Heap} {Z:List (Addr × Obj)}
end

section
variable {X:Cx} {CX:CXT} {k j:Nat} {f:Addr} {fd:FuncData} {ps:List Str} {sp:Sp} {x:Str} {p pos:Pos} {e:Expr} {es:List Expr} {t:TA} {Z:List (Addr × Obj)}
end

section
variable {X:Cx} {CX:CXT} {k j:Nat} {f:Addr} {fd:FuncData} {ps:List Str} {sp:Sp} {x:Str} {p pos:Pos} {e:Expr} {es:List Expr} {t:TA} {Z:List (Addr × Obj)}

end

section
variable {X:Cx}
end


section
variable {P:Program} {w:World} {K:PySem.W.Frag} {mg:Str→Option Value} {base:Heap} {Z:List (Addr × Obj)}
end
end L2

namespace L2
open PySem PySem.Spec PySem.Calls PyProof.Rows PySem.W
section
variable {X:Cx} {K:PySem.W.Frag}

end
end L2

namespace L2
open PySem PySem.Spec PySem.Calls PyProof.Rows PySem.W

section
variable {prog:Program} {w:World} {A:Around} {E:Value→Shared→Prop} {s:Shared}
end
section
variable {X:Cx}
end
end L2

namespace Tim
open PySem PyProof.Rows

section
variable {prog:Program} {w:World} {A:Around} {E:Value→Shared→Prop} {s:Shared} {a₀:Array Keyed} {κ:SortKind} {key:Keyed→Int}

def LtOk (prog:Program) (w:World) (A:Around) (E:Value→Shared→Prop) (s:Shared) (a₀:Array Keyed) (κ:SortKind) (key:Keyed→Int):Prop :=
  ∀ (x y:Keyed) (C:Bool→Shared→Prop),x∈a₀.toList→y∈a₀.toList→C (decide (key x < key y)) s→wpAny (model prog w) A (keyLt' κ x.1 y.1) C (fun _ _=>False) s
structure SB (a₀:Array Keyed) (κ:SortKind) (st:SortSt):Prop where
  perm:(arrOf st).Perm a₀
  kind:kindOf st=κ
  ok:failedOf st=none
theorem SB.size {st:SortSt} (h:SB a₀ κ st):(arrOf st).size=a₀.size:=h.perm.size_eq
theorem SB.mem {st:SortSt} (h:SB a₀ κ st) {x:Keyed} (hx:x∈(arrOf st).toList):x∈a₀.toList:=(Array.perm_iff_toList_perm.mp h.perm).mem_iff.mp hx
theorem SB.set {st:SortSt} (h:SB a₀ κ st) {xs:Array Keyed} (hp:xs.Perm (arrOf st)):SB a₀ κ (setArr st xs):=⟨hp.trans h.perm,h.kind,h.ok⟩

def kat (key:Keyed→Int) (xs:Array Keyed) (i:Nat):Int:=match xs[i]? with
  | some p=>key p
  | none=>0
theorem kat_of {xs ys:Array Keyed} {i j:Nat} (h:xs[i]? = ys[j]?):kat key xs i=kat key ys j:=by unfold kat; rw [h]
theorem kat_some {xs:Array Keyed} {i:Nat} {p:Keyed} (h:xs[i]? = some p):kat key xs i=key p:=by unfold kat; rw [h]

def Seg (key:Keyed→Int) (xs:Array Keyed) (lo hi:Nat):Prop:=∀ i j,lo≤i→i≤j→j < hi→kat key xs i≤kat key xs j
theorem lt_ok (L:LtOk prog w A E s a₀ κ key) {x y:Keyed} {st:SortSt} {Q:Option Bool→SortSt→Prop} (hk:kindOf st=κ) (hx:x∈a₀.toList) (hy:y∈a₀.toList) (h:Q (some (decide (key x < key y))) st) :
    wpS (model prog w) A E s (lt' x y) Q st:=by
  rw [lt'_eq];refine wpS_bind (wpS_get ?_);rw [hk];refine wpS_bind (wpS_lift (wpAny_attempt (wpAny_mono (L x y (fun b s'=>b=decide (key x < key y)∧s'=s) hx hy ⟨rfl,rfl⟩) (fun b s' hb => ?_) fun _ _ e=>e.elim)));obtain ⟨rfl,rfl⟩:=hb;exact ⟨rfl,wpS_pure h⟩
theorem el_ok {arr:Array Keyed} {i:Nat} {p:Keyed} {st:SortSt} {Q:Keyed→SortSt→Prop} (hi:arr[i]? = some p) (h:Q p st):wpS (model prog w) A E s (elem' arr i) Q st:=by
  rw [elem'_eq,hi];exact wpS_pure h
theorem at_mem {xs:Array Keyed} {i:Nat} {p:Keyed} (h:xs[i]? = some p):p∈xs.toList:=by
  have:p∈xs:=Array.mem_of_getElem? h
  exact Array.mem_toList_iff.mpr this
theorem ltAt_ok (L:LtOk prog w A E s a₀ κ key) {i j:Nat} {st:SortSt} {Q:Option Bool→SortSt→Prop} (hB:SB a₀ κ st) (hi:i < a₀.size) (hj:j < a₀.size) (h:Q (some (decide (kat key (arrOf st) i < kat key (arrOf st) j))) st) :
    wpS (model prog w) A E s (ltAt' i j) Q st:=by
  rw [ltAt'_eq];refine wpS_bind (wpS_get ?_);have e1:(arrOf st)[i]? = some ((arrOf st)[i]'(by rw [hB.size]; exact hi)):=Array.getElem?_eq_getElem _;have e2:(arrOf st)[j]? = some ((arrOf st)[j]'(by rw [hB.size]; exact hj)):=Array.getElem?_eq_getElem _;refine wpS_bind (el_ok e1 (wpS_bind (el_ok e2 ?_)));refine lt_ok L hB.kind (hB.mem (at_mem e1)) (hB.mem (at_mem e2)) ?_;rw [kat_some e1,kat_some e2] at h;exact h

def gallopP:Bool→Keyed→Array Keyed→Nat→Nat→Nat→StateT SortSt Sem (Option Nat):=sortPriv% PySem.Builtin.gallop
def pastP (left:Bool) (x:Keyed) (u:Array Keyed) (base i:Nat):StateT SortSt Sem (Option Bool):=do
  let y ← elem' u (base + i)
  if left then lt' y x else return (← lt' x y).map (!·)
abbrev St3:=Option (Option Nat) × Nat × Nat

def halfL (left:Bool) (x:Keyed) (u:Array Keyed) (base n p q:Nat):StateT SortSt Sem (Option Nat):=do
  let r ← forIn [0:n] ((none,p,q):St3) fun _ r =>
    if r.2.1 ≥ r.2.2 then pure (ForInStep.done (none,r.2.1,r.2.2)) else do
      let y ← pastP left x u base (r.2.1 + (r.2.2 - r.2.1) / 2)
      match y with
      | some more=>if more=true then pure (ForInStep.yield (none,r.2.1 + (r.2.2 - r.2.1) / 2 + 1,r.2.2)) else pure (ForInStep.yield (none,r.2.1,r.2.1 + (r.2.2 - r.2.1) / 2))
      | _=>pure (ForInStep.done (some none,r.2.1,r.2.2))
  match r.1 with
  | some v=>pure v
  | none=>pure (some r.2.2)

def farL (left:Bool) (x:Keyed) (u:Array Keyed) (base n room:Nat) (pl:Nat→Nat) (stop:Bool→Bool):StateT SortSt Sem St3 :=
  forIn [0:n] ((none,0,1):St3) fun _ r =>
    if r.2.2 ≥ room then pure (ForInStep.done (none,r.2.1,r.2.2)) else do
      let y ← pastP left x u base (pl r.2.2)
      match y with
      | some more=>if stop more=true then pure (ForInStep.done (none,r.2.1,r.2.2)) else pure (ForInStep.yield (none,r.2.2,2 * r.2.2 + 1))
      | _=>pure (ForInStep.done (some none,r.2.1,r.2.2))
theorem gallopP_do (left:Bool) (x:Keyed) (u:Array Keyed) (base n hint:Nat):gallopP left x u base n hint=(do
    let mut was:=0
    let mut step:=1
    let mut p:=0
    let mut q:=0
    let some right ← pastP left x u base hint | return none
    if right then
      let room:=n - hint
      for _ in [0:n] do
        if step ≥ room then break
        let some more ← pastP left x u base (hint + step) | return none
        if !more then break
        was:=step
        step:=2 * step + 1
      p:=hint + was + 1
      q:=hint + min step room
    else
      let room:=hint + 1
      for _ in [0:n] do
        if step ≥ room then break
        let some found ← pastP left x u base (hint - step) | return none
        if found then break
        was:=step
        step:=2 * step + 1
      p:=hint + 1 - min step room
      q:=hint - was
    for _ in [0:n] do
      if p ≥ q then break
      let m:=p + (q - p) / 2
      let some more ← pastP left x u base m | return none
      if more then p:=m + 1 else q:=m
    return some q):=rfl
theorem gallopP_eq (left:Bool) (x:Keyed) (u:Array Keyed) (base n hint:Nat):gallopP left x u base n hint=(do
    let y ← pastP left x u base hint
    match y with
    | some right =>
      if right=true then do
        let r ← farL left x u base n (n - hint) (fun k=>hint + k) (fun m => !m)
        match r.1 with
        | some v=>pure v
        | none=>halfL left x u base n (hint + r.2.1 + 1) (hint + min r.2.2 (n - hint))
      else do
        let r ← farL left x u base n (hint + 1) (fun k=>hint - k) (fun m=>m)
        match r.1 with
        | some v=>pure v
        | none=>halfL left x u base n (hint + 1 - min r.2.2 (hint + 1)) (hint - r.2.1)
    | _=>pure none):=by
  rw [gallopP_do];unfold farL halfL;dsimp only
  congr 1
  funext y
  cases y with
  | none=>rfl
  | some r =>
    cases r with
    | true =>
      dsimp only;rw [if_pos rfl,if_pos rfl]
      congr 1
      funext r
      obtain ⟨r1,r2,r3⟩:=r;cases r1 with
      | some v=>rfl
      | none =>
        dsimp only
        congr 1
        funext r
        obtain ⟨r1,r2,r3⟩:=r;cases r1 <;> rfl
    | false =>
      dsimp only;rw [if_neg (by decide),if_neg (by decide)]
      congr 1
      funext r
      obtain ⟨r1,r2,r3⟩:=r;cases r1 with
      | some v=>rfl
      | none =>
        dsimp only
        congr 1
        funext r
        obtain ⟨r1,r2,r3⟩:=r;cases r1 <;> rfl
def isPast (key:Keyed→Int) (left:Bool) (x:Keyed) (u:Array Keyed) (base i:Nat):Bool:=if left then decide (kat key u (base + i) < key x) else !decide (key x < kat key u (base + i))
theorem past_mono {left:Bool} {x:Keyed} {u:Array Keyed} {base n i j:Nat} (sg:Seg key u base (base + n)) (hij:j≤i) (hi:i < n) (h:isPast key left x u base i=true):isPast key left x u base j=true:=by
  have:=sg (base + j) (base + i) (by omega) (by omega) (by omega)
  unfold isPast at h ⊢;cases left with
  | true =>
    rw [if_pos rfl] at h ⊢;have h':=of_decide_eq_true h;exact decide_eq_true (by omega)
  | false =>
    rw [if_neg (by decide)] at h ⊢;have h':¬ key x < kat key u (base + i):=by simpa using h
    have:¬ key x < kat key u (base + j):=by omega
    simpa using this
theorem past_ok (L:LtOk prog w A E s a₀ κ key) {left:Bool} {x:Keyed} {u:Array Keyed} {base n i:Nat} {st:SortSt} {Q:Option Bool→SortSt→Prop} (hk:kindOf st=κ) (hx:x∈a₀.toList) (hu:∀ y∈u.toList,y∈a₀.toList)
    (hb:base + n≤u.size) (hi:i < n) (h:Q (some (isPast key left x u base i)) st):wpS (model prog w) A E s (pastP left x u base i) Q st:=by
  unfold pastP;have e1:u[base + i]? = some (u[base + i]'(by omega)):=Array.getElem?_eq_getElem _;refine wpS_bind (el_ok e1 ?_);unfold isPast at h;rw [kat_some e1] at h;cases left with
  | true =>
    rw [if_pos rfl] at h ⊢;exact lt_ok L hk (hu _ (at_mem e1)) hx h
  | false =>
    rw [if_neg (by decide)] at h ⊢;exact wpS_bind (lt_ok L hk hx (hu _ (at_mem e1)) (wpS_pure h))
theorem half_ok (L:LtOk prog w A E s a₀ κ key) {left:Bool} {x:Keyed} {u:Array Keyed} {base n p q:Nat} {st:SortSt} {Q:Option Nat→SortSt→Prop} (hk:kindOf st=κ) (hx:x∈a₀.toList) (hu:∀ y∈u.toList,y∈a₀.toList)
    (hb:base + n≤u.size) (sg:Seg key u base (base + n)) (hpq:p≤q) (hq:q≤n) (lo:∀ i,i < p→isPast key left x u base i=true) (hi:∀ i,q≤i→i < n→isPast key left x u base i=false)
    (h:∀ k,k≤n→(∀ i,i < k→isPast key left x u base i=true)→(∀ i,k≤i→i < n→isPast key left x u base i=false)→Q (some k) st):wpS (model prog w) A E s (halfL left x u base n p q) Q st:=by
  unfold halfL;refine wpS_bind (wpS_mono (wpS_forRange (I:=fun t c st'=>st'=st∧∃ p q,c=(none,p,q)∧p≤q∧q≤n∧q - p≤n - t∧(∀ i,i < p→isPast key left x u base i=true)∧(∀ i,q≤i→i < n→isPast key left x u base i=false))
    (Q:=fun c st'=>st'=st∧∃ q,c=(none,q,q)∧q≤n∧(∀ i,i < q→isPast key left x u base i=true)∧(∀ i,q≤i→i < n→isPast key left x u base i=false)) ?step ?fin ⟨rfl,p,q,rfl,hpq,hq,by omega,lo,hi⟩) ?post)
  case post =>
    rintro c st' ⟨rfl,q,rfl,h1,h2,h3⟩;exact wpS_pure (h q h1 h2 h3)
  case fin =>
    rintro c st' ⟨rfl,p,q,rfl,h1,h2,h3,h4,h5⟩;have e:p=q:=by omega
    subst e;exact ⟨rfl,p,rfl,h2,h4,h5⟩
  case step =>
    rintro t c st' _ ht ⟨rfl,p,q,rfl,h1,h2,h3,h4,h5⟩;dsimp only;by_cases e:p ≥ q
    · rw [if_pos e];have e':p=q:=by omega
      subst e';exact wpS_pure ⟨rfl,p,rfl,h2,h4,h5⟩
    · rw [if_neg e];refine wpS_bind (past_ok L hk hx hu hb (n:=n) (by omega) ?_);dsimp only;cases hm:isPast key left x u base (p + (q - p) / 2) with
      | true =>
        rw [if_pos rfl];exact wpS_pure ⟨rfl,_,_,rfl,by omega,h2,by omega,fun i hi=>past_mono sg (by omega) (by omega) hm,h5⟩
      | false =>
        rw [if_neg (by decide)];refine wpS_pure ⟨rfl,_,_,rfl,by omega,by omega,by omega,h4,fun i h6 h7 => ?_⟩;cases z:isPast key left x u base i with
        | false=>rfl
        | true=>rw [past_mono sg h6 h7 z] at hm; cases hm
theorem far_ok (L:LtOk prog w A E s a₀ κ key) {left:Bool} {x:Keyed} {u:Array Keyed} {base n room:Nat} {pl:Nat→Nat} {good:Bool} {stop:Bool→Bool} (hstop:∀ m,stop m=(m != good)) {st:SortSt} {Q:St3→SortSt→Prop} (hk:kindOf st=κ) (hx:x∈a₀.toList) (hu:∀ y∈u.toList,y∈a₀.toList)
    (hb:base + n≤u.size) (hr:room≤n) (hpl:∀ k,k < room→pl k < n) (h0:isPast key left x u base (pl 0)=good) (hr0:0 < room)
    (h:∀ was step,was < step→was < room→isPast key left x u base (pl was)=good→(room≤step∨isPast key left x u base (pl step) = !good)→Q (none,was,step) st):wpS (model prog w) A E s (farL left x u base n room pl stop) Q st:=by
  unfold farL;refine wpS_forRange (I:=fun t c st'=>st'=st∧∃ was step,c=(none,was,step)∧was < step∧was < room∧t + 1≤step∧isPast key left x u base (pl was)=good) ?step ?fin ⟨rfl,0,1,rfl,by omega,hr0,by omega,h0⟩
  case fin =>
    rintro c st' ⟨rfl,was,step,rfl,h1,h2,h3,h4⟩;exact h was step h1 h2 h4 (.inl (by omega))
  case step =>
    rintro t c st' _ ht ⟨rfl,was,step,rfl,h1,h2,h3,h4⟩;dsimp only;by_cases e:step ≥ room
    · rw [if_pos e];exact wpS_pure (h was step h1 h2 h4 (.inl e))
    · rw [if_neg e];refine wpS_bind (past_ok L hk hx hu hb (hpl step (by omega)) ?_);dsimp only;by_cases hm:isPast key left x u base (pl step)=good
      · have e2:stop (isPast key left x u base (pl step))=false:=by rw [hstop,hm]; cases good <;> rfl
        rw [e2,if_neg (by decide)];exact wpS_pure ⟨rfl,step,2 * step + 1,rfl,by omega,by omega,by omega,hm⟩
      · have hm':isPast key left x u base (pl step) = !good:=by
          cases q:isPast key left x u base (pl step) <;> cases good <;> simp_all
        have e2:stop (isPast key left x u base (pl step))=true:=by rw [hstop,hm']; cases good <;> rfl
        rw [e2,if_pos rfl];exact wpS_pure (h was step h1 h2 h4 (.inr hm'))
theorem gallop_ok (L:LtOk prog w A E s a₀ κ key) {left:Bool} {x:Keyed} {u:Array Keyed} {base n hint:Nat} {st:SortSt} {Q:Option Nat→SortSt→Prop} (hk:kindOf st=κ) (hx:x∈a₀.toList) (hu:∀ y∈u.toList,y∈a₀.toList)
    (hb:base + n≤u.size) (hh:hint < n) (sg:Seg key u base (base + n))
    (h:∀ k,k≤n→(∀ i,i < k→isPast key left x u base i=true)→(∀ i,k≤i→i < n→isPast key left x u base i=false)→Q (some k) st):wpS (model prog w) A E s (gallopP left x u base n hint) Q st:=by
  rw [gallopP_eq];have dn:∀ i,i < n→isPast key left x u base i=false→∀ j,i≤j→j < n→isPast key left x u base j=false:=fun i hi e j hj hjn=>by
    cases q:isPast key left x u base j with
    | false=>rfl
    | true=>rw [past_mono sg hj hjn q] at e; cases e
  refine wpS_bind (past_ok L hk hx hu hb hh ?_);dsimp only;cases hp:isPast key left x u base hint with
  | true =>
    rw [if_pos rfl];refine wpS_bind (far_ok L (by intro m; cases m <;> rfl) hk hx hu hb (by omega) (fun k hk=>by omega) hp (by omega) fun was step h1 h2 h3 h4 => ?_);dsimp only;refine half_ok L hk hx hu hb sg (by omega) (by omega) (fun i hi=>past_mono sg (by omega) (by omega) h3) (fun i h5 h6 => ?_) h;rcases h4 with h4 | h4
    · omega
    · by_cases h7:n - hint≤step
      · omega
      · exact dn (hint + step) (by omega) h4 i (by omega) h6
  | false =>
    rw [if_neg (by decide)];refine wpS_bind (far_ok L (by intro m; cases m <;> rfl) hk hx hu hb (by omega) (fun k hk=>by omega) hp (by omega) fun was step h1 h2 h3 h4 => ?_);dsimp only;refine half_ok L hk hx hu hb sg (by omega) (by omega) (fun i hi => ?_) (fun i h5 h6=>dn (hint - was) (by omega) h3 i h5 h6) h;rcases h4 with h4 | h4
    · omega
    · by_cases h7:hint + 1≤step
      · omega
      · exact past_mono sg (by omega) (by omega) h4
end
end Tim

namespace Tim
open PySem PyProof.Rows
section
variable {prog:Program} {w:World} {A:Around} {E:Value→Shared→Prop} {s:Shared} {a₀:Array Keyed} {κ:SortKind} {key:Keyed→Int}
def loP:Array Keyed→Array Keyed→StateT SortSt Sem (Array Keyed):=sortPriv% PySem.Builtin.mergeLo
abbrev setGal (st:SortSt) (g:Nat):SortSt:=SortSt.mk' (kindOf st) (arrOf st) (pendingOf st) g (failedOf st)
abbrev St7:=Option (Array Keyed) × Array Keyed × Nat × Nat × Nat × Nat × Nat
abbrev St6:=Option (Array Keyed) × Array Keyed × Nat × Nat × Nat × Nat
abbrev St5:=Option (Array Keyed) × Array Keyed × Nat × Nat × Nat
def fin1 (u v o:Array Keyed) (i j:Nat):Array Keyed:=o++u.extract i u.size++v.extract j v.size
def fin2 (u v o:Array Keyed) (i j:Nat):Array Keyed:=o++v.extract j v.size++u.extract i u.size

def oneStep (u v:Array Keyed) (g:Nat) (r:St6):StateT SortSt Sem (ForInStep St6):=do
  let y ← elem' v r.2.2.2.1
  let x ← elem' u r.2.2.1
  let z ← lt' y x
  match z with
  | some won =>
    if won=true then do
      let y ← elem' v r.2.2.2.1
      if (r.2.2.2.1 + 1 == v.size)=true then pure (.done (some (fin1 u v (r.2.1.push y) r.2.2.1 (r.2.2.2.1 + 1)),r.2.1.push y,r.2.2.1,r.2.2.2.1 + 1,0,r.2.2.2.2.2 + 1))
      else if r.2.2.2.2.2 + 1 ≥ g then pure (.done (none,r.2.1.push y,r.2.2.1,r.2.2.2.1 + 1,0,r.2.2.2.2.2 + 1))
      else pure (.yield (none,r.2.1.push y,r.2.2.1,r.2.2.2.1 + 1,0,r.2.2.2.2.2 + 1))
    else do
      let x ← elem' u r.2.2.1
      if (r.2.2.1 + 1 + 1 == u.size)=true then pure (.done (some (fin2 u v (r.2.1.push x) (r.2.2.1 + 1) r.2.2.2.1),r.2.1.push x,r.2.2.1 + 1,r.2.2.2.1,r.2.2.2.2.1 + 1,0))
      else if r.2.2.2.2.1 + 1 ≥ g then pure (.done (none,r.2.1.push x,r.2.2.1 + 1,r.2.2.2.1,r.2.2.2.2.1 + 1,0))
      else pure (.yield (none,r.2.1.push x,r.2.2.1 + 1,r.2.2.2.1,r.2.2.2.2.1 + 1,0))
  | _=>pure (.done (some (fin1 u v r.2.1 r.2.2.1 r.2.2.2.1),r.2.1,r.2.2.1,r.2.2.2.1,r.2.2.2.2.1,r.2.2.2.2.2))

def galEnd (u v o:Array Keyed) (i j g ca cb:Nat):StateT SortSt Sem (ForInStep St7):=do
  let x ← elem' u i
  if (i + 1 + 1 == u.size)=true then pure (.done (some (fin2 u v (o.push x) (i + 1) j),o.push x,i + 1,j,g,ca,cb))
  else if (decide (ca < 7) && decide (cb < 7))=true then pure (.done (none,o.push x,i + 1,j,g,ca,cb))
  else pure (.yield (none,o.push x,i + 1,j,g,ca,cb))
def galMid (u v o:Array Keyed) (i j g ca cb:Nat):StateT SortSt Sem (ForInStep St7):=do
  let y ← elem' v j
  if (j + 1 == v.size)=true then pure (.done (some (fin1 u v (o.push y) i (j + 1)),o.push y,i,j + 1,g,ca,cb)) else do
    let x ← elem' u i
    let z ← gallopP true x v (j + 1) (v.size - (j + 1)) 0
    match z with
    | some k =>
      if k > 0 then
        if (j + 1 + k == v.size)=true then pure (.done (some (fin1 u v (o.push y++v.extract (j + 1) (j + 1 + k)) i (j + 1 + k)),o.push y++v.extract (j + 1) (j + 1 + k),i,j + 1 + k,g,ca,k))
        else galEnd u v (o.push y++v.extract (j + 1) (j + 1 + k)) i (j + 1 + k) g ca k
      else galEnd u v (o.push y) i (j + 1) g ca k
    | _=>pure (.done (some (fin1 u v (o.push y) i (j + 1)),o.push y,i,j + 1,g,ca,cb))
def galTop (u v o:Array Keyed) (i j g ca cb:Nat):StateT SortSt Sem (ForInStep St7):=do
  modify fun st=>setGal st g
  let y ← elem' v j
  let z ← gallopP false y u i (u.size - i) 0
  match z with
  | some k =>
    if k > 0 then
      if (i + k + 1 == u.size)=true then pure (.done (some (fin2 u v (o++u.extract i (i + k)) (i + k) j),o++u.extract i (i + k),i + k,j,g,k,cb))
      else if (i + k == u.size)=true then pure (.done (some (fin1 u v (o++u.extract i (i + k)) (i + k) j),o++u.extract i (i + k),i + k,j,g,k,cb))
      else galMid u v (o++u.extract i (i + k)) (i + k) j g k cb
    else galMid u v o i j g k cb
  | _=>pure (.done (some (fin1 u v o i j),o,i,j,g,ca,cb))
def galStep (u v:Array Keyed) (r:St7):StateT SortSt Sem (ForInStep St7) :=
  if r.2.2.2.2.1 > 1 then galTop u v r.2.1 r.2.2.1 r.2.2.2.1 (r.2.2.2.2.1 - 1) r.2.2.2.2.2.1 r.2.2.2.2.2.2 else galTop u v r.2.1 r.2.2.1 r.2.2.2.1 r.2.2.2.2.1 r.2.2.2.2.2.1 r.2.2.2.2.2.2
def roundStep (u v:Array Keyed) (r:St5):StateT SortSt Sem (ForInStep St5):=do
  let q ← forIn [0:u.size + v.size] ((none,r.2.1,r.2.2.1,r.2.2.2.1,0,0):St6) fun _ q=>oneStep u v r.2.2.2.2 q
  match q.1 with
  | some z=>pure (.done (some z,q.2.1,q.2.2.1,q.2.2.2.1,r.2.2.2.2))
  | none=>do
    liftM (rule "list.sort.gallop")
    let p ← forIn [0:u.size + v.size] ((none,q.2.1,q.2.2.1,q.2.2.2.1,r.2.2.2.2 + 1,q.2.2.2.2.1,q.2.2.2.2.2):St7) fun _ p=>galStep u v p
    match p.1 with
    | some z=>pure (.done (some z,p.2.1,p.2.2.1,p.2.2.2.1,p.2.2.2.2.1))
    | none=>do
      modify fun st=>setGal st (p.2.2.2.2.1 + 1)
      pure (.yield (none,p.2.1,p.2.2.1,p.2.2.2.1,p.2.2.2.2.1 + 1))
theorem loP_eq (u v:Array Keyed):loP u v=(do
    liftM (rule "list.sort.merge-lo")
    let y ← elem' v 0
    if (1 == v.size)=true then pure (fin1 u v #[y] 0 1) else
      if (0 + 1 == u.size)=true then pure (fin2 u v #[y] 0 1) else do
        let st ← get
        let r ← forIn [0:u.size + v.size] ((none,#[y],0,1,gallopOf st):St5) fun _ r=>roundStep u v r
        match r.1 with
        | some z=>pure z
        | none=>liftM (unsupported "internal:list.sort.merge-bound" : Sem (Array Keyed))):=by
  kernel_rfl

abbrev Srt (key:Keyed→Int) (l:List Keyed):Prop:=l.Pairwise fun x y=>key x≤key y
theorem srt_seg {u:Array Keyed}:Srt key u.toList↔Seg key u 0 u.size:=by
  constructor
  · intro h i j _ hij hj;by_cases e:i=j
    · subst e; exact Int.le_refl _
    have e1:u[i]? = some (u.toList[i]'(by simp; omega)):=by simp
    have e2:u[j]? = some (u.toList[j]'(by simp; omega)):=by simp
    rw [kat_some e1,kat_some e2];exact List.pairwise_iff_getElem.mp h i j (by simp; omega) (by simp; omega) (by omega)
  · intro h;refine List.pairwise_iff_getElem.mpr fun i j hi hj hij => ?_;have hi':i < u.size:=by simpa using hi
    have hj':j < u.size:=by simpa using hj
    have e1:u[i]? = some (u.toList[i]):=by simp
    have e2:u[j]? = some (u.toList[j]):=by simp
    have:=h i j (Nat.zero_le _) (by omega) hj'
    rw [kat_some e1,kat_some e2] at this;exact this

theorem srt_mid {o m r:List Keyed} (h1:Srt key (o++m)) (h2:Srt key (o++r)) (h3:∀ x∈m,∀ y∈r,key x≤key y):Srt key (o++m++r):=by
  unfold Srt at h1 h2 ⊢;rw [List.pairwise_append] at h1 h2 ⊢;refine ⟨List.pairwise_append.mpr h1,h2.2.1,fun x hx y hy => ?_⟩;rcases List.mem_append.mp hx with hx | hx
  · exact h2.2.2 x hx y hy
  · exact h3 x hx y hy
def Res (key:Keyed→Int) (u v z:Array Keyed):Prop:=z.toList.Perm (u.toList++v.toList)∧Srt key z.toList
structure MI (key:Keyed→Int) (u v o:Array Keyed) (i j:Nat):Prop where
  perm:(o.toList++(u.toList.drop i++v.toList.drop j)).Perm (u.toList++v.toList)
  sa:Srt key (o.toList++u.toList.drop i)
  sb:Srt key (o.toList++v.toList.drop j)
  hi:i≤u.size
  hj:j≤v.size
theorem MI.len {u v o:Array Keyed} {i j:Nat} (h:MI key u v o i j):o.size=i + j:=by
  have:=h.perm.length_eq
  have h1:=h.hi;have h2:=h.hj;simp only [List.length_append,List.length_drop,Array.length_toList] at this;omega
theorem MI.takeA {u v o o':Array Keyed} {i j k:Nat} (h:MI key u v o i j) (ho:o'.toList=o.toList++(u.toList.drop i).take k) (hk:i + k≤u.size) (hl:∀ x∈(u.toList.drop i).take k,∀ y∈v.toList.drop j,key x≤key y):MI key u v o' (i + k) j:=by
  have e:(u.toList.drop i).take k++u.toList.drop (i + k)=u.toList.drop i:=by rw [← List.drop_drop]; exact List.take_append_drop _ _
  refine ⟨?_,?_,?_,hk,h.hj⟩
  · rw [ho]
    have:o.toList++(u.toList.drop i).take k++(u.toList.drop (i + k)++v.toList.drop j)=o.toList++(u.toList.drop i++v.toList.drop j):=by
      rw [List.append_assoc,← List.append_assoc ((u.toList.drop i).take k),e]
    rw [this]; exact h.perm
  · rw [ho,List.append_assoc,e]; exact h.sa
  · rw [ho];have h1:Srt key (o.toList++(u.toList.drop i).take k):=by
      have:=h.sa
      rw [← e,← List.append_assoc] at this;exact (List.pairwise_append.mp this).1
    exact srt_mid h1 h.sb hl
theorem perm_move (o T U D W:List Keyed) (e:T++D=W):(o++T++(U++D)).Perm (o++(U++W)):=by
  rw [← e,List.append_assoc];refine List.Perm.append_left _ ?_;rw [← List.append_assoc,← List.append_assoc];exact List.Perm.append_right _ List.perm_append_comm
theorem MI.takeB {u v o o':Array Keyed} {i j k:Nat} (h:MI key u v o i j) (ho:o'.toList=o.toList++(v.toList.drop j).take k) (hk:j + k≤v.size) (hl:∀ x∈(v.toList.drop j).take k,∀ y∈u.toList.drop i,key x≤key y):MI key u v o' i (j + k):=by
  have e:(v.toList.drop j).take k++v.toList.drop (j + k)=v.toList.drop j:=by rw [← List.drop_drop]; exact List.take_append_drop _ _
  refine ⟨?_,?_,?_,h.hi,hk⟩
  · rw [ho];exact (perm_move _ _ _ _ _ e).trans h.perm
  · rw [ho];have h1:Srt key (o.toList++(v.toList.drop j).take k):=by
      have:=h.sb
      rw [← e,← List.append_assoc] at this;exact (List.pairwise_append.mp this).1
    exact srt_mid h1 h.sa hl
  · rw [ho,List.append_assoc,e]; exact h.sb
theorem ext_end (u:Array Keyed) (i:Nat):(u.extract i u.size).toList=u.toList.drop i:=by
  rw [Array.toList_extract,List.extract_eq_take_drop,List.take_of_length_le (by simp)]
theorem ext_mid (u:Array Keyed) (i k:Nat):(u.extract i (i + k)).toList=(u.toList.drop i).take k:=by
  rw [Array.toList_extract,List.extract_eq_take_drop]
  congr 1
  omega
theorem fin1_ok {u v o:Array Keyed} {i j:Nat} (h:MI key u v o i j) (he:i=u.size∨j=v.size):Res key u v (fin1 u v o i j):=by
  have e:(fin1 u v o i j).toList=o.toList++u.toList.drop i++v.toList.drop j:=by
    unfold fin1; rw [Array.toList_append,Array.toList_append,ext_end,ext_end]
  refine ⟨by rw [e,List.append_assoc]; exact h.perm,?_⟩;rw [e];rcases he with he | he
  · rw [he,List.drop_of_length_le (by simp),List.append_nil]; exact h.sb
  · rw [he,List.drop_of_length_le (l:=v.toList) (by simp),List.append_nil]; exact h.sa
theorem fin2_ok {u v o:Array Keyed} {i j:Nat} (h:MI key u v o i j) (hl:∀ x∈v.toList.drop j,∀ y∈u.toList.drop i,key x≤key y):Res key u v (fin2 u v o i j):=by
  have e:(fin2 u v o i j).toList=o.toList++v.toList.drop j++u.toList.drop i:=by
    unfold fin2; rw [Array.toList_append,Array.toList_append,ext_end,ext_end]
  refine ⟨?_,?_⟩
  · rw [e,List.append_assoc];exact (List.Perm.append_left _ List.perm_append_comm).trans h.perm
  · rw [e]; exact srt_mid h.sb h.sa hl
end
end Tim

namespace Tim
open PySem PyProof.Rows
section
variable {prog:Program} {w:World} {A:Around} {E:Value→Shared→Prop} {s:Shared} {a₀:Array Keyed} {κ:SortKind} {key:Keyed→Int}
structure Pre (a₀:Array Keyed) (key:Keyed→Int) (u v:Array Keyed):Prop where
  mu:∀ y∈u.toList,y∈a₀.toList
  mv:∀ y∈v.toList,y∈a₀.toList
  su:Seg key u 0 u.size
  sv:Seg key v 0 v.size
  hu:1≤u.size
  hv:1≤v.size
  first:kat key v 0 < kat key u 0
  last:kat key v (v.size - 1) < kat key u (u.size - 1)
theorem of_drop {u:Array Keyed} {i:Nat} {y:Keyed} (h:y∈u.toList.drop i):∃ t,i≤t∧t < u.size∧u[t]? = some y:=by
  obtain ⟨t,ht,e⟩:=List.getElem_of_mem h;rw [List.length_drop,Array.length_toList] at ht;rw [List.getElem_drop] at e;refine ⟨i + t,by omega,by omega,?_⟩;rw [← e,Array.getElem_toList];exact Array.getElem?_eq_getElem _
theorem of_take {u:Array Keyed} {i k:Nat} {y:Keyed} (h:y∈(u.toList.drop i).take k):∃ t,i≤t∧t < i + k∧t < u.size∧u[t]? = some y:=by
  obtain ⟨t,ht,e⟩:=List.getElem_of_mem h;rw [List.length_take,List.length_drop,Array.length_toList] at ht;rw [List.getElem_take,List.getElem_drop] at e;refine ⟨i + t,by omega,by omega,by omega,?_⟩;rw [← e,Array.getElem_toList];exact Array.getElem?_eq_getElem _
theorem Pre.lastA {u v:Array Keyed} {i j:Nat} (P:Pre a₀ key u v) (hi:i + 1=u.size):∀ x∈v.toList.drop j,∀ y∈u.toList.drop i,key x≤key y:=fun x hx y hy=>by
  obtain ⟨t,h1,h2,h3⟩:=of_drop hx;obtain ⟨r,g1,g2,g3⟩:=of_drop hy;have e:r=u.size - 1:=by omega
  rw [e] at g3;rw [← kat_some (key:=key) h3,← kat_some (key:=key) g3]
  have:=P.sv t (v.size - 1) (Nat.zero_le _) (by omega) (by omega)
  have:=P.last
  omega
theorem push_list (o:Array Keyed) (u:Array Keyed) {i:Nat} {x:Keyed} (h:u[i]? = some x):(o.push x).toList=o.toList++(u.toList.drop i).take 1:=by
  obtain ⟨hi,e⟩:=Array.getElem?_eq_some_iff.mp h
  have:u.toList.drop i=x::u.toList.drop (i + 1):=by
    rw [List.drop_eq_getElem_cons (by simpa using hi),Array.getElem_toList,e]
  rw [this]; simp
theorem one_ok (L:LtOk prog w A E s a₀ κ key) {u v o:Array Keyed} {i j g ca cb:Nat} {st:SortSt} {Q:ForInStep St6→SortSt→Prop} (hk:kindOf st=κ) (P:Pre a₀ key u v) (M:MI key u v o i j) (hi:i + 1 < u.size) (hj:j < v.size)
    (hd:∀ z r,Res key u v z→Q (.done (some z,r)) st) (hn:∀ o' i' j' ca' cb',MI key u v o' i' j'→i' + 1 < u.size→j' < v.size→o.size < o'.size→Q (.done (none,o',i',j',ca',cb')) st∧Q (.yield (none,o',i',j',ca',cb')) st) :
    wpS (model prog w) A E s (oneStep u v g (none,o,i,j,ca,cb)) Q st:=by
  unfold oneStep;have e1:v[j]? = some v[j]:=Array.getElem?_eq_getElem hj;have e2:u[i]? = some u[i]:=Array.getElem?_eq_getElem (by omega);dsimp only;refine wpS_bind (el_ok e1 (wpS_bind (el_ok e2 (wpS_bind (lt_ok L hk (P.mv _ (at_mem e1)) (P.mu _ (at_mem e2)) ?_)))));dsimp only;have ml:=M.len;by_cases c:key v[j] < key u[i]
  · rw [if_pos (decide_eq_true c)];refine wpS_bind (el_ok e1 ?_);have M':MI key u v (o.push v[j]) i (j + 1):=M.takeB (push_list o v e1) (by omega) fun x hx y hy=>by
      obtain ⟨t,t1,t2,t3,t4⟩:=of_take hx;obtain ⟨r,r1,r2,r3⟩:=of_drop hy;have et:t=j:=by omega
      rw [et,e1] at t4;have ex:=Option.some.inj t4
      have:=P.su i r (Nat.zero_le _) r1 r2
      rw [kat_some e2,kat_some r3] at this;rw [← ex]; omega
    have ml':=M'.len;by_cases e:j + 1=v.size
    · rw [if_pos (by simpa using e)];exact wpS_pure (hd _ _ (fin1_ok M' (.inr e)))
    · rw [if_neg (by simpa using e)];obtain ⟨q1,q2⟩:=hn _ i (j + 1) 0 (cb + 1) M' hi (by omega) (by omega)
      split
      · exact wpS_pure q1
      · exact wpS_pure q2
  · rw [if_neg (by simpa using c)];refine wpS_bind (el_ok e2 ?_);have M':MI key u v (o.push u[i]) (i + 1) j:=M.takeA (push_list o u e2) (by omega) fun x hx y hy=>by
      obtain ⟨t,t1,t2,t3,t4⟩:=of_take hx;obtain ⟨r,r1,r2,r3⟩:=of_drop hy;have et:t=i:=by omega
      rw [et,e2] at t4;have ex:=Option.some.inj t4
      have:=P.sv j r (Nat.zero_le _) r1 r2
      rw [kat_some e1,kat_some r3] at this;rw [← ex]; omega
    have ml':=M'.len;by_cases e:i + 1 + 1=u.size
    · rw [if_pos (by simpa using e)];exact wpS_pure (hd _ _ (fin2_ok M' (P.lastA e)))
    · rw [if_neg (by simpa using e)];obtain ⟨q1,q2⟩:=hn _ (i + 1) j (ca + 1) 0 M' (by omega) hj (by omega)
      split
      · exact wpS_pure q1
      · exact wpS_pure q2
theorem galEnd_ok {u v o:Array Keyed} {i j g ca cb n:Nat} {st:SortSt} {Q:ForInStep St7→SortSt→Prop} (P:Pre a₀ key u v) (M:MI key u v o i j) (hi:i + 1 < u.size) (hj:j < v.size) (hx:∀ y∈v.toList.drop j,kat key u i≤key y) (hs:n≤o.size)
    (hd:∀ z r,Res key u v z→Q (.done (some z,r)) st) (hn:∀ o' i' j' g' ca' cb',MI key u v o' i' j'→i' + 1 < u.size→j' < v.size→n < o'.size→Q (.done (none,o',i',j',g',ca',cb')) st∧Q (.yield (none,o',i',j',g',ca',cb')) st) :
    wpS (model prog w) A E s (galEnd u v o i j g ca cb) Q st:=by
  unfold galEnd;have e2:u[i]? = some u[i]:=Array.getElem?_eq_getElem (by omega);refine wpS_bind (el_ok e2 ?_);have ml:=M.len;have M':MI key u v (o.push u[i]) (i + 1) j:=M.takeA (push_list o u e2) (by omega) fun x hx' y hy=>by
    obtain ⟨t,t1,t2,t3,t4⟩:=of_take hx';have et:t=i:=by omega
    rw [et,e2] at t4;have ex:=Option.some.inj t4
    have:=hx y hy
    rw [kat_some e2] at this;rw [← ex]; exact this
  have ml':=M'.len;by_cases e:i + 1 + 1=u.size
  · rw [if_pos (by simpa using e)];exact wpS_pure (hd _ _ (fin2_ok M' (P.lastA e)))
  · rw [if_neg (by simpa using e)];obtain ⟨q1,q2⟩:=hn _ (i + 1) j g ca cb M' (by omega) hj (by omega)
    split
    · exact wpS_pure q1
    · exact wpS_pure q2
theorem app_list (o u:Array Keyed) (i k:Nat):(o++u.extract i (i + k)).toList=o.toList++(u.toList.drop i).take k:=by rw [Array.toList_append,ext_mid]
theorem seg_sub {u:Array Keyed} {a b c d:Nat} (h:Seg key u a b) (h1:a≤c) (h2:d≤b):Seg key u c d:=fun i j x y z=>h i j (by omega) y (by omega)
theorem galMid_ok (L:LtOk prog w A E s a₀ κ key) {u v o:Array Keyed} {i j g ca cb n:Nat} {st:SortSt} {Q:ForInStep St7→SortSt→Prop} (hk:kindOf st=κ) (P:Pre a₀ key u v) (M:MI key u v o i j) (hi:i + 1 < u.size) (hj:j < v.size) (hx:∀ y∈u.toList.drop i,kat key v j≤key y) (hs:n≤o.size)
    (hd:∀ z r,Res key u v z→Q (.done (some z,r)) st) (hn:∀ o' i' j' g' ca' cb',MI key u v o' i' j'→i' + 1 < u.size→j' < v.size→n < o'.size→Q (.done (none,o',i',j',g',ca',cb')) st∧Q (.yield (none,o',i',j',g',ca',cb')) st) :
    wpS (model prog w) A E s (galMid u v o i j g ca cb) Q st:=by
  unfold galMid;have e1:v[j]? = some v[j]:=Array.getElem?_eq_getElem hj;have e2:u[i]? = some u[i]:=Array.getElem?_eq_getElem (by omega);refine wpS_bind (el_ok e1 ?_);have ml:=M.len;have M':MI key u v (o.push v[j]) i (j + 1):=M.takeB (push_list o v e1) (by omega) fun x hx' y hy=>by
    obtain ⟨t,t1,t2,t3,t4⟩:=of_take hx';have et:t=j:=by omega
    rw [et,e1] at t4;have ex:=Option.some.inj t4
    have:=hx y hy
    rw [kat_some e1] at this;rw [← ex]; exact this
  have ml':=M'.len;by_cases e:j + 1=v.size
  · rw [if_pos (by simpa using e)];exact wpS_pure (hd _ _ (fin1_ok M' (.inr e)))
  · rw [if_neg (by simpa using e)];refine wpS_bind (el_ok e2 (wpS_bind (gallop_ok L hk (P.mu _ (at_mem e2)) P.mv (by omega) (by omega) (seg_sub P.sv (by omega) (by omega)) fun k k1 k2 k3 => ?_)));dsimp only;have lo:∀ t,j + 1≤t→t < j + 1 + k→kat key v t < key u[i]:=fun t t1 t2=>by
      have:=k2 (t - (j + 1)) (by omega)
      unfold isPast at this;rw [if_pos rfl,show j + 1 + (t - (j + 1))=t by omega] at this;exact of_decide_eq_true this
    have hi':∀ t,j + 1 + k≤t→t < v.size→key u[i]≤kat key v t:=fun t t1 t2=>by
      have:=k3 (t - (j + 1)) (by omega) (by omega)
      unfold isPast at this;rw [if_pos rfl,show j + 1 + (t - (j + 1))=t by omega] at this
      have:=of_decide_eq_false this
      omega
    have endx:∀ y∈v.toList.drop (j + 1 + k),kat key u i≤key y:=fun y hy=>by
      obtain ⟨r,r1,r2,r3⟩:=of_drop hy
      have:=hi' r r1 r2
      rw [kat_some r3] at this;rw [kat_some e2]; exact this
    by_cases hk0:k > 0
    · rw [if_pos hk0];have M2:MI key u v (o.push v[j]++v.extract (j + 1) (j + 1 + k)) i (j + 1 + k):=M'.takeB (app_list _ v (j + 1) k) (by omega) fun x hx' y hy=>by
        obtain ⟨t,t1,t2,t3,t4⟩:=of_take hx';obtain ⟨r,r1,r2,r3⟩:=of_drop hy;have a1:=lo t t1 t2;have a2:=P.su i r (Nat.zero_le _) r1 r2;rw [kat_some t4] at a1;rw [kat_some e2,kat_some r3] at a2;omega
      have ml2:=M2.len;by_cases e3:j + 1 + k=v.size
      · rw [if_pos (by simpa using e3)];exact wpS_pure (hd _ _ (fin1_ok M2 (.inr e3)))
      · rw [if_neg (by simpa using e3)];exact galEnd_ok P M2 hi (by omega) endx (by omega) hd hn
    · rw [if_neg hk0];have k0:k=0:=by omega
      subst k0;exact galEnd_ok P M' hi (by omega) endx (by omega) hd hn
theorem galTop_ok (L:LtOk prog w A E s a₀ κ key) {u v o:Array Keyed} {i j g ca cb:Nat} {st:SortSt} {Q:ForInStep St7→SortSt→Prop} (hk:kindOf st=κ) (P:Pre a₀ key u v) (M:MI key u v o i j) (hi:i + 1 < u.size) (hj:j < v.size)
    (hd:∀ z r,Res key u v z→Q (.done (some z,r)) (setGal st g)) (hn:∀ o' i' j' g' ca' cb',MI key u v o' i' j'→i' + 1 < u.size→j' < v.size→o.size < o'.size→Q (.done (none,o',i',j',g',ca',cb')) (setGal st g)∧Q (.yield (none,o',i',j',g',ca',cb')) (setGal st g)) :
    wpS (model prog w) A E s (galTop u v o i j g ca cb) Q st:=by
  unfold galTop;have e1:v[j]? = some v[j]:=Array.getElem?_eq_getElem hj;refine wpS_bind (wpS_modify (wpS_bind (el_ok e1 (wpS_bind (gallop_ok L hk (P.mv _ (at_mem e1)) P.mu (by omega) (by omega) (seg_sub P.su (by omega) (by omega)) fun k k1 k2 k3 => ?_)))));dsimp only;have ml:=M.len;have lo:∀ t,i≤t→t < i + k→kat key u t≤key v[j]:=fun t t1 t2=>by
    have:=k2 (t - i) (by omega)
    unfold isPast at this;rw [if_neg (by decide),show i + (t - i)=t by omega] at this
    have:¬ key v[j] < kat key u t:=by simpa using this
    omega
  have hi':∀ t,i + k≤t→t < u.size→key v[j] < kat key u t:=fun t t1 t2=>by
    have:=k3 (t - i) (by omega) (by omega)
    unfold isPast at this;rw [if_neg (by decide),show i + (t - i)=t by omega] at this
    have:key v[j] < kat key u t:=by simpa using this
    exact this
  have midx:∀ y∈u.toList.drop (i + k),kat key v j≤key y:=fun y hy=>by
    obtain ⟨r,r1,r2,r3⟩:=of_drop hy
    have:=hi' r r1 r2
    rw [kat_some r3] at this;rw [kat_some e1]; omega
  by_cases hk0:k > 0
  · rw [if_pos hk0];have M2:MI key u v (o++u.extract i (i + k)) (i + k) j:=M.takeA (app_list _ u i k) (by omega) fun x hx' y hy=>by
      obtain ⟨t,t1,t2,t3,t4⟩:=of_take hx';obtain ⟨r,r1,r2,r3⟩:=of_drop hy;have a1:=lo t t1 t2;have a2:=P.sv j r (Nat.zero_le _) r1 r2;rw [kat_some t4] at a1;rw [kat_some e1,kat_some r3] at a2;omega
    have ml2:=M2.len;by_cases e3:i + k + 1=u.size
    · rw [if_pos (by simpa using e3)];exact wpS_pure (hd _ _ (fin2_ok M2 (P.lastA e3)))
    · rw [if_neg (by simpa using e3)];by_cases e4:i + k=u.size
      · rw [if_pos (by simpa using e4)];exact wpS_pure (hd _ _ (fin1_ok M2 (.inl e4)))
      · rw [if_neg (by simpa using e4)];exact galMid_ok L (st:=setGal st g) hk P M2 (by omega) hj midx (by omega) hd hn
  · rw [if_neg hk0];have k0:k=0:=by omega
    subst k0;exact galMid_ok L (st:=setGal st g) hk P M hi hj midx (by omega) hd hn
theorem round_ok (L:LtOk prog w A E s a₀ κ key) {u v o:Array Keyed} {i j g:Nat} {st:SortSt} {Q:ForInStep St5→SortSt→Prop} (hk:kindOf st=κ) (P:Pre a₀ key u v) (M:MI key u v o i j) (hi:i + 1 < u.size) (hj:j < v.size)
    (hd:∀ z r g',Res key u v z→Q (.done (some z,r)) (setGal st g')) (hn:∀ o' i' j' g' g'',MI key u v o' i' j'→i' + 1 < u.size→j' < v.size→o.size < o'.size→Q (.yield (none,o',i',j',g')) (setGal st g'')) :
    wpS (model prog w) A E s (roundStep u v (none,o,i,j,g)) Q st:=by
  unfold roundStep;have ml:=M.len;refine wpS_bind (wpS_mono (wpS_forRange (I:=fun t c st'=>st'=st∧∃ o' i' j' ca cb,c=(none,o',i',j',ca,cb)∧MI key u v o' i' j'∧i' + 1 < u.size∧j' < v.size∧o.size + t≤o'.size)
    (Q:=fun c st'=>st'=st∧((∃ z r,c=(some z,r)∧Res key u v z)∨∃ o' i' j' ca cb,c=(none,o',i',j',ca,cb)∧MI key u v o' i' j'∧i' + 1 < u.size∧j' < v.size∧o.size < o'.size)) ?step ?fin ⟨rfl,o,i,j,0,0,rfl,M,hi,hj,by omega⟩) ?post)
  case fin =>
    rintro c st' ⟨rfl,o',i',j',ca,cb,rfl,M',h1,h2,h3⟩
    have:=M'.len
    omega
  case step =>
    rintro t c st' _ ht ⟨rfl,o',i',j',ca,cb,rfl,M',h1,h2,h3⟩;exact one_ok L hk P M' h1 h2 (fun z r hz=>⟨rfl,.inl ⟨z,r,rfl,hz⟩⟩) fun o2 i2 j2 ca2 cb2 M2 g1 g2 g3=>⟨⟨rfl,.inr ⟨o2,i2,j2,ca2,cb2,rfl,M2,g1,g2,by omega⟩⟩,rfl,o2,i2,j2,ca2,cb2,rfl,M2,g1,g2,by omega⟩
  case post =>
    rintro c st' ⟨rfl,h⟩;rcases h with ⟨z,r,rfl,hz⟩ | ⟨o',i',j',ca,cb,rfl,M',h1,h2,h3⟩
    · exact wpS_pure (hd z _ (gallopOf st') hz)
    · dsimp only;refine wpS_bind (wpS_lift (wpAny_rule ⟨rfl,?_⟩));refine wpS_bind (wpS_mono (wpS_forRange (I:=fun t c st''=>∃ g',st''=setGal st' g'∧∃ o2 i2 j2 g2 ca cb,c=(none,o2,i2,j2,g2,ca,cb)∧MI key u v o2 i2 j2∧i2 + 1 < u.size∧j2 < v.size∧o'.size + t≤o2.size)
        (Q:=fun c st''=>∃ g',st''=setGal st' g'∧((∃ z r,c=(some z,r)∧Res key u v z)∨∃ o2 i2 j2 g2 ca cb,c=(none,o2,i2,j2,g2,ca,cb)∧MI key u v o2 i2 j2∧i2 + 1 < u.size∧j2 < v.size∧o.size < o2.size)) ?gstep ?gfin ⟨gallopOf st',rfl,o',i',j',g + 1,ca,cb,rfl,M',h1,h2,by omega⟩) ?gpost)
      case gfin =>
        rintro c st'' ⟨g',rfl,o2,i2,j2,g2,ca,cb,rfl,M2,q1,q2,q3⟩
        have:=M2.len
        have:=M'.len
        omega
      case gstep =>
        rintro t c st'' _ ht ⟨g',rfl,o2,i2,j2,g2,ca,cb,rfl,M2,q1,q2,q3⟩;show wpS _ _ _ _ (galStep u v (none,o2,i2,j2,g2,ca,cb)) _ _;unfold galStep;dsimp only
        split
        · exact galTop_ok L (st:=setGal st' g') hk P M2 q1 q2 (fun z r hz=>⟨_,rfl,.inl ⟨z,r,rfl,hz⟩⟩) fun o3 i3 j3 g3 ca3 cb3 M3 k1 k2 k3=>⟨⟨_,rfl,.inr ⟨o3,i3,j3,g3,ca3,cb3,rfl,M3,k1,k2,by omega⟩⟩,_,rfl,o3,i3,j3,g3,ca3,cb3,rfl,M3,k1,k2,by omega⟩
        · exact galTop_ok L (st:=setGal st' g') hk P M2 q1 q2 (fun z r hz=>⟨_,rfl,.inl ⟨z,r,rfl,hz⟩⟩) fun o3 i3 j3 g3 ca3 cb3 M3 k1 k2 k3=>⟨⟨_,rfl,.inr ⟨o3,i3,j3,g3,ca3,cb3,rfl,M3,k1,k2,by omega⟩⟩,_,rfl,o3,i3,j3,g3,ca3,cb3,rfl,M3,k1,k2,by omega⟩
      case gpost =>
        rintro c st'' ⟨g',rfl,h⟩;rcases h with ⟨z,r,rfl,hz⟩ | ⟨o2,i2,j2,g2,ca,cb,rfl,M2,q1,q2,q3⟩
        · exact wpS_pure (hd z _ g' hz)
        · dsimp only;exact wpS_bind (wpS_modify (wpS_pure (hn o2 i2 j2 _ _ M2 q1 q2 q3)))
theorem lo_ok (L:LtOk prog w A E s a₀ κ key) {u v:Array Keyed} {st:SortSt} {Q:Array Keyed→SortSt→Prop} (hk:kindOf st=κ) (P:Pre a₀ key u v) (hd:∀ z g',Res key u v z→Q z (setGal st g')):wpS (model prog w) A E s (loP u v) Q st:=by
  rw [loP_eq];refine wpS_bind (wpS_lift (wpAny_rule ⟨rfl,?_⟩));have hu:=P.hu;have hv:=P.hv;have e1:v[0]? = some v[0]:=Array.getElem?_eq_getElem (by omega);refine wpS_bind (el_ok e1 ?_);have M0:MI key u v #[] 0 0:=⟨by simp,by simpa using srt_seg.mpr P.su,by simpa using srt_seg.mpr P.sv,Nat.zero_le _,Nat.zero_le _⟩;have M:MI key u v #[v[0]] 0 (0 + 1):=M0.takeB (by have:=push_list #[] v e1; simpa using this) (by omega) fun x hx y hy=>by
    obtain ⟨t,t1,t2,t3,t4⟩:=of_take hx;obtain ⟨r,r1,r2,r3⟩:=of_drop hy;have et:t=0:=by omega
    rw [et] at t4;have a1:=P.su 0 r (Nat.zero_le _) r1 r2;have a2:=P.first;rw [kat_some t4] at a2;rw [kat_some r3] at a1;omega
  rw [Nat.zero_add] at M;by_cases c1:1=v.size
  · rw [if_pos (by simpa using c1)];exact wpS_pure (hd _ (gallopOf st) (fin1_ok M (.inr c1)))
  · rw [if_neg (by simpa using c1)];by_cases c2:0 + 1=u.size
    · rw [if_pos (by simpa using c2)];exact wpS_pure (hd _ (gallopOf st) (fin2_ok M (P.lastA c2)))
    · rw [if_neg (by simpa using c2)];refine wpS_bind (wpS_get ?_);refine wpS_bind (wpS_mono (wpS_forRange (I:=fun t c st'=>∃ g',st'=setGal st g'∧∃ o i j g,c=(none,o,i,j,g)∧MI key u v o i j∧i + 1 < u.size∧j < v.size∧t < o.size)
        (Q:=fun c st'=>∃ g',st'=setGal st g'∧∃ z r,c=(some z,r)∧Res key u v z) ?step ?fin ⟨gallopOf st,rfl,#[v[0]],0,1,_,rfl,M,by omega,by omega,by simp⟩) ?post)
      case fin =>
        rintro c st' ⟨g',rfl,o,i,j,g,rfl,M',h1,h2,h3⟩
        have:=M'.len
        omega
      case step =>
        rintro t c st' _ ht ⟨g',rfl,o,i,j,g,rfl,M',h1,h2,h3⟩;exact round_ok L (st:=setGal st g') hk P M' h1 h2 (fun z r g2 hz=>⟨g2,rfl,z,r,rfl,hz⟩) fun o2 i2 j2 g2 g3 M2 q1 q2 q3=>⟨g3,rfl,o2,i2,j2,g2,rfl,M2,q1,q2,by omega⟩
      case post =>
        rintro c st' ⟨g',rfl,z,r,rfl,hz⟩;exact wpS_pure (hd z g' hz)
end
end Tim

namespace Tim
open PySem PyProof.Rows
section
variable {prog:Program} {w:World} {A:Around} {E:Value→Shared→Prop} {s:Shared} {a₀:Array Keyed} {κ:SortKind} {key:Keyed→Int}

def hiP:Array Keyed→Array Keyed→StateT SortSt Sem (Array Keyed):=sortPriv% PySem.Builtin.mergeHi
abbrev Sh7:=Option (Array Keyed) × Nat × Nat × Array Keyed × Nat × Nat × Nat
abbrev Sh6:=Option (Array Keyed) × Nat × Nat × Array Keyed × Nat × Nat
abbrev Sh5:=Option (Array Keyed) × Nat × Nat × Array Keyed × Nat
def fih1 (u v o:Array Keyed) (i j:Nat):Array Keyed:=u.extract 0 i++v.extract 0 j++o.reverse
def fih2 (u v o:Array Keyed) (i j:Nat):Array Keyed:=v.extract 0 j++u.extract 0 i++o.reverse
def oneHi (u v:Array Keyed) (g:Nat) (r:Sh6):StateT SortSt Sem (ForInStep Sh6):=do
  let y ← elem' v (r.2.2.1 - 1)
  let x ← elem' u (r.2.1 - 1)
  let z ← lt' y x
  match z with
  | some won =>
    if won=true then do
      let x ← elem' u (r.2.1 - 1)
      if (r.2.1 - 1 == 0)=true then pure (.done (some (fih1 u v (r.2.2.2.1.push x) (r.2.1 - 1) r.2.2.1),r.2.1 - 1,r.2.2.1,r.2.2.2.1.push x,r.2.2.2.2.1 + 1,0))
      else if r.2.2.2.2.1 + 1 ≥ g then pure (.done (none,r.2.1 - 1,r.2.2.1,r.2.2.2.1.push x,r.2.2.2.2.1 + 1,0))
      else pure (.yield (none,r.2.1 - 1,r.2.2.1,r.2.2.2.1.push x,r.2.2.2.2.1 + 1,0))
    else do
      let y ← elem' v (r.2.2.1 - 1)
      if (r.2.2.1 - 1 == 1)=true then pure (.done (some (fih2 u v (r.2.2.2.1.push y) r.2.1 (r.2.2.1 - 1)),r.2.1,r.2.2.1 - 1,r.2.2.2.1.push y,0,r.2.2.2.2.2 + 1))
      else if r.2.2.2.2.2 + 1 ≥ g then pure (.done (none,r.2.1,r.2.2.1 - 1,r.2.2.2.1.push y,0,r.2.2.2.2.2 + 1))
      else pure (.yield (none,r.2.1,r.2.2.1 - 1,r.2.2.2.1.push y,0,r.2.2.2.2.2 + 1))
  | _=>pure (.done (some (fih1 u v r.2.2.2.1 r.2.1 r.2.2.1),r.2.1,r.2.2.1,r.2.2.2.1,r.2.2.2.2.1,r.2.2.2.2.2))
def ghEnd (u v o:Array Keyed) (i j g ca cb:Nat):StateT SortSt Sem (ForInStep Sh7):=do
  let x ← elem' u (i - 1)
  if (i - 1 == 0)=true then pure (.done (some (fih1 u v (o.push x) (i - 1) j),i - 1,j,o.push x,g,ca,cb))
  else if (decide (ca < 7) && decide (cb < 7))=true then pure (.done (none,i - 1,j,o.push x,g,ca,cb))
  else pure (.yield (none,i - 1,j,o.push x,g,ca,cb))
def ghMid (u v o:Array Keyed) (i j g ca cb:Nat):StateT SortSt Sem (ForInStep Sh7):=do
  let y ← elem' v (j - 1)
  if (j - 1 == 1)=true then pure (.done (some (fih2 u v (o.push y) i (j - 1)),i,j - 1,o.push y,g,ca,cb)) else do
    let x ← elem' u (i - 1)
    let z ← gallopP true x v 0 (j - 1) (j - 1 - 1)
    match z with
    | some k =>
      if j - 1 - k > 0 then
        if (k == 1)=true then pure (.done (some (fih2 u v (o.push y++(v.extract k (j - 1)).reverse) i k),i,k,o.push y++(v.extract k (j - 1)).reverse,g,ca,j - 1 - k))
        else if (k == 0)=true then pure (.done (some (fih1 u v (o.push y++(v.extract k (j - 1)).reverse) i k),i,k,o.push y++(v.extract k (j - 1)).reverse,g,ca,j - 1 - k))
        else ghEnd u v (o.push y++(v.extract k (j - 1)).reverse) i k g ca (j - 1 - k)
      else ghEnd u v (o.push y) i (j - 1) g ca (j - 1 - k)
    | _=>pure (.done (some (fih1 u v (o.push y) i (j - 1)),i,j - 1,o.push y,g,ca,cb))
def ghTop (u v o:Array Keyed) (i j g ca cb:Nat):StateT SortSt Sem (ForInStep Sh7):=do
  modify fun st=>setGal st g
  let y ← elem' v (j - 1)
  let z ← gallopP false y u 0 i (i - 1)
  match z with
  | some k =>
    if i - k > 0 then
      if (k == 0)=true then pure (.done (some (fih1 u v (o++(u.extract k i).reverse) k j),k,j,o++(u.extract k i).reverse,g,i - k,cb))
      else ghMid u v (o++(u.extract k i).reverse) k j g (i - k) cb
    else ghMid u v o i j g (i - k) cb
  | _=>pure (.done (some (fih1 u v o i j),i,j,o,g,ca,cb))
def ghStep (u v:Array Keyed) (r:Sh7):StateT SortSt Sem (ForInStep Sh7) :=
  if r.2.2.2.2.1 > 1 then ghTop u v r.2.2.2.1 r.2.1 r.2.2.1 (r.2.2.2.2.1 - 1) r.2.2.2.2.2.1 r.2.2.2.2.2.2 else ghTop u v r.2.2.2.1 r.2.1 r.2.2.1 r.2.2.2.2.1 r.2.2.2.2.2.1 r.2.2.2.2.2.2
def roundHi (u v:Array Keyed) (r:Sh5):StateT SortSt Sem (ForInStep Sh5):=do
  let q ← forIn [0:u.size + v.size] ((none,r.2.1,r.2.2.1,r.2.2.2.1,0,0):Sh6) fun _ q=>oneHi u v r.2.2.2.2 q
  match q.1 with
  | some z=>pure (.done (some z,q.2.1,q.2.2.1,q.2.2.2.1,r.2.2.2.2))
  | none=>do
    liftM (rule "list.sort.gallop")
    let p ← forIn [0:u.size + v.size] ((none,q.2.1,q.2.2.1,q.2.2.2.1,r.2.2.2.2 + 1,q.2.2.2.2.1,q.2.2.2.2.2):Sh7) fun _ p=>ghStep u v p
    match p.1 with
    | some z=>pure (.done (some z,p.2.1,p.2.2.1,p.2.2.2.1,p.2.2.2.2.1))
    | none=>do
      modify fun st=>setGal st (p.2.2.2.2.1 + 1)
      pure (.yield (none,p.2.1,p.2.2.1,p.2.2.2.1,p.2.2.2.2.1 + 1))
theorem hiP_eq (u v:Array Keyed):hiP u v=(do
    liftM (rule "list.sort.merge-hi")
    let x ← elem' u (u.size - 1)
    if (u.size - 1 == 0)=true then pure (fih1 u v #[x] (u.size - 1) v.size) else
      if (v.size == 1)=true then pure (fih2 u v #[x] (u.size - 1) v.size) else do
        let st ← get
        let r ← forIn [0:u.size + v.size] ((none,u.size - 1,v.size,#[x],gallopOf st):Sh5) fun _ r=>roundHi u v r
        match r.1 with
        | some z=>pure z
        | none=>liftM (unsupported "internal:list.sort.merge-bound" : Sem (Array Keyed))):=by
  kernel_rfl
theorem srt_mid2 {o m r:List Keyed} (h1:Srt key (m++o)) (h2:Srt key (r++o)) (h3:∀ x∈r,∀ y∈m,key x≤key y):Srt key (r++(m++o)):=by
  unfold Srt at h1 h2 ⊢;rw [List.pairwise_append] at h2;refine List.pairwise_append.mpr ⟨h2.1,h1,fun x hx y hy => ?_⟩;rcases List.mem_append.mp hy with hy | hy
  · exact h3 x hx y hy
  · exact h2.2.2 x hx y hy
structure HI (key:Keyed→Int) (u v o:Array Keyed) (i j:Nat):Prop where
  perm:(u.toList.take i++v.toList.take j++o.toList.reverse).Perm (u.toList++v.toList)
  sa:Srt key (u.toList.take i++o.toList.reverse)
  sb:Srt key (v.toList.take j++o.toList.reverse)
  hi:i≤u.size
  hj:j≤v.size
theorem HI.len {u v o:Array Keyed} {i j:Nat} (h:HI key u v o i j):o.size + i + j=u.size + v.size:=by
  have:=h.perm.length_eq
  have h1:=h.hi;have h2:=h.hj;simp only [List.length_append,List.length_take,List.length_reverse,Array.length_toList] at this;omega
theorem take_split (l:List Keyed) {k i:Nat} (h:k≤i):l.take k++(l.take i).drop k=l.take i:=by
  have:=List.take_append_drop k (l.take i)
  rwa [List.take_take,Nat.min_eq_left h] at this
theorem perm_a (T D V R W:List Keyed) (e:T++D=W):(T++V++(D++R)).Perm (W++V++R):=by
  rw [← e,List.append_assoc,List.append_assoc,List.append_assoc];refine List.Perm.append_left _ ?_;rw [← List.append_assoc,← List.append_assoc];exact List.Perm.append_right _ List.perm_append_comm
theorem perm_b (T D U R W:List Keyed) (e:T++D=W):(U++T++(D++R)).Perm (U++W++R):=by
  rw [← e];simp only [List.append_assoc];exact List.Perm.refl _
theorem HI.takeA {u v o o':Array Keyed} {i j k:Nat} (h:HI key u v o i j) (ho:o'.toList.reverse=(u.toList.take i).drop k++o.toList.reverse) (hk:k≤i) (hl:∀ x∈v.toList.take j,∀ y∈(u.toList.take i).drop k,key x≤key y):HI key u v o' k j:=by
  have e:=take_split u.toList hk;have hi:=h.hi;refine ⟨?_,?_,?_,by omega,h.hj⟩
  · rw [ho];exact (perm_a _ _ _ _ _ e).trans h.perm
  · rw [ho,← List.append_assoc,e]; exact h.sa
  · rw [ho];have h1:Srt key ((u.toList.take i).drop k++o.toList.reverse):=by
      have:=h.sa
      rw [← e,List.append_assoc] at this;exact (List.pairwise_append.mp this).2.1
    exact srt_mid2 h1 h.sb hl
theorem HI.takeB {u v o o':Array Keyed} {i j k:Nat} (h:HI key u v o i j) (ho:o'.toList.reverse=(v.toList.take j).drop k++o.toList.reverse) (hk:k≤j) (hl:∀ x∈u.toList.take i,∀ y∈(v.toList.take j).drop k,key x≤key y):HI key u v o' i k:=by
  have e:=take_split v.toList hk;have hj:=h.hj;refine ⟨?_,?_,?_,h.hi,by omega⟩
  · rw [ho];exact (perm_b _ _ _ _ _ e).trans h.perm
  · rw [ho];have h1:Srt key ((v.toList.take j).drop k++o.toList.reverse):=by
      have:=h.sb
      rw [← e,List.append_assoc] at this;exact (List.pairwise_append.mp this).2.1
    exact srt_mid2 h1 h.sa hl
  · rw [ho,← List.append_assoc,e]; exact h.sb
theorem ext_head (u:Array Keyed) (i:Nat):(u.extract 0 i).toList=u.toList.take i:=by
  rw [Array.toList_extract,List.extract_eq_take_drop]; simp
theorem ext_part (u:Array Keyed) (k i:Nat):(u.extract k i).toList=(u.toList.take i).drop k:=by
  rw [Array.toList_extract,List.extract_eq_take_drop,List.drop_take]
theorem fih1_ok {u v o:Array Keyed} {i j:Nat} (h:HI key u v o i j) (he:i=0∨j=0):Res key u v (fih1 u v o i j):=by
  have e:(fih1 u v o i j).toList=u.toList.take i++v.toList.take j++o.toList.reverse:=by
    unfold fih1; rw [Array.toList_append,Array.toList_append,ext_head,ext_head,Array.toList_reverse]
  refine ⟨by rw [e]; exact h.perm,?_⟩;rw [e];rcases he with he | he
  · rw [he]; simpa using h.sb
  · have:=h.sa
    rw [he]; simpa using this
theorem fih2_ok {u v o:Array Keyed} {i j:Nat} (h:HI key u v o i j) (hl:∀ x∈v.toList.take j,∀ y∈u.toList.take i,key x≤key y):Res key u v (fih2 u v o i j):=by
  have e:(fih2 u v o i j).toList=v.toList.take j++u.toList.take i++o.toList.reverse:=by
    unfold fih2; rw [Array.toList_append,Array.toList_append,ext_head,ext_head,Array.toList_reverse]
  refine ⟨?_,?_⟩
  · rw [e];exact (List.Perm.append_right _ List.perm_append_comm).trans h.perm
  · rw [e,List.append_assoc]; exact srt_mid2 h.sa h.sb hl
theorem of_head {u:Array Keyed} {i:Nat} {y:Keyed} (h:y∈u.toList.take i):∃ t,t < i∧t < u.size∧u[t]? = some y:=by
  obtain ⟨t,ht,e⟩:=List.getElem_of_mem h;rw [List.length_take,Array.length_toList] at ht;rw [List.getElem_take] at e;refine ⟨t,by omega,by omega,?_⟩;rw [← e,Array.getElem_toList];exact Array.getElem?_eq_getElem _
theorem of_part {u:Array Keyed} {i k:Nat} {y:Keyed} (h:y∈(u.toList.take i).drop k):∃ t,k≤t∧t < i∧t < u.size∧u[t]? = some y:=by
  rw [List.drop_take] at h;obtain ⟨t,t1,t2,t3,t4⟩:=of_take h;exact ⟨t,t1,by omega,t3,t4⟩
theorem Pre.firstB {u v:Array Keyed} {i j:Nat} (P:Pre a₀ key u v) (hj:j=1):∀ x∈v.toList.take j,∀ y∈u.toList.take i,key x≤key y:=fun x hx y hy=>by
  obtain ⟨t,h1,h2,h3⟩:=of_head hx;obtain ⟨r,g1,g2,g3⟩:=of_head hy;have e:t=0:=by omega
  rw [e] at h3;rw [← kat_some (key:=key) h3,← kat_some (key:=key) g3]
  have:=P.su 0 r (Nat.zero_le _) (Nat.zero_le _) g2
  have:=P.first
  omega
theorem push_rev (o u:Array Keyed) {i:Nat} {x:Keyed} (h1:1≤i) (h:u[i - 1]? = some x):(o.push x).toList.reverse=(u.toList.take i).drop (i - 1)++o.toList.reverse:=by
  obtain ⟨hi,e⟩:=Array.getElem?_eq_some_iff.mp h
  have:(u.toList.take i).drop (i - 1)=[x]:=by
    rw [List.drop_take,show i - (i - 1)=1 by omega,List.drop_eq_getElem_cons (by simpa using hi),Array.getElem_toList,e]; rfl
  rw [this]; simp
theorem app_rev (o u:Array Keyed) (k i:Nat):(o++(u.extract k i).reverse).toList.reverse=(u.toList.take i).drop k++o.toList.reverse:=by
  rw [Array.toList_append,Array.toList_reverse,List.reverse_append,List.reverse_reverse,ext_part]
theorem oneHi_ok (L:LtOk prog w A E s a₀ κ key) {u v o:Array Keyed} {i j g ca cb:Nat} {st:SortSt} {Q:ForInStep Sh6→SortSt→Prop} (hk:kindOf st=κ) (P:Pre a₀ key u v) (M:HI key u v o i j) (hi:1≤i) (hj:2≤j)
    (hd:∀ z r,Res key u v z→Q (.done (some z,r)) st) (hn:∀ o' i' j' ca' cb',HI key u v o' i' j'→1≤i'→2≤j'→o.size < o'.size→Q (.done (none,i',j',o',ca',cb')) st∧Q (.yield (none,i',j',o',ca',cb')) st) :
    wpS (model prog w) A E s (oneHi u v g (none,i,j,o,ca,cb)) Q st:=by
  unfold oneHi;have b1:=M.hi;have b2:=M.hj;have e1:v[j - 1]? = some v[j - 1]:=Array.getElem?_eq_getElem (by omega);have e2:u[i - 1]? = some u[i - 1]:=Array.getElem?_eq_getElem (by omega);dsimp only;refine wpS_bind (el_ok e1 (wpS_bind (el_ok e2 (wpS_bind (lt_ok L hk (P.mv _ (at_mem e1)) (P.mu _ (at_mem e2)) ?_)))));dsimp only;have ml:=M.len;by_cases c:key v[j - 1] < key u[i - 1]
  · rw [if_pos (decide_eq_true c)];refine wpS_bind (el_ok e2 ?_);have M':HI key u v (o.push u[i - 1]) (i - 1) j:=M.takeA (push_rev o u hi e2) (by omega) fun x hx y hy=>by
      obtain ⟨r,r1,r2,r3⟩:=of_head hx;obtain ⟨t,t1,t2,t3,t4⟩:=of_part hy;have et:t=i - 1:=by omega
      rw [et,e2] at t4;have ex:=Option.some.inj t4
      have:=P.sv r (j - 1) (Nat.zero_le _) (by omega) (by omega)
      rw [kat_some e1,kat_some r3] at this;rw [← ex]; omega
    have ml':=M'.len;by_cases e:i - 1=0
    · rw [if_pos (by simpa using e)];exact wpS_pure (hd _ _ (fih1_ok M' (.inl e)))
    · rw [if_neg (by simpa using e)];obtain ⟨q1,q2⟩:=hn _ (i - 1) j (ca + 1) 0 M' (by omega) hj (by omega)
      split
      · exact wpS_pure q1
      · exact wpS_pure q2
  · rw [if_neg (by simpa using c)];refine wpS_bind (el_ok e1 ?_);have M':HI key u v (o.push v[j - 1]) i (j - 1):=M.takeB (push_rev o v (by omega) e1) (by omega) fun x hx y hy=>by
      obtain ⟨r,r1,r2,r3⟩:=of_head hx;obtain ⟨t,t1,t2,t3,t4⟩:=of_part hy;have et:t=j - 1:=by omega
      rw [et,e1] at t4;have ex:=Option.some.inj t4
      have:=P.su r (i - 1) (Nat.zero_le _) (by omega) (by omega)
      rw [kat_some e2,kat_some r3] at this;rw [← ex]; omega
    have ml':=M'.len;by_cases e:j - 1=1
    · rw [if_pos (by simpa using e)];exact wpS_pure (hd _ _ (fih2_ok M' (P.firstB e)))
    · rw [if_neg (by simpa using e)];obtain ⟨q1,q2⟩:=hn _ i (j - 1) 0 (cb + 1) M' hi (by omega) (by omega)
      split
      · exact wpS_pure q1
      · exact wpS_pure q2
theorem ghEnd_ok {u v o:Array Keyed} {i j g ca cb n:Nat} {st:SortSt} {Q:ForInStep Sh7→SortSt→Prop} (P:Pre a₀ key u v) (M:HI key u v o i j) (hi:1≤i) (hj:2≤j) (hx:∀ y∈v.toList.take j,key y≤kat key u (i - 1)) (hs:n≤o.size)
    (hd:∀ z r,Res key u v z→Q (.done (some z,r)) st) (hn:∀ o' i' j' g' ca' cb',HI key u v o' i' j'→1≤i'→2≤j'→n < o'.size→Q (.done (none,i',j',o',g',ca',cb')) st∧Q (.yield (none,i',j',o',g',ca',cb')) st) :
    wpS (model prog w) A E s (ghEnd u v o i j g ca cb) Q st:=by
  unfold ghEnd;have b1:=M.hi;have e2:u[i - 1]? = some u[i - 1]:=Array.getElem?_eq_getElem (by omega);refine wpS_bind (el_ok e2 ?_);have ml:=M.len;have M':HI key u v (o.push u[i - 1]) (i - 1) j:=M.takeA (push_rev o u hi e2) (by omega) fun x hx' y hy=>by
    obtain ⟨t,t1,t2,t3,t4⟩:=of_part hy;have et:t=i - 1:=by omega
    rw [et,e2] at t4;have ex:=Option.some.inj t4
    have:=hx x hx'
    rw [kat_some e2] at this;rw [← ex]; exact this
  have ml':=M'.len;by_cases e:i - 1=0
  · rw [if_pos (by simpa using e)];exact wpS_pure (hd _ _ (fih1_ok M' (.inl e)))
  · rw [if_neg (by simpa using e)];obtain ⟨q1,q2⟩:=hn _ (i - 1) j g ca cb M' (by omega) hj (by omega)
    split
    · exact wpS_pure q1
    · exact wpS_pure q2
theorem ghMid_ok (L:LtOk prog w A E s a₀ κ key) {u v o:Array Keyed} {i j g ca cb n:Nat} {st:SortSt} {Q:ForInStep Sh7→SortSt→Prop} (hk:kindOf st=κ) (P:Pre a₀ key u v) (M:HI key u v o i j) (hi:1≤i) (hj:2≤j) (hx:∀ y∈u.toList.take i,key y≤kat key v (j - 1)) (hs:n≤o.size)
    (hd:∀ z r,Res key u v z→Q (.done (some z,r)) st) (hn:∀ o' i' j' g' ca' cb',HI key u v o' i' j'→1≤i'→2≤j'→n < o'.size→Q (.done (none,i',j',o',g',ca',cb')) st∧Q (.yield (none,i',j',o',g',ca',cb')) st) :
    wpS (model prog w) A E s (ghMid u v o i j g ca cb) Q st:=by
  unfold ghMid;have b1:=M.hi;have b2:=M.hj;have e1:v[j - 1]? = some v[j - 1]:=Array.getElem?_eq_getElem (by omega);have e2:u[i - 1]? = some u[i - 1]:=Array.getElem?_eq_getElem (by omega);refine wpS_bind (el_ok e1 ?_);have ml:=M.len;have M':HI key u v (o.push v[j - 1]) i (j - 1):=M.takeB (push_rev o v (by omega) e1) (by omega) fun x hx' y hy=>by
    obtain ⟨t,t1,t2,t3,t4⟩:=of_part hy;have et:t=j - 1:=by omega
    rw [et,e1] at t4;have ex:=Option.some.inj t4
    have:=hx x hx'
    rw [kat_some e1] at this;rw [← ex]; exact this
  have ml':=M'.len;by_cases e:j - 1=1
  · rw [if_pos (by simpa using e)];exact wpS_pure (hd _ _ (fih2_ok M' (P.firstB e)))
  · rw [if_neg (by simpa using e)];refine wpS_bind (el_ok e2 (wpS_bind (gallop_ok L hk (P.mu _ (at_mem e2)) P.mv (by omega) (by omega) (seg_sub P.sv (by omega) (by omega)) fun k k1 k2 k3 => ?_)));dsimp only;have lo:∀ t,t < k→kat key v t < key u[i - 1]:=fun t t1=>by
      have:=k2 t t1
      unfold isPast at this;rw [if_pos rfl,Nat.zero_add] at this;exact of_decide_eq_true this
    have up:∀ t,k≤t→t < j - 1→key u[i - 1]≤kat key v t:=fun t t1 t2=>by
      have:=k3 t t1 t2
      unfold isPast at this;rw [if_pos rfl,Nat.zero_add] at this
      have:=of_decide_eq_false this
      omega
    have endx:∀ y∈v.toList.take k,key y≤kat key u (i - 1):=fun y hy=>by
      obtain ⟨r,r1,r2,r3⟩:=of_head hy
      have:=lo r r1
      rw [kat_some r3] at this;rw [kat_some e2]; omega
    by_cases hk0:j - 1 - k > 0
    · rw [if_pos hk0];have M2:HI key u v (o.push v[j - 1]++(v.extract k (j - 1)).reverse) i k:=M'.takeB (app_rev _ v k (j - 1)) (by omega) fun x hx' y hy=>by
        obtain ⟨r,r1,r2,r3⟩:=of_head hx';obtain ⟨t,t1,t2,t3,t4⟩:=of_part hy;have a1:=up t t1 t2;have a2:=P.su r (i - 1) (Nat.zero_le _) (by omega) (by omega);rw [kat_some t4] at a1;rw [kat_some e2,kat_some r3] at a2;omega
      have ml2:=M2.len;by_cases e3:k=1
      · rw [if_pos (by simpa using e3)];exact wpS_pure (hd _ _ (fih2_ok M2 (P.firstB e3)))
      · rw [if_neg (by simpa using e3)];by_cases e4:k=0
        · rw [if_pos (by simpa using e4)];exact wpS_pure (hd _ _ (fih1_ok M2 (.inr e4)))
        · rw [if_neg (by simpa using e4)];exact ghEnd_ok P M2 hi (by omega) endx (by omega) hd hn
    · rw [if_neg hk0];have k0:k=j - 1:=by omega
      subst k0;exact ghEnd_ok P M' hi (by omega) endx (by omega) hd hn
theorem ghTop_ok (L:LtOk prog w A E s a₀ κ key) {u v o:Array Keyed} {i j g ca cb:Nat} {st:SortSt} {Q:ForInStep Sh7→SortSt→Prop} (hk:kindOf st=κ) (P:Pre a₀ key u v) (M:HI key u v o i j) (hi:1≤i) (hj:2≤j)
    (hd:∀ z r,Res key u v z→Q (.done (some z,r)) (setGal st g)) (hn:∀ o' i' j' g' ca' cb',HI key u v o' i' j'→1≤i'→2≤j'→o.size < o'.size→Q (.done (none,i',j',o',g',ca',cb')) (setGal st g)∧Q (.yield (none,i',j',o',g',ca',cb')) (setGal st g)) :
    wpS (model prog w) A E s (ghTop u v o i j g ca cb) Q st:=by
  unfold ghTop;have b1:=M.hi;have b2:=M.hj;have e1:v[j - 1]? = some v[j - 1]:=Array.getElem?_eq_getElem (by omega);refine wpS_bind (wpS_modify (wpS_bind (el_ok e1 (wpS_bind (gallop_ok L hk (P.mv _ (at_mem e1)) P.mu (by omega) (by omega) (seg_sub P.su (by omega) (by omega)) fun k k1 k2 k3 => ?_)))));dsimp only;have ml:=M.len;have lo:∀ t,t < k→kat key u t≤key v[j - 1]:=fun t t1=>by
    have:=k2 t t1
    unfold isPast at this;rw [if_neg (by decide),Nat.zero_add] at this
    have:¬ key v[j - 1] < kat key u t:=by simpa using this
    omega
  have up:∀ t,k≤t→t < i→key v[j - 1] < kat key u t:=fun t t1 t2=>by
    have:=k3 t t1 t2
    unfold isPast at this;rw [if_neg (by decide),Nat.zero_add] at this
    have:key v[j - 1] < kat key u t:=by simpa using this
    exact this
  have midx:∀ y∈u.toList.take k,key y≤kat key v (j - 1):=fun y hy=>by
    obtain ⟨r,r1,r2,r3⟩:=of_head hy
    have:=lo r r1
    rw [kat_some r3] at this;rw [kat_some e1]; omega
  by_cases hk0:i - k > 0
  · rw [if_pos hk0];have M2:HI key u v (o++(u.extract k i).reverse) k j:=M.takeA (app_rev _ u k i) (by omega) fun x hx' y hy=>by
      obtain ⟨r,r1,r2,r3⟩:=of_head hx';obtain ⟨t,t1,t2,t3,t4⟩:=of_part hy;have a1:=up t t1 t2;have a2:=P.sv r (j - 1) (Nat.zero_le _) (by omega) (by omega);rw [kat_some t4] at a1;rw [kat_some e1,kat_some r3] at a2;omega
    have ml2:=M2.len;by_cases e3:k=0
    · rw [if_pos (by simpa using e3)];exact wpS_pure (hd _ _ (fih1_ok M2 (.inl e3)))
    · rw [if_neg (by simpa using e3)];exact ghMid_ok L (st:=setGal st g) hk P M2 (by omega) hj midx (by omega) hd hn
  · rw [if_neg hk0];have k0:k=i:=by omega
    subst k0;exact ghMid_ok L (st:=setGal st g) hk P M hi hj midx (by omega) hd hn
theorem roundHi_ok (L:LtOk prog w A E s a₀ κ key) {u v o:Array Keyed} {i j g:Nat} {st:SortSt} {Q:ForInStep Sh5→SortSt→Prop} (hk:kindOf st=κ) (P:Pre a₀ key u v) (M:HI key u v o i j) (hi:1≤i) (hj:2≤j)
    (hd:∀ z r g',Res key u v z→Q (.done (some z,r)) (setGal st g')) (hn:∀ o' i' j' g' g'',HI key u v o' i' j'→1≤i'→2≤j'→o.size < o'.size→Q (.yield (none,i',j',o',g')) (setGal st g'')) :
    wpS (model prog w) A E s (roundHi u v (none,i,j,o,g)) Q st:=by
  unfold roundHi;have ml:=M.len;refine wpS_bind (wpS_mono (wpS_forRange (I:=fun t c st'=>st'=st∧∃ o' i' j' ca cb,c=(none,i',j',o',ca,cb)∧HI key u v o' i' j'∧1≤i'∧2≤j'∧o.size + t≤o'.size)
    (Q:=fun c st'=>st'=st∧((∃ z r,c=(some z,r)∧Res key u v z)∨∃ o' i' j' ca cb,c=(none,i',j',o',ca,cb)∧HI key u v o' i' j'∧1≤i'∧2≤j'∧o.size < o'.size)) ?step ?fin ⟨rfl,o,i,j,0,0,rfl,M,hi,hj,by omega⟩) ?post)
  case fin =>
    rintro c st' ⟨rfl,o',i',j',ca,cb,rfl,M',h1,h2,h3⟩
    have:=M'.len
    omega
  case step =>
    rintro t c st' _ ht ⟨rfl,o',i',j',ca,cb,rfl,M',h1,h2,h3⟩;exact oneHi_ok L hk P M' h1 h2 (fun z r hz=>⟨rfl,.inl ⟨z,r,rfl,hz⟩⟩) fun o2 i2 j2 ca2 cb2 M2 g1 g2 g3=>⟨⟨rfl,.inr ⟨o2,i2,j2,ca2,cb2,rfl,M2,g1,g2,by omega⟩⟩,rfl,o2,i2,j2,ca2,cb2,rfl,M2,g1,g2,by omega⟩
  case post =>
    rintro c st' ⟨rfl,h⟩;rcases h with ⟨z,r,rfl,hz⟩ | ⟨o',i',j',ca,cb,rfl,M',h1,h2,h3⟩
    · exact wpS_pure (hd z _ (gallopOf st') hz)
    · dsimp only;refine wpS_bind (wpS_lift (wpAny_rule ⟨rfl,?_⟩));refine wpS_bind (wpS_mono (wpS_forRange (I:=fun t c st''=>∃ g',st''=setGal st' g'∧∃ o2 i2 j2 g2 ca cb,c=(none,i2,j2,o2,g2,ca,cb)∧HI key u v o2 i2 j2∧1≤i2∧2≤j2∧o'.size + t≤o2.size)
        (Q:=fun c st''=>∃ g',st''=setGal st' g'∧((∃ z r,c=(some z,r)∧Res key u v z)∨∃ o2 i2 j2 g2 ca cb,c=(none,i2,j2,o2,g2,ca,cb)∧HI key u v o2 i2 j2∧1≤i2∧2≤j2∧o.size < o2.size)) ?gstep ?gfin ⟨gallopOf st',rfl,o',i',j',g + 1,ca,cb,rfl,M',h1,h2,by omega⟩) ?gpost)
      case gfin =>
        rintro c st'' ⟨g',rfl,o2,i2,j2,g2,ca,cb,rfl,M2,q1,q2,q3⟩
        have:=M2.len
        have:=M'.len
        omega
      case gstep =>
        rintro t c st'' _ ht ⟨g',rfl,o2,i2,j2,g2,ca,cb,rfl,M2,q1,q2,q3⟩;show wpS _ _ _ _ (ghStep u v (none,i2,j2,o2,g2,ca,cb)) _ _;unfold ghStep;dsimp only
        split
        · exact ghTop_ok L (st:=setGal st' g') hk P M2 q1 q2 (fun z r hz=>⟨_,rfl,.inl ⟨z,r,rfl,hz⟩⟩) fun o3 i3 j3 g3 ca3 cb3 M3 k1 k2 k3=>⟨⟨_,rfl,.inr ⟨o3,i3,j3,g3,ca3,cb3,rfl,M3,k1,k2,by omega⟩⟩,_,rfl,o3,i3,j3,g3,ca3,cb3,rfl,M3,k1,k2,by omega⟩
        · exact ghTop_ok L (st:=setGal st' g') hk P M2 q1 q2 (fun z r hz=>⟨_,rfl,.inl ⟨z,r,rfl,hz⟩⟩) fun o3 i3 j3 g3 ca3 cb3 M3 k1 k2 k3=>⟨⟨_,rfl,.inr ⟨o3,i3,j3,g3,ca3,cb3,rfl,M3,k1,k2,by omega⟩⟩,_,rfl,o3,i3,j3,g3,ca3,cb3,rfl,M3,k1,k2,by omega⟩
      case gpost =>
        rintro c st'' ⟨g',rfl,h⟩;rcases h with ⟨z,r,rfl,hz⟩ | ⟨o2,i2,j2,g2,ca,cb,rfl,M2,q1,q2,q3⟩
        · exact wpS_pure (hd z _ g' hz)
        · dsimp only;exact wpS_bind (wpS_modify (wpS_pure (hn o2 i2 j2 _ _ M2 q1 q2 q3)))
theorem hi_ok (L:LtOk prog w A E s a₀ κ key) {u v:Array Keyed} {st:SortSt} {Q:Array Keyed→SortSt→Prop} (hk:kindOf st=κ) (P:Pre a₀ key u v) (hd:∀ z g',Res key u v z→Q z (setGal st g')):wpS (model prog w) A E s (hiP u v) Q st:=by
  rw [hiP_eq];refine wpS_bind (wpS_lift (wpAny_rule ⟨rfl,?_⟩));have hu:=P.hu;have hv:=P.hv;have e2:u[u.size - 1]? = some u[u.size - 1]:=Array.getElem?_eq_getElem (by omega);refine wpS_bind (el_ok e2 ?_);have tu:u.toList.take u.size=u.toList:=List.take_of_length_le (by simp);have tv:v.toList.take v.size=v.toList:=List.take_of_length_le (by simp);have M0:HI key u v #[] u.size v.size:=⟨by rw [tu,tv]; simp,by rw [tu]; simpa using srt_seg.mpr P.su,by rw [tv]; simpa using srt_seg.mpr P.sv,Nat.le_refl _,Nat.le_refl _⟩;have M:HI key u v #[u[u.size - 1]] (u.size - 1) v.size:=M0.takeA (by have:=push_rev #[] u (by omega) e2; simpa using this) (by omega) fun x hx y hy=>by
    obtain ⟨r,r1,r2,r3⟩:=of_head hx;obtain ⟨t,t1,t2,t3,t4⟩:=of_part hy;have et:t=u.size - 1:=by omega
    rw [et] at t4;have a1:=P.sv r (v.size - 1) (Nat.zero_le _) (by omega) (by omega);have a2:=P.last;rw [kat_some t4] at a2;rw [kat_some r3] at a1;omega
  by_cases c1:u.size - 1=0
  · rw [if_pos (by simpa using c1)];exact wpS_pure (hd _ (gallopOf st) (fih1_ok M (.inl c1)))
  · rw [if_neg (by simpa using c1)];by_cases c2:v.size=1
    · rw [if_pos (by simpa using c2)];exact wpS_pure (hd _ (gallopOf st) (fih2_ok M (P.firstB c2)))
    · rw [if_neg (by simpa using c2)];refine wpS_bind (wpS_get ?_);refine wpS_bind (wpS_mono (wpS_forRange (I:=fun t c st'=>∃ g',st'=setGal st g'∧∃ o i j g,c=(none,i,j,o,g)∧HI key u v o i j∧1≤i∧2≤j∧t < o.size)
        (Q:=fun c st'=>∃ g',st'=setGal st g'∧∃ z r,c=(some z,r)∧Res key u v z) ?step ?fin ⟨gallopOf st,rfl,#[u[u.size - 1]],u.size - 1,v.size,_,rfl,M,by omega,by omega,by simp⟩) ?post)
      case fin =>
        rintro c st' ⟨g',rfl,o,i,j,g,rfl,M',h1,h2,h3⟩
        have:=M'.len
        omega
      case step =>
        rintro t c st' _ ht ⟨g',rfl,o,i,j,g,rfl,M',h1,h2,h3⟩;exact roundHi_ok L (st:=setGal st g') hk P M' h1 h2 (fun z r g2 hz=>⟨g2,rfl,z,r,rfl,hz⟩) fun o2 i2 j2 g2 g3 M2 q1 q2 q3=>⟨g3,rfl,o2,i2,j2,g2,rfl,M2,q1,q2,by omega⟩
      case post =>
        rintro c st' ⟨g',rfl,z,r,rfl,hz⟩;exact wpS_pure (hd z g' hz)
end
end Tim

namespace Tim
open PySem PyProof.Rows
section
variable {prog:Program} {w:World} {A:Around} {E:Value→Shared→Prop} {s:Shared} {a₀:Array Keyed} {κ:SortKind} {key:Keyed→Int}

abbrev Sa:=Option (Option Nat) × Nat
abbrev Sd:=Option (Option Nat) × Nat × Nat
def riseL (lo a n:Nat):StateT SortSt Sem Sa :=
  forIn [a:n] ((none,a):Sa) fun _ r=>do
    let z ← ltAt' (lo + r.2) (lo + r.2 - 1)
    match z with
    | some less=>if less=true then pure (.done (none,r.2)) else pure (.yield (none,r.2 + 1))
    | _=>pure (.done (some none,r.2))
def fallL (lo a n:Nat):StateT SortSt Sem Sd :=
  forIn [a:n] ((none,a,0):Sd) fun _ r=>do
    let z ← ltAt' (lo + r.2.1) (lo + r.2.1 - 1)
    match z with
    | some less =>
      if less=true then
        if r.2.2 > 0 then do
          reverseSlice' (lo + r.2.1 - (r.2.2 + 1)) (lo + r.2.1)
          pure (.yield (none,r.2.1 + 1,0))
        else pure (.yield (none,r.2.1 + 1,0))
      else do
        let y ← ltAt' (lo + r.2.1 - 1) (lo + r.2.1)
        match y with
        | some more=>if more=true then pure (.done (none,r.2.1,r.2.2)) else pure (.yield (none,r.2.1 + 1,r.2.2 + 1))
        | _=>pure (.done (some none,r.2.1,r.2.2))
    | _=>pure (.done (some none,r.2.1,r.2.2))
def riseEnd (lo m n:Nat):StateT SortSt Sem (Option Nat):=do
  reverseSlice' lo (lo + m)
  let r ← riseL lo m n
  match r.1 with
  | some v=>pure v
  | none=>pure (some r.2)
def fallPart (lo m n:Nat):StateT SortSt Sem (Option Nat):=do
  liftM (rule "list.sort.descending-run")
  let r ← fallL lo (m + 1) n
  match r.1 with
  | some v=>pure v
  | none =>
    if r.2.2 > 0 then do
      reverseSlice' (lo + r.2.1 - (r.2.2 + 1)) (lo + r.2.1)
      riseEnd lo r.2.1 n
    else riseEnd lo r.2.1 n
theorem run_eq (lo n:Nat):countRun' lo n=(do
    let r ← riseL lo 1 n
    match r.1 with
    | some v=>pure v
    | none =>
      if (r.2 == n)=true then pure (some r.2)
      else if r.2 > 1 then do
        let z ← ltAt' lo (lo + r.2 - 1)
        match z with
        | some up=>if up=true then pure (some r.2) else do
            reverseSlice' lo (lo + r.2)
            fallPart lo r.2 n
        | _=>pure none
      else fallPart lo r.2 n):=by
  kernel_rfl
def Fal (key:Keyed→Int) (xs:Array Keyed) (lo hi:Nat):Prop:=∀ i j,lo≤i→i≤j→j < hi→kat key xs j≤kat key xs i

def Off (xs ys:Array Keyed) (lo hi:Nat):Prop:=∀ t,(t < lo∨hi≤t)→ys[t]? = xs[t]?
theorem Off.refl (xs:Array Keyed) (lo hi:Nat):Off xs xs lo hi:=fun _ _=>rfl
theorem Off.trans {xs ys zs:Array Keyed} {lo hi:Nat} (h:Off xs ys lo hi) (g:Off ys zs lo hi):Off xs zs lo hi:=fun t ht=>(g t ht).trans (h t ht)
theorem kat_mir {xs:Array Keyed} {i j:Nat} (hj:j≤xs.size) (k:Nat):kat key (mirror xs i j ((j - i) / 2)) k=if i≤k∧k < j then kat key xs (i + j - 1 - k) else kat key xs k:=by
  have e:=getElem?_mirror_all (i:=i) hj k;by_cases h1:i≤k∧k < j
  · rw [if_pos h1] at e ⊢; exact kat_of e
  · rw [if_neg h1] at e ⊢; exact kat_of e
theorem off_mir {xs:Array Keyed} {i j lo hi:Nat} (hj:j≤xs.size) (h1:lo≤i) (h2:j≤hi):Off xs (mirror xs i j ((j - i) / 2)) lo hi:=fun t ht=>by
  rw [getElem?_mirror_all hj,if_neg (by omega)]
theorem kat_mir_same {xs:Array Keyed} {i j:Nat} (hj:j≤xs.size) (he:∀ k,i≤k→k < j→kat key xs k=kat key xs (j - 1)) (k:Nat):kat key (mirror xs i j ((j - i) / 2)) k=kat key xs k:=by
  rw [kat_mir hj]
  split
  · rw [he _ (by omega) (by omega),he k (by omega) (by omega)]
  · rfl
theorem rev_ok {st:SortSt} {i j:Nat} {Q:Unit→SortSt→Prop} (h:Q () (setArr st (mirror (arrOf st) i j ((j - i) / 2)))):wpS (model prog w) A E s (reverseSlice' i j) Q st:=by
  rw [reverseSlice'_eq]; exact wpS_modify h
theorem rise_ok (L:LtOk prog w A E s a₀ κ key) {lo a n:Nat} {st:SortSt} {Q:Sa→SortSt→Prop} (hB:SB a₀ κ st) (hz:lo + n≤a₀.size) (h1:1≤a) (han:a≤n) (hs:Seg key (arrOf st) lo (lo + a))
    (h:∀ m,a≤m→m≤n→Seg key (arrOf st) lo (lo + m)→(m=n∨kat key (arrOf st) (lo + m) < kat key (arrOf st) (lo + m - 1))→Q (none,m) st):wpS (model prog w) A E s (riseL lo a n) Q st:=by
  unfold riseL;refine wpS_forRange (I:=fun t c st'=>st'=st∧c=(none,t)∧Seg key (arrOf st) lo (lo + t)) ?step ?fin ⟨rfl,rfl,hs⟩
  case fin =>
    rintro c st' ⟨rfl,rfl,hs'⟩;rw [show max a n=n by omega] at hs' ⊢;exact h n han (Nat.le_refl _) hs' (.inl rfl)
  case step =>
    rintro t c st' ht htn ⟨rfl,rfl,hs'⟩;refine wpS_bind (ltAt_ok L hB (by dsimp only; omega) (by dsimp only; omega) ?_);dsimp only;by_cases e:kat key (arrOf st') (lo + t) < kat key (arrOf st') (lo + t - 1)
    · rw [if_pos (decide_eq_true e)];exact wpS_pure (h t ht (by omega) hs' (.inr e))
    · rw [if_neg (by simpa using e)];refine wpS_pure ⟨rfl,rfl,fun i j x y z => ?_⟩;by_cases q:j < lo + t
      · exact hs' i j x y q
      · have ej:j=lo + t:=by omega
        subst ej;by_cases q2:i=lo + t
        · rw [q2]; exact Int.le_refl _
        · have:=hs' i (lo + t - 1) x (by omega) (by omega)
          omega
theorem riseEnd_ok (L:LtOk prog w A E s a₀ κ key) {lo m n:Nat} {st:SortSt} {Q:Option Nat→SortSt→Prop} (hB:SB a₀ κ st) (hz:lo + n≤a₀.size) (h1:1≤m) (hmn:m≤n) (hs:Fal key (arrOf st) lo (lo + m))
    (h:∀ k xs,1≤k→k≤n→xs.Perm (arrOf st)→Off (arrOf st) xs lo (lo + n)→Seg key xs lo (lo + k)→Q (some k) (setArr st xs)):wpS (model prog w) A E s (riseEnd lo m n) Q st:=by
  unfold riseEnd;have hsz:lo + m≤(arrOf st).size:=by rw [hB.size]; omega
  refine wpS_bind (rev_ok ?_);have hp:(mirror (arrOf st) lo (lo + m) ((lo + m - lo) / 2)).Perm (arrOf st):=mirror_perm _ _ _ _;have hB':=hB.set hp;refine wpS_bind (rise_ok L hB' hz h1 hmn (fun i j x y z => ?_) fun k k1 k2 k3 _=>wpS_pure (h k _ (by omega) k2 hp (off_mir hsz (by omega) (by omega)) k3));show kat key (mirror (arrOf st) lo (lo + m) ((lo + m - lo) / 2)) i≤kat key (mirror (arrOf st) lo (lo + m) ((lo + m - lo) / 2)) j;rw [kat_mir hsz,kat_mir hsz,if_pos (by omega),if_pos (by omega)];exact hs _ _ (by omega) (by omega) (by omega)
theorem fall_ok (L:LtOk prog w A E s a₀ κ key) {lo a n:Nat} {st:SortSt} {Q:Sd→SortSt→Prop} (hB:SB a₀ κ st) (hz:lo + n≤a₀.size) (h1:1≤a) (han:a≤n) (hs:Fal key (arrOf st) lo (lo + a))
    (h:∀ m q xs,a≤m→m≤n→xs.Perm (arrOf st)→Off (arrOf st) xs lo (lo + n)→Fal key xs lo (lo + m)→q + 1≤m→(∀ i,lo + m - (q + 1)≤i→i < lo + m→kat key xs i=kat key xs (lo + m - 1))→Q (none,m,q) (setArr st xs)):wpS (model prog w) A E s (fallL lo a n) Q st:=by
  unfold fallL;refine wpS_forRange (I:=fun t c st'=>∃ q xs,st'=setArr st xs∧c=(none,t,q)∧xs.Perm (arrOf st)∧Off (arrOf st) xs lo (lo + n)∧Fal key xs lo (lo + t)∧q + 1≤t∧∀ i,lo + t - (q + 1)≤i→i < lo + t→kat key xs i=kat key xs (lo + t - 1)) ?step ?fin
    ⟨0,arrOf st,rfl,rfl,Array.Perm.refl _,Off.refl _ _ _,hs,by omega,fun i x y=>by congr 1; omega⟩
  case fin =>
    rintro c st' ⟨q,xs,rfl,rfl,hp,ho,hf,hq,he⟩;rw [show max a n=n by omega] at hf hq he ⊢;exact h n q xs han (Nat.le_refl _) hp ho hf hq he
  case step =>
    rintro t c st' ht htn ⟨q,xs,rfl,rfl,hp,ho,hf,hq,he⟩;have hB':=hB.set hp;have hsz:lo + t≤xs.size:=by rw [hp.size_eq,hB.size]; omega
    refine wpS_bind (ltAt_ok L hB' (by dsimp only; omega) (by dsimp only; omega) ?_);dsimp only;show wpS _ _ _ _ (if decide (kat key xs (lo + t) < kat key xs (lo + t - 1))=true then _ else _) _ _;by_cases e:kat key xs (lo + t) < kat key xs (lo + t - 1)
    · rw [if_pos (decide_eq_true e)];have step1:∀ ys:Array Keyed,(∀ k,kat key ys k=kat key xs k)→Fal key ys lo (lo + (t + 1)):=by
        intro ys hk i j x y z;rw [hk,hk];by_cases r:j < lo + t
        · exact hf i j x y r
        · have ej:j=lo + t:=by omega
          subst ej;by_cases q2:i=lo + t
          · rw [q2]; exact Int.le_refl _
          · have:=hf i (lo + t - 1) x (by omega) (by omega)
            omega
      by_cases hq0:q > 0
      · rw [if_pos hq0];refine wpS_bind (rev_ok (wpS_pure ⟨0,mirror xs (lo + t - (q + 1)) (lo + t) ((lo + t - (lo + t - (q + 1))) / 2),rfl,rfl,(mirror_perm _ _ _ _).trans hp,ho.trans (off_mir hsz (by omega) (by omega)),step1 _ (kat_mir_same hsz he),by omega,fun i x y=>by congr 1; omega⟩))
      · rw [if_neg hq0];exact wpS_pure ⟨0,xs,rfl,rfl,hp,ho,step1 _ (fun _=>rfl),by omega,fun i x y=>by congr 1; omega⟩
    · rw [if_neg (by simpa using e)];refine wpS_bind (ltAt_ok L hB' (by omega) (by omega) ?_);dsimp only;show wpS _ _ _ _ (if decide (kat key xs (lo + t - 1) < kat key xs (lo + t))=true then _ else _) _ _;by_cases e2:kat key xs (lo + t - 1) < kat key xs (lo + t)
      · rw [if_pos (decide_eq_true e2)];exact wpS_pure (h t q xs ht (by omega) hp ho hf hq he)
      · rw [if_neg (by simpa using e2)];have eq:kat key xs (lo + t)=kat key xs (lo + t - 1):=by omega
        refine wpS_pure ⟨q + 1,xs,rfl,rfl,hp,ho,fun i j x y z => ?_,by omega,fun i x y => ?_⟩
        · by_cases r:j < lo + t
          · exact hf i j x y r
          · have ej:j=lo + t:=by omega
            subst ej;by_cases q2:i=lo + t
            · rw [q2]; exact Int.le_refl _
            · rw [eq]; exact hf i (lo + t - 1) x (by omega) (by omega)
        · rw [show lo + (t + 1) - 1=lo + t by omega];by_cases q2:i=lo + t
          · rw [q2]
          · rw [eq]; exact he i (by omega) (by omega)
theorem fallPart_ok (L:LtOk prog w A E s a₀ κ key) {lo m n:Nat} {st:SortSt} {Q:Option Nat→SortSt→Prop} (hB:SB a₀ κ st) (hz:lo + n≤a₀.size) (hmn:m + 1≤n) (hs:Fal key (arrOf st) lo (lo + (m + 1)))
    (h:∀ k xs,1≤k→k≤n→xs.Perm (arrOf st)→Off (arrOf st) xs lo (lo + n)→Seg key xs lo (lo + k)→Q (some k) (setArr st xs)):wpS (model prog w) A E s (fallPart lo m n) Q st:=by
  unfold fallPart;refine wpS_bind (wpS_lift (wpAny_rule ⟨rfl,?_⟩));refine wpS_bind (fall_ok L hB hz (by omega) hmn hs fun k q xs k1 k2 hp ho hf hq he => ?_);dsimp only;have hsz:lo + k≤xs.size:=by rw [hp.size_eq,hB.size]; omega
  by_cases hq0:q > 0
  · rw [if_pos hq0];refine wpS_bind (rev_ok ?_);have hp2:(mirror xs (lo + k - (q + 1)) (lo + k) ((lo + k - (lo + k - (q + 1))) / 2)).Perm (arrOf st):=(mirror_perm _ _ _ _).trans hp;refine riseEnd_ok L (st:=setArr st (mirror xs (lo + k - (q + 1)) (lo + k) ((lo + k - (lo + k - (q + 1))) / 2))) (hB.set hp2) hz (by omega) k2 (fun i j x y z => ?_) fun r ys r1 r2 r3 r4 r5=>h r ys r1 r2 (r3.trans hp2) ((ho.trans (off_mir hsz (by omega) (by omega))).trans r4) r5;show kat key (mirror xs _ _ _) j≤kat key (mirror xs _ _ _) i;rw [kat_mir_same hsz he,kat_mir_same hsz he];exact hf i j x y z
  · rw [if_neg hq0];exact riseEnd_ok L (st:=setArr st xs) (hB.set hp) hz (by omega) k2 hf fun r ys r1 r2 r3 r4 r5=>h r ys r1 r2 (r3.trans hp) (ho.trans r4) r5
theorem run_ok (L:LtOk prog w A E s a₀ κ key) {lo n:Nat} {st:SortSt} {Q:Option Nat→SortSt→Prop} (hB:SB a₀ κ st) (hz:lo + n≤a₀.size) (h1:1≤n)
    (h:∀ k xs,1≤k→k≤n→xs.Perm (arrOf st)→Off (arrOf st) xs lo (lo + n)→Seg key xs lo (lo + k)→Q (some k) (setArr st xs)):wpS (model prog w) A E s (countRun' lo n) Q st:=by
  rw [run_eq];refine wpS_bind (rise_ok L hB hz (Nat.le_refl 1) h1 (fun i j x y z=>by rw [show i=j by omega]; exact Int.le_refl _) fun m m1 m2 hsm hor => ?_);dsimp only;by_cases e:m=n
  · rw [if_pos (by simpa using e)];exact wpS_pure (h m (arrOf st) m1 m2 (Array.Perm.refl _) (Off.refl _ _ _) hsm)
  · rw [if_neg (by simpa using e)];have lt:kat key (arrOf st) (lo + m) < kat key (arrOf st) (lo + m - 1):=hor.resolve_left e;by_cases g:m > 1
    · rw [if_pos g];refine wpS_bind (ltAt_ok L hB (by omega) (by omega) ?_);dsimp only;by_cases c:kat key (arrOf st) lo < kat key (arrOf st) (lo + m - 1)
      · rw [if_pos (decide_eq_true c)];exact wpS_pure (h m (arrOf st) m1 m2 (Array.Perm.refl _) (Off.refl _ _ _) hsm)
      · rw [if_neg (by simpa using c)];have hsz:lo + m≤(arrOf st).size:=by rw [hB.size]; omega
        have all:∀ k,lo≤k→k < lo + m→kat key (arrOf st) k=kat key (arrOf st) (lo + m - 1):=by
          intro k x y;have a1:=hsm lo k (Nat.le_refl _) x y;have a2:=hsm k (lo + m - 1) x (by omega) (by omega);omega
        refine wpS_bind (rev_ok ?_);have hp:(mirror (arrOf st) lo (lo + m) ((lo + m - lo) / 2)).Perm (arrOf st):=mirror_perm _ _ _ _;refine fallPart_ok L (hB.set hp) hz (by omega) (fun i j x y z => ?_) fun r ys r1 r2 r3 r4 r5=>h r ys r1 r2 (r3.trans hp) ((off_mir hsz (by omega) (by omega)).trans r4) r5;show kat key (mirror (arrOf st) _ _ _) j≤kat key (mirror (arrOf st) _ _ _) i;rw [kat_mir_same hsz all,kat_mir_same hsz all];by_cases q:j < lo + m
        · rw [all i x (by omega),all j (by omega) q]; exact Int.le_refl _
        · have ej:j=lo + m:=by omega
          subst ej;by_cases q2:i=lo + m
          · rw [q2]; exact Int.le_refl _
          · rw [all i x (by omega)]; omega
    · rw [if_neg g];have em:m=1:=by omega
      subst em;refine fallPart_ok L hB hz (by omega) (fun i j x y z => ?_) h;by_cases q:i=j
      · rw [q]; exact Int.le_refl _
      · have ei:i=lo:=by omega
        have ej:j=lo + 1:=by omega
        subst ei;subst ej
        have:i + 1 - 1=i:=by omega
        rw [this] at lt;omega
end
end Tim

namespace Tim
open PySem PyProof.Rows
section
variable {prog:Program} {w:World} {A:Around} {E:Value→Shared→Prop} {s:Shared} {a₀:Array Keyed} {κ:SortKind} {key:Keyed→Int}
theorem kat_bub {xs:Array Keyed} {src d:Nat} (hs:src < xs.size) (hd:d≤src) (k:Nat):kat key (bubble xs src d) k=if k=src - d then kat key xs src else if src - d < k∧k≤src then kat key xs (k - 1) else kat key xs k:=by
  have e:=getElem?_bubble hs d hd k;by_cases h1:k=src - d
  · rw [if_pos h1] at e ⊢; exact kat_of e
  · rw [if_neg h1] at e ⊢;by_cases h2:src - d < k∧k≤src
    · rw [if_pos h2] at e ⊢; exact kat_of e
    · rw [if_neg h2] at e ⊢; exact kat_of e
def findL (lo k:Nat):StateT SortSt Sem (Option Bool × Nat × Nat) :=
  forIn [0:k] ((none,0,k):Option Bool × Nat × Nat) fun _ r =>
    if r.2.1 ≥ r.2.2 then pure (.done (none,r.2.1,r.2.2)) else do
      let z ← ltAt' (lo + k) (lo + (r.2.1 + r.2.2) / 2)
      match z with
      | some less=>if less=true then pure (.yield (none,r.2.1,(r.2.1 + r.2.2) / 2)) else pure (.yield (none,(r.2.1 + r.2.2) / 2 + 1,r.2.2))
      | _=>pure (.done (some false,r.2.1,r.2.2))
def insL (lo n ok:Nat):StateT SortSt Sem (Option Bool × Unit) :=
  forIn [max ok 1:n] ((none,()):Option Bool × Unit) fun k _=>do
    let r ← findL lo k
    match r.1 with
    | some v=>pure (.done (some v,()))
    | none=>do
      moveDown' (lo + k) (lo + r.2.1)
      pure (.yield (none,()))
theorem ins_eq (lo n ok:Nat):binarySort' lo n ok=(do
    let r ← insL lo n ok
    match r.1 with
    | some v=>pure v
    | none=>pure true):=by kernel_rfl
theorem find_ok (L:LtOk prog w A E s a₀ κ key) {lo k:Nat} {st:SortSt} {Q:Option Bool × Nat × Nat→SortSt→Prop} (hB:SB a₀ κ st) (hz:lo + k < a₀.size) (hs:Seg key (arrOf st) lo (lo + k))
    (h:∀ l,l≤k→(∀ i,lo≤i→i < lo + l→kat key (arrOf st) i≤kat key (arrOf st) (lo + k))→(∀ i,lo + l≤i→i < lo + k→kat key (arrOf st) (lo + k) < kat key (arrOf st) i)→Q (none,l,l) st):wpS (model prog w) A E s (findL lo k) Q st:=by
  unfold findL;refine wpS_forRange (I:=fun t c st'=>st'=st∧∃ l r,c=(none,l,r)∧l≤r∧r≤k∧r - l≤k - t∧(∀ i,lo≤i→i < lo + l→kat key (arrOf st) i≤kat key (arrOf st) (lo + k))∧(∀ i,lo + r≤i→i < lo + k→kat key (arrOf st) (lo + k) < kat key (arrOf st) i)) ?step ?fin
    ⟨rfl,0,k,rfl,by omega,by omega,by omega,fun i x y=>by omega,fun i x y=>by omega⟩
  case fin =>
    rintro c st' ⟨rfl,l,r,rfl,h1,h2,h3,h4,h5⟩;have e:l=r:=by omega
    subst e;exact h l h2 h4 h5
  case step =>
    rintro t c st' _ ht ⟨rfl,l,r,rfl,h1,h2,h3,h4,h5⟩;dsimp only;by_cases e:l ≥ r
    · rw [if_pos e];have e':l=r:=by omega
      subst e';exact wpS_pure (h l h2 h4 h5)
    · rw [if_neg e];refine wpS_bind (ltAt_ok L hB hz (by omega) ?_);dsimp only;by_cases c:kat key (arrOf st') (lo + k) < kat key (arrOf st') (lo + (l + r) / 2)
      · rw [if_pos (decide_eq_true c)];refine wpS_pure ⟨rfl,_,_,rfl,by omega,by omega,by omega,h4,fun i x y => ?_⟩
        have:=hs (lo + (l + r) / 2) i (by omega) x y
        omega
      · rw [if_neg (by simpa using c)];refine wpS_pure ⟨rfl,_,_,rfl,by omega,by omega,by omega,fun i x y => ?_,h5⟩
        have:=hs i (lo + (l + r) / 2) x (by omega) (by omega)
        omega
theorem bub_seg {xs:Array Keyed} {lo p q:Nat} (h1:lo≤q) (h2:q≤p) (hks:p < xs.size) (hs:Seg key xs lo p) (h4:∀ i,lo≤i→i < q→kat key xs i≤kat key xs p) (h5:∀ i,q≤i→i < p→kat key xs p < kat key xs i):Seg key (bubble xs p (p - q)) lo (p + 1):=by
  intro i j x y z;rw [kat_bub hks (Nat.sub_le _ _),kat_bub hks (Nat.sub_le _ _),show p - (p - q)=q from Nat.sub_sub_self h2]
  clear hks
  repeat' split
  all_goals first
    | (exfalso; omega)
    | exact Int.le_refl _
    | exact h4 _ (by omega) (by omega)
    | exact Int.le_of_lt (h5 _ (by omega) (by omega))
    | exact hs _ _ (by omega) (by omega) (by omega)
theorem ins_ok (L:LtOk prog w A E s a₀ κ key) {lo n ok:Nat} {st:SortSt} {Q:Bool→SortSt→Prop} (hB:SB a₀ κ st) (hz:lo + n≤a₀.size) (hok:ok≤n) (hs:Seg key (arrOf st) lo (lo + ok))
    (h:∀ xs,xs.Perm (arrOf st)→Off (arrOf st) xs lo (lo + n)→Seg key xs lo (lo + n)→Q true (setArr st xs)):wpS (model prog w) A E s (binarySort' lo n ok) Q st:=by
  rw [ins_eq];unfold insL;refine wpS_bind (wpS_mono (wpS_forRange (I:=fun t c st'=>c=(none,())∧∃ xs,st'=setArr st xs∧xs.Perm (arrOf st)∧Off (arrOf st) xs lo (lo + n)∧Seg key xs lo (lo + min t n))
    (Q:=fun c st'=>c=(none,())∧∃ xs,st'=setArr st xs∧xs.Perm (arrOf st)∧Off (arrOf st) xs lo (lo + n)∧Seg key xs lo (lo + n)) ?step ?fin ?init) ?post)
  case post =>
    rintro c st' ⟨rfl,xs,rfl,hp,ho,hs'⟩;exact wpS_pure (h xs hp ho hs')
  case init =>
    refine ⟨rfl,arrOf st,rfl,Array.Perm.refl _,Off.refl _ _ _,fun i j x y z => ?_⟩;by_cases h1:ok=0
    · rw [show i=j by omega]; exact Int.le_refl _
    · exact hs i j x y (by omega)
  case fin =>
    rintro c st' ⟨rfl,xs,rfl,hp,ho,hs'⟩;refine ⟨rfl,xs,rfl,hp,ho,?_⟩
    rwa [show min (max (max ok 1) n) n=n by omega] at hs'
  case step =>
    rintro k c st' hk hkn ⟨rfl,xs,rfl,hp,ho,hs'⟩;rw [show min k n=k by omega] at hs';have hB':=hB.set hp;refine wpS_bind (find_ok L hB' (by omega) hs' fun l hl h4 h5 => ?_);dsimp only;rw [moveDown'_eq];refine wpS_bind (wpS_modify (wpS_pure ⟨rfl,bubble xs (lo + k) (lo + k - (lo + l)),rfl,(bubble_perm _ _ _).trans hp,?_,?_⟩))
    · have hks:lo + k < xs.size:=by rw [hp.size_eq,hB.size]; omega
      refine ho.trans fun t ht => ?_;rw [getElem?_bubble hks _ (by omega),if_neg (by omega),if_neg (by omega)]
    · rw [show min (k + 1) n=k + 1 by omega];have hks:lo + k < xs.size:=by rw [hp.size_eq,hB.size]; omega
      exact bub_seg (Nat.le_add_right _ _) (by omega) hks hs' h4 h5

def wback (xs:Array Keyed) (p:Nat) (z:List Keyed):Array Keyed:=z.zipIdx.foldl (fun a q=>a.setIfInBounds (p + q.2) q.1) xs
theorem wback_at (p:Nat):∀ (z:List Keyed) (n:Nat) (xs:Array Keyed),p + n + z.length≤xs.size→∀ t:Nat,((z.zipIdx n).foldl (fun a q=>a.setIfInBounds (p + q.2) q.1) xs)[t]? = if p + n≤t∧t < p + n + z.length then z[t - (p + n)]? else xs[t]?
  | [],n,xs,_,t=>by
    rw [if_neg (by simp)]; rfl
  | x::z,n,xs,h,t=>by
    rw [List.zipIdx_cons,List.foldl_cons];have hl:(x::z).length=z.length + 1:=rfl;rw [wback_at p z (n + 1) _ (by rw [Array.size_setIfInBounds]; omega) t];by_cases c:p + n≤t∧t < p + n + (x::z).length
    · rw [if_pos c];by_cases c2:t=p + n
      · rw [if_neg (by omega),c2]
        have:p + n < xs.size:=by omega
        simp [Array.getElem?_setIfInBounds,this]
      · rw [if_pos (by omega)];have e:t - (p + n)=t - (p + (n + 1)) + 1:=by omega
        rw [e,List.getElem?_cons_succ]
    · rw [if_neg c,if_neg (by omega),Array.getElem?_setIfInBounds]
      have:p + n≠t:=by omega
      simp [this]
theorem wback_get {xs:Array Keyed} {p:Nat} {z:List Keyed} (h:p + z.length≤xs.size) (t:Nat):(wback xs p z)[t]? = if p≤t∧t < p + z.length then z[t - p]? else xs[t]? := by
  have:=wback_at p z 0 xs (by omega) t
  simpa [wback] using this
theorem wback_list {xs:Array Keyed} {p:Nat} {z:List Keyed} (h:p + z.length≤xs.size):(wback xs p z).toList=xs.toList.take p++z++xs.toList.drop (p + z.length):=by
  refine List.ext_getElem? fun t => ?_;rw [Array.getElem?_toList,wback_get h];have lt:(xs.toList.take p).length=p:=by simp; omega
  by_cases c1:t < p
  · rw [if_neg (by omega),List.append_assoc,List.getElem?_append_left (by rw [lt]; exact c1),List.getElem?_take_of_lt c1,Array.getElem?_toList]
  · by_cases c2:t < p + z.length
    · rw [if_pos ⟨by omega,c2⟩,List.getElem?_append_left (by rw [List.length_append,lt]; omega),List.getElem?_append_right (by rw [lt]; omega),lt]
    · rw [if_neg (by omega),List.getElem?_append_right (by rw [List.length_append,lt]; omega),List.length_append,lt,List.getElem?_drop,Array.getElem?_toList]
      congr 1
      omega
abbrev setPen (st:SortSt) (p:Array (Nat × Nat × Nat)):SortSt:=SortSt.mk' (kindOf st) (arrOf st) p (gallopOf st) (failedOf st)
theorem join_eq (i:Nat):mergeAt' i=(do
    let st ← get
    match (pendingOf st)[i]?,(pendingOf st)[i + 1]? with
    | some (sa,na,pw),some (sb,nb,_)=>do
      set (setPen st (((pendingOf st).setIfInBounds i (sa,na + nb,pw)).eraseIdxIfInBounds (i + 1)))
      let y ← elem' (arrOf st) sb
      let z ← gallopP false y (arrOf st) sa na 0
      match z with
      | some k =>
        if (na - k == 0)=true then pure true else do
          let x ← elem' (arrOf st) (sa + k + (na - k) - 1)
          let r ← gallopP true x (arrOf st) sb nb (nb - 1)
          match r with
          | some m =>
            if (m == 0)=true then pure true else do
              let t ← if na - k≤m then loP ((arrOf st).extract (sa + k) sb) ((arrOf st).extract sb (sb + m)) else hiP ((arrOf st).extract (sa + k) sb) ((arrOf st).extract sb (sb + m))
              modify fun st=>setArr st (wback (arrOf st) (sa + k) t.toList)
              let st ← get
              pure (failedOf st).isNone
          | _=>pure false
      | _=>pure false
    | _,_=>liftM (unsupported "internal:list.sort.pending" : Sem Bool)):=by
  kernel_rfl
end
end Tim

namespace Tim
open PySem PyProof.Rows
section
variable {prog:Program} {w:World} {A:Around} {E:Value→Shared→Prop} {s:Shared} {a₀:Array Keyed} {κ:SortKind} {key:Keyed→Int}
abbrev Tri:=Nat × Nat × Nat
theorem pend_at {p:Array Tri} {l1 l2:List Tri} {a b:Tri} (h:p.toList=l1++a::b::l2):p[l1.length]? = some a∧p[l1.length + 1]? = some b:=by
  rw [← Array.getElem?_toList,← Array.getElem?_toList,h];constructor
  · rw [List.getElem?_append_right (Nat.le_refl _)]; simp
  · rw [List.getElem?_append_right (by omega)]; simp
theorem pend_new {p:Array Tri} {l1 l2:List Tri} {a b c:Tri} (h:p.toList=l1++a::b::l2):((p.setIfInBounds l1.length c).eraseIdxIfInBounds (l1.length + 1)).toList=l1++c::l2:=by
  have hs:p.size=l1.length + (l2.length + 2):=by rw [← Array.length_toList,h]; simp
  rw [Array.eraseIdxIfInBounds,dif_pos (by rw [Array.size_setIfInBounds]; omega),Array.toList_eraseIdx,Array.toList_setIfInBounds,h];rw [List.set_append_right _ _ (Nat.le_refl _),Nat.sub_self,List.set_cons_zero,List.eraseIdx_append_of_length_le (by omega)];simp
theorem kat_ext {xs:Array Keyed} {a b i:Nat} (hb:b≤xs.size) (hi:a + i < b):kat key (xs.extract a b) i=kat key xs (a + i):=by
  apply kat_of
  rw [Array.getElem?_extract];simp
  omega
theorem ext_size {xs:Array Keyed} {a b:Nat} (hb:b≤xs.size):(xs.extract a b).size=b - a:=by
  rw [Array.size_extract]; omega
theorem ext_sub {xs:Array Keyed} {a b:Nat} {y:Keyed} (h:y∈(xs.extract a b).toList):y∈xs.toList:=by
  rw [ext_part] at h;exact List.mem_of_mem_take (List.mem_of_mem_drop h)
theorem merged {xs z:Array Keyed} {lo p q r hi:Nat} (h1:lo≤p) (h2:p≤q) (h3:q≤r) (h4:r≤hi) (h5:hi≤xs.size) (R:Res key (xs.extract p q) (xs.extract q r) z) (s1:Seg key xs lo q) (s2:Seg key xs q hi)
    (lo1:∀ t,lo≤t→t < p→kat key xs t≤kat key xs q) (up2:∀ t,r≤t→t < hi→kat key xs (q - 1)≤kat key xs t):(wback xs p z.toList).Perm xs∧Off xs (wback xs p z.toList) lo hi∧Seg key (wback xs p z.toList) lo hi:=by
  obtain ⟨zp,zs⟩:=R;have zl:z.toList.length=r - p:=by
    have e:=zp.length_eq;simp only [List.length_append,Array.length_toList] at e ⊢;rw [ext_size (by omega),ext_size (by omega)] at e;omega
  have hfit:p + z.toList.length≤xs.size:=by omega
  have em:xs.toList=xs.toList.take p++((xs.extract p q).toList++(xs.extract q r).toList)++xs.toList.drop (p + z.toList.length):=by
    rw [ext_part,ext_part];have a1:(xs.toList.take q).drop p++(xs.toList.take r).drop q=(xs.toList.drop p).take z.toList.length:=by
      rw [List.drop_take,List.drop_take,show z.toList.length=(q - p) + (r - q) by omega,List.take_add,List.drop_drop,show p + (q - p)=q by omega]
    have a2:(xs.toList.drop p).take z.toList.length++xs.toList.drop (p + z.toList.length)=xs.toList.drop p:=by
      have:=List.take_append_drop z.toList.length (xs.toList.drop p)
      rwa [List.drop_drop] at this
    rw [a1,List.append_assoc,a2];exact (List.take_append_drop _ _).symm
  have zseg:Seg key z 0 z.size:=srt_seg.mp zs;have old:∀ t,(t < p∨r≤t)→kat key (wback xs p z.toList) t=kat key xs t:=fun t ht=>kat_of (by rw [wback_get hfit,if_neg (by omega)]);have kz:∀ t,p≤t→t < r→∃ x,x∈z.toList∧(wback xs p z.toList)[t]? = some x∧z[t - p]? = some x:=fun t t1 t2=>by
    have hlt:t - p < z.toList.length:=by omega
    refine ⟨z.toList[t - p],List.getElem_mem hlt,?_,?_⟩
    · rw [wback_get hfit,if_pos ⟨t1,by omega⟩]; exact List.getElem?_eq_getElem hlt
    · rw [← Array.getElem?_toList]; exact List.getElem?_eq_getElem hlt
  have from2:∀ x∈z.toList,∃ t,((p≤t∧t < q)∨(q≤t∧t < r))∧key x=kat key xs t:=fun x hx=>by
    rcases List.mem_append.mp (zp.mem_iff.mp hx) with hx | hx
    · rw [ext_part] at hx;obtain ⟨t,t1,t2,t3,t4⟩:=of_part hx;exact ⟨t,.inl ⟨t1,t2⟩,(kat_some t4).symm⟩
    · rw [ext_part] at hx;obtain ⟨t,t1,t2,t3,t4⟩:=of_part hx;exact ⟨t,.inr ⟨t1,t2⟩,(kat_some t4).symm⟩
  refine ⟨?_,fun t ht=>by rw [wback_get hfit,if_neg (by omega)],?_⟩
  · rw [Array.perm_iff_toList_perm,wback_list hfit]
    conv=>rhs; rw [em]
    exact List.Perm.append_right _ (List.Perm.append_left _ zp)
  have zz2:z.size=r - p:=by rw [← Array.length_toList]; exact zl
  clear em hfit zl
  intro i j x y zz;by_cases i1:i < p
  · rw [old i (.inl i1)];by_cases j1:j < p
    · rw [old j (.inl j1)]; exact s1 i j x y (Nat.lt_of_lt_of_le j1 h2)
    · by_cases j2:j < r
      · obtain ⟨v,v1,v2,v3⟩:=kz j (Nat.le_of_not_lt j1) j2;rw [kat_some v2];obtain ⟨t,ht,et⟩:=from2 v v1;rw [et];rcases ht with ⟨t1,t2⟩ | ⟨t1,t2⟩
        · exact s1 i t x (Nat.le_trans (Nat.le_of_lt i1) t1) t2
        · exact Int.le_trans (lo1 i x i1) (s2 q t (Nat.le_refl _) t1 (Nat.lt_of_lt_of_le t2 h4))
      · rw [old j (.inr (Nat.le_of_not_lt j2))];exact Int.le_trans (lo1 i x i1) (s2 q j (Nat.le_refl _) (Nat.le_trans h3 (Nat.le_of_not_lt j2)) zz)
  · have i1':=Nat.le_of_not_lt i1;by_cases i2:i < r
    · obtain ⟨u,u1,u2,u3⟩:=kz i i1' i2;by_cases j2:j < r
      · obtain ⟨v,v1,v2,v3⟩:=kz j (Nat.le_trans i1' y) j2;rw [kat_some u2,kat_some v2];have e:=zseg (i - p) (j - p) (Nat.zero_le _) (Nat.sub_le_sub_right y p) (by rw [zz2]; exact Nat.sub_lt_sub_right (Nat.le_trans i1' y) j2);rw [kat_some u3,kat_some v3] at e;exact e
      · have j2':=Nat.le_of_not_lt j2;rw [old j (.inr j2'),kat_some u2];obtain ⟨t,ht,et⟩:=from2 u u1;rw [et];rcases ht with ⟨t1,t2⟩ | ⟨t1,t2⟩
        · exact Int.le_trans (s1 t (q - 1) (Nat.le_trans h1 t1) (Nat.le_sub_one_of_lt t2) (Nat.sub_one_lt (Nat.ne_of_gt (Nat.lt_of_le_of_lt (Nat.zero_le _) t2)))) (up2 j j2' zz)
        · exact s2 t j t1 (Nat.le_trans (Nat.le_of_lt t2) j2') zz
    · have i2':=Nat.le_of_not_lt i2;rw [old i (.inr i2'),old j (.inr (Nat.le_trans i2' y))];exact s2 i j (Nat.le_trans h3 i2') y zz
theorem parts_pre {xs:Array Keyed} {lo p q r hi:Nat} (h1:lo≤p) (h2:p < q) (h3:q < r) (h4:r≤hi) (h5:hi≤xs.size) (all:∀ y∈xs.toList,y∈a₀.toList) (s1:Seg key xs lo q) (s2:Seg key xs q hi)
    (up1:kat key xs q < kat key xs p) (lo2:kat key xs (r - 1) < kat key xs (q - 1)):Pre a₀ key (xs.extract p q) (xs.extract q r):=by
  have zu:(xs.extract p q).size=q - p:=ext_size (by omega);have zv:(xs.extract q r).size=r - q:=ext_size (by omega);refine ⟨fun y hy=>all y (ext_sub hy),fun y hy=>all y (ext_sub hy),fun i j x y z => ?_,fun i j x y z => ?_,by omega,by omega,?_,?_⟩
  · rw [zu] at z;rw [kat_ext (by omega) (by omega),kat_ext (by omega) (by omega)];exact s1 _ _ (by omega) (by omega) (by omega)
  · rw [zv] at z;rw [kat_ext (by omega) (by omega),kat_ext (by omega) (by omega)];exact s2 _ _ (by omega) (by omega) (by omega)
  · rw [kat_ext (by omega) (by omega),kat_ext (by omega) (by omega)];exact up1
  · rw [zu,zv,kat_ext (by omega) (by omega),kat_ext (by omega) (by omega),show q + (r - q - 1)=r - 1 by omega,show p + (q - p - 1)=q - 1 by omega];exact lo2
theorem join_ok (L:LtOk prog w A E s a₀ κ key) {st:SortSt} {Q:Bool→SortSt→Prop} (hB:SB a₀ κ st) {l1 l2:List Tri} {sa na p sb nb q:Nat} (hp:(pendingOf st).toList=l1++(sa,na,p)::(sb,nb,q)::l2) (hsb:sb=sa + na) (h1:1≤na) (h2:1≤nb) (hz:sb + nb≤a₀.size)
    (s1:Seg key (arrOf st) sa sb) (s2:Seg key (arrOf st) sb (sb + nb))
    (h:∀ st',SB a₀ κ st'→(pendingOf st').toList=l1++(sa,na + nb,p)::l2→Seg key (arrOf st') sa (sb + nb)→Off (arrOf st) (arrOf st') sa (sb + nb)→Q true st'):wpS (model prog w) A E s (mergeAt' l1.length) Q st:=by
  rw [join_eq];refine wpS_bind (wpS_get ?_);obtain ⟨e1,e2⟩:=pend_at hp;rw [e1,e2];dsimp only;have hsz:=hB.size;have mem:∀ {i:Nat} {x:Keyed},(arrOf st)[i]? = some x→x∈a₀.toList:=fun e=>hB.mem (at_mem e);have all:∀ y∈(arrOf st).toList,y∈a₀.toList:=fun y hy=>hB.mem hy;refine wpS_bind ?_;show wpS _ _ _ _ (set _) _ _;have hset:∀ (t:SortSt) (R:PUnit→SortSt→Prop),R ⟨⟩ t→wpS (model prog w) A E s (set t:StateT SortSt Sem PUnit) R st:=fun t R hr=>by
    unfold wpS; rw [StateT.run_set]; exact wpAny_pure ⟨rfl,hr⟩
  refine hset _ _ ?_;have pn:=pend_new (c:=(sa,na + nb,p)) hp;generalize hP:((pendingOf st).setIfInBounds l1.length (sa,na + nb,p)).eraseIdxIfInBounds (l1.length + 1)=P at pn ⊢;have f1:(arrOf st)[sb]? = some (arrOf st)[sb]:=Array.getElem?_eq_getElem (by omega);refine wpS_bind (el_ok f1 (wpS_bind (gallop_ok L (st:=setPen st P) hB.kind (mem f1) all (by omega) (by omega) (by rw [← hsb]; exact s1) fun k k1 k2 k3 => ?_)));dsimp only;have lo1:∀ t,sa≤t→t < sa + k→kat key (arrOf st) t≤kat key (arrOf st) sb:=fun t t1 t2=>by
    have:=k2 (t - sa) (by omega)
    unfold isPast at this;rw [if_neg (by decide),show sa + (t - sa)=t by omega,← kat_some (key:=key) f1] at this
    have:¬ kat key (arrOf st) sb < kat key (arrOf st) t:=by simpa using this
    omega
  have up1:∀ t,sa + k≤t→t < sb→kat key (arrOf st) sb < kat key (arrOf st) t:=fun t t1 t2=>by
    have:=k3 (t - sa) (by omega) (by omega)
    unfold isPast at this;rw [if_neg (by decide),show sa + (t - sa)=t by omega,← kat_some (key:=key) f1] at this
    have:kat key (arrOf st) sb < kat key (arrOf st) t:=by simpa using this
    exact this
  have B1:SB a₀ κ (setPen st P):=⟨hB.perm,hB.kind,hB.ok⟩;by_cases c1:na - k=0
  · rw [if_pos (by simpa using c1)];refine wpS_pure (h _ B1 pn (fun i j x y z => ?_) (Off.refl _ _ _));show kat key (arrOf st) i≤kat key (arrOf st) j;by_cases a1:j < sb
    · exact s1 i j x y a1
    · by_cases a2:sb≤i
      · exact s2 i j a2 y z
      · have:=lo1 i x (by omega)
        have:=s2 sb j (Nat.le_refl _) (by omega) z
        omega
  · rw [if_neg (by simpa using c1)];have f2:(arrOf st)[sa + k + (na - k) - 1]? = some (arrOf st)[sb - 1]:=by
      rw [show sa + k + (na - k) - 1=sb - 1 by omega]; exact Array.getElem?_eq_getElem (by omega)
    have f3:(arrOf st)[sb - 1]? = some (arrOf st)[sb - 1]:=Array.getElem?_eq_getElem (by omega);refine wpS_bind (el_ok f2 (wpS_bind (gallop_ok L (st:=setPen st P) hB.kind (mem f2) all (by omega) (by omega) s2 fun m m1 m2 m3 => ?_)));dsimp only;have lo2:∀ t,sb≤t→t < sb + m→kat key (arrOf st) t < kat key (arrOf st) (sb - 1):=fun t t1 t2=>by
      have:=m2 (t - sb) (by omega)
      unfold isPast at this;rw [if_pos rfl,show sb + (t - sb)=t by omega,← kat_some (key:=key) f3] at this;exact of_decide_eq_true this
    have up2:∀ t,sb + m≤t→t < sb + nb→kat key (arrOf st) (sb - 1)≤kat key (arrOf st) t:=fun t t1 t2=>by
      have:=m3 (t - sb) (by omega) (by omega)
      unfold isPast at this;rw [if_pos rfl,show sb + (t - sb)=t by omega,← kat_some (key:=key) f3] at this
      have:=of_decide_eq_false this
      omega
    by_cases c2:m=0
    · rw [if_pos (by simpa using c2)];refine wpS_pure (h _ B1 pn (fun i j x y z => ?_) (Off.refl _ _ _));show kat key (arrOf st) i≤kat key (arrOf st) j;by_cases a1:j < sb
      · exact s1 i j x y a1
      · by_cases a2:sb≤i
        · exact s2 i j a2 y z
        · have:=s1 i (sb - 1) x (by omega) (by omega)
          have:=up2 j (by omega) z
          omega
    · rw [if_neg (by simpa using c2)];have o1:sa≤sa + k:=Nat.le_add_right _ _;have o2:sa + k < sb:=by omega
      have o3:sb < sb + m:=by omega
      have o4:sb + m≤sb + nb:=by omega
      have o5:sb + nb≤(arrOf st).size:=by omega
      have PR:Pre a₀ key ((arrOf st).extract (sa + k) sb) ((arrOf st).extract sb (sb + m)):=parts_pre o1 o2 o3 o4 o5 all s1 s2 (up1 _ (Nat.le_refl _) o2) (lo2 _ (Nat.le_sub_one_of_lt o3) (Nat.sub_one_lt (Nat.ne_of_gt (Nat.lt_of_le_of_lt (Nat.zero_le _) o3))));have fin:∀ (z:Array Keyed) (g':Nat),Res key ((arrOf st).extract (sa + k) sb) ((arrOf st).extract sb (sb + m)) z →
          wpS (model prog w) A E s (do
            modify fun st=>setArr st (wback (arrOf st) (sa + k) z.toList)
            let st ← get
            pure (failedOf st).isNone:StateT SortSt Sem Bool) Q (setGal (setPen st P) g'):=fun z g' hz=>by
        obtain ⟨hperm,hoff,hseg⟩:=merged o1 (Nat.le_of_lt o2) (Nat.le_of_lt o3) o4 o5 hz s1 s2 lo1 up2;refine wpS_bind (wpS_modify (wpS_bind (wpS_get (wpS_pure ?_))));have okf:(failedOf (setArr (setGal (setPen st P) g') (wback (arrOf st) (sa + k) z.toList))).isNone=true:=by
          show (failedOf st).isNone=true;rw [hB.ok]; rfl
        show Q (failedOf (setArr (setGal (setPen st P) g') (wback (arrOf st) (sa + k) z.toList))).isNone _;rw [okf];exact h _ ⟨hperm.trans hB.perm,hB.kind,hB.ok⟩ pn hseg hoff
      split
      · exact wpS_bind (lo_ok L (st:=setPen st P) hB.kind PR fun z g' hz=>fin z g' hz)
      · exact wpS_bind (hi_ok L (st:=setPen st P) hB.kind PR fun z g' hz=>fin z g' hz)
end
end Tim

namespace Tim
open PySem PyProof.Rows
section
variable {prog:Program} {w:World} {A:Around} {E:Value→Shared→Prop} {s:Shared} {a₀:Array Keyed} {κ:SortKind} {key:Keyed→Int}
abbrev So:=Option Unit × Unit
def downL (size pw:Nat):StateT SortSt Sem So :=
  forIn [0:size] ((none,()):So) fun _ _=>do
    let st ← get
    match (if (pendingOf st).size > 1 then (pendingOf st)[(pendingOf st).size - 2]? else none) with
    | some (_,_,older)=>if older≤pw then pure (.done (none,())) else do
        let b ← mergeAt' ((pendingOf st).size - 2)
        if (!b)=true then pure (.done (some (),())) else pure (.yield (none,()))
    | _=>pure (.done (none,()))
def pushEnd (lo n:Nat):StateT SortSt Sem (ForInStep (Option Unit × Nat)):=do
  modify fun st=>setPen st ((pendingOf st).push (lo,n,0))
  pure (.yield (none,lo + n))
def pushRun (size lo n:Nat):StateT SortSt Sem (ForInStep (Option Unit × Nat)):=do
  let st ← get
  match (pendingOf st).back? with
  | some (s1,n1,_)=>do
    let q ← downL size (power' size (2 * s1 + n1) (2 * s1 + n1 + n1 + n) size)
    match q.1 with
    | some v=>pure (.done (some v,lo))
    | none=>do
      modify fun st=>setPen st ((pendingOf st).modify ((pendingOf st).size - 1) fun (a,b,_)=>(a,b,power' size (2 * s1 + n1) (2 * s1 + n1 + n1 + n) size))
      pushEnd lo n
  | _=>pushEnd lo n
def mainStep (size minrun:Nat) (r:Option Unit × Nat):StateT SortSt Sem (ForInStep (Option Unit × Nat)) :=
  if r.2 ≥ size then pure (.done (none,r.2)) else do
    let z ← countRun' r.2 (size - r.2)
    match z with
    | some found =>
      if found < minrun then do
        liftM (rule "list.sort.binary-insertion")
        let b ← binarySort' r.2 (min (size - r.2) minrun) found
        if (!b)=true then pure (.done (some (),r.2)) else pushRun size r.2 (min (size - r.2) minrun)
      else pushRun size r.2 found
    | _=>pure (.done (some (),r.2))
def lastAt (p:Array Tri):Nat:=if (if p.size - 2 > 0 then p[p.size - 2 - 1]?.map (·.2.1) else none).any (· < (p[p.size - 2 + 1]?.elim 0 (·.2.1))) then p.size - 2 - 1 else p.size - 2
def lastL (size:Nat):StateT SortSt Sem So :=
  forIn [0:size] ((none,()):So) fun _ _=>do
    let st ← get
    if (pendingOf st).size≤1 then pure (.done (none,())) else do
      let b ← mergeAt' (lastAt (pendingOf st))
      if (!b)=true then pure (.done (some (),())) else pure (.yield (none,()))
theorem runs_eq:sortRuns'=(do
    let st ← get
    let r ← forIn [0:(arrOf st).size] ((none,0):Option Unit × Nat) fun _ r=>mainStep (arrOf st).size (minRun' (arrOf st).size (arrOf st).size 0) r
    match r.1 with
    | some v=>pure v
    | none=>do
      let q ← lastL (arrOf st).size
      match q.1 with
      | some v=>pure v
      | none=>pure ()):=by kernel_rfl

def Tiles (key:Keyed→Int) (xs:Array Keyed):Nat→List Tri→Nat→Prop
  | a,[],e=>a=e
  | a,t::r,e=>t.1=a∧1≤t.2.1∧Seg key xs a (a + t.2.1)∧Tiles key xs (a + t.2.1) r e
theorem Tiles.le {xs:Array Keyed}:∀ {l:List Tri} {a e:Nat},Tiles key xs a l e→a + l.length≤e
  | [],a,e,h=>by have:a=e:=h; simp; omega
  | t::r,a,e,h=>by
    obtain ⟨_,h1,_,h2⟩:=h
    have:=Tiles.le h2
    simp; omega
theorem tiles_app {xs:Array Keyed} {l2:List Tri} {e:Nat}:∀ {l1:List Tri} {a:Nat},Tiles key xs a (l1++l2) e↔∃ m,Tiles key xs a l1 m∧Tiles key xs m l2 e
  | [],a=>⟨fun h=>⟨a,rfl,h⟩,fun ⟨m,h1,h2⟩=>by have:a=m:=h1; subst this; exact h2⟩
  | t::r,a=>by
    constructor
    · rintro ⟨h1,h2,h3,h4⟩;obtain ⟨m,g1,g2⟩:=tiles_app.mp h4;exact ⟨m,⟨h1,h2,h3,g1⟩,g2⟩
    · rintro ⟨m,⟨h1,h2,h3,g1⟩,g2⟩;exact ⟨h1,h2,h3,tiles_app.mpr ⟨m,g1,g2⟩⟩
theorem Tiles.same {xs ys:Array Keyed}:∀ {l:List Tri} {a e:Nat},Tiles key xs a l e→(∀ t,a≤t→t < e→ys[t]? = xs[t]?)→Tiles key ys a l e
  | [],a,e,h,_=>h
  | t::r,a,e,h,g=>by
    obtain ⟨h1,h2,h3,h4⟩:=h;have l4:=h4.le;refine ⟨h1,h2,fun i j x y z => ?_,Tiles.same h4 fun t x y=>g t (by omega) y⟩;rw [kat_of (g i x (by omega)),kat_of (g j (by omega) (by omega))];exact h3 i j x y z
theorem Tiles.alike {xs:Array Keyed}:∀ {l l':List Tri} {a e:Nat},Tiles key xs a l e→l'.map (fun t=>(t.1,t.2.1))=l.map (fun t=>(t.1,t.2.1))→Tiles key xs a l' e
  | [],[],_,_,h,_=>h
  | [],_::_,_,_,_,g=>by simp at g
  | _::_,[],_,_,_,g=>by simp at g
  | t::r,t'::r',a,e,h,g=>by
    obtain ⟨h1,h2,h3,h4⟩:=h;rw [List.map_cons,List.map_cons,List.cons.injEq,Prod.mk.injEq] at g;obtain ⟨⟨g1,g2⟩,g3⟩:=g;exact ⟨by rw [g1]; exact h1,by rw [g2]; exact h2,by rw [g2]; exact h3,by rw [g2]; exact Tiles.alike h4 g3⟩
theorem split2 {α:Type} {l:List α} {i:Nat} (h:i + 1 < l.length):∃ l1 a b l2,l=l1++a::b::l2∧l1.length=i:=by
  refine ⟨l.take i,l[i],l[i + 1],l.drop (i + 2),?_,by rw [List.length_take]; omega⟩;have e1:l.drop i=l[i]::l.drop (i + 1):=List.drop_eq_getElem_cons (by omega);have e2:l.drop (i + 1)=l[i + 1]::l.drop (i + 2):=List.drop_eq_getElem_cons h;rw [← e2,← e1,List.take_append_drop]
theorem joinT (L:LtOk prog w A E s a₀ κ key) {st:SortSt} {Q:Bool→SortSt→Prop} {i e:Nat} (hB:SB a₀ κ st) (T:Tiles key (arrOf st) 0 (pendingOf st).toList e) (he:e≤a₀.size) (hi:i + 1 < (pendingOf st).size)
    (h:∀ st',SB a₀ κ st'→Tiles key (arrOf st') 0 (pendingOf st').toList e→(pendingOf st').size + 1=(pendingOf st).size→Off (arrOf st) (arrOf st') 0 e→Q true st'):wpS (model prog w) A E s (mergeAt' i) Q st:=by
  obtain ⟨l1,⟨sa,na,p⟩,⟨sb,nb,q⟩,l2,hl,rfl⟩:=split2 (l:=(pendingOf st).toList) (i:=i) (by simpa using hi);have T':=T;rw [hl] at T';obtain ⟨m,T1,⟨a1,a2,a3,b1,b2,b3,T2⟩⟩:=tiles_app.mp T';have l2e:=T2.le;have l1e:=T1.le;dsimp only at a1 a2 a3 b1 b2 b3 T2 l2e;subst a1;subst b1;refine join_ok L hB hl rfl a2 b2 (by omega) a3 b3 fun st' B' P' S' O' => ?_;have sz:(pendingOf st').size + 1=(pendingOf st).size:=by
    rw [← Array.length_toList,← Array.length_toList,P',hl]; simp; omega
  refine h st' B' ?_ sz fun t ht=>O' t (by omega);rw [P'];refine tiles_app.mpr ⟨sa,T1.same fun t x y=>O' t (.inl y),rfl,by dsimp only; omega,?_,?_⟩
  · dsimp only; rw [← Nat.add_assoc]; exact S'
  · dsimp only;rw [← Nat.add_assoc];exact T2.same fun t x y=>O' t (.inr x)
theorem down_ok (L:LtOk prog w A E s a₀ κ key) {st:SortSt} {Q:So→SortSt→Prop} {pw e size:Nat} (hB:SB a₀ κ st) (T:Tiles key (arrOf st) 0 (pendingOf st).toList e) (he:e≤a₀.size) (hp:1≤(pendingOf st).size)
    (h:∀ st',SB a₀ κ st'→Tiles key (arrOf st') 0 (pendingOf st').toList e→1≤(pendingOf st').size→Off (arrOf st) (arrOf st') 0 e→Q (none,()) st'):wpS (model prog w) A E s (downL size pw) Q st:=by
  unfold downL;refine wpS_forRange (I:=fun _ c st'=>c=(none,())∧SB a₀ κ st'∧Tiles key (arrOf st') 0 (pendingOf st').toList e∧1≤(pendingOf st').size∧Off (arrOf st) (arrOf st') 0 e) ?step ?fin ⟨rfl,hB,T,hp,Off.refl _ _ _⟩
  case fin =>
    rintro c st' ⟨rfl,B',T',P',O'⟩;exact h st' B' T' P' O'
  case step =>
    rintro t c st' _ _ ⟨rfl,B',T',P',O'⟩;refine wpS_bind (wpS_get ?_);by_cases g:(pendingOf st').size > 1
    · rw [if_pos g,Array.getElem?_eq_getElem (show (pendingOf st').size - 2 < (pendingOf st').size by omega)];dsimp only
      split
      · exact wpS_pure (h st' B' T' P' O')
      · refine wpS_bind (joinT L B' T' he (by omega) fun st2 B2 T2 P2 O2 => ?_);rw [if_neg (by decide)];exact wpS_pure ⟨rfl,B2,T2,by omega,O'.trans O2⟩
    · rw [if_neg g];exact wpS_pure (h st' B' T' P' O')
theorem pushEnd_ok {st:SortSt} {Q:ForInStep (Option Unit × Nat)→SortSt→Prop} {lo n:Nat} (hB:SB a₀ κ st) (T:Tiles key (arrOf st) 0 (pendingOf st).toList lo) (h1:1≤n) (hs:Seg key (arrOf st) lo (lo + n))
    (h:∀ st',SB a₀ κ st'→Tiles key (arrOf st') 0 (pendingOf st').toList (lo + n)→Q (.yield (none,lo + n)) st'):wpS (model prog w) A E s (pushEnd lo n) Q st:=by
  unfold pushEnd;refine wpS_bind (wpS_modify (wpS_pure (h _ ⟨hB.perm,hB.kind,hB.ok⟩ ?_)));show Tiles key (arrOf st) 0 ((pendingOf st).push (lo,n,0)).toList (lo + n);rw [Array.toList_push];exact tiles_app.mpr ⟨lo,T,rfl,h1,hs,rfl⟩
theorem pushRun_ok (L:LtOk prog w A E s a₀ κ key) {st:SortSt} {Q:ForInStep (Option Unit × Nat)→SortSt→Prop} {lo n size:Nat} (hB:SB a₀ κ st) (T:Tiles key (arrOf st) 0 (pendingOf st).toList lo) (hz:lo + n≤a₀.size) (h1:1≤n) (hs:Seg key (arrOf st) lo (lo + n))
    (h:∀ st',SB a₀ κ st'→Tiles key (arrOf st') 0 (pendingOf st').toList (lo + n)→Q (.yield (none,lo + n)) st'):wpS (model prog w) A E s (pushRun size lo n) Q st:=by
  unfold pushRun;refine wpS_bind (wpS_get ?_);cases hb:(pendingOf st).back? with
  | none=>exact pushEnd_ok hB T h1 hs h
  | some t =>
    obtain ⟨s1,n1,p1⟩:=t;dsimp only;have ne:1≤(pendingOf st).size:=by
      rcases Nat.eq_zero_or_pos (pendingOf st).size with e | e
      · have:pendingOf st = #[]:=Array.eq_empty_of_size_eq_zero e
        rw [this] at hb; cases hb
      · exact e
    refine wpS_bind (down_ok L hB T (by omega) ne fun st' B' T' P' O' => ?_);dsimp only;refine wpS_bind (wpS_modify ?_);refine pushEnd_ok (key:=key) (a₀:=a₀) (κ:=κ) ⟨B'.perm,B'.kind,B'.ok⟩ ?_ h1 (fun i j x y z => ?_) h
    · show Tiles key (arrOf st') 0 ((pendingOf st').modify ((pendingOf st').size - 1) _).toList lo;refine T'.alike ?_;rw [Array.toList_modify];refine List.ext_getElem? fun k => ?_;rw [List.getElem?_map,List.getElem?_map,List.getElem?_modify]
      split
      · cases (pendingOf st').toList[k]? <;> rfl
      · cases (pendingOf st').toList[k]? <;> rfl
    · show kat key (arrOf st') i≤kat key (arrOf st') j;rw [kat_of (O' i (.inr x)),kat_of (O' j (.inr (by omega)))];exact hs i j x y z
theorem main_ok (L:LtOk prog w A E s a₀ κ key) {st:SortSt} {Q:ForInStep (Option Unit × Nat)→SortSt→Prop} {lo minrun:Nat} (hB:SB a₀ κ st) (T:Tiles key (arrOf st) 0 (pendingOf st).toList lo) (hlo:lo≤a₀.size)
    (hd:a₀.size≤lo→Q (.done (none,lo)) st) (h:∀ st' lo',lo < lo'→lo'≤a₀.size→SB a₀ κ st'→Tiles key (arrOf st') 0 (pendingOf st').toList lo'→Q (.yield (none,lo')) st'):wpS (model prog w) A E s (mainStep a₀.size minrun (none,lo)) Q st:=by
  unfold mainStep;dsimp only;by_cases e:lo ≥ a₀.size
  · rw [if_pos e];exact wpS_pure (hd e)
  · rw [if_neg e];refine wpS_bind (run_ok L hB (by omega) (by omega) fun k xs k1 k2 hp ho hs => ?_);dsimp only;have T1:Tiles key xs 0 (pendingOf st).toList lo:=T.same fun t x y=>ho t (.inl y);by_cases c:k < minrun
    · rw [if_pos c];refine wpS_bind (wpS_lift (wpAny_rule ⟨rfl,?_⟩));refine wpS_bind (ins_ok L (st:=setArr st xs) (hB.set hp) (by omega) (by omega) hs fun ys yp yo ys' => ?_);rw [if_neg (by decide)];refine pushRun_ok L (st:=setArr st ys) (hB.set (yp.trans hp)) ?_ (by omega) (by omega) ys' fun st' B' T'=>h st' _ (by omega) (by omega) B' T';exact T1.same fun t x y=>yo t (.inl y)
    · rw [if_neg c];exact pushRun_ok L (st:=setArr st xs) (hB.set hp) T1 (by omega) k1 hs fun st' B' T'=>h st' _ (by omega) (by omega) B' T'
theorem lastAt_lt {p:Array Tri} (h:1 < p.size):lastAt p + 1 < p.size:=by
  unfold lastAt;by_cases g:p.size - 2 > 0
  · have e:∀ (c:Bool),(if c=true then p.size - 2 - 1 else p.size - 2) + 1 < p.size:=fun c=>by cases c <;> simp <;> omega
    exact e _
  · rw [if_neg (show ¬ ((if p.size - 2 > 0 then p[p.size - 2 - 1]?.map (·.2.1) else none).any (· < (p[p.size - 2 + 1]?.elim 0 (·.2.1))))=true by rw [if_neg g]; simp)];omega
theorem last_ok (L:LtOk prog w A E s a₀ κ key) {st:SortSt} {Q:So→SortSt→Prop} (hB:SB a₀ κ st) (T:Tiles key (arrOf st) 0 (pendingOf st).toList a₀.size)
    (h:∀ st',SB a₀ κ st'→Seg key (arrOf st') 0 a₀.size→Q (none,()) st'):wpS (model prog w) A E s (lastL a₀.size) Q st:=by
  unfold lastL;have fin:∀ st',SB a₀ κ st'→Tiles key (arrOf st') 0 (pendingOf st').toList a₀.size→(pendingOf st').size≤1→Q (none,()) st':=fun st' B' T' h1=>by
    refine h st' B' fun i j x y z => ?_;cases hl:(pendingOf st').toList with
    | nil =>
      rw [hl] at T'
      have:0=a₀.size:=T'
      omega
    | cons t r =>
      have hr:r=[]:=by
        have:=congrArg List.length hl
        rw [Array.length_toList,List.length_cons] at this;exact List.length_eq_zero_iff.mp (by omega)
      rw [hl,hr] at T';obtain ⟨h2,h3,h4,h5⟩:=T';have h5':0 + t.2.1=a₀.size:=h5;exact h4 i j x y (by omega)
  refine wpS_forRange (I:=fun t c st'=>c=(none,())∧SB a₀ κ st'∧Tiles key (arrOf st') 0 (pendingOf st').toList a₀.size∧((pendingOf st').size≤1∨(pendingOf st').size + t≤a₀.size)) ?step ?fin ⟨rfl,hB,T,.inr (by have:=T.le; rw [Array.length_toList] at this; omega)⟩
  case fin =>
    rintro c st' ⟨rfl,B',T',P'⟩;exact fin st' B' T' (by omega)
  case step =>
    rintro t c st' _ _ ⟨rfl,B',T',P'⟩;refine wpS_bind (wpS_get ?_);by_cases g:(pendingOf st').size≤1
    · rw [if_pos g];exact wpS_pure (fin st' B' T' g)
    · rw [if_neg g];refine wpS_bind (joinT L B' T' (Nat.le_refl _) (lastAt_lt (by omega)) fun st2 B2 T2 P2 O2 => ?_);rw [if_neg (by decide)];exact wpS_pure ⟨rfl,B2,T2,by omega⟩

theorem runs_ok (L:LtOk prog w A E s a₀ κ key) {st:SortSt} {Q:Unit→SortSt→Prop} (hB:SB a₀ κ st) (hp:pendingOf st = #[])
    (h:∀ st',SB a₀ κ st'→Seg key (arrOf st') 0 a₀.size→Q () st'):wpS (model prog w) A E s sortRuns' Q st:=by
  rw [runs_eq];refine wpS_bind (wpS_get ?_);rw [hB.size];refine wpS_bind (wpS_mono (wpS_forRange (I:=fun t c st'=>∃ lo,c=(none,lo)∧t≤lo∧lo≤a₀.size∧SB a₀ κ st'∧Tiles key (arrOf st') 0 (pendingOf st').toList lo)
    (Q:=fun c st'=>c=(none,a₀.size)∧SB a₀ κ st'∧Tiles key (arrOf st') 0 (pendingOf st').toList a₀.size) ?step ?fin ⟨0,rfl,Nat.le_refl _,Nat.zero_le _,hB,by rw [hp]; rfl⟩) ?post)
  case fin =>
    rintro c st' ⟨lo,rfl,h1,h2,B',T'⟩;have e:lo=a₀.size:=by omega
    subst e;exact ⟨rfl,B',T'⟩
  case step =>
    rintro t c st' _ _ ⟨lo,rfl,h1,h2,B',T'⟩;refine main_ok L B' T' h2 (fun e => ?_) fun st2 lo2 g1 g2 B2 T2=>⟨lo2,rfl,by omega,g2,B2,T2⟩;have e':lo=a₀.size:=by omega
    subst e';exact ⟨rfl,B',T'⟩
  case post =>
    rintro c st' ⟨rfl,B',T'⟩;dsimp only;exact wpS_bind (last_ok L B' T' fun st2 B2 S2=>wpS_pure (h st2 B2 S2))
end
end Tim

namespace L2
open PySem PySem.Spec PySem.Calls PyProof.Rows PySem.W

structure Lin {α:Type} (lt:α→α→Bool):Prop where
  irr:∀ x,lt x x=false
  tr:∀ x y z,lt x y=true→lt y z=true→lt x z=true
  tot:∀ x y,lt x y=false→lt y x=false→x=y
theorem countP_less {α:Type} {p q:α→Bool} {a:α}:∀ {l:List α},(∀ x∈l,p x=true→q x=true)→a∈l→p a=false→q a=true→l.countP p < l.countP q
  | [],_,h,_,_=>by simp at h
  | x::l,hm,ha,hp,hq=>by
    have m:l.countP p≤l.countP q:=List.countP_mono_left fun y hy=>hm y (by simp [hy]);rw [List.countP_cons,List.countP_cons];rcases List.mem_cons.mp ha with rfl | ha
    · rw [hp,hq];simp
      omega
    · have:=countP_less (fun y hy=>hm y (by simp [hy])) ha hp hq
      have hx:=hm x (by simp);cases e:p x with
      | true=>rw [hx e]; simp; omega
      | false=>simp; split <;> omega
def rnk {α:Type} (lt:α→α→Bool) (ks:List α) (x:α):Int:=((ks.countP fun k=>lt k x:Nat):Int)
theorem rnk_lt {α:Type} {lt:α→α→Bool} (L:Lin lt) {ks:List α} {x y:α} (hx:x∈ks) (hy:y∈ks):decide (rnk lt ks x < rnk lt ks y)=lt x y:=by
  unfold rnk;cases e:lt x y with
  | true =>
    have:=countP_less (l:=ks) (p:=fun k=>lt k x) (q:=fun k=>lt k y) (fun k _ h=>L.tr _ _ _ h e) hx (L.irr x) e
    simp
    exact this
  | false =>
    cases e2:lt y x with
    | true =>
      have:=countP_less (l:=ks) (p:=fun k=>lt k y) (q:=fun k=>lt k x) (fun k _ h=>L.tr _ _ _ h e2) hy (L.irr y) e2
      simp
      omega
    | false =>
      have:=L.tot _ _ e e2
      subst this;simp
section
variable {prog:Program} {w:World} {A:Around} {E:Value→Shared→Prop} {s:Shared} {α:Type} {lt:α→α→Bool} {kf:Value→α}
structure SrtA (prog:Program) (w:World) (vs:List Value) {α:Type} (kf:Value→α) (lt:α→α→Bool) (κ:SortKind) (s:Shared):Prop where
  kind:∀ (A:Around),2≤vs.length→∀ Q:SortKind→Shared→Prop,Q κ s→wpAny (model prog w) A (keyKind' vs.toArray) Q (fun _ _=>False) s
  less:∀ (A:Around) (x y:Value) (C:Bool→Shared→Prop),x∈vs→y∈vs→C (lt (kf x) (kf y)) s→wpAny (model prog w) A (keyLt' κ x y) C (fun _ _=>False) s
theorem zip_self {vs:List Value} {p:Keyed} (h:p∈(vs.toArray.zip vs.toArray).toList):p.1=p.2∧p.2∈vs:=by
  rw [Array.toList_zip] at h;obtain ⟨i,hi⟩:=List.mem_iff_getElem?.mp h;rw [List.getElem?_zip_eq_some] at hi;have e:=hi.1.symm.trans hi.2;exact ⟨Option.some.inj e,List.mem_iff_getElem?.mpr ⟨i,hi.2⟩⟩
theorem zip_snd (vs:List Value):(vs.toArray.zip vs.toArray).toList.map (·.2)=vs:=by
  rw [Array.toList_zip];exact List.map_snd_zip (Nat.le_refl _)
theorem list_sort_all {a:Addr} {vs:List Value} {n:Nat} {κ:SortKind} {P:PySem.Fin→Shared→Prop} (L:Lin lt) (ho:s.heap.get? a=some (seqObj "list" vs.toArray n)) (sz:vs.length≤sizeLine)
    (hs:∀ h',(∀ b o,b≠a→s.heap.get? b=some o→h'.get? b=some o)→SrtA prog w vs kf lt κ { s with heap:=h' })
    (h:∀ out:List Value,out.Perm vs→out.Pairwise (fun x y=>lt (kf y) (kf x)=false)→P (.done (.ret .none)) { s with heap:=sortedHeap s.heap a vs out.toArray }) :
    wpAny (model prog w) A (Builtin.«list.sort» ⟨[.ref a],[]⟩) P E s:=by
  have ha:a < s.heap.objs.size:=Heap.lt_size ho;rw [list_sort_plain];refine wpAny_bind (listItems_at ho rfl ?_);refine wpAny_bind (listUpdate_at ho rfl ?_ (by rw [List.size_toArray]; exact sz) (Nat.zero_le _));obtain ⟨e1,ho1⟩:∃ e1,(s.heap.update a (Obj.mapSeq fun _=>(#[]:Array Value))).get? a=some (seqObj "list" #[] e1):=⟨_,get?_update_seq ho fun _ => #[]⟩
  refine wpAny_bind (seqEpoch_at ho1 rfl ?_);refine wpAny_bind (wpAny_newTuple ?_ (by show vs.length≤_; exact sz));refine wpAny_bind (wpAny_newList ?_ (Nat.zero_le _));refine wpAny_holding ?_;show wpAny (model prog w) A _ P E { s with heap:=((s.heap.update a (Obj.mapSeq fun _=>(#[]:Array Value))).push (seqObj "tuple" vs.toArray 0)).push (seqObj "list" #[] 0) }
  dsimp only;have ho6:(((s.heap.update a (Obj.mapSeq fun _=>(#[]:Array Value))).push (seqObj "tuple" vs.toArray 0)).push (seqObj "list" #[] 0)).get? a=some (seqObj "list" #[] e1):=Heap.get?_push_of_some _ (Heap.get?_push_of_some _ ho1)
  have kp:∀ b o,b≠a→s.heap.get? b=some o→(((s.heap.update a (Obj.mapSeq fun _=>(#[]:Array Value))).push (seqObj "tuple" vs.toArray 0)).push (seqObj "list" #[] 0)).get? b=some o:=fun b o hb e =>
    Heap.get?_push_of_some _ (Heap.get?_push_of_some _ ((Heap.get?_update_other _ _ (Ne.symm hb)).trans e))
  have S:=hs _ kp;by_cases h2:vs.toArray.size < 2
  · rw [if_pos h2,if_pos h2];refine wpAny_bind (wpAny_pure ?_);rw [StateT.run_pure];refine wpAny_bind (wpAny_pure ?_);dsimp only;refine wpAny_bind (seqEpoch_at ho6 rfl ?_);have ez:(vs.toArray.zip vs.toArray).map (·.2)=vs.toArray:=by
      apply Array.toList_inj.mp
      rw [Array.toList_map,zip_snd]
    refine wpAny_bind (listUpdate_at ho6 rfl ?_ (hsz2:=by rw [Array.size_map,Array.size_zip]; simp; omega));simp only [bne_self_eq_false,Bool.false_eq_true,if_false];refine wpAny_pure ?_
    have:=h vs (List.Perm.refl _) (by
      rw [List.size_toArray] at h2
      match vs,h2 with
      | [],_=>exact List.Pairwise.nil
      | [x],_=>exact List.pairwise_singleton _ _
      | _::_::_,h2=>exact absurd h2 (by simp))
    show P _ { s with heap:=Heap.update _ a (Obj.mapSeq fun _=>(vs.toArray.zip vs.toArray).map (·.2)) };rw [ez];exact this
  · rw [if_neg h2,if_neg h2];have h2':2≤vs.length:=by rw [List.size_toArray] at h2; omega
    refine wpAny_bind (wpAny_mono (S.kind A h2' (fun κ' s'=>κ'=κ∧s'=_) ⟨rfl,rfl⟩) (fun κ' s' hk => ?_) fun _ _ x=>x.elim);obtain ⟨rfl,rfl⟩:=hk;have LO:Tim.LtOk prog w A E { s with heap:=((s.heap.update a (Obj.mapSeq fun _=>(#[]:Array Value))).push (seqObj "tuple" vs.toArray 0)).push (seqObj "list" #[] 0) } (vs.toArray.zip vs.toArray) κ' (fun p=>rnk lt (vs.map kf) (kf p.2)):=fun x y C hx hy hC=>by
      obtain ⟨x1,x2⟩:=zip_self hx;obtain ⟨y1,y2⟩:=zip_self hy;rw [x1,y1];refine S.less A x.2 y.2 C x2 y2 ?_;rw [← rnk_lt L (List.mem_map_of_mem x2) (List.mem_map_of_mem y2)];exact hC
    refine wpAny_bind (wpAny_mono (Tim.runs_ok LO (st:=SortSt.mk' κ' (vs.toArray.zip vs.toArray) #[] 7 none) (Q:=fun _ st'=>Tim.SB (vs.toArray.zip vs.toArray) κ' st'∧Tim.Seg (fun p=>rnk lt (vs.map kf) (kf p.2)) (arrOf st') 0 (vs.toArray.zip vs.toArray).size) ⟨Array.Perm.refl _,rfl,rfl⟩ rfl fun st' B S'=>⟨B,S'⟩) ?_ fun _ _ e=>e);rintro ⟨⟨⟩,st'⟩ s' ⟨rfl,B,S'⟩;dsimp only at B S' ⊢;refine wpAny_bind (seqEpoch_at ho6 rfl ?_);have hp:((arrOf st').toList.map (·.2)).Perm vs:=by
      have:=(Array.perm_iff_toList_perm.mp B.perm).map (·.2)
      rw [zip_snd] at this;exact this
    have hout:(arrOf st').map (·.2)=((arrOf st').toList.map (·.2)).toArray:=by
      apply Array.toList_inj.mp
      rw [Array.toList_map]
    rw [hout];refine wpAny_bind (listUpdate_at ho6 rfl ?_ (Nat.zero_le _) (by rw [List.size_toArray,hp.length_eq]; omega));rw [B.ok];simp only [bne_self_eq_false,Bool.false_eq_true,if_false];refine wpAny_pure (h _ hp ?_);rw [List.pairwise_map,List.pairwise_iff_getElem];intro i j hi hj hij;rw [Array.length_toList] at hi hj;have q:=S' i j (Nat.zero_le _) (Nat.le_of_lt hij) (by rw [← B.size]; exact hj);rw [Tim.kat_some (Array.getElem?_eq_getElem hi),Tim.kat_some (Array.getElem?_eq_getElem hj)] at q;have m1:(arrOf st')[i].2∈vs:=hp.mem_iff.mp (List.mem_map_of_mem (by simp));have m2:(arrOf st')[j].2∈vs:=hp.mem_iff.mp (List.mem_map_of_mem (by simp))
    have:=rnk_lt L (ks:=vs.map kf) (List.mem_map_of_mem m2) (List.mem_map_of_mem m1)
    show lt (kf (arrOf st')[j].2) (kf (arrOf st')[i].2)=false;rw [← this];exact decide_eq_false (by omega)
theorem sorted_all {r:Addr} {Q:Value→Shared→Prop} (L:Lin lt) (hcol:wpAny (model prog w) A.in1 (collect (.ref r)) (fun vs s1=>vs.length≤sizeLine∧∃ (κ:SortKind),(∀ h',(∀ b o,s1.heap.get? b=some o→h'.get? b=some o)→SrtA prog w vs kf lt κ { s1 with heap:=h' }) ∧
      ∀ out:List Value,out.Perm vs→out.Pairwise (fun x y=>lt (kf y) (kf x)=false)→Q (.ref s1.heap.objs.size) { s1 with heap:=sortedHeap (s1.heap.push (seqObj "list" vs.toArray 0)) s1.heap.objs.size vs out.toArray }) E s) :
    wpAny (model prog w) A (call (.builtin "sorted") [.ref r]) Q E s:=by
  refine Calls.call_function_entry kind_sorted plain_sorted entry_sorted (args_sorted1 _) ?_;unfold Builtin.«sorted»;refine wpAny_bind (m:=checkCount "sorted" 1 1 _) (wpAny_pure ?_)
  refine wpAny_bind (wpAny_mono hcol (fun vs s1 ⟨sz,κ,hS,hq⟩ => ?_) fun _ _ e=>e);refine wpAny_bind (wpAny_newList ?_ sz);have hoL:(s1.heap.push (seqObj "list" vs.toArray 0)).get? s1.heap.objs.size=some (seqObj "list" vs.toArray 0):=Heap.get?_push_size _ rfl
  show wpAny _ _ _ _ _ { s1 with heap:=s1.heap.push (seqObj "list" vs.toArray 0) }
  refine wpAny_bind (wpAny_holding (wpAny_call_entry slot_list_sort ⟨_,hoL,rfl⟩ entry_list_sort (list_sort_all (kf:=kf) (κ:=κ) L hoL sz (fun h' kp=>hS h' fun b o e => ?_) fun out o u=>⟨_,rfl,?_⟩) (args_list_sort _)))
  · exact kp b o (Nat.ne_of_lt (Heap.lt_size e)) (Heap.get?_push_of_some _ e)
  · exact wpAny_pure ⟨_,rfl,hq out o u⟩
end

theorem lin_txt:Lin (fun (a b:List Nat)=>decide (a < b)):=by
  refine ⟨fun a=>by simpa using List.lt_irrefl a,fun a b c h1 h2 => ?_,fun a b h1 h2 => ?_⟩
  · simp only [decide_eq_true_eq] at *;exact List.lt_trans h1 h2
  · simp only [decide_eq_false_iff_not] at *;exact List.le_antisymm (List.not_lt.mp h2) (List.not_lt.mp h1)
theorem lin_int:Lin (fun (a b:Int)=>decide (a < b)):=by
  refine ⟨fun a=>by simp,fun a b c h1 h2 => ?_,fun a b h1 h2 => ?_⟩
  · simp only [decide_eq_true_eq] at *;omega
  · simp only [decide_eq_false_iff_not] at *;omega
def lexB {α β:Type} [DecidableEq α] (l:α→α→Bool) (m:β→β→Bool) (x y:α × β):Bool:=if x.1=y.1 then m x.2 y.2 else l x.1 y.1
theorem lin_lex {α β:Type} [DecidableEq α] {l:α→α→Bool} {m:β→β→Bool} (hl:Lin l) (hm:Lin m):Lin (lexB l m):=by
  refine ⟨fun x=>by unfold lexB; rw [if_pos rfl]; exact hm.irr _,fun x y z h1 h2 => ?_,fun x y h1 h2 => ?_⟩
  · unfold lexB at h1 h2 ⊢;by_cases e1:x.1=y.1
    · rw [if_pos e1] at h1;by_cases e2:y.1=z.1
      · rw [if_pos e2] at h2;rw [if_pos (e1.trans e2)];exact hm.tr _ _ _ h1 h2
      · rw [if_neg e2] at h2;rw [e1,if_neg e2];exact h2
    · rw [if_neg e1] at h1;by_cases e2:y.1=z.1
      · rw [← e2,if_neg e1];exact h1
      · rw [if_neg e2] at h2;have h3:=hl.tr _ _ _ h1 h2;by_cases e3:x.1=z.1
        · rw [e3,hl.irr] at h3;cases h3
        · rw [if_neg e3];exact h3
  · unfold lexB at h1 h2;by_cases e1:x.1=y.1
    · rw [if_pos e1] at h1;rw [if_pos e1.symm] at h2;exact Prod.ext e1 (hm.tot _ _ h1 h2)
    · rw [if_neg e1] at h1;rw [if_neg (Ne.symm e1)] at h2;exact absurd (hl.tot _ _ h1 h2) e1
def adrOf:Value→Addr
  | .ref a=>a
  | _=>0
section
variable {prog:Program} {w:World} {s:Shared}
end
section
variable {X:Cx}
theorem Inv.sortd {pins:List (Addr × Obj)} {σ:St} {H:Hp} {s:Shared} {a:Addr} {its out:List Value} {us:List V} (I:Inv X pins σ H s) (hz:us.length≤sizeLine) (ho:Vals us out) :
    ∃ S,H S=none∧Inv X pins σ (upd H S (.lst us)) { s with heap:=sortedHeap (((s.heap.push (seqObj "list" #[] 0)).update s.heap.objs.size (Obj.mapSeq (· ++ its.toArray))).push (seqObj "list" its.toArray 0)) ((s.heap.push (seqObj "list" #[] 0)).update s.heap.objs.size (Obj.mapSeq (· ++ its.toArray))).objs.size its out.toArray } ∧
      S=((s.heap.push (seqObj "list" #[] 0)).update s.heap.objs.size (Obj.mapSeq (· ++ its.toArray))).objs.size:=by
  have kp:∀ b o,s.heap.get? b=some o→((s.heap.push (seqObj "list" #[] 0)).update s.heap.objs.size (Obj.mapSeq (· ++ its.toArray))).get? b=some o:=fun b o e =>
    (Heap.get?_update_other _ _ (Ne.symm (Nat.ne_of_lt (Heap.lt_size e)))).trans (Heap.get?_push_of_some _ e)
  have I1:Inv X pins σ H { s with heap:=(s.heap.push (seqObj "list" #[] 0)).update s.heap.objs.size (Obj.mapSeq (· ++ its.toArray)) }:=I.kept (t':=s.toks) kp
  obtain ⟨n2,hS⟩:=sortedHeap_is (h:=(s.heap.push (seqObj "list" #[] 0)).update s.heap.objs.size (Obj.mapSeq (· ++ its.toArray))) (vs:=its) (out:=out.toArray)
  refine ⟨_,I1.hok.fresh (Nat.le_refl _),I1.laid (t':=s.toks) (fun b o e=>sortedHeap_keep e) (Nat.le_refl _) ⟨hz,out,n2,ho,hS⟩,rfl⟩
end
end L2

namespace L2
open PySem PySem.Spec PySem.Calls PyProof.Rows PySem.W


abbrev Pky:Type:=List Nat × Int × List Nat
def pkV (x:Str):V→Pky
  | .int i=>(x.cps.toList,i,[])
  | .str y=>(x.cps.toList,0,y.cps.toList)
  | _=>(x.cps.toList,0,[])
def pkH (H:Hp) (a:Addr):Pky:=match H a with
  | some (.tup [.str x,v])=>pkV x v
  | _=>([],0,[])
def ltP:Pky→Pky→Bool:=lexB (fun a b=>decide (a < b)) (lexB (fun a b=>decide (a < b)) (fun a b=>decide (a < b)))
theorem lin_P:Lin ltP:=lin_lex lin_txt (lin_lex lin_int lin_txt)

def Snd (t:Bool) (v:V):Prop:=if t=true then ∃ y,v=.str y else ∃ i,v=.int i
section
variable {prog:Program} {w:World} {A:Around} {s:Shared}
theorem cps_inj {x y:Str} (h:x.cps.toList=y.cps.toList):x=y:=by
  cases x; cases y;simp only [Str.mk.injEq];exact Array.toList_inj.mp h
theorem less_pair {x y:Addr} {a b:Str} {p q:V} {vx vy:List Value} {t:Bool} {C:Bool→Shared→Prop} (hp:Snd t p) (hq:Snd t q) (ix:IsTup s.heap x vx.toArray) (iy:IsTup s.heap y vy.toArray) (rx:Vals [.str a,p] vx) (ry:Vals [.str b,q] vy)
    (h:C (ltP (pkV a p) (pkV b q)) s):wpAny (model prog w) A (keyLt' (tuples' true) (.ref x) (.ref y)) C (fun _ _=>False) s:=by
  obtain ⟨ox,hx,_,n,dx⟩:=ix;obtain ⟨oy,hy,_,m,dy⟩:=iy;cases rx with
  | cons r1 rx =>
  cases rx with
  | cons r2 rx =>
  cases rx;cases ry with
  | cons r3 ry =>
  cases ry with
  | cons r4 ry =>
  cases ry;obtain ⟨t1,rfl⟩:=r1;obtain ⟨t3,rfl⟩:=r3;refine kat_lt hx dx hy dy (kat_cons (wpAny_eqBool_str (kat_go (fun e=>kat_yes ?_) fun e=>kat_no ?_)))
  · have e':a=b:=by simpa using e
    subst e';cases t with
    | true =>
      obtain ⟨c,rfl⟩:=hp;obtain ⟨d,rfl⟩:=hq;obtain ⟨t2,rfl⟩:=r2;obtain ⟨t4,rfl⟩:=r4;have hv:ltP (pkV a (.str c)) (pkV a (.str d))=decide (c.cps.toList < d.cps.toList):=by
        simp only [ltP,lexB,pkV,if_true];exact decide_eq_decide.mpr Iff.rfl
      rw [hv] at h;refine kat_cons (wpAny_eqBool_str (kat_go (fun e=>kat_yes (kat_nil ?_)) fun e=>kat_no (kat_one _ _ (PySem.P.lt_str ?_))))
      · have e':c=d:=by simpa using e
        subst e';rw [decide_eq_false (List.lt_irrefl _)] at h;simpa using h
      · exact h
    | false =>
      obtain ⟨c,rfl⟩:=hp;obtain ⟨d,rfl⟩:=hq;obtain ⟨t2,rfl⟩:=r2;obtain ⟨t4,rfl⟩:=r4;have hv:ltP (pkV a (.int c)) (pkV a (.int d))=decide (c < d):=by
        simp only [ltP,lexB,pkV,if_true];by_cases e:c=d
        · subst e; simp
        · exact (if_neg e).trans (decide_eq_decide.mpr Iff.rfl)
      rw [hv] at h;refine kat_cons (wpAny_eqBool_int (kat_go (fun e=>kat_yes (kat_nil ?_)) fun e=>kat_no (kat_one _ _ (PySem.P.lt_int ?_))))
      · have e':c=d:=by simpa using e
        subst e';simpa using h
      · exact h
  · have e':¬ a=b:=by simpa using e
    show wpAny _ _ (oneLt' true _ _) _ _ _;refine oneLt_str ?_;have hv:ltP (pkV a p) (pkV b q)=decide (a.cps.toList < b.cps.toList):=by
      have f1:∀ (x:Str) (v:V),(pkV x v).1=x.cps.toList:=fun x v=>by cases v <;> rfl
      unfold ltP lexB;rw [f1,f1,if_neg fun e=>e' (cps_inj e)]
    rw [← hv];exact h

def Prs (H:Hp) (t:Bool) (as:List Addr):Prop:=∀ b∈as,∃ x v,H b=some (.tup [.str x,v])∧Snd t v
theorem srt_prs {H:Hp} {t:Bool} {as:List Addr} (hP:Prs H t as) (hok:∀ b x v,H b=some (.tup [.str x,v])→∃ its:List Value,Vals [.str x,v] its∧IsTup s.heap b its.toArray) :
    SrtA prog w (as.map Value.ref) (fun v=>pkH H (adrOf v)) ltP (tuples' true) s:=by
  refine ⟨fun A h2 Q q => ?_,fun A x y C hx hy q => ?_⟩
  · have kt:∀ (as:List Addr),Prs H t as→∃ fs:List Value,KatTups s.heap (as.map Value.ref) fs∧fs.length=as.length∧∀ v∈fs,∃ (k:Str) (t:Tok),v=.str k t:=by
      intro as
      induction as with
      | nil=>intro _; exact ⟨[],KatTups.nil,rfl,fun v hv=>nomatch hv⟩
      | cons a as ih =>
        intro hP;obtain ⟨x,v,e,_⟩:=hP a (by simp);obtain ⟨its,r,o,ho,hc,n,hd⟩:=hok a x v e;obtain ⟨fs,f1,f2,f3⟩:=ih fun b hb=>hP b (by simp [hb]);cases r with
        | cons r1 r =>
          obtain ⟨tk,rfl⟩:=r1;refine ⟨.str x tk::fs,KatTups.cons ho hc hd (by simp) f1,by simp [f2],fun v hv => ?_⟩;rcases List.mem_cons.mp hv with rfl | hv
          · exact ⟨x,tk,rfl⟩
          · exact f3 v hv
    obtain ⟨fs,f1,f2,f3⟩:=kt as hP;refine kat_kind (T:=.type "str") f1 (by rw [f2]; rw [List.length_map] at h2; omega) (fun v hv => ?_) (by decide) q
    obtain ⟨k,t,rfl⟩:=f3 v hv;exact Looks.now
  · obtain ⟨a,ha,rfl⟩:=List.mem_map.mp hx;obtain ⟨b,hb,rfl⟩:=List.mem_map.mp hy;obtain ⟨x,v,e1,s1⟩:=hP a ha;obtain ⟨y,u,e2,s2⟩:=hP b hb;obtain ⟨ix,r1,i1⟩:=hok a x v e1;obtain ⟨iy,r2,i2⟩:=hok b y u e2;refine less_pair s1 s2 i1 i2 r1 r2 ?_;have f1:pkH H (adrOf (.ref a))=pkV x v:=by show pkH H a=_; unfold pkH; rw [e1]
    have f2:pkH H (adrOf (.ref b))=pkV y u:=by show pkH H b=_; unfold pkH; rw [e2]
    rw [← f1,← f2];exact q
end
section
variable {X:Cx}
theorem vals_refs:∀ {as:List Addr} {its:List Value},Vals (as.map V.ref) its→its=as.map Value.ref
  | [],its,r=>by cases r; rfl
  | a::as,its,r=>by
    cases r with
    | cons h t =>
      rw [vals_refs t,show _=Value.ref a from h];rfl
theorem refs_vals:∀ (as:List Addr),Vals (as.map V.ref) (as.map Value.ref)
  | []=>.nil
  | _::as=>.cons rfl (refs_vals as)
theorem call_sortP (hc:X.calm=true):CallR X (.builtin "sorted") (fun xs H Q=>∃ (a:Addr) (t:Bool) (as:List Addr),xs=[.ref a]∧SqL X.K H a (as.map V.ref)∧Prs H t as ∧
    ∀ (S:Addr) (as':List Addr),H S=none→as'.Perm as→as'.Pairwise (fun x y=>ltP (pkH H y) (pkH H x)=false)→Q (.ref S) (upd H S (.lst (as'.map V.ref)))):=by
  intro pins s σ H xs us Q I r h;obtain ⟨a,t,as,rfl,hS,hP,q⟩:=h;obtain ⟨u,rfl,ru⟩:=vals1 r;cases ru;obtain ⟨its,rv,pl,sz⟩:=I.list hS;have sz':its.length≤sizeLine:=by rw [← rv.length]; exact sz
  obtain rfl:=vals_refs rv;refine sorted_all (kf:=fun v=>pkH H (adrOf v)) lin_P (collect_list pl.isList ?_ sz');have kp0:∀ b o,s.heap.get? b=some o→((s.heap.push (seqObj "list" #[] 0)).update s.heap.objs.size (Obj.mapSeq (· ++ (as.map Value.ref).toArray))).get? b=some o:=fun b o e =>
    (Heap.get?_update_other _ _ (Ne.symm (Nat.ne_of_lt (Heap.lt_size e)))).trans (Heap.get?_push_of_some _ e)
  refine ⟨sz',tuples' true,fun h' kp=>srt_prs (t:=t) hP fun b x v e => ?_,fun out hp hw => ?_⟩
  · obtain ⟨_,its,r,it⟩:=I.hok b _ e;exact ⟨its,r,it.keeps fun c o e=>kp c o (kp0 c o e)⟩
  have ro:out=(out.map adrOf).map Value.ref:=by
    rw [List.map_map];refine (List.map_id out).symm.trans (List.map_congr_left fun v hv => ?_);obtain ⟨b,_,rfl⟩:=List.mem_map.mp (hp.mem_iff.mp hv);rfl
  have pm:(out.map adrOf).Perm as:=by
    have:=hp.map adrOf
    rw [List.map_map] at this;have e:as.map (adrOf ∘ Value.ref)=as:=(List.map_congr_left fun b _=>rfl).trans (List.map_id as);rw [e] at this;exact this
  have rv2:Vals ((out.map adrOf).map V.ref) out:=by
    have:=refs_vals (out.map adrOf)
    rw [← ro] at this;exact this
  obtain ⟨S,h1,h2,h3⟩:=I.sortd (a:=a) (its:=as.map Value.ref) (by rw [rv2.length,hp.length_eq]; exact sz') rv2;subst h3;refine ⟨.ref _,_,h2,rfl,q _ _ h1 pm ?_⟩;rw [List.pairwise_map];exact hw
end
end L2

namespace L2
open PySem PySem.Spec PySem.Calls PyProof.Rows PySem.W

section
variable {X:Cx} {e lo st:Expr} {te:TE} {tl ts:TO} {p2 pos:Pos}
end
end L2

namespace L2
open PySem PySem.Spec PySem.Calls PyProof.Rows PySem.W

theorem lk_list_keys:typeLookup (.type "list") "keys" = pure none:=by rw [typeLookup_type,builtinLookup_eq_fast]; kernel_rfl
theorem entry_dul:entryFor table "dict.update.loop" = some Builtin.«dict.update.loop» := entryFor_of_tree (by kernel_rfl)
theorem plain_dul:plainId "dict.update.loop" = true:=by decide +kernel
section
variable {prog:Program} {w:World} {A:Around} {E:Value→Shared→Prop} {s:Shared} {a:Addr} {o:Obj} {xs:Array Value} {k:Nat}
theorem attr_miss {name:Str} {u:Tok} {Q:Value→Shared→Prop}
    (hx:s.heap.get? a=some o) (hc:o.cls=.type "list") (hdat:o.data=.seq xs k) (hd:o.dict=none) (hmiss:typeLookup (.type "list") name=pure none) (hname:(["__module__","__name__","__qualname__","__doc__","__annotations__"]:List Str).contains name=false) (hA:A.handled=none)
    (h:∀ h' tk e,Heap.NewExcOf s.heap h' e "AttributeError" → E (.ref e) { s with heap:=h',toks:=tk }) (hsz:name.length + 100≤sizeLine:=by size_fits) :
    wpAny (model prog w) A (getAttrBy (.ref a) (.str name u) false) Q E s:=by
  obtain ⟨c,dct,dat,sl⟩:=o;simp only at hc hdat hd;subst hc hdat hd;obtain ⟨hp,g,d,tk,os⟩:=s;have hT:∀ tk',(⟨hp,g,d,tk',os⟩:Shared).TypeIs (.ref a) "list" := fun _=>⟨_,hx,rfl⟩
  have f1:=sub_AttributeError;have f3:=PySem.F.slot_list_getattribute.lookup;have f4:=PySem.F.slot_list_getattribute.bind (.ref a);have f5:=am_list_getattr_none;unfold getAttrBy
  repeat (any_goals (first | assumption | exact hT _ | ((with_reducible show wpAny _ _ (call (Value.builtin "list.__getattribute__") _ _) _ _ _); refine call_meets PySem.F.slot_list_getattribute (hT _) am_entry_list_getattribute (PySem.F.args_list_getattribute_2 _ _) (meets_getattribute_miss_list a xs k sl name _ hmiss hname hsz) ⟨hx,hA,fun h' tk' e hx' => ?_⟩) | wp_step))
  all_goals (try (obtain ⟨t',u',he⟩:=hx'.there))
  all_goals (try (show wpAny _ _ (getattributeRaised _ _ _ _ _ _ _) _ _ _; unfold getattributeRaised))
  repeat (any_goals (first | assumption | wp_step))
  exact h _ _ _ hx'.of
theorem no_keys {Q:Option Value→Shared→Prop} (hx:s.heap.get? a=some o) (hc:o.cls=.type "list") (hdat:o.data=.seq xs k) (hd:o.dict=none) (hA:A.handled=none)
    (h:∀ h' tk,(∀ b u,s.heap.get? b=some u→h'.get? b=some u)→Q none { s with heap:=h',toks:=tk }):wpAny (model prog w) A (getAttr? (.ref a) "keys") Q E s:=by
  unfold getAttr? getAttrBy?;refine wpAny_bind (wpAny_mkText (wpAny_bind (wpAny_attempt (attr_miss (s:={ s with toks:=s.toks + 1 }) hx hc hdat hd lk_list_keys (by decide +kernel) hA (fun h' tk e x => ?_) (by rw [sizeLine_eq]; decide +kernel)))));obtain ⟨ob,vs,e1,e2,_⟩:=x.there;have hT:({ s with heap:=h',toks:=tk }:Shared).TypeIs (.ref e) "AttributeError" := ⟨ob,e1,e2⟩
  show wpAny _ _ (isInstance (.ref e) (.type "AttributeError") >>= _) _ _ _
  refine wpAny_bind (wpAny_isInstance hT sub_AttributeError ?_);simp only [if_true];exact wpAny_pure (h h' tk x.keeps)

def PrsH {K:Type} [DecidableEq K] (knd:KeyKind prog w K) (h:Heap) (items:Array Value) (ps:List (K × Value)):Prop :=
  items.size=ps.length∧∀ (i:Nat) (v:Value),items[i]? = some v→∃ (a:Addr) (o:Obj) (n:Nat) (key x:Value) (k:K),v=.ref a∧h.get? a=some o∧o.cls=.type "tuple" ∧ o.data=.seq #[key,x] n∧knd.is k key=true∧ps[i]? = some (k,x)
theorem dul_ok {K:Type} [DecidableEq K] {knd:KeyKind prog w K} {R:Result→Shared→Prop} {d it l:Addr} {items:Array Value} {ps:List (K × Value)} (hh:A.handled=none) (hdl:d≠l) (hdi:d≠it) (hli:l≠it) (nd:(ps.map (·.1)).Nodup) (hsz:ps.length≤sizeLine) :
    ∀ (m i:Nat) (s:Shared) (tk:Tok),items.size - i=m→i≤items.size→s.heap.IsListIter it l i→s.heap.IsList l items→PrsH knd s.heap items ps→s.heap.DictOf knd d (ps.take i) →
      (∀ (j:Nat) (b:Addr),items[j]? = some (.ref b)→b≠d∧b≠it) →
      (∀ h' tk',h'.DictOf knd d ps→(∀ b u,b≠d→b≠it→s.heap.get? b=some u→h'.get? b=some u)→R (.ok (.ret .none)) { s with heap:=h',toks:=tk' }) →
      codeAny (model prog w) A (.builtin "dict.update.loop" ⟨[.ref d,.ref it,.int (i:Int) tk,.none],[]⟩) R s:=by
  intro m
  induction m with
  | zero =>
    intro i s tk hm hi hit hl hP hd hne hR;have e:i=items.size:=by omega
    subst e;refine codeAny_builtin entry_dul ?_;rw [Around.under_plainId plain_dul _];show wpAny _ A.in1 (pyNext (.ref it) >>= _) _ _ s;refine wpAny_bind ((Walks.list (A:=A.in1) hh it l hli items).done s _ _ ⟨hit,hl⟩ fun h' tk' kk => ?_);show wpAny _ _ (Builtin.Dict.addKeywords d [] >>= fun _=>ret Value.none) _ _ _;refine wpAny_bind (wpAny_pure (wpAny_pure (hR h' tk' ?_ fun b u _ hb e=>kk b u (by simpa using hb) e)));have e1:ps.take items.size=ps:=by rw [hP.1]; exact List.take_length
    rw [e1] at hd;obtain ⟨o,es,ep,ho,r⟩:=hd;exact ⟨o,es,ep,kk d o (by simpa using hdi) ho,r⟩
  | succ m ih =>
    intro i s tk hm hi hit hl hP hd hne hR;have hlt:i < items.size:=by omega
    refine codeAny_builtin entry_dul ?_;rw [Around.under_plainId plain_dul _];show wpAny _ A.in1 (pyNext (.ref it) >>= _) _ _ s;refine wpAny_bind ((Walks.list (A:=A.in1) hh it l hli items).item i s _ _ hlt ⟨hit,hl⟩ fun v h' tk' hv st' kk => ?_);obtain ⟨b,o,n,key,x,k,rfl,hb,hc,hdat,hk,hps⟩:=hP.2 i v hv;have hbn:=hne i b hv;have hb':h'.get? b=some o:=kk b o (by simpa using hbn.2) hb;have hd':h'.DictOf knd d (ps.take i):=by
      obtain ⟨o,es,ep,ho,r⟩:=hd;exact ⟨o,es,ep,kk d o (by simpa using hdi) ho,r⟩
    dsimp only;refine wpAny_bind (wpAny_holding (wpAny_bind (wpAny_tryCatch ?_)));unfold Builtin.Dict.pairItems;refine wpAny_bind (wpAny_typeOf (T := "tuple") ⟨o,hb',hc⟩ ?_)
    rw [if_pos (by decide)];unfold seqItems?;refine wpAny_bind (wpAny_bind (wpAny_load hb' ?_));rw [hdat];refine wpAny_pure (wpAny_pure ?_);show wpAny _ _ (holding [key,x] (dictSet d key x)) _ _ _;have hi2:i < ps.length:=(List.getElem?_eq_some_iff.mp hps).1;have et:ps.take (i + 1)=ps.take i++[(k,x)]:=by rw [List.take_add_one,hps]; rfl
    refine wpAny_holding (wpAny_dictSet_pairs (s:={ s with heap:=h',toks:=tk' }) hk hd' (fun h2 hd2 sb => ?_) (by rw [List.length_take]; omega));have ea:stored (ps.take i) k x=ps.take (i + 1):=by
      unfold stored;rw [if_neg,et];intro h;rw [List.any_eq_true] at h;obtain ⟨q,hq,e⟩:=h;have e':q.1=k:=by simpa using e
      have nd2:((ps.take (i + 1)).map (·.1)).Nodup:=by
        have:=nd.sublist ((List.take_sublist (i + 1) ps).map (·.1))
        exact this
      rw [et,List.map_append,List.nodup_append] at nd2;exact nd2.2.2 q.1 (List.mem_map_of_mem hq) k (by simp) e'
    rw [ea] at hd2;have kk2:∀ b u,b≠d→h'.get? b=some u→h2.get? b=some u:=fun b u hb e=>(sb.2 b hb).trans e;refine wpAny_pure ⟨plainId_quiet plain_dul _,?_⟩;have ei:rawInt ((i:Int) + 1)=Value.int ((i + 1:Nat):Int) 0:=rfl;rw [ei];refine ih (i + 1) { s with heap:=h2,toks:=tk' + 1 } 0 (by omega) hlt ?_ ?_ ?_ hd2 hne fun h3 tk3 q1 q2=>hR h3 tk3 q1 fun b u hb1 hb2 e=>q2 b u hb1 hb2 (kk2 b u hb1 (kk b u (by simpa using hb2) e))
    · exact st'.1.at fun o e=>kk2 it o (Ne.symm hdi) e
    · exact st'.2.at fun o e=>kk2 l o (Ne.symm hdl) e
    · refine ⟨hP.1,fun j v hv' => ?_⟩;obtain ⟨b',o',n',key',x',k',e1,e2,e3,e4,e5,e6⟩:=hP.2 j v hv';subst e1;have hbn':=hne j b' hv';exact ⟨b',o',n',key',x',k',rfl,kk2 b' o' hbn'.1 (kk b' o' (by simpa using hbn'.2) e2),e3,e4,e5,e6⟩
end
section
variable {prog:Program} {w:World} {A:Around} {E:Value→Shared→Prop} {s:Shared}
theorem call_dict_pairs {K:Type} [DecidableEq K] {knd:KeyKind prog w K} {l:Addr} {items:Array Value} {ps:List (K × Value)} {Q:Value→Shared→Prop} (hh:A.handled=none) (hl:PlainL s.heap l items) (hP:PrsH knd s.heap items ps) (nd:(ps.map (·.1)).Nodup) (hsz:ps.length≤sizeLine)
    (h:∀ h' tk,h'.DictOf knd s.heap.objs.size ps→(∀ b u,s.heap.get? b=some u→h'.get? b=some u)→Q (.ref s.heap.objs.size) { s with heap:=h',toks:=tk }) :
    wpAny (model prog w) A (call (.type "dict") [.ref l]) Q E s:=by
  refine callType_codes (Q₁:=fun obj s₁=>obj=.ref s.heap.objs.size∧s₁={ s with heap:=s.heap.push { cls:=.type "dict",data:=.dict #[] } }) PySem.F.kt_called_dict (PySem.F.kt_typeCall_dict_1 _) PySem.F.entry_dict_init (kt_code_dict_new _ ⟨rfl,rfl⟩) ?_
  rintro obj s₁ ⟨rfl,rfl⟩;have hnew:(s.heap.push { cls:=.type "dict",data:=.dict #[] }).DictOf knd s.heap.objs.size []:=Heap.DictOf.new s.heap
  obtain ⟨o,n,ho,hc,hd0,hdat⟩:=hl;have hol:l < s.heap.objs.size:=Heap.lt_size ho;have ho':(s.heap.push { cls:=.type "dict",data:=.dict #[] }).get? l=some o:=Heap.get?_push_of_some _ ho
  refine ⟨hnew.typeIs,PySem.F.args_dict_init_2 _ _,?_⟩;unfold Builtin.«dict.__init__»;refine wpAny_bind ?_;unfold Builtin.Dict.selfAndRest;refine wpAny_bind (wpAny_notOrdered_dict hnew.typeIs ?_);show wpAny _ _ (pure (s.heap.objs.size,[Value.ref l])) _ _ _;refine wpAny_pure ?_;show wpAny _ _ (Builtin.Dict.updateFrom "dict.__init__" s.heap.objs.size (.ref l) [] .none) _ _ _
  unfold Builtin.Dict.updateFrom;refine wpAny_bind (wpAny_typeOf (T := "list") ⟨o,ho',hc⟩ ?_)
  rw [if_pos (by decide)];refine wpAny_bind (no_keys ho' hc hdat hd0 hh fun h1 tk1 k1 => ?_);dsimp only at k1 ⊢;rw [if_pos (show (none:Option Value).isNone=true from rfl)];refine wpAny_bind (wpAny_rule ?_);have hl1:h1.IsList l items:=⟨o,k1 l o ho',hc,n,hdat⟩;refine wpAny_bind (wpAny_pyIter_list hl1 ?_);dsimp only;have hd1:h1.DictOf knd s.heap.objs.size []:=by
    obtain ⟨o,es,ep,ho,r⟩:=hnew;exact ⟨o,es,ep,k1 _ o ho,r⟩
  have hsd:s.heap.objs.size < h1.objs.size:=by
    obtain ⟨o,es,ep,ho,r⟩:=hd1;exact Heap.lt_size ho
  refine wpAny_pure ⟨plainId_quiet plain_dul _,?_⟩;have e0:rawInt 0=Value.int ((0:Nat):Int) 0:=rfl;rw [e0];have kp:∀ b u,s.heap.get? b=some u→h1.get? b=some u:=fun b u e=>k1 b u (Heap.get?_push_of_some _ e);have hit:(h1.push { cls:=.type "list_iterator",data:=.fields #[.ref l,.int 0 0] }).IsListIter h1.objs.size l 0:=⟨_,Heap.get?_push_size _ rfl,rfl,rfl⟩
  refine dul_ok (A:=A.in1) (knd:=knd) (l:=l) (items:=items) (ps:=ps) (show A.in1.handled=none from hh) (Nat.ne_of_gt hol) (Nat.ne_of_lt hsd) (Nat.ne_of_lt (Nat.lt_trans hol hsd)) nd hsz items.size 0 { s with heap:=h1.push { cls:=.type "list_iterator",data:=.fields #[.ref l,.int 0 0] },toks:=tk1 } 0 (by omega) (Nat.zero_le _) hit ?_ ?_ ?_ ?_ fun h2 tk2 q1 q2 => ?_
  · obtain ⟨o',ho2,r⟩:=hl1;exact ⟨o',Heap.get?_push_of_some _ ho2,r⟩
  · refine ⟨hP.1,fun j v hv => ?_⟩;obtain ⟨b',o',n',key',x',k',e1,e2,e3,e4,e5,e6⟩:=hP.2 j v hv;exact ⟨b',o',n',key',x',k',e1,Heap.get?_push_of_some _ (kp _ _ e2),e3,e4,e5,e6⟩
  · obtain ⟨o',es,ep,ho2,r⟩:=hd1;exact ⟨o',es,ep,Heap.get?_push_of_some _ ho2,r⟩
  · intro j b hv;obtain ⟨b',o',n',key',x',k',e1,e2,_⟩:=hP.2 j _ hv;cases e1
    have:=Heap.lt_size e2
    exact ⟨Nat.ne_of_lt this,Nat.ne_of_lt (Nat.lt_trans this hsd)⟩
  · exact ⟨rfl,h h2 tk2 q1 fun b u e=>q2 b u (Nat.ne_of_lt (Heap.lt_size e)) (Nat.ne_of_lt (Nat.lt_trans (Heap.lt_size e) hsd)) (Heap.get?_push_of_some _ (kp b u e))⟩
end

abbrev PairsAt (H:Hp):List Addr→List (Key × V)→Prop:=Paired fun a kv=>H a=some (.tup [kV kv.1,kv.2])
section
variable {X:Cx}
theorem call_dictL (hc:X.calm=true):CallR X (.type "dict") (fun xs H Q=>∃ (a:Addr) (as:List Addr) (kvs:List (Key × V)),xs=[.ref a]∧SqL X.K H a (as.map V.ref)∧PairsAt H as kvs∧(kvs.map (·.1)).Nodup∧∀ p,H p=none→Q (.ref p) (upd H p (.dK kvs))):=by
  intro pins s σ H xs us Q I r h;obtain ⟨a,as,kvs,rfl,hS,hA,nd,q⟩:=h;obtain ⟨u,rfl,ru⟩:=vals1 r;cases ru;obtain ⟨its,rv,pl,sz⟩:=I.list hS;obtain rfl:=vals_refs rv;have key:∀ (as:List Addr) (kvs:List (Key × V)),PairsAt H as kvs→∃ ps:List (Key × Value),KV kvs ps∧PrsH (mixKind X.prog X.w) s.heap (as.map Value.ref).toArray ps:=by
    intro as
    induction as with
    | nil =>
      intro kvs h;cases h;exact ⟨[],.nil,rfl,fun i v hv=>by simp at hv⟩
    | cons b as ih =>
      intro kvs h;cases h with
      | @cons _ kv _ kvs hb t =>
        obtain ⟨ps,k1,k2,k3⟩:=ih kvs t;obtain ⟨_,its,ri,o,ho,hcl,n,hdat⟩:=I.hok b _ hb;cases ri with
        | cons r1 ri=>cases ri with
          | cons r2 ri =>
            cases ri
            rename_i key' x'
            refine ⟨(kv.1,x')::ps,.cons ⟨rfl,r2⟩ k1,?_,fun i v hv => ?_⟩
            · rw [List.size_toArray,List.length_map] at k2 ⊢;rw [List.length_cons,List.length_cons,k2]
            · cases i with
              | zero =>
                have e:Value.ref b=v:=by simpa using hv
                exact ⟨b,o,n,key',x',kv.1,e.symm,ho,hcl,by rw [hdat],kV_is r1,rfl⟩
              | succ i =>
                obtain ⟨b',o',n',key',x',k',e1,e2,e3,e4,e5,e6⟩:=k3 i v (by simpa using hv);exact ⟨b',o',n',key',x',k',e1,e2,e3,e4,e5,by simpa using e6⟩
  obtain ⟨ps,k1,k2⟩:=key as kvs hA;have lk:kvs.length=ps.length:=KV.length k1;have lps:ps.length≤sizeLine:=by
    have:=k2.1
    rw [List.size_toArray,List.length_map] at this;rw [List.length_map] at sz;omega
  have ek:ps.map (·.1)=kvs.map (·.1):=by
    have:∀ {kvs:List (Key × V)} {ps:List (Key × Value)},KV kvs ps→ps.map (·.1)=kvs.map (·.1):=fun {kvs}=>by
      induction kvs with
      | nil=>intro ps h; cases h; rfl
      | cons a kvs ih =>
        intro ps h;cases h with
        | cons r t=>rw [List.map_cons,List.map_cons,ih t,r.1]
    exact this k1
  refine call_dict_pairs (knd:=mixKind X.prog X.w) (ps:=ps) (I.ok.hd hc) pl k2 (by rw [ek]; exact nd) lps fun h' tk hd kp => ?_;refine ⟨.ref s.heap.objs.size,upd H s.heap.objs.size (.dK kvs),I.laid (t':=tk) kp (Nat.le_refl _) ⟨by omega,?_,ps,k1,hd⟩,rfl,q _ (I.hok.fresh (Nat.le_refl _))⟩
  have:=I.big
  cases e:(s.heap.objs.size == sysModules) with
  | false=>rfl
  | true =>
    have e':s.heap.objs.size=sysModules:=by simpa using e
    rw [e'] at this;exact absurd this (Nat.lt_irrefl _)
end

section
variable {X:Cx}
theorem op_notInD (hu:X.A.units + 1 < cLine):OpR X (compareOp .NotIn) (fun x y H Q=>∃ (a:Addr) (o:Option V),y=.ref a∧DGet H a x o∧Q (.bl (!o.isSome)) H):=by
  intro pins s σ H x y v u Q I rx ry h;obtain ⟨a,o,rfl,g,q⟩:=h;cases ry;exact d_notIn hu I g rx fun s' I'=>⟨.bl _,H,I',rfl,q⟩
end
end L2

namespace L2
open PySem PySem.Spec PySem.Calls PyProof.Rows PySem.W

section
variable {P:Program} {w:World} {K:PySem.W.Frag} {mg:Str→Option Value} {base:Heap} {N:List Str} {qual:Str} {scope:Scope} {f:Addr} {cd:Value} {cl:List (Str × Addr)} {A:Around} {outer:List Env} {s0:Shared} {H0:Hp} {E:XK}
end

section
variable {X:Cx}
end

section
variable {X:Cx}
end
end L2

namespace L2
open PySem PySem.Spec PySem.Calls PyProof.Rows

section
variable {X:Cx} {st:Stmt} {rest:List Stmt} {t u:TS} {pos:Pos} {e a b:PySem.Expr} {te ta tb:TE}
end
section
variable {P:Program} {w:World} {K:PySem.W.Frag} {mg:Str→Option Value} {base:Heap}
end
end L2

namespace L2
open PySem PySem.Spec PySem.Calls PyProof.Rows

def Itk (d:Addr) (ob:Obj) (kvs:List (Key × V)):It :=
  ⟨fun i H=>H d=some (.frz ob (.dK kvs))∧i < kvs.length,fun i H x H'=>H'=H∧∃ k v,kvs[i]? = some (k,v)∧x=kV k,fun i H=>H d=some (.frz ob (.dK kvs))∧kvs.length≤i⟩
theorem relK {k:Key} {v:Value} (h:keyIs k v=true):RelV (kV k) v:=by
  rcases keyIs_shape h with ⟨i,t,rfl,rfl⟩ | ⟨x,t,rfl,rfl⟩
  · exact ⟨t,rfl⟩
  · exact ⟨t,rfl⟩
theorem kv_at {κ:Type} {kvs:List (κ × V)} {vs:List (κ × Value)} (h:KV kvs vs):∀ {i:Nat} {k:κ} {x:Value},vs[i]? = some (k,x)→∃ v,kvs[i]? = some (k,v)∧RelV v x:=by
  have h':Paired _ kvs vs:=h
  clear h
  induction h' with
  | nil=>intro i k x e; cases e
  | @cons a b as bs h _ ih =>
    intro i k x e;cases i with
    | zero=>cases e; exact ⟨a.2,congrArg some (Prod.ext h.1 rfl),h.2⟩
    | succ i=>exact ih e
theorem kv_get {κ:Type} {kvs:List (κ × V)} {vs:List (κ × Value)} (h:KV kvs vs) {i:Nat} {k:κ} {x:Value} (e:vs[i]? = some (k,x)):∃ v,kvs[i]? = some (k,v) :=
  (kv_at h e).imp fun _ h=>h.1
theorem turn_keys {P:Program} {w:World} {K:PySem.W.Frag} {tg:Expr} {h0:Heap} {d it:Addr} {ob:Obj} {kvs:List (Key × V)} {vs:List (Key × Value)} {ep:Nat} (kv:KV kvs vs) (hD:h0.DictAt (mixKind P w) d vs ep) (hob:h0.get? d=some ob) (hne:d≠it) :
    Turn P w K tg (Itk d ob kvs) [it] it (fun i h=>h.IsKeyIter it d i vs.length ep) where
  mem:=by simp
  obj:=fun i h st b hb=>by
    have e:b=it:=by simpa using hb
    subst e;obtain ⟨o,e,c,dd⟩:=st;exact ⟨o,e,fun v z=>by rw [dd] at z; cases z⟩
  keep:=fun i h h' st k=>st.at fun o e=>k it (by simp) o e
  item:=by
    intro X hP hw hK hc i pins s σ H E I hf st hg;subst hP hw hK;obtain ⟨f0,f1,f2,f3,f4,f5⟩:=hf it (by simp);obtain ⟨hd,hi⟩:=hg;have hl:kvs.length=vs.length:=Paired.length kv;have hD':s.heap.DictAt (mixKind X.prog X.w) d vs ep:=hD.at' fun o e=>by
      rw [hob] at e; cases e;exact (I.hok d _ hd).1
    obtain ⟨⟨k,x⟩,hx⟩:∃ p,vs[i]? = some p:=⟨vs[i],by simp [← hl,hi]⟩;refine wpAny_pyNext_dict_item st hD' hx fun key h' hkey st' sb => ?_;have I1:Inv X pins σ H { s with heap:=h' }:=I.turned (t':=s.toks) (fun b o hb e=>(sb.2 b hb).trans e) f0 f1 f3 f4 f5;obtain ⟨o,e,c,dd⟩:=id st';obtain ⟨v,hv⟩:=kv_get kv hx;exact ⟨key,rfl,go_of (s:={ s with heap:=h' }) e c dd (by decide) ⟨kV k,H,I1,relK hkey,⟨rfl,k,v,hv,rfl⟩,st',fun b hb=>(hf b hb).1⟩⟩
  done:=by
    intro X hP hw hK hc i pins s σ H E I hf st hg;subst hP hw hK;obtain ⟨f0,f1,f2,f3,f4,f5⟩:=hf it (by simp);obtain ⟨hd,hi⟩:=hg;have hl:kvs.length=vs.length:=Paired.length kv;have hD':s.heap.DictAt (mixKind X.prog X.w) d vs ep:=hD.at' fun o e=>by
      rw [hob] at e; cases e;exact (I.hok d _ hd).1
    exact wpAny_pyNext_dict_end (I.ok.hd hc) st hD' (by rw [List.getElem?_eq_none_iff]; omega) fun h' eb=>⟨rfl,I.turned (t':=s.toks) (fun b o hb e=>eb b o hb e) f0 f1 f3 f4 f5⟩
  self:=fun _ _ _ _ _ st h=>wpAny_pyIter_keyiter st h
section
variable {X:Cx} {tg:Expr}
def iKeys (tl:TE):TI:=fun σ H R=>tl σ H fun x H1=>∃ d kvs,x=.ref d∧H1 d=some (.dK kvs)∧∀ ob,R (Itk d ob kvs) (upd H1 d (.frz ob (.dK kvs)))
theorem Inv.frozen {pins:List (Addr × Obj)} {σ:St} {H:Hp} {s:Shared} {d:Addr} {ob:Obj} {kvs:List (Key × V)} (I:Inv X pins σ H s) (e:H d=some (.dK kvs)) (ho:s.heap.get? d=some ob):Inv X pins σ (upd H d (.frz ob (.dK kvs))) s:=by
  have old:∀ b o,H b=some o→b≠d→upd H d (.frz ob (.dK kvs)) b=some o:=fun b o q n=>by rw [upd_ne n]; exact q
  refine I.un (t':=s.toks) ⟨fun b o q _ _ _=>q,fun b o q _ _ _=>⟨o.slots,q⟩,fun b o q n _ => ?_,fun b o q _=>⟨o,q⟩,fun b xs q=>old b _ q fun z => ?_,fun b o u q=>old b _ q fun z => ?_,fun b ps q=>⟨#[],?_⟩⟩ fun b u q => ?_
  · rw [upd_ne fun z=>by rw [z,e] at n; cases n]; exact n
  · rw [z,e] at q; cases q
  · rw [z,e] at q; cases q
  · rw [old b _ q fun z=>by rw [z,e] at q; cases q]; simp
  · by_cases hb:b=d
    · subst hb;rw [upd_same] at q;cases q;refine ⟨ho,?_⟩;exact (I.hok b _ e).stay (fun _ _ _ r=>r) (fun c r=>old c _ r fun z=>by rw [z,e] at r; cases r) fun c xs r=>old c _ r fun z=>by rw [z,e] at r; cases r
    · rw [upd_ne hb] at q;exact (I.hok b u q).stay (fun _ _ _ r=>r) (fun c r=>old c _ r fun z=>by rw [z,e] at r; cases r) fun c xs r=>old c _ r fun z=>by rw [z,e] at r; cases r
theorem pi_keys {l:Expr} {tl:TE} (hl:PE X l tl):PI X tg l (iKeys tl):=by
  intro pins s σ H R I h;refine thn (hl pins s σ H _ I h) fun v s1 ⟨x,H1,I1,r1,q1⟩ => ?_;obtain ⟨d,kvs,e,hd,q⟩:=q1;subst e;cases r1;obtain ⟨_,hs,vs,kv,dof⟩:=I1.hok d _ hd;obtain ⟨o,es,ep,ho,r⟩:=id dof;have hD:s1.heap.DictAt (mixKind X.prog X.w) d vs ep:=⟨o,es,ho,r⟩;refine wpAny_pyIter_dict hs hD ?_;have I2:=I1.frozen hd ho;have hdl:d < s1.heap.objs.size:=Heap.lt_size ho;refine ⟨s1.heap.objs.size,[s1.heap.objs.size],_,_,_,rfl,I2.kept (t':=s1.toks) fun b o e=>Heap.get?_push_of_some _ e,turn_keys kv hD ho (Nat.ne_of_lt hdl),⟨_,Heap.get?_push_size _ rfl,rfl,rfl⟩,fun b hb => ?_,q o⟩;have e:b=s1.heap.objs.size:=by simpa using hb
  subst e;exact I2.fpOk (Nat.le_refl _) (I2.hok.fresh (Nat.le_refl _))
end

theorem for_keys {d:Addr} {ob:Obj} {kvs:List (Key × V)} {g:TG} {tb:TS} {D:Ends} {σ:St} {H:Hp} (Pv:Nat→St→Hp→Prop) (h0:Pv 0 σ H) (hl:∀ i σ H,i≤kvs.length→Pv i σ H→H d=some (.frz ob (.dK kvs)))
    (hs:∀ i k v σ H,kvs[i]? = some (k,v)→Pv i σ H→g (kV k) σ H fun σ2 H2=>tb { D with nx:=Pv (i + 1),ct:=Pv (i + 1),bk:=D.nx } σ2 H2) (hd:∀ σ H,Pv kvs.length σ H→D.nx σ H) :
    ∃ W:Nat→Nat→St→Hp→Prop,(∃ m,W 0 m σ H)∧∀ i m σ H,W i m σ H →
      ((Itk d ob kvs).stop i H∧D.nx σ H)∨((Itk d ob kvs).go i H∧∃ N:St→Hp→Prop,(∀ σ' H',N σ' H'→∃ m',m' < m∧W (i + 1) m' σ' H')∧∀ x H',(Itk d ob kvs).yld i H x H'→g x σ H' fun σ2 H2=>tb { D with nx:=N,ct:=N,bk:=D.nx } σ2 H2):=by
  refine ⟨fun i m σ H=>m=kvs.length - i∧i≤kvs.length∧Pv i σ H,⟨kvs.length,by simp,Nat.zero_le _,h0⟩,?_⟩;rintro i m σ H ⟨rfl,hi,p⟩;have q:=hl i σ H hi p;by_cases hlt:i < kvs.length
  · refine .inr ⟨⟨q,hlt⟩,Pv (i + 1),fun σ' H' p'=>⟨kvs.length - (i + 1),by omega,rfl,hlt,p'⟩,fun x H' y => ?_⟩;obtain ⟨e,k,v,hk,rfl⟩:=y;subst e;exact hs i k v σ _ hk p
  · have e:i=kvs.length:=by omega
    subst e;exact .inl ⟨⟨q,Nat.le_refl _⟩,hd σ H p⟩
section
variable {X:Cx}
theorem vals3 {x y z:V} {us:List Value} (r:Vals [x,y,z] us):∃ u v w',us=[u,v,w']∧RelV x u∧RelV y v∧RelV z w':=by
  cases r with
  | cons r1 r2 =>
    obtain ⟨v,w',rfl,h⟩:=vals2 r2;exact ⟨_,v,w',rfl,r1,h⟩

theorem call_max3 (hc:X.calm=true):CallR X (.builtin "max") (fun xs H Q=>∃ i j k:Int,xs=[.int i,.int j,.int k]∧Q (.int (if j > i then (if k > j then k else j) else (if k > i then k else i))) H):=by
  intro pins s σ H xs us Q I r h;obtain ⟨i,j,k,rfl,q⟩:=h;obtain ⟨u,v,w',rfl,⟨t,rfl⟩,⟨t',rfl⟩,⟨t'',rfl⟩⟩:=vals3 r;refine PySem.max_three_ints (I.ok.hd hc) fun h' tk kk=>⟨_,H,I.kept kk,?_,q⟩;by_cases h1:j > i
  · rw [if_pos h1,if_pos h1];by_cases h2:k > j
    · rw [if_pos h2,if_pos h2]; exact ⟨_,rfl⟩
    · rw [if_neg h2,if_neg h2]; exact ⟨_,rfl⟩
  · rw [if_neg h1,if_neg h1];by_cases h2:k > i
    · rw [if_pos h2,if_pos h2]; exact ⟨_,rfl⟩
    · rw [if_neg h2,if_neg h2]; exact ⟨_,rfl⟩
end
end L2

namespace L2
open PySem PySem.Spec PySem.Calls PyProof.Rows PySem.W

section
variable {prog:Program} {w:World} {A:Around} {E:Value→Shared→Prop} {s:Shared}
end
section
variable {X:Cx}
end

section
variable {prog:Program} {w:World} {A:Around} {E:Value→Shared→Prop} {s:Shared}
end
section
variable {prog:Program} {w:World} {A:Around} {E:Value→Shared→Prop} {s:Shared}
end
section
variable {X:Cx}

end
section
variable {X:Cx} {K:PySem.W.Frag}

end
end L2

namespace L2
open PySem PySem.Spec PySem.Calls PyProof.Rows PySem.W

section
variable {prog:Program} {w:World} {K:Type} [DecidableEq K] {knd:HeapKind prog w K} {A:Around} {E:Value→Shared→Prop} {s:Shared} {d b:Addr} {k:K} {ps:List (K × Addr × Value)}
end
section
variable {X:Cx} {o e f:Expr} {apos cpos:Pos} {td ty tx:TE}
end

section
open PySem.SeqAt
open PySem.AutoSeq1 (wpAny_loadPart')
open PySem.MeetsSeq PySem.MeetsSeq2 PySem.MeetsSeq3
end
section
variable {X:Cx}
end
end L2

namespace L2
open PySem PySem.Spec PySem.Calls PyProof.Rows PySem.W

section
variable {X:Cx} {tg:Expr}
def iKeysF (tl:TE):TI:=fun σ H R=>tl σ H fun x H1=>∃ d ob kvs,x=.ref d∧H1 d=some (.frz ob (.dK kvs))∧R (Itk d ob kvs) H1
theorem pi_keysF {l:Expr} {tl:TE} (hl:PE X l tl):PI X tg l (iKeysF tl):=by
  intro pins s σ H R I h;refine thn (hl pins s σ H _ I h) fun v s1 ⟨x,H1,I1,r1,q1⟩ => ?_;obtain ⟨d,ob,kvs,e,hd,q⟩:=q1;subst e;cases r1;obtain ⟨ho,ok⟩:=I1.hok d _ hd;obtain ⟨_,hs,vs,kv,dof⟩:=(show ObjOk X.prog X.w H1 s1.heap d (.dK kvs) from ok);obtain ⟨o,es,ep,ho',r⟩:=id dof;rw [ho] at ho';cases ho';have hD:s1.heap.DictAt (mixKind X.prog X.w) d vs ep:=⟨ob,es,ho,r⟩;refine wpAny_pyIter_dict hs hD ?_;have hdl:d < s1.heap.objs.size:=Heap.lt_size ho;refine ⟨s1.heap.objs.size,[s1.heap.objs.size],_,_,_,rfl,I1.kept (t':=s1.toks) fun b o e=>Heap.get?_push_of_some _ e,turn_keys kv hD ho (Nat.ne_of_lt hdl),⟨_,Heap.get?_push_size _ rfl,rfl,rfl⟩,fun b hb => ?_,q⟩;have e:b=s1.heap.objs.size:=by simpa using hb
  subst e;exact I1.fpOk (Nat.le_refl _) (I1.hok.fresh (Nat.le_refl _))
theorem call_lenR:CallR X (.builtin "len") (fun xs H Q=>∃ (a:Addr) (kvs:List (Key × V)),xs=[.ref a]∧Rd H a (.dK kvs)∧Q (.int kvs.length) H):=by
  intro pins s σ H xs us Q I r h;obtain ⟨a,kvs,rfl,e,q⟩:=h;obtain ⟨u,rfl,ru⟩:=vals1 r;cases ru;exact d_len I e fun t s' I'=>⟨.int _,H,I',⟨t,rfl⟩,q⟩

theorem call_listD (hc:X.calm=true):CallR X (.type "list") (fun xs H Q=>∃ (a:Addr) (kvs:List (Key × V)),xs=[.ref a]∧Rd H a (.dK kvs)∧∀ p,H p=none→Q (.ref p) (upd H p (.lst (kvs.map fun e=>kV e.1)))):=by
  intro pins s σ H xs us Q I r h;obtain ⟨a,kvs,rfl,e,q⟩:=h;obtain ⟨u,rfl,ru⟩:=vals1 r;cases ru;obtain ⟨z,hd,vs,rel,dof⟩:=dk_rd I.hok e;obtain ⟨o,es,ep,ho,r'⟩:=id dof;have hD:s.heap.DictAt (mixKind X.prog X.w) a vs ep:=⟨o,es,ho,r'⟩;have lv:kvs.length=vs.length:=KV.length rel;refine kdl_call (kdl_dict (knd:=mixKind X.prog X.w) (kvs:=vs) (ep:=ep) hd) (I.ok.hd hc) hD (by omega) ?_;intro h' tk acc c kp hS hi;have hv:Vals (kvs.map fun e=>kV e.1) acc.toList:=by
    refine vals_of _ _ (by rw [List.length_map,Array.length_toList (xs:=acc),hi.1,lv]) fun i x u hx hu => ?_;obtain ⟨k,y,e1,e2⟩:=hi.2 i u (by simpa using hu);obtain ⟨v,hv⟩:=kv_get rel e1;rw [List.getElem?_map,hv] at hx;rw [← Option.some.inj hx];exact relK e2
  exact ⟨.ref s.heap.objs.size,_,I.laid (t':=tk) kp (Nat.le_refl _) (show ObjOk X.prog X.w _ h' _ (.lst _) from ⟨by rw [List.length_map]; exact z,acc.toList,c,hv,by simpa using hS⟩),rfl,q _ (I.hok.fresh (Nat.le_refl _))⟩

end
section
variable {σ0 cs:St} {k:Nat} {g:TG} {te:TE} {tt:TT} {H1:Hp} {Q:VK}
theorem compCI_keys {d:Addr} {ob:Obj} {kvs:List (Key × V)} (Pv:Addr→Nat→List V→Hp→Prop) (hn:kvs.length≤sizeLine) (hq:∀ D i ys H,Pv D i ys H→H d=some (.frz ob (.dK kvs)))
    (hl:∀ D i ys H,Pv D i ys H→H D=some (.lst ys)∧ys.length≤i) (h0:∀ D,H1 D=none→Pv D 0 [] (upd H1 D (.lst [])))
    (hs:∀ D i c v ys H,kvs[i]? = some (c,v)→H1 D=none→Pv D i ys H→g (kV c) σ0 H fun σ2 H3=>σ2.drop k=cs∧tt σ2 H3 fun b H4=>if b=true then te σ2 H4 fun y H5=>H5 D=some (.lst ys)∧Pv D (i + 1) (ys++[y]) (upd H5 D (.lst (ys++[y]))) else Pv D (i + 1) ys H4)
    (hd:∀ D ys H,H1 D=none→Pv D kvs.length ys H→Q (.ref D) H) (mono:∀ x σ H (R R':St→Hp→Prop),(∀ σ' H',R σ' H'→R' σ' H')→g x σ H R→g x σ H R')
    (mono2:∀ σ H (R R':VK),(∀ v H',R v H'→R' v H')→te σ H R→te σ H R') (mono3:∀ σ H (R R':Bool→Hp→Prop),(∀ v H',R v H'→R' v H')→tt σ H R→tt σ H R'):compKCI σ0 k cs g tt te Q (Itk d ob kvs) H1 :=
  compCI_by kvs.length (fun i x=>∃ c v,kvs[i]? = some (c,v)∧x=kV c) Pv hn (fun D i ys H hi p=>⟨hq D i ys H p,hi⟩) (fun D ys H p=>⟨hq D _ ys H p,Nat.le_refl _⟩)
    (fun D i ys H x H' hi p y=>y) hl h0 (fun D i x ys H hi hx hD p=>by obtain ⟨c,v,e,rfl⟩:=hx; exact hs D i c v ys H e hD p) hd mono mono2 mono3
end
end L2

namespace L2
open PySem PySem.Spec PySem.Calls PyProof.Rows PySem.W

section
variable {prog:Program} {w:World} {A:Around} {E:Value→Shared→Prop} {s:Shared} {α:Type} {lt:α→α→Bool}
end
section
variable {X:Cx}
end
end L2

namespace Qs
open PySem L2

def top (i:Nat):Stmt:=PySem.Challenge.pw_quartersheet_k64_ways_as_short_as_can_be.main.body.getD i (.Pass ⟨0,0,0,0⟩)

structure Tx (K:PySem.W.Frag) (mg:Str→Option Value):Prop where
  b_isinstance:mg "isinstance" = none
  b_int:mg "int" = none
  b_bool:mg "bool" = none
  c_MOST:∃ t,mg "MOST" = some (.int 40 t)
  b_all:mg "all" = none
  b_str:mg "str" = none
  b_len:mg "len" = none
  c_QUARTERS:∃ t,mg "QUARTERS" = some (.str "0123" t)
  b_range:mg "range" = none
  b_tuple:mg "tuple" = none
  b_sorted:mg "sorted" = none
  b_dict:mg "dict" = none
  b_min:mg "min" = none
  b_max:mg "max" = none
  b_any:mg "any" = none
  b_enumerate:mg "enumerate" = none
  b_list:mg "list" = none
end Qs
namespace Qs
open PySem L2

def txt (ds:List Nat):Str:=⟨(ds.map (48 + ·)).toArray⟩
theorem txt_len (ds:List Nat):(txt ds).length=ds.length:=by
  rw [len_eq]; simp [txt]
theorem txt_isC {ds:List Nat} (h:∀ d∈ds,d < 4):IsC (txt ds):=fun c hc=>by
  have hc':∃ d∈ds,48 + d=c:=by simpa [txt] using hc
  obtain ⟨d,hd,e⟩:=hc'
  have:=h d hd
  omega
theorem dig_txt (ds:List Nat):dig (txt ds)=ds:=by
  unfold dig txt;rw [List.map_map];have e:((fun x=>x - 48) ∘ fun x=>48 + x)=(id:Nat→Nat):=by funext x; show 48 + x - 48=x; omega
  rw [e,List.map_id]
theorem str_ext {a b:Str} (h:a.cps.toList=b.cps.toList):a=b:=by
  obtain ⟨a⟩:=a;obtain ⟨b⟩:=b;have h':a.toList=b.toList:=h;have e:a=b:=Array.toList_inj.mp h';rw [e]
theorem txt_dig {z:Str} (h:IsC z):txt (dig z)=z:=by
  refine str_ext ?_;have e:(txt (dig z)).cps.toList=(z.cps.toList.map (· - 48)).map (48 + ·):=rfl;rw [e,List.map_map];have e2:∀ c∈z.cps.toList,((fun x=>48 + x) ∘ fun x=>x - 48) c=id c:=fun c hc=>by
    have:=h c hc
    show 48 + (c - 48)=c;omega
  rw [List.map_congr_left e2,List.map_id]
theorem empty_eq:("" : Str)=⟨#[]⟩:=by decide +kernel
theorem join_one:∀ ds:List Nat,Txt.join ("" : Str) (ds.map one)=txt ds:=by
  intro ds;have key:∀ ds:List Nat,Str.join ⟨#[]⟩ (ds.map one)=txt ds:=by
    intro ds
    induction ds with
    | nil=>rfl
    | cons d r ih =>
      cases r with
      | nil=>rfl
      | cons e r =>
        refine str_ext ?_;show (one d++⟨#[]⟩++Str.join ⟨#[]⟩ ((e::r).map one)).cps.toList=_;rw [ih];show ((#[48 + d] ++ #[])++(txt (e::r)).cps).toList=_;simp [txt]
  rw [empty_eq];show Builtin.Str.glued ⟨#[]⟩ (ds.map one)=_;rw [StrLaws.glued_eq_join];exact key ds

def pre (z:Str) (k:Nat):Str:=⟨(z.cps.toList.take k).toArray⟩
theorem slice_pre (z:Str) (k:Nat):Txt.slice z none (some (k:Int))=pre z k:=by
  by_cases h:k≤z.length
  · have e:=PyProof.Rows.slice_closes_to (x:=z) (j:=(k:Int)) ⟨by omega,by rw [← len_eq]; omega⟩;rw [beq_iff_eq] at e;rw [e];unfold pre;simp
  · have e:Builtin.Str.strSliceIndices none (some (k:Int)) 1 z.length=(List.range z.length).map fun j:Nat=>(0 + 1 * (j:Int)).toNat:=by
      unfold Builtin.Str.strSliceIndices;dsimp only;unfold sliceRange;have h1:¬ (k:Int) < 0:=by omega
      have h2:max (0:Int) (min (k:Int) (z.length:Int))=(z.length:Int):=by omega
      simp only [show (1:Int) > 0 by decide,if_true,h1,if_false,h2];by_cases h0:(0:Int) < (z.length:Int)
      · rw [if_pos h0];have e3:(((z.length:Int) - 0 + 1 - 1) / 1).toNat=z.length:=by omega
        rw [e3]
      · rw [if_neg h0];have e3:z.length=0:=by omega
        rw [e3]; rfl
    unfold Txt.slice;rw [e,List.length_map,List.length_range];rw [if_pos (by simp)];refine str_ext ?_;unfold pre;rw [List.take_of_length_le (by rw [← len_eq]; omega)]
theorem pre_len (z:Str) (k:Nat):(pre z k).length=min k z.length:=by
  rw [len_eq,len_eq]; simp [pre]
theorem pre_isC {z:Str} (h:IsC z) (k:Nat):IsC (pre z k):=fun c hc=>h c (by
  have hc':c∈z.cps.toList.take k:=by simpa [pre] using hc
  exact List.mem_of_mem_take hc')

theorem app_len (a b:Str):(a++b).length=a.length + b.length:=by
  show (a.cps++b.cps).size=_;rw [Array.size_append]; rfl
theorem at_q {d:Nat} (h:d < 4):atI ("0123" : Str).cps.toList (d:Int)=some (48 + d) :=
  four (P:=fun d=>atI ("0123" : Str).cps.toList (d:Int)=some (48 + d)) (by decide +kernel) (by decide +kernel) (by decide +kernel) (by decide +kernel) h
theorem q_len:("0123" : Str).length≤sizeLine:=by decide +kernel
end Qs
namespace Qs
open PySem L2

def oneB (a b c d:Tr):Bool:=a.isCol && (decide (a=a) && (decide (b=a) && (decide (c=a) && (decide (d=a) && true))))
def gath (a b c d:Tr):Tr:=if oneB a b c d then a else .four a b c d
def q0:Tr→Tr | .col i=>.col i | .four a _ _ _=>a
def q1:Tr→Tr | .col i=>.col i | .four _ b _ _=>b
def q2:Tr→Tr | .col i=>.col i | .four _ _ c _=>c
def q3:Tr→Tr | .col i=>.col i | .four _ _ _ d=>d
theorem oneB_iff {a b c d:Tr}:oneB a b c d=true↔a.isCol=true∧b=a∧c=a∧d=a:=by
  unfold oneB;simp only [Bool.and_eq_true,decide_eq_true_eq,and_true,true_and]
theorem gath_parts (a b c d:Tr):q0 (gath a b c d)=a∧q1 (gath a b c d)=b∧q2 (gath a b c d)=c∧q3 (gath a b c d)=d:=by
  unfold gath;by_cases h:oneB a b c d=true
  · rw [if_pos h];obtain ⟨h1,rfl,rfl,rfl⟩:=oneB_iff.mp h;cases d with
    | col i=>exact ⟨rfl,rfl,rfl,rfl⟩
    | four=>cases h1
  · rw [if_neg h]; exact ⟨rfl,rfl,rfl,rfl⟩
def ShAt (H:Hp) (v:V) (n:Int) (t:Tr):Prop:=∃ p x,v=.ref p∧H p=some (.tup [.int n,x])∧TrAt H x t
theorem kit_it {K:PySem.W.Frag}:PySem.W.kitOne K (.type "int") (.type "tuple")=some false:=by kernel_rfl

def qk (t:Tr):Nat→Tr
  | 0=>q0 t
  | 1=>q1 t
  | 2=>q2 t
  | _=>q3 t
def put4 (t:Tr) (d:Nat) (x:Tr):Tr:=gath (if d=0 then x else q0 t) (if d=1 then x else q1 t) (if d=2 then x else q2 t) (if d=3 then x else q3 t)
def plant (t:Tr):List Nat→Tr→Tr
  | [],o=>o
  | d::ds,o=>put4 t d (plant (qk t d) ds o)
theorem qk_put4 {t x:Tr} {d k:Nat} (hd:d < 4) (hk:k < 4):qk (put4 t d x) k=if k=d then x else qk t k:=by
  unfold put4;obtain ⟨g0,g1,g2,g3⟩:=gath_parts (if d=0 then x else q0 t) (if d=1 then x else q1 t) (if d=2 then x else q2 t) (if d=3 then x else q3 t);rcases k with _ | _ | _ | _ | k
  · show q0 _=_;rw [g0];by_cases h:d=0
    · rw [if_pos h,if_pos h.symm]
    · rw [if_neg h,if_neg (Ne.symm h)]; rfl
  · show q1 _=_;rw [g1];by_cases h:d=1
    · rw [if_pos h,if_pos h.symm]
    · rw [if_neg h,if_neg (Ne.symm h)]; rfl
  · show q2 _=_;rw [g2];by_cases h:d=2
    · rw [if_pos h,if_pos h.symm]
    · rw [if_neg h,if_neg (Ne.symm h)]; rfl
  · show q3 _=_;rw [g3];by_cases h:d=3
    · rw [if_pos h,if_pos h.symm]
    · rw [if_neg h,if_neg (Ne.symm h)]; rfl
  · omega

def Good:Nat→Tr→Prop
  | _,.col i=>0≤i∧i≤35
  | 0,.four ..=>False
  | n + 1,.four a b c d=>Good n a∧Good n b∧Good n c∧Good n d∧oneB a b c d=false
theorem Good.deep:∀ {n:Nat} {t:Tr},Good n t→t.deep≤n
  | _,.col i,_=>Nat.zero_le _
  | 0,.four ..,h=>h.elim
  | n + 1,.four a b c d,⟨ha,hb,hc,hd,_⟩=>by
    have:=ha.deep
    have:=hb.deep
    have:=hc.deep
    have:=hd.deep
    show max a.deep (max b.deep (max c.deep d.deep)) + 1≤n + 1;omega
theorem Good.col {n:Nat} {i:Int} (h:0≤i∧i≤35):Good n (.col i):=by cases n <;> exact h
theorem Good.q {n:Nat} {t:Tr} (h:Good (n + 1) t) (k:Nat):Good n (qk t k):=by
  cases t with
  | col i =>
    have z:Good n (.col i):=Good.col h;rcases k with _ | _ | _ | k <;> exact z
  | four a b c d =>
    obtain ⟨ha,hb,hc,hd,_⟩:=h;rcases k with _ | _ | _ | k
    · exact ha
    · exact hb
    · exact hc
    · exact hd
theorem Good.up {n:Nat} {t:Tr} (h:Good n t):Good (n + 1) t:=by
  induction t generalizing n with
  | col i=>exact Good.col (by cases n <;> exact h)
  | four a b c d ia ib ic id =>
    cases n with
    | zero=>exact h.elim
    | succ n =>
      obtain ⟨ha,hb,hc,hd,ho⟩:=h;exact ⟨ia ha,ib hb,ic hc,id hd,ho⟩
theorem good_gath {n:Nat} {a b c d:Tr} (ha:Good n a) (hb:Good n b) (hc:Good n c) (hd:Good n d):Good (n + 1) (gath a b c d):=by
  unfold gath
  split
  · exact ha.up
  · rename_i h
    exact ⟨ha,hb,hc,hd,by simpa using h⟩
theorem good_put4 {n d:Nat} {t x:Tr} (h:Good (n + 1) t) (hx:Good n x):Good (n + 1) (put4 t d x):=by
  unfold put4;have h0:=h.q 0;have h1:=h.q 1;have h2:=h.q 2;have h3:=h.q 3;refine good_gath ?_ ?_ ?_ ?_ <;> split <;> assumption
theorem good_plant:∀ {n:Nat} {ds:List Nat} {t o:Tr},ds.length≤n→Good n t→Good (n - ds.length) o→Good n (plant t ds o)
  | n,[],t,o,_,_,h=>h
  | 0,d::ds,t,o,hl,_,_=>by simp at hl
  | n + 1,d::ds,t,o,hl,ht,ho=>by
    have hl':ds.length≤n:=by simpa using hl
    refine good_put4 ht (good_plant hl' (ht.q d) ?_);have e:n + 1 - (d::ds).length=n - ds.length:=by simp
    rw [e] at ho;exact ho
section
variable {P:Program} {w:World} {K:PySem.W.Frag} {mg:Str→Option Value} {base:Heap} {CX:CXT} {f:Addr} {fd:FuncData}
theorem str_eq_nil {z:Str}:(z=("" : Str))↔z.length=0:=by
  constructor
  · rintro rfl; decide +kernel
  · intro h;apply str_ext
    have e:z.cps.toList=[]:=List.eq_nil_of_length_eq_zero (by rw [← len_eq]; exact h);rw [e]; decide +kernel

def rst (z:Str):Str:=⟨(z.cps.toList.drop 1).toArray⟩
theorem slice_rst {z:Str} (h:0 < z.length):Txt.slice z (some 1) none=rst z:=by
  have e:=PyProof.Rows.slice_closes_from (x:=z) (i:=1) ⟨by decide,by rw [← len_eq]; omega⟩;rw [beq_iff_eq] at e;rw [e];unfold rst
  congr 2
  show (z.cps.toList.drop 1).take ((z.cps.toList.length:Int) - 1).toNat=_;rw [List.take_of_length_le];rw [List.length_drop,← len_eq]; omega
theorem rst_len (z:Str):(rst z).length=z.length - 1:=by rw [len_eq,len_eq]; simp [rst]
theorem rst_isC {z:Str} (h:IsC z):IsC (rst z):=fun c hc=>h c (by
  have hc':c∈z.cps.toList.drop 1:=by simpa [rst] using hc
  exact List.mem_of_mem_drop hc')
theorem at_zero {z:Str} (h:0 < z.length):atI z.cps.toList 0=some (z.cps.getD 0 0):=by
  have hs:0 < z.cps.size:=h;refine atI_nat (j:=0) ?_;simp [Array.getD_eq_getD_getElem?,hs]
theorem Same.none {H H':Hp} {l:Addr} (s:Same H H') (h:H' l=none):H l=none:=by
  cases q:H l with
  | none=>rfl
  | some o=>rw [s _ _ q] at h; cases h
theorem dig_empty:dig ("" : Str)=[]:=by decide +kernel
theorem dig_rst {z:Str} (h:0 < z.length):dig z=(z.cps.getD 0 0 - 48)::dig (rst z):=by
  have hs:0 < z.cps.size:=h;have hl:0 < z.cps.toList.length:=by simpa using hs
  have e:z.cps.toList=z.cps.getD 0 0::z.cps.toList.drop 1:=by
    have e1:=List.drop_eq_getElem_cons (l:=z.cps.toList) (i:=0) hl;rw [List.drop_zero] at e1;have e2:z.cps.getD 0 0=z.cps.toList[0]:=by simp [Array.getD_eq_getD_getElem?,hs]
    rw [e2]; exact e1
  unfold dig rst
  conv=>lhs; rw [e]
  rfl
end
end Qs
namespace Qs
open PySem L2
def cnt:Tr→Nat
  | .col _=>1
  | .four a b c d=>cnt a + cnt b + cnt c + cnt d
theorem cnt_pos:∀ t,1≤cnt t
  | .col _=>Nat.le_refl 1
  | .four a b c d=>by
    have:=cnt_pos a
    show 1≤cnt a + cnt b + cnt c + cnt d;omega
theorem cnt_gath (a b c d:Tr):cnt (gath a b c d)≤cnt a + cnt b + cnt c + cnt d:=by
  unfold gath
  split
  · omega
  · exact Nat.le_refl _
theorem cnt_q {t:Tr}:cnt (q0 t) + cnt (q1 t) + cnt (q2 t) + cnt (q3 t)≤cnt t + 3:=by
  cases t with
  | col i=>show 1 + 1 + 1 + 1≤1 + 3; decide
  | four a b c d=>show cnt a + cnt b + cnt c + cnt d≤cnt a + cnt b + cnt c + cnt d + 3; omega
theorem cnt_put4 {t x:Tr} {d:Nat} (hd:d < 4):cnt (put4 t d x) + cnt (qk t d)≤cnt t + 3 + cnt x:=by
  unfold put4;have h:=cnt_gath (if d=0 then x else q0 t) (if d=1 then x else q1 t) (if d=2 then x else q2 t) (if d=3 then x else q3 t);have h2:=cnt_q (t:=t);generalize gath (if d=0 then x else q0 t) (if d=1 then x else q1 t) (if d=2 then x else q2 t) (if d=3 then x else q3 t)=g at *;rcases d with _ | _ | _ | _ | d
  · have h':cnt g≤cnt x + cnt (q1 t) + cnt (q2 t) + cnt (q3 t):=h;show cnt g + cnt (q0 t)≤_;omega
  · have h':cnt g≤cnt (q0 t) + cnt x + cnt (q2 t) + cnt (q3 t):=h;show cnt g + cnt (q1 t)≤_;omega
  · have h':cnt g≤cnt (q0 t) + cnt (q1 t) + cnt x + cnt (q3 t):=h;show cnt g + cnt (q2 t)≤_;omega
  · have h':cnt g≤cnt (q0 t) + cnt (q1 t) + cnt (q2 t) + cnt x:=h;show cnt g + cnt (q3 t)≤_;omega
  · omega
theorem cnt_plant:∀ (ds:List Nat) (t o:Tr),(∀ d∈ds,d < 4)→cnt (plant t ds o)≤cnt t + 3 * ds.length + cnt o
  | [],t,o,_=>by show cnt o≤_; omega
  | d::ds,t,o,h=>by
    have h1:=cnt_put4 (t:=t) (x:=plant (qk t d) ds o) (h d List.mem_cons_self);have h2:=cnt_plant ds (qk t d) o fun x hx=>h x (List.mem_cons_of_mem _ hx);show cnt (put4 t d (plant (qk t d) ds o))≤_;rw [List.length_cons];omega
theorem four_of (m:Int):∃ d:Nat,d < 4∧m % 4=(d:Int):=⟨(m % 4).toNat,by omega,by omega⟩
theorem dig_lt {z:Str} (hz:IsC z):∀ d∈dig z,d < 4:=fun d h=>by
  obtain ⟨c,hc,rfl⟩:=List.mem_map.mp h
  have:=hz c hc
  omega
def dgt (x y m:Nat):Nat:=x / 2 ^ m % 2 + 2 * (y / 2 ^ m % 2)
def low (n x y:Nat):List Nat:=(List.range n).map fun k=>dgt x y (n - 1 - k)
theorem dgt_lt (x y m:Nat):dgt x y m < 4:=by unfold dgt; omega
theorem low_len (n x y:Nat):(low n x y).length=n:=by simp [low]
theorem low_succ (i x y:Nat):low (i + 1) x y=dgt x y i::low i x y:=by
  unfold low;rw [List.range_succ_eq_map,List.map_cons,List.map_map];refine congr (congrArg List.cons ?_) (List.map_congr_left fun k hk => ?_)
  · rfl
  · have:=List.mem_range.mp hk
    show dgt x y (i + 1 - 1 - (k + 1))=dgt x y (i - 1 - k)
    congr 1
    omega
def sqX:Nat→List Nat→Nat
  | _,[]=>0
  | n,d::ds=>d % 2 * 2 ^ (n - 1) + sqX (n - 1) ds
def sqY:Nat→List Nat→Nat
  | _,[]=>0
  | n,d::ds=>d / 2 * 2 ^ (n - 1) + sqY (n - 1) ds
def paintAll (t:Tr) (L:List (List Nat × Int)):Tr:=L.foldl (fun t p=>plant t p.1 (.col p.2)) t
theorem paintAll_snoc (t:Tr) (L:List (List Nat × Int)) (p:List Nat × Int):paintAll t (L++[p])=plant (paintAll t L) p.1 (.col p.2):=by unfold paintAll; rw [List.foldl_append]; rfl

def POk (n:Nat) (p:List Nat × Int):Prop:=(∀ d∈p.1,d < 4)∧p.1.length≤n∧0≤p.2∧p.2≤35
theorem good_all {n:Nat}:∀ (L:List (List Nat × Int)) (t:Tr),(∀ p∈L,POk n p)→Good n t→Good n (paintAll t L)
  | [],_,_,g=>g
  | p::L,t,h,g=>by
    obtain ⟨_,h2,h3⟩:=h p List.mem_cons_self;exact good_all L _ (fun q hq=>h q (List.mem_cons_of_mem _ hq)) (good_plant h2 g (Good.col h3))

def subP (d:Nat):List (List Nat × Int)→List (List Nat × Int)
  | []=>[]
  | ([],_)::M=>subP d M
  | (e::ds,c)::M=>if e=d then (ds,c)::subP d M else subP d M
theorem subP_app (d:Nat):∀ A B:List (List Nat × Int),subP d (A++B)=subP d A++subP d B
  | [],_=>rfl
  | ([],_)::A,B=>subP_app d A B
  | (e::ds,c)::A,B=>by
    show (if e=d then (ds,c)::subP d (A++B) else subP d (A++B))=(if e=d then (ds,c)::subP d A else subP d A)++subP d B;by_cases h:e=d
    · rw [if_pos h,if_pos h,subP_app d A B]; rfl
    · rw [if_neg h,if_neg h,subP_app d A B]
theorem gath_qk (a b c d:Tr):gath (qk (gath a b c d) 0) (qk (gath a b c d) 1) (qk (gath a b c d) 2) (qk (gath a b c d) 3)=gath a b c d:=by
  obtain ⟨h0,h1,h2,h3⟩:=gath_parts a b c d;show gath (q0 _) (q1 _) (q2 _) (q3 _)=_;rw [h0,h1,h2,h3]
theorem paintAll_four:∀ (M:List (List Nat × Int)) (t:Tr),(∀ p∈M,p.1≠[]∧∀ d∈p.1,d < 4)→gath (qk t 0) (qk t 1) (qk t 2) (qk t 3)=t →
    paintAll t M=gath (paintAll (qk t 0) (subP 0 M)) (paintAll (qk t 1) (subP 1 M)) (paintAll (qk t 2) (subP 2 M)) (paintAll (qk t 3) (subP 3 M))
  | [],t,_,h=>h.symm
  | ([],c)::M,t,h,_=>absurd rfl (h _ List.mem_cons_self).1
  | (e::ds,c)::M,t,h,_=>by
    have he:e < 4:=(h _ List.mem_cons_self).2 e List.mem_cons_self;have ih:=paintAll_four M (put4 t e (plant (qk t e) ds (.col c))) (fun p hp=>h p (List.mem_cons_of_mem _ hp)) (gath_qk _ _ _ _);have key:∀ d,d < 4→paintAll (qk (put4 t e (plant (qk t e) ds (.col c))) d) (subP d M)=paintAll (qk t d) (subP d ((e::ds,c)::M)):=fun d hd=>by
      rw [qk_put4 he hd];show _=paintAll (qk t d) (if e=d then (ds,c)::subP d M else subP d M);by_cases k:d=e
      · rw [if_pos k,if_pos k.symm,k]; rfl
      · rw [if_neg k,if_neg (Ne.symm k)]
    show paintAll (plant t (e::ds) (.col c)) M=_;rw [← key 0 (by decide),← key 1 (by decide),← key 2 (by decide),← key 3 (by decide),← ih];rfl
theorem POk.le {n m:Nat} {p:List Nat × Int} (h:POk n p) (hm:n≤m):POk m p:=⟨h.1,Nat.le_trans h.2.1 hm,h.2.2⟩
theorem subP_ok {n:Nat} (d:Nat):∀ M:List (List Nat × Int),(∀ p∈M,POk n p)→∀ p∈subP d M,POk (n - 1) p
  | [],_,p,h=>by cases h
  | ([],_)::M,h,p,hp=>subP_ok d M (fun q hq=>h q (List.mem_cons_of_mem _ hq)) p hp
  | (e::ds,c)::M,h,p,hp=>by
    have ih:=subP_ok d M (fun q hq=>h q (List.mem_cons_of_mem _ hq));obtain ⟨h1,h2,h3⟩:=h _ List.mem_cons_self;have hp':p∈(if e=d then (ds,c)::subP d M else subP d M):=hp;by_cases k:e=d
    · rw [if_pos k] at hp';rcases List.mem_cons.mp hp' with rfl | hp'
      · have h2':ds.length + 1≤n:=h2;exact ⟨fun x hx=>h1 x (List.mem_cons_of_mem _ hx),by show ds.length≤n - 1; omega,h3⟩
      · exact ih p hp'
    · rw [if_neg k] at hp';exact ih p hp'
theorem one_inj {d e:Nat} (h:one d=one e):d=e:=by
  have h':=congrArg (fun s:Str=>s.cps.toList) h;have h2:[48 + d]=[48 + e]:=h';simpa using h2
def cell (ns:List Int) (k:Nat):Int:=(ns[k]?).getD 0

def lvs:List Nat→Tr→List (List Nat × Int)
  | z,.col i=>[(z,i)]
  | z,.four a b c d=>lvs (z++[0]) a++(lvs (z++[1]) b++(lvs (z++[2]) c++lvs (z++[3]) d))
theorem lvs_count:∀ (t:Tr) (z:List Nat),(lvs z t).length=cnt t
  | .col _,_=>rfl
  | .four a b c d,z=>by
    show (lvs (z++[0]) a++(lvs (z++[1]) b++(lvs (z++[2]) c++lvs (z++[3]) d))).length=cnt a + cnt b + cnt c + cnt d;rw [List.length_append,List.length_append,List.length_append,lvs_count a,lvs_count b,lvs_count c,lvs_count d]; omega

def node:Tr→List Nat→Option Tr
  | t,[]=>some t
  | .col _,_::_=>none
  | .four a b c d,k::w=>node (qk (.four a b c d) k) w
theorem node_app:∀ (w:List Nat) (t:Tr) (v:List Nat),node t (w++v)=(node t w).bind fun u=>node u v
  | [],t,v=>rfl
  | k::w,.col i,v=>rfl
  | k::w,.four a b c d,v=>node_app w (qk (.four a b c d) k) v
theorem dig_app (a b:Str):dig (a++b)=dig a++dig b:=by
  unfold dig;show (a.cps++b.cps).toList.map _=_;simp
theorem dig_one (d:Nat):dig (one d)=[d]:=by
  show [48 + d - 48]=[d];rw [show 48 + d - 48=d by omega]
theorem dig_pre' (z:Str) (k:Nat):dig (pre z k)=(dig z).take k:=by
  unfold dig pre;simp
theorem big {n:Nat} (h:n≤1000000):n≤sizeLine:=Nat.le_trans h (by decide)
theorem str_one {d:Nat} (h:d < 4):Str.ofString (toString ((d:Nat):Int))=one d :=
  four (P:=fun d=>Str.ofString (toString ((d:Nat):Int))=one d) (by decide +kernel) (by decide +kernel) (by decide +kernel) (by decide +kernel) h
def sV (ds:List Nat):V:=.str (txt ds)
theorem sV_dig {z:Str} (h:IsC z):sV (dig z)=.str z:=by unfold sV; rw [txt_dig h]
theorem txt_pre {z:Str} (h:IsC z) (k:Nat):txt ((dig z).take k)=pre z k:=by rw [← dig_pre',txt_dig (pre_isC h k)]

def along (near:List Nat):List Nat→Tr→List (List Nat)
  | z,.col _=>[z]
  | z,.four a b c d=>near.flatMap fun e=>match e with
    | 0=>along near (z++[e]) a
    | 1=>along near (z++[e]) b
    | 2=>along near (z++[e]) c
    | _=>along near (z++[e]) d
theorem along_four (near z:List Nat) (a b c d:Tr):along near z (.four a b c d)=near.flatMap fun e=>along near (z++[e]) (qk (.four a b c d) e):=by
  show near.flatMap _=near.flatMap _
  congr 1
  funext e
  rcases e with _ | _ | _ | e <;> rfl
def NearOk (near:List Nat):Prop:=near=[2,3]∨near=[0,2]∨near=[0,1]∨near=[1,3]
theorem along_len {near:List Nat} (h:NearOk near):∀ (t:Tr) (z:List Nat),(along near z t).length≤cnt t
  | .col _,_=>Nat.le_refl 1
  | .four a b c d,z=>by
    rw [along_four];have ha:=along_len h a;have hb:=along_len h b;have hc:=along_len h c;have hd:=along_len h d;show _≤cnt a + cnt b + cnt c + cnt d;rcases h with h | h | h | h
    · have e:(near.flatMap fun e=>along near (z++[e]) (qk (.four a b c d) e))=along near (z++[2]) c++along near (z++[3]) d:=by
        rw [show (near.flatMap fun e=>along near (z++[e]) (qk (.four a b c d) e))=([2,3].flatMap fun e=>along near (z++[e]) (qk (.four a b c d) e)) by rw [← h]];simp [qk,q2,q3]
      rw [e,List.length_append];have h1:=hc (z++[2]);have h2:=hd (z++[3]);omega
    · have e:(near.flatMap fun e=>along near (z++[e]) (qk (.four a b c d) e))=along near (z++[0]) a++along near (z++[2]) c:=by
        rw [show (near.flatMap fun e=>along near (z++[e]) (qk (.four a b c d) e))=([0,2].flatMap fun e=>along near (z++[e]) (qk (.four a b c d) e)) by rw [← h]];simp [qk,q0,q2]
      rw [e,List.length_append];have h1:=ha (z++[0]);have h2:=hc (z++[2]);omega
    · have e:(near.flatMap fun e=>along near (z++[e]) (qk (.four a b c d) e))=along near (z++[0]) a++along near (z++[1]) b:=by
        rw [show (near.flatMap fun e=>along near (z++[e]) (qk (.four a b c d) e))=([0,1].flatMap fun e=>along near (z++[e]) (qk (.four a b c d) e)) by rw [← h]];simp [qk,q0,q1]
      rw [e,List.length_append];have h1:=ha (z++[0]);have h2:=hb (z++[1]);omega
    · have e:(near.flatMap fun e=>along near (z++[e]) (qk (.four a b c d) e))=along near (z++[1]) b++along near (z++[3]) d:=by
        rw [show (near.flatMap fun e=>along near (z++[e]) (qk (.four a b c d) e))=([1,3].flatMap fun e=>along near (z++[e]) (qk (.four a b c d) e)) by rw [← h]];simp [qk,q1,q3]
      rw [e,List.length_append];have h1:=hb (z++[1]);have h2:=hd (z++[3]);omega
def down (near:List Nat):List Nat→List Nat→Tr→List (List Nat)
  | p,[],t=>along near p t
  | p,_::_,.col _=>[p]
  | p,e::r,.four a b c d=>down near (p++[e]) r (qk (.four a b c d) e)
theorem down_node (near:List Nat):∀ (a b p:List Nat) (t u:Tr),node t a=some u→down near p (a++b) t=down near (p++a) b u
  | [],b,p,t,u,h=>by rw [← Option.some.inj h]; simp
  | e::a,b,p,.col _,u,h=>by cases h
  | e::a,b,p,.four x y z w,u,h=>by
    show down near (p++[e]) (a++b) (qk (.four x y z w) e)=_;rw [down_node near a b _ _ u h];simp
theorem good_node:∀ (a:List Nat) (n:Nat) (t u:Tr),Good n t→node t a=some u→a.length≤n∧Good (n - a.length) u
  | [],n,t,u,g,h=>by rw [← Option.some.inj h]; exact ⟨Nat.zero_le _,g⟩
  | e::a,n,.col _,u,g,h=>by cases h
  | e::a,0,.four ..,u,g,h=>g.elim
  | e::a,n + 1,.four x y z w,u,g,h=>by
    obtain ⟨h1,h2⟩:=good_node a n _ u (g.q e) h;refine ⟨by simpa using h1,?_⟩;rw [show n + 1 - (e::a).length=n - a.length by simp];exact h2
theorem cnt_qk (t:Tr) (k:Nat):cnt (qk t k)≤cnt t:=by
  cases t with
  | col i=>rcases k with _ | _ | _ | k <;> exact Nat.le_refl _
  | four a b c d =>
    show _≤cnt a + cnt b + cnt c + cnt d;rcases k with _ | _ | _ | k
    · show cnt a≤_; omega
    · show cnt b≤_; omega
    · show cnt c≤_; omega
    · show cnt d≤_; omega
theorem cnt_node:∀ (a:List Nat) (t u:Tr),node t a=some u→cnt u≤cnt t
  | [],t,u,h=>by rw [← Option.some.inj h]; exact Nat.le_refl _
  | e::a,.col _,u,h=>by cases h
  | e::a,.four x y z w,u,h=>Nat.le_trans (cnt_node a _ u h) (cnt_qk _ e)

theorem node_step {t:Tr} {w:List Nat} {i d:Nat} {x y z v:Tr} (h:node t (w.take i)=some (.four x y z v)) (hd:w[i]? = some d):node t (w.take (i + 1))=some (qk (.four x y z v) d):=by
  rw [List.take_add_one,hd,node_app,h];rfl
end Qs


namespace Qs
open PySem L2
set_option genInjectivity false in
structure Yx (K:PySem.W.Frag) (mg:Str→Option Value) where
  c_NoSide:Addr
  c_SheetError:Addr
  m_NoSide:mg "NoSide" = some (.ref c_NoSide)
  m_SheetError:mg "SheetError" = some (.ref c_SheetError)
  x_NoSide:OwnX K mg "NoSide" c_NoSide
  k_NoSide:ExcC K c_NoSide
  s_NoSide:PySem.W.exmOne K (.ref c_NoSide) (.ref c_SheetError)=some true
  v_NoSide:PySem.W.kitOne K (.ref c_NoSide) (.type "ValueError")=some true
section
variable {P:Program} {w:World} {K:PySem.W.Frag} {mg:Str→Option Value} {base:Heap} {CX:CXT} {f:Addr} {fd:FuncData}

structure Ty (P:Program) (w:World) (K:PySem.W.Frag) (mg:Str→Option Value):Prop where
  sides:∃ a,mg "SIDES" = some (.ref a)∧KTu K a [.str "up",.str "right",.str "down",.str "left"]
  cross:∃ a p0 p1 p2 p3,mg "CROSSINGS" = some (.ref a)∧KD P w K a [(.inr "up",.ref p0),(.inr "right",.ref p1),(.inr "down",.ref p2),(.inr "left",.ref p3)] ∧
    KTu K p0 [.str "2301",.str "23"]∧KTu K p1 [.str "1032",.str "02"]∧KTu K p2 [.str "2301",.str "01"]∧KTu K p3 [.str "1032",.str "13"]

def Dir (side s1 s2:Str) (dx dy:Int):Prop:=(side = "up" ∧ s1 = "2301" ∧ s2 = "23" ∧ dx=0∧dy=-1)∨(side = "right" ∧ s1 = "1032" ∧ s2 = "02" ∧ dx=1∧dy=0)∨(side = "down" ∧ s1 = "2301" ∧ s2 = "01" ∧ dx=0∧dy=1)∨(side = "left" ∧ s1 = "1032" ∧ s2 = "13" ∧ dx=-1∧dy=0)
def occ (s z:Str):Bool := !(Builtin.Str.occurrences s z 0 s.length 1).isEmpty
def St1 (s1 s2:Str) (dx dy:Int) (d:Nat):Prop:=∃ e,e < 4∧atI s1.cps.toList (d:Int)=some (48 + e) ∧
  ((occ s2 (one d)=true∧((e % 2:Nat):Int)=((d % 2:Nat):Int) + dx∧((e / 2:Nat):Int)=((d / 2:Nat):Int) + dy)∨(occ s2 (one d)=false∧((e % 2:Nat):Int)=((d % 2:Nat):Int) - dx∧((e / 2:Nat):Int)=((d / 2:Nat):Int) - dy))
theorem dir_st {side s1 s2:Str} {dx dy:Int} (h:Dir side s1 s2 dx dy):s1.length≤sizeLine∧∀ d,d < 4→St1 s1 s2 dx dy d:=by
  rcases h with ⟨rfl,rfl,rfl,rfl,rfl⟩ | ⟨rfl,rfl,rfl,rfl,rfl⟩ | ⟨rfl,rfl,rfl,rfl,rfl⟩ | ⟨rfl,rfl,rfl,rfl,rfl⟩
  · exact ⟨by decide +kernel,fun d hd=>four (P:=fun d=>St1 _ _ _ _ d) ⟨2,by decide,by decide +kernel,.inr (by decide +kernel)⟩ ⟨3,by decide,by decide +kernel,.inr (by decide +kernel)⟩ ⟨0,by decide,by decide +kernel,.inl (by decide +kernel)⟩ ⟨1,by decide,by decide +kernel,.inl (by decide +kernel)⟩ hd⟩
  · exact ⟨by decide +kernel,fun d hd=>four (P:=fun d=>St1 _ _ _ _ d) ⟨1,by decide,by decide +kernel,.inl (by decide +kernel)⟩ ⟨0,by decide,by decide +kernel,.inr (by decide +kernel)⟩ ⟨3,by decide,by decide +kernel,.inl (by decide +kernel)⟩ ⟨2,by decide,by decide +kernel,.inr (by decide +kernel)⟩ hd⟩
  · exact ⟨by decide +kernel,fun d hd=>four (P:=fun d=>St1 _ _ _ _ d) ⟨2,by decide,by decide +kernel,.inl (by decide +kernel)⟩ ⟨3,by decide,by decide +kernel,.inl (by decide +kernel)⟩ ⟨0,by decide,by decide +kernel,.inr (by decide +kernel)⟩ ⟨1,by decide,by decide +kernel,.inr (by decide +kernel)⟩ hd⟩
  · exact ⟨by decide +kernel,fun d hd=>four (P:=fun d=>St1 _ _ _ _ d) ⟨1,by decide,by decide +kernel,.inr (by decide +kernel)⟩ ⟨0,by decide,by decide +kernel,.inl (by decide +kernel)⟩ ⟨3,by decide,by decide +kernel,.inr (by decide +kernel)⟩ ⟨2,by decide,by decide +kernel,.inl (by decide +kernel)⟩ hd⟩

abbrev s_is_side:Stmt:=top 12
theorem sc_is_side:FnScope ["thing"] ["thing"] (defScope s_is_side):=⟨rfl,rfl,rfl,by decide +kernel,rfl,by decide +kernel,by decide +kernel⟩
def sideB (z:Str):Prop:=inV (.str z) [.str "up",.str "right",.str "down",.str "left"]=true
theorem dir_side {side s1 s2:Str} {dx dy:Int} (h:Dir side s1 s2 dx dy):sideB side:=by
  rcases h with ⟨rfl,_⟩ | ⟨rfl,_⟩ | ⟨rfl,_⟩ | ⟨rfl,_⟩ <;> (unfold sideB; decide +kernel)
theorem dir_near {side s1 s2:Str} {dx dy:Int} (h:Dir side s1 s2 dx dy):IsC s2∧NearOk (dig s2):=by
  rcases h with ⟨_,_,rfl,_⟩ | ⟨_,_,rfl,_⟩ | ⟨_,_,rfl,_⟩ | ⟨_,_,rfl,_⟩
  · exact ⟨by unfold IsC; decide +kernel,.inl (by decide +kernel)⟩
  · exact ⟨by unfold IsC; decide +kernel,.inr (.inl (by decide +kernel))⟩
  · exact ⟨by unfold IsC; decide +kernel,.inr (.inr (.inl (by decide +kernel)))⟩
  · exact ⟨by unfold IsC; decide +kernel,.inr (.inr (.inr (by decide +kernel)))⟩

def BadSide (H:Hp) (x:V):Prop:=(flatV x=true∧inV x [.str "up",.str "right",.str "down",.str "left"]=false)∨(∃ a ys,x=.ref a∧(H a=some (.lst ys)∨H a=some (.tup ys)))
theorem BadSide.up {H H':Hp} {x:V} (h:BadSide H x) (s:Same H H'):BadSide H' x:=by
  rcases h with h | ⟨a,ys,e,h | h⟩
  · exact .inl h
  · exact .inr ⟨a,ys,e,.inl (s _ _ h)⟩
  · exact .inr ⟨a,ys,e,.inr (s _ _ h)⟩
def sp_is_side:Sp:=fun vs H Q _=>∃ x,vs=[x]∧((∃ z,x=.str z∧sideB z∧Q (.bl true) H)∨(BadSide H x∧Q (.bl false) H))
theorem ok_is_side (T:Tx K mg) (U:Ty P w K mg) (F:FunD K "is_side" "is_side" s_is_side f fd .none):FnOk P w K mg base CX 1 f fd ["thing"] sp_is_side:=by
  refine F.ok sc_is_side (fun vs H Q E h => ?_) (fun cdv A outer s H vs Q E hr h => ?_)
  · obtain ⟨_,rfl,_⟩:=h;rfl
  obtain ⟨x,rfl,h⟩:=h;obtain ⟨aS,g_SIDES,kS⟩:=U.sides;refine ⟨_,(pss_one (ps_ret (pe_cmpR (op_inX hr) (pv 0) (pe_glob (v:=.ref _) rfl g_SIDES rfl) (by with_unfolding_all rfl)))),?_⟩;rcases h with ⟨z,rfl,hz,q'⟩ | ⟨⟨fx,bx⟩ | ⟨a,ys,rfl,ha⟩,q'⟩
  · refine ⟨_,rfl,aS,_,rfl,.inr kS.sq,.inl ⟨rfl,rfl,?_⟩⟩;show Q (.bl (inV (.str z) _)) H;rw [hz]; exact q'
  · refine ⟨_,rfl,aS,_,rfl,.inr kS.sq,.inl ⟨fx,rfl,?_⟩⟩;show Q (.bl (inV x _)) H;rw [bx]; exact q'
  · refine ⟨_,rfl,aS,_,rfl,.inr kS.sq,.inr ⟨a,ys,rfl,?_,rfl,q'⟩⟩;rcases ha with ha | ha
    · exact .inl (SqL.of ha)
    · exact .inr (SqT.of ha)
abbrev s_is_code:Stmt:=top 13
theorem sc_is_code:FnScope ["thing"] ["thing"] (defScope s_is_code):=⟨rfl,rfl,rfl,by decide +kernel,rfl,by decide +kernel,by decide +kernel⟩

def sB (c:Nat):Bool:=decide (c∈("0123" : Str).cps.toList)
theorem q_mem (c:Nat):c∈("0123" : Str).cps.toList↔48≤c∧c≤51:=by
  have e:("0123" : Str).cps.toList=[48,49,50,51]:=by decide +kernel
  rw [e];simp only [List.mem_cons,List.not_mem_nil,or_false];omega
def cB (z:Str):Bool:=decide (z.length≤40) && (List.range z.length).all fun i=>sB (z.cps.getD i 0)
theorem cB_iff (z:Str):cB z=true↔z.length≤40∧IsC z:=by
  unfold cB;rw [Bool.and_eq_true,decide_eq_true_eq,List.all_eq_true];refine and_congr_right fun _=>⟨fun h c hc => ?_,fun h i hi => ?_⟩
  · obtain ⟨i,hi,e⟩:=List.mem_iff_getElem.mp hc;have hi':i < z.length:=by rw [len_eq]; exact hi
    have:=h i (List.mem_range.mpr hi')
    unfold sB at this;rw [decide_eq_true_eq,q_mem] at this;have e2:z.cps.getD i 0=c:=by
      have hi2:i < z.cps.size:=hi';rw [← e]; simp [Array.getD_eq_getD_getElem?,hi2]
    rw [e2] at this; exact this
  · unfold sB;rw [decide_eq_true_eq,q_mem];exact sgn_in h (List.mem_range.mp hi)
def gsp_is_code (K:PySem.W.Frag):Sp:=fun vs H Q _=>∃ x,vs=[x]∧((∃ z,x=.str z∧z.length≤1000∧∀ H',Same H H'→Q (.bl (cB z)) H')∨((∃ t,TyOf K H x t∧PySem.W.kitOne K t (.type "str")=some false)∧Q (.bl false) H))
theorem gok_is_code (T:Tx K mg) (F:FunD K "is_code" "is_code" s_is_code f fd .none):FnOk P w K mg base CX 1 f fd ["thing"] (gsp_is_code K):=by
  refine F.ok sc_is_code (fun vs H Q E h => ?_) (fun cdv A outer s H vs Q E hr h => ?_)
  · obtain ⟨x,rfl,_⟩:=h;rfl
  obtain ⟨x,rfl,h⟩:=h;refine ⟨_,(pss_cons (ps_if (PW.pt (pw_or (pt_not (pt_val (pe_callB (call_isiT "str") rfl T.b_isinstance bb_isinstance (pa_cons (pv 0) (pa_cons (pe_bty T.b_str bt_str) pa_nil))))) (pw_or1 (pt_cmpR op_gt (pe_callB call_len rfl T.b_len bb_len (pa_cons (pv 0) pa_nil)) (pe_gint T.c_MOST) (nomark _))))) (pss_one (ps_ret pe_bl)) pss_nil) (pss_one (ps_ret (pe_callB (call_all rfl) rfl T.b_all bb_all (pa_cons (pe_comp (N':=["sign"]) (by decide +kernel) (by decide +kernel) rfl (by decide +kernel) rfl (pi_str (pv 0)) (fun C s0 H0 fp pins=>(pg_name (i:=0) (nd1 _) rfl (Or.inl rfl))) (fun C s0 H0 fp pins=>(pe_cmpR op_in_str (pv 0) (pe_gstr T.c_QUARTERS) (by with_unfolding_all rfl)))) pa_nil))))),?_⟩
  rcases h with ⟨z,rfl,hl,q⟩ | ⟨⟨t,ty,hk⟩,q⟩
  · have hs:z.length≤sizeLine:=small hl;refine ⟨_,rfl,_,_,_,rfl,.str z,kit_ss,_,rfl,iteF ?_⟩;refine ⟨_,rfl,_,_,rfl,⟨hs,rfl⟩,_,_,rfl,rfl,_,rfl,ite2 (fun c => ?_) (fun c => ?_)⟩
    · have c':(40:Int) < (z.length:Int):=of_decide_eq_true c;have e:cB z=false:=by unfold cB; rw [decide_eq_false (by omega)]; rfl
      have:=q H (Same.refl H)
      rw [e] at this; exact this
    · have c':¬ (40:Int) < (z.length:Int):=fun w=>c (decide_eq_true w);refine ⟨_,rfl,_,rfl,comp_of (fun i=>.bl (!(Builtin.Str.occurrences ("0123" : Str) (sgn z i) 0 ("0123" : Str).length 1).isEmpty)) hs (fun i H' R hi hR=>⟨_,rfl,_,_,rfl,rfl,hR⟩) fun D hD => ?_⟩
      have e:(List.range z.length).map (fun i=>V.bl (!(Builtin.Str.occurrences ("0123" : Str) (sgn z i) 0 ("0123" : Str).length 1).isEmpty))=((List.range z.length).map fun i=>sB (z.cps.getD i 0)).map V.bl:=by
        rw [List.map_map];refine List.map_congr_left fun i _ => ?_;show V.bl (!(Builtin.Str.occurrences ("0123" : Str) (⟨#[z.cps.getD i 0]⟩:Str) 0 ("0123" : Str).length 1).isEmpty)=_
        rw [PySem.StrLaws.found_one];rfl
      refine ⟨D,(List.range z.length).map fun i=>sB (z.cps.getD i 0),rfl,SqL.of (by rw [upd_same,e]),?_⟩;have e2:(((List.range z.length).map fun i=>sB (z.cps.getD i 0)).all id)=cB z:=by
        unfold cB;rw [decide_eq_true (by omega),List.all_map];rfl
      rw [e2];exact q _ (Same.new hD _)
  · exact ⟨_,rfl,_,_,_,rfl,ty,hk,_,rfl,iteT q⟩

abbrev s_need_code:Stmt:=top 15
theorem sc_need_code:FnScope ["code"] ["code"] (defScope s_need_code):=⟨rfl,rfl,rfl,by decide +kernel,rfl,by decide +kernel,by decide +kernel⟩
def sp_need_code:Sp:=fun vs H Q _=>∃ z,vs=[.str z]∧IsC z∧z.length≤40∧∀ H',Same H H'→Q .non H'
theorem ok_need_code (T:Tx K mg) (q:Quiet CX) (F:FunD K "need_code" "need_code" s_need_code f fd .none) (C_is_code:Fok P w K mg base CX 1 "is_code" ["thing"] [] (gsp_is_code K)):FnOk P w K mg base CX 2 f fd ["code"] sp_need_code:=by
  refine F.ok sc_need_code (fun vs H Q E h => ?_) (fun cdv A outer s H vs Q E hr h => ?_)
  · obtain ⟨x,rfl,_⟩:=h;rfl
  obtain ⟨z,rfl,hz,hl,q'⟩:=h;refine ⟨_,(pss_one (ps_if (pt_not (pt_val (pe_callF C_is_code q hr (pa_cons (pv 0) pa_nil)))) (pss_one ps_never) pss_nil)),?_⟩;refine ⟨_,rfl,_,rfl,.inl ⟨z,rfl,by omega,fun H' sm => ?_⟩⟩;rw [(cB_iff z).mpr ⟨hl,hz⟩];exact ⟨_,rfl,iteF (q' H' sm)⟩
abbrev s_need_side:Stmt:=top 16
theorem sc_need_side:FnScope ["side"] ["side"] (defScope s_need_side):=⟨rfl,rfl,rfl,by decide +kernel,rfl,by decide +kernel,by decide +kernel⟩
def sp_need_side (Y:Yx K mg):Sp:=fun vs H Q E=>∃ x,vs=[x]∧((∃ z,x=.str z∧sideB z∧Q .non H)∨(BadSide H x∧E (.ref Y.c_NoSide) none H))
theorem ok_need_side (T:Tx K mg) (Y:Yx K mg) (q:Quiet (CXe P w)) (F:FunD K "need_side" "need_side" s_need_side f fd .none) (C_is_side:Fok P w K mg base (CXe P w) 1 "is_side" ["thing"] [] sp_is_side):FnOk P w K mg base (CXe P w) 2 f fd ["side"] (sp_need_side Y):=by
  refine F.okX sc_need_side (fun vs H Q E h => ?_) (fun cdv A outer s H vs Q E hr h => ?_)
  · obtain ⟨x,rfl,_⟩:=h;rfl
  obtain ⟨x,rfl,h⟩:=h;refine ⟨_,(pss_one (ps_if (pt_not (pt_val (pe_callF C_is_side q hr (pa_cons (pv 0) pa_nil)))) (pss_one (ps_raise Y.x_NoSide raisesE pe_str)) pss_nil)),?_⟩;rcases h with ⟨z,rfl,hz,q'⟩ | ⟨bx,q'⟩
  · exact ⟨_,rfl,_,rfl,.inl ⟨z,rfl,hz,_,rfl,iteF q'⟩⟩
  · exact ⟨_,rfl,_,rfl,.inr ⟨bx,_,rfl,iteT q'⟩⟩
theorem cxs_go (b:List Nat):∀ a:Nat,b.foldl (fun a d=>a * 2 + d % 2) a=a * 2 ^ b.length + cxs b:=by
  unfold cxs
  induction b with
  | nil=>intro a; simp
  | cons d r ih =>
    intro a;simp only [List.foldl_cons,List.length_cons];rw [ih (a * 2 + d % 2),ih (0 * 2 + d % 2),Nat.pow_succ,Nat.add_mul,Nat.add_mul];rw [show a * 2 * 2 ^ r.length=a * (2 ^ r.length * 2) by rw [Nat.mul_assoc,Nat.mul_comm 2]];omega
theorem cys_go (b:List Nat):∀ a:Nat,b.foldl (fun a d=>a * 2 + d / 2) a=a * 2 ^ b.length + cys b:=by
  unfold cys
  induction b with
  | nil=>intro a; simp
  | cons d r ih =>
    intro a;simp only [List.foldl_cons,List.length_cons];rw [ih (a * 2 + d / 2),ih (0 * 2 + d / 2),Nat.pow_succ,Nat.add_mul,Nat.add_mul];rw [show a * 2 * 2 ^ r.length=a * (2 ^ r.length * 2) by rw [Nat.mul_assoc,Nat.mul_comm 2]];omega
theorem cxs_app (a b:List Nat):cxs (a++b)=cxs a * 2 ^ b.length + cxs b:=by
  rw [← cxs_go b (cxs a)]; unfold cxs; rw [List.foldl_append]
theorem cys_app (a b:List Nat):cys (a++b)=cys a * 2 ^ b.length + cys b:=by
  rw [← cys_go b (cys a)]; unfold cys; rw [List.foldl_append]
theorem cxs_cons (d:Nat) (b:List Nat):cxs (d::b)=d % 2 * 2 ^ b.length + cxs b:=by
  have:=cxs_app [d] b
  rw [show cxs [d]=d % 2 by simp [cxs]] at this;exact this
theorem cys_cons (d:Nat) (b:List Nat):cys (d::b)=d / 2 * 2 ^ b.length + cys b:=by
  have:=cys_app [d] b
  rw [show cys [d]=d / 2 by simp [cys]] at this;exact this
theorem cxs_lt (b:List Nat):cxs b < 2 ^ b.length:=by
  induction b with
  | nil=>decide
  | cons d r ih =>
    rw [cxs_cons,List.length_cons,Nat.pow_succ];have h:d % 2 * 2 ^ r.length≤1 * 2 ^ r.length:=Nat.mul_le_mul_right _ (by omega);omega
theorem cys_lt (b:List Nat) (h4:∀ d∈b,d < 4):cys b < 2 ^ b.length:=by
  induction b with
  | nil=>decide
  | cons d r ih =>
    have ih':=ih fun e he=>h4 e (List.mem_cons_of_mem _ he);have hd:=h4 d List.mem_cons_self;rw [cys_cons,List.length_cons,Nat.pow_succ];have h:d / 2 * 2 ^ r.length≤1 * 2 ^ r.length:=Nat.mul_le_mul_right _ (by omega);omega

theorem step_on {b c b' m k:Int} {u v:Int} (h:b'=b - c) (g:v=u - c * (m - 1)):b' * m + v=b * m + u - c * (m * 2 - 1):=by
  subst h g;rw [Int.sub_mul,Int.mul_sub,Int.mul_sub]
  have:c * (m * 2)=c * m + c * m:=by rw [← Int.mul_assoc,Int.mul_comm (c * m) 2]; omega
  omega
theorem step_end {b c b' m:Int} {u v:Int} (h:b'=b + c) (g:v=u - c * (m - 1)):b' * m + v=b * m + u + c:=by
  subst h g;rw [Int.add_mul,Int.mul_sub];omega
theorem one_txt (d:Nat) (ds:List Nat):one d++txt ds=txt (d::ds):=by
  apply str_ext
  show (#[48 + d]++(ds.map (48 + ·)).toArray).toList=_;simp [txt]
theorem rngDown {n:Nat} (h:n≤40):Builtin.Range.small ((n:Int) - 1) (-1) (-1)=true∧Builtin.Range.rangeSize ((n:Int) - 1) (-1) (-1)=(n:Int):=by
  have e:∀ m:Nat,m < 41→Builtin.Range.small ((m:Int) - 1) (-1) (-1)=true∧Builtin.Range.rangeSize ((m:Int) - 1) (-1) (-1)=(m:Int):=by decide +kernel
  exact e n (by omega)

abbrev s_beside:Stmt:=top 22
theorem sc_beside:FnScope ["code","side","crossing","behind","at","sign"] ["code","side"] (defScope s_beside):=⟨rfl,rfl,rfl,by decide +kernel,rfl,by decide +kernel,by decide +kernel⟩

def sp_beside:Sp:=fun vs H Q _=>∃ (z side s1 s2:Str) (dx dy:Int),vs=[.str z,.str side]∧Dir side s1 s2 dx dy∧IsC z∧z.length≤40∧∀ H',Same H H' →
  (∀ y,IsC y→y.length=z.length→((cxs (dig y):Nat):Int)=((cxs (dig z):Nat):Int) + dx→((cys (dig y):Nat):Int)=((cys (dig z):Nat):Int) + dy→Q (.str y) H') ∧
  (∀ x' y':Nat,x' < 2 ^ z.length→y' < 2 ^ z.length→(x':Int)=((cxs (dig z):Nat):Int) - dx * (((2 ^ z.length:Nat):Int) - 1)→(y':Int)=((cys (dig z):Nat):Int) - dy * (((2 ^ z.length:Nat):Int) - 1)→Q .non H')
theorem cross_of (U:Ty P w K mg) {side s1 s2:Str} {dx dy:Int} (h:Dir side s1 s2 dx dy):∃ a kvs p,mg "CROSSINGS" = some (.ref a)∧KD P w K a kvs∧valV kvs (.inr side)=some (.ref p)∧KTu K p [.str s1,.str s2]:=by
  obtain ⟨a,p0,p1,p2,p3,g,kd,k0,k1,k2,k3⟩:=U.cross;rcases h with ⟨rfl,rfl,rfl,_⟩ | ⟨rfl,rfl,rfl,_⟩ | ⟨rfl,rfl,rfl,_⟩ | ⟨rfl,rfl,rfl,_⟩
  · exact ⟨a,_,p0,g,kd,by with_unfolding_all rfl,k0⟩
  · exact ⟨a,_,p1,g,kd,by with_unfolding_all rfl,k1⟩
  · exact ⟨a,_,p2,g,kd,by with_unfolding_all rfl,k2⟩
  · exact ⟨a,_,p3,g,kd,by with_unfolding_all rfl,k3⟩

def sp_besideX (Y:Yx K mg):Sp:=fun vs H Q E=>sp_beside vs H Q E∨(∃ z x,vs=[.str z,x]∧IsC z∧z.length≤40∧BadSide H x∧∀ H',Same H H'→E (.ref Y.c_NoSide) none H')
theorem ok_beside (T:Tx K mg) (Y:Yx K mg) (U:Ty P w K mg) (q:Quiet (CXe P w)) (F:FunD K "beside" "beside" s_beside f fd .none) (C_need_code:Fok P w K mg base (CXe P w) 2 "need_code" ["code"] [] sp_need_code) (C_need_side:Fok P w K mg base (CXe P w) 2 "need_side" ["side"] [] (sp_need_side Y)) :
    FnOk P w K mg base (CXe P w) 3 f fd ["code","side"] (sp_besideX Y):=by
  refine F.okX sc_beside (fun vs H Q E h => ?_) (fun cdv A outer s H vs Q E hr h => ?_)
  · rcases h with ⟨_,_,_,_,_,_,rfl,_⟩ | ⟨_,_,rfl,_⟩ <;> rfl
  obtain ⟨aC,_,_,_,_,g_CROSSINGS,_⟩:=U.cross;refine ⟨_,(pss_cons (ps_expr (pe_callF C_need_code q hr (pa_cons (pv 0) pa_nil))) (pss_cons (ps_expr (pe_callX C_need_side hr passE (pa_cons (pv 1) pa_nil))) (pss_cons (ps_set (i:=2) sc_beside.nd rfl (Or.inl rfl) (pe_kget (pe_glob (v:=.ref _) rfl g_CROSSINGS rfl) (pv 1) (fun _ _=>rfl))) (pss_cons (ps_set (i:=3) sc_beside.nd rfl (Or.inl rfl) pe_str) (pss_cons (ps_for PassesOwn.leaving rfl (pi_range3 rfl T.b_range (pa_cons (pe_op op_sub (pe_callB call_len rfl T.b_len bb_len (pa_cons (pv 0) pa_nil)) pe_int) (pa_cons (pe_un un_neg pe_int) (pa_cons (pe_un un_neg pe_int) pa_nil)))) (pg_name (i:=4) sc_beside.nd rfl (Or.inl rfl)) (pss_cons (ps_set (i:=5) sc_beside.nd rfl (Or.inl rfl) (pe_ix ix_str (pv 0) (pv 4) (fun _ _=>rfl))) (pss_cons (ps_set (i:=3) sc_beside.nd rfl (Or.inl rfl) (pe_op op_add_str (pe_ix ix_str (pe_ix ix_tup (pv 2) pe_int (fun _ _=>rfl)) (pe_callTy call_int_str rfl T.b_int bt_int (pa_cons (pv 5) pa_nil)) (fun _ _=>rfl)) (pv 3))) (pss_one (ps_if (pt_cmpR op_in_str (pv 5) (pe_ix ix_tup (pv 2) pe_int (fun _ _=>rfl)) (by with_unfolding_all rfl)) (pss_one (ps_ret (pe_op op_add_str (pe_slice sl_str (pv 0) po_none (po_some (pv 4))) (pv 3)))) pss_nil))))) (pss_one (ps_ret pe_non))))))),?_⟩;rcases h with h | ⟨z,x,rfl,hz,hl,bx,q'⟩
  rotate_left
  · exact ⟨_,rfl,z,rfl,hz,hl,fun H1 sm1=>⟨_,rfl,_,rfl,.inr ⟨bx.up sm1,q' H1 sm1⟩⟩⟩
  obtain ⟨z,side,s1,s2,dx,dy,e0,hd,hz,hl,q'⟩:=h;subst e0;obtain ⟨aC2,kvs,p,g2,kd,kv,kp⟩:=cross_of U hd;have eC:aC=aC2:=by
    rw [g_CROSSINGS] at g2;injection g2 with g2;injection g2 with g2
  subst eC;obtain ⟨l1,st⟩:=dir_st hd;have hs:z.length≤sizeLine:=small (by omega);refine ⟨_,rfl,z,rfl,hz,by omega,fun H1 sm1 => ?_⟩;refine ⟨_,rfl,_,rfl,.inl ⟨side,rfl,dir_side hd,?_⟩⟩;refine ⟨_,rfl,aC,kvs,.inr side,.ref p,rfl,rfl,kd,kv,?_⟩;obtain ⟨r1,r2⟩:=rngDown hl;refine ⟨_,rfl,_,_,rfl,⟨hs,rfl⟩,_,_,rfl,rfl,_,rfl,_,rfl,_,_,_,z.length,rfl,by decide,⟨by decide,by decide⟩,r1,r2,for_gen (fun i σ H2=>i≤z.length∧H2=H1∧∃ (S:List Nat) (b:Str) (v4 v5:Option V),S.length=i∧(∀ d∈S,d < 4) ∧
    ((cxs S:Nat):Int)=((cxs ((dig z).drop (z.length - i)):Nat):Int) - dx * (((2 ^ i:Nat):Int) - 1)∧((cys S:Nat):Int)=((cys ((dig z).drop (z.length - i)):Nat):Int) - dy * (((2 ^ i:Nat):Int) - 1)∧b=txt S ∧
    σ=[some (.str z),some (.str side),some (.ref p),some (.str b),v4,v5]) ⟨Nat.zero_le _,rfl,[],_,none,none,rfl,(fun _ h=>by cases h),?_,?_,empty_eq,rfl⟩ ?_ ?_⟩
  · rw [Nat.sub_zero,List.drop_of_length_le (by rw [dig_len]; exact Nat.le_refl _)]; simp [cxs]
  · rw [Nat.sub_zero,List.drop_of_length_le (by rw [dig_len]; exact Nat.le_refl _)]; simp [cys]
  · rintro i σ H2 hi ⟨_,rfl,S,b,v4,v5,hS,hS4,hx,hy,rfl,rfl⟩;obtain ⟨k,hk⟩:∃ k,z.length - i=k + 1:=⟨z.length - 1 - i,by omega⟩;have hkl:k < z.length:=by omega
    have ek:(z.length:Int) - 1 + (i:Int) * -1=(k:Int):=by omega
    have hk1:z.length - (i + 1)=k:=by omega
    obtain ⟨d,hd4,e1,e2⟩:=sgn_one hz hkl;have hin:=sgn_in hz hkl;have hat:z.cps.toList[k]? = some (48 + d):=by
      have hk2:k < z.cps.size:=hkl;have e3:z.cps.getD k 0=48 + d:=by omega
      rw [← e3]; simp [Array.getD_eq_getD_getElem?,hk2]
    have hdr:(dig z).drop k=d::(dig z).drop (k + 1):=by
      have hk3:k < (dig z).length:=by rw [dig_len]; exact hkl
      have e4:=dig_at hkl;rw [e2] at e4;rw [List.drop_eq_getElem_cons hk3]
      congr 1
      rw [List.getElem?_eq_getElem hk3] at e4;exact Option.some.inj e4
    have hdl:((dig z).drop (k + 1)).length=i:=by rw [List.length_drop,dig_len]; omega
    obtain ⟨e,he4,hate,hst⟩:=st d hd4;have hS5:∀ c∈e::S,c < 4:=fun c hc=>by
      rcases List.mem_cons.mp hc with rfl | hc
      · exact he4
      · exact hS4 c hc
    rw [hk] at hx hy;dsimp only;rw [ek];refine ⟨_,rfl,_,rfl,z,_,48 + d,rfl,rfl,hs,atI_nat hat,?_⟩;refine ⟨_,rfl,p,_,0,_,rfl,rfl,kp.sq,rfl,_,rfl,_,(d:Int),rfl,int_one hd4,(by show 1≤640; decide),s1,_,48 + e,rfl,rfl,l1,hate,_,rfl,_,_,rfl,rfl,small (by rw [txt_len]; show 1 + S.length≤1000; omega),?_⟩;have eo:(⟨#[48 + e]⟩:Str)++txt S=txt (e::S):=one_txt e S;rw [eo];refine ⟨_,rfl,_,rfl,p,_,1,_,rfl,rfl,kp.sq,rfl,_,_,rfl,rfl,_,rfl,ite2 (fun c => ?_) (fun c => ?_)⟩
    · have c':occ s2 (one d)=true:=c;rcases hst with ⟨_,hx1,hy1⟩ | ⟨hf,_⟩
      · refine ⟨_,rfl,_,rfl,_,rfl,z,rfl,hs,_,rfl,_,_,rfl,rfl,?_,?_⟩
        · rw [slice_pre];refine small ?_;rw [pre_len,txt_len,List.length_cons]; omega
        · rw [slice_pre];have dz:dig z=(dig z).take k++(d::(dig z).drop (k + 1)):=by rw [← hdr,List.take_append_drop]
          refine (q' H2 sm1).1 _ (IsC.app (pre_isC hz k) (txt_isC hS5)) ?_ ?_ ?_
          · rw [app_len,pre_len,txt_len,List.length_cons]; omega
          · rw [dig_app,dig_pre',dig_txt,cxs_app,cxs_cons,List.length_cons,hS]
            conv=>rhs; rw [dz]
            rw [cxs_app,cxs_cons,List.length_cons,hdl]
            have:=step_end (m:=((2 ^ i:Nat):Int)) hx1 hx
            simp only [Int.natCast_add,Int.natCast_mul] at this ⊢;omega
          · rw [dig_app,dig_pre',dig_txt,cys_app,cys_cons,List.length_cons,hS]
            conv=>rhs; rw [dz]
            rw [cys_app,cys_cons,List.length_cons,hdl]
            have:=step_end (m:=((2 ^ i:Nat):Int)) hy1 hy
            simp only [Int.natCast_add,Int.natCast_mul] at this ⊢;omega
      · rw [c'] at hf; cases hf
    · have c':¬ occ s2 (one d)=true:=c;rcases hst with ⟨ht,_⟩ | ⟨_,hx1,hy1⟩
      · exact absurd ht c'
      · refine ⟨by omega,rfl,e::S,_,_,_,by rw [List.length_cons,hS],hS5,?_,?_,rfl,rfl⟩
        · rw [hk1,hdr,cxs_cons,cxs_cons,hS,hdl,Nat.pow_succ]
          have:=step_on (k:=0) (m:=((2 ^ i:Nat):Int)) hx1 hx
          simp only [Int.natCast_add,Int.natCast_mul] at this ⊢;exact this
        · rw [hk1,hdr,cys_cons,cys_cons,hS,hdl,Nat.pow_succ]
          have:=step_on (k:=0) (m:=((2 ^ i:Nat):Int)) hy1 hy
          simp only [Int.natCast_add,Int.natCast_mul] at this ⊢;exact this
  · rintro σ H2 ⟨_,rfl,S,b,v4,v5,hS,hS4,hx,hy,rfl,rfl⟩;rw [Nat.sub_self,List.drop_zero] at hx hy;exact (q' H2 sm1).2 (cxs S) (cys S) (by rw [← hS]; exact cxs_lt S) (by rw [← hS]; exact cys_lt S hS4) hx hy
abbrev s_leaves_along:Stmt:=top 28
theorem sc_leaves_along:FnScope ["tree","code","near","row","sign"] ["tree","code","near"] (defScope s_leaves_along):=⟨rfl,rfl,rfl,by decide +kernel,rfl,by decide +kernel,by decide +kernel⟩
def sp_leaves_along (m:Nat):Sp:=fun vs H Q _=>∃ (v:V) (t:Tr) (z y:Str) (k:Nat),vs=[v,.str z,.str y]∧TrAt H v t∧Good k t∧IsC z∧z.length + k≤100∧IsC y∧NearOk (dig y)∧k < m∧m≤41∧cnt t≤4000 ∧
  ∀ l H',Same H H'→H l=none→H' l=some (.lst ((along (dig y) (dig z) t).map sV))→Q (.ref l) H'
theorem ok_leaves_along (T:Tx K mg) (q:Quiet CX) (F:FunD K "leaves_along" "leaves_along" s_leaves_along f fd .none) (b:Binds K fd ["tree","code","near"] []) (m:mg "leaves_along" = some (.ref f)) :
    ∀ n,FnOk P w K mg base CX (1 + n) f fd ["tree","code","near"] (sp_leaves_along n)
  | 0=>by
    refine F.ok sc_leaves_along (fun vs H Q E h => ?_) (fun cdv A outer s H vs Q E hr h => ?_)
    · obtain ⟨_,_,_,_,_,rfl,_⟩:=h;rfl
    obtain ⟨_,_,_,_,_,_,_,_,_,_,_,_,h,_⟩:=h;exact absurd h (Nat.not_lt_zero _)
  | m' + 1=>by
    have C_leaves_along:Fok P w K mg base CX (1 + m') "leaves_along" ["tree","code","near"] [] (sp_leaves_along m'):=fok F (ok_leaves_along T q F b m m') b m
    refine F.ok sc_leaves_along (fun vs H Q E h => ?_) (fun cdv A outer s H vs Q E hr h => ?_)
    · obtain ⟨_,_,_,_,_,rfl,_⟩:=h;rfl
    obtain ⟨v,t,z,y,k,rfl,ht,gt,hz,hl,hy,hn,hk,hm,hc,q'⟩:=h;refine ⟨_,(pss_cons (ps_if (pt_not (pt_val (pe_callB (call_isiT "tuple") rfl T.b_isinstance bb_isinstance (pa_cons (pv 0) (pa_cons (pe_bty T.b_tuple bt_tuple) pa_nil))))) (pss_one (ps_ret (pe_lstx (pax_c (pv 1) pax_nil)))) pss_nil) (pss_cons (ps_set (i:=3) sc_leaves_along.nd rfl (Or.inl rfl) (pe_lstx pax_nil)) (pss_cons (ps_for PassesOwn.never rfl (pi_str (pv 2)) (pg_name (i:=4) sc_leaves_along.nd rfl (Or.inl rfl)) (pss_one (ps_expr (pe_bm PySem.F.plainAttrs_list PySem.F.slot_list_extend PySem.F.type_list_extend mt_extend (pv 3) (pa_cons (pe_callF C_leaves_along q hr (pa_cons (pe_ix ix_tup (pv 0) (pe_callTy call_int_str rfl T.b_int bt_int (pa_cons (pv 4) pa_nil)) (fun _ _=>rfl)) (pa_cons (pe_op op_add_str (pv 1) (pv 4)) (pa_cons (pv 2) pa_nil))) (hj:=by first | decide | omega | (simp only [Nat.add_eq]; omega))) pa_nil))))) (pss_one (ps_ret (pv 3)))))),?_⟩
    have ly:y.length=2:=by
      rw [← dig_len];rcases hn with h | h | h | h <;> rw [h] <;> rfl
    cases ht with
    | col i =>
      refine ⟨_,rfl,_,_,_,rfl,.int _,kit_it,_,rfl,iteT ?_⟩;refine ⟨_,rfl,(by show 1≤sizeLine; decide),fun l hl1 => ?_⟩;refine q' l _ (Same.new hl1 _) hl1 ?_;rw [upd_same];show some (HO.lst [V.str z])=some (HO.lst [sV (dig z)]);rw [sV_dig hz]
    | @four p xa xb xc xd ta tb tc td e ja jb jc jd =>
      rcases k with _ | k
      · exact gt.elim
      refine ⟨_,rfl,_,_,_,rfl,.tup e,kit_tt,_,rfl,iteF ?_⟩;refine ⟨(by show 0≤sizeLine; decide),fun l hl0 => ?_⟩;have s1:=Same.new hl0 (.lst []);have u1:upd H l (.lst []) l=some (.lst []):=upd_same;generalize upd H l (.lst [])=H1 at *;have tot:((dig y).flatMap fun e=>along (dig y) (dig z++[e]) (qk (.four ta tb tc td) e)).length≤4000:=by
        rw [← along_four];exact Nat.le_trans (along_len hn _ _) hc
      refine ⟨_,rfl,y,rfl,for_gen (fun (j:Nat) σ H2=>Same H H2∧j≤y.length∧∃ (o:Option V),H2 l=some (.lst ((((dig y).take j).flatMap fun e=>along (dig y) (dig z++[e]) (qk (.four ta tb tc td) e)).map sV))∧σ=[some (.ref p),some (.str z),some (.str y),some (.ref l),o]) ⟨s1,Nat.zero_le _,none,u1,rfl⟩ ?_ ?_⟩
      · rintro j σ H2 hj ⟨s2,_,o,u2,rfl⟩;have hj':j < y.length:=hj;obtain ⟨d,hd,e1,e2⟩:=sgn_one hy hj';have ed:(dig y)[j]? = some d:=by rw [← e2]; exact dig_at hj'
        have key:∃ x,atI [xa,xb,xc,xd] (d:Int)=some x∧TrAt H x (qk (.four ta tb tc td) d):=by
          rcases d with _ | _ | _ | _ | d
          · exact ⟨xa,rfl,ja⟩
          · exact ⟨xb,rfl,jb⟩
          · exact ⟨xc,rfl,jc⟩
          · exact ⟨xd,rfl,jd⟩
          · omega
        obtain ⟨x,k1,k2⟩:=key;have l1:(one d).length=1:=rfl;rw [e1];refine ⟨_,rfl,.inl ⟨rfl,_,SqL.of u2⟩,_,rfl,_,rfl,_,(d:Int),rfl,int_one hd,(by show 1≤640; decide),p,_,_,x,rfl,rfl,SqT.of (s2 _ _ e),k1,_,rfl,_,rfl,_,_,rfl,rfl,(by rw [l1]; exact small (by omega)),_,rfl,x,_,z++one d,y,k,rfl,k2.up s2.tups,gt.q d,IsC.app hz (IsC.one hd),by rw [app_len,l1]; omega,hy,hn,by omega,by omega,Nat.le_trans (cnt_qk _ d) hc,fun l2 H3 s3 hl2 u3 => ?_⟩;rw [dig_app,dig_one] at u3;have et:((dig y).take (j + 1)).flatMap (fun e=>along (dig y) (dig z++[e]) (qk (.four ta tb tc td) e))=((dig y).take j).flatMap (fun e=>along (dig y) (dig z++[e]) (qk (.four ta tb tc td) e))++along (dig y) (dig z++[d]) (qk (.four ta tb tc td) d):=by
          rw [List.take_add_one,ed,List.flatMap_append]; simp
        have n1:(((dig y).take j).flatMap fun e=>along (dig y) (dig z++[e]) (qk (.four ta tb tc td) e)).length≤4000:=by
          refine Nat.le_trans ?_ tot;have fl:∀ g:Nat→List (List Nat),(((dig y).take j).flatMap g).length≤((dig y).flatMap g).length:=fun g=>by
            conv=>rhs; rw [← List.take_append_drop j (dig y),List.flatMap_append,List.length_append]
            omega
          exact fl _
        have n2:=along_len hn (qk (.four ta tb tc td) d) (dig z++[d]);have n3:=cnt_qk (.four ta tb tc td) d;refine ⟨l,l2,_,_,rfl,rfl,s3 _ _ u2,u3,big (by rw [List.length_map,List.length_map]; omega),Same.set (s2.trans s3) hl0 _,by omega,_,?_,rfl⟩;rw [upd_same,et,List.map_append]
      · rintro σ H2 ⟨s2,_,o,u2,rfl⟩;rw [List.take_of_length_le (by rw [dig_len]; exact Nat.le_refl _),← along_four] at u2;exact ⟨_,rfl,q' l H2 s2 hl0 u2⟩

def BeyP (Y:Yx K mg) (H:Hp) (Q:VK) (E:XK) (z:Str) (t:Tr) (x:V):Prop :=
  (∃ (side s1 s2:Str) (dx dy:Int),x=.str side∧Dir side s1 s2 dx dy ∧
    (∀ y,IsC y→y.length=z.length→((cxs (dig y):Nat):Int)=((cxs (dig z):Nat):Int) + dx→((cys (dig y):Nat):Int)=((cys (dig z):Nat):Int) + dy→∀ l H',Same H H'→H l=none→H' l=some (.lst ((down (dig s2) [] (dig y) t).map sV))→Q (.ref l) H') ∧
    (∀ x' y':Nat,x' < 2 ^ z.length→y' < 2 ^ z.length→(x':Int)=((cxs (dig z):Nat):Int) - dx * (((2 ^ z.length:Nat):Int) - 1)→(y':Int)=((cys (dig z):Nat):Int) - dy * (((2 ^ z.length:Nat):Int) - 1)→∀ l H',Same H H'→H l=none→H' l=some (.lst [])→Q (.ref l) H'))
  ∨ (BadSide H x∧∀ H',Same H H'→E (.ref Y.c_NoSide) none H')
abbrev s_beyond_leaf:Stmt:=top 29
theorem sc_beyond_leaf:FnScope ["sheet","code","side","other","tree","signs"] ["sheet","code","side"] (defScope s_beyond_leaf):=⟨rfl,rfl,rfl,by decide +kernel,rfl,by decide +kernel,by decide +kernel⟩
def sp_beyond_leaf (Y:Yx K mg):Sp:=fun vs H Q E=>∃ (ps:Addr) (n:Nat) (v x:V) (t:Tr) (z:Str),vs=[.ref ps,.str z,x]∧H ps=some (.tup [.int (n:Int),v])∧TrAt H v t∧Good n t∧n≤40∧cnt t≤4000∧IsC z∧z.length≤40∧BeyP Y H Q E z t x
theorem ok_beyond_leaf (T:Tx K mg) (Y:Yx K mg) (U:Ty P w K mg) (q:Quiet (CXe P w)) (F:FunD K "beyond_leaf" "beyond_leaf" s_beyond_leaf f fd .none) (C_beside:Fok P w K mg base (CXe P w) 3 "beside" ["code","side"] [] (sp_besideX Y)) (C_leaves_along:Fok P w K mg base (CXe P w) 42 "leaves_along" ["tree","code","near"] [] (sp_leaves_along 41)) :
    FnOk P w K mg base (CXe P w) 43 f fd ["sheet","code","side"] (sp_beyond_leaf Y):=by
  refine F.okX sc_beyond_leaf (fun vs H Q E h => ?_) (fun cdv A outer s H vs Q E hr h => ?_)
  · obtain ⟨_,_,_,_,_,_,rfl,_⟩:=h;rfl
  obtain ⟨ps,n,v,x,t,z,rfl,hps,ht,gt,hn,hc,hz,hl,h⟩:=h;obtain ⟨aC,_,_,_,_,g_CROSSINGS,_⟩:=U.cross;refine ⟨_,(pss_cons (ps_set (i:=3) sc_beyond_leaf.nd rfl (Or.inl rfl) (pe_callX C_beside hr passE (pa_cons (pv 1) (pa_cons (pv 2) pa_nil)))) (pss_cons (ps_if (pt_cmpR op_isN (pv 3) pe_non (nomark _)) (pss_one (ps_ret (pe_lstx pax_nil))) pss_nil) (pss_cons (ps_set (i:=4) sc_beyond_leaf.nd rfl (Or.inl rfl) (pe_ix ix_tup (pv 0) pe_int (fun _ _=>rfl))) (pss_cons (ps_for PassesOwn.leaving rfl (pi_range1 rfl T.b_range (pa_cons (pe_callB call_len rfl T.b_len bb_len (pa_cons (pv 3) pa_nil)) pa_nil)) (pg_name (i:=5) sc_beyond_leaf.nd rfl (Or.inl rfl)) (pss_cons (ps_if (pt_not (pt_val (pe_callB (call_isiT "tuple") rfl T.b_isinstance bb_isinstance (pa_cons (pv 4) (pa_cons (pe_bty T.b_tuple bt_tuple) pa_nil))))) (pss_one (ps_ret (pe_lstx (pax_c (pe_slice sl_str (pv 3) po_none (po_some (pv 5))) pax_nil)))) pss_nil) (pss_one (ps_set (i:=4) sc_beyond_leaf.nd rfl (Or.inl rfl) (pe_ix ix_tup (pv 4) (pe_callTy call_int_str rfl T.b_int bt_int (pa_cons (pe_ix ix_str (pv 3) (pv 5) (fun _ _=>rfl)) pa_nil)) (fun _ _=>rfl)))))) (pss_one (ps_ret (pe_callF C_leaves_along q hr (pa_cons (pv 4) (pa_cons (pv 3) (pa_cons (pe_ix ix_tup (pe_kget (pe_glob (v:=.ref _) rfl g_CROSSINGS rfl) (pv 2) (fun _ _=>rfl)) pe_int (fun _ _=>rfl)) pa_nil)))))))))),?_⟩
  rcases h with ⟨side,s1,s2,dx,dy,rfl,hd,h1,h2⟩ | ⟨bx,q'⟩
  rotate_left
  · exact ⟨_,rfl,_,rfl,.inr ⟨z,x,rfl,hz,hl,bx,q'⟩⟩
  obtain ⟨aC2,kvs,pc,g2,kd,kv,kp⟩:=cross_of U hd;have eC:aC=aC2:=by
    rw [g_CROSSINGS] at g2;injection g2 with g2;injection g2 with g2
  subst eC;obtain ⟨hs2,ns2⟩:=dir_near hd;refine ⟨_,rfl,_,rfl,.inl ⟨z,side,s1,s2,dx,dy,rfl,hd,hz,hl,fun H1 sm1=>⟨fun y hy ly ex ey => ?_,fun x' y' hx' hy' ex ey => ?_⟩⟩⟩
  · refine ⟨_,rfl,rfl,_,rfl,iteF ?_⟩;have hy':y.length≤sizeLine:=small (by omega);refine ⟨_,rfl,ps,_,1,_,rfl,rfl,SqT.of (sm1 _ _ hps),rfl,?_⟩;refine ⟨_,rfl,_,_,rfl,⟨hy',rfl⟩,_,rfl,by omega,by omega,for_range (fun (i:Nat) σ H2=>H2=H1∧i≤y.length∧∃ (v':V) (u:Tr) (o:Option V),node t ((dig y).take i)=some u∧TrAt H1 v' u∧σ=[some (.ref ps),some (.str z),some (.str side),some (.str y),some v',o]) ⟨rfl,Nat.zero_le _,v,t,none,rfl,ht.up sm1.tups,rfl⟩ ?_ ?_⟩
    · rintro i σ H2 hi ⟨rfl,_,v',u,o,hnd,hu,rfl⟩;have hi':i < y.length:=by omega
      rw [show (0:Int) + (i:Int)=(i:Int) by omega];cases hu with
      | col c =>
        refine ⟨_,rfl,_,_,_,rfl,.int _,kit_it,_,rfl,iteT ?_⟩;refine ⟨_,rfl,_,rfl,_,rfl,y,rfl,hy',(by show 1≤sizeLine; decide),fun l hl1 => ?_⟩;rw [slice_pre];refine h1 y hy ly ex ey l _ (sm1.trans (Same.new hl1 _)) (Same.free sm1 hl1) ?_;rw [upd_same];have e1:down (dig s2) [] (dig y) t=[(dig y).take i]:=by
          have e2:=down_node (dig s2) ((dig y).take i) ((dig y).drop i) [] t _ hnd;rw [List.take_append_drop,List.nil_append,List.drop_eq_getElem_cons (by rw [dig_len]; exact hi')] at e2;exact e2
        rw [e1];show some (HO.lst [V.str (pre y i)])=some (HO.lst [V.str (txt ((dig y).take i))]);rw [txt_pre hy]
      | @four p xa xb xc xd ta tb tc td e ja jb jc jd =>
        refine ⟨_,rfl,_,_,_,rfl,.tup e,kit_tt,_,rfl,iteF ?_⟩;obtain ⟨d,hd4,e1,e2⟩:=sgn_one hy hi';have key:∃ x,atI [xa,xb,xc,xd] (d:Int)=some x∧TrAt H2 x (qk (.four ta tb tc td) d):=by
          rcases d with _ | _ | _ | _ | d
          · exact ⟨xa,rfl,ja⟩
          · exact ⟨xb,rfl,jb⟩
          · exact ⟨xc,rfl,jc⟩
          · exact ⟨xd,rfl,jd⟩
          · omega
        obtain ⟨x,k1,k2⟩:=key;have ed:(dig y)[i]? = some d:=by rw [← e2]; exact dig_at hi'
        have hin:=sgn_in hy hi';have hat:y.cps.toList[i]? = some (48 + d):=by
          have hk2:i < y.cps.size:=hi';have e3:y.cps.getD i 0=48 + d:=by omega
          rw [← e3]; simp [Array.getD_eq_getD_getElem?,hk2]
        refine ⟨_,rfl,_,rfl,_,rfl,y,_,48 + d,rfl,rfl,hy',atI_nat hat,_,(d:Int),rfl,int_one hd4,(by show 1≤640; decide),p,_,_,x,rfl,rfl,SqT.of e,k1,rfl,by omega,x,_,_,node_step hnd ed,k2,rfl⟩
    · rintro σ H2 ⟨rfl,_,v',u,o,hnd,hu,rfl⟩;rw [Int.toNat_natCast,List.take_of_length_le (by rw [dig_len]; exact Nat.le_refl _)] at hnd;obtain ⟨gl,gu⟩:=good_node _ _ _ _ gt hnd;rw [dig_len] at gl gu;refine ⟨_,rfl,_,rfl,_,rfl,aC,kvs,.inr side,.ref pc,rfl,rfl,kd,kv,pc,_,1,_,rfl,rfl,kp.sq,rfl,v',u,y,s2,n - y.length,rfl,hu,gu,hy,by omega,hs2,ns2,by omega,by omega,Nat.le_trans (cnt_node _ _ _ hnd) hc,fun l H3 s3 hl3 u3 => ?_⟩;refine h1 y hy ly ex ey l H3 (sm1.trans s3) (Same.free sm1 hl3) ?_;have e2:=down_node (dig s2) (dig y) [] [] t u hnd;rw [List.append_nil,List.nil_append] at e2;rw [e2];exact u3
  · refine ⟨_,rfl,rfl,_,rfl,iteT ?_⟩;exact ⟨(by show 0≤sizeLine; decide),fun l hl1=>h2 x' y' hx' hy' ex ey l _ (sm1.trans (Same.new hl1 _)) (Same.free sm1 hl1) upd_same⟩
end
end Qs


namespace Qs
open PySem L2

def nd (ax:Bool) (d:Nat):Nat:=if ax then d / 2 else d % 2
def td (ax:Bool) (d:Nat):Nat:=if ax then d % 2 else d / 2
def cn (ax:Bool) (r:List Nat):Nat:=if ax then cys r else cxs r
def ct (ax:Bool) (r:List Nat):Nat:=if ax then cxs r else cys r
def nC (ax:Bool) (x y:Nat):Nat:=if ax then y else x
def tC' (ax:Bool) (x y:Nat):Nat:=if ax then x else y

def LiesP (ax s:Bool) (N1 T1 W x y w:Nat):Prop:=(if s then nC ax x y + w=N1 else nC ax x y=N1 + W)∧T1 < tC' ax x y + w∧tC' ax x y < T1 + W
instance (ax s:Bool) (N1 T1 W x y w:Nat):Decidable (LiesP ax s N1 T1 W x y w):=by unfold LiesP; infer_instance
def fl (P:Nat→Nat→Nat→Bool):List Nat→Tr→Nat→Nat→Nat→List (List Nat)
  | p,.col _,x,y,k=>if P x y (2 ^ k) then [p] else []
  | p,.four a b c d,x,y,k=>fl P (p++[0]) a x y (k - 1)++(fl P (p++[1]) b (x + 2 ^ (k - 1)) y (k - 1)++(fl P (p++[2]) c x (y + 2 ^ (k - 1)) (k - 1)++fl P (p++[3]) d (x + 2 ^ (k - 1)) (y + 2 ^ (k - 1)) (k - 1)))
def nearOf (ax s:Bool):List Nat:=match ax,s with
  | true,true=>[2,3]
  | true,false=>[0,1]
  | false,true=>[1,3]
  | false,false=>[0,2]
def FarP (ax s:Bool) (N1 T1 W x y K:Nat):Prop:=tC' ax x y + K≤T1∨T1 + W≤tC' ax x y∨(if s then (N1≤nC ax x y∨nC ax x y + K < N1) else (N1 + W < nC ax x y∨nC ax x y + K≤N1 + W))
theorem far_col {ax s:Bool} {N1 T1 W x y K:Nat} (hK:0 < K) (h:FarP ax s N1 T1 W x y K):¬ LiesP ax s N1 T1 W x y K:=by
  unfold FarP at h;unfold LiesP;cases ax <;> cases s <;> simp only [nC,tC',if_true,if_false,Bool.false_eq_true] at h ⊢ <;> omega
theorem far_child {ax s:Bool} {N1 T1 W x y h:Nat} (f:FarP ax s N1 T1 W x y (2 * h)) (dx dy:Nat) (hx:dx=0∨dx=h) (hy:dy=0∨dy=h):FarP ax s N1 T1 W (x + dx) (y + dy) h:=by
  unfold FarP at f ⊢;cases ax <;> cases s <;> simp only [nC,tC',if_true,if_false,Bool.false_eq_true] at f ⊢ <;> omega
theorem fl_far {ax s:Bool} {N1 T1 W:Nat}:∀ (u:Tr) (p:List Nat) (x y k:Nat),Good k u→FarP ax s N1 T1 W x y (2 ^ k)→fl (fun x y w=>decide (LiesP ax s N1 T1 W x y w)) p u x y k=[]
  | .col _,p,x,y,k,_,f=>by
    show (if decide (LiesP ax s N1 T1 W x y (2 ^ k))=true then [p] else [])=[];rw [if_neg (by rw [decide_eq_true_eq]; exact far_col (Nat.two_pow_pos k) f)]
  | .four a b c d,p,x,y,0,g,_=>g.elim
  | .four a b c d,p,x,y,k + 1,⟨ga,gb,gc,gd,_⟩,f=>by
    rw [Nat.pow_succ,Nat.mul_comm] at f;have c0:=far_child f 0 0 (.inl rfl) (.inl rfl);have c1:=far_child f (2 ^ k) 0 (.inr rfl) (.inl rfl);have c2:=far_child f 0 (2 ^ k) (.inl rfl) (.inr rfl);have c3:=far_child f (2 ^ k) (2 ^ k) (.inr rfl) (.inr rfl);rw [Nat.add_zero] at c1 c2;rw [Nat.add_zero,Nat.add_zero] at c0;show fl _ (p++[0]) a x y k++(fl _ (p++[1]) b (x + 2 ^ k) y k++(fl _ (p++[2]) c x (y + 2 ^ k) k++fl _ (p++[3]) d (x + 2 ^ k) (y + 2 ^ k) k))=[];rw [fl_far a _ _ _ k ga c0,fl_far b _ _ _ k gb c1,fl_far c _ _ _ k gc c2,fl_far d _ _ _ k gd c3];rfl

def NearP (ax s:Bool) (N1 T1 W x y K:Nat):Prop:=T1≤tC' ax x y∧tC' ax x y + K≤T1 + W∧(if s then nC ax x y + K=N1 else nC ax x y=N1 + W)
theorem fl_near {ax s:Bool} {N1 T1 W:Nat}:∀ (u:Tr) (p:List Nat) (x y k:Nat),Good k u→NearP ax s N1 T1 W x y (2 ^ k)→fl (fun x y w=>decide (LiesP ax s N1 T1 W x y w)) p u x y k=along (nearOf ax s) p u
  | .col _,p,x,y,k,_,f=>by
    show (if decide (LiesP ax s N1 T1 W x y (2 ^ k))=true then [p] else [])=[p];have pk:=Nat.two_pow_pos k;generalize 2 ^ k=K at *;rw [if_pos];rw [decide_eq_true_eq];unfold NearP at f;unfold LiesP;cases ax <;> cases s <;> simp only [nC,tC',if_true,if_false,Bool.false_eq_true] at f ⊢ <;> omega
  | .four a b c d,p,x,y,0,g,_=>g.elim
  | .four a b c d,p,x,y,k + 1,⟨ga,gb,gc,gd,_⟩,f=>by
    rw [Nat.pow_succ,Nat.mul_comm] at f;have pk:=Nat.two_pow_pos k;rw [along_four];show fl _ (p++[0]) a x y k++(fl _ (p++[1]) b (x + 2 ^ k) y k++(fl _ (p++[2]) c x (y + 2 ^ k) k++fl _ (p++[3]) d (x + 2 ^ k) (y + 2 ^ k) k))=_;cases ax <;> cases s
    · have n0:NearP false false N1 T1 W x y (2 ^ k):=by unfold NearP at f ⊢; simp only [nC,tC',if_false,Bool.false_eq_true] at f ⊢; omega
      have n2:NearP false false N1 T1 W x (y + 2 ^ k) (2 ^ k):=by unfold NearP at f ⊢; simp only [nC,tC',if_false,Bool.false_eq_true] at f ⊢; omega
      have f1:FarP false false N1 T1 W (x + 2 ^ k) y (2 ^ k):=by unfold NearP at f; unfold FarP; simp only [nC,tC',if_false,Bool.false_eq_true] at f ⊢; omega
      have f3:FarP false false N1 T1 W (x + 2 ^ k) (y + 2 ^ k) (2 ^ k):=by unfold NearP at f; unfold FarP; simp only [nC,tC',if_false,Bool.false_eq_true] at f ⊢; omega
      rw [fl_near a _ _ _ k ga n0,fl_far b _ _ _ k gb f1,fl_near c _ _ _ k gc n2,fl_far d _ _ _ k gd f3];simp [nearOf,qk,q0,q2]
    · have n1:NearP false true N1 T1 W (x + 2 ^ k) y (2 ^ k):=by unfold NearP at f ⊢; simp only [nC,tC',if_true,if_false,Bool.false_eq_true] at f ⊢; omega
      have n3:NearP false true N1 T1 W (x + 2 ^ k) (y + 2 ^ k) (2 ^ k):=by unfold NearP at f ⊢; simp only [nC,tC',if_true,if_false,Bool.false_eq_true] at f ⊢; omega
      have f0:FarP false true N1 T1 W x y (2 ^ k):=by unfold NearP at f; unfold FarP; simp only [nC,tC',if_true,if_false,Bool.false_eq_true] at f ⊢; omega
      have f2:FarP false true N1 T1 W x (y + 2 ^ k) (2 ^ k):=by unfold NearP at f; unfold FarP; simp only [nC,tC',if_true,if_false,Bool.false_eq_true] at f ⊢; omega
      rw [fl_far a _ _ _ k ga f0,fl_near b _ _ _ k gb n1,fl_far c _ _ _ k gc f2,fl_near d _ _ _ k gd n3];simp [nearOf,qk,q1,q3]
    · have n0:NearP true false N1 T1 W x y (2 ^ k):=by unfold NearP at f ⊢; simp only [nC,tC',if_true,if_false,Bool.false_eq_true] at f ⊢; omega
      have n1:NearP true false N1 T1 W (x + 2 ^ k) y (2 ^ k):=by unfold NearP at f ⊢; simp only [nC,tC',if_true,if_false,Bool.false_eq_true] at f ⊢; omega
      have f2:FarP true false N1 T1 W x (y + 2 ^ k) (2 ^ k):=by unfold NearP at f; unfold FarP; simp only [nC,tC',if_true,if_false,Bool.false_eq_true] at f ⊢; omega
      have f3:FarP true false N1 T1 W (x + 2 ^ k) (y + 2 ^ k) (2 ^ k):=by unfold NearP at f; unfold FarP; simp only [nC,tC',if_true,if_false,Bool.false_eq_true] at f ⊢; omega
      rw [fl_near a _ _ _ k ga n0,fl_near b _ _ _ k gb n1,fl_far c _ _ _ k gc f2,fl_far d _ _ _ k gd f3];simp [nearOf,qk,q0,q1]
    · have n2:NearP true true N1 T1 W x (y + 2 ^ k) (2 ^ k):=by unfold NearP at f ⊢; simp only [nC,tC',if_true,if_false,Bool.false_eq_true] at f ⊢; omega
      have n3:NearP true true N1 T1 W (x + 2 ^ k) (y + 2 ^ k) (2 ^ k):=by unfold NearP at f ⊢; simp only [nC,tC',if_true,if_false,Bool.false_eq_true] at f ⊢; omega
      have f0:FarP true true N1 T1 W x y (2 ^ k):=by unfold NearP at f; unfold FarP; simp only [nC,tC',if_true,if_false,Bool.false_eq_true] at f ⊢; omega
      have f1:FarP true true N1 T1 W (x + 2 ^ k) y (2 ^ k):=by unfold NearP at f; unfold FarP; simp only [nC,tC',if_true,if_false,Bool.false_eq_true] at f ⊢; omega
      rw [fl_far a _ _ _ k ga f0,fl_far b _ _ _ k gb f1,fl_near c _ _ _ k gc n2,fl_near d _ _ _ k gd n3];simp [nearOf,qk,q2,q3]

theorem fl_one {P:Nat→Nat→Nat→Bool} {p:List Nat} {a b c d:Tr} {x y k e:Nat} {R:List (List Nat)} (he:e < 4)
    (h0:∀ d',d' < 4→d'≠e→fl P (p++[d']) (qk (.four a b c d) d') (x + d' % 2 * 2 ^ k) (y + d' / 2 * 2 ^ k) k=[])
    (h1:fl P (p++[e]) (qk (.four a b c d) e) (x + e % 2 * 2 ^ k) (y + e / 2 * 2 ^ k) k=R):fl P p (.four a b c d) x y (k + 1)=R:=by
  have r0:fl P p (.four a b c d) x y (k + 1)=fl P (p++[0]) (qk (.four a b c d) 0) (x + 0 % 2 * 2 ^ k) (y + 0 / 2 * 2 ^ k) k++(fl P (p++[1]) (qk (.four a b c d) 1) (x + 1 % 2 * 2 ^ k) (y + 1 / 2 * 2 ^ k) k ++
      (fl P (p++[2]) (qk (.four a b c d) 2) (x + 2 % 2 * 2 ^ k) (y + 2 / 2 * 2 ^ k) k++fl P (p++[3]) (qk (.four a b c d) 3) (x + 3 % 2 * 2 ^ k) (y + 3 / 2 * 2 ^ k) k)):=by
    simp [fl,qk,q0,q1,q2,q3]
  rw [r0];rcases e with _ | _ | _ | _ | e
  · rw [h1,h0 1 (by decide) (by decide),h0 2 (by decide) (by decide),h0 3 (by decide) (by decide)]; simp
  · rw [h1,h0 0 (by decide) (by decide),h0 2 (by decide) (by decide),h0 3 (by decide) (by decide)]; simp
  · rw [h1,h0 0 (by decide) (by decide),h0 1 (by decide) (by decide),h0 3 (by decide) (by decide)]; simp
  · rw [h1,h0 0 (by decide) (by decide),h0 1 (by decide) (by decide),h0 2 (by decide) (by decide)]; simp
  · omega

theorem dg_at {ax:Bool} {d x y h:Nat} (hd:d < 4):nC ax (x + d % 2 * h) (y + d / 2 * h)=nC ax x y + nd ax d * h∧tC' ax (x + d % 2 * h) (y + d / 2 * h)=tC' ax x y + td ax d * h∧nd ax d < 2∧td ax d < 2:=by
  cases ax <;> refine ⟨rfl,rfl,?_,?_⟩ <;> simp only [nd,td,if_true,if_false,Bool.false_eq_true] <;> omega
theorem dg_ne {ax:Bool} {d e:Nat} (hd:d < 4) (he:e < 4) (h:d≠e):nd ax d≠nd ax e∨td ax d≠td ax e:=by
  cases ax <;> simp only [nd,td,if_true,if_false,Bool.false_eq_true] <;> omega
theorem dg_eq {ax:Bool} {d e:Nat} (hd:d < 4) (he:e < 4) (h1:nd ax d=nd ax e) (h2:td ax d=td ax e):d=e:=by
  cases ax <;> simp only [nd,td,if_true,if_false,Bool.false_eq_true] at h1 h2 <;> omega
theorem c_cons (ax:Bool) (e:Nat) (r:List Nat):cn ax (e::r)=nd ax e * 2 ^ r.length + cn ax r∧ct ax (e::r)=td ax e * 2 ^ r.length + ct ax r:=by
  cases ax <;> simp only [cn,ct,nd,td,if_true,if_false,Bool.false_eq_true] <;> exact ⟨by first | exact cxs_cons e r | exact cys_cons e r,by first | exact cxs_cons e r | exact cys_cons e r⟩
theorem c_lt (ax:Bool) {r:List Nat} (h4:∀ d∈r,d < 4):cn ax r < 2 ^ r.length∧ct ax r < 2 ^ r.length:=by
  cases ax <;> simp only [cn,ct,if_true,if_false,Bool.false_eq_true] <;> exact ⟨by first | exact cxs_lt r | exact cys_lt r h4,by first | exact cxs_lt r | exact cys_lt r h4⟩

theorem part_le {c m W:Nat} (h:c < m):c * W + W≤m * W:=by
  have:=Nat.mul_le_mul_right W (show c + 1≤m from h)
  rw [Nat.add_mul,Nat.one_mul] at this;exact this
def AlP (ax s:Bool) (N1 W x y K:Nat):Prop:=if s then nC ax x y + K=N1 else nC ax x y=N1 + W
theorem fl_down {ax s:Bool} {N1 T1:Nat} {j:Nat}:∀ (r:List Nat) (u:Tr) (p:List Nat) (x y:Nat),(∀ d∈r,d < 4)→Good (r.length + j) u→T1=tC' ax x y + ct ax r * 2 ^ j →
    (if s then nC ax x y + cn ax r * 2 ^ j + 2 ^ j=N1 else nC ax x y + cn ax r * 2 ^ j=N1 + 2 ^ j)→AlP ax s N1 (2 ^ j) x y (2 ^ (r.length + j)) →
    fl (fun x y w=>decide (LiesP ax s N1 T1 (2 ^ j) x y w)) p u x y (r.length + j)=down (nearOf ax s) p r u
  | [],u,p,x,y,_,g,hT,hN,hA=>by
    have e0:ct ax []=0∧cn ax []=0:=by cases ax <;> exact ⟨rfl,rfl⟩
    rw [List.length_nil,Nat.zero_add] at g hA ⊢;show _=along (nearOf ax s) p u;refine fl_near u p x y j g ?_;rw [e0.1,Nat.zero_mul,Nat.add_zero] at hT;exact ⟨by omega,by omega,hA⟩
  | e::r,.col c,p,x,y,_,g,hT,hN,hA=>by
    show (if decide (LiesP ax s N1 T1 (2 ^ j) x y (2 ^ ((e::r).length + j)))=true then [p] else [])=[p];rw [if_pos];rw [decide_eq_true_eq];have h4:∀ d∈e::r,d < 4:=by assumption
    have lt:=(c_lt ax h4).2;have pj:=Nat.two_pow_pos j;have le:=part_le (W:=2 ^ j) lt;rw [← Nat.pow_add] at le;refine ⟨?_,?_,?_⟩
    · unfold AlP at hA;cases s
      · exact hA
      · exact hA
    · omega
    · omega
  | e::r,.four a b c d,p,x,y,h4,g,hT,hN,hA=>by
    have he:=h4 e List.mem_cons_self;have h4':∀ d∈r,d < 4:=fun d hd=>h4 d (List.mem_cons_of_mem _ hd);have lt:=c_lt ax h4';have pj:=Nat.two_pow_pos j;have l1:=part_le (W:=2 ^ j) lt.1;have l2:=part_le (W:=2 ^ j) lt.2;rw [← Nat.pow_add] at l1 l2;have ec:=c_cons ax e r;have ek:(e::r).length + j=(r.length + j) + 1:=by rw [List.length_cons]; omega
    rw [ek] at g hA ⊢;rw [ec.2,Nat.add_mul,Nat.mul_assoc,← Nat.pow_add] at hT;rw [ec.1,Nat.add_mul,Nat.mul_assoc,← Nat.pow_add] at hN;rw [Nat.pow_succ] at hA;obtain ⟨en,et,ln,ltd⟩:=dg_at (ax:=ax) (x:=x) (y:=y) (h:=2 ^ (r.length + j)) he;generalize hh:2 ^ (r.length + j)=h at *;generalize hw:2 ^ j=W at *;generalize hA1:ct ax r * W=A1 at *;generalize hB1:cn ax r * W=B1 at *;have ph:0 < h:=by omega
    have key:nd ax e=(if s then 1 else 0)∧AlP ax s N1 W (x + e % 2 * h) (y + e / 2 * h) h:=by
      unfold AlP at hA ⊢;rw [en];have cs:nd ax e=0∨nd ax e=1:=by omega
      cases s
      · simp only [if_false,Bool.false_eq_true] at hA hN ⊢;rcases cs with cs | cs <;> rw [cs] at hN ⊢ <;> omega
      · simp only [if_true] at hA hN ⊢;rcases cs with cs | cs <;> rw [cs] at hN ⊢ <;> omega
    obtain ⟨k1,k2⟩:=key;show fl _ p (.four a b c d) x y (r.length + j + 1)=down (nearOf ax s) (p++[e]) r (qk (.four a b c d) e);refine fl_one he (fun d' hd' nde => ?_) ?_
    · rw [hh];obtain ⟨en',et',ln',lt'⟩:=dg_at (ax:=ax) (x:=x) (y:=y) (h:=h) hd';refine fl_far _ _ _ _ _ (g.q d') ?_;rw [hh];unfold FarP;rw [en',et'];unfold AlP at hA;have c1:td ax e=0∨td ax e=1:=by omega
      have c2:td ax d'=0∨td ax d'=1:=by omega
      have c3:nd ax d'=0∨nd ax d'=1:=by omega
      have c4:=dg_ne (ax:=ax) hd' he nde;cases s
      · simp only [if_false,Bool.false_eq_true] at hA hN k1 ⊢;rcases c1 with c1 | c1 <;> rcases c2 with c2 | c2 <;> rcases c3 with c3 | c3 <;> rw [c1] at hT c4 <;> rw [c2] at c4 ⊢ <;> rw [c3] at c4 ⊢ <;> rw [k1] at c4 hN <;> omega
      · simp only [if_true] at hA hN k1 ⊢;rcases c1 with c1 | c1 <;> rcases c2 with c2 | c2 <;> rcases c3 with c3 | c3 <;> rw [c1] at hT c4 <;> rw [c2] at c4 ⊢ <;> rw [c3] at c4 ⊢ <;> rw [k1] at c4 hN <;> omega
    · rw [hh]
      have:=fl_down (ax:=ax) (s:=s) (N1:=N1) (T1:=T1) (j:=j) r (qk (.four a b c d) e) (p++[e]) (x + e % 2 * h) (y + e / 2 * h) h4' (g.q e) (by rw [hw,hA1,et]; omega) (by rw [hw,hB1,en]; cases s <;> simp only [if_true,if_false,Bool.false_eq_true] at hN ⊢ <;> omega) (by rw [hw,hh]; exact k2)
      rw [hw] at this;exact this

theorem far_t {t T W h A a b:Nat} (hT:T=t + (a * h + A)) (hA:A + W≤h) (ha:a < 2) (hb:b < 2) (hne:¬ b=a):t + b * h + h≤T∨T + W≤t + b * h:=by
  rcases (show (a=0∧b=1)∨(a=1∧b=0) by omega) with ⟨rfl,rfl⟩ | ⟨rfl,rfl⟩ <;> omega
theorem far_n0 {c N W h B a b:Nat} (hN:c + (a * h + B)=N + W) (hB:B + W≤h) (hW:0 < W) (ha:a < 2) (hb:b < 2) (hne:¬ b=a):N + W < c + b * h∨c + b * h + h≤N + W:=by
  rcases (show (a=0∧b=1)∨(a=1∧b=0) by omega) with ⟨rfl,rfl⟩ | ⟨rfl,rfl⟩ <;> omega
theorem far_n1 {c N W h B a b:Nat} (hN:c + (a * h + B) + W=N) (hB:B + W≤h) (hW:0 < W) (ha:a < 2) (hb:b < 2) (hne:¬ b=a):N≤c + b * h∨c + b * h + h < N:=by
  rcases (show (a=0∧b=1)∨(a=1∧b=0) by omega) with ⟨rfl,rfl⟩ | ⟨rfl,rfl⟩ <;> omega
theorem one_t {t T W h A A' a b:Nat} (h1:T=t + (a * h + A)) (h2:T=t + (b * h + A')) (hA:A + W≤h) (hA':A' + W≤h) (hW:0 < W) (ha:a < 2) (hb:b < 2):b=a:=by
  rcases (show (a=0∨a=1)∧(b=0∨b=1) by omega) with ⟨rfl | rfl,rfl | rfl⟩ <;> omega
theorem al_n0 {c N W h B B' a b:Nat} (hS:c + (a * h + B)=N + W) (hN:N=c + (b * h + B')) (hB:B + W≤h) (hB':B' + W≤h) (hW:0 < W) (ha:a < 2) (hb:b < 2) (hne:¬ a=b):c + a * h=N + W:=by
  rcases (show (a=0∧b=1)∨(a=1∧b=0) by omega) with ⟨rfl,rfl⟩ | ⟨rfl,rfl⟩ <;> omega
theorem al_n1 {c N W h B B' a b:Nat} (hS:c + (a * h + B) + W=N) (hN:N=c + (b * h + B')) (hB:B + W≤h) (hB':B' + W≤h) (hW:0 < W) (ha:a < 2) (hb:b < 2) (hne:¬ a=b):c + a * h + h=N:=by
  rcases (show (a=0∧b=1)∨(a=1∧b=0) by omega) with ⟨rfl,rfl⟩ | ⟨rfl,rfl⟩ <;> omega
theorem sum_as {t T X A:Nat} (h:T=t + (X + A)):T=t + X + A:=by omega
theorem sum_as2 {c N X B W:Nat} (h:c + (X + B)=N + W):c + X + B=N + W:=by omega
theorem sum_as3 {c N X B W:Nat} (h:c + (X + B) + W=N):c + X + B + W=N:=by omega
theorem fl_both {ax s:Bool} {j:Nat}:∀ (zr yr:List Nat) (u:Tr) (p:List Nat) (x y N1 T1:Nat) (c:Int),zr.length=yr.length→(∀ d∈zr,d < 4)→(∀ d∈yr,d < 4)→Good (zr.length + j) u→node u zr=some (.col c) →
    T1=tC' ax x y + ct ax zr * 2 ^ j→T1=tC' ax x y + ct ax yr * 2 ^ j→N1=nC ax x y + cn ax zr * 2 ^ j→(if s then nC ax x y + cn ax yr * 2 ^ j + 2 ^ j=N1 else nC ax x y + cn ax yr * 2 ^ j=N1 + 2 ^ j) →
    fl (fun x y w=>decide (LiesP ax s N1 T1 (2 ^ j) x y w)) p u x y (zr.length + j)=down (nearOf ax s) p yr u
  | [],yr,u,p,x,y,N1,T1,c,hl,_,_,_,_,_,_,hN,hS=>by
    have e:yr=[]:=List.eq_nil_of_length_eq_zero hl.symm;subst e;have pj:=Nat.two_pow_pos j;cases s <;> simp only [if_true,if_false,Bool.false_eq_true] at hS <;> omega
  | _::_,[],_,_,_,_,_,_,_,hl,_,_,_,_,_,_,_,_=>by simp at hl
  | e'::zr,e::yr,.col _,_,_,_,_,_,_,_,_,_,_,hnd,_,_,_,_=>by cases hnd
  | e'::zr,e::yr,.four a b c d,p,x,y,N1,T1,cc,hl,z4,y4,g,hnd,hT,hT',hN,hS=>by
    have he':=z4 e' List.mem_cons_self;have he:=y4 e List.mem_cons_self;have z4':∀ d∈zr,d < 4:=fun d hd=>z4 d (List.mem_cons_of_mem _ hd);have y4':∀ d∈yr,d < 4:=fun d hd=>y4 d (List.mem_cons_of_mem _ hd);have hl':zr.length=yr.length:=by simpa using hl
    have lz:=c_lt ax z4';have ly:=c_lt ax y4';have pj:=Nat.two_pow_pos j;have z1:=part_le (W:=2 ^ j) lz.1;have z2:=part_le (W:=2 ^ j) lz.2;have y1:=part_le (W:=2 ^ j) ly.1;have y2:=part_le (W:=2 ^ j) ly.2;rw [← Nat.pow_add] at z1 z2 y1 y2;have ez:=c_cons ax e' zr;have ey:=c_cons ax e yr;have ek:(e'::zr).length + j=(zr.length + j) + 1:=by rw [List.length_cons]; omega
    rw [ek] at g ⊢;rw [ez.2,Nat.add_mul,Nat.mul_assoc,← Nat.pow_add] at hT;rw [ez.1,Nat.add_mul,Nat.mul_assoc,← Nat.pow_add] at hN;rw [ey.2,Nat.add_mul,Nat.mul_assoc,← Nat.pow_add] at hT';rw [ey.1,Nat.add_mul,Nat.mul_assoc,← Nat.pow_add] at hS;rw [← hl'] at y1 y2 hT' hS;obtain ⟨en,et,ln,lt⟩:=dg_at (ax:=ax) (x:=x) (y:=y) (h:=2 ^ (zr.length + j)) he;obtain ⟨en',et',ln',lt'⟩:=dg_at (ax:=ax) (x:=x) (y:=y) (h:=2 ^ (zr.length + j)) he';have hnd':node (qk (.four a b c d) e') zr=some (.col cc):=hnd;generalize hh:2 ^ (zr.length + j)=h at *;generalize hw:2 ^ j=W at *;generalize hA1:ct ax zr * W=A1 at *;generalize hB1:cn ax zr * W=B1 at *;generalize hA2:ct ax yr * W=A2 at *;generalize hB2:cn ax yr * W=B2 at *;have tde:td ax e=td ax e':=one_t hT hT' z2 y2 pj lt' lt;show fl _ p (.four a b c d) x y (zr.length + j + 1)=down (nearOf ax s) (p++[e]) yr (qk (.four a b c d) e);refine fl_one he (fun d' hd' nde => ?_) ?_
    · rw [hh];obtain ⟨en2,et2,ln2,lt2⟩:=dg_at (ax:=ax) (x:=x) (y:=y) (h:=h) hd';refine fl_far _ _ _ _ _ (g.q d') ?_;rw [hh];unfold FarP;rw [en2,et2];by_cases c:td ax d'=td ax e
      · have c8:¬ nd ax d'=nd ax e:=fun k=>(dg_ne (ax:=ax) hd' he nde).elim (fun n=>n k) (fun n=>n c);refine .inr (.inr ?_);cases s
        · simp only [if_false,Bool.false_eq_true] at hS ⊢;exact far_n0 hS y1 pj ln ln2 c8
        · simp only [if_true] at hS ⊢;exact far_n1 hS y1 pj ln ln2 c8
      · rcases far_t hT' y2 lt lt2 c with k | k
        · exact .inl k
        · exact .inr (.inl k)
    · rw [hh];by_cases hne:nd ax e=nd ax e'
      · have ee:e=e':=dg_eq he he' hne tde;subst ee
        have:=fl_both (ax:=ax) (s:=s) (j:=j) zr yr (qk (.four a b c d) e) (p++[e]) (x + e % 2 * h) (y + e / 2 * h) N1 T1 cc hl' z4' y4' (g.q e) hnd' (by rw [hw,hA1,et]; exact sum_as hT) (by rw [hw,hA2,et]; exact sum_as hT') (by rw [hw,hB1,en]; exact sum_as hN)
          (by rw [hw,hB2,en]; cases s <;> simp only [if_true,if_false,Bool.false_eq_true] at hS ⊢ <;> first | exact sum_as2 hS | exact sum_as3 hS)
        rw [hw] at this;exact this
      · have al:AlP ax s N1 W (x + e % 2 * h) (y + e / 2 * h) h:=by
          unfold AlP;rw [en];cases s
          · simp only [if_false,Bool.false_eq_true] at hS ⊢;exact al_n0 hS hN y1 z1 pj ln ln' hne
          · simp only [if_true] at hS ⊢;exact al_n1 hS hN y1 z1 pj ln ln' hne
        have gq:=g.q e;rw [hl'] at gq hh ⊢
        have:=fl_down (ax:=ax) (s:=s) (N1:=N1) (T1:=T1) (j:=j) yr (qk (.four a b c d) e) (p++[e]) (x + e % 2 * h) (y + e / 2 * h) y4' gq (by rw [hw,hA2,et]; exact sum_as hT') (by rw [hw,hB2,en]; cases s <;> simp only [if_true,if_false,Bool.false_eq_true] at hS ⊢ <;> first | exact sum_as2 hS | exact sum_as3 hS) (by rw [hw,hh]; exact al)
        rw [hw] at this;exact this
end Qs
namespace Qs
open PySem L2
theorem kit_ll {K:PySem.W.Frag}:PySem.W.kitOne K (.type "list") (.type "list")=some true:=by kernel_rfl

structure Sq where
  z:List Nat
  c:Int
  x:Nat
  y:Nat
  w:Nat
def sqs:List Nat→Tr→Nat→Nat→Nat→List Sq
  | p,.col c,x,y,k=>[⟨p,c,x,y,2 ^ k⟩]
  | p,.four a b c d,x,y,k=>sqs (p++[0]) a x y (k - 1)++(sqs (p++[1]) b (x + 2 ^ (k - 1)) y (k - 1)++(sqs (p++[2]) c x (y + 2 ^ (k - 1)) (k - 1)++sqs (p++[3]) d (x + 2 ^ (k - 1)) (y + 2 ^ (k - 1)) (k - 1)))
theorem sqs_len:∀ (t:Tr) (p:List Nat) (x y k:Nat),(sqs p t x y k).length=cnt t
  | .col _,_,_,_,_=>rfl
  | .four a b c d,p,x,y,k=>by
    show (sqs _ a _ _ _++(sqs _ b _ _ _++(sqs _ c _ _ _++sqs _ d _ _ _))).length=cnt a + cnt b + cnt c + cnt d;simp only [List.length_append,sqs_len a,sqs_len b,sqs_len c,sqs_len d];omega
theorem fl_sqs (P:Nat→Nat→Nat→Bool):∀ (t:Tr) (p:List Nat) (x y k:Nat),fl P p t x y k=((sqs p t x y k).filter fun q=>P q.x q.y q.w).map Sq.z
  | .col c,p,x,y,k=>by
    show (if P x y (2 ^ k) then [p] else [])=(([⟨p,c,x,y,2 ^ k⟩]:List Sq).filter fun q=>P q.x q.y q.w).map Sq.z;cases h:P x y (2 ^ k) <;> simp [List.filter,h]
  | .four a b c d,p,x,y,k=>by
    show fl P (p++[0]) a x y (k - 1)++(fl P (p++[1]) b (x + 2 ^ (k - 1)) y (k - 1)++(fl P (p++[2]) c x (y + 2 ^ (k - 1)) (k - 1)++fl P (p++[3]) d (x + 2 ^ (k - 1)) (y + 2 ^ (k - 1)) (k - 1))) =
      ((sqs (p++[0]) a x y (k - 1)++(sqs (p++[1]) b (x + 2 ^ (k - 1)) y (k - 1)++(sqs (p++[2]) c x (y + 2 ^ (k - 1)) (k - 1)++sqs (p++[3]) d (x + 2 ^ (k - 1)) (y + 2 ^ (k - 1)) (k - 1)))).filter fun q=>P q.x q.y q.w).map Sq.z
    simp only [List.filter_append,List.map_append,fl_sqs P a,fl_sqs P b,fl_sqs P c,fl_sqs P d]

def SqOk (q:Sq) (p:List Nat) (t:Tr) (x y k:Nat):Prop:=∃ w:List Nat,q.z=p++w∧(∀ d∈w,d < 4)∧node t w=some (.col q.c)∧w.length≤k∧q.x=x + cxs w * 2 ^ (k - w.length)∧q.y=y + cys w * 2 ^ (k - w.length)∧q.w=2 ^ (k - w.length)
theorem sq_down {q:Sq} {p:List Nat} {a b c d:Tr} {x y x' y' k e:Nat} (he:e < 4) (hx:x'=x + e % 2 * 2 ^ k) (hy:y'=y + e / 2 * 2 ^ k) (h:SqOk q (p++[e]) (qk (.four a b c d) e) x' y' k):SqOk q p (.four a b c d) x y (k + 1):=by
  obtain ⟨w,e1,h4,hn,hl,ex,ey,ew⟩:=h;have ek:k + 1 - (e::w).length=k - w.length:=by rw [List.length_cons]; omega
  have ep:2 ^ w.length * 2 ^ (k - w.length)=2 ^ k:=by rw [← Nat.pow_add]; congr 1; omega
  refine ⟨e::w,by rw [e1]; simp,?_,hn,by rw [List.length_cons]; omega,?_,?_,by rw [ek]; exact ew⟩
  · intro d hd;rcases List.mem_cons.mp hd with rfl | hd
    · exact he
    · exact h4 d hd
  · rw [ek,ex,hx,cxs_cons,Nat.add_mul,Nat.mul_assoc,ep]; omega
  · rw [ek,ey,hy,cys_cons,Nat.add_mul,Nat.mul_assoc,ep]; omega
theorem sqs_ok:∀ (t:Tr) (p:List Nat) (x y k:Nat),Good k t→∀ q∈sqs p t x y k,SqOk q p t x y k
  | .col c,p,x,y,k,_,q,hq=>by
    have e:q=⟨p,c,x,y,2 ^ k⟩:=List.mem_singleton.mp hq;subst e;exact ⟨[],by simp,fun d hd=>absurd hd (by simp),rfl,Nat.zero_le _,by simp [cxs],by simp [cys],by simp⟩
  | .four a b c d,p,x,y,0,g,_,_=>g.elim
  | .four a b c d,p,x,y,k + 1,⟨ga,gb,gc,gd,_⟩,q,hq=>by
    have hq':q∈sqs (p++[0]) a x y k++(sqs (p++[1]) b (x + 2 ^ k) y k++(sqs (p++[2]) c x (y + 2 ^ k) k++sqs (p++[3]) d (x + 2 ^ k) (y + 2 ^ k) k)):=hq;simp only [List.mem_append] at hq';rcases hq' with h | h | h | h
    · exact sq_down (e:=0) (by decide) (by simp) (by simp) (sqs_ok a _ _ _ k ga q h)
    · exact sq_down (e:=1) (by decide) (by simp) (by simp) (sqs_ok b _ _ _ k gb q h)
    · exact sq_down (e:=2) (by decide) (by simp) (by simp) (sqs_ok c _ _ _ k gc q h)
    · exact sq_down (e:=3) (by decide) (by simp) (by simp) (sqs_ok d _ _ _ k gd q h)

def mn (i j:Int):Int:=if j < i then j else i
def mx (i j:Int):Int:=if j > i then j else i
def over (a wa b wb:Nat):Int:=mn ((a:Int) + wa) ((b:Int) + wb) - mx (a:Int) b
theorem over_iff {a wa b wb:Nat} (h1:0 < wa) (h2:0 < wb):0 < over a wa b wb↔a < b + wb∧b < a + wa:=by
  unfold over mn mx
  split <;> split <;> omega
end Qs
namespace Qs
open PySem L2
def liesB (ax s:Bool) (q:Sq):Nat→Nat→Nat→Bool:=fun x y w=>decide (LiesP ax s (nC ax q.x q.y) (tC' ax q.x q.y) q.w x y w)
theorem beyond_in {ax s:Bool} {n:Nat} {t:Tr} {q:Sq} {yr:List Nat} (gt:Good n t) (ok:SqOk q [] t 0 0 n) (ly:yr.length=q.z.length) (y4:∀ d∈yr,d < 4) (hc:ct ax yr=ct ax q.z) (hs:if s then cn ax yr + 1=cn ax q.z else cn ax yr=cn ax q.z + 1) :
    fl (liesB ax s q) [] t 0 0 n=down (nearOf ax s) [] yr t:=by
  obtain ⟨w,e1,h4,hn,hl,ex,ey,ew⟩:=ok;rw [List.nil_append] at e1;rw [e1] at ly hc hs;obtain ⟨j,rfl⟩:∃ j,n=w.length + j:=⟨n - w.length,by omega⟩;rw [Nat.add_sub_cancel_left] at ex ey ew;have hN:nC ax q.x q.y=nC ax 0 0 + cn ax w * 2 ^ j:=by cases ax <;> simp only [nC,cn,ex,ey,if_true,if_false,Bool.false_eq_true]
  have hT:tC' ax q.x q.y=tC' ax 0 0 + ct ax w * 2 ^ j:=by cases ax <;> simp only [tC',ct,ex,ey,if_true,if_false,Bool.false_eq_true]
  unfold liesB;rw [ew];refine fl_both w yr t [] 0 0 _ _ q.c ly.symm h4 y4 gt hn hT (by rw [hc]; exact hT) hN ?_;rw [hN];cases s
  · simp only [if_false,Bool.false_eq_true] at hs ⊢;rw [hs,Nat.add_mul,Nat.one_mul]; omega
  · simp only [if_true] at hs ⊢;rw [← hs,Nat.add_mul,Nat.one_mul]; omega
theorem beyond_out {ax s:Bool} {n:Nat} {t:Tr} {q:Sq} (gt:Good n t) (ok:SqOk q [] t 0 0 n) (hb:if s then cn ax q.z=0 else cn ax q.z + 1=2 ^ q.z.length) :
    fl (liesB ax s q) [] t 0 0 n=[]:=by
  obtain ⟨w,e1,h4,hn,hl,ex,ey,ew⟩:=ok;rw [List.nil_append] at e1;rw [e1] at hb;obtain ⟨j,rfl⟩:∃ j,n=w.length + j:=⟨n - w.length,by omega⟩;rw [Nat.add_sub_cancel_left] at ex ey ew;have hN:nC ax q.x q.y=cn ax w * 2 ^ j:=by cases ax <;> simp only [nC,cn,ex,ey,if_true,if_false,Bool.false_eq_true,Nat.zero_add]
  have h0:nC ax 0 0=0:=by cases ax <;> rfl
  unfold liesB;rw [ew];refine fl_far t [] 0 0 _ gt (.inr (.inr ?_));rw [hN,h0];cases s
  · simp only [if_false,Bool.false_eq_true] at hb ⊢
    right
    rw [Nat.pow_add,← hb,Nat.add_mul,Nat.one_mul]; omega
  · simp only [if_true] at hb ⊢
    left
    rw [hb,Nat.zero_mul]; exact Nat.zero_le _

theorem bey_of {K:PySem.W.Frag} {mg:Str→Option Value} {Y:Yx K mg} {H:Hp} {Q:VK} {E:XK} {n:Nat} {t:Tr} {q:Sq} {side s1 s2:Str} {dx dy:Int} {ax s:Bool} (gt:Good n t) (ok:SqOk q [] t 0 0 n) (hd:Dir side s1 s2 dx dy) (e2:dig s2=nearOf ax s)
    (ex:dx=(if ax then 0 else if s then -1 else 1)) (ey:dy=(if ax then (if s then -1 else 1) else 0)) (k:∀ l H',Same H H'→H l=none→H' l=some (.lst ((fl (liesB ax s q) [] t 0 0 n).map sV))→Q (.ref l) H'):BeyP Y H Q E (txt q.z) t (.str side):=by
  obtain ⟨w,e1,h4,_⟩:=id ok;rw [List.nil_append] at e1;refine .inl ⟨side,s1,s2,dx,dy,rfl,hd,fun y hy ly hx hy' l H' sm hl u=>k l H' sm hl ?_,fun x' y' hx' hy' hx hy l H' sm hl u=>k l H' sm hl ?_⟩
  · rw [dig_txt] at hx hy';rw [txt_len] at ly;rw [u,e2,beyond_in (yr:=dig y) gt ok (by rw [dig_len]; exact ly) (dig_lt hy)]
    · subst ex ey;cases ax <;> cases s <;> simp only [ct,if_true,if_false,Bool.false_eq_true] at hx hy' ⊢ <;> omega
    · subst ex ey;cases ax <;> cases s <;> simp only [cn,if_true,if_false,Bool.false_eq_true] at hx hy' ⊢ <;> omega
  · rw [dig_txt,txt_len] at hx hy;rw [txt_len] at hx' hy';have c1:=cxs_lt q.z;have c2:=cys_lt q.z (by rw [e1]; exact h4);rw [u,beyond_out gt ok]
    · rfl
    · subst ex ey;generalize 2 ^ q.z.length=W at *;cases ax <;> cases s <;> simp only [cn,if_true,if_false,Bool.false_eq_true] at hx hy ⊢ <;> omega

def rightB (q r:Sq):Bool:=liesB false false q r.x r.y r.w
def downB (q r:Sq):Bool:=liesB true false q r.x r.y r.w
def touchB (q r:Sq):Bool:=decide (mn (over q.x q.w r.x r.w) (over q.y q.w r.y r.w)=0) && decide (mx (over q.x q.w r.x r.w) (over q.y q.w r.y r.w) > 0)
def Sep (q r:Sq):Prop:=q.x + q.w≤r.x∨q.y + q.w≤r.y
theorem mn_min (i j:Int):mn i j=min i j:=by unfold mn; split <;> omega
theorem mx_max (i j:Int):mx i j=max i j:=by unfold mx; split <;> omega
theorem rightB_iff {q r:Sq}:rightB q r=true↔r.x=q.x + q.w∧q.y < r.y + r.w∧r.y < q.y + q.w:=by
  unfold rightB liesB LiesP;simp only [nC,tC',if_false,Bool.false_eq_true,decide_eq_true_eq]
theorem downB_iff {q r:Sq}:downB q r=true↔r.y=q.y + q.w∧q.x < r.x + r.w∧r.x < q.x + q.w:=by
  unfold downB liesB LiesP;simp only [nC,tC',if_true,if_false,Bool.false_eq_true,decide_eq_true_eq]
theorem touchB_iff {q r:Sq}:touchB q r=true↔min (over q.x q.w r.x r.w) (over q.y q.w r.y r.w)=0∧max (over q.x q.w r.x r.w) (over q.y q.w r.y r.w) > 0:=by
  unfold touchB;rw [mn_min,mx_max];simp only [Bool.and_eq_true,decide_eq_true_eq]
theorem touch_lem {X Y:Int} {A B C D:Prop} (hX:X≤0) (hA:X=0↔A) (hY:0 < Y↔B) (hC:¬ (C∧D)):(min X Y=0∧max X Y > 0)↔(A∧B)∨(C∧D):=by
  rw [← hA,← hY];constructor
  · intro h;exact .inl (by omega)
  · intro h;rcases h with h | h
    · omega
    · exact absurd h hC
theorem touch_lem2 {X Y:Int} {A B C D:Prop} (hY:Y≤0) (hA:Y=0↔C) (hX:0 < X↔D) (hC:¬ (A∧B)):(min X Y=0∧max X Y > 0)↔(A∧B)∨(C∧D):=by
  rw [Int.min_comm,Int.max_comm,touch_lem hY hA hX hC];exact Or.comm
theorem over_sep {a wa b wb:Nat} (hb:0 < wb) (h:a + wa≤b):over a wa b wb=(a:Int) + wa - b:=by
  unfold over mn mx;rw [if_neg (by omega)]
  split <;> omega
theorem sep_touch {q r:Sq} (hq:0 < q.w) (hr:0 < r.w) (h:Sep q r):touchB q r=(rightB q r || downB q r):=by
  rw [Bool.eq_iff_iff,Bool.or_eq_true,touchB_iff,rightB_iff,downB_iff];rcases h with h | h
  · have e:=over_sep hr h;refine touch_lem (by omega) (by rw [e]; omega) (over_iff hq hr) (by omega)
  · have e:=over_sep hr h;refine touch_lem2 (by omega) (by rw [e]; omega) (over_iff hq hr) (by omega)
theorem sep_back {q r:Sq} (hq:0 < q.w) (hr:0 < r.w) (h:Sep q r):rightB r q=false∧downB r q=false:=by
  refine ⟨Bool.eq_false_iff.mpr fun c => ?_,Bool.eq_false_iff.mpr fun c => ?_⟩
  · obtain ⟨c1,c2,c3⟩:=rightB_iff.mp c;rcases h with h | h <;> omega
  · obtain ⟨c1,c2,c3⟩:=downB_iff.mp c;rcases h with h | h <;> omega
theorem not_self {q:Sq} (hq:0 < q.w):rightB q q=false∧downB q q=false:=by
  refine ⟨Bool.eq_false_iff.mpr fun c => ?_,Bool.eq_false_iff.mpr fun c => ?_⟩
  · obtain ⟨c1,c2,c3⟩:=rightB_iff.mp c;omega
  · obtain ⟨c1,c2,c3⟩:=downB_iff.mp c;omega
theorem one_way {q r:Sq} (hq:0 < q.w) (h:rightB q r=true):downB q r=false:=by
  refine Bool.eq_false_iff.mpr fun c => ?_;obtain ⟨c1,c2,c3⟩:=rightB_iff.mp h;obtain ⟨d1,d2,d3⟩:=downB_iff.mp c;omega
theorem sqs_in:∀ (t:Tr) (p:List Nat) (x y k:Nat),Good k t→∀ q∈sqs p t x y k,x≤q.x∧q.x + q.w≤x + 2 ^ k∧y≤q.y∧q.y + q.w≤y + 2 ^ k∧0 < q.w
  | .col c,p,x,y,k,_,q,hq=>by
    have e:q=⟨p,c,x,y,2 ^ k⟩:=List.mem_singleton.mp hq;subst e;exact ⟨Nat.le_refl _,Nat.le_refl _,Nat.le_refl _,Nat.le_refl _,Nat.two_pow_pos k⟩
  | .four a b c d,p,x,y,0,g,_,_=>g.elim
  | .four a b c d,p,x,y,k + 1,⟨ga,gb,gc,gd,_⟩,q,hq=>by
    have hq':q∈sqs (p++[0]) a x y k++(sqs (p++[1]) b (x + 2 ^ k) y k++(sqs (p++[2]) c x (y + 2 ^ k) k++sqs (p++[3]) d (x + 2 ^ k) (y + 2 ^ k) k)):=hq;have e2:2 ^ (k + 1)=2 ^ k + 2 ^ k:=by rw [Nat.pow_succ]; omega
    simp only [List.mem_append] at hq';rw [e2];rcases hq' with h | h | h | h
    · obtain ⟨h1,h2,h3,h4,h5⟩:=sqs_in a _ _ _ k ga q h;refine ⟨?_,?_,?_,?_,h5⟩ <;> omega
    · obtain ⟨h1,h2,h3,h4,h5⟩:=sqs_in b _ _ _ k gb q h;refine ⟨?_,?_,?_,?_,h5⟩ <;> omega
    · obtain ⟨h1,h2,h3,h4,h5⟩:=sqs_in c _ _ _ k gc q h;refine ⟨?_,?_,?_,?_,h5⟩ <;> omega
    · obtain ⟨h1,h2,h3,h4,h5⟩:=sqs_in d _ _ _ k gd q h;refine ⟨?_,?_,?_,?_,h5⟩ <;> omega
theorem lt_app (p:List Nat) {a b:Nat} (h:a < b) (v w:List Nat):p++a::v < p++b::w:=by
  induction p with
  | nil=>exact List.cons_lt_cons_iff.mpr (.inl h)
  | cons x p ih=>exact List.cons_lt_cons_iff.mpr (.inr ⟨rfl,ih⟩)

def BefS (q r:Sq):Prop:=Sep q r∧q.z < r.z
theorem sqs_pre {t:Tr} {p:List Nat} {x y k:Nat} (g:Good k t) {q:Sq} (hq:q∈sqs p t x y k):∃ w,q.z=p++w:=by
  obtain ⟨w,e,_⟩:=sqs_ok t p x y k g q hq;exact ⟨w,e⟩
theorem bef_two {a b:Tr} {p:List Nat} {d e x y x' y' k:Nat} (ga:Good k a) (gb:Good k b) (hd:d < e) (hs:∀ q r:Sq,(x≤q.x∧q.x + q.w≤x + 2 ^ k∧y≤q.y∧q.y + q.w≤y + 2 ^ k∧0 < q.w)→(x'≤r.x∧r.x + r.w≤x' + 2 ^ k∧y'≤r.y∧r.y + r.w≤y' + 2 ^ k∧0 < r.w)→Sep q r) :
    ∀ q∈sqs (p++[d]) a x y k,∀ r∈sqs (p++[e]) b x' y' k,BefS q r:=fun q hq r hr=>by
  refine ⟨hs q r (sqs_in a _ _ _ k ga q hq) (sqs_in b _ _ _ k gb r hr),?_⟩;obtain ⟨v,ev⟩:=sqs_pre ga hq;obtain ⟨w,ew⟩:=sqs_pre gb hr;rw [ev,ew]
  have:=lt_app p hd v w
  simpa using this
theorem sqs_bef:∀ (t:Tr) (p:List Nat) (x y k:Nat),Good k t→(sqs p t x y k).Pairwise BefS
  | .col c,p,x,y,k,_=>List.pairwise_singleton _ _
  | .four a b c d,p,x,y,0,g=>g.elim
  | .four a b c d,p,x,y,k + 1,⟨ga,gb,gc,gd,_⟩=>by
    show (sqs (p++[0]) a x y k++(sqs (p++[1]) b (x + 2 ^ k) y k++(sqs (p++[2]) c x (y + 2 ^ k) k++sqs (p++[3]) d (x + 2 ^ k) (y + 2 ^ k) k))).Pairwise BefS;refine List.pairwise_append.mpr ⟨sqs_bef a _ _ _ k ga,List.pairwise_append.mpr ⟨sqs_bef b _ _ _ k gb,List.pairwise_append.mpr ⟨sqs_bef c _ _ _ k gc,sqs_bef d _ _ _ k gd,?_⟩,?_⟩,?_⟩
    · refine bef_two gc gd (by decide) fun q r hq hr => ?_;unfold Sep;omega
    · intro q hq r hr;rcases List.mem_append.mp hr with hr | hr
      · refine bef_two gb gc (by decide) (fun q r hq hr => ?_) q hq r hr;unfold Sep;omega
      · refine bef_two gb gd (by decide) (fun q r hq hr => ?_) q hq r hr;unfold Sep;omega
    · intro q hq r hr;rcases List.mem_append.mp hr with hr | hr
      · refine bef_two ga gb (by decide) (fun q r hq hr => ?_) q hq r hr;unfold Sep;omega
      rcases List.mem_append.mp hr with hr | hr
      · refine bef_two ga gc (by decide) (fun q r hq hr => ?_) q hq r hr;unfold Sep;omega
      · refine bef_two ga gd (by decide) (fun q r hq hr => ?_) q hq r hr;unfold Sep;omega

abbrev Pr:Type:=List Nat × List Nat
def dueP:List Sq→List Pr
  | []=>[]
  | q::L=>((L.filter fun r=>touchB q r).map fun r=>(q.z,r.z))++dueP L
def toldOf (A:List Sq) (q:Sq):List Pr:=((A.filter fun r=>rightB q r).map fun r=>(q.z,r.z))++((A.filter fun r=>downB q r).map fun r=>(q.z,r.z))
theorem filter_or {α:Type} {a b:α→Bool}:∀ {L:List α},(∀ x∈L,a x=true→b x=false)→(L.filter a++L.filter b).Perm (L.filter fun x=>a x || b x)
  | [],_=>List.Perm.refl _
  | x::L,h=>by
    have ih:=filter_or (L:=L) fun y hy=>h y (List.mem_cons_of_mem _ hy);cases ea:a x with
    | true =>
      have eb:=h x List.mem_cons_self ea;rw [List.filter_cons_of_pos ea,List.filter_cons_of_neg (by rw [eb]; exact Bool.false_ne_true),List.filter_cons_of_pos (by rw [ea]; rfl)];exact ih.cons x
    | false =>
      rw [List.filter_cons_of_neg (by rw [ea]; exact Bool.false_ne_true)];cases eb:b x with
      | true =>
        rw [List.filter_cons_of_pos eb,List.filter_cons_of_pos (by rw [ea,eb]; rfl)];exact List.perm_middle.trans (ih.cons x)
      | false =>
        rw [List.filter_cons_of_neg (by rw [eb]; exact Bool.false_ne_true),List.filter_cons_of_neg (by rw [ea,eb]; exact Bool.false_ne_true)];exact ih
theorem filter_none {α:Type} {a:α→Bool} {L:List α} (h:∀ x∈L,a x=false):L.filter a=[]:=by
  rw [List.filter_eq_nil_iff];intro x hx;rw [h x hx];exact Bool.false_ne_true
theorem told_one {B L:List Sq} {q:Sq} (hB:∀ b∈B,BefS b q∧0 < b.w) (hL:∀ r∈L,BefS q r∧0 < r.w) (hq:0 < q.w):(toldOf (B++q::L) q).Perm ((L.filter fun r=>touchB q r).map fun r=>(q.z,r.z)):=by
  have ns:=not_self hq;have e1:(B++q::L).filter (fun r=>rightB q r)=L.filter (fun r=>rightB q r):=by
    rw [List.filter_append,filter_none fun b hb=>(sep_back (hB b hb).2 hq (hB b hb).1.1).1,List.nil_append,List.filter_cons_of_neg (by rw [ns.1]; exact Bool.false_ne_true)]
  have e2:(B++q::L).filter (fun r=>downB q r)=L.filter (fun r=>downB q r):=by
    rw [List.filter_append,filter_none fun b hb=>(sep_back (hB b hb).2 hq (hB b hb).1.1).2,List.nil_append,List.filter_cons_of_neg (by rw [ns.2]; exact Bool.false_ne_true)]
  unfold toldOf;rw [e1,e2,← List.map_append];have e3:L.filter (fun r=>touchB q r)=L.filter (fun r=>rightB q r || downB q r):=List.filter_congr fun r hr=>sep_touch hq (hL r hr).2 (hL r hr).1.1;rw [e3];exact (filter_or fun r hr h=>one_way hq h).map _
theorem told_perm:∀ (L B:List Sq),(B++L).Pairwise BefS→(∀ q∈B++L,0 < q.w)→(L.flatMap fun q=>toldOf (B++L) q).Perm (dueP L)
  | [],B,_,_=>List.Perm.refl _
  | q::L,B,h,hw=>by
    have ih:=told_perm L (B++[q]) (by simpa using h) (by simpa using hw);rw [List.append_assoc,List.singleton_append] at ih;obtain ⟨p1,p2,p3⟩:=List.pairwise_append.mp h;rw [List.flatMap_cons];refine List.Perm.append (told_one (fun b hb=>⟨p3 b hb q List.mem_cons_self,hw b (by simp [hb])⟩) (fun r hr=>⟨(List.pairwise_cons.mp p2).1 r hr,hw r (by simp [hr])⟩) (hw q (by simp))) ih

def PrLt (a b:Pr):Prop:=a.1 < b.1∨(a.1=b.1∧a.2 < b.2)
theorem dueP_mem:∀ {L:List Sq} {d:Pr},d∈dueP L→∃ q∈L,d.1=q.z
  | [],d,h=>by cases h
  | q::L,d,h=>by
    rcases List.mem_append.mp h with h | h
    · obtain ⟨r,_,rfl⟩:=List.mem_map.mp h;exact ⟨q,List.mem_cons_self,rfl⟩
    · obtain ⟨r,hr,e⟩:=dueP_mem h;exact ⟨r,List.mem_cons_of_mem _ hr,e⟩
theorem dueP_asc:∀ {L:List Sq},L.Pairwise BefS→(dueP L).Pairwise PrLt
  | [],_=>List.Pairwise.nil
  | q::L,h=>by
    obtain ⟨h1,h2⟩:=List.pairwise_cons.mp h;refine List.pairwise_append.mpr ⟨?_,dueP_asc h2,fun a ha b hb => ?_⟩
    · rw [List.pairwise_map];exact (h2.filter _).imp fun h=>.inr ⟨rfl,h.2⟩
    · obtain ⟨r,_,rfl⟩:=List.mem_map.mp ha;obtain ⟨s,hs,e⟩:=dueP_mem hb
      left
      rw [e];exact (h1 s hs).2
theorem dueP_len:∀ (L:List Sq),(dueP L).length≤L.length * L.length
  | []=>Nat.le_refl _
  | q::L=>by
    have ih:=dueP_len L;have h1:=List.length_filter_le (fun r=>touchB q r) L;show (((L.filter fun r=>touchB q r).map fun r=>(q.z,r.z))++dueP L).length≤_;rw [List.length_append,List.length_map,List.length_cons,Nat.add_mul,Nat.mul_add];omega

def PrV (H:Hp) (u:V) (d:Pr):Prop:=∃ p,u=.ref p∧H p=some (.tup [sV d.1,sV d.2])
theorem PrV.up {H H':Hp} {u:V} {d:Pr} (h:PrV H u d) (s:Tups H H'):PrV H' u d:=by
  obtain ⟨p,e,hp⟩:=h;exact ⟨p,e,s _ _ hp⟩
abbrev PrsAt (H:Hp):List V→List Pr→Prop:=Paired (PrV H)
theorem PrsAt.up {H H':Hp} {us:List V} {L:List Pr} (h:PrsAt H us L) (s:Tups H H'):PrsAt H' us L:=by
  induction h with
  | nil=>exact .nil
  | cons p _ ih=>exact .cons (p.up s) ih
theorem PrsAt.app {H:Hp} {us vs:List V} {L M:List Pr} (h:PrsAt H us L) (k:PrsAt H vs M):PrsAt H (us++vs) (L++M):=by
  induction h with
  | nil=>exact k
  | cons p _ ih=>exact .cons p ih
theorem PrsAt.len {H:Hp} {us:List V} {L:List Pr} (h:PrsAt H us L):us.length=L.length:=Paired.length h
theorem PrsAt.get {H:Hp} {us:List V} {L:List Pr} (h:PrsAt H us L):∀ {i:Nat} {u:V},us[i]? = some u→∃ d,L[i]? = some d∧PrV H u d:=by
  induction h with
  | nil=>intro i u e; simp at e
  | cons p _ ih =>
    intro i u e;rcases i with _ | i
    · exact ⟨_,rfl,by rw [← Option.some.inj e]; exact p⟩
    · exact ih (by simpa using e)
def kp (d:Pr):Pky:=pkV (txt d.1) (.str (txt d.2))
theorem txt_inj {a b:List Nat} (h:(txt a).cps.toList=(txt b).cps.toList):a=b:=by
  have:=congrArg dig (cps_inj h)
  rwa [dig_txt,dig_txt] at this
theorem kp_inj {d e:Pr} (h:kp d=kp e):d=e:=by
  have h1:(txt d.1).cps.toList=(txt e.1).cps.toList:=congrArg Prod.fst h;have h2:(txt d.2).cps.toList=(txt e.2).cps.toList:=congrArg (fun x:Pky=>x.2.2) h;exact Prod.ext (txt_inj h1) (txt_inj h2)
theorem txt_lt {a b:List Nat} (h:a < b):(txt a).cps.toList < (txt b).cps.toList:=by
  show (a.map (48 + ·)).toArray.toList < (b.map (48 + ·)).toArray.toList;exact List.map_lt (fun x y h=>Nat.add_lt_add_left h 48) h
theorem kp_lt {d e:Pr} (h:PrLt d e):ltP (kp d) (kp e)=true:=by
  have hv:ltP (kp d) (kp e)=if (txt d.1).cps.toList=(txt e.1).cps.toList then decide ((txt d.2).cps.toList < (txt e.2).cps.toList) else decide ((txt d.1).cps.toList < (txt e.1).cps.toList):=rfl
  rw [hv];rcases h with h | ⟨h1,h2⟩
  · rw [if_neg fun c=>absurd (txt_inj c▸h) (List.lt_irrefl _)];exact decide_eq_true (txt_lt h)
  · rw [if_pos (by rw [h1])];exact decide_eq_true (txt_lt h2)
theorem prs_back {H:Hp}:∀ {us:List V} {D:List Pr},PrsAt H us D→∃ as:List Addr,us=as.map V.ref∧as.map (pkH H)=D.map kp∧∀ a∈as,∃ d:Pr,H a=some (.tup [sV d.1,sV d.2])
  | _,_,.nil=>⟨[],rfl,rfl,fun _ h=>nomatch h⟩
  | _,_,.cons (a:=u) (b:=d) ⟨p,e,hp⟩ t=>by
    obtain ⟨as,h1,h2,h3⟩:=prs_back t;refine ⟨p::as,by rw [h1,e]; rfl,?_,fun a ha => ?_⟩
    · rw [List.map_cons,List.map_cons,h2]
      congr 1
      unfold pkH;rw [hp];rfl
    · rcases List.mem_cons.mp ha with rfl | ha
      · exact ⟨d,hp⟩
      · exact h3 a ha
theorem prs_of {H:Hp}:∀ {as:List Addr} {E:List Pr},as.map (pkH H)=E.map kp→(∀ a∈as,∃ d:Pr,H a=some (.tup [sV d.1,sV d.2]))→PrsAt H (as.map V.ref) E
  | [],[],_,_=>.nil
  | [],_::_,h,_=>by cases h
  | _::_,[],h,_=>by cases h
  | a::as,e::E,h,h3=>by
    obtain ⟨h1,h2⟩:=List.cons.inj h;obtain ⟨d,hd⟩:=h3 a List.mem_cons_self
    have:pkH H a=kp d:=by
      unfold pkH;rw [hd];rfl
    have e1:=kp_inj (this.symm.trans h1);subst e1;exact .cons ⟨a,rfl,hd⟩ (prs_of h2 fun b hb=>h3 b (List.mem_cons_of_mem _ hb))

theorem sorted_due {H:Hp} {as as':List Addr} {D E:List Pr} (h2:as.map (pkH H)=D.map kp) (h3:∀ a∈as,∃ d:Pr,H a=some (.tup [sV d.1,sV d.2])) (pm:as'.Perm as) (pw:as'.Pairwise fun x y=>ltP (pkH H y) (pkH H x)=false) (hp:D.Perm E) (he:E.Pairwise PrLt):PrsAt H (as'.map V.ref) E:=by
  refine prs_of ?_ fun a ha=>h3 a (pm.mem_iff.mp ha);have p1:(as'.map (pkH H)).Perm (E.map kp):=((pm.map _).trans (h2▸List.Perm.refl _)).trans (hp.map kp);refine List.Perm.eq_of_pairwise (le:=fun a b=>ltP b a=false) (fun a b _ _ h1 h2=>lin_P.tot _ _ h2 h1) (List.pairwise_map.mpr pw) ?_ p1;rw [List.pairwise_map];refine he.imp fun h => ?_;cases c:ltP (kp _) (kp _) with
  | false=>rfl
  | true =>
    have:=lin_P.tr _ _ _ c (kp_lt h)
    rw [lin_P.irr] at this;cases this
end Qs


namespace Qs
open PySem L2

def PaV (H:Hp) (n:Nat) (u:V) (q:List Nat × Int):Prop:=∃ p z,u=.ref p∧H p=some (.tup [.str z,.int q.2])∧IsC z∧dig z=q.1∧z.length≤n∧0≤q.2∧q.2≤35
theorem PaV.up {H H':Hp} {n:Nat} {u:V} {q:List Nat × Int} (h:PaV H n u q) (s:Tups H H'):PaV H' n u q:=by
  obtain ⟨p,z,e,hp,h⟩:=h;exact ⟨p,z,e,s _ _ hp,h⟩
inductive PasAt (H:Hp) (n:Nat):List V→List (List Nat × Int)→Prop
  | nil:PasAt H n [] []
  | cons {u:V} {q:List Nat × Int} {us:List V} {L:List (List Nat × Int)}:PaV H n u q→PasAt H n us L→PasAt H n (u::us) (q::L)
theorem PasAt.up {H H':Hp} {n:Nat} {us:List V} {L:List (List Nat × Int)} (h:PasAt H n us L) (s:Tups H H'):PasAt H' n us L:=by
  induction h with
  | nil=>exact .nil
  | cons p _ ih=>exact .cons (p.up s) ih
theorem PasAt.len {H:Hp} {n:Nat} {us:List V} {L:List (List Nat × Int)} (h:PasAt H n us L):us.length=L.length:=by
  induction h with
  | nil=>rfl
  | cons p _ ih=>simp [ih]
theorem PasAt.app {H:Hp} {n:Nat} {us vs:List V} {L M:List (List Nat × Int)} (h:PasAt H n us L) (k:PasAt H n vs M):PasAt H n (us++vs) (L++M):=by
  induction h with
  | nil=>exact k
  | cons p _ ih=>exact .cons p ih
theorem PasAt.get {H:Hp} {n:Nat} {us:List V} {L:List (List Nat × Int)} (h:PasAt H n us L):∀ {i:Nat} {u:V},us[i]? = some u→∃ q,L[i]? = some q∧PaV H n u q:=by
  induction h with
  | nil=>intro i u e; simp at e
  | cons p _ ih =>
    intro i u e;rcases i with _ | i
    · exact ⟨_,rfl,by rw [← Option.some.inj e]; exact p⟩
    · exact ih (by simpa using e)

theorem huge {n:Nat} (h:n≤10000000):n≤sizeLine:=Nat.le_trans h (by decide)
theorem lvs_sqs:∀ (t:Tr) (p:List Nat) (x y k:Nat),lvs p t=(sqs p t x y k).map fun q=>(q.z,q.c)
  | .col c,p,x,y,k=>rfl
  | .four a b c d,p,x,y,k=>by
    show lvs (p++[0]) a++(lvs (p++[1]) b++(lvs (p++[2]) c++lvs (p++[3]) d))=(sqs (p++[0]) a x y (k - 1)++(sqs (p++[1]) b (x + 2 ^ (k - 1)) y (k - 1)++(sqs (p++[2]) c x (y + 2 ^ (k - 1)) (k - 1)++sqs (p++[3]) d (x + 2 ^ (k - 1)) (y + 2 ^ (k - 1)) (k - 1)))).map _;rw [List.map_append,List.map_append,List.map_append,lvs_sqs a (p++[0]) x y (k - 1),lvs_sqs b (p++[1]) (x + 2 ^ (k - 1)) y (k - 1),lvs_sqs c (p++[2]) x (y + 2 ^ (k - 1)) (k - 1),lvs_sqs d (p++[3]) (x + 2 ^ (k - 1)) (y + 2 ^ (k - 1)) (k - 1)]
def part (A:List Sq) (q:Sq) (j:Nat):List Pr:=(A.filter fun r=>liesB (decide (j=1)) false q r.x r.y r.w).map fun r=>(q.z,r.z)
theorem part_len (A:List Sq) (q:Sq) (j:Nat):(part A q j).length≤A.length:=by
  unfold part;rw [List.length_map];exact List.length_filter_le _ _
theorem part_two (A:List Sq) (q:Sq):(List.range 2).flatMap (part A q)=toldOf A q:=by
  rw [show List.range 2=[0,1] from rfl];show part A q 0++(part A q 1++[])=_;rw [List.append_nil];rfl
theorem part_succ (A:List Sq) (q:Sq) (j:Nat):(List.range (j + 1)).flatMap (part A q)=(List.range j).flatMap (part A q)++part A q j:=by
  rw [List.range_succ,List.flatMap_append];simp
theorem side_rd {j:Nat} {x:V} (h:[V.str "right",V.str "down"][j]? = some x):j < 2∧∃ (side s1 s2:Str) (dx dy:Int),x=.str side∧Dir side s1 s2 dx dy∧dig s2=nearOf (decide (j=1)) false∧dx=(if decide (j=1) then 0 else if false then -1 else 1)∧dy=(if decide (j=1) then (if false then -1 else 1) else 0):=by
  rcases j with _ | _ | j
  · exact ⟨by decide,"right",_,_,_,_,(Option.some.inj h).symm,.inr (.inl ⟨rfl,rfl,rfl,rfl,rfl⟩),by decide +kernel,rfl,rfl⟩
  · exact ⟨by decide,"down",_,_,_,_,(Option.some.inj h).symm,.inr (.inr (.inl ⟨rfl,rfl,rfl,rfl,rfl⟩)),by decide +kernel,rfl,rfl⟩
  · exact absurd h (by simp)
theorem log_small4:∀ n:Nat,n < 4→((n:Int)).natAbs.log2 < 1920:=by decide +kernel
section
variable {P:Program} {w:World} {K:PySem.W.Frag} {mg:Str→Option Value} {base:Heap} {CX:CXT} {f:Addr} {fd:FuncData}
abbrev s_leaves_below:Stmt:=top 24
theorem sc_leaves_below:FnScope ["tree","code","row","quarter"] ["tree","code"] (defScope s_leaves_below):=⟨rfl,rfl,rfl,by decide +kernel,rfl,by decide +kernel,by decide +kernel⟩
def sp_leaves_below (m:Nat):Sp:=fun vs H Q _=>∃ (v:V) (t:Tr) (z:Str) (k n:Nat),vs=[v,.str z]∧TrAt H v t∧Good k t∧IsC z∧z.length + k≤n∧n≤40∧k < m∧m≤41∧cnt t≤4000∧∀ l us H',Same H H'→H l=none→H' l=some (.lst us)→PasAt H' n us (lvs (dig z) t)→Q (.ref l) H'
theorem ok_leaves_below (T:Tx K mg) (q:Quiet CX) (F:FunD K "leaves_below" "leaves_below" s_leaves_below f fd .none) (b:Binds K fd ["tree","code"] []) (m:mg "leaves_below" = some (.ref f)) :
    ∀ n,FnOk P w K mg base CX (1 + n) f fd ["tree","code"] (sp_leaves_below n)
  | 0=>by
    refine F.ok sc_leaves_below (fun vs H Q E h => ?_) (fun cdv A outer s H vs Q E hr h => ?_)
    · obtain ⟨_,_,_,_,_,rfl,_⟩:=h;rfl
    obtain ⟨_,_,_,_,_,_,_,_,_,_,_,h,_⟩:=h;exact absurd h (Nat.not_lt_zero _)
  | m' + 1=>by
    have C_leaves_below:Fok P w K mg base CX (1 + m') "leaves_below" ["tree","code"] [] (sp_leaves_below m'):=fok F (ok_leaves_below T q F b m m') b m
    refine F.ok sc_leaves_below (fun vs H Q E h => ?_) (fun cdv A outer s H vs Q E hr h => ?_)
    · obtain ⟨_,_,_,_,_,rfl,_⟩:=h;rfl
    obtain ⟨v,t,z,k,n,rfl,ht,gt,hz,hl,hn,hk,hm,hc,q'⟩:=h;refine ⟨_,(pss_cons (ps_if (pt_not (pt_val (pe_callB (call_isiT "tuple") rfl T.b_isinstance bb_isinstance (pa_cons (pv 0) (pa_cons (pe_bty T.b_tuple bt_tuple) pa_nil))))) (pss_one (ps_ret (pe_lstx (pax_c (pe_tupx (pax_c (pv 1) (pax_c (pv 0) pax_nil))) pax_nil)))) pss_nil) (pss_cons (ps_set (i:=2) sc_leaves_below.nd rfl (Or.inl rfl) (pe_lstx pax_nil)) (pss_cons (ps_for PassesOwn.never rfl (pi_range1 rfl T.b_range (pa_cons pe_int pa_nil)) (pg_name (i:=3) sc_leaves_below.nd rfl (Or.inl rfl)) (pss_one (ps_expr (pe_bm PySem.F.plainAttrs_list PySem.F.slot_list_extend PySem.F.type_list_extend mt_extend (pv 2) (pa_cons (pe_callF C_leaves_below q hr (pa_cons (pe_ix ix_tup (pv 0) (pv 3) (fun _ _=>rfl)) (pa_cons (pe_op op_add_str (pv 1) (pe_callTy call_str_int rfl T.b_str bt_str (pa_cons (pv 3) pa_nil))) pa_nil)) (hj:=by first | decide | omega | (simp only [Nat.add_eq]; omega))) pa_nil))))) (pss_one (ps_ret (pv 2)))))),?_⟩
    cases ht with
    | col i =>
      have g':0≤i∧i≤35:=by cases k <;> exact gt
      refine ⟨_,rfl,_,_,_,rfl,.int _,kit_it,_,rfl,iteT ?_⟩;refine ⟨_,rfl,_,rfl,(by show 2≤sizeLine; decide),fun p hp => ?_⟩;have s1:=Same.new hp (.tup [.str z,.int i]);have u1:upd H p (.tup [.str z,.int i]) p=some (.tup [.str z,.int i]):=upd_same;generalize upd H p (.tup [.str z,.int i])=H1 at *;refine ⟨(by show 1≤sizeLine; decide),fun l hl1 => ?_⟩;have s2:=Same.new hl1 (.lst [.ref p]);exact q' l _ _ (s1.trans s2) (Same.free s1 hl1) upd_same (.cons ⟨p,z,rfl,s2 _ _ u1,hz,rfl,by omega,g'⟩ .nil)
    | @four p xa xb xc xd ta tb tc td e ja jb jc jd =>
      rcases k with _ | k
      · exact gt.elim
      obtain ⟨ga,gb,gc,gd,ho⟩:=gt;have hc':cnt ta + cnt tb + cnt tc + cnt td≤4000:=hc;refine ⟨_,rfl,_,_,_,rfl,.tup e,kit_tt,_,rfl,iteF ?_⟩;refine ⟨(by show 0≤sizeLine; decide),fun l hl1 => ?_⟩;have s1:=Same.new hl1 (.lst []);have u1:upd H l (.lst []) l=some (.lst []):=upd_same;generalize upd H l (.lst [])=H1 at *;obtain ⟨ps,eps⟩:∃ ps:List (List (List Nat × Int)),ps=[lvs (dig z++[0]) ta,lvs (dig z++[1]) tb,lvs (dig z++[2]) tc,lvs (dig z++[3]) td]:=⟨_,rfl⟩;have lps:ps.length=4:=by rw [eps]; rfl
      have tot:ps.flatten.length≤4000:=by
        rw [eps];simp only [List.flatten_cons,List.flatten_nil,List.append_nil,List.length_append,lvs_count];omega
      refine ⟨4,rfl,by decide,by decide,for_range (fun j σ H2=>Same H H2∧∃ (us:List V) (o3:Option V),H2 l=some (.lst us)∧j≤4∧PasAt H2 n us (ps.take j).flatten∧σ=[some (.ref p),some (.str z),some (.ref l),o3]) ⟨s1,[],none,u1,by decide,.nil,rfl⟩ ?_ ?_⟩
      · rintro j σ H2 hj ⟨s2,us,o3,u2,hj4,hus,rfl⟩;have hj4:j < 4:=hj;rw [show (0:Int) + (j:Int)=(j:Int) from Int.zero_add _];have key:∃ x t',atI [xa,xb,xc,xd] (j:Int)=some x∧TrAt H x t'∧Good k t'∧cnt t'≤4000∧ps[j]? = some (lvs (dig z++[j]) t'):=by
          rw [eps];rcases j with _ | _ | _ | _ | j
          · exact ⟨xa,ta,rfl,ja,ga,by omega,rfl⟩
          · exact ⟨xb,tb,rfl,jb,gb,by omega,rfl⟩
          · exact ⟨xc,tc,rfl,jc,gc,by omega,rfl⟩
          · exact ⟨xd,td,rfl,jd,gd,by omega,rfl⟩
          · omega
        obtain ⟨x,t',k1,k2,k3,k4,k5⟩:=key;have l1:(one j).length=1:=rfl;refine ⟨_,rfl,.inl ⟨rfl,_,SqL.of u2⟩,_,rfl,_,rfl,p,_,_,x,rfl,rfl,SqT.of (s2 _ _ e),k1,_,rfl,_,rfl,(j:Int),rfl,log_small4 j hj4,?_⟩;rw [str_one hj4];refine ⟨_,_,rfl,rfl,(by rw [l1]; exact small (by omega)),x,t',z++one j,k,n,rfl,k2.up s2.tups,k3,IsC.app hz (IsC.one hj4),by rw [app_len,l1]; omega,hn,by omega,by omega,k4,fun l2 us2 H3 s3 hl2 u3 hus2 => ?_⟩;rw [dig_app,dig_one] at hus2;have u2':=s3 _ _ u2;have et:(ps.take (j + 1)).flatten=(ps.take j).flatten++lvs (dig z++[j]) t':=by rw [List.take_add_one,k5,List.flatten_append]; simp
        have n1:=hus.len;have n2:=hus2.len;have n3:(ps.take j).flatten.length≤ps.flatten.length:=by
          conv=>rhs; rw [← List.take_append_drop j ps,List.flatten_append,List.length_append]
          omega
        have n4:=lvs_count t' (dig z++[j]);have tl:=Tups.lst (ys:=us++us2) u2';refine ⟨l,l2,us,us2,rfl,rfl,u2',u3,big (by omega),Same.set (s2.trans s3) hl1 _,us++us2,_,upd_same,hj4,?_,rfl⟩;rw [et];exact (hus.up (s3.tups.trans tl)).app (hus2.up tl)
      · rintro σ H2 ⟨s2,us,o3,u2,hj4,hus,rfl⟩;have e4:(ps.take 4).flatten=lvs (dig z) (.four ta tb tc td):=by
          rw [List.take_of_length_le (by omega),eps];simp [lvs]
        have hus':PasAt H2 n us (ps.take 4).flatten:=hus;rw [e4] at hus';exact ⟨_,rfl,q' l us H2 s2 hl1 u2 hus'⟩
abbrev s_leaves:Stmt:=top 25
theorem sc_leaves:FnScope ["sheet"] ["sheet"] (defScope s_leaves):=⟨rfl,rfl,rfl,by decide +kernel,rfl,by decide +kernel,by decide +kernel⟩
def sp_leaves:Sp:=fun vs H Q _=>∃ (v:V) (t:Tr) (n:Nat),vs=[v]∧ShAt H v n t∧Good n t∧n≤40∧cnt t≤4000∧∀ l us H',Same H H'→H l=none→H' l=some (.lst us)→PasAt H' n us (lvs [] t)→Q (.ref l) H'
theorem ok_leaves (T:Tx K mg) (q:Quiet CX) (F:FunD K "leaves" "leaves" s_leaves f fd .none) (C_leaves_below:Fok P w K mg base CX 42 "leaves_below" ["tree","code"] [] (sp_leaves_below 41)):FnOk P w K mg base CX 43 f fd ["sheet"] sp_leaves:=by
  refine F.ok sc_leaves (fun vs H Q E h => ?_) (fun cdv A outer s H vs Q E hr h => ?_)
  · obtain ⟨_,_,_,rfl,_⟩:=h;rfl
  obtain ⟨v,t,n,rfl,⟨p,x,rfl,hp,hx⟩,gt,hn,hc,q'⟩:=h;refine ⟨_,(pss_one (ps_ret (pe_callF C_leaves_below q hr (pa_cons (pe_ix ix_tup (pv 0) pe_int (fun _ _=>rfl)) (pa_cons pe_str pa_nil))))),?_⟩;refine ⟨_,rfl,p,_,_,_,rfl,rfl,SqT.of hp,rfl,x,t,("" : Str),n,n,rfl,hx,gt,empty_eq▸IsC.nil,by rw [show ("" : Str).length=0 by decide +kernel]; omega,hn,by omega,by decide,hc,fun l us H' s' hl u' hus => ?_⟩
  rw [(show dig ("" : Str)=[] by decide +kernel)] at hus
  exact q' l us H' s' hl u' hus

abbrev s_touches:Stmt:=top 30
theorem sc_touches:FnScope ["sheet","told","code","colour","side"] ["sheet"] (defScope s_touches):=⟨rfl,rfl,rfl,by decide +kernel,rfl,by decide +kernel,by decide +kernel⟩
def sp_touches:Sp:=fun vs H Q _=>∃ (ps:Addr) (n:Nat) (v:V) (t:Tr),vs=[.ref ps]∧H ps=some (.tup [.int (n:Int),v])∧TrAt H v t∧Good n t∧n≤40∧cnt t≤1500∧∀ l us H',Same H H'→H l=none→H' l=some (.lst us)→PrsAt H' us (dueP (sqs [] t 0 0 n))→Q (.ref l) H'
theorem ok_touches (T:Tx K mg) (Y:Yx K mg) (q:Quiet (CXe P w)) (F:FunD K "touches" "touches" s_touches f fd .none) (C_leaves:Fok P w K mg base (CXe P w) 43 "leaves" ["sheet"] [] sp_leaves) (C_beyond_leaf:Fok P w K mg base (CXe P w) 43 "beyond_leaf" ["sheet","code","side"] [] (sp_beyond_leaf Y)) :
    FnOk P w K mg base (CXe P w) 44 f fd ["sheet"] sp_touches:=by
  refine F.ok sc_touches (fun vs H Q E h => ?_) (fun cdv A outer s H vs Q E hr h => ?_)
  · obtain ⟨_,_,_,_,rfl,_⟩:=h;rfl
  obtain ⟨ps,n,v,t,rfl,hps,ht,gt,hn,hc,q'⟩:=h;refine ⟨_,(pss_cons (ps_set (i:=1) sc_touches.nd rfl (Or.inl rfl) (pe_lstx pax_nil)) (pss_cons (ps_for PassesOwn.never rfl (pi_list (pe_callF C_leaves q hr (pa_cons (pv 0) pa_nil))) (pg_tup rfl (pgs_cons (pg_name (i:=2) sc_touches.nd rfl (Or.inr rfl)) (pgs_cons (pg_name (i:=3) sc_touches.nd rfl (Or.inl rfl)) pgs_nil))) (pss_one (ps_for PassesOwn.never rfl (pi_tup (pe_tupx (pax_c pe_str (pax_c pe_str pax_nil)))) (pg_name (i:=4) sc_touches.nd rfl (Or.inl rfl)) (pss_one (ps_expr (pe_bm PySem.F.plainAttrs_list PySem.F.slot_list_extend PySem.F.type_list_extend mt_extend (pv 1) (pa_cons (pe_compC (N':=["other","code"]) ["code"] ["code"] [2] 1 (by with_unfolding_all rfl) rfl (capsOk_cons rfl rfl (by decide) capsOk_nil) rfl rfl (by decide) rfl (by decide +kernel) rfl (by decide +kernel) rfl (pi_list (pe_callF C_beyond_leaf q hr (pa_cons (pv 0) (pa_cons (pv 2) (pa_cons (pv 4) pa_nil))))) (fun C s0 H0 fp pins=>(pg_name (i:=0) (show (["other","code"]:List Str).Nodup by decide +kernel) rfl (Or.inl rfl) (Or.inr rfl))) (fun C s0 H0 fp pins=>(pe_tupx (pax_c (pv 1) (pax_c (pv 0) pax_nil))))) pa_nil))))))) (pss_one (ps_ret (pe_callB (call_sortP rfl) rfl T.b_sorted bt_sorted (pa_cons (pv 1) pa_nil)))))),?_⟩
  refine ⟨(by show 0≤sizeLine; decide),fun lt hlt => ?_⟩;have s1:=Same.new hlt (.lst []);have u1:upd H lt (.lst []) lt=some (.lst []):=upd_same;generalize upd H lt (.lst [])=H1 at *;refine ⟨_,rfl,.ref ps,t,n,rfl,⟨ps,v,rfl,s1 _ _ hps,ht.up s1.tups⟩,gt,hn,by omega,fun l us H2 s2 hl u2 hus => ?_⟩;have ll:=hus.len;have hld:l≠lt:=fun z=>by rw [z,u1] at hl; cases hl
  obtain ⟨L,eL⟩:∃ L,L=sqs [] t 0 0 n:=⟨_,rfl⟩;have lc:L.length=cnt t:=by rw [eL]; exact sqs_len t [] 0 0 n
  have eS:lvs [] t=L.map fun q=>(q.z,q.c):=by rw [eL]; exact lvs_sqs t [] 0 0 n
  rw [← eL] at q';rw [eS] at hus ll;rw [List.length_map] at ll;refine ⟨l,rfl,⟨_,SqL.of u2⟩,for_list (xs:=us) (fun i σ H3=>Same H H3∧(∀ b o,b≠lt→H2 b=some o→H3 b=some o)∧(∃ ts,H3 lt=some (.lst ts)∧PrsAt H3 ts ((L.take i).flatMap (toldOf L))∧ts.length≤i * 3000∧i≤us.length)∧∃ o2 o3 o4:Option V,σ=[some (.ref ps),some (.ref lt),o2,o3,o4]) ⟨s1.trans s2,fun _ _ _ e=>e,⟨[],s2 _ _ u1,.nil,by simp,Nat.zero_le _⟩,none,none,none,rfl⟩ (fun i σ H3 _ h=>SqL.of (h.2.1 _ _ hld u2)) ?_ ?_⟩
  · rintro i u σ H3 hu ⟨s3,k3,⟨ts,ut,hts,tl,hi⟩,o2,o3,o4,rfl⟩;obtain ⟨hiu,_⟩:=List.getElem?_eq_some_iff.mp hu;obtain ⟨pq,eq,r,z,rfl,hr',hz,ez,lz,hcc⟩:=hus.get hu;rw [List.getElem?_map] at eq;obtain ⟨sq,esq,epq⟩:=Option.map_eq_some_iff.mp eq;have ok1:SqOk sq [] t 0 0 n:=sqs_ok t [] 0 0 n gt sq (by rw [← eL]; exact List.mem_of_getElem? esq);have hrd:r≠lt:=fun q=>by rw [q,s2 _ _ u1] at hr'; cases hr'
    have esz:dig z=sq.z:=by rw [ez,← epq]
    have ezt:txt sq.z=z:=by rw [← esz,txt_dig hz]
    have eT:(L.take (i + 1)).flatMap (toldOf L)=(L.take i).flatMap (toldOf L)++toldOf L sq:=by
      rw [List.take_add_one,esq,List.flatMap_append];simp
    refine ⟨r,_,rfl,SqT.of (k3 _ _ hrd hr'),rfl,_,_,rfl,_,_,rfl,rfl,?_⟩;refine ⟨(by show 2≤sizeLine; decide),fun pt hpt => ?_⟩;generalize e4:upd H3 pt _=H4;have s4:Same H3 H4:=e4▸Same.new hpt _;have w4:H4 pt=some (.tup [.str "right",.str "down"]):=by rw [← e4]; exact upd_same
    have hptd:pt≠lt:=fun q=>by rw [q,ut] at hpt; cases hpt
    refine ⟨pt,rfl,⟨_,SqT.of w4⟩,for_tup (xs:=[.str "right",.str "down"]) (fun j σ H5=>Same H H5∧(∀ b o,b≠lt→H4 b=some o→H5 b=some o)∧(∃ ts,H5 lt=some (.lst ts)∧PrsAt H5 ts ((L.take i).flatMap (toldOf L)++(List.range j).flatMap (part L sq))∧ts.length≤i * 3000 + j * 1500∧j≤2)∧∃ o4:Option V,σ=[some (.ref ps),some (.ref lt),some (.str z),some (.int pq.2),o4]) ⟨s3.trans s4,fun _ _ _ e=>e,⟨ts,s4 _ _ ut,by rw [show (List.range 0).flatMap (part L sq)=[] from rfl,List.append_nil]; exact hts.up s4.tups,by omega,by decide⟩,_,rfl⟩ (fun j σ H5 _ h=>SqT.of (h.2.1 _ _ hptd w4)) ?_ ?_⟩
    · rintro j x σ H5 hx ⟨s5,k5,⟨ts5,ut5,hts5,tl5,hj⟩,o4,rfl⟩;obtain ⟨hj2,side,b1,b2,dx,dy,rfl,hd,e2,ex,ey⟩:=side_rd hx;have hps5:=s5 _ _ hps;have ht5:=ht.up s5.tups;refine ⟨_,rfl,.inl ⟨rfl,_,SqL.of ut5⟩,[.str z],rfl,_,rfl,_,rfl,_,rfl,ps,n,v,.str side,t,z,rfl,hps5,ht5,gt,hn,by omega,hz,by omega,ezt▸bey_of gt ok1 hd e2 ex ey fun lb H6 s6 hlb u6 => ?_⟩;obtain ⟨zs,ezs⟩:∃ zs,zs=fl (liesB (decide (j=1)) false sq) [] t 0 0 n:=⟨_,rfl⟩;rw [← ezs] at u6;have ep:zs.map (fun o=>(sq.z,o))=part L sq j:=by
        rw [ezs,fl_sqs,List.map_map,← eL];rfl
      have lzs:zs.length≤1500:=by
        have h1:=congrArg List.length ep;rw [List.length_map] at h1;have h2:=part_len L sq j;omega
      refine ⟨lb,rfl,⟨_,SqL.of u6⟩,compC_list (zs.map sV) (fun D (k:Nat) ys H'=>Same H6 H'∧H' D=some (.lst ys)∧k≤zs.length∧PrsAt H' ys ((zs.take k).map fun o=>(sq.z,o))) (by rw [List.length_map]; exact big (by omega)) (fun D k ys H' h=>SqL.of (h.1 _ _ u6))
        (fun D k ys H' h=>⟨h.2.1,by rw [h.2.2.2.len,List.length_map,List.length_take]; omega⟩) (fun D hD=>⟨Same.new hD _,upd_same,Nat.zero_le _,.nil⟩) ?_ ?_ (fun _ _ _ _ _ k h=>k _ _ h) ?_⟩
      · rintro D k y ys H7 hy hD ⟨c1,c2,c3,c4⟩;rw [List.getElem?_map] at hy;obtain ⟨o,eo,rfl⟩:=Option.map_eq_some_iff.mp hy;refine ⟨rfl,_,rfl,_,rfl,(by show 2≤sizeLine; decide),fun pn hpn => ?_⟩;generalize e8:upd H7 pn _=H8;have s8:Same H7 H8:=e8▸Same.new hpn _;have w8:H8 pn=some (.tup [sV sq.z,sV o]):=by rw [← e8]; exact upd_same
        have uD:=s8 _ _ c2;have tl8:=Tups.lst (ys:=ys++[V.ref pn]) uD;refine ⟨uD,Same.set (c1.trans s8) hD _,upd_same,(List.getElem?_eq_some_iff.mp eo).1,?_⟩;rw [List.take_add_one,eo,List.map_append];exact (c4.up (s8.tups.trans tl8)).app (.cons ⟨pn,rfl,tl8 _ _ w8⟩ .nil)
      · rintro D ys H7 hD ⟨c1,c2,c3,c4⟩;rw [List.length_map,List.take_length,ep] at c4;have ut7:=(s6.trans c1) _ _ ut5;have tl7:=Tups.lst (ys:=ts5++ys) ut7;have n1:=c4.len;have n2:=part_len L sq j;refine ⟨lt,D,ts5,ys,rfl,rfl,ut7,c2,huge (by omega),Same.set (s5.trans (s6.trans c1)) hlt _,fun b o hb e=>by rw [upd_ne hb]; exact (s6.trans c1) _ _ (k5 b o hb e),⟨ts5++ys,upd_same,?_,by rw [List.length_append]; omega,by omega⟩,_,rfl⟩;rw [part_succ,← List.append_assoc];exact (hts5.up ((s6.trans c1).tups.trans tl7)).app (c4.up tl7)
      · rintro σ H7 R R' k ⟨x1,g1,x2,g2,h3,h4⟩;exact ⟨x1,g1,x2,g2,h3,fun p hp=>k _ _ (h4 p hp)⟩
    · rintro σ H5 ⟨s5,k5,⟨ts5,ut5,hts5,tl5,hj⟩,o4,rfl⟩;have hts5':PrsAt H5 ts5 ((L.take i).flatMap (toldOf L)++(List.range 2).flatMap (part L sq)):=hts5;rw [part_two,← eT] at hts5';have tl5':ts5.length≤i * 3000 + 2 * 1500:=tl5;exact ⟨s5,fun b o hb e=>k5 b o hb (s4 _ _ (k3 b o hb e)),⟨ts5,ut5,hts5',by omega,by omega⟩,_,_,_,rfl⟩
  · rintro σ H3 ⟨s3,k3,⟨ts,ut,hts,tl,hi⟩,o2,o3,o4,rfl⟩;rw [List.take_of_length_le (by omega)] at hts;obtain ⟨as,e1,e2,e3⟩:=prs_back hts;subst e1;have hPr:Prs H3 true as:=fun b hb=>by
      obtain ⟨d,hd⟩:=e3 b hb;exact ⟨_,_,hd,_,rfl⟩
    refine ⟨_,rfl,lt,true,as,rfl,SqL.of ut,hPr,fun S as' hS pm pw => ?_⟩;have tS:=(Same.new hS (.lst (as'.map V.ref))).tups;have bf:L.Pairwise BefS:=eL▸sqs_bef t [] 0 0 n gt;have hw:∀ q∈L,0 < q.w:=fun q hq=>(sqs_in t [] 0 0 n gt q (eL▸hq)).2.2.2.2;have tp:=told_perm L [] bf hw;exact q' S _ _ (s3.trans (Same.new hS _)) (Same.free s3 hS) upd_same ((sorted_due e2 e3 pm pw tp (dueP_asc bf)).up tS)
end
end Qs


namespace Qs
open PySem L2
theorem txt_inj2 {a b:List Nat} (h:txt a=txt b):a=b:=by
  have:=congrArg dig h
  rwa [dig_txt,dig_txt] at this
abbrev ky (z:List Nat):Key:=Sum.inr (txt z)
theorem ky_inj {a b:List Nat} (h:ky a=ky b):a=b:=txt_inj2 (Sum.inr.inj h)
theorem valV_mem {kvs:List (Key × V)} {k:Key} {v:V}:(kvs.map (·.1)).Nodup→(k,v)∈kvs→valV kvs k=some v:=by
  induction kvs with
  | nil=>intro _ h; cases h
  | cons p r ih =>
    intro nd h;rw [List.map_cons,List.nodup_cons] at nd;rcases List.mem_cons.mp h with rfl | h
    · exact valV_pos rfl
    · rw [valV_neg fun e=>nd.1 (e▸List.mem_map.mpr ⟨_,h,rfl⟩)];exact ih nd.2 h

def colK (L:List Sq):List (Key × V):=L.map fun q=>(ky q.z,V.int q.c)
theorem z_nodup {L:List Sq} (h:L.Pairwise BefS):(L.map (·.z)).Nodup:=by
  unfold List.Nodup;rw [List.pairwise_map];exact h.imp fun h e=>absurd (e▸h.2) (List.lt_irrefl _)
theorem colK_nodup {L:List Sq} (h:L.Pairwise BefS):((colK L).map (·.1)).Nodup:=by
  unfold colK;rw [List.map_map];have h2:=z_nodup h;unfold List.Nodup at *;rw [List.pairwise_map] at *;exact h2.imp fun h e=>h (ky_inj e)
theorem colK_val {L:List Sq} (h:L.Pairwise BefS) {q:Sq} (hq:q∈L):valV (colK L) (ky q.z)=some (V.int q.c):=valV_mem (colK_nodup h) (List.mem_map.mpr ⟨q,hq,rfl⟩)
theorem z_inj {L:List Sq} (h:L.Pairwise BefS) {q r:Sq} (hq:q∈L) (hr:r∈L) (e:q.z=r.z):q=r:=by
  induction L with
  | nil=>cases hq
  | cons p L ih =>
    obtain ⟨h1,h2⟩:=List.pairwise_cons.mp h;rcases List.mem_cons.mp hq with eq | hq2
    · rcases List.mem_cons.mp hr with er | hr2
      · rw [eq,er]
      · have:=(h1 r hr2).2
        rw [← eq,e] at this;exact absurd this (List.lt_irrefl _)
    · rcases List.mem_cons.mp hr with er | hr2
      · have:=(h1 q hq2).2
        rw [← er,e] at this;exact absurd this (List.lt_irrefl _)
      · exact ih h2 hq2 hr2
theorem dueP_pair:∀ {L:List Sq} {d:Pr},d∈dueP L→∃ q∈L,∃ r∈L,d=(q.z,r.z)∧touchB q r=true
  | [],d,h=>by cases h
  | q::L,d,h=>by
    rcases List.mem_append.mp h with h | h
    · obtain ⟨r,hr,rfl⟩:=List.mem_map.mp h;obtain ⟨h1,h2⟩:=List.mem_filter.mp hr;exact ⟨q,List.mem_cons_self,r,List.mem_cons_of_mem _ h1,rfl,h2⟩
    · obtain ⟨q',hq,r,hr,e,ht⟩:=dueP_pair h;exact ⟨q',List.mem_cons_of_mem _ hq,r,List.mem_cons_of_mem _ hr,e,ht⟩
theorem dueP_of:∀ {L:List Sq} {i j:Nat} {q r:Sq},L[i]? = some q→L[j]? = some r→i < j→touchB q r=true→(q.z,r.z)∈dueP L
  | [],_,_,_,_,h,_,_,_=>by simp at h
  | p::L,0,j + 1,q,r,h1,h2,_,ht=>by
    have e:p=q:=by simpa using h1
    subst e;refine List.mem_append_left _ (List.mem_map.mpr ⟨r,List.mem_filter.mpr ⟨List.mem_of_getElem? (by simpa using h2),ht⟩,rfl⟩)
  | p::L,i + 1,j + 1,q,r,h1,h2,hij,ht=>List.mem_append_right _ (dueP_of (i:=i) (j:=j) (by simpa using h1) (by simpa using h2) (by omega) ht)
  | p::L,_ + 1,0,_,_,_,_,h,_=>by omega
  | p::L,0,0,_,_,_,_,h,_=>by omega
theorem pas_pairs {H:Hp} {n:Nat}:∀ {us:List V} {M:List (List Nat × Int)},PasAt H n us M→∃ as:List Addr,us=as.map V.ref∧PairsAt H as (M.map fun p=>(ky p.1,V.int p.2))
  | _,_,.nil=>⟨[],rfl,.nil⟩
  | _,_,.cons h t=>by
    obtain ⟨as,e,k⟩:=pas_pairs t;obtain ⟨r,z,rfl,hr,hz,ez,lz,hc⟩:=h;refine ⟨r::as,by rw [e]; rfl,.cons ?_ k⟩;show H r=some (.tup [.str (txt _),.int _]);rw [← ez,txt_dig hz];exact hr

structure Aro (H:Hp) (d:Addr) (zs:List (List Nat)) (lo:List Nat→Addr) (A:List Nat→List (List Nat)):Prop where
  ex:∃ kvs,H d=some (.dK kvs)∧kvs.length≤zs.length∧(∀ z∈zs,valV kvs (ky z)=some (.ref (lo z)))∧∀ z,z∉zs→valV kvs (ky z)=none
  at_:∀ z∈zs,H (lo z)=some (.lst ((A z).map sV))
  inj:∀ z∈zs,∀ y∈zs,lo z=lo y→z=y
theorem Aro.ne {H:Hp} {d:Addr} {zs:List (List Nat)} {lo:List Nat→Addr} {A:List Nat→List (List Nat)} (h:Aro H d zs lo A) {z:List Nat} (hz:z∈zs):lo z≠d:=fun e=>by
  obtain ⟨kvs,h1,_⟩:=h.ex;have h2:=h.at_ z hz
  rw [e,h1] at h2;cases h2
theorem Aro.up {H H':Hp} {d:Addr} {zs:List (List Nat)} {lo:List Nat→Addr} {A:List Nat→List (List Nat)} (h:Aro H d zs lo A) (s:Same H H'):Aro H' d zs lo A:=by
  obtain ⟨kvs,h1,h2⟩:=h.ex;exact ⟨⟨kvs,s _ _ h1,h2⟩,fun z hz=>s _ _ (h.at_ z hz),h.inj⟩
theorem Aro.get {H:Hp} {d:Addr} {zs:List (List Nat)} {lo:List Nat→Addr} {A:List Nat→List (List Nat)} (h:Aro H d zs lo A) {z:List Nat} (hz:z∈zs):DGet H d (sV z) (some (.ref (lo z))):=by
  obtain ⟨kvs,h1,_,h2,_⟩:=h.ex;rw [← h2 z hz];exact DGet.k (k:=ky z) h1

def addA (A:List Nat→List (List Nat)) (a b:List Nat):List Nat→List (List Nat):=fun z=>if z=a then A z++[b] else A z
theorem Aro.add {H:Hp} {d:Addr} {zs:List (List Nat)} {lo:List Nat→Addr} {A:List Nat→List (List Nat)} (h:Aro H d zs lo A) {a:List Nat} (ha:a∈zs) (b:List Nat):Aro (upd H (lo a) (.lst ((A a).map sV++[sV b]))) d zs lo (addA A a b):=by
  obtain ⟨kvs,h1,h2⟩:=h.ex;refine ⟨⟨kvs,by rw [upd_ne (Ne.symm (h.ne ha))]; exact h1,h2⟩,fun z hz => ?_,h.inj⟩;unfold addA;by_cases e:z=a
  · subst e;rw [upd_same,if_pos rfl,List.map_append];rfl
  · rw [upd_ne fun q=>e (h.inj z hz a ha q),if_neg e];exact h.at_ z hz
theorem Aro.new {H:Hp} {d:Addr} {zs:List (List Nat)} {lo:List Nat→Addr} (h:Aro H d zs lo (fun _=>[])) {kvs:List (Key × V)} (hd:H d=some (.dK kvs)) {z:List Nat} {l:Addr} (hz:z∉zs) (hl:H l=some (.lst [])) (hn:∀ y∈zs,lo y≠l) :
    Aro (upd H d (.dK (putK kvs (ky z) (.ref l)))) d (zs++[z]) (fun y=>if y=z then l else lo y) (fun _=>[]):=by
  obtain ⟨kvs0,h1,h2,h3,h4⟩:=h.ex;have e:kvs0=kvs:=by
    rw [hd] at h1;injection h1 with h1;injection h1 with h1;exact h1.symm
  subst e;have hld:l≠d:=fun q=>by rw [q,hd] at hl; cases hl
  have inz:∀ y∈zs,y≠z:=fun y hy q=>hz (q▸hy);refine ⟨⟨_,upd_same,?_,fun y hy => ?_,fun y hy => ?_⟩,fun y hy => ?_,fun y hy x hx q => ?_⟩
  · have:=length_putK kvs0 (ky z) (.ref l)
    rw [List.length_append,List.length_singleton];omega
  · rw [valV_put];by_cases q:y=z
    · rw [if_pos (by rw [q]),if_pos q]
    · rw [if_neg fun c=>q (ky_inj c),if_neg q];rcases List.mem_append.mp hy with hy | hy
      · exact h3 y hy
      · exact absurd (List.mem_singleton.mp hy) q
  · rw [valV_put,if_neg fun c=>hy (by rw [ky_inj c]; simp)];exact h4 y fun c=>hy (List.mem_append_left _ c)
  · show upd _ _ _ (if y=z then l else lo y)=_;by_cases q:y=z
    · rw [if_pos q,upd_ne hld]; exact hl
    · rw [if_neg q];have hy':y∈zs:=(List.mem_append.mp hy).elim id fun c=>absurd (List.mem_singleton.mp c) q;rw [upd_ne (h.ne hy')];exact h.at_ y hy'
  · by_cases q1:y=z <;> by_cases q2:x=z
    · rw [q1,q2]
    · have hx':x∈zs:=(List.mem_append.mp hx).elim id fun c=>absurd (List.mem_singleton.mp c) q2;have q':l=lo x:=by simpa [q1,q2] using q
      exact absurd q'.symm (hn x hx')
    · have hy':y∈zs:=(List.mem_append.mp hy).elim id fun c=>absurd (List.mem_singleton.mp c) q1;have q':lo y=l:=by simpa [q1,q2] using q
      exact absurd q' (hn y hy')
    · have hx':x∈zs:=(List.mem_append.mp hx).elim id fun c=>absurd (List.mem_singleton.mp c) q2;have hy':y∈zs:=(List.mem_append.mp hy).elim id fun c=>absurd (List.mem_singleton.mp c) q1;exact h.inj y hy' x hx' (by simpa [q1,q2] using q)
def linkB (kvs:List (Key × V)) (d:Pr):Bool:=decide (valV kvs (ky d.1)=valV kvs (ky d.2))
def stepA (B:Pr→Bool) (A:List Nat→List (List Nat)) (d:Pr):List Nat→List (List Nat):=if B d=true then addA (addA A d.1 d.2) d.2 d.1 else A
def notes (B:Pr→Bool) (D:List Pr):List Nat→List (List Nat):=D.foldl (stepA B) fun _=>[]
theorem notes_snoc (B:Pr→Bool) (D:List Pr) (d:Pr):notes B (D++[d])=stepA B (notes B D) d:=by
  unfold notes;rw [List.foldl_append];rfl

def Near (B:Pr→Bool) (D:List Pr) (z z':List Nat):Prop:=∃ d∈D,B d=true∧((z=d.1∧z'=d.2)∨(z=d.2∧z'=d.1))
theorem mem_addA {A:List Nat→List (List Nat)} {a b z z':List Nat}:z'∈addA A a b z↔z'∈A z∨(z=a∧z'=b):=by
  unfold addA;by_cases e:z=a
  · rw [if_pos e,List.mem_append,List.mem_singleton];simp [e]
  · rw [if_neg e];simp [e]
theorem mem_stepA {B:Pr→Bool} {A:List Nat→List (List Nat)} {d:Pr} {z z':List Nat}:z'∈stepA B A d z↔z'∈A z∨(B d=true∧((z=d.1∧z'=d.2)∨(z=d.2∧z'=d.1))):=by
  unfold stepA;by_cases h:B d=true
  · rw [if_pos h,mem_addA,mem_addA];simp [h,or_assoc]
  · rw [if_neg h];simp [h]
theorem notes_mem (B:Pr→Bool):∀ (D:List Pr) (A:List Nat→List (List Nat)) (z z':List Nat),z'∈D.foldl (stepA B) A z↔z'∈A z∨Near B D z z'
  | [],A,z,z'=>by
    unfold Near;simp
  | d::D,A,z,z'=>by
    rw [List.foldl_cons,notes_mem B D,mem_stepA];unfold Near;simp only [List.mem_cons,exists_eq_or_imp,or_assoc]
theorem notes_near (B:Pr→Bool) (D:List Pr) (z z':List Nat):z'∈notes B D z↔Near B D z z':=by
  unfold notes;rw [notes_mem];simp
theorem addA_len (A:List Nat→List (List Nat)) (a b z:List Nat):(addA A a b z).length≤(A z).length + 1:=by
  unfold addA
  split
  · rw [List.length_append,List.length_singleton]; omega
  · omega
theorem stepA_len (B:Pr→Bool) (A:List Nat→List (List Nat)) (d:Pr) (z:List Nat):(stepA B A d z).length≤(A z).length + 2:=by
  unfold stepA
  split
  · have h1:=addA_len (addA A d.1 d.2) d.2 d.1 z;have h2:=addA_len A d.1 d.2 z;omega
  · omega
def nrA (L:List Sq):List Nat→List (List Nat):=notes (linkB (colK L)) (dueP L)
section
variable {P:Program} {w:World} {K:PySem.W.Frag} {mg:Str→Option Value} {base:Heap} {CX:CXT} {f:Addr} {fd:FuncData}
abbrev s_alike_around:Stmt:=top 32
theorem sc_alike_around:FnScope ["sheet","colours","around","code","other"] ["sheet"] (defScope s_alike_around):=⟨rfl,rfl,rfl,by decide +kernel,rfl,by decide +kernel,by decide +kernel⟩
def sp_alike_around:Sp:=fun vs H Q _=>∃ (ps:Addr) (n:Nat) (v:V) (t:Tr),vs=[.ref ps]∧H ps=some (.tup [.int (n:Int),v])∧TrAt H v t∧Good n t∧n≤40∧cnt t≤1500 ∧
  ∀ d lo A H',Same H H'→H d=none→Aro H' d ((sqs [] t 0 0 n).map (·.z)) lo A→(∀ z,(A z).length≤4500000)→(∀ z z',z'∈A z↔Near (linkB (colK (sqs [] t 0 0 n))) (dueP (sqs [] t 0 0 n)) z z')→A=nrA (sqs [] t 0 0 n)→Q (.ref d) H'
theorem ok_alike_around (T:Tx K mg) (q:Quiet (CXe P w)) (F:FunD K "alike_around" "alike_around" s_alike_around f fd .none) (C_leaves:Fok P w K mg base (CXe P w) 43 "leaves" ["sheet"] [] sp_leaves) (C_touches:Fok P w K mg base (CXe P w) 44 "touches" ["sheet"] [] sp_touches) :
    FnOk P w K mg base (CXe P w) 45 f fd ["sheet"] sp_alike_around:=by
  refine F.ok sc_alike_around (fun vs H Q E h => ?_) (fun cdv A outer s H vs Q E hr h => ?_)
  · obtain ⟨_,_,_,_,rfl,_⟩:=h;rfl
  obtain ⟨ps,n,v,t,rfl,hps,ht,gt,hn,hc,q'⟩:=h;refine ⟨_,(pss_cons (ps_set (i:=1) sc_alike_around.nd rfl (Or.inl rfl) (pe_callTy (call_dictL rfl) rfl T.b_dict bt_dict (pa_cons (pe_callF C_leaves q hr (pa_cons (pv 0) pa_nil)) pa_nil))) (pss_cons (ps_set (i:=2) sc_alike_around.nd rfl (Or.inl rfl) pe_dnewK) (pss_cons (ps_for PassesOwn.never rfl (pi_keys (pv 1)) (pg_name (i:=3) sc_alike_around.nd rfl (Or.inl rfl)) (pss_one (ps_dput hr.dic (pv 2) (pv 3) (pe_lstx pax_nil) (swaps_of rfl)))) (pss_cons (ps_for PassesOwn.never rfl (pi_list (pe_callF C_touches q hr (pa_cons (pv 0) pa_nil))) (pg_tup rfl (pgs_cons (pg_name (i:=3) sc_alike_around.nd rfl (Or.inl rfl)) (pgs_cons (pg_name (i:=4) sc_alike_around.nd rfl (Or.inl rfl)) pgs_nil))) (pss_one (ps_if (pt_cmpR op_eq (pe_dget hr.dic (pv 1) (pv 3) (fun _ _=>rfl)) (pe_dget hr.dic (pv 1) (pv 4) (fun _ _=>rfl)) (nomark _)) (pss_cons (ps_expr (pe_bm PySem.F.plainAttrs_list PySem.F.slot_list_append PySem.F.type_list_append mt_append (pe_dget hr.dic (pv 2) (pv 3) (fun _ _=>rfl)) (pa_cons (pv 4) pa_nil))) (pss_one (ps_expr (pe_bm PySem.F.plainAttrs_list PySem.F.slot_list_append PySem.F.type_list_append mt_append (pe_dget hr.dic (pv 2) (pv 4) (fun _ _=>rfl)) (pa_cons (pv 3) pa_nil))))) pss_nil))) (pss_one (ps_ret (pv 2))))))),?_⟩;obtain ⟨L,eL⟩:∃ L,L=sqs [] t 0 0 n:=⟨_,rfl⟩;have hB:L.Pairwise BefS:=by rw [eL]; exact sqs_bef t [] 0 0 n gt
  have lc:L.length=cnt t:=by rw [eL]; exact sqs_len t [] 0 0 n
  have eS:lvs [] t=L.map fun q=>(q.z,q.c):=by rw [eL]; exact lvs_sqs t [] 0 0 n
  refine ⟨_,rfl,.ref ps,t,n,rfl,⟨ps,v,rfl,hps,ht⟩,gt,hn,by omega,fun l us H1 s1 hl u1 hus => ?_⟩;rw [eS] at hus;obtain ⟨as,eas,hpr⟩:=pas_pairs hus;have hpr':PairsAt H1 as (colK L):=by
    unfold colK;rw [List.map_map] at hpr;exact hpr
  refine ⟨l,as,colK L,rfl,SqL.of (by rw [u1,eas]),hpr',colK_nodup hB,fun dc hdc => ?_⟩;have s2:=Same.new hdc (.dK (colK L));have u2:upd H1 dc (.dK (colK L)) dc=some (.dK (colK L)):=upd_same;generalize upd H1 dc (.dK (colK L))=H2 at *;refine fun da hda => ?_;have s3:=Same.new hda (.dK []);have u3:upd H2 da (.dK []) da=some (.dK []):=upd_same;have u2':=s3 _ _ u2;generalize upd H2 da (.dK [])=H3 at *;have nda:H da=none:=(s1.trans s2).free hda;have ndc:H dc=none:=s1.free hdc;have hdd:dc≠da:=fun q=>by rw [q,hda] at u2; cases u2
  have cl:(colK L).length=L.length:=by unfold colK; rw [List.length_map]
  obtain ⟨zs,ezs⟩:∃ zs,zs=L.map (·.z):=⟨_,rfl⟩;have zl:zs.length=L.length:=by rw [ezs,List.length_map]
  have znd:zs.Nodup:=by rw [ezs]; exact z_nodup hB
  rw [← eL,← ezs] at q';refine ⟨_,rfl,dc,colK L,rfl,u2',fun ob=>for_keys (fun (i:Nat) σ H4=>Same H H4∧H4 dc=some (.frz ob (.dK (colK L)))∧(∃ lo,Aro H4 da (zs.take i) lo (fun _=>[])∧∀ z∈zs.take i,H (lo z)=none)∧∃ o3:Option V,σ=[some (.ref ps),some (.ref dc),some (.ref da),o3,none]) ?_ (fun i σ H _ h=>h.2.1) ?_ ?_⟩
  · refine ⟨Same.set ((s1.trans s2).trans s3) ndc _,upd_same,⟨fun _=>0,⟨⟨[],?_,Nat.le_refl _,fun z hz => ?_,fun z _=>rfl⟩,fun z hz => ?_,fun z hz => ?_⟩,fun z hz => ?_⟩,none,rfl⟩
    · rw [upd_ne (Ne.symm hdd)]; exact u3
    all_goals (rw [List.take_zero] at hz; cases hz)
  · rintro i k v' σ H4 hk ⟨s4,f4,⟨lo,ar,nw⟩,o3,rfl⟩;unfold colK at hk;rw [List.getElem?_map] at hk;obtain ⟨sq,esq,e⟩:=Option.map_eq_some_iff.mp hk;obtain rfl:k=ky sq.z:=(congrArg Prod.fst e).symm;have ez:zs[i]? = some sq.z:=by rw [ezs,List.getElem?_map,esq]; rfl
    have et:zs.take (i + 1)=zs.take i++[sq.z]:=by rw [List.take_add_one,ez]; rfl
    have nz:sq.z∉zs.take i:=fun c=>by
      have h1:=List.nodup_append.mp (et▸(List.take_sublist (i + 1) zs).nodup znd);exact h1.2.2 _ c _ (List.mem_singleton.mpr rfl) rfl
    refine ⟨(by show 0≤sizeLine; decide),fun l0 hl0 => ?_⟩;have s5:=Same.new hl0 (.lst []);have u5:upd H4 l0 (.lst []) l0=some (.lst []):=upd_same;have nl:∀ y∈zs.take i,lo y≠l0:=fun y hy q=>by
      have:=ar.at_ y hy
      rw [q,hl0] at this;cases this
    generalize upd H4 l0 (.lst [])=H5 at *;have ar5:=ar.up s5;obtain ⟨kvs,d5,len5,_⟩:=ar5.ex;have lt5:kvs.length≤1500:=by
      have:=List.length_take_le i zs
      have:=List.length_take_le' i zs
      omega
    refine ⟨_,rfl,_,rfl,da,_,rfl,DPut.k (k:=ky sq.z) d5 (Nat.lt_of_lt_of_le (by omega:kvs.length < 5000) (by decide)),?_⟩;refine ⟨Same.set (s4.trans s5) nda _,by rw [upd_ne hdd]; exact s5 _ _ f4,⟨fun y=>if y=sq.z then l0 else lo y,?_,fun z hz => ?_⟩,_,rfl⟩
    · rw [et];exact ar5.new d5 nz u5 nl
    · rw [et] at hz;by_cases q:z=sq.z
      · show H (if z=sq.z then l0 else lo z)=none;rw [if_pos q];exact s4.free hl0
      · show H (if z=sq.z then l0 else lo z)=none;rw [if_neg q];exact nw z ((List.mem_append.mp hz).elim id fun c=>absurd (List.mem_singleton.mp c) q)
  · rintro σ H4 ⟨s4,f4,⟨lo,ar,nw⟩,o3,rfl⟩;rw [cl,← zl,List.take_length] at ar nw;refine ⟨_,rfl,ps,n,v,t,rfl,s4 _ _ hps,ht.up s4.tups,gt,hn,hc,fun l2 us2 H5 s5 hl2 u5 hD=>⟨l2,rfl,⟨_,SqL.of u5⟩,?_⟩⟩;rw [← eL] at hD;have lD:=hD.len;have lD2:=dueP_len L;have lq:L.length * L.length≤1500 * 1500:=Nat.mul_le_mul (by omega) (by omega);have ar5:=ar.up s5;have nl2:∀ z∈zs,lo z≠l2:=fun z hz q=>by
      have:=ar.at_ z hz
      rw [q,hl2] at this;cases this
    refine for_list (xs:=us2) (fun (j:Nat) σ H6=>j≤us2.length∧Same H H6∧(∀ b o,(∀ z∈zs,lo z≠b)→H5 b=some o→H6 b=some o)∧Aro H6 da zs lo (notes (linkB (colK L)) ((dueP L).take j))∧(∀ z,(notes (linkB (colK L)) ((dueP L).take j) z).length≤2 * j)∧∃ o3 o4:Option V,σ=[some (.ref ps),some (.ref dc),some (.ref da),o3,o4]) ⟨Nat.zero_le _,s4.trans s5,fun _ _ _ e=>e,ar5,fun z=>Nat.le_refl _,_,_,rfl⟩ (fun i σ H6 hi h=>SqL.of (h.2.2.1 _ _ nl2 u5)) ?_ ?_
    · rintro j u σ H6 hu ⟨_,s6,k6,ar6,len6,o3,o4,rfl⟩;obtain ⟨d,ed,p,rfl,hp⟩:=hD.get hu;obtain ⟨hju,_⟩:=List.getElem?_eq_some_iff.mp hu;obtain ⟨q,hq,r,hr',rfl,tq⟩:=dueP_pair (List.mem_of_getElem? ed);have et:(dueP L).take (j + 1)=(dueP L).take j++[(q.z,r.z)]:=by rw [List.take_add_one,ed]; rfl
      have notl:∀ {b:Addr} {xs:List V},H5 b=some (.tup xs)→∀ z∈zs,lo z≠b:=fun {b xs} hb z hz c=>by
        have:=ar5.at_ z hz
        rw [c,hb] at this;cases this
      have zq:q.z∈zs:=by rw [ezs]; exact List.mem_map.mpr ⟨q,hq,rfl⟩
      have zr:r.z∈zs:=by rw [ezs]; exact List.mem_map.mpr ⟨r,hr',rfl⟩
      have f6:H6 dc=some (.frz ob (.dK (colK L))):=k6 _ _ (fun z hz c=>by
        have:=ar5.at_ z hz
        rw [c,s5 _ _ f4] at this;cases this) (s5 _ _ f4)
      have gq:∀ {x:Sq},x∈L→DGet H6 dc (sV x.z) (some (.int x.c)):=fun {x} hx=>.inl ⟨colK L,ky x.z,.inr ⟨ob,f6⟩,rfl,(colK_val hB hx).symm⟩;have lk:linkB (colK L) (q.z,r.z)=decide (V.int q.c=V.int r.c):=by
        unfold linkB;rw [colK_val hB hq,colK_val hB hr'];simp
      refine ⟨p,_,rfl,SqT.of (k6 _ _ (notl hp) hp),rfl,_,_,rfl,_,_,rfl,rfl,?_⟩;have sl:∀ z,(stepA (linkB (colK L)) (notes (linkB (colK L)) ((dueP L).take j)) (q.z,r.z) z).length≤2 * (j + 1):=fun z=>by
        have h1:=stepA_len (linkB (colK L)) (notes (linkB (colK L)) ((dueP L).take j)) (q.z,r.z) z;have h2:=len6 z;omega
      rw [← notes_snoc,← et] at sl;refine ⟨_,rfl,_,rfl,dc,.int q.c,rfl,gq hq,_,rfl,_,rfl,dc,.int r.c,rfl,gq hr',rfl,_,rfl,ite2 (fun c => ?_) (fun c => ?_)⟩
      · have c':linkB (colK L) (q.z,r.z)=true:=lk.trans c;have l1:=len6 q.z;refine ⟨_,rfl,_,rfl,da,_,rfl,ar6.get zq,.inl ⟨rfl,_,SqL.of (ar6.at_ _ zq)⟩,_,rfl,lo q.z,_,_,rfl,rfl,ar6.at_ _ zq,?_,?_⟩
        · rw [List.length_map];exact Nat.lt_of_lt_of_le (by omega:_ < 5000000) (by decide)
        have ar7:=ar6.add zq r.z;have l2:=addA_len (notes (linkB (colK L)) ((dueP L).take j)) q.z r.z r.z;have l3:=len6 r.z;refine ⟨_,rfl,_,rfl,da,_,rfl,ar7.get zr,.inl ⟨rfl,_,SqL.of (ar7.at_ _ zr)⟩,_,rfl,lo r.z,_,_,rfl,rfl,ar7.at_ _ zr,?_,?_⟩
        · rw [List.length_map];exact Nat.lt_of_lt_of_le (by omega:_ < 5000000) (by decide)
        refine ⟨hju,Same.set (Same.set s6 (nw _ zq) _) (nw _ zr) _,fun b o hb h5 => ?_,?_,sl,_,_,rfl⟩
        · rw [upd_ne (Ne.symm (hb _ zr)),upd_ne (Ne.symm (hb _ zq))];exact k6 b o hb h5
        · rw [et,notes_snoc];unfold stepA;rw [if_pos c'];exact ar7.add zr q.z
      · have c':¬ linkB (colK L) (q.z,r.z)=true:=fun h=>c (lk.symm.trans h);refine ⟨hju,s6,k6,?_,sl,_,_,rfl⟩;rw [et,notes_snoc];unfold stepA;rw [if_neg c'];exact ar6
    · rintro σ H6 ⟨_,s6,k6,ar6,len6,o3,o4,rfl⟩;rw [List.take_of_length_le (by omega)] at ar6 len6;refine ⟨_,rfl,q' da lo _ H6 s6 nda ar6 (fun z => ?_) (fun z z'=>notes_near _ _ z z') rfl⟩
      have:=len6 z
      omega
end
end Qs


namespace Qs
open PySem L2

abbrev Mem:Type:=List Nat × Option (List Nat)
def add1 (c:List Nat) (M:List Mem) (o:List Nat):List Mem:=if o∈M.map (·.1) then M else M++[(o,some c)]
def grow (A:List Nat→List (List Nat)) (M:List Mem) (c:List Nat):List Mem:=(A c).foldl (add1 c) M
def bfsN (A:List Nat→List (List Nat)) (z:List Nat):Nat→List Mem
  | 0=>[(z,none)]
  | k + 1=>match (bfsN A z k)[k]? with
    | none=>bfsN A z k
    | some m=>grow A (bfsN A z k) m.1
theorem sub_len:∀ {l m:List (List Nat)},l.Nodup→(∀ x∈l,x∈m)→l.length≤m.length
  | [],_,_,_=>Nat.zero_le _
  | a::l,m,nd,h=>by
    obtain ⟨h1,h2⟩:=List.nodup_cons.mp nd;have ha:=h a List.mem_cons_self;have ih:=sub_len (l:=l) (m:=m.erase a) h2 fun x hx=>(List.mem_erase_of_ne (fun e:x=a=>h1 (by rw [← e]; exact hx))).mpr (h x (List.mem_cons_of_mem _ hx))
    have:=List.length_erase_of_mem ha
    have:=List.length_pos_of_mem ha
    rw [List.length_cons];omega

structure BI (zs:List (List Nat)) (M:List Mem):Prop where
  nd:(M.map (·.1)).Nodup
  sub:∀ m∈M,m.1∈zs
theorem BI.len {zs:List (List Nat)} {M:List Mem} (h:BI zs M):M.length≤zs.length:=by
  have:=sub_len h.nd (m:=zs) fun x hx=>by
    obtain ⟨m,hm,rfl⟩:=List.mem_map.mp hx;exact h.sub m hm
  rwa [List.length_map] at this
theorem BI.add1 {zs:List (List Nat)} {M:List Mem} (h:BI zs M) {c o:List Nat} (ho:o∈zs):BI zs (add1 c M o):=by
  unfold Qs.add1
  split
  · exact h
  · rename_i hn
    refine ⟨?_,fun m hm => ?_⟩
    · rw [List.map_append];exact List.nodup_append.mpr ⟨h.nd,by simp,fun a ha b hb e=>hn (by
        have hb2:b=o:=List.mem_singleton.mp hb;rw [← hb2,← e]; exact ha)⟩
    · rcases List.mem_append.mp hm with hm | hm
      · exact h.sub m hm
      · rw [List.mem_singleton.mp hm]; exact ho
theorem BI.fold {zs:List (List Nat)} {c:List Nat}:∀ {os:List (List Nat)} {M:List Mem},BI zs M→(∀ o∈os,o∈zs)→BI zs (os.foldl (Qs.add1 c) M)
  | [],_,h,_=>h
  | o::os,M,h,ho=>BI.fold (os:=os) (h.add1 (c:=c) (ho o List.mem_cons_self)) fun x hx=>ho x (List.mem_cons_of_mem _ hx)
theorem BI.bfs {A:List Nat→List (List Nat)} {zs:List (List Nat)} (hA:∀ z∈zs,∀ y∈A z,y∈zs) {z:List Nat} (hz:z∈zs):∀ k,BI zs (bfsN A z k)
  | 0=>⟨by simp [bfsN],fun m hm=>by rw [List.mem_singleton.mp hm]; exact hz⟩
  | k + 1=>by
    have ih:=BI.bfs hA hz k;unfold bfsN
    split
    · exact ih
    · rename_i m hm
      exact ih.fold (hA _ (ih.sub m (List.mem_of_getElem? hm)))
theorem pre_add1 (c:List Nat) (M:List Mem) (o:List Nat):M <+: add1 c M o:=by
  unfold add1
  split
  · exact List.prefix_rfl
  · exact List.prefix_append _ _
theorem mem_add1 (c:List Nat) (M:List Mem) (o:List Nat):o∈(add1 c M o).map (·.1):=by
  unfold add1
  split
  · assumption
  · simp
theorem pre_fold (c:List Nat):∀ (os:List (List Nat)) (M:List Mem),M <+: os.foldl (add1 c) M
  | [],M=>List.prefix_rfl
  | o::os,M=>(pre_add1 c M o).trans (pre_fold c os _)
theorem fold_all (c:List Nat):∀ (os:List (List Nat)) (M:List Mem),∀ o∈os,o∈(os.foldl (add1 c) M).map (·.1)
  | [],_,o,h=>by cases h
  | p::os,M,o,h=>by
    rcases List.mem_cons.mp h with rfl | h
    · exact (List.IsPrefix.subset ((pre_fold c os (add1 c M o)).map _)) (mem_add1 c M o)
    · exact fold_all c os _ o h
theorem bfs_pre (A:List Nat→List (List Nat)) (z:List Nat) (k:Nat):bfsN A z k <+: bfsN A z (k + 1):=by
  show _ <+: match (bfsN A z k)[k]? with | none=>bfsN A z k | some m=>grow A (bfsN A z k) m.1
  split
  · exact List.prefix_rfl
  · exact pre_fold _ _ _

theorem bfs_head (A:List Nat→List (List Nat)) (z:List Nat):∀ k,(bfsN A z k)[0]? = some (z,none)
  | 0=>rfl
  | k + 1=>by
    obtain ⟨t,ht⟩:=bfs_pre A z k;have ih:=bfs_head A z k;rw [← ht,List.getElem?_append_left (List.getElem?_eq_some_iff.mp ih).1];exact ih

def parV:Option (List Nat)→V
  | none=>.non
  | some c=>sV c
def MemV (H:Hp) (u:V) (m:Mem):Prop:=∃ p,u=.ref p∧H p=some (.tup [sV m.1,parV m.2])
abbrev MemAt (H:Hp):List V→List Mem→Prop:=Paired (MemV H)
theorem MemAt.up {H H':Hp} {us:List V} {M:List Mem} (h:MemAt H us M) (s:Tups H H'):MemAt H' us M:=Paired.mapP h fun _ _ ⟨p,e,hp⟩=>⟨p,e,s _ _ hp⟩
theorem paired_at {α β:Type} {F:α→β→Prop}:∀ {l:List α} {r:List β} {i:Nat} {x:α},Paired F l r→l[i]? = some x→∃ y,r[i]? = some y∧F x y
  | _::_,_::_,0,_,.cons h _,e=>⟨_,rfl,by cases e; exact h⟩
  | _::_,_::_,i + 1,_,.cons _ h,e=>paired_at (i:=i) h e
  | [],[],i,_,.nil,e=>by simp at e
theorem paired_app {α β:Type} {F:α→β→Prop} {l1 l2:List α} {r1 r2:List β} (h:Paired F l1 r1) (k:Paired F l2 r2):Paired F (l1++l2) (r1++r2):=by
  induction h with
  | nil=>exact k
  | cons p _ ih=>exact .cons p ih
theorem tups_upd {H:Hp} {a:Addr} {o o':HO} (h:H a=some o) (n:∀ xs,o≠.tup xs):Tups H (upd H a o'):=fun b xs e=>by
  rw [upd_ne fun q=>n xs (by rw [q,h] at e; exact Option.some.inj e)];exact e

def Met (H:Hp) (d:Addr) (S:List (List Nat)):Prop:=∃ kvs,H d=some (.dK kvs)∧kvs.length≤S.length∧∀ y,(valV kvs (ky y)).isSome=true↔y∈S
theorem Met.up {H H':Hp} {d:Addr} {S:List (List Nat)} (h:Met H d S) (s:Same H H'):Met H' d S:=by
  obtain ⟨kvs,h1,h2⟩:=h;exact ⟨kvs,s _ _ h1,h2⟩
theorem Met.put {H:Hp} {d:Addr} {S:List (List Nat)} {kvs:List (Key × V)} (hl:kvs.length≤S.length) (h:∀ y,(valV kvs (ky y)).isSome=true↔y∈S) (z:List Nat) (v:V):Met (upd H d (.dK (putK kvs (ky z) v))) d (S++[z]):=by
  refine ⟨_,upd_same,?_,fun y => ?_⟩
  · have:=length_putK kvs (ky z) v
    rw [List.length_append,List.length_singleton];omega
  · rw [valV_put,List.mem_append,List.mem_singleton];by_cases q:y=z
    · rw [if_pos (by rw [q])];simp [q]
    · rw [if_neg fun c=>q (ky_inj c),h y];simp [q]
section
variable {P:Program} {w:World} {K:PySem.W.Frag} {mg:Str→Option Value} {base:Heap} {CX:CXT} {f:Addr} {fd:FuncData}
abbrev s_members_from:Stmt:=top 33
theorem sc_members_from:FnScope ["around","first","members","met","at","code","other"] ["around","first"] (defScope s_members_from):=⟨rfl,rfl,rfl,by decide +kernel,rfl,by decide +kernel,by decide +kernel⟩
def sp_members_from:Sp:=fun vs H Q _=>∃ (d:Addr) (z:List Nat) (zs:List (List Nat)) (lo:List Nat→Addr) (A:List Nat→List (List Nat)),vs=[.ref d,sV z]∧Aro H d zs lo A∧z∈zs∧zs.length≤1500∧(∀ z∈zs,∀ y∈A z,y∈zs)∧(∀ z,(A z).length≤4500000) ∧
  ∀ l us k H',Same H H'→H l=none→H' l=some (.lst us)→MemAt H' us (bfsN A z k)→(bfsN A z k).length=k→Q (.ref l) H'
theorem ok_members_from (T:Tx K mg) (F:FunD K "members_from" "members_from" s_members_from f fd .none):FnOk P w K mg base CX 1 f fd ["around","first"] sp_members_from:=by
  refine F.ok sc_members_from (fun vs H Q E h => ?_) (fun cdv A outer s H vs Q E hr h => ?_)
  · obtain ⟨_,_,_,_,_,rfl,_⟩:=h;rfl
  obtain ⟨d,z,zs,lo,A,rfl,ar,hz,zl,hA,hAl,q'⟩:=h;refine ⟨_,(pss_cons (ps_set (i:=2) sc_members_from.nd rfl (Or.inl rfl) (pe_lstx (pax_c (pe_tupx (pax_c (pv 1) (pax_c pe_non pax_nil))) pax_nil))) (pss_cons (ps_set (i:=3) sc_members_from.nd rfl (Or.inl rfl) (pe_disp1 (pv 1) pe_bl)) (pss_cons (ps_set (i:=4) sc_members_from.nd rfl (Or.inl rfl) pe_int) (pss_cons (ps_while PassesOwn.never (pt_cmpR op_lt (pv 4) (pe_callB call_len rfl T.b_len bb_len (pa_cons (pv 2) pa_nil)) (nomark _)) (pss_cons (ps_set (i:=5) sc_members_from.nd rfl (Or.inl rfl) (pe_ix ix_tup (pe_ix ix_list (pv 2) (pv 4) (fun _ _=>rfl)) pe_int (fun _ _=>rfl))) (pss_cons (ps_for PassesOwn.never rfl (pi_list (pe_dget hr.dic (pv 0) (pv 5) (fun _ _=>rfl))) (pg_name (i:=6) sc_members_from.nd rfl (Or.inl rfl)) (pss_one (ps_if (pt_cmpR (op_notInD hr.dic) (pv 6) (pv 3) (by with_unfolding_all rfl)) (pss_cons (ps_dput hr.dic (pv 3) (pv 6) pe_bl (swaps_of rfl)) (pss_one (ps_expr (pe_bm PySem.F.plainAttrs_list PySem.F.slot_list_append PySem.F.type_list_append mt_append (pv 2) (pa_cons (pe_tupx (pax_c (pv 6) (pax_c (pv 5) pax_nil))) pa_nil))))) pss_nil))) (pss_one (ps_set (i:=4) sc_members_from.nd rfl (Or.inl rfl) (pe_op op_add (pv 4) pe_int)))))) (pss_one (ps_ret (pv 2))))))),?_⟩;refine ⟨_,rfl,(by show 2≤sizeLine; decide),fun p0 hp0 => ?_⟩;generalize e1:upd H p0 _=H1;have s1:Same H H1:=e1▸Same.new hp0 _;have w1:H1 p0=some (.tup [sV z,.non]):=by rw [← e1]; exact upd_same
  refine ⟨(by show 1≤sizeLine; decide),fun ml hml => ?_⟩;generalize e2:upd H1 ml _=H2;have s2:Same H1 H2:=e2▸Same.new hml _;have w2:H2 ml=some (.lst [.ref p0]):=by rw [← e2]; exact upd_same
  have nml:H ml=none:=s1.free hml;have s12:=s1.trans s2;refine fun dm hdm=>⟨_,rfl,upd_same,[(ky z,.bl true)],rfl,(by show 1≤15; decide),?_⟩;generalize e3:upd (upd H2 dm _) dm _=H3;have s3:Same H2 H3:=e3▸Same.set (Same.new hdm _) hdm _;have w3:H3 dm=some (.dK [(ky z,.bl true)]):=by rw [← e3]; exact upd_same
  have ndm:H dm=none:=s12.free hdm;have s13:=s12.trans s3;refine ⟨fun m σ H4=>∃ (k:Nat) (us:List V) (o5 o6:Option V),m=1501 - k∧Same H H4∧H4 ml=some (.lst us)∧MemAt H4 us (bfsN A z k)∧Met H4 dm ((bfsN A z k).map (·.1))∧k≤us.length∧σ=[some (.ref d),some (sV z),some (.ref ml),some (.ref dm),some (.int (k:Int)),o5,o6],
    ⟨_,0,[.ref p0],none,none,rfl,s13,s3 _ _ w2,.cons ⟨p0,rfl,(s2.trans s3) _ _ w1⟩ .nil,⟨_,w3,Nat.le_refl _,fun y => ?_⟩,Nat.zero_le _,rfl⟩,?_⟩
  · show (valV [(ky z,V.bl true)] (ky y)).isSome=true↔y∈[z];rw [List.mem_singleton];by_cases q:z=y
    · rw [valV_pos (by rw [q])]; simp [q]
    · rw [valV_neg fun c=>q (ky_inj c),valV_nil];simp [Ne.symm q]
  rintro m σ H4 ⟨k,us,o5,o6,rfl,s4,u4,hM,hm,hk,rfl⟩;have bi:=BI.bfs hA hz k;have lM:=Paired.length hM;have ll:=bi.len;refine ⟨_,rfl,_,rfl,_,_,rfl,.inl ⟨_,SqL.of u4,rfl⟩,_,_,rfl,rfl,_,rfl,ite2 (fun c => ?_) (fun c => ?_)⟩
  rotate_left
  · have c':¬ (k:Int) < (us.length:Int):=fun h=>c (decide_eq_true h);exact ⟨_,rfl,q' ml us k H4 s4 nml u4 hM (by omega)⟩
  have c':(k:Int) < (us.length:Int):=of_decide_eq_true c;have hku:k < us.length:=by omega
  obtain ⟨u,hu⟩:∃ u,us[k]? = some u:=⟨us[k],List.getElem?_eq_getElem hku⟩;obtain ⟨mm,em,p,rfl,hp⟩:=paired_at hM hu;have hc:=bi.sub mm (List.mem_of_getElem? em);have eb:bfsN A z (k + 1)=grow A (bfsN A z k) mm.1:=by
    show (match (bfsN A z k)[k]? with | none=>bfsN A z k | some m=>grow A (bfsN A z k) m.1)=_;rw [em]
  refine ⟨fun σ' H5=>∃ (us:List V) (o5 o6:Option V),Same H H5∧H5 ml=some (.lst us)∧MemAt H5 us (bfsN A z (k + 1))∧Met H5 dm ((bfsN A z (k + 1)).map (·.1))∧k + 1≤us.length∧σ'=[some (.ref d),some (sV z),some (.ref ml),some (.ref dm),some (.int ((k + 1:Nat):Int)),o5,o6],fun σ' H5 ⟨us',o5,o6,h1,h2,h3,h4,h5,h6⟩=>⟨1501 - (k + 1),by omega,k + 1,us',o5,o6,rfl,h1,h2,h3,h4,h5,h6⟩,?_⟩;refine ⟨_,rfl,_,rfl,ml,us,_,_,rfl,rfl,SqL.of u4,atI_nat hu,p,_,0,_,rfl,rfl,SqT.of hp,rfl,?_⟩;have nlo:∀ {H':Hp},Same H H'→H' (lo mm.1)=some (.lst ((A mm.1).map sV)):=fun s=>s _ _ (ar.at_ _ hc);refine ⟨_,rfl,_,rfl,d,_,rfl,(ar.up s4).get hc,lo mm.1,rfl,⟨_,SqL.of (nlo s4)⟩,for_list (xs:=(A mm.1).map sV) (fun (j:Nat) σ H5=>j≤(A mm.1).length∧Same H H5∧∃ (us5:List V) (o6:Option V),H5 ml=some (.lst us5)∧MemAt H5 us5 (((A mm.1).take j).foldl (add1 mm.1) (bfsN A z k))∧Met H5 dm ((((A mm.1).take j).foldl (add1 mm.1) (bfsN A z k)).map (·.1))∧us.length≤us5.length∧σ=[some (.ref d),some (sV z),some (.ref ml),some (.ref dm),some (.int (k:Int)),some (sV mm.1),o6])
    ⟨Nat.zero_le _,s4,us,_,u4,hM,hm,Nat.le_refl _,rfl⟩ (fun i σ H5 _ h=>SqL.of (nlo h.2.1)) ?_ ?_⟩
  · rintro j x σ H5 hx ⟨_,s5,us5,o6,u5,hM5,⟨kvs,d5,l5,m5⟩,le5,rfl⟩;rw [List.getElem?_map] at hx;obtain ⟨o,eo,rfl⟩:=Option.map_eq_some_iff.mp hx;obtain ⟨hj,_⟩:=List.getElem?_eq_some_iff.mp eo;have et:(A mm.1).take (j + 1)=(A mm.1).take j++[o]:=by rw [List.take_add_one,eo]; rfl
    have ef:((A mm.1).take (j + 1)).foldl (add1 mm.1) (bfsN A z k)=add1 mm.1 (((A mm.1).take j).foldl (add1 mm.1) (bfsN A z k)) o:=by rw [et,List.foldl_append]; rfl
    have bi5:BI zs (((A mm.1).take j).foldl (add1 mm.1) (bfsN A z k)):=bi.fold fun o ho=>hA _ hc o (List.mem_of_mem_take ho);have ll5:=bi5.len;have lM5:=Paired.length hM5;rw [List.length_map] at l5;rw [ef];generalize ((A mm.1).take j).foldl (add1 mm.1) (bfsN A z k)=M5 at *;refine ⟨_,rfl,_,rfl,dm,_,rfl,DGet.k (k:=ky o) d5,_,rfl,ite2 (fun c1 => ?_) (fun c1 => ?_)⟩
    · have c1':(!(valV kvs (ky o)).isSome)=true:=c1;have hno:o∉M5.map (·.1):=fun h=>by
        rw [(m5 o).mpr h] at c1';cases c1'
      have ea:add1 mm.1 M5 o=M5++[(o,some mm.1)]:=by unfold add1; rw [if_neg hno]
      refine ⟨_,rfl,_,rfl,dm,_,rfl,DPut.k (k:=ky o) d5 (Nat.lt_of_lt_of_le (by omega:kvs.length < 5000) (by decide)),?_⟩;have hdl:ml≠dm:=fun q=>by rw [q,d5] at u5; cases u5
      have t6:Tups H5 (upd H5 dm (.dK (putK kvs (ky o) (.bl true)))):=tups_upd d5 (by intro xs q; cases q);have s6:Same H (upd H5 dm (.dK (putK kvs (ky o) (.bl true)))):=Same.set s5 ndm _;have u6:upd H5 dm (.dK (putK kvs (ky o) (.bl true))) ml=some (.lst us5):=by rw [upd_ne hdl]; exact u5
      have m6:Met (upd H5 dm (.dK (putK kvs (ky o) (.bl true)))) dm (M5.map (·.1)++[o]):=Met.put (by rw [List.length_map]; exact l5) m5 o _;generalize upd H5 dm (.dK (putK kvs (ky o) (.bl true)))=H6 at *;refine ⟨_,rfl,.inl ⟨rfl,_,SqL.of u6⟩,_,rfl,_,rfl,(by show 2≤sizeLine; decide),fun pn hpn => ?_⟩;generalize e7:upd H6 pn _=H7;have s7:Same H6 H7:=e7▸Same.new hpn _;have w7:H7 pn=some (.tup [sV o,sV mm.1]):=by rw [← e7]; exact upd_same
      have u7:=s7 _ _ u6;have m7:=m6.up s7;refine ⟨ml,us5,_,rfl,rfl,u7,Nat.lt_of_lt_of_le (by omega:us5.length < 5000) (by decide),?_⟩;have t8:Tups H7 (upd H7 ml (.lst (us5++[.ref pn]))):=tups_upd u7 (by intro xs q; cases q);rw [ea];refine ⟨hj,Same.set (s6.trans s7) nml _,us5++[.ref pn],_,upd_same,paired_app (hM5.up (t6.trans (s7.tups.trans t8))) (.cons ⟨pn,rfl,t8 _ _ w7⟩ .nil),?_,by rw [List.length_append]; omega,rfl⟩;obtain ⟨kv,g1,g2,g3⟩:=m7;refine ⟨kv,by rw [upd_ne (Ne.symm hdl)]; exact g1,?_,fun y => ?_⟩
      · rw [List.map_append]; exact g2
      · rw [g3,List.map_append]; rfl
    · have c1':¬ (!(valV kvs (ky o)).isSome)=true:=c1;have hin:o∈M5.map (·.1):=(m5 o).mp (by
        cases hh:(valV kvs (ky o)).isSome with
        | true=>rfl
        | false=>rw [hh] at c1'; exact absurd rfl c1')
      have ea:add1 mm.1 M5 o=M5:=by unfold add1; rw [if_pos hin]
      rw [ea];exact ⟨hj,s5,us5,_,u5,hM5,⟨kvs,d5,by rw [List.length_map]; exact l5,m5⟩,le5,rfl⟩
  · rintro σ H5 ⟨_,s5,us5,o6,u5,hM5,hm5,le5,rfl⟩;rw [List.length_map,List.take_length] at hM5 hm5;refine ⟨_,rfl,_,_,rfl,rfl,us5,_,_,s5,u5,?_,?_,by omega,rfl⟩
    · rw [eb]; exact hM5
    · rw [eb]; exact hm5
end
end Qs


namespace Qs
open PySem L2

def suf (z:Str) (k:Nat):Str:=⟨(z.cps.toList.drop k).toArray⟩
theorem slice_suf {z:Str} {k:Nat} (h:k≤z.length):Txt.slice z (some (k:Int)) none=suf z k:=by
  have e:=PyProof.Rows.slice_closes_from (x:=z) (i:=(k:Int)) ⟨by omega,by rw [← len_eq]; omega⟩;rw [beq_iff_eq] at e;rw [e];unfold suf
  congr 2
  rw [Int.toNat_natCast,List.take_of_length_le];rw [List.length_drop,← len_eq]; omega
theorem suf_len (z:Str) (k:Nat):(suf z k).length=z.length - k:=by rw [len_eq,len_eq]; simp [suf]
theorem suf_isC {z:Str} (h:IsC z) (k:Nat):IsC (suf z k):=fun c hc=>h c (by
  have hc':c∈z.cps.toList.drop k:=by simpa [suf] using hc
  exact List.mem_of_mem_drop hc')
end Qs
namespace Qs
open PySem L2
theorem slice_suf' (z:Str) (k:Nat):Txt.slice z (some (k:Int)) none=suf z k:=by
  by_cases h:k≤z.length
  · exact slice_suf h
  · have e:Builtin.Str.strSliceIndices (some (k:Int)) none 1 z.length=[]:=by
      unfold Builtin.Str.strSliceIndices;dsimp only;unfold sliceRange;have h1:¬ (k:Int) < 0:=by omega
      have h2:max (0:Int) (min (k:Int) (z.length:Int))=(z.length:Int):=by omega
      simp only [show (1:Int) > 0 by decide,if_true,h1,if_false,h2];rw [if_neg (by omega)]
      first | rfl | simp
    unfold Txt.slice;rw [e];refine str_ext ?_;unfold suf;rw [List.drop_of_length_le (by rw [← len_eq]; omega)];by_cases h0:z.length=0
    · rw [str_eq_nil.mpr h0]; decide +kernel
    · first | rw [if_neg (by simp; omega)] | skip
      first | rfl | simp
end Qs
namespace Qs
open PySem L2
theorem ones (ds:List Nat):((ds.map one).map (·.length)).sum=ds.length:=by
  induction ds with
  | nil=>rfl
  | cons d r ih =>
    rw [List.map_cons,List.map_cons,List.sum_cons,ih,List.length_cons];show 1 + _=_;omega

def signsOf (ds:List Nat):List V:=ds.map fun d=>V.str (one d)
section
variable {P:Program} {w:World} {K:PySem.W.Frag} {mg:Str→Option Value} {base:Heap} {CX:CXT} {f:Addr} {fd:FuncData}
abbrev s_law_at:Stmt:=top 37
theorem sc_law_at:FnScope ["_law_script","_law_k"] ["_law_script","_law_k"] (defScope s_law_at):=⟨rfl,rfl,rfl,by decide +kernel,rfl,by decide +kernel,by decide +kernel⟩
def sp_law_at (K:PySem.W.Frag):Sp:=fun vs H Q _=>∃ (a:Addr) (ns:List Int) (k:Nat),vs=[.ref a,.int k]∧SqL K H a (ns.map V.int)∧ns.length≤63∧Q (.int (cell ns k)) H
theorem ok_law_at (T:Tx K mg) (F:FunD K "_law_at" "_law_at" s_law_at f fd .none):FnOk P w K mg base CX 1 f fd ["_law_script","_law_k"] (sp_law_at K):=by
  refine F.ok sc_law_at (fun vs H Q E h => ?_) (fun cdv A outer s H vs Q E hr h => ?_)
  · obtain ⟨_,_,_,rfl,_⟩:=h;rfl
  obtain ⟨a,ns,k,rfl,hS,hl,q'⟩:=h;refine ⟨_,(pss_cons (ps_if (pt_cmpR op_lt (pv 1) (pe_callB call_len rfl T.b_len bb_len (pa_cons (pv 0) pa_nil)) (nomark _)) (pss_one (ps_ret (pe_ix ix_list (pv 0) (pv 1) (fun _ _=>rfl)))) pss_nil) (pss_one (ps_ret pe_int))),?_⟩;refine ⟨_,rfl,_,rfl,_,_,rfl,.inl ⟨_,hS,rfl⟩,_,_,rfl,rfl,_,rfl,ite2 (fun c => ?_) (fun c => ?_)⟩
  · have c':(k:Int) < (((ns.map V.int).length:Nat):Int):=of_decide_eq_true c;rw [List.length_map] at c';have hk:k < ns.length:=by omega
    have e:(ns.map V.int)[k]? = some (.int (cell ns k)):=by simp [cell,hk]
    exact ⟨_,rfl,_,rfl,a,_,_,_,rfl,rfl,hS,atI_nat e,q'⟩
  · have c':¬ (k:Int) < (((ns.map V.int).length:Nat):Int):=fun z=>c (decide_eq_true z);rw [List.length_map] at c';have e:cell ns k=0:=by
      have:ns[k]? = none:=List.getElem?_eq_none (by omega)
      simp [cell,this]
    rw [e] at q';exact q'
abbrev s_law_code:Stmt:=top 38
theorem sc_law_code:FnScope ["_law_cell","_law_size","_law_signs","_law_rest","_law_k"] ["_law_cell","_law_size"] (defScope s_law_code):=⟨rfl,rfl,rfl,by decide +kernel,rfl,by decide +kernel,by decide +kernel⟩
def sp_law_code:Sp:=fun vs H Q _=>∃ (c:Int) (n:Nat),vs=[.int c,.int n]∧n≤64∧∀ ds H',ds.length=n→(∀ d∈ds,d < 4)→Same H H'→Q (.str (txt ds)) H'
theorem signs_len (ds:List Nat):(signsOf ds).length=ds.length:=List.length_map _
theorem ok_law_code (T:Tx K mg) (F:FunD K "_law_code" "_law_code" s_law_code f fd .none):FnOk P w K mg base CX 1 f fd ["_law_cell","_law_size"] sp_law_code:=by
  refine F.ok sc_law_code (fun vs H Q E h => ?_) (fun cdv A outer s H vs Q E hr h => ?_)
  · obtain ⟨_,_,rfl,_⟩:=h;rfl
  obtain ⟨c,n,rfl,hn,q'⟩:=h;refine ⟨_,(pss_cons (ps_set (i:=2) sc_law_code.nd rfl (Or.inl rfl) (pe_lstx pax_nil)) (pss_cons (ps_set (i:=3) sc_law_code.nd rfl (Or.inl rfl) (pv 0)) (pss_cons (ps_for PassesOwn.never rfl (pi_range1 rfl T.b_range (pa_cons (pv 1) pa_nil)) (pg_name (i:=4) sc_law_code.nd rfl (Or.inl rfl)) (pss_cons (ps_expr (pe_bm PySem.F.plainAttrs_list PySem.F.slot_list_append PySem.F.type_list_append mt_append (pv 2) (pa_cons (pe_ix ix_str pe_str (pe_op op_mod (pe_op op_add (pv 3) (pe_op op_mul (pv 4) (pe_op op_mod (pv 0) pe_int))) pe_int) (fun _ _=>rfl)) pa_nil))) (pss_one (ps_set (i:=3) sc_law_code.nd rfl (Or.inl rfl) (pe_op op_fdivW (pv 3) pe_int))))) (pss_one (ps_ret (pe_bm PySem.F.plainAttrs_str PySem.F.slot_str_join PySem.F.type_str_join mt_join pe_str (pa_cons (pv 2) pa_nil))))))),?_⟩;refine ⟨(by show 0≤sizeLine; decide),fun l hl => ?_⟩;refine ⟨_,rfl,?_⟩;refine ⟨_,rfl,_,rfl,by omega,by omega,for_range (fun i σ H2=>∃ (ds:List Nat) (rest:Int) (v:Option V),ds.length=i∧(∀ d∈ds,d < 4)∧σ=[some (.int c),some (.int n),some (.ref l),some (.int rest),v]∧H2=upd H l (.lst (signsOf ds)))
    ⟨[],c,none,rfl,(fun _ z=>by cases z),rfl,rfl⟩ ?_ ?_⟩
  · rintro i σ H2 hi ⟨ds,rest,v,hds,h4,rfl,rfl⟩;obtain ⟨d,hd,ed⟩:=four_of (rest + (0 + (i:Int)) * (c % 5));refine ⟨_,rfl,.inl ⟨rfl,_,SqL.of upd_same⟩,?_⟩;refine ⟨_,rfl,_,rfl,_,rfl,_,_,rfl,rfl,(by show (0:Int) < 5; decide),_,_,rfl,rfl,.inl ⟨by omega,by omega⟩,_,_,rfl,rfl,_,_,rfl,rfl,(by show (0:Int) < 4; decide),_,_,48 + d,rfl,rfl,q_len,by rw [ed]; exact at_q hd,?_⟩;refine ⟨l,signsOf ds,_,rfl,rfl,upd_same,small1000 (by rw [signs_len]; omega),?_⟩;refine ⟨_,rfl,_,_,rfl,rfl,cdivW (by decide) (by decide),?_⟩;refine ⟨ds++[d],_,_,by rw [List.length_append,hds]; rfl,fun e he => ?_,rfl,?_⟩
    · rcases List.mem_append.mp he with he | he
      · exact h4 e he
      · rw [List.mem_singleton.mp he]; exact hd
    · rw [upd_upd];unfold signsOf;rw [List.map_append];rfl
  · rintro σ H2 ⟨ds,rest,v,hds,h4,rfl,rfl⟩;have hds':ds.length=n:=by rw [hds]; exact Int.toNat_natCast n
    refine ⟨rfl,_,rfl,("" : Str),l,ds.map one,rfl,rfl,SqL.of (by rw [upd_same]; unfold signsOf; simp [List.map_map]; try rfl),?_,?_⟩
    · have e0:("" : Str).length=0:=by decide +kernel
      have e1:=ones ds;rw [e0,e1]; omega
    · rw [join_one];exact q' ds _ hds' h4 (Same.new hl _)
end
end Qs
namespace Qs
open PySem L2

def PaAt (H:Hp) (u:V) (n:Nat):Prop:=∃ p z c,u=.ref p∧H p=some (.tup [.str z,.int c])∧IsC z∧z.length≤n∧0≤c∧c≤35
theorem PaAt.up {H H':Hp} {u:V} {n:Nat} (h:PaAt H u n) (s:Tups H H'):PaAt H' u n:=by
  obtain ⟨p,z,c,e,hp,h⟩:=h;exact ⟨p,z,c,e,s _ _ hp,h⟩
theorem rng12 {M:Int} (h0:0≤M) (h1:M≤63):∃ n:Nat,Builtin.Range.small 1 M 2=true∧Builtin.Range.rangeSize 1 M 2=(n:Int)∧n≤31∧2 * (n:Int)≤M:=by
  have e:∀ m:Nat,m < 64→Builtin.Range.small 1 (m:Int) 2=true∧Builtin.Range.rangeSize 1 (m:Int) 2=((m / 2:Nat):Int):=by decide +kernel
  obtain ⟨m,rfl⟩:∃ m:Nat,M=(m:Int):=⟨M.toNat,by omega⟩;obtain ⟨e1,e2⟩:=e m (by omega);exact ⟨m / 2,e1,e2,by omega,by omega⟩
section
variable {P:Program} {w:World} {K:PySem.W.Frag} {mg:Str→Option Value} {base:Heap} {CX:CXT} {f:Addr} {fd:FuncData}
abbrev s_law_colour:Stmt:=top 40
theorem sc_law_colour:FnScope ["_law_cell"] ["_law_cell"] (defScope s_law_colour):=⟨rfl,rfl,rfl,by decide +kernel,rfl,by decide +kernel,by decide +kernel⟩
def sp_law_colour:Sp:=fun vs H Q _=>∃ c:Int,vs=[.int c]∧∀ i:Int,0≤i→i≤35→Q (.int i) H
theorem ok_law_colour (T:Tx K mg) (F:FunD K "_law_colour" "_law_colour" s_law_colour f fd .none):FnOk P w K mg base CX 1 f fd ["_law_cell"] sp_law_colour:=by
  refine F.ok sc_law_colour (fun vs H Q E h => ?_) (fun cdv A outer s H vs Q E hr h => ?_)
  · obtain ⟨_,rfl,_⟩:=h;rfl
  obtain ⟨c,rfl,q'⟩:=h;refine ⟨_,(pss_cons (ps_if (pt_cmpR op_lt (pe_op op_mod (pv 0) pe_int) pe_int (nomark _)) (pss_one (ps_ret (pe_op op_mod (pe_op op_fdivW (pv 0) pe_int) pe_int))) pss_nil) (pss_one (ps_ret (pe_op op_mod (pe_op op_fdivW (pv 0) pe_int) pe_int)))),?_⟩;refine ⟨_,rfl,_,_,rfl,rfl,(by show (0:Int) < 3; decide),_,_,rfl,rfl,_,rfl,ite2 (fun _ => ?_) (fun _ => ?_)⟩
  · exact ⟨_,rfl,_,_,rfl,rfl,cdivW (by decide) (by decide),_,_,rfl,rfl,(by show (0:Int) < 2; decide),q' _ (by show 0≤c / 3 % 2; omega) (by show c / 3 % 2≤35; omega)⟩
  · exact ⟨_,rfl,_,_,rfl,rfl,cdivW (by decide) (by decide),_,_,rfl,rfl,(by show (0:Int) < 36; decide),q' _ (by show 0≤c / 3 % 36; omega) (by show c / 3 % 36≤35; omega)⟩
def sp_law_paints (K:PySem.W.Frag):Sp:=fun vs H Q _=>∃ (a:Addr) (ns:List Int) (most n:Nat),vs=[.ref a,.int 1,.int most,.int n]∧SqL K H a (ns.map V.int)∧ns.length≤63∧most≤31∧n≤40 ∧
  ∀ l xs H',Same H H'→H l=none→H' l=some (.lst xs)→xs.length≤most→(∀ u∈xs,PaAt H' u n)→Q (.ref l) H'
abbrev s_law_paints:Stmt:=top 39
theorem sc_law_paints:FnScope ["_law_script","_law_first","_law_most","_law_level","_law_paints_here","_law_code_here","_law_at_here","_law_cell","_law_keep"] ["_law_script","_law_first","_law_most","_law_level"] (defScope s_law_paints):=⟨rfl,rfl,rfl,by decide +kernel,rfl,by decide +kernel,by decide +kernel⟩
theorem ok_law_paints (T:Tx K mg) (q:Quiet CX) (F:FunD K "_law_paints" "_law_paints" s_law_paints f fd .none) (C__law_at:Fok P w K mg base CX 1 "_law_at" ["_law_script","_law_k"] [] (sp_law_at K)) (C__law_code:Fok P w K mg base CX 1 "_law_code" ["_law_cell","_law_size"] [] sp_law_code) (C__law_colour:Fok P w K mg base CX 1 "_law_colour" ["_law_cell"] [] sp_law_colour) :
    FnOk P w K mg base CX 3 f fd ["_law_script","_law_first","_law_most","_law_level"] (sp_law_paints K):=by
  refine F.ok sc_law_paints (fun vs H Q E h => ?_) (fun cdv A outer s H vs Q E hr h => ?_)
  · obtain ⟨_,_,_,_,rfl,_⟩:=h;rfl
  obtain ⟨a,ns,most,n,rfl,hS,h63,hmost,hn,q'⟩:=h;refine ⟨_,(pss_cons (ps_set (i:=4) sc_law_paints.nd rfl (Or.inl rfl) (pe_lstx pax_nil)) (pss_cons (ps_set (i:=5) sc_law_paints.nd rfl (Or.inl rfl) pe_str) (pss_cons (ps_for PassesOwn.never rfl (pi_range3 rfl T.b_range (pa_cons (pv 1) (pa_cons (pe_callB (call_min2 rfl) rfl T.b_min bb_min (pa_cons (pe_callB call_len rfl T.b_len bb_len (pa_cons (pv 0) pa_nil)) (pa_cons (pe_op op_add (pv 1) (pe_op op_mul pe_int (pv 2))) pa_nil))) (pa_cons pe_int pa_nil)))) (pg_name (i:=6) sc_law_paints.nd rfl (Or.inl rfl)) (pss_cons (ps_set (i:=7) sc_law_paints.nd rfl (Or.inl rfl) (pe_callF C__law_at q hr (pa_cons (pv 0) (pa_cons (pv 6) pa_nil)))) (pss_cons (ps_set (i:=8) sc_law_paints.nd rfl (Or.inl rfl) (pe_op op_mod (pe_op op_fdivW (pv 7) pe_int) (pe_op op_add (pe_callB call_len rfl T.b_len bb_len (pa_cons (pv 5) pa_nil)) pe_int))) (pss_cons (ps_cut (ps_if (pt_cmpR op_eq (pe_op op_mod (pv 7) pe_int) pe_int (nomark _)) (pss_one (ps_set (i:=5) sc_law_paints.nd rfl (Or.inl rfl) (pe_slice sl_str (pv 5) po_none (po_some (pv 8))))) (pss_one (ps_if (pt_cmpR op_eq (pe_op op_mod (pv 7) pe_int) pe_int (nomark _)) (pss_one (ps_set (i:=5) sc_law_paints.nd rfl (Or.inl rfl) (pe_op op_add_str (pe_op op_add_str (pe_slice sl_str (pv 5) po_none (po_some (pv 8))) (pe_ix ix_str pe_str (pe_op op_mod (pe_op op_fdivW (pv 7) pe_int) pe_int) (fun _ _=>rfl))) (pe_slice sl_str (pv 5) (po_some (pe_op op_add (pv 8) pe_int)) po_none)))) (pss_one (ps_set (i:=5) sc_law_paints.nd rfl (Or.inl rfl) (pe_op op_add_str (pe_slice sl_str (pv 5) po_none (po_some (pv 8))) (pe_callF C__law_code q hr (pa_cons (pe_op op_fdivW (pv 7) pe_int) (pa_cons (pe_op op_mod (pe_op op_fdivW (pv 7) pe_int) (pe_op op_add (pv 3) pe_int)) pa_nil)))))))))) (pss_cons (ps_set (i:=5) sc_law_paints.nd rfl (Or.inl rfl) (pe_slice sl_str (pv 5) po_none (po_some (pv 3)))) (pss_one (ps_expr (pe_bm PySem.F.plainAttrs_list PySem.F.slot_list_append PySem.F.type_list_append mt_append (pv 4) (pa_cons (pe_tupx (pax_c (pv 5) (pax_c (pe_callF C__law_colour q hr (pa_cons (pe_callF C__law_at q hr (pa_cons (pv 0) (pa_cons (pe_op op_add (pv 6) pe_int) pa_nil))) pa_nil)) pax_nil))) pa_nil))))))))) (pss_one (ps_ret (pv 4)))))),?_⟩;refine ⟨(by show 0≤sizeLine; decide),fun l hl => ?_⟩;have s1:=Same.new hl (.lst []);have u1:upd H l (.lst []) l=some (.lst []):=upd_same;generalize upd H l (.lst [])=H1 at *;refine ⟨_,rfl,_,rfl,_,_,rfl,.inl ⟨_,s1.seq hS,rfl⟩,_,rfl,_,rfl,_,_,rfl,rfl,.inl ⟨by decide,by decide⟩,_,_,rfl,rfl,_,_,rfl,?_⟩;obtain ⟨M,eM,hM⟩:∃ M:Int,M=(if 1 + 2 * (most:Int) < (((ns.map V.int).length:Nat):Int) then 1 + 2 * (most:Int) else (((ns.map V.int).length:Nat):Int))∧(0≤M∧M≤63∧M≤1 + 2 * (most:Int)):=⟨_,rfl,by rw [List.length_map]; split <;> omega⟩;obtain ⟨N,sm,sz,hN,hN2⟩:=rng12 hM.1 hM.2.1;have hN3:=hM.2.2;refine ⟨1,M,2,N,(by show [V.int 1,V.int _,V.int 2]=[V.int 1,V.int M,V.int 2]; rw [eM]),by decide,by decide,sm,sz,for_gen (fun i σ H2=>Same H H2∧∃ (xs:List V) (z:Str) (o6 o7 o8:Option V),H2 l=some (.lst xs)∧xs.length=i∧(∀ u∈xs,PaAt H2 u n)∧IsC z∧z.length≤n∧σ=[some (.ref a),some (.int 1),some (.int most),some (.int n),some (.ref l),some (.str z),o6,o7,o8]) ⟨s1,[],_,_,_,_,u1,rfl,fun u hu=>absurd hu (by simp),empty_eq▸IsC.nil,(by rw [show ("" : Str).length=0 by decide +kernel]; omega),rfl⟩ ?_ ?_⟩
  · rintro k σ H2 hk ⟨s2,xs,z,o6,o7,o8,u2,lx,hxs,hz,lz,rfl⟩;have hS2:=s2.seq hS;have zs:z.length≤sizeLine:=small (by omega);refine ⟨_,rfl,_,rfl,a,ns,1 + k * 2,rfl,hS2,h63,?_⟩;have pI:(0:Int) < (z.length:Int) + 1:=by omega
    refine ⟨_,rfl,_,_,rfl,rfl,cdivW (by decide) (by decide),_,rfl,_,_,rfl,⟨zs,rfl⟩,_,_,rfl,rfl,_,_,rfl,rfl,pI,?_⟩;obtain ⟨kp,hkp,ekp⟩:∃ kp:Nat,kp≤z.length∧cell ns (1 + k * 2) / 4 % ((z.length:Int) + 1)=(kp:Int):=by
      have h1:=Int.emod_nonneg (cell ns (1 + k * 2) / 4) (show (z.length:Int) + 1≠0 by omega);have h2:=Int.emod_lt_of_pos (cell ns (1 + k * 2) / 4) pI;exact ⟨(cell ns (1 + k * 2) / 4 % ((z.length:Int) + 1)).toNat,by omega,by omega⟩
    rw [show (fun i j:Int=>V.int (i % j)) (cell ns (1 + k * 2) / 4) ((z.length:Int) + 1)=V.int (kp:Int) from congrArg V.int ekp];refine ⟨fun σ H3=>Same H2 H3∧∃ z:Str,IsC z∧z.length≤200∧σ=[some (.ref a),some (.int 1),some (.int most),some (.int n),some (.ref l),some (.str z),some (.int (1 + (k:Int) * 2)),some (.int (cell ns (1 + k * 2))),some (.int (kp:Int))],?_,?_⟩
    · have lp:=pre_len z kp;have hp:=pre_isC hz kp;refine ⟨_,rfl,_,_,rfl,rfl,(by show (0:Int) < 4; decide),rfl,_,rfl,ite2 (fun _ => ?_) (fun _=>⟨_,rfl,_,_,rfl,rfl,(by show (0:Int) < 4; decide),rfl,_,rfl,ite2 (fun _ => ?_) (fun _ => ?_)⟩)⟩
      · refine ⟨_,rfl,_,rfl,_,rfl,z,rfl,zs,Same.refl _,pre z kp,hp,by omega,?_⟩;rw [slice_pre]; rfl
      · obtain ⟨d,hd,ed⟩:=four_of (cell ns (1 + k * 2) / 164);refine ⟨_,rfl,_,rfl,_,rfl,z,rfl,zs,_,rfl,_,_,rfl,rfl,cdivW (by decide) (by decide),_,_,rfl,rfl,(by show (0:Int) < 4; decide),_,_,48 + d,rfl,rfl,q_len,by rw [ed]; exact at_q hd,?_⟩;rw [slice_pre];refine ⟨_,_,rfl,rfl,(by show (pre z kp).length + 1≤sizeLine; exact small (by omega)),_,rfl,_,rfl,_,_,rfl,rfl,_,rfl,z,rfl,zs,?_⟩;have es:Txt.slice z (some ((kp:Int) + 1)) none=suf z (kp + 1):=slice_suf' z (kp + 1);dsimp only;rw [es];have ls:=suf_len z (kp + 1);have l1:(pre z kp++(one d)).length=(pre z kp).length + 1:=by rw [app_len]; rfl
        refine ⟨_,_,rfl,rfl,(by show (pre z kp++(one d)).length + (suf z (kp + 1)).length≤sizeLine; exact small (by omega)),Same.refl _,pre z kp++one d++suf z (kp + 1),IsC.app (IsC.app hp (IsC.one hd)) (suf_isC hz _),by rw [app_len]; omega,rfl⟩
      · have pn:(0:Int) < (n:Int) + 1:=by omega
        obtain ⟨sg,hsg,esg⟩:∃ sg:Nat,sg≤n∧cell ns (1 + k * 2) / 7 % ((n:Int) + 1)=(sg:Int):=by
          have h1:=Int.emod_nonneg (cell ns (1 + k * 2) / 7) (show (n:Int) + 1≠0 by omega);have h2:=Int.emod_lt_of_pos (cell ns (1 + k * 2) / 7) pn;exact ⟨(cell ns (1 + k * 2) / 7 % ((n:Int) + 1)).toNat,by omega,by omega⟩
        refine ⟨_,rfl,_,rfl,_,rfl,z,rfl,zs,_,rfl,_,_,rfl,rfl,cdivW (by decide) (by decide),_,rfl,_,_,rfl,rfl,cdivW (by decide) (by decide),_,rfl,_,_,rfl,rfl,_,_,rfl,rfl,pn,cell ns (1 + k * 2) / 164,sg,(by show [V.int _,V.int (cell ns (1 + k * 2) / 7 % ((n:Int) + 1))]=[V.int _,V.int _]; rw [esg]),by omega,fun ds H4 ld h4 s4 => ?_⟩;rw [slice_pre];have lt:=txt_len ds;exact ⟨_,_,rfl,rfl,small (by omega),s4,pre z kp++txt ds,IsC.app hp (txt_isC h4),by rw [app_len]; omega,rfl⟩
    · rintro σ H3 ⟨s3,z',hz',lz',rfl⟩;have u3:=s3 _ _ u2;have hS3:=s3.seq hS2;refine ⟨_,rfl,_,rfl,_,rfl,z',rfl,small (by omega),?_⟩;rw [slice_pre];have lp:=pre_len z' n;have hp':=pre_isC hz' n;generalize pre z' n=zz at *;refine ⟨_,rfl,.inl ⟨rfl,_,SqL.of u3⟩,_,rfl,_,rfl,_,rfl,_,_,rfl,rfl,a,ns,1 + k * 2 + 1,rfl,hS3,h63,cell ns (1 + k * 2 + 1),rfl,fun c hc0 hc1=>⟨(by show 2≤sizeLine; decide),fun p hp => ?_⟩⟩;have s5:=Same.new hp (.tup [.str zz,.int c]);have p5:upd H3 p (.tup [.str zz,.int c]) p=some (.tup [.str zz,.int c]):=upd_same;have u5:=s5 _ _ u3;have tl:=Tups.lst (ys:=xs++[V.ref p]) u5;refine ⟨l,xs,_,rfl,rfl,u5,small1000 (by omega),Same.set (s2.trans (s3.trans s5)) hl _,xs++[V.ref p],zz,_,_,_,upd_same,by rw [List.length_append,lx]; rfl,fun u hu => ?_,hp',by omega,rfl⟩;rcases List.mem_append.mp hu with hu | hu
      · exact (hxs u hu).up ((s3.trans s5).tups.trans tl)
      · rw [List.mem_singleton.mp hu];exact ⟨p,zz,c,rfl,tl _ _ p5,hp',by omega,hc0,hc1⟩
  · rintro σ H2 ⟨s2,xs,z,o6,o7,o8,u2,lx,hxs,hz,lz,rfl⟩;exact ⟨_,rfl,q' l xs H2 s2 hl u2 (by omega) hxs⟩
end
end Qs


namespace Qs
open PySem L2
theorem PaV.ok {H:Hp} {n:Nat} {u:V} {q:List Nat × Int} (h:PaV H n u q):POk n q:=by
  obtain ⟨p,z,_,_,hz,e,hl,h0⟩:=h;rw [POk,← e,dig_len];exact ⟨dig_lt hz,hl,h0⟩
theorem PasAt.ok {H:Hp} {n:Nat} {us:List V} {L:List (List Nat × Int)} (h:PasAt H n us L):∀ p∈L,POk n p:=by
  induction h with
  | nil=>intro p hp; cases hp
  | cons p _ ih =>
    intro q hq;rcases List.mem_cons.mp hq with rfl | hq
    · exact p.ok
    · exact ih q hq
theorem PasAt.of {H:Hp} {n:Nat}:∀ {us:List V},(∀ u∈us,PaAt H u n)→∃ L,PasAt H n us L
  | [],_=>⟨[],.nil⟩
  | u::us,h=>by
    obtain ⟨L,hL⟩:=PasAt.of (us:=us) (fun v hv=>h v (List.mem_cons_of_mem _ hv));obtain ⟨p,z,c,e,hp,hz,hl,h0⟩:=h u List.mem_cons_self;exact ⟨(dig z,c)::L,.cons ⟨p,z,e,hp,hz,rfl,hl,h0⟩ hL⟩
def paData (q:Str × Int):PyData:=.tuple [.str q.1,.int q.2]
theorem strOk_isC {z:Str} (h:IsC z):PyData.strOk z=true:=by
  unfold PyData.strOk;rw [← Array.all_toList,List.all_eq_true];intro c hc
  have:=h c hc
  exact decide_eq_true (by omega)
theorem PasAt.dats {H:Hp} {n:Nat} {us:List V} {L:List (List Nat × Int)} (h:PasAt H n us L):∃ ds:List (Str × Int),ds.length=L.length∧(∀ q∈ds,PyData.strOk q.1=true)∧Dats H us (ds.map paData):=by
  induction h with
  | nil=>exact ⟨[],rfl,fun q hq=>(by cases hq),.nil⟩
  | @cons u q us L p _ ih =>
    obtain ⟨ds,e,ho,k⟩:=ih;obtain ⟨a,z,rfl,ha,hz,_⟩:=p;refine ⟨(z,q.2)::ds,by simp [e],fun r hr => ?_,.cons (.tup ha (.cons (.str z) (.cons (.int _) .nil))) k⟩;rcases List.mem_cons.mp hr with rfl | hr
    · exact strOk_isC hz
    · exact ho r hr
theorem paList_shaped {ds:List (Str × Int)} (h:∀ q∈ds,PyData.strOk q.1=true):SeqAt.shaped (.list (ds.map paData))=true:=by
  have e:PyData.canLayAll0 (ds.map paData)=true∧PyData.depthAll (ds.map paData)≤1:=by
    induction ds with
    | nil=>exact ⟨rfl,Nat.zero_le _⟩
    | cons q r ih =>
      obtain ⟨i1,i2⟩:=ih (fun p hp=>h p (List.mem_cons_of_mem _ hp));refine ⟨?_,?_⟩
      · show ((PyData.strOk q.1 && (true && true)) && PyData.canLayAll0 (r.map paData))=true;rw [h q List.mem_cons_self,i1]; rfl
      · show max (max 0 (max 0 0) + 1) (PyData.depthAll (r.map paData))≤1;omega
  unfold SeqAt.shaped;show (PyData.canLayAll0 (ds.map paData) && decide (PyData.depthAll (ds.map paData) + 1≤64))=true;rw [e.1,decide_eq_true (by omega)]; rfl
theorem cons_case {α:Type} (l:List α):l=[]∨∃ a r,l=a::r:=by cases l <;> simp
theorem good_norm {c:Int}:gath (qk (.col c) 0) (qk (.col c) 1) (qk (.col c) 2) (qk (.col c) 3)=.col c:=by
  show gath (.col c) (.col c) (.col c) (.col c)=.col c;unfold gath;rw [if_pos (oneB_iff.mpr ⟨rfl,rfl,rfl,rfl⟩)]
section
variable {P:Program} {w:World} {K:PySem.W.Frag} {mg:Str→Option Value} {base:Heap} {CX:CXT} {f:Addr} {fd:FuncData}
abbrev s_law_tree_of:Stmt:=top 41
theorem sc_law_tree_of:FnScope ["_law_a","_law_b","_law_c","_law_d"] ["_law_a","_law_b","_law_c","_law_d"] (defScope s_law_tree_of):=⟨rfl,rfl,rfl,by decide +kernel,rfl,by decide +kernel,by decide +kernel⟩
def sp_law_tree_of:Sp:=fun vs H Q _=>∃ (a b c d:V) (ta tb tc td:Tr),vs=[a,b,c,d]∧TrAt H a ta∧TrAt H b tb∧TrAt H c tc∧TrAt H d td∧(ta.deep≤60∧tb.deep≤60∧tc.deep≤60∧td.deep≤60)∧∀ v H',Same H H'→TrAt H' v (gath ta tb tc td)→Q v H'
theorem ok_law_tree_of (T:Tx K mg) (F:FunD K "_law_tree_of" "_law_tree_of" s_law_tree_of f fd .none):FnOk P w K mg base CX 1 f fd ["_law_a","_law_b","_law_c","_law_d"] sp_law_tree_of:=by
  refine F.ok sc_law_tree_of (fun vs H Q E h => ?_) (fun cdv A outer s H vs Q E hr h => ?_)
  · obtain ⟨_,_,_,_,_,_,_,_,rfl,_⟩:=h;rfl
  obtain ⟨a,b,c,d,ta,tb,tc,td,rfl,ha,hb,hc,hd,⟨da,db,dc,dd⟩,q'⟩:=h;refine ⟨_,(pss_cons (ps_if (PW.pt (pw_and (pt_not (pt_val (pe_callB (call_isiT "tuple") rfl T.b_isinstance bb_isinstance (pa_cons (pv 0) (pa_cons (pe_bty T.b_tuple bt_tuple) pa_nil))))) (pw_and (pt_cmpR (op_eqD hr) (pv 0) (pv 1) (nomark _)) (pw_and (pt_cmpR (op_eqD hr) (pv 0) (pv 2) (nomark _)) (pw_and1 (pt_cmpR (op_eqD hr) (pv 0) (pv 3) (nomark _))))))) (pss_one (ps_ret (pv 0))) pss_nil) (pss_one (ps_ret (pe_tupx (pax_c (pv 0) (pax_c (pv 1) (pax_c (pv 2) (pax_c (pv 3) pax_nil)))))))),?_⟩
  have ty:=ha.ty (K:=K);have fin:gath ta tb tc td=.four ta tb tc td→∀ p,H p=none→Q (.ref p) (upd H p (.tup [a,b,c,d])):=fun hg p hp=>by
    refine q' _ _ (Same.new hp _) ?_;rw [hg];have sn:=(Same.new hp (.tup [a,b,c,d])).tups;exact .four upd_same (ha.up sn) (hb.up sn) (hc.up sn) (hd.up sn)
  have f4:4≤sizeLine:=by decide
  have no:¬ (ta.isCol=true∧tb=ta∧tc=ta∧td=ta)→gath ta tb tc td=.four ta tb tc td:=fun h=>by
    unfold gath; rw [if_neg (fun z=>h (oneB_iff.mp z))]
  cases hta:ta.isCol with
  | false =>
    rw [hta] at ty;refine ⟨_,rfl,_,_,_,rfl,ty,kit_tt,_,rfl,iteF (iteF ?_)⟩;exact ⟨_,rfl,_,rfl,_,rfl,_,rfl,f4,fin (no fun z=>by rw [hta] at z; cases z.1)⟩
  | true =>
    rw [hta] at ty;refine ⟨_,rfl,_,_,_,rfl,ty,kit_it,_,rfl,iteT ?_⟩;have e1:∀ {u:Tr},PyData.eqv ta.data u.data=true→u=ta:=fun z=>by rw [Tr.eqv] at z; exact (of_decide_eq_true z).symm
    have e2:∀ {u:Tr},¬ PyData.eqv ta.data u.data=true→u≠ta:=fun z h=>z (by rw [Tr.eqv]; exact decide_eq_true h.symm);refine ⟨_,rfl,_,rfl,_,_,ha.dat,hb.dat,Tr.shaped (by omega),Tr.shaped (by omega),_,rfl,ite2 (fun z1 => ?_) (fun z1=>iteF ?_)⟩
    · refine ⟨_,rfl,_,rfl,_,_,ha.dat,hc.dat,Tr.shaped (by omega),Tr.shaped (by omega),_,rfl,ite2 (fun z2 => ?_) (fun z2=>iteF ?_)⟩
      · refine ⟨_,rfl,_,rfl,_,_,ha.dat,hd.dat,Tr.shaped (by omega),Tr.shaped (by omega),_,rfl,ite2 (fun z3 => ?_) (fun z3 => ?_)⟩
        · refine ⟨_,rfl,q' _ _ (Same.refl H) ?_⟩;unfold gath;rw [if_pos (oneB_iff.mpr ⟨hta,e1 z1,e1 z2,e1 z3⟩)];exact ha
        · exact ⟨_,rfl,_,rfl,_,rfl,_,rfl,f4,fin (no fun z=>e2 z3 z.2.2.2)⟩
      · exact ⟨_,rfl,_,rfl,_,rfl,_,rfl,f4,fin (no fun z=>e2 z2 z.2.2.1)⟩
    · exact ⟨_,rfl,_,rfl,_,rfl,_,rfl,f4,fin (no fun z=>e2 z1 z.2.1)⟩
abbrev s_law_tree_by:Stmt:=top 42
theorem sc_law_tree_by:FnScope ["_law_paints_here","_law_base","_law_later","_law_code_here","_law_colour_here","_law_trees","_law_sign","_law_some"] ["_law_paints_here"] (defScope s_law_tree_by):=⟨rfl,rfl,rfl,by decide +kernel,rfl,by decide +kernel,by decide +kernel⟩
def sp_law_tree_by (m:Nat):Sp:=fun vs H Q _=>∃ (l:Addr) (xs:List V) (L:List (List Nat × Int)) (n:Nat),vs=[.ref l]∧H l=some (.lst xs)∧PasAt H n xs L∧n < m∧m≤41∧xs.length + n≤200∧∀ v H',Same H H'→TrAt H' v (paintAll (.col 0) L)→Q v H'
theorem ok_law_tree_by (T:Tx K mg) (q:Quiet CX) (F:FunD K "_law_tree_by" "_law_tree_by" s_law_tree_by f fd .none) (C__law_tree_of:Fok P w K mg base CX 1 "_law_tree_of" ["_law_a","_law_b","_law_c","_law_d"] [] sp_law_tree_of) (b:Binds K fd ["_law_paints_here"] []) (m:mg "_law_tree_by" = some (.ref f)) :
    ∀ n,FnOk P w K mg base CX (2 + n) f fd ["_law_paints_here"] (sp_law_tree_by n)
  | 0=>by
    refine F.ok sc_law_tree_by (fun vs H Q E h => ?_) (fun cdv A outer s H vs Q E hr h => ?_)
    · obtain ⟨_,_,_,_,rfl,_⟩:=h;rfl
    obtain ⟨_,_,_,_,_,_,_,h,_⟩:=h;exact absurd h (Nat.not_lt_zero _)
  | m' + 1=>by
    have C__law_tree_by:Fok P w K mg base CX (2 + m') "_law_tree_by" ["_law_paints_here"] [] (sp_law_tree_by m'):=fok F (ok_law_tree_by T q F C__law_tree_of b m m') b m
    refine F.ok sc_law_tree_by (fun vs H Q E h => ?_) (fun cdv A outer s H vs Q E hr h => ?_)
    · obtain ⟨_,_,_,_,rfl,_⟩:=h;rfl
    obtain ⟨l,xs,L,n,rfl,hl,hL,hn,hm,hb,q'⟩:=h;refine ⟨_,(pss_cons (ps_set (i:=1) sc_law_tree_by.nd rfl (Or.inl rfl) pe_int) (pss_cons (ps_set (i:=2) sc_law_tree_by.nd rfl (Or.inl rfl) (pe_lstx pax_nil)) (pss_cons (ps_for PassesOwn.never rfl (pi_list (pv 0)) (pg_tup rfl (pgs_cons (pg_name (i:=3) sc_law_tree_by.nd rfl (Or.inl rfl)) (pgs_cons (pg_name (i:=4) sc_law_tree_by.nd rfl (Or.inl rfl)) pgs_nil))) (pss_one (ps_if (pt_cmpR op_eq (pv 3) pe_str (nomark _)) (pss_cons (ps_set (i:=1) sc_law_tree_by.nd rfl (Or.inl rfl) (pv 4)) (pss_one (ps_set (i:=2) sc_law_tree_by.nd rfl (Or.inl rfl) (pe_lstx pax_nil)))) (pss_one (ps_expr (pe_bm PySem.F.plainAttrs_list PySem.F.slot_list_append PySem.F.type_list_append mt_append (pv 2) (pa_cons (pe_tupx (pax_c (pv 3) (pax_c (pv 4) pax_nil))) pa_nil))))))) (pss_cons (ps_if (pt_cmpR (op_eqD hr) (pv 2) (pe_lstx pax_nil) (nomark _)) (pss_one (ps_ret (pv 1))) pss_nil) (pss_cons (ps_set (i:=5) sc_law_tree_by.nd rfl (Or.inl rfl) (pe_lstx pax_nil)) (pss_cons (ps_for PassesOwn.never rfl (pi_str pe_str) (pg_name (i:=6) sc_law_tree_by.nd rfl (Or.inr rfl)) (pss_cons (ps_set (i:=7) sc_law_tree_by.nd rfl (Or.inl rfl) (pe_op op_cat (pe_lstx (pax_c (pe_tupx (pax_c pe_str (pax_c (pv 1) pax_nil))) pax_nil)) (pe_compCI (N':=["_law_code_here","_law_colour_here","_law_sign"]) ["_law_sign"] ["_law_sign"] [6] 2 (by with_unfolding_all rfl) rfl (capsOk_cons rfl rfl (by decide) capsOk_nil) rfl rfl (by decide) rfl (by decide +kernel) rfl (by decide +kernel) rfl (pi_list (pv 2)) (fun C s0 H0 fp pins=>(pg_tupK (K:=K) (n:=2) rfl (pgs_cons (pg_name (i:=0) (show (["_law_code_here","_law_colour_here","_law_sign"]:List Str).Nodup by decide +kernel) rfl (Or.inl rfl) (Or.inr rfl)) (pgs_cons (pg_name (i:=1) (show (["_law_code_here","_law_colour_here","_law_sign"]:List Str).Nodup by decide +kernel) rfl (Or.inl rfl) (Or.inr rfl)) pgs_nil)))) (fun C s0 H0 fp pins=>(pt_cmpR op_eq (pe_ix ix_str (pv 0) pe_int (fun _ _=>rfl)) (pv 2) (nomark _))) (fun C s0 H0 fp pins=>(pe_tupx (pax_c (pe_slice sl_str (pv 0) (po_some pe_int) po_none) (pax_c (pv 1) pax_nil))))))) (pss_one (ps_expr (pe_bm PySem.F.plainAttrs_list PySem.F.slot_list_append PySem.F.type_list_append mt_append (pv 5) (pa_cons (pe_callF C__law_tree_by q hr (pa_cons (pv 7) pa_nil) (hj:=by first | decide | omega | (simp only [Nat.add_eq]; omega))) pa_nil)))))) (pss_one (ps_ret (pe_callF C__law_tree_of q hr (pa_cons (pe_ix ix_list (pv 5) pe_int (fun _ _=>rfl)) (pa_cons (pe_ix ix_list (pv 5) pe_int (fun _ _=>rfl)) (pa_cons (pe_ix ix_list (pv 5) pe_int (fun _ _=>rfl)) (pa_cons (pe_ix ix_list (pv 5) pe_int (fun _ _=>rfl)) pa_nil)))) (hj:=by first | decide | omega | (simp only [Nat.add_eq]; omega))))))))))),?_⟩
    refine ⟨(by show 0≤sizeLine; decide),fun lt0 hlt0 => ?_⟩;have s1:=Same.new hlt0 (.lst []);have u1:upd H lt0 (.lst []) lt0=some (.lst []):=upd_same;generalize upd H lt0 (.lst [])=H1 at *;refine ⟨_,rfl,l,rfl,⟨_,SqL.of (s1 _ _ hl)⟩,for_list (xs:=xs) (fun i σ H2=>Same H H2∧∃ (b:Int) (lt:Addr) (ms:List V) (M:List (List Nat × Int)) (o3 o4:Option V),H2 lt=some (.lst ms)∧H lt=none∧PasAt H2 n ms M∧(∀ p∈M,p.1≠[])∧ms.length≤i∧paintAll (.col 0) (L.take i)=paintAll (.col b) M∧(0≤b∧b≤35)∧σ=[some (.ref l),some (.int b),some (.ref lt),o3,o4,none,none,none]) ⟨s1,0,lt0,[],[],none,none,u1,hlt0,.nil,fun p hp=>(by cases hp),Nat.le_refl _,rfl,⟨by decide,by decide⟩,rfl⟩ (fun i σ H2 _ h=>SqL.of (h.1 _ _ hl)) ?_ ?_⟩
    · rintro i u σ H2 hu ⟨s2,b0,lt,ms,M,o3,o4,u2,hlt,hM,hne,lm,ep,hb0,rfl⟩;obtain ⟨pq,eq,p,z,rfl,hp,hz,ez,lz,hc⟩:=hL.get hu;have et:L.take (i + 1)=L.take i++[pq]:=by rw [List.take_add_one,eq]; rfl
      refine ⟨p,_,rfl,SqT.of (s2 _ _ hp),rfl,_,_,rfl,_,_,rfl,rfl,?_⟩;refine ⟨_,rfl,rfl,_,rfl,ite2 (fun c => ?_) (fun c => ?_)⟩
      · have e:z=("" : Str):=by simpa using c
        have ed:pq.1=[]:=by rw [← ez,e]; exact dig_empty
        refine ⟨_,rfl,(by show 0≤sizeLine; decide),fun lt' hlt' => ?_⟩;refine ⟨Same.trans s2 (Same.new hlt' _),pq.2,lt',[],[],_,_,upd_same,Same.none s2 hlt',.nil,fun p hp=>(by cases hp),Nat.zero_le _,?_,hc,rfl⟩;rw [et,paintAll_snoc,ed]; rfl
      · have nz:pq.1≠[]:=fun h=>by
          have h0:z.length=0:=by rw [← dig_len,ez,h]; rfl
          exact c (by simp [str_eq_nil.mpr h0])
        refine ⟨_,rfl,.inl ⟨rfl,_,SqL.of u2⟩,_,rfl,_,rfl,(by show 2≤sizeLine; decide),fun p' hp' => ?_⟩;have s3:=Same.new hp' (.tup [.str z,.int pq.2]);have p3:upd H2 p' (.tup [.str z,.int pq.2]) p'=some (.tup [.str z,.int pq.2]):=upd_same;have u3:=s3 _ _ u2;generalize upd H2 p' (.tup [.str z,.int pq.2])=H3 at *;have tl:=Tups.lst (ys:=ms++[V.ref p']) u3;have hi:i < xs.length:=(List.getElem?_eq_some_iff.mp hu).1;refine ⟨lt,ms,_,rfl,rfl,u3,small1000 (by omega),Same.set (s2.trans s3) hlt _,b0,lt,ms++[V.ref p'],M++[pq],_,_,upd_same,hlt,(hM.up (s3.tups.trans tl)).app (.cons ⟨p',z,rfl,tl _ _ p3,hz,ez,lz,hc⟩ .nil),fun r hr => ?_,by rw [List.length_append]; show ms.length + 1≤i + 1; omega,?_,hb0,rfl⟩
        · rcases List.mem_append.mp hr with hr | hr
          · exact hne r hr
          · rw [List.mem_singleton.mp hr]; exact nz
        · rw [et,paintAll_snoc,paintAll_snoc,ep]
    · rintro σ H2 ⟨s2,b0,lt,ms,M,o3,o4,u2,hlt,hM,hne,lm,ep,hb0,rfl⟩;have eL:L.take xs.length=L:=List.take_of_length_le (by rw [hL.len]; exact Nat.le_refl _);rw [eL] at ep;rw [ep] at q';obtain ⟨ds,ld,hds,kds⟩:=hM.dats;refine ⟨_,rfl,(by show 0≤sizeLine; decide),fun le hle => ?_⟩;have s3:=s2.trans (Same.new hle (.lst []));have u3:=(Same.new hle (.lst [])) _ _ u2;have ue:upd H2 le (.lst []) le=some (.lst []):=upd_same;have hM3:=hM.up (Same.new hle (.lst [])).tups;obtain ⟨ds,ld,hds,kds⟩:=hM3.dats;generalize upd H2 le (.lst [])=H3 at *;refine ⟨_,_,.lst u3 kds,.lst ue .nil,paList_shaped hds,by decide,?_⟩;rcases cons_case ds with rfl | ⟨d0,dr,rfl⟩
      · have eM:M=[]:=List.eq_nil_of_length_eq_zero ld.symm;rw [eM] at q';exact ⟨_,rfl,iteT ⟨_,rfl,q' _ _ s3 (.col b0)⟩⟩
      have pm:0 < M.length:=by rw [← ld]; show 0 < dr.length + 1; omega
      refine ⟨_,rfl,iteF ?_⟩;refine ⟨(by show 0≤sizeLine; decide),fun lw hlw => ?_⟩;have s4:=Same.new hlw (.lst []);have hM4:=hM3.up s4.tups;have u4:=s4 _ _ u3;have hlw0:H lw=none:=Same.none s3 hlw;have s04:=s3.trans s4;have w4:upd H3 lw (.lst []) lw=some (.lst []):=upd_same;have nlw:lt≠lw:=ne_of_none u3 hlw;generalize upd H3 lw (.lst [])=H4 at *;have hn1:0 < n:=by
        rcases Nat.eq_zero_or_pos n with h0 | h0
        · obtain ⟨p0,hp0⟩:∃ p0,M[0]? = some p0:=⟨_,List.getElem?_eq_getElem pm⟩;have h1:=(hM.ok p0 (List.mem_of_getElem? hp0)).2.1;exact absurd (List.eq_nil_of_length_eq_zero (by omega)) (hne p0 (List.mem_of_getElem? hp0))
        · exact h0
      refine ⟨_,rfl,for_gen (fun j σ H5=>Same H H5∧H5 lt=some (.lst ms)∧PasAt H5 n ms M∧∃ (ts:List V) (o6 o7:Option V),H5 lw=some (.lst ts)∧ts.length=j∧(∀ k v,ts[k]? = some v→TrAt H5 v (paintAll (.col b0) (subP k M)))∧σ=[some (.ref l),some (.int b0),some (.ref lt),o3,o4,some (.ref lw),o6,o7]) ⟨s04,u4,hM4,[],none,none,w4,rfl,fun k v h=>(by simp at h),rfl⟩ ?_ ?_⟩
      · rintro j σ H5 hj ⟨s5,u5,hM5,ts,o6,o7,w5,lts,hts,rfl⟩;have hj4:j < 4:=by rw [show ("0123" : Str).length=4 by decide +kernel] at hj; exact hj
        have ej:sgn ("0123" : Str) j=one j:=four (P:=fun d=>sgn ("0123" : Str) d=one d) (by decide +kernel) (by decide +kernel) (by decide +kernel) (by decide +kernel) hj4
        rw [ej];refine ⟨_,rfl,(by show 2≤sizeLine; decide),fun p0 hp0 => ?_⟩;have s6:=Same.new hp0 (.tup [.str ("" : Str),.int b0])
        have v6:upd H5 p0 (.tup [.str ("" : Str),.int b0]) p0=some (.tup [.str ("" : Str),.int b0]):=upd_same
        generalize upd H5 p0 (.tup [.str ("" : Str),.int b0])=H6 at *
        refine ⟨(by show 1≤sizeLine; decide),fun la hla => ?_⟩;have s7:=Same.new hla (.lst [.ref p0]);have v7:=s7 _ _ v6;have w7:upd H6 la (.lst [.ref p0]) la=some (.lst [.ref p0]):=upd_same;generalize upd H6 la (.lst [.ref p0])=H7 at *;have s57:=s6.trans s7;have u7:=s57 _ _ u5;have hM7:=hM5.up s57.tups;have hms:ms.length≤200:=by omega
        refine ⟨[.str (one j)],rfl,_,rfl,lt,rfl,⟨_,SqL.of u7⟩,compCI_list ms (fun D i ys H'=>Same H7 H'∧H' D=some (.lst ys)∧ys.length≤i∧PasAt H' (n - 1) ys (subP j (M.take i))) (small (by omega)) (fun D i ys H' h=>SqL.of (h.1 _ _ u7)) (fun D i ys H' h=>⟨h.2.1,h.2.2.1⟩) (fun D hD=>⟨Same.new hD _,upd_same,Nat.le_refl _,.nil⟩) ?_ ?_ ?_ ?_ ?_⟩
        · rintro D i x ys H' hx hD ⟨c1,c2,c3,c4⟩;obtain ⟨pq,epq,p,z,rfl,hp,hz,ez,lz,hc⟩:=hM7.get hx;have et:M.take (i + 1)=M.take i++[pq]:=by rw [List.take_add_one,epq]; rfl
          have nz:=hne pq (List.mem_of_getElem? epq);have pz:0 < z.length:=by
            rcases Nat.eq_zero_or_pos z.length with h0 | h0
            · exact absurd (List.eq_nil_of_length_eq_zero (by rw [← ez,dig_len]; exact h0)) nz
            · exact h0
          have hs:z.length≤sizeLine:=small (by omega);obtain ⟨e,he,e1,e2⟩:=sgn_one hz pz;have epq2:pq=(e::dig (rst z),pq.2):=by rw [← e2,← dig_rst pz,ez]
          have sub1:subP j [pq]=if e=j then [(dig (rst z),pq.2)] else []:=by rw [epq2]; rfl
          refine ⟨p,_,rfl,SqT.of (c1 _ _ hp),rfl,_,_,rfl,_,_,rfl,rfl,rfl,?_⟩;refine ⟨_,rfl,z,0,z.cps.getD 0 0,rfl,rfl,hs,at_zero pz,_,rfl,rfl,_,rfl,ite2 (fun c => ?_) (fun c => ?_)⟩
          · have c':V.str (sgn z 0)=V.str (one j):=of_decide_eq_true c;have c2':sgn z 0=one j:=by injection c'
            rw [e1] at c2';have eej:=one_inj c2';rw [if_pos eej] at sub1;refine ⟨_,rfl,_,rfl,z,rfl,hs,_,rfl,(by show 2≤sizeLine; decide),fun pn hpn => ?_⟩;have er:Txt.slice z (some 1) none=rst z:=slice_rst pz;dsimp only;rw [er];have sn:=Same.new hpn (.tup [.str (rst z),.int pq.2]);have uD:=sn _ _ c2;have un:upd H' pn (.tup [.str (rst z),.int pq.2]) pn=some (.tup [.str (rst z),.int pq.2]):=upd_same;have tl:=Tups.lst (ys:=ys++[V.ref pn]) uD;have rl:=rst_len z;refine ⟨uD,Same.set (c1.trans sn) hD _,upd_same,by rw [List.length_append]; show ys.length + 1≤i + 1; omega,?_⟩;rw [et,subP_app,sub1];exact (c4.up (sn.tups.trans tl)).app (.cons ⟨pn,rst z,rfl,tl _ _ un,rst_isC hz,rfl,by omega,hc⟩ .nil)
          · have nej:¬ e=j:=fun h=>c (decide_eq_true (by show V.str (sgn z 0)=V.str (one j); rw [e1,h]));rw [if_neg nej] at sub1;refine ⟨c1,c2,by omega,?_⟩;rw [et,subP_app,sub1,List.append_nil];exact c4
        · rintro D ys H' hD ⟨c1,c2,c3,c4⟩;have eM:M.take ms.length=M:=List.take_of_length_le (by rw [hM.len]; exact Nat.le_refl _);rw [eM] at c4;refine ⟨la,D,_,_,rfl,rfl,c1 _ _ w7,c2,small (by show 1 + ys.length≤_; omega),fun lc hlc => ?_⟩;have s8:=Same.new hlc (.lst ([V.ref p0]++ys));have w8:upd H' lc (.lst ([V.ref p0]++ys)) lc=some (.lst ([V.ref p0]++ys)):=upd_same;generalize upd H' lc (.lst ([V.ref p0]++ys))=H8 at *;have s58:=s57.trans (c1.trans s8);have k8:PasAt H8 (n - 1) ([V.ref p0]++ys) ([([],b0)]++subP j M):=PasAt.app (.cons ⟨p0,("" : Str),rfl,(c1.trans s8) _ _ v7,empty_eq▸IsC.nil,dig_empty,by rw [show ("" : Str).length=0 by decide +kernel]; omega,hb0⟩ .nil) (c4.up s8.tups)
          refine ⟨_,rfl,.inl ⟨rfl,_,SqL.of (s58 _ _ w5)⟩,_,rfl,lc,_,_,n - 1,rfl,w8,k8,by omega,by omega,by rw [List.length_append]; show 1 + ys.length + (n - 1)≤200; omega,fun v H9 s9 hv => ?_⟩;have s59:=s58.trans s9;have w9:=s59 _ _ w5;have tl:=Tups.lst (ys:=ts++[v]) w9;refine ⟨lw,ts,_,rfl,rfl,w9,small1000 (by omega),Same.set (s5.trans s59) hlw0 _,by rw [upd_ne nlw]; exact s59 _ _ u5,hM5.up (s59.tups.trans tl),ts++[v],_,_,upd_same,by rw [List.length_append,lts]; rfl,fun k g hg => ?_,rfl⟩;rcases Nat.lt_or_ge k ts.length with hk | hk
          · rw [List.getElem?_append_left hk] at hg;exact (hts k g hg).up (s59.tups.trans tl)
          · rw [List.getElem?_append_right hk] at hg;have hk0:k - ts.length=0:=by
              rcases h:k - ts.length with _ | k
              · rfl
              · rw [h] at hg; simp at hg
            rw [hk0] at hg;have ek:k=j:=by omega
            rw [ek,← Option.some.inj hg];exact hv.up tl
        · rintro x σ H' R R' k ⟨a,xs,e1,h1,h2,y1,r1,f1,y2,r2,f2,f6,h⟩;exact ⟨a,xs,e1,h1,h2,y1,r1,f1,y2,r2,f2,f6,k _ _ h⟩
        · rintro σ H' R R' k ⟨a1,e1,lo,e2,z,e3,hs,a2,e4,h1,h2⟩;exact ⟨a1,e1,lo,e2,z,e3,hs,a2,e4,h1,fun p hp=>k _ _ (h2 p hp)⟩
        · rintro σ H' R R' k ⟨a1,e1,z,i,c,e2,e3,hs,ha,a2,e4,e5,b,e6,h⟩;exact ⟨a1,e1,z,i,c,e2,e3,hs,ha,a2,e4,e5,b,e6,k _ _ h⟩
      · rintro σ H5 ⟨s5,u5,hM5,ts,o6,o7,w5,lts,hts,rfl⟩;obtain ⟨va,vb,vc,vd,rfl⟩:∃ a b c d,ts=[a,b,c,d]:=by
          rw [show ("0123" : Str).length=4 by decide +kernel] at lts
          match ts,lts with
          | [a,b,c,d],_=>exact ⟨a,b,c,d,rfl⟩
        have ka:=hts 0 va rfl;have kb:=hts 1 vb rfl;have kc:=hts 2 vc rfl;have kd:=hts 3 vd rfl;have okM:=hM5.ok;have dg:∀ k,(paintAll (.col b0) (subP k M)).deep≤60:=fun k=>by
          have:=(good_all (n:=40) (subP k M) (.col b0) (fun p hp=>(subP_ok k M okM p hp).le (by omega)) (Good.col hb0)).deep
          omega
        refine ⟨_,rfl,lw,_,_,_,rfl,rfl,SqL.of w5,rfl,_,rfl,lw,_,_,_,rfl,rfl,SqL.of w5,rfl,_,rfl,lw,_,_,_,rfl,rfl,SqL.of w5,rfl,_,rfl,lw,_,_,_,rfl,rfl,SqL.of w5,rfl,va,vb,vc,vd,_,_,_,_,rfl,ka,kb,kc,kd,⟨dg 0,dg 1,dg 2,dg 3⟩,fun v H6 s6 hv=>q' v H6 (s5.trans s6) ?_⟩;rw [paintAll_four M (.col b0) (fun p hp=>⟨hne p hp,(okM p hp).1⟩) good_norm];exact hv
end
end Qs


namespace Qs
open PySem L2

def RowOk (H:Hp) (lw:Addr) (r:V) (m j:Nat):Prop:=∃ (lr:Addr) (xs:List V),r=.ref lr∧lr≠lw∧H lr=some (.lst xs)∧xs.length=m∧∀ x∈xs,∃ t,TrAt H x t∧Good j t∧cnt t≤4 ^ j
theorem RowOk.up {H H':Hp} {lw:Addr} {r:V} {m j:Nat} (h:RowOk H lw r m j) (s:Same H H'):RowOk H' lw r m j:=by
  obtain ⟨lr,xs,e,n,hl,hx,ht⟩:=h;refine ⟨lr,xs,e,n,s _ _ hl,hx,fun x h => ?_⟩;obtain ⟨t,h1,h2⟩:=ht x h;exact ⟨t,h1.up s.tups,h2⟩
theorem RowOk.set {H:Hp} {lw:Addr} {r:V} {m j:Nat} {xs ys:List V} (h:RowOk H lw r m j) (e:H lw=some (.lst xs)):RowOk (upd H lw (.lst ys)) lw r m j:=by
  obtain ⟨lr,zs,e',n,hl,hx,ht⟩:=h;refine ⟨lr,zs,e',n,by rw [upd_ne n]; exact hl,hx,fun x h => ?_⟩;obtain ⟨t,h1,h2⟩:=ht x h;exact ⟨t,h1.up (Tups.lst e),h2⟩
def RowsAt (H:Hp) (l:Addr) (m j:Nat):Prop:=∃ rs,H l=some (.lst rs)∧rs.length=m∧∀ r∈rs,RowOk H l r m j
theorem cut2 {xs:List V} {b:Nat} {v v':V} (h1:xs[b]? = some v) (h2:xs[b + 1]? = some v'):cutV xs (some (b:Int)) (some ((b + 2:Nat):Int))=[v,v']:=by
  have hl:=(List.getElem?_eq_some_iff.mp h2).1;unfold cutV;have e0:HT.sIx xs.length 0 (some (b:Int))=b:=by
    unfold HT.sIx
    first | (simp; omega) | (dsimp only; split <;> omega)
  have e1:HT.sIx xs.length xs.length (some ((b + 2:Nat):Int))=b + 2:=by
    unfold HT.sIx
    first | (simp; omega) | (dsimp only; split <;> omega)
  rw [e0,e1,show b + 2 - b=2 by omega];rw [List.drop_eq_getElem_cons (by omega),List.drop_eq_getElem_cons (by omega)];obtain ⟨_,a1⟩:=List.getElem?_eq_some_iff.mp h1;obtain ⟨_,a2⟩:=List.getElem?_eq_some_iff.mp h2;rw [a1,a2];rfl
theorem rng2:∀ k:Nat,k < 4→Builtin.Range.small 0 ((2 ^ (k + 1):Nat):Int) 2=true∧Builtin.Range.rangeSize 0 ((2 ^ (k + 1):Nat):Int) 2=((2 ^ k:Nat):Int):=by decide +kernel
theorem few_ix:∀ s:Nat,s < 5→∃ m:Nat,atI [V.int 2,V.int 2,V.int 3,V.int 4,V.int 4] (s:Int)=some (V.int (m:Int))∧0 < m∧m≤4:=by
  intro s hs;rcases s with _ | _ | _ | _ | _ | s
  · exact ⟨2,rfl,by decide,by decide⟩
  · exact ⟨2,rfl,by decide,by decide⟩
  · exact ⟨3,rfl,by decide,by decide⟩
  · exact ⟨4,rfl,by decide,by decide⟩
  · exact ⟨4,rfl,by decide,by decide⟩
  · omega
theorem cnt_all {n:Nat}:∀ (L:List (List Nat × Int)) (t:Tr),(∀ p∈L,POk n p)→cnt (paintAll t L)≤cnt t + (3 * n + 1) * L.length
  | [],t,_=>Nat.le_add_right _ _
  | p::L,t,h=>by
    obtain ⟨h1,h2,_⟩:=h p List.mem_cons_self;have ih:=cnt_all L (plant t p.1 (.col p.2)) (fun q hq=>h q (List.mem_cons_of_mem _ hq));have c:=cnt_plant p.1 t (.col p.2) h1;have c1:cnt (Tr.col p.2)=1:=rfl;show cnt (paintAll (plant t p.1 (.col p.2)) L)≤cnt t + (3 * n + 1) * (L.length + 1);rw [Nat.mul_succ];omega
section
variable {P:Program} {w:World} {K:PySem.W.Frag} {mg:Str→Option Value} {base:Heap} {CX:CXT} {f:Addr} {fd:FuncData}
abbrev s_law_grid:Stmt:=top 43
theorem sc_law_grid:FnScope ["_law_script","_law_first","_law_level","_law_wide","_law_share","_law_few","_law_rows","_law_y","_law_cell","_law_row","_law_x","_law_k","_law_value"] ["_law_script","_law_first","_law_level"] (defScope s_law_grid):=⟨rfl,rfl,rfl,by decide +kernel,rfl,by decide +kernel,by decide +kernel⟩
def sp_law_grid (K:PySem.W.Frag):Sp:=fun vs H Q _=>∃ (a:Addr) (ns:List Int) (n:Nat),vs=[.ref a,.int 1,.int n]∧SqL K H a (ns.map V.int)∧ns.length≤63∧n≤3∧∀ l H',Same H H'→RowsAt H' l (2 ^ n) 0→Q (.ref l) H'
theorem ok_law_grid (T:Tx K mg) (q:Quiet CX) (F:FunD K "_law_grid" "_law_grid" s_law_grid f fd .none) (C__law_at:Fok P w K mg base CX 1 "_law_at" ["_law_script","_law_k"] [] (sp_law_at K)):FnOk P w K mg base CX 2 f fd ["_law_script","_law_first","_law_level"] (sp_law_grid K):=by
  refine F.ok sc_law_grid (fun vs H Q E h => ?_) (fun cdv A outer s H vs Q E hr h => ?_)
  · obtain ⟨_,_,_,rfl,_⟩:=h;rfl
  obtain ⟨a,ns,n,rfl,hS,h63,hn,q'⟩:=h;refine ⟨_,(pss_cons (ps_set (i:=3) sc_law_grid.nd rfl (Or.inl rfl) (pe_op op_shl pe_int (pv 2))) (pss_cons (ps_set (i:=4) sc_law_grid.nd rfl (Or.inl rfl) (pe_op op_mod (pe_callF C__law_at q hr (pa_cons (pv 0) (pa_cons (pv 1) pa_nil))) pe_int)) (pss_cons (ps_set (i:=5) sc_law_grid.nd rfl (Or.inl rfl) (pe_lstx (pax_c pe_int (pax_c pe_int (pax_c (pe_op op_mod (pe_op op_fdivW (pe_callF C__law_at q hr (pa_cons (pv 0) (pa_cons (pv 1) pa_nil))) pe_int) pe_int) (pax_c (pe_op op_mod (pe_op op_fdivW (pe_callF C__law_at q hr (pa_cons (pv 0) (pa_cons (pv 1) pa_nil))) pe_int) pe_int) pax_nil)))))) (pss_cons (ps_set (i:=6) sc_law_grid.nd rfl (Or.inl rfl) (pe_lstx pax_nil)) (pss_cons (ps_for PassesOwn.never rfl (pi_range1 rfl T.b_range (pa_cons (pv 3) pa_nil)) (pg_name (i:=7) sc_law_grid.nd rfl (Or.inl rfl)) (pss_cons (ps_set (i:=8) sc_law_grid.nd rfl (Or.inl rfl) (pe_op op_add (pe_callF C__law_at q hr (pa_cons (pv 0) (pa_cons (pe_op op_add (pe_op op_add (pv 1) pe_int) (pe_op op_fdivW (pv 7) pe_int)) pa_nil))) (pe_op op_mul pe_int (pe_op op_mod (pv 7) pe_int)))) (pss_cons (ps_set (i:=9) sc_law_grid.nd rfl (Or.inl rfl) (pe_lstx pax_nil)) (pss_cons (ps_for PassesOwn.never rfl (pi_range1 rfl T.b_range (pa_cons (pv 3) pa_nil)) (pg_name (i:=10) sc_law_grid.nd rfl (Or.inl rfl)) (pss_cons (ps_set (i:=11) sc_law_grid.nd rfl (Or.inl rfl) (pe_op op_fdivW (pv 10) (pe_op op_add pe_int (pe_op op_mod (pv 4) pe_int)))) (pss_cons (ps_set (i:=12) sc_law_grid.nd rfl (Or.inl rfl) (pe_op op_mul (pe_op op_add (pe_op op_add (pe_op op_add (pe_op op_mod (pv 8) pe_int) (pe_op op_mul pe_int (pv 11))) (pe_op op_mul (pe_op op_mul pe_int (pv 11)) (pv 11))) pe_int) pe_int)) (pss_cons (ps_set (i:=12) sc_law_grid.nd rfl (Or.inl rfl) (pe_op op_fdivW (pe_op op_mod (pe_op op_mul (pe_op op_add (pe_op op_fdivW (pe_op op_mod (pv 12) pe_int) pe_int) (pv 11)) pe_int) pe_int) pe_int)) (pss_one (ps_expr (pe_bm PySem.F.plainAttrs_list PySem.F.slot_list_append PySem.F.type_list_append mt_append (pv 9) (pa_cons (pe_ix ix_list (pv 5) (pe_op op_mod (pv 12) (pe_ix ix_list (pe_lstx (pax_c pe_int (pax_c pe_int (pax_c pe_int (pax_c pe_int (pax_c pe_int pax_nil)))))) (pv 4) (fun _ _=>rfl))) (fun _ _=>rfl)) pa_nil)))))))) (pss_one (ps_expr (pe_bm PySem.F.plainAttrs_list PySem.F.slot_list_append PySem.F.type_list_append mt_append (pv 6) (pa_cons (pv 9) pa_nil)))))))) (pss_one (ps_ret (pv 6)))))))),?_⟩;have cpow:CPow 1 (n:Int):=⟨by omega,by omega,by decide⟩;have ew:(1:Int) * 2 ^ ((n:Int)).toNat=((2 ^ n:Nat):Int):=by rw [Int.toNat_natCast]; simp
  have pw8:2 ^ n≤8:=Nat.le_trans (Nat.pow_le_pow_right (by decide) hn) (by decide);refine ⟨_,rfl,_,_,rfl,rfl,cpow,?_⟩;generalize 2 ^ n=W at ew pw8 q';rw [show (fun i j:Int=>V.int (i * 2 ^ j.toNat)) 1 (n:Int)=V.int ((W:Nat):Int) from congrArg V.int ew];refine ⟨_,rfl,_,rfl,a,ns,1,rfl,hS,h63,_,_,rfl,rfl,(by show (0:Int) < 5; decide),?_⟩;obtain ⟨sh,hsh,esh⟩:∃ sh:Nat,sh < 5∧cell ns 1 % 5=(sh:Int):=⟨(cell ns 1 % 5).toNat,by omega,by omega⟩;rw [show (fun i j:Int=>V.int (i % j)) (cell ns 1) 5=V.int (sh:Int) from congrArg V.int esh];refine ⟨_,rfl,_,rfl,a,ns,1,rfl,hS,h63,_,_,rfl,rfl,cdivW (by decide) (by decide),_,_,rfl,rfl,(by show (0:Int) < 36; decide),?_⟩;refine ⟨_,rfl,_,rfl,a,ns,1,rfl,hS,h63,_,_,rfl,rfl,cdivW (by decide) (by decide),_,_,rfl,rfl,(by show (0:Int) < 36; decide),(by show 4≤sizeLine; decide),fun lf hlf => ?_⟩;obtain ⟨c2,ec2,hc2⟩:∃ c2:Int,cell ns 1 / 5 % 36=c2∧(0≤c2∧c2≤35):=⟨_,rfl,by omega⟩;obtain ⟨c3,ec3,hc3⟩:∃ c3:Int,cell ns 1 / 180 % 36=c3∧(0≤c3∧c3≤35):=⟨_,rfl,by omega⟩;rw [show (fun i j:Int=>V.int (i % j)) (cell ns 1 / 5) 36=V.int c2 from congrArg V.int ec2,show (fun i j:Int=>V.int (i % j)) (cell ns 1 / 180) 36=V.int c3 from congrArg V.int ec3];have s1:=Same.new hlf (.lst [.int 0,.int 1,.int c2,.int c3]);have u1:upd H lf (.lst [.int 0,.int 1,.int c2,.int c3]) lf=some (.lst [.int 0,.int 1,.int c2,.int c3]):=upd_same;generalize upd H lf (.lst [.int 0,.int 1,.int c2,.int c3])=H1 at *;refine ⟨(by show 0≤sizeLine; decide),fun lw hlw => ?_⟩;have s2:=Same.new hlw (.lst []);have u2:=s2 _ _ u1;have w2:upd H1 lw (.lst []) lw=some (.lst []):=upd_same;generalize upd H1 lw (.lst [])=H2 at *;have hS1:=s1.seq hS;refine ⟨_,rfl,_,rfl,by omega,by omega,for_range (fun i σ H3=>Same H1 H3∧∃ (rs:List V) (o7 o8 o9 o10 o11 o12:Option V),H3 lw=some (.lst rs)∧rs.length=i∧(∀ r∈rs,RowOk H3 lw r W 0)∧σ=[some (.ref a),some (.int 1),some (.int (n:Int)),some (.int ((W:Nat):Int)),some (.int (sh:Int)),some (.ref lf),some (.ref lw),o7,o8,o9,o10,o11,o12]) ⟨s2,[],none,none,none,none,none,none,w2,rfl,fun r h=>(by cases h),rfl⟩ ?_ ?_⟩
  · rintro i σ H3 hi ⟨s3,rs,o7,o8,o9,o10,o11,o12,w3,lrs,hrs,rfl⟩;have hi':i < W:=by omega
    rw [show (0:Int) + (i:Int)=(i:Int) from Int.zero_add _];have ed:(1:Int) + 1 + (i:Int) / 2=((1 + 1 + i / 2:Nat):Int):=by omega
    refine ⟨_,rfl,_,rfl,_,_,rfl,rfl,_,rfl,_,_,rfl,rfl,cdivW (by decide) (by decide),_,_,rfl,rfl,a,ns,1 + 1 + i / 2,(by show [V.ref a,V.int ((1:Int) + 1 + (i:Int) / 2)]=_; rw [ed]),s3.seq hS1,h63,?_⟩;refine ⟨_,rfl,_,_,rfl,rfl,(by show (0:Int) < 2; decide),_,_,rfl,rfl,.inl ⟨by decide,by decide⟩,_,_,rfl,rfl,?_⟩;obtain ⟨cl,ecl⟩:∃ cl:Int,cell ns (1 + 1 + i / 2) + 7 * ((i:Int) % 2)=cl:=⟨_,rfl⟩;rw [show (fun i j:Int=>V.int (i + j)) (cell ns (1 + 1 + i / 2)) (7 * ((i:Int) % 2))=V.int cl from congrArg V.int ecl];refine ⟨(by show 0≤sizeLine; decide),fun lrw hlrw => ?_⟩;have s4:=Same.new hlrw (.lst []);have w4:upd H3 lrw (.lst []) lrw=some (.lst []):=upd_same;generalize upd H3 lrw (.lst [])=H4 at *;have nlr:lw≠lrw:=ne_of_none w3 hlrw;refine ⟨_,rfl,_,rfl,by omega,by omega,for_range (fun x σ H5=>Same H3 H5∧∃ (xs:List V) (o10 o11 o12:Option V),H5 lrw=some (.lst xs)∧xs.length=x∧(∀ x∈xs,∃ t,TrAt H5 x t∧Good 0 t∧cnt t≤4 ^ 0)∧σ=[some (.ref a),some (.int 1),some (.int (n:Int)),some (.int ((W:Nat):Int)),some (.int (sh:Int)),some (.ref lf),some (.ref lw),some (.int (i:Int)),some (.int cl),some (.ref lrw),o10,o11,o12]) ⟨s4,[],o10,o11,o12,w4,rfl,fun r h=>(by cases h),rfl⟩ ?_ ?_⟩
    · rintro x σ H5 hx ⟨s5,xs,o10,o11,o12,w5,lxs,hxs,rfl⟩;rw [show (0:Int) + (x:Int)=(x:Int) from Int.zero_add _];have pd:(0:Int) < 1 + (sh:Int) % 3:=by omega
      refine ⟨_,rfl,_,rfl,_,_,rfl,rfl,(by show (0:Int) < 3; decide),_,_,rfl,rfl,_,_,rfl,rfl,cdivW pd (by show 1 + (sh:Int) % 3 < _; omega),?_⟩;obtain ⟨kk,hkk,ekk⟩:∃ kk:Int,(0≤kk∧kk≤8)∧(x:Int) / (1 + (sh:Int) % 3)=kk:=by
        refine ⟨_,⟨Int.ediv_nonneg (by omega) (by omega),?_⟩,rfl⟩;exact Int.le_trans (Int.ediv_le_self _ (by omega)) (by omega)
      rw [show (fun i j:Int=>V.int (i / j)) (x:Int) ((fun i j:Int=>i + j) 1 ((sh:Int) % 3))=V.int kk from congrArg V.int ekk];refine ⟨_,rfl,_,_,rfl,rfl,(by show (0:Int) < 999983; decide),_,rfl,_,_,rfl,rfl,.inl ⟨by decide,by decide⟩,_,_,rfl,rfl,_,rfl,_,_,rfl,rfl,.inl ⟨by decide,by decide⟩,_,rfl,_,_,rfl,rfl,.inr ⟨by omega,by omega⟩,_,_,rfl,rfl,_,_,rfl,rfl,_,_,rfl,rfl,.inr ⟨by decide,by decide⟩,?_⟩;dsimp only;generalize (cl % 999983 + 31 * kk + 7 * kk * kk + 3) * 48271=val0;refine ⟨_,rfl,_,_,rfl,rfl,(by show (0:Int) < 2147483647; decide),_,_,rfl,rfl,cdivW (by decide) (by decide),_,rfl,_,_,rfl,rfl,_,_,rfl,rfl,.inr ⟨by decide,by decide⟩,_,_,rfl,rfl,(by show (0:Int) < 2147483629; decide),_,_,rfl,rfl,cdivW (by decide) (by decide),?_⟩;dsimp only;generalize ((val0 % 2147483647 / 7 + kk) * 69621 % 2147483629) / 11=val;obtain ⟨m,em,hm0,hm4⟩:=few_ix sh hsh;refine ⟨_,rfl,.inl ⟨rfl,_,SqL.of w5⟩,_,rfl,_,rfl,(by show 5≤sizeLine; decide),fun l5 hl5 => ?_⟩;have s6:=Same.new hl5 (.lst [.int 2,.int 2,.int 3,.int 4,.int 4]);have u6:upd H5 l5 (.lst [.int 2,.int 2,.int 3,.int 4,.int 4]) l5=some (.lst [.int 2,.int 2,.int 3,.int 4,.int 4]):=upd_same;have w6:=s6 _ _ w5;generalize upd H5 l5 (.lst [.int 2,.int 2,.int 3,.int 4,.int 4])=H6 at *;have s36:=s5.trans s6;have pm:(0:Int) < (m:Int):=by omega
      refine ⟨_,rfl,l5,_,_,_,rfl,rfl,SqL.of u6,em,_,_,rfl,rfl,pm,?_⟩;obtain ⟨d,hd,ed⟩:∃ d:Nat,d < 4∧val % (m:Int)=(d:Int):=by
        have h1:=Int.emod_nonneg val (show (m:Int)≠0 by omega);have h2:=Int.emod_lt_of_pos val pm;exact ⟨(val % (m:Int)).toNat,by omega,by omega⟩
      have key:∃ c:Int,atI [V.int 0,V.int 1,V.int c2,V.int c3] (d:Int)=some (.int c)∧(0≤c∧c≤35):=by
        rcases d with _ | _ | _ | _ | d
        · exact ⟨0,rfl,by decide,by decide⟩
        · exact ⟨1,rfl,by decide,by decide⟩
        · exact ⟨c2,rfl,hc2⟩
        · exact ⟨c3,rfl,hc3⟩
        · omega
      obtain ⟨c,ec,hc⟩:=key;have tl:=Tups.lst (ys:=xs++[V.int c]) w6;refine ⟨lf,_,_,.int c,rfl,rfl,SqL.of ((s3.trans s36) _ _ u1),by rw [ed]; exact ec,lrw,xs,_,rfl,rfl,w6,small1000 (by omega),Same.set s36 hlrw _,xs++[V.int c],_,_,_,upd_same,by rw [List.length_append,lxs]; rfl,fun y hy => ?_,rfl⟩;rcases List.mem_append.mp hy with hy | hy
      · obtain ⟨t,h1,h2⟩:=hxs y hy;exact ⟨t,h1.up (s6.tups.trans tl),h2⟩
      · rw [List.mem_singleton.mp hy];exact ⟨.col c,.col c,Good.col hc,Nat.le_refl _⟩
    · rintro σ H5 ⟨s5,xs,o10',o11',o12',w5,lxs,hxs,rfl⟩;have w5':=s5 _ _ w3;refine ⟨_,rfl,.inl ⟨rfl,_,SqL.of w5'⟩,_,rfl,lw,rs,_,rfl,rfl,w5',small1000 (by omega),Same.set (s3.trans s5) hlw _,rs++[V.ref lrw],_,_,_,_,_,_,upd_same,by rw [List.length_append,lrs]; rfl,fun r hr => ?_,rfl⟩;rcases List.mem_append.mp hr with hr | hr
      · exact ((hrs r hr).up s5).set w5'
      · rw [List.mem_singleton.mp hr];exact RowOk.set ⟨lrw,xs,rfl,nlr.symm,w5,by omega,hxs⟩ w5'
  · rintro σ H3 ⟨s3,rs,o7,o8,o9,o10,o11,o12,w3,lrs,hrs,rfl⟩;exact ⟨_,rfl,q' lw H3 (s1.trans s3) ⟨rs,w3,by omega,hrs⟩⟩
abbrev s_law_tree_of_rows:Stmt:=top 44
theorem sc_law_tree_of_rows:FnScope ["_law_rows","_law_above","_law_y","_law_row","_law_x","_law_some"] ["_law_rows"] (defScope s_law_tree_of_rows):=⟨rfl,rfl,rfl,by decide +kernel,rfl,by decide +kernel,by decide +kernel⟩
def sp_law_tree_of_rows:Sp:=fun vs H Q _=>∃ (l:Addr) (n:Nat),vs=[.ref l]∧RowsAt H l (2 ^ n) 0∧n≤3∧∀ v t H',Same H H'→TrAt H' v t→Good n t→cnt t≤4 ^ n→Q v H'
theorem ok_law_tree_of_rows (T:Tx K mg) (q:Quiet CX) (F:FunD K "_law_tree_of_rows" "_law_tree_of_rows" s_law_tree_of_rows f fd .none) (C__law_tree_of:Fok P w K mg base CX 1 "_law_tree_of" ["_law_a","_law_b","_law_c","_law_d"] [] sp_law_tree_of):FnOk P w K mg base CX 2 f fd ["_law_rows"] sp_law_tree_of_rows:=by
  refine F.ok sc_law_tree_of_rows (fun vs H Q E h => ?_) (fun cdv A outer s H vs Q E hr h => ?_)
  · obtain ⟨_,_,rfl,_⟩:=h;rfl
  obtain ⟨l0,n,rfl,hR0,hn,q'⟩:=h;refine ⟨_,(pss_cons (ps_while PassesOwn.never (pt_cmpR op_gt (pe_callB call_len rfl T.b_len bb_len (pa_cons (pv 0) pa_nil)) pe_int (nomark _)) (pss_cons (ps_set (i:=1) sc_law_tree_of_rows.nd rfl (Or.inl rfl) (pe_lstx pax_nil)) (pss_cons (ps_for PassesOwn.never rfl (pi_range3 rfl T.b_range (pa_cons pe_int (pa_cons (pe_callB call_len rfl T.b_len bb_len (pa_cons (pv 0) pa_nil)) (pa_cons pe_int pa_nil)))) (pg_name (i:=2) sc_law_tree_of_rows.nd rfl (Or.inl rfl)) (pss_cons (ps_set (i:=3) sc_law_tree_of_rows.nd rfl (Or.inl rfl) (pe_lstx pax_nil)) (pss_cons (ps_for PassesOwn.never rfl (pi_range3 rfl T.b_range (pa_cons pe_int (pa_cons (pe_callB call_len rfl T.b_len bb_len (pa_cons (pv 0) pa_nil)) (pa_cons pe_int pa_nil)))) (pg_name (i:=4) sc_law_tree_of_rows.nd rfl (Or.inl rfl)) (pss_cons (ps_set (i:=5) sc_law_tree_of_rows.nd rfl (Or.inl rfl) (pe_op op_cat (pe_slice sl_list (pe_ix ix_list (pv 0) (pv 2) (fun _ _=>rfl)) (po_some (pv 4)) (po_some (pe_op op_add (pv 4) pe_int))) (pe_slice sl_list (pe_ix ix_list (pv 0) (pe_op op_add (pv 2) pe_int) (fun _ _=>rfl)) (po_some (pv 4)) (po_some (pe_op op_add (pv 4) pe_int))))) (pss_one (ps_expr (pe_bm PySem.F.plainAttrs_list PySem.F.slot_list_append PySem.F.type_list_append mt_append (pv 3) (pa_cons (pe_callF C__law_tree_of q hr (pa_cons (pe_ix ix_list (pv 5) pe_int (fun _ _=>rfl)) (pa_cons (pe_ix ix_list (pv 5) pe_int (fun _ _=>rfl)) (pa_cons (pe_ix ix_list (pv 5) pe_int (fun _ _=>rfl)) (pa_cons (pe_ix ix_list (pv 5) pe_int (fun _ _=>rfl)) pa_nil))))) pa_nil)))))) (pss_one (ps_expr (pe_bm PySem.F.plainAttrs_list PySem.F.slot_list_append PySem.F.type_list_append mt_append (pv 1) (pa_cons (pv 3) pa_nil))))))) (pss_one (ps_set (i:=0) sc_law_tree_of_rows.nd rfl (Or.inl rfl) (pv 1)))))) (pss_one (ps_ret (pe_ix ix_list (pe_ix ix_list (pv 0) pe_int (fun _ _=>rfl)) pe_int (fun _ _=>rfl))))),?_⟩;refine while_by (fun σ H2=>Same H H2∧∃ (l:Addr) (k j:Nat) (o1 o2 o3 o4 o5:Option V),RowsAt H2 l (2 ^ k) j∧j + k=n∧σ=[some (.ref l),o1,o2,o3,o4,o5]) (fun σ H2=>match σ with | some (.ref l)::_=>(match H2 l with | some (.lst rs)=>rs.length | _=>0) | _=>0) ⟨Same.refl H,l0,n,0,none,none,none,none,none,hR0,by omega,rfl⟩ ?_ ?_
  · rintro σ H2 ⟨s2,l,k,j,o1,o2,o3,o4,o5,hR,hjk,rfl⟩;obtain ⟨rs,hl,lrs,hrs⟩:=id hR;have p8:2 ^ k≤8:=Nat.le_trans (Nat.pow_le_pow_right (by decide) (show k≤3 by omega)) (by decide);refine ⟨_,rfl,_,_,rfl,.inl ⟨_,SqL.of hl,rfl⟩,_,_,rfl,rfl,_,rfl,ite2 (fun hc => ?_) (fun hc => ?_)⟩
    · have hc':(1:Int) < ((rs.length:Nat):Int):=of_decide_eq_true hc;obtain ⟨k,rfl⟩:∃ k',k=k' + 1:=by
        rcases k with _ | k
        · have e1:rs.length=1:=lrs;omega
        · exact ⟨k,rfl⟩
      have e2:2 ^ (k + 1)=2 * 2 ^ k:=by rw [Nat.pow_succ]; omega
      obtain ⟨sm,sz⟩:=rng2 k (by omega);have get:∀ a b,a < 2 ^ (k + 1)→b + 1 < 2 ^ (k + 1)→∃ lr xs v t v' t',rs[a]? = some (V.ref lr)∧H2 lr=some (.lst xs)∧xs[b]? = some v∧xs[b + 1]? = some v'∧(TrAt H2 v t∧Good j t∧cnt t≤4 ^ j)∧(TrAt H2 v' t'∧Good j t'∧cnt t'≤4 ^ j):=fun a b ha hb=>by
        obtain ⟨r,er⟩:∃ r,rs[a]? = some r:=⟨_,List.getElem?_eq_getElem (by omega)⟩;obtain ⟨lr,xs,rfl,_,h1,h2,h3⟩:=hrs r (List.mem_of_getElem? er);obtain ⟨v,ev⟩:∃ v,xs[b]? = some v:=⟨_,List.getElem?_eq_getElem (by omega)⟩;obtain ⟨v',ev'⟩:∃ v',xs[b + 1]? = some v':=⟨_,List.getElem?_eq_getElem (by omega)⟩;obtain ⟨t,h4⟩:=h3 v (List.mem_of_getElem? ev);obtain ⟨t',h5⟩:=h3 v' (List.mem_of_getElem? ev');exact ⟨lr,xs,v,t,v',t',er,h1,ev,ev',h4,h5⟩
      refine ⟨(by show 0≤sizeLine; decide),fun la hla => ?_⟩;have s3:=Same.new hla (.lst []);have w3:upd H2 la (.lst []) la=some (.lst []):=upd_same;generalize upd H2 la (.lst [])=H3 at *;have el:((rs.length:Nat):Int)=((2 ^ (k + 1):Nat):Int):=by rw [lrs]
      refine ⟨_,rfl,_,_,rfl,.inl ⟨_,SqL.of (s3 _ _ hl),rfl⟩,0,((2 ^ (k + 1):Nat):Int),2,2 ^ k,(by show [V.int 0,V.int ((rs.length:Nat):Int),V.int 2]=_; rw [el]),by decide,by decide,sm,sz,for_gen (fun i σ H4=>Same H2 H4∧∃ (as:List V) (o2 o3 o4 o5:Option V),H4 la=some (.lst as)∧as.length=i∧(∀ r∈as,RowOk H4 la r (2 ^ k) (j + 1))∧σ=[some (.ref l),some (.ref la),o2,o3,o4,o5]) ⟨s3,[],o2,o3,o4,o5,w3,rfl,fun r h=>(by cases h),rfl⟩ ?_ ?_⟩
      · rintro i σ H4 hi ⟨s4,as,o2,o3,o4,o5,w4,las,has,rfl⟩;refine ⟨(by show 0≤sizeLine; decide),fun lrw hlrw => ?_⟩;have s5:=Same.new hlrw (.lst []);have w5:upd H4 lrw (.lst []) lrw=some (.lst []):=upd_same;generalize upd H4 lrw (.lst [])=H5 at *;have nla:la≠lrw:=ne_of_none w4 hlrw;refine ⟨_,rfl,_,_,rfl,.inl ⟨_,SqL.of ((s4.trans s5) _ _ hl),rfl⟩,0,((2 ^ (k + 1):Nat):Int),2,2 ^ k,(by show [V.int 0,V.int ((rs.length:Nat):Int),V.int 2]=_; rw [el]),by decide,by decide,sm,sz,for_gen (fun x σ H6=>Same H4 H6∧∃ (xs:List V) (o4 o5:Option V),H6 lrw=some (.lst xs)∧xs.length=x∧(∀ v∈xs,∃ t,TrAt H6 v t∧Good (j + 1) t∧cnt t≤4 ^ (j + 1))∧σ=[some (.ref l),some (.ref la),some (.int (0 + (i:Int) * 2)),some (.ref lrw),o4,o5]) ⟨s5,[],o4,o5,w5,rfl,fun r h=>(by cases h),rfl⟩ ?_ ?_⟩
        · rintro x σ H6 hx ⟨s6,xs,o4,o5,w6,lxs,hxs,rfl⟩;have s26:=s4.trans s6;obtain ⟨l0,x0,va,ta,vb,tb,ea,ua,fa,fb,⟨ka,ga,ca⟩,⟨kb,gb,cb⟩⟩:=get (2 * i) (2 * x) (by omega) (by omega);obtain ⟨l2,x2,vc,tc,vd,td,ec,uc,fc,fd',⟨kc,gc,cc⟩,⟨kd,gd,cd⟩⟩:=get (2 * i + 1) (2 * x) (by omega) (by omega);have iy:(0:Int) + (i:Int) * 2=((2 * i:Nat):Int):=by omega
          have iy1:(0:Int) + (i:Int) * 2 + 1=((2 * i + 1:Nat):Int):=by omega
          have ix:(0:Int) + (x:Int) * 2=((2 * x:Nat):Int):=by omega
          have ix1:(0:Int) + (x:Int) * 2 + 2=((2 * x + 2:Nat):Int):=by omega
          have da:=ga.deep;have db:=gb.deep;have dc:=gc.deep;have dd:=gd.deep;have sl:=SqL.of (K:=K) (s26 _ _ hl);have cu:cutV x0 (some ((0:Int) + (x:Int) * 2)) (some ((0:Int) + (x:Int) * 2 + 2))=[va,vb]:=by rw [ix1,ix]; exact cut2 fa fb
          have cv:cutV x2 (some ((0:Int) + (x:Int) * 2)) (some ((0:Int) + (x:Int) * 2 + 2))=[vc,vd]:=by rw [ix1,ix]; exact cut2 fc fd'
          refine ⟨_,rfl,_,rfl,l,_,_,.ref l0,rfl,rfl,sl,(by rw [iy]; exact atI_nat ea),_,rfl,_,rfl,_,rfl,_,_,rfl,rfl,_,rfl,l0,x0,rfl,SqL.of (s26 _ _ ua),fun p1 hp1 => ?_⟩;rw [cu];have sa:=Same.new hp1 (.lst [va,vb]);have ub:upd H6 p1 (.lst [va,vb]) p1=some (.lst [va,vb]):=upd_same;generalize upd H6 p1 (.lst [va,vb])=HA at *;have s2a:=s26.trans sa;refine ⟨_,rfl,_,rfl,_,_,rfl,rfl,l,_,_,.ref l2,rfl,rfl,SqL.of (s2a _ _ hl),(by rw [iy1]; exact atI_nat ec),_,rfl,_,rfl,_,rfl,_,_,rfl,rfl,_,rfl,l2,x2,rfl,SqL.of (s2a _ _ uc),fun p2 hp2 => ?_⟩;rw [cv];have sb:=Same.new hp2 (.lst [vc,vd]);have ud:upd HA p2 (.lst [vc,vd]) p2=some (.lst [vc,vd]):=upd_same;have ub2:=sb _ _ ub;generalize upd HA p2 (.lst [vc,vd])=HB at *;refine ⟨p1,p2,_,_,rfl,rfl,ub2,ud,(by show 4≤sizeLine; decide),fun p3 hp3 => ?_⟩;have sc:=Same.new hp3 (.lst ([va,vb]++[vc,vd]));have ue:upd HB p3 (.lst ([va,vb]++[vc,vd])) p3=some (.lst [va,vb,vc,vd]):=upd_same;generalize upd HB p3 (.lst ([va,vb]++[vc,vd]))=HC at *;have s6c:=sa.trans (sb.trans sc);have s2c:=s26.trans s6c;have w6:=s6c _ _ w6;have ls4:=SqL.of (K:=K) ue;refine ⟨_,rfl,.inl ⟨rfl,_,SqL.of w6⟩,_,rfl,p3,_,_,va,rfl,rfl,ls4,atI_nat (j:=0) rfl,_,rfl,p3,_,_,vb,rfl,rfl,ls4,atI_nat (j:=1) rfl,_,rfl,p3,_,_,vc,rfl,rfl,ls4,atI_nat (j:=2) rfl,_,rfl,p3,_,_,vd,rfl,rfl,ls4,atI_nat (j:=3) rfl,?_⟩
          replace s6:=s6.trans s6c
          replace s26:=s2c
          replace hxs:∀ v∈xs,∃ t,TrAt HC v t∧Good (j + 1) t∧cnt t≤4 ^ (j + 1):=fun v hv=>by
            obtain ⟨t,h1,h2⟩:=hxs v hv;exact ⟨t,h1.up s6c.tups,h2⟩
          refine ⟨va,vb,vc,vd,ta,tb,tc,td,rfl,ka.up s26.tups,kb.up s26.tups,kc.up s26.tups,kd.up s26.tups,⟨by omega,by omega,by omega,by omega⟩,fun v' H7 s7 hv' => ?_⟩;have w7:=s7 _ _ w6;have tl:=Tups.lst (ys:=xs++[v']) w7;refine ⟨lrw,xs,_,rfl,rfl,w7,small1000 (by omega),Same.set (s6.trans s7) hlrw _,xs++[v'],_,_,upd_same,by rw [List.length_append,lxs]; rfl,fun y hy => ?_,rfl⟩;rcases List.mem_append.mp hy with hy | hy
          · obtain ⟨t,h1,h2⟩:=hxs y hy;exact ⟨t,h1.up (s7.tups.trans tl),h2⟩
          · rw [List.mem_singleton.mp hy];have cg:=cnt_gath ta tb tc td;exact ⟨_,hv'.up tl,good_gath ga gb gc gd,by rw [Nat.pow_succ]; omega⟩
        · rintro σ H6 ⟨s6,xs,o4',o5',w6,lxs,hxs,rfl⟩;have w6':=s6 _ _ w4;refine ⟨_,rfl,.inl ⟨rfl,_,SqL.of w6'⟩,_,rfl,la,as,_,rfl,rfl,w6',small1000 (by omega),Same.set (s4.trans s6) hla _,as++[V.ref lrw],_,_,_,_,upd_same,by rw [List.length_append,las]; rfl,fun r hr => ?_,rfl⟩;rcases List.mem_append.mp hr with hr | hr
          · exact ((has r hr).up s6).set w6'
          · rw [List.mem_singleton.mp hr];exact RowOk.set ⟨lrw,xs,rfl,nla.symm,w6,by omega,hxs⟩ w6'
      · rintro σ H4 ⟨s4,as,o2,o3,o4,o5,w4,las,has,rfl⟩;refine ⟨_,rfl,⟨s2.trans s4,la,k,j + 1,_,_,_,_,_,⟨as,w4,las,has⟩,by omega,rfl⟩,?_⟩;show (match H4 la with | some (.lst rs)=>rs.length | _=>0) < (match H2 l with | some (.lst rs)=>rs.length | _=>0);rw [w4,hl];show as.length < rs.length;omega
    · have hc':¬ (1:Int) < ((rs.length:Nat):Int):=fun z=>hc (decide_eq_true z);have k0:k=0:=by
        rcases k with _ | k
        · rfl
        · have:2≤2 ^ (k + 1):=by rw [Nat.pow_succ]; have:=Nat.two_pow_pos k; omega
          omega
      subst k0;obtain ⟨r,er⟩:∃ r,rs[0]? = some r:=⟨_,List.getElem?_eq_getElem (by rw [lrs]; decide)⟩;obtain ⟨lr,xs,rfl,_,h1,h2,h3⟩:=hrs r (List.mem_of_getElem? er);obtain ⟨v,ev⟩:∃ v,xs[0]? = some v:=⟨_,List.getElem?_eq_getElem (by rw [h2]; decide)⟩;obtain ⟨t,h4,h5,h6⟩:=h3 v (List.mem_of_getElem? ev);have ej:j=n:=by omega
      subst ej;exact ⟨_,rfl,l,_,_,.ref lr,rfl,rfl,SqL.of hl,atI_nat er,lr,_,_,v,rfl,rfl,SqL.of h1,atI_nat ev,q' v t H2 s2 h4 h5 h6⟩
  · rintro σ H' Q1 Q2 hq ⟨a1,e1,a2,a3,e2,e3,a4,a5,e4,e5,b,e6,h⟩;exact ⟨a1,e1,a2,a3,e2,e3,a4,a5,e4,e5,b,e6,hq _ _ h⟩
end
end Qs


namespace Qs
open PySem L2
theorem many_ix:∀ k:Nat,k < 4→∃ m:Nat,atI [V.int 2,V.int 3,V.int 4,V.int 36] (k:Int)=some (V.int (m:Int))∧0 < m∧m≤36:=by
  intro k hk;rcases k with _ | _ | _ | _ | k
  · exact ⟨2,rfl,by decide,by decide⟩
  · exact ⟨3,rfl,by decide,by decide⟩
  · exact ⟨4,rfl,by decide,by decide⟩
  · exact ⟨36,rfl,by decide,by decide⟩
  · omega
theorem three_ix (a b:Bool):∃ m:Nat,atI [V.int 5,V.int 2,V.int 1] ((if a=true then (1:Int) else 0) + (if b=true then (1:Int) else 0))=some (V.int (m:Int))∧m≤5:=by
  cases a <;> cases b
  · exact ⟨5,rfl,by decide⟩
  · exact ⟨2,rfl,by decide⟩
  · exact ⟨2,rfl,by decide⟩
  · exact ⟨1,rfl,by decide⟩
section
variable {P:Program} {w:World} {K:PySem.W.Frag} {mg:Str→Option Value} {base:Heap} {CX:CXT} {f:Addr} {fd:FuncData}
abbrev s_law_sheet_by_digits:Stmt:=top 45
theorem sc_law_sheet_by_digits:FnScope ["_law_cell","_law_rest","_law_level","_law_many","_law_base","_law_rows","_law_y","_law_row","_law_x","_law_paints_here","_law_k","_law_code_here","_law_size","_law_colour_here","_law_j"] ["_law_cell"] (defScope s_law_sheet_by_digits):=⟨rfl,rfl,rfl,by decide +kernel,rfl,by decide +kernel,by decide +kernel⟩
def sp_sheet_digits:Sp:=fun vs H Q _=>∃ c:Int,vs=[.int c]∧∀ v n t H',Same H H'→ShAt H' v ((n:Nat):Int) t→n≤40→Good n t→cnt t≤1500→Q v H'
theorem ok_law_sheet_by_digits (T:Tx K mg) (q:Quiet CX) (F:FunD K "_law_sheet_by_digits" "_law_sheet_by_digits" s_law_sheet_by_digits f fd .none) (C__law_tree_of_rows:Fok P w K mg base CX 2 "_law_tree_of_rows" ["_law_rows"] [] sp_law_tree_of_rows) (C__law_tree_by:Fok P w K mg base CX 43 "_law_tree_by" ["_law_paints_here"] [] (sp_law_tree_by 41)):FnOk P w K mg base CX 44 f fd ["_law_cell"] sp_sheet_digits:=by
  refine F.ok sc_law_sheet_by_digits (fun vs H Q E h => ?_) (fun cdv A outer s H vs Q E hr h => ?_)
  · obtain ⟨_,rfl,_⟩:=h;rfl
  obtain ⟨c,rfl,q'⟩:=h;refine ⟨_,(pss_cons (ps_set (i:=1) sc_law_sheet_by_digits.nd rfl (Or.inl rfl) (pe_op op_fdivW (pv 0) pe_int)) (pss_cons (ps_if (pt_cmpR op_eq (pe_op op_mod (pv 0) pe_int) pe_int (nomark _)) (pss_cons (ps_set (i:=2) sc_law_sheet_by_digits.nd rfl (Or.inl rfl) (pe_op op_mod (pv 1) pe_int)) (pss_cons (ps_set (i:=3) sc_law_sheet_by_digits.nd rfl (Or.inl rfl) (pe_ix ix_tup (pe_tupx (pax_c pe_int (pax_c pe_int (pax_c pe_int (pax_c pe_int pax_nil))))) (pe_op op_mod (pe_op op_fdivW (pv 1) pe_int) pe_int) (fun _ _=>rfl))) (pss_cons (ps_set (i:=4) sc_law_sheet_by_digits.nd rfl (Or.inl rfl) (pe_op op_mod (pe_op op_fdivW (pv 1) pe_int) pe_int)) (pss_cons (ps_set (i:=1) sc_law_sheet_by_digits.nd rfl (Or.inl rfl) (pe_op op_fdivW (pv 1) pe_int)) (pss_cons (ps_set (i:=5) sc_law_sheet_by_digits.nd rfl (Or.inl rfl) (pe_lstx pax_nil)) (pss_cons (ps_for PassesOwn.never rfl (pi_range1 rfl T.b_range (pa_cons (pe_op op_shl pe_int (pv 2)) pa_nil)) (pg_name (i:=6) sc_law_sheet_by_digits.nd rfl (Or.inl rfl)) (pss_cons (ps_set (i:=7) sc_law_sheet_by_digits.nd rfl (Or.inl rfl) (pe_lstx pax_nil)) (pss_cons (ps_for PassesOwn.never rfl (pi_range1 rfl T.b_range (pa_cons (pe_op op_shl pe_int (pv 2)) pa_nil)) (pg_name (i:=8) sc_law_sheet_by_digits.nd rfl (Or.inl rfl)) (pss_cons (ps_expr (pe_bm PySem.F.plainAttrs_list PySem.F.slot_list_append PySem.F.type_list_append mt_append (pv 7) (pa_cons (pe_op op_mod (pe_op op_add (pv 4) (pe_op op_mod (pv 1) (pv 3))) pe_int) pa_nil))) (pss_one (ps_set (i:=1) sc_law_sheet_by_digits.nd rfl (Or.inl rfl) (pe_op op_fdivW (pv 1) (pv 3)))))) (pss_one (ps_expr (pe_bm PySem.F.plainAttrs_list PySem.F.slot_list_append PySem.F.type_list_append mt_append (pv 5) (pa_cons (pv 7) pa_nil))))))) (pss_one (ps_ret (pe_tupx (pax_c (pv 2) (pax_c (pe_callF C__law_tree_of_rows q hr (pa_cons (pv 5) pa_nil)) pax_nil))))))))))) pss_nil) (pss_cons (ps_set (i:=2) sc_law_sheet_by_digits.nd rfl (Or.inl rfl) (pe_op op_mod (pv 1) pe_int)) (pss_cons (ps_set (i:=4) sc_law_sheet_by_digits.nd rfl (Or.inl rfl) (pe_op op_mod (pe_op op_fdivW (pv 1) pe_int) pe_int)) (pss_cons (ps_set (i:=1) sc_law_sheet_by_digits.nd rfl (Or.inl rfl) (pe_op op_fdivW (pv 1) pe_int)) (pss_cons (ps_set (i:=9) sc_law_sheet_by_digits.nd rfl (Or.inl rfl) (pe_lstx (pax_c (pe_tupx (pax_c pe_str (pax_c (pv 4) pax_nil))) pax_nil))) (pss_cons (ps_for PassesOwn.never rfl (pi_range1 rfl T.b_range (pa_cons (pe_ix ix_list (pe_lstx (pax_c pe_int (pax_c pe_int (pax_c pe_int pax_nil)))) (pe_op op_add (pe_callTy call_int1 rfl T.b_int bt_int (pa_cons (pe_cmpR op_gt (pv 2) pe_int (nomark _)) pa_nil)) (pe_callTy call_int1 rfl T.b_int bt_int (pa_cons (pe_cmpR op_gt (pv 2) pe_int (nomark _)) pa_nil))) (fun _ _=>rfl)) pa_nil)) (pg_name (i:=10) sc_law_sheet_by_digits.nd rfl (Or.inl rfl)) (pss_cons (ps_set (i:=11) sc_law_sheet_by_digits.nd rfl (Or.inl rfl) pe_str) (pss_cons (ps_set (i:=12) sc_law_sheet_by_digits.nd rfl (Or.inl rfl) (pe_op op_mod (pv 1) (pe_op op_add (pv 2) pe_int))) (pss_cons (ps_set (i:=13) sc_law_sheet_by_digits.nd rfl (Or.inl rfl) (pe_op op_mod (pe_op op_fdivW (pv 1) (pe_op op_add (pv 2) pe_int)) pe_int)) (pss_cons (ps_set (i:=1) sc_law_sheet_by_digits.nd rfl (Or.inl rfl) (pe_op op_fdivW (pv 1) (pe_op op_add (pe_op op_mul pe_int (pv 2)) pe_int))) (pss_cons (ps_for PassesOwn.never rfl (pi_range1 rfl T.b_range (pa_cons (pv 12) pa_nil)) (pg_name (i:=14) sc_law_sheet_by_digits.nd rfl (Or.inl rfl)) (pss_cons (ps_set (i:=11) sc_law_sheet_by_digits.nd rfl (Or.inl rfl) (pe_op op_add_str (pv 11) (pe_ix ix_str pe_str (pe_op op_mod (pv 1) pe_int) (fun _ _=>rfl)))) (pss_one (ps_set (i:=1) sc_law_sheet_by_digits.nd rfl (Or.inl rfl) (pe_op op_fdivW (pv 1) pe_int))))) (pss_one (ps_expr (pe_bm PySem.F.plainAttrs_list PySem.F.slot_list_append PySem.F.type_list_append mt_append (pv 9) (pa_cons (pe_tupx (pax_c (pv 11) (pax_c (pv 13) pax_nil))) pa_nil)))))))))) (pss_one (ps_ret (pe_tupx (pax_c (pv 2) (pax_c (pe_callF C__law_tree_by q hr (pa_cons (pv 9) pa_nil)) pax_nil)))))))))))),?_⟩;have two:2≤sizeLine:=by decide
  refine ⟨_,rfl,_,_,rfl,rfl,cdivW (by decide) (by decide),?_⟩;dsimp only;generalize c / 2=r;refine ⟨_,rfl,_,_,rfl,rfl,(by show (0:Int) < 2; decide),rfl,_,rfl,ite2 (fun _ => ?_) (fun _ => ?_)⟩
  · obtain ⟨n,hn,en⟩:∃ n:Nat,n≤3∧r % 4=(n:Int):=⟨(r % 4).toNat,by omega,by omega⟩;refine ⟨_,rfl,_,_,rfl,rfl,(by show (0:Int) < 4; decide),?_⟩;rw [show (fun i j:Int=>V.int (i % j)) r 4=V.int (n:Int) from congrArg V.int en];refine ⟨(by show 4≤sizeLine; decide),fun p0 hp0 => ?_⟩;have s1:=Same.new hp0 (.tup [.int 2,.int 3,.int 4,.int 36]);have u1:upd H p0 (.tup [.int 2,.int 3,.int 4,.int 36]) p0=some (.tup [.int 2,.int 3,.int 4,.int 36]):=upd_same;generalize upd H p0 (.tup [.int 2,.int 3,.int 4,.int 36])=H1 at *;obtain ⟨k,hk,ek⟩:∃ k:Nat,k < 4∧r / 4 % 4=(k:Int):=⟨(r / 4 % 4).toNat,by omega,by omega⟩;obtain ⟨m,em,hm0,hm⟩:=many_ix k hk;refine ⟨_,rfl,_,_,rfl,rfl,cdivW (by decide) (by decide),_,_,rfl,rfl,(by show (0:Int) < 4; decide),p0,_,_,.int (m:Int),rfl,rfl,SqT.of u1,(by rw [ek]; exact em),?_⟩;obtain ⟨b0,eb0,hb0⟩:∃ b0:Int,r / 16 % 36=b0∧(0≤b0∧b0≤35):=⟨_,rfl,by omega⟩;refine ⟨_,rfl,_,_,rfl,rfl,cdivW (by decide) (by decide),_,_,rfl,rfl,(by show (0:Int) < 36; decide),?_⟩;rw [show (fun i j:Int=>V.int (i % j)) (r / 16) 36=V.int b0 from congrArg V.int eb0];refine ⟨_,rfl,_,_,rfl,rfl,cdivW (by decide) (by decide),?_⟩;dsimp only;generalize r / 576=r2;refine ⟨(by show 0≤sizeLine; decide),fun lw hlw => ?_⟩;have s2:=Same.new hlw (.lst []);have w2:upd H1 lw (.lst []) lw=some (.lst []):=upd_same;generalize upd H1 lw (.lst [])=H2 at *;have cpow:CPow 1 (n:Int):=⟨by omega,by omega,by decide⟩;have ew:(1:Int) * 2 ^ ((n:Int)).toNat=((2 ^ n:Nat):Int):=by rw [Int.toNat_natCast]; simp
    have pw8:2 ^ n≤8:=Nat.le_trans (Nat.pow_le_pow_right (by decide) hn) (by decide);have c64:4 ^ n≤64:=Nat.le_trans (Nat.pow_le_pow_right (by decide) hn) (by decide);obtain ⟨W,eW⟩:∃ W,W=2 ^ n:=⟨_,rfl⟩;rw [← eW] at ew pw8;refine ⟨_,rfl,_,_,rfl,rfl,cpow,(W:Int),(by show [V.int (1 * 2 ^ ((n:Int)).toNat)]=_; rw [ew]),by omega,by omega,for_range (fun i σ H3=>Same H1 H3∧∃ (rs:List V) (rest:Int) (o6 o7 o8:Option V),H3 lw=some (.lst rs)∧rs.length=i∧(∀ r∈rs,RowOk H3 lw r W 0)∧σ=[some (.int c),some (.int rest),some (.int (n:Int)),some (.int (m:Int)),some (.int b0),some (.ref lw),o6,o7,o8,none,none,none,none,none,none]) ⟨s2,[],r2,none,none,none,w2,rfl,fun r h=>(by cases h),rfl⟩ ?_ ?_⟩
    · rintro i σ H3 hi ⟨s3,rs,rest,o6,o7,o8,w3,lrs,hrs,rfl⟩;refine ⟨(by show 0≤sizeLine; decide),fun lrw hlrw => ?_⟩;have s4:=Same.new hlrw (.lst []);have w4:upd H3 lrw (.lst []) lrw=some (.lst []):=upd_same;generalize upd H3 lrw (.lst [])=H4 at *;have nlr:lw≠lrw:=ne_of_none w3 hlrw;refine ⟨_,rfl,_,_,rfl,rfl,cpow,(W:Int),(by show [V.int (1 * 2 ^ ((n:Int)).toNat)]=_; rw [ew]),by omega,by omega,for_range (fun x σ H5=>Same H3 H5∧∃ (xs:List V) (rest:Int) (o8:Option V),H5 lrw=some (.lst xs)∧xs.length=x∧(∀ x∈xs,∃ t,TrAt H5 x t∧Good 0 t∧cnt t≤4 ^ 0)∧σ=[some (.int c),some (.int rest),some (.int (n:Int)),some (.int (m:Int)),some (.int b0),some (.ref lw),some (.int (0 + (i:Int))),some (.ref lrw),o8,none,none,none,none,none,none]) ⟨s4,[],rest,o8,w4,rfl,fun r h=>(by cases h),rfl⟩ ?_ ?_⟩
      · rintro x σ H5 hx ⟨s5,xs,rest,o8,w5,lxs,hxs,rfl⟩;have pm:(0:Int) < (m:Int):=by omega
        refine ⟨_,rfl,.inl ⟨rfl,_,SqL.of w5⟩,_,rfl,_,rfl,_,rfl,_,_,rfl,rfl,pm,_,_,rfl,rfl,_,_,rfl,rfl,(by show (0:Int) < 36; decide),?_⟩;obtain ⟨cc,ecc,hcc⟩:∃ cc:Int,(b0 + rest % (m:Int)) % 36=cc∧(0≤cc∧cc≤35):=⟨_,rfl,by omega⟩;rw [show (fun i j:Int=>V.int (i % j)) ((fun i j:Int=>i + j) b0 (rest % (m:Int))) 36=V.int cc from congrArg V.int ecc];have tl:=Tups.lst (ys:=xs++[V.int cc]) w5;refine ⟨lrw,xs,_,rfl,rfl,w5,small1000 (by omega),?_⟩;refine ⟨_,rfl,_,rfl,_,_,rfl,rfl,cdivW pm (by omega),Same.set s5 hlrw _,xs++[V.int cc],_,_,upd_same,by rw [List.length_append,lxs]; rfl,fun y hy => ?_,rfl⟩;rcases List.mem_append.mp hy with hy | hy
        · obtain ⟨t,h1,h2⟩:=hxs y hy;exact ⟨t,h1.up tl,h2⟩
        · rw [List.mem_singleton.mp hy];exact ⟨.col cc,.col cc,Good.col hcc,Nat.le_refl _⟩
      · rintro σ H5 ⟨s5,xs,rest,o8,w5,lxs,hxs,rfl⟩;have w5':=s5 _ _ w3;refine ⟨_,rfl,.inl ⟨rfl,_,SqL.of w5'⟩,_,rfl,lw,rs,_,rfl,rfl,w5',small1000 (by omega),Same.set (s3.trans s5) hlw _,rs++[V.ref lrw],_,_,_,_,upd_same,by rw [List.length_append,lrs]; rfl,fun r hr => ?_,rfl⟩;rcases List.mem_append.mp hr with hr | hr
        · exact ((hrs r hr).up s5).set w5'
        · rw [List.mem_singleton.mp hr];exact RowOk.set ⟨lrw,xs,rfl,nlr.symm,w5,by omega,hxs⟩ w5'
    · rintro σ H3 ⟨s3,rs,rest,o6,o7,o8,w3,lrs,hrs,rfl⟩;refine ⟨_,rfl,_,rfl,lw,n,rfl,⟨rs,w3,?_,fun r hr => ?_⟩,hn,fun v t H4 s4 hv gt ct=>⟨two,fun p hp => ?_⟩⟩
      · rw [← eW]; omega
      · rw [← eW]; exact hrs r hr
      have s5:=Same.new hp (.tup [.int (n:Int),v]);exact q' _ n t _ (s1.trans (s3.trans (s4.trans s5))) ⟨p,v,rfl,upd_same,hv.up s5.tups⟩ (by omega) gt (by omega)
  · obtain ⟨n,hn,en⟩:∃ n:Nat,n≤40∧r % 41=(n:Int):=⟨(r % 41).toNat,by omega,by omega⟩;refine ⟨_,rfl,_,_,rfl,rfl,(by show (0:Int) < 41; decide),?_⟩;rw [show (fun i j:Int=>V.int (i % j)) r 41=V.int (n:Int) from congrArg V.int en];obtain ⟨b0,eb0,hb0⟩:∃ b0:Int,r / 41 % 36=b0∧(0≤b0∧b0≤35):=⟨_,rfl,by omega⟩;refine ⟨_,rfl,_,_,rfl,rfl,cdivW (by decide) (by decide),_,_,rfl,rfl,(by show (0:Int) < 36; decide),?_⟩;rw [show (fun i j:Int=>V.int (i % j)) (r / 41) 36=V.int b0 from congrArg V.int eb0];refine ⟨_,rfl,_,_,rfl,rfl,cdivW (by decide) (by decide),?_⟩;dsimp only;generalize r / 1476=r2;refine ⟨_,rfl,two,fun p0 hp0 => ?_⟩;generalize e1:upd H p0 _=H1;have s1:Same H H1:=e1▸Same.new hp0 _;have v1:H1 p0=some (.tup [.str ("" : Str),.int b0]):=by rw [← e1]; exact upd_same
    refine ⟨(by show 1≤sizeLine; decide),fun la hla => ?_⟩;have s2:=Same.new hla (.lst [.ref p0]);have w2:upd H1 la (.lst [.ref p0]) la=some (.lst [.ref p0]):=upd_same;have v2:=s2 _ _ v1;generalize upd H1 la (.lst [.ref p0])=H2 at *;refine ⟨(by show 3≤sizeLine; decide),fun l3 hl3 => ?_⟩;have s3:=Same.new hl3 (.lst [.int 5,.int 2,.int 1]);have u3:upd H2 l3 (.lst [.int 5,.int 2,.int 1]) l3=some (.lst [.int 5,.int 2,.int 1]):=upd_same;have w3:=s3 _ _ w2;have v3:=s3 _ _ v2;generalize upd H2 l3 (.lst [.int 5,.int 2,.int 1])=H3 at *;obtain ⟨m,em,hm⟩:=three_ix (decide ((n:Int) > 8)) (decide ((n:Int) > 20));have s13:=s2.trans s3;refine ⟨_,rfl,_,_,rfl,rfl,.inr ⟨_,rfl,_,rfl,_,_,rfl,rfl,.inr ⟨_,rfl,_,_,rfl,rfl,l3,_,_,.int (m:Int),rfl,rfl,SqL.of u3,em,(m:Int),rfl,by omega,by omega,for_range (fun (i:Nat) σ H4=>Same H1 H4∧∃ (us:List V) (M:List (List Nat × Int)) (rest:Int) (o10 o11 o12 o13 o14:Option V),H4 la=some (.lst us)∧PasAt H4 n us (([],b0)::M)∧M.length=i∧i≤m∧σ=[some (.int c),some (.int rest),some (.int (n:Int)),none,some (.int b0),none,none,none,none,some (.ref la),o10,o11,o12,o13,o14])
      ⟨s13,[.ref p0],[],r2,none,none,none,none,none,w3,.cons ⟨p0,("" : Str),rfl,v3,empty_eq▸IsC.nil,dig_empty,by rw [show ("" : Str).length=0 by decide +kernel]; omega,hb0⟩ .nil,rfl,Nat.zero_le _,rfl⟩ ?_ ?_⟩⟩⟩
    · rintro i σ H4 hi ⟨s4,us,M,rest,o10,o11,o12,o13,o14,w4,hM,lM,him,rfl⟩;have him':i < m:=by rw [Int.toNat_natCast] at hi; exact hi
      have pn:(0:Int) < (n:Int) + 1:=by omega
      obtain ⟨sz,hsz,esz⟩:∃ sz:Nat,sz≤n∧rest % ((n:Int) + 1)=(sz:Int):=by
        have h1:=Int.emod_nonneg rest (show (n:Int) + 1≠0 by omega);have h2:=Int.emod_lt_of_pos rest pn;exact ⟨(rest % ((n:Int) + 1)).toNat,by omega,by omega⟩
      refine ⟨_,rfl,_,rfl,_,_,rfl,rfl,_,_,rfl,rfl,pn,?_⟩;rw [show (fun i j:Int=>V.int (i % j)) rest ((fun i j:Int=>i + j) (n:Int) 1)=V.int (sz:Int) from congrArg V.int esz];obtain ⟨cc,ecc,hcc⟩:∃ cc:Int,rest / ((n:Int) + 1) % 36=cc∧(0≤cc∧cc≤35):=⟨_,rfl,by omega⟩;refine ⟨_,rfl,_,rfl,_,_,rfl,rfl,_,_,rfl,rfl,cdivW pn (by omega),_,_,rfl,rfl,(by show (0:Int) < 36; decide),?_⟩;rw [show (fun i j:Int=>V.int (i % j)) (rest / ((fun i j:Int=>i + j) (n:Int) 1)) 36=V.int cc from congrArg V.int ecc];refine ⟨_,rfl,_,rfl,_,_,rfl,rfl,.inl ⟨by decide,by decide⟩,_,_,rfl,rfl,_,_,rfl,rfl,cdivW (by show (0:Int) < 36 * (n:Int) + 36; omega) (by show 36 * (n:Int) + 36 < _; omega),?_⟩;dsimp only;generalize rest / (36 * (n:Int) + 36)=r3;refine ⟨_,rfl,(sz:Int),rfl,by omega,by omega,for_range (fun (j:Nat) σ H5=>H5=H4∧∃ (z:Str) (rest:Int) (o14:Option V),IsC z∧z.length=j∧σ=[some (.int c),some (.int rest),some (.int (n:Int)),none,some (.int b0),none,none,none,none,some (.ref la),some (.int (0 + (i:Int))),some (.str z),some (.int (sz:Int)),some (.int cc),o14]) ⟨rfl,"",r3,o14,empty_eq▸IsC.nil,by decide +kernel,rfl⟩ ?_ ?_⟩
      · rintro j σ H5 hj ⟨rfl,z,rest,o14,hz,lz,rfl⟩;have hj':j < sz:=by rw [Int.toNat_natCast] at hj; exact hj
        obtain ⟨d,hd4,ed⟩:∃ d:Nat,d < 4∧rest % 4=(d:Int):=⟨(rest % 4).toNat,by omega,by omega⟩;refine ⟨_,rfl,_,rfl,_,_,rfl,rfl,(by show (0:Int) < 4; decide),_,_,48 + d,rfl,rfl,q_len,(by rw [ed]; exact at_q hd4),_,_,rfl,rfl,?_,?_⟩
        · show z.length + 1≤sizeLine;exact small (by omega)
        · exact ⟨_,rfl,_,_,rfl,rfl,cdivW (by decide) (by decide),rfl,z++one d,_,_,IsC.app hz (IsC.one hd4),by rw [app_len,lz]; rfl,rfl⟩
      · rintro σ H5 ⟨rfl,z,rest,o14,hz,lz,rfl⟩;rw [Int.toNat_natCast] at lz;have lus:=hM.len;rw [List.length_cons] at lus;refine ⟨_,rfl,.inl ⟨rfl,_,SqL.of w4⟩,_,rfl,_,rfl,two,fun pn hpn => ?_⟩;generalize e6:upd H5 pn _=H6;have s6:Same H5 H6:=e6▸Same.new hpn _;have w6:H6 pn=some (.tup [.str z,.int cc]):=by rw [← e6]; exact upd_same
        have u6:=s6 _ _ w4;have tl:=Tups.lst (ys:=us++[V.ref pn]) u6;refine ⟨la,us,_,rfl,rfl,u6,small1000 (by omega),Same.set (s4.trans s6) hla _,us++[V.ref pn],M++[(dig z,cc)],_,_,_,_,_,_,upd_same,?_,by rw [List.length_append,lM]; rfl,him',rfl⟩;exact (hM.up (s6.tups.trans tl)).app (.cons ⟨pn,z,rfl,tl _ _ w6,hz,rfl,by omega,hcc⟩ .nil)
    · rintro σ H4 ⟨s4,us,M,rest,o10,o11,o12,o13,o14,w4,hM,lM,him,rfl⟩;have lus:=hM.len;rw [List.length_cons] at lus;refine ⟨_,rfl,_,rfl,la,us,_,n,rfl,w4,hM,by omega,by decide,by omega,fun vd H5 s5 hvd=>⟨two,fun p hp => ?_⟩⟩;have hvd':TrAt H5 vd (paintAll (.col b0) M):=hvd;have e5:=Same.new hp (.tup [.int (n:Int),vd]);have okM:∀ p∈M,POk n p:=fun p hp=>hM.ok p (List.mem_cons_of_mem _ hp);have ca:=cnt_all M (.col b0) okM;have c1:cnt (Tr.col b0)=1:=rfl;have cb:(3 * n + 1) * M.length≤121 * 5:=Nat.mul_le_mul (by omega) (by omega);exact q' _ n _ _ (s1.trans (s4.trans (s5.trans e5))) ⟨p,vd,rfl,upd_same,hvd'.up e5.tups⟩ hn (good_all M _ okM (Good.col hb0)) (by omega)
theorem and3 {c A R:Prop} [Decidable c] (h:A) (g:A→c→R):if c then R else A:=by
  by_cases hc:c
  · rw [if_pos hc]; exact g h hc
  · rw [if_neg hc]; exact h
abbrev s_law_sheet:Stmt:=top 46
theorem sc_law_sheet:FnScope ["_law_script","_law_level","_law_most","_law_paints_here"] ["_law_script"] (defScope s_law_sheet):=⟨rfl,rfl,rfl,by decide +kernel,rfl,by decide +kernel,by decide +kernel⟩
def sp_law_sheet (K:PySem.W.Frag):Sp:=fun vs H Q _=>∃ (a:Addr) (ns:List Int),vs=[.ref a]∧SqL K H a (ns.map V.int)∧ns.length≤63∧∀ v n t H',Same H H'→ShAt H' v ((n:Nat):Int) t→n≤40→Good n t→cnt t≤1500→Q v H'
theorem ok_law_sheet (T:Tx K mg) (q:Quiet CX) (F:FunD K "_law_sheet" "_law_sheet" s_law_sheet f fd .none) (C__law_at:Fok P w K mg base CX 1 "_law_at" ["_law_script","_law_k"] [] (sp_law_at K)) (C__law_sheet_by_digits:Fok P w K mg base CX 44 "_law_sheet_by_digits" ["_law_cell"] [] sp_sheet_digits) (C__law_tree_of_rows:Fok P w K mg base CX 2 "_law_tree_of_rows" ["_law_rows"] [] sp_law_tree_of_rows) (C__law_grid:Fok P w K mg base CX 2 "_law_grid" ["_law_script","_law_first","_law_level"] [] (sp_law_grid K)) (C__law_paints:Fok P w K mg base CX 3 "_law_paints" ["_law_script","_law_first","_law_most","_law_level"] [] (sp_law_paints K)) (C__law_colour:Fok P w K mg base CX 1 "_law_colour" ["_law_cell"] [] sp_law_colour) (C__law_tree_by:Fok P w K mg base CX 43 "_law_tree_by" ["_law_paints_here"] [] (sp_law_tree_by 41)) :
    FnOk P w K mg base CX 45 f fd ["_law_script"] (sp_law_sheet K):=by
  refine F.ok sc_law_sheet (fun vs H Q E h => ?_) (fun cdv A outer s H vs Q E hr h => ?_)
  · obtain ⟨_,_,rfl,_⟩:=h;rfl
  obtain ⟨a,ns,rfl,hS,h63,q'⟩:=h;refine ⟨_,(pss_cons (ps_if (PW.pt (pw_and (pt_cmpR op_eq (pe_op op_mod (pe_op op_fdivW (pe_callF C__law_at q hr (pa_cons (pv 0) (pa_cons pe_int pa_nil))) pe_int) pe_int) pe_int (nomark _)) (pw_and1 (pt_not (pt_chain op_lt op_lt (pe_un un_neg (pe_op op_pow pe_int pe_int)) (pe_callF C__law_at q hr (pa_cons (pv 0) (pa_cons pe_int pa_nil))) (pe_op op_pow pe_int pe_int)))))) (pss_one (ps_ret (pe_callF C__law_sheet_by_digits q hr (pa_cons (pe_callF C__law_at q hr (pa_cons (pv 0) (pa_cons pe_int pa_nil))) pa_nil)))) pss_nil) (pss_cons (ps_if (pt_cmpR op_lt (pe_op op_mod (pe_callF C__law_at q hr (pa_cons (pv 0) (pa_cons pe_int pa_nil))) pe_int) pe_int (nomark _)) (pss_cons (ps_set (i:=1) sc_law_sheet.nd rfl (Or.inl rfl) (pe_op op_mod (pe_op op_fdivW (pe_callF C__law_at q hr (pa_cons (pv 0) (pa_cons pe_int pa_nil))) pe_int) pe_int)) (pss_one (ps_ret (pe_tupx (pax_c (pv 1) (pax_c (pe_callF C__law_tree_of_rows q hr (pa_cons (pe_callF C__law_grid q hr (pa_cons (pv 0) (pa_cons pe_int (pa_cons (pv 1) pa_nil)))) pa_nil)) pax_nil)))))) pss_nil) (pss_cons (ps_set (i:=1) sc_law_sheet.nd rfl (Or.inl rfl) (pe_op op_mod (pe_op op_add (pe_callF C__law_at q hr (pa_cons (pv 0) (pa_cons pe_int pa_nil))) pe_int) pe_int)) (pss_cons (ps_cut (ps_if (pt_cmpR op_eq (pe_op op_mod (pe_callF C__law_at q hr (pa_cons (pv 0) (pa_cons pe_int pa_nil))) pe_int) pe_int (nomark _)) (pss_one (ps_set (i:=1) sc_law_sheet.nd rfl (Or.inl rfl) (pe_op op_add pe_int (pe_op op_mod (pv 1) pe_int)))) pss_nil)) (pss_cons (ps_set (i:=2) sc_law_sheet.nd rfl (Or.inl rfl) (pe_ix ix_list (pe_lstx (pax_c pe_int (pax_c pe_int (pax_c pe_int pax_nil)))) (pe_op op_add (pe_callTy call_int1 rfl T.b_int bt_int (pa_cons (pe_cmpR op_gt (pv 1) pe_int (nomark _)) pa_nil)) (pe_callTy call_int1 rfl T.b_int bt_int (pa_cons (pe_cmpR op_gt (pv 1) pe_int (nomark _)) pa_nil))) (fun _ _=>rfl))) (pss_cons (ps_set (i:=3) sc_law_sheet.nd rfl (Or.inl rfl) (pe_callF C__law_paints q hr (pa_cons (pv 0) (pa_cons pe_int (pa_cons (pv 2) (pa_cons (pv 1) pa_nil)))))) (pss_one (ps_ret (pe_tupx (pax_c (pv 1) (pax_c (pe_callF C__law_tree_by q hr (pa_cons (pe_op op_cat (pe_lstx (pax_c (pe_tupx (pax_c pe_str (pax_c (pe_callF C__law_colour q hr (pa_cons (pe_op op_fdivW (pe_callF C__law_at q hr (pa_cons (pv 0) (pa_cons pe_int pa_nil))) pe_int) pa_nil)) pax_nil))) pax_nil)) (pv 3)) pa_nil)) pax_nil))))))))))),?_⟩;have two:2≤sizeLine:=by decide
  refine ⟨_,rfl,a,ns,0,rfl,hS,h63,_,_,rfl,rfl,cdivW (by decide) (by decide),_,_,rfl,rfl,(by show (0:Int) < 2; decide),rfl,_,rfl,and3 ?_ (fun hY _ => ?_)⟩
  rotate_left
  · have cp:CPow 10 6:=⟨by decide,by decide,by decide⟩;have qd:∀ v n t H',Same H H'→ShAt H' v ((n:Nat):Int) t→n≤40→Good n t→cnt t≤1500→Q v H':=q';refine ⟨_,_,rfl,rfl,cp,_,rfl,_,rfl,a,ns,1,rfl,hS,h63,_,_,rfl,rfl,_,rfl,ite2 (fun _ => ?_) (fun _ => ?_)⟩
    · refine ⟨_,_,rfl,rfl,cp,_,_,rfl,rfl,_,rfl,ite2 (fun _ => ?_) (fun _ => ?_)⟩
      · first
          | exact hY
          | exact ⟨_,rfl,a,ns,1,rfl,hS,h63,cell ns 1,rfl,qd⟩
      · first
          | exact hY
          | exact ⟨_,rfl,a,ns,1,rfl,hS,h63,cell ns 1,rfl,qd⟩
    · first
        | exact ⟨_,rfl,iteT ⟨_,rfl,a,ns,1,rfl,hS,h63,cell ns 1,rfl,qd⟩⟩
        | exact ⟨_,rfl,a,ns,1,rfl,hS,h63,cell ns 1,rfl,qd⟩
  refine ⟨_,rfl,a,ns,0,rfl,hS,h63,_,_,rfl,rfl,(by show (0:Int) < 5; decide),_,_,rfl,rfl,_,rfl,ite2 (fun _ => ?_) (fun _ => ?_)⟩
  · obtain ⟨n,hn,en⟩:∃ n:Nat,n≤3∧cell ns 0 / 10 % 4=(n:Int):=⟨(cell ns 0 / 10 % 4).toNat,by omega,by omega⟩;refine ⟨_,rfl,a,ns,0,rfl,hS,h63,_,_,rfl,rfl,cdivW (by decide) (by decide),_,_,rfl,rfl,(by show (0:Int) < 4; decide),?_⟩;rw [show (fun i j:Int=>V.int (i % j)) (cell ns 0 / 10) 4=V.int (n:Int) from congrArg V.int en];refine ⟨_,rfl,_,rfl,_,rfl,a,ns,n,rfl,hS,h63,hn,fun l H1 s1 hR=>⟨l,n,rfl,hR,hn,fun v t H2 s2 hv gt ct=>⟨two,fun p hp => ?_⟩⟩⟩;have s3:=Same.new hp (.tup [.int (n:Int),v]);have c64:4 ^ n≤64:=Nat.le_trans (Nat.pow_le_pow_right (by decide) hn) (by decide);exact q' _ n t _ (s1.trans (s2.trans s3)) ⟨p,v,rfl,upd_same,hv.up s3.tups⟩ (by omega) gt (by omega)
  obtain ⟨n0,hn0,en0⟩:∃ n:Nat,n≤40∧(cell ns 0 + 3) % 41=(n:Int):=⟨((cell ns 0 + 3) % 41).toNat,by omega,by omega⟩;refine ⟨_,rfl,a,ns,0,rfl,hS,h63,_,_,rfl,rfl,_,_,rfl,rfl,(by show (0:Int) < 41; decide),?_⟩;rw [show (fun i j:Int=>V.int (i % j)) (cell ns 0 + 3) 41=V.int (n0:Int) from congrArg V.int en0];refine ⟨fun σ H1=>H1=H∧∃ n:Nat,n≤40∧σ=[some (.ref a),some (.int (n:Int)),none,none],?_,?_⟩
  · refine ⟨_,rfl,a,ns,0,rfl,hS,h63,_,_,rfl,rfl,(by show (0:Int) < 5; decide),rfl,_,rfl,ite2 (fun _ => ?_) (fun _=>⟨rfl,n0,hn0,rfl⟩)⟩;refine ⟨_,rfl,_,_,rfl,rfl,(by show (0:Int) < 8; decide),_,_,rfl,rfl,rfl,1 + n0 % 8,by omega,?_⟩;rw [show ((1 + n0 % 8:Nat):Int)=1 + (n0:Int) % 8 by omega];rfl
  rintro σ H1 ⟨rfl,n,hn,rfl⟩;refine ⟨(by show 3≤sizeLine; decide),fun l3 hl3 => ?_⟩;have s3:=Same.new hl3 (.lst [.int 5,.int 2,.int 1]);have u3:upd H1 l3 (.lst [.int 5,.int 2,.int 1]) l3=some (.lst [.int 5,.int 2,.int 1]):=upd_same;generalize upd H1 l3 (.lst [.int 5,.int 2,.int 1])=H2 at *;have hS2:=s3.seq hS;obtain ⟨m,em,hm⟩:=three_ix (decide ((n:Int) > 8)) (decide ((n:Int) > 20));refine ⟨_,rfl,_,_,rfl,rfl,.inr ⟨_,rfl,_,rfl,_,_,rfl,rfl,.inr ⟨_,rfl,_,_,rfl,rfl,l3,_,_,.int (m:Int),rfl,rfl,SqL.of u3,em,?_⟩⟩⟩;refine ⟨_,rfl,_,rfl,_,rfl,a,ns,m,n,rfl,hS2,h63,by omega,hn,fun lpa pas H3 s4 hlpa u4 lpas hpas => ?_⟩;have s14:=s3.trans s4;obtain ⟨L,hL⟩:=PasAt.of hpas;refine ⟨_,rfl,_,rfl,a,ns,0,rfl,s14.seq hS,h63,_,_,rfl,rfl,cdivW (by decide) (by decide),cell ns 0 / 41,rfl,fun c0 hc0 hc1=>⟨two,fun p0 hp0 => ?_⟩⟩;have e1:=Same.new hp0 (.tup [.str ("" : Str),.int c0])
  have v1:upd H3 p0 (.tup [.str ("" : Str),.int c0]) p0=some (.tup [.str ("" : Str),.int c0]):=upd_same
  generalize upd H3 p0 (.tup [.str ("" : Str),.int c0])=H4 at *
  refine ⟨(by show 1≤sizeLine; decide),fun la hla => ?_⟩;have e2:=Same.new hla (.lst [.ref p0]);have v2:=e2 _ _ v1;have w2:upd H4 la (.lst [.ref p0]) la=some (.lst [.ref p0]):=upd_same;generalize upd H4 la (.lst [.ref p0])=H5 at *;have e12:=e1.trans e2;refine ⟨_,rfl,la,lpa,_,_,rfl,rfl,w2,e12 _ _ u4,small (by show 1 + pas.length≤_; omega),fun lc hlc => ?_⟩;have e3:=Same.new hlc (.lst ([V.ref p0]++pas));have w3:upd H5 lc (.lst ([V.ref p0]++pas)) lc=some (.lst ([V.ref p0]++pas)):=upd_same;have v3:=e3 _ _ v2;generalize upd H5 lc (.lst ([V.ref p0]++pas))=H6 at *;have e13:=e12.trans e3;have hLt:=hL.up e13.tups;have k8:PasAt H6 n ([V.ref p0]++pas) ([([],c0)]++L):=PasAt.app (.cons ⟨p0,("" : Str),rfl,v3,empty_eq▸IsC.nil,dig_empty,by rw [show ("" : Str).length=0 by decide +kernel]; omega,⟨hc0,hc1⟩⟩ .nil) hLt
  refine ⟨lc,_,_,n,rfl,w3,k8,by omega,by decide,by rw [List.length_append]; show 1 + pas.length + n≤200; omega,fun vd H7 e4 hvd=>⟨two,fun p hp => ?_⟩⟩;have hvd':TrAt H7 vd (paintAll (.col c0) L):=hvd;have e5:=Same.new hp (.tup [.int (n:Int),vd]);have ca:=cnt_all L (.col c0) hL.ok;have ll:=hL.len;have c1:cnt (Tr.col c0)=1:=rfl;have cb:(3 * n + 1) * L.length≤121 * 5:=Nat.mul_le_mul (by omega) (by omega);exact q' _ n _ _ (s14.trans (e13.trans (e4.trans e5))) ⟨p,vd,rfl,upd_same,hvd'.up e5.tups⟩ hn (good_all L _ hL.ok (Good.col ⟨hc0,hc1⟩)) (by omega)
end
end Qs


namespace Qs
open PySem L2
theorem idx_q {d:Nat} (h:d < 4):Builtin.Str.occurrences ("0123" : Str) (one d) 0 ("0123" : Str).length 1=[d] :=
  four (P:=fun d=>Builtin.Str.occurrences ("0123" : Str) (one d) 0 ("0123" : Str).length 1=[d]) (by decide +kernel) (by decide +kernel) (by decide +kernel) (by decide +kernel) h
end Qs
namespace Qs
open PySem L2
theorem sqX_snoc:∀ (ds:List Nat) (n d:Nat),sqX n (ds++[d])=sqX n ds + d % 2 * 2 ^ (n - ds.length - 1)
  | [],n,d=>by show d % 2 * 2 ^ (n - 1) + 0=0 + d % 2 * 2 ^ (n - 0 - 1); rw [Nat.sub_zero]; omega
  | e::ds,n,d=>by
    show e % 2 * 2 ^ (n - 1) + sqX (n - 1) (ds++[d])=e % 2 * 2 ^ (n - 1) + sqX (n - 1) ds + d % 2 * 2 ^ (n - (ds.length + 1) - 1);rw [sqX_snoc ds (n - 1) d,show n - 1 - ds.length - 1=n - (ds.length + 1) - 1 by omega]; omega
theorem sqY_snoc:∀ (ds:List Nat) (n d:Nat),sqY n (ds++[d])=sqY n ds + d / 2 * 2 ^ (n - ds.length - 1)
  | [],n,d=>by show d / 2 * 2 ^ (n - 1) + 0=0 + d / 2 * 2 ^ (n - 0 - 1); rw [Nat.sub_zero]; omega
  | e::ds,n,d=>by
    show e / 2 * 2 ^ (n - 1) + sqY (n - 1) (ds++[d])=e / 2 * 2 ^ (n - 1) + sqY (n - 1) ds + d / 2 * 2 ^ (n - (ds.length + 1) - 1);rw [sqY_snoc ds (n - 1) d,show n - 1 - ds.length - 1=n - (ds.length + 1) - 1 by omega]; omega
theorem in13 {d:Nat} (h:d < 4):(!(Builtin.Str.occurrences ("13" : Str) (one d) 0 ("13" : Str).length 1).isEmpty)=decide (d % 2=1) :=
  four (P:=fun d=>(!(Builtin.Str.occurrences ("13" : Str) (one d) 0 ("13" : Str).length 1).isEmpty)=decide (d % 2=1)) (by decide +kernel) (by decide +kernel) (by decide +kernel) (by decide +kernel) h
theorem in23 {d:Nat} (h:d < 4):(!(Builtin.Str.occurrences ("23" : Str) (one d) 0 ("23" : Str).length 1).isEmpty)=decide (d / 2=1) :=
  four (P:=fun d=>(!(Builtin.Str.occurrences ("23" : Str) (one d) 0 ("23" : Str).length 1).isEmpty)=decide (d / 2=1)) (by decide +kernel) (by decide +kernel) (by decide +kernel) (by decide +kernel) h
theorem shl_pow (n:Nat):(1:Int) * 2 ^ ((n:Int)).toNat=((2 ^ n:Nat):Int):=by rw [Int.toNat_natCast]; simp
theorem bit_int {e:Nat} (h:e < 2):(if decide (e=1)=true then (1:Int) else 0)=(e:Int):=by
  rcases e with _ | _ | e
  · rfl
  · rfl
  · omega

theorem met_touch {a d:Int}:((a=0∨d=0)∧(if d > a then (if (0:Int) > d then 0 else d) else (if (0:Int) > a then 0 else a)) > 0)↔(min a d=0∧max a d > 0):=by
  split <;> split <;> omega
theorem touch_sym (q r:Sq):touchB q r=touchB r q:=by
  rw [Bool.eq_iff_iff,touchB_iff,touchB_iff];unfold over;rw [mn_min,mn_min,mn_min,mn_min,mx_max,mx_max,mx_max,mx_max];have e1:min ((q.x:Int) + q.w) ((r.x:Int) + r.w)=min ((r.x:Int) + r.w) ((q.x:Int) + q.w):=Int.min_comm _ _;have e2:min ((q.y:Int) + q.w) ((r.y:Int) + r.w)=min ((r.y:Int) + r.w) ((q.y:Int) + q.w):=Int.min_comm _ _;have e3:max (q.x:Int) (r.x:Int)=max (r.x:Int) (q.x:Int):=Int.max_comm _ _;have e4:max (q.y:Int) (r.y:Int)=max (r.y:Int) (q.y:Int):=Int.max_comm _ _;rw [e1,e2,e3,e4]
section
variable {P:Program} {w:World} {K:PySem.W.Frag} {mg:Str→Option Value} {base:Heap} {CX:CXT} {f:Addr} {fd:FuncData}
abbrev s_law_leaves:Stmt:=top 47
theorem sc_law_leaves:FnScope ["_law_tree","_law_code_here","_law_found","_law_sign"] ["_law_tree","_law_code_here"] (defScope s_law_leaves):=⟨rfl,rfl,rfl,by decide +kernel,rfl,by decide +kernel,by decide +kernel⟩
def sp_law_leaves (m:Nat):Sp:=fun vs H Q _=>∃ (v:V) (t:Tr) (z:Str) (k n:Nat),vs=[v,.str z]∧TrAt H v t∧Good k t∧IsC z∧z.length + k≤n∧n≤40∧k < m∧m≤41∧cnt t≤4000∧∀ l us H',Same H H'→H l=none→H' l=some (.lst us)→PasAt H' n us (lvs (dig z) t)→Q (.ref l) H'
theorem ok_law_leaves (T:Tx K mg) (q:Quiet CX) (F:FunD K "_law_leaves" "_law_leaves" s_law_leaves f fd .none) (b:Binds K fd ["_law_tree","_law_code_here"] []) (m:mg "_law_leaves" = some (.ref f)) :
    ∀ n,FnOk P w K mg base CX (1 + n) f fd ["_law_tree","_law_code_here"] (sp_law_leaves n)
  | 0=>by
    refine F.ok sc_law_leaves (fun vs H Q E h => ?_) (fun cdv A outer s H vs Q E hr h => ?_)
    · obtain ⟨_,_,_,_,_,rfl,_⟩:=h;rfl
    obtain ⟨_,_,_,_,_,_,_,_,_,_,_,h,_⟩:=h;exact absurd h (Nat.not_lt_zero _)
  | m' + 1=>by
    have C__law_leaves:Fok P w K mg base CX (1 + m') "_law_leaves" ["_law_tree","_law_code_here"] [] (sp_law_leaves m'):=fok F (ok_law_leaves T q F b m m') b m
    refine F.ok sc_law_leaves (fun vs H Q E h => ?_) (fun cdv A outer s H vs Q E hr h => ?_)
    · obtain ⟨_,_,_,_,_,rfl,_⟩:=h;rfl
    obtain ⟨v,t,z,k,n,rfl,ht,gt,hz,hl,hn,hk,hm,hc,q'⟩:=h;refine ⟨_,(pss_cons (ps_if (pt_not (pt_val (pe_callB (call_isiT "tuple") rfl T.b_isinstance bb_isinstance (pa_cons (pv 0) (pa_cons (pe_bty T.b_tuple bt_tuple) pa_nil))))) (pss_one (ps_ret (pe_lstx (pax_c (pe_tupx (pax_c (pv 1) (pax_c (pv 0) pax_nil))) pax_nil)))) pss_nil) (pss_cons (ps_set (i:=2) sc_law_leaves.nd rfl (Or.inl rfl) (pe_lstx pax_nil)) (pss_cons (ps_for PassesOwn.never rfl (pi_str pe_str) (pg_name (i:=3) sc_law_leaves.nd rfl (Or.inl rfl)) (pss_one (ps_set (i:=2) sc_law_leaves.nd rfl (Or.inl rfl) (pe_op op_cat (pv 2) (pe_callF C__law_leaves q hr (pa_cons (pe_ix ix_tup (pv 0) (pe_bm PySem.F.plainAttrs_str PySem.F.slot_str_index PySem.F.type_str_index mt_index pe_str (pa_cons (pv 3) pa_nil)) (fun _ _=>rfl)) (pa_cons (pe_op op_add_str (pv 1) (pv 3)) pa_nil)) (hj:=by first | decide | omega | (simp only [Nat.add_eq]; omega))))))) (pss_one (ps_ret (pv 2)))))),?_⟩
    cases ht with
    | col i =>
      have g':0≤i∧i≤35:=by cases k <;> exact gt
      refine ⟨_,rfl,_,_,_,rfl,.int _,kit_it,_,rfl,iteT ?_⟩;refine ⟨_,rfl,_,rfl,(by show 2≤sizeLine; decide),fun p hp => ?_⟩;have s1:=Same.new hp (.tup [.str z,.int i]);have u1:upd H p (.tup [.str z,.int i]) p=some (.tup [.str z,.int i]):=upd_same;generalize upd H p (.tup [.str z,.int i])=H1 at *;refine ⟨(by show 1≤sizeLine; decide),fun l hl1 => ?_⟩;have s2:=Same.new hl1 (.lst [.ref p]);exact q' l _ _ (s1.trans s2) (Same.none s1 hl1) upd_same (.cons ⟨p,z,rfl,s2 _ _ u1,hz,rfl,by omega,g'⟩ .nil)
    | @four p xa xb xc xd ta tb tc td e ja jb jc jd =>
      rcases k with _ | k
      · exact gt.elim
      obtain ⟨ga,gb,gc,gd,ho⟩:=gt;have hc':cnt ta + cnt tb + cnt tc + cnt td≤4000:=hc;refine ⟨_,rfl,_,_,_,rfl,.tup e,kit_tt,_,rfl,iteF ?_⟩;refine ⟨(by show 0≤sizeLine; decide),fun l0 hl0 => ?_⟩;have s1:=Same.new hl0 (.lst []);have u1:upd H l0 (.lst []) l0=some (.lst []):=upd_same;generalize upd H l0 (.lst [])=H1 at *;obtain ⟨tt,ett⟩:∃ tt:List Tr,tt=[ta,tb,tc,td]:=⟨_,rfl⟩;obtain ⟨ps,eps⟩:∃ ps:List (List (List Nat × Int)),ps=[lvs (dig z++[0]) ta,lvs (dig z++[1]) tb,lvs (dig z++[2]) tc,lvs (dig z++[3]) td]:=⟨_,rfl⟩;have lps:ps.length=4:=by rw [eps]; rfl
      have tot:ps.flatten.length≤4000:=by
        rw [eps];simp only [List.flatten_cons,List.flatten_nil,List.append_nil,List.length_append,lvs_count];omega
      refine ⟨_,rfl,for_gen (fun j σ H2=>Same H H2∧∃ (l:Addr) (us:List V) (o3:Option V),H l=none∧H2 l=some (.lst us)∧j≤4∧PasAt H2 n us (ps.take j).flatten∧σ=[some (.ref p),some (.str z),some (.ref l),o3]) ⟨s1,l0,[],none,hl0,u1,by decide,.nil,rfl⟩ ?_ ?_⟩
      · rintro j σ H2 hj ⟨s2,l,us,o3,hl1,u2,hj4,hus,rfl⟩;have hj4:j < 4:=by rw [show ("0123" : Str).length=4 by decide +kernel] at hj; exact hj
        have ej:sgn ("0123" : Str) j=one j:=four (P:=fun d=>sgn ("0123" : Str) d=one d) (by decide +kernel) (by decide +kernel) (by decide +kernel) (by decide +kernel) hj4
        rw [ej];have key:∃ x t',atI [xa,xb,xc,xd] (j:Int)=some x∧TrAt H x t'∧Good k t'∧cnt t'≤4000∧ps[j]? = some (lvs (dig z++[j]) t'):=by
          rw [eps];rcases j with _ | _ | _ | _ | j
          · exact ⟨xa,ta,rfl,ja,ga,by omega,rfl⟩
          · exact ⟨xb,tb,rfl,jb,gb,by omega,rfl⟩
          · exact ⟨xc,tc,rfl,jc,gc,by omega,rfl⟩
          · exact ⟨xd,td,rfl,jd,gd,by omega,rfl⟩
          · omega
        obtain ⟨x,t',k1,k2,k3,k4,k5⟩:=key;have l1:(one j).length=1:=rfl;refine ⟨_,rfl,_,rfl,rfl,_,rfl,_,_,j,[],rfl,rfl,idx_q hj4,p,_,_,x,rfl,rfl,SqT.of (s2 _ _ e),k1,_,rfl,_,rfl,_,_,rfl,rfl,(by rw [l1]; exact small (by omega)),x,t',z++one j,k,n,rfl,k2.up s2.tups,k3,IsC.app hz (IsC.one hj4),by rw [app_len,l1]; omega,hn,by omega,by omega,k4,fun l2 us2 H3 s3 hl2 u3 hus2 => ?_⟩;rw [dig_app,dig_one] at hus2;have u2':=s3 _ _ u2;have et:(ps.take (j + 1)).flatten=(ps.take j).flatten++lvs (dig z++[j]) t':=by rw [List.take_add_one,k5,List.flatten_append]; simp
        have n1:=hus.len;have n2:=hus2.len;have n3:(ps.take j).flatten.length≤ps.flatten.length:=by
          conv=>rhs; rw [← List.take_append_drop j ps,List.flatten_append,List.length_append]
          omega
        have n4:=lvs_count t' (dig z++[j]);refine ⟨l,l2,_,_,rfl,rfl,u2',u3,big (by omega),fun l3 hl3 => ?_⟩;have s4:=Same.new hl3 (.lst (us++us2));refine ⟨s2.trans (s3.trans s4),l3,us++us2,_,Same.none (s2.trans s3) hl3,upd_same,hj4,?_,rfl⟩;rw [et];exact (hus.up (s3.trans s4).tups).app (hus2.up s4.tups)
      · rintro σ H2 ⟨s2,l,us,o3,hl1,u2,hj4,hus,rfl⟩;have e4:(ps.take ("0123" : Str).length).flatten=lvs (dig z) (.four ta tb tc td):=by
          rw [show ("0123" : Str).length=4 by decide +kernel,List.take_of_length_le (by omega),eps]
          simp [lvs]
        rw [e4] at hus;exact ⟨_,rfl,q' l us H2 s2 hl1 u2 hus⟩

abbrev s_law_square:Stmt:=top 48
theorem sc_law_square:FnScope ["_law_code_here","_law_level","_law_x","_law_y","_law_wide","_law_sign"] ["_law_code_here","_law_level"] (defScope s_law_square):=⟨rfl,rfl,rfl,by decide +kernel,rfl,by decide +kernel,by decide +kernel⟩
def sp_law_square:Sp:=fun vs H Q _=>∃ (z:Str) (n:Nat),vs=[.str z,.int n]∧IsC z∧z.length≤n∧n≤40∧∀ p H',Same H H'→H' p=some (.tup [.int ((sqX n (dig z):Nat):Int),.int ((sqY n (dig z):Nat):Int),.int ((2 ^ (n - z.length):Nat):Int)])→Q (.ref p) H'
theorem ok_law_square (T:Tx K mg) (F:FunD K "_law_square" "_law_square" s_law_square f fd .none):FnOk P w K mg base CX 1 f fd ["_law_code_here","_law_level"] sp_law_square:=by
  refine F.ok sc_law_square (fun vs H Q E h => ?_) (fun cdv A outer s H vs Q E hr h => ?_)
  · obtain ⟨_,_,rfl,_⟩:=h;rfl
  obtain ⟨z,n,rfl,hz,lz,hn,q'⟩:=h;refine ⟨_,(pss_cons (ps_set (i:=2) sc_law_square.nd rfl (Or.inl rfl) pe_int) (pss_cons (ps_set (i:=3) sc_law_square.nd rfl (Or.inl rfl) pe_int) (pss_cons (ps_set (i:=4) sc_law_square.nd rfl (Or.inl rfl) (pe_op op_shl pe_int (pv 1))) (pss_cons (ps_for PassesOwn.never rfl (pi_str (pv 0)) (pg_name (i:=5) sc_law_square.nd rfl (Or.inl rfl)) (pss_cons (ps_set (i:=4) sc_law_square.nd rfl (Or.inl rfl) (pe_op op_fdivW (pv 4) pe_int)) (pss_cons (ps_set (i:=2) sc_law_square.nd rfl (Or.inl rfl) (pe_op op_add (pv 2) (pe_op op_mul (pv 4) (pe_callTy call_int1 rfl T.b_int bt_int (pa_cons (pe_cmpR op_in_str (pv 5) pe_str (by with_unfolding_all rfl)) pa_nil))))) (pss_one (ps_set (i:=3) sc_law_square.nd rfl (Or.inl rfl) (pe_op op_add (pv 3) (pe_op op_mul (pv 4) (pe_callTy call_int1 rfl T.b_int bt_int (pa_cons (pe_cmpR op_in_str (pv 5) pe_str (by with_unfolding_all rfl)) pa_nil))))))))) (pss_one (ps_ret (pe_tupx (pax_c (pv 2) (pax_c (pv 3) (pax_c (pv 4) pax_nil)))))))))),?_⟩;have cpow:CPow 1 (n:Int):=⟨by omega,by omega,by decide⟩;refine ⟨_,rfl,_,_,rfl,rfl,cpow,?_⟩;rw [show (fun i j:Int=>V.int (i * 2 ^ j.toNat)) 1 (n:Int)=V.int ((2 ^ n:Nat):Int) from congrArg V.int (shl_pow n)];refine ⟨_,rfl,z,rfl,for_gen (fun i σ H2=>H2=H∧∃ (X Y W:Int) (o5:Option V),X=((sqX n ((dig z).take i):Nat):Int)∧Y=((sqY n ((dig z).take i):Nat):Int)∧W=((2 ^ (n - i):Nat):Int)∧σ=[some (.str z),some (.int n),some (.int X),some (.int Y),some (.int W),o5]) ⟨rfl,0,0,_,none,rfl,rfl,rfl,rfl⟩ ?_ ?_⟩
  · rintro i σ H2 hi ⟨rfl,X,Y,W,o5,rfl,rfl,rfl,rfl⟩;obtain ⟨d,hd,e1,e2⟩:=sgn_one hz hi;have en:n - i=(n - i - 1) + 1:=by omega
    have eW:((2 ^ (n - i):Nat):Int) / 2=((2 ^ (n - i - 1):Nat):Int):=by
      conv=>lhs; rw [en,Nat.pow_succ]
      omega
    have lt:((dig z).take i).length=i:=by rw [List.length_take,dig_len]; omega
    have hW0:-(2 ^ 64) < ((2 ^ (n - i - 1):Nat):Int):=Int.lt_of_lt_of_le (by decide) (Int.natCast_nonneg _);have hW:((2 ^ (n - i - 1):Nat):Int) < 2 ^ 64:=by
      have h1:2 ^ (n - i - 1)≤2 ^ 40:=Nat.pow_le_pow_right (by decide) (by omega);have h2:(2 ^ 40:Nat)=1099511627776:=by decide
      omega
    refine ⟨_,rfl,_,_,rfl,rfl,cdivW (by decide) (by decide),?_⟩;rw [show (fun i j:Int=>V.int (i / j)) ((2 ^ (n - i):Nat):Int) 2=V.int ((2 ^ (n - i - 1):Nat):Int) from congrArg V.int eW];refine ⟨_,rfl,_,rfl,_,rfl,_,_,rfl,rfl,.inr ⟨_,rfl,_,_,rfl,rfl,.inl ⟨hW0,hW⟩,_,_,rfl,rfl,?_⟩⟩;refine ⟨_,rfl,_,rfl,_,rfl,_,_,rfl,rfl,.inr ⟨_,rfl,_,_,rfl,rfl,.inl ⟨hW0,hW⟩,_,_,rfl,rfl,rfl,_,_,_,_,?_,?_,?_,rfl⟩⟩
    · rw [dig_take hi,e2,sqX_snoc,lt,e1,in13 hd,bit_int (Nat.mod_lt _ (by decide)),Int.natCast_add,Int.natCast_mul,Int.mul_comm]
    · rw [dig_take hi,e2,sqY_snoc,lt,e1,in23 hd,bit_int (by omega),Int.natCast_add,Int.natCast_mul,Int.mul_comm]
    · rw [show n - i - 1=n - (i + 1) by omega]
  · rintro σ H2 ⟨rfl,X,Y,W,o5,rfl,rfl,rfl,rfl⟩;have et:(dig z).take z.length=dig z:=List.take_of_length_le (by rw [dig_len]; exact Nat.le_refl _);rw [et];exact ⟨_,rfl,_,rfl,_,rfl,(by show 3≤sizeLine; decide),fun p hp=>q' p _ (Same.new hp _) upd_same⟩

abbrev s_law_met:Stmt:=top 49
theorem sc_law_met:FnScope ["_law_one","_law_two","_law_across","_law_down"] ["_law_one","_law_two"] (defScope s_law_met):=⟨rfl,rfl,rfl,by decide +kernel,rfl,by decide +kernel,by decide +kernel⟩
def SqT3 (H:Hp) (p:Addr) (q:Sq):Prop:=H p=some (.tup [.int (q.x:Int),.int (q.y:Int),.int (q.w:Int)])
def sp_law_met:Sp:=fun vs H Q _=>∃ (p r:Addr) (a b:Sq),vs=[.ref p,.ref r]∧SqT3 H p a∧SqT3 H r b∧∀ (i:Int) H',Same H H'→(i > 0↔touchB a b=true)→Q (.int i) H'
theorem ok_law_met (T:Tx K mg) (F:FunD K "_law_met" "_law_met" s_law_met f fd .none):FnOk P w K mg base CX 1 f fd ["_law_one","_law_two"] sp_law_met:=by
  refine F.ok sc_law_met (fun vs H Q E h => ?_) (fun cdv A outer s H vs Q E hr h => ?_)
  · obtain ⟨_,_,_,_,rfl,_⟩:=h;rfl
  obtain ⟨p,r,a,b,rfl,hp,hr',q'⟩:=h;refine ⟨_,(pss_cons (ps_set (i:=2) sc_law_met.nd rfl (Or.inl rfl) (pe_op op_sub (pe_callB (call_min2 rfl) rfl T.b_min bb_min (pa_cons (pe_op op_add (pe_ix ix_tup (pv 0) pe_int (fun _ _=>rfl)) (pe_ix ix_tup (pv 0) pe_int (fun _ _=>rfl))) (pa_cons (pe_op op_add (pe_ix ix_tup (pv 1) pe_int (fun _ _=>rfl)) (pe_ix ix_tup (pv 1) pe_int (fun _ _=>rfl))) pa_nil))) (pe_callB (call_max2 rfl) rfl T.b_max bb_max (pa_cons (pe_ix ix_tup (pv 0) pe_int (fun _ _=>rfl)) (pa_cons (pe_ix ix_tup (pv 1) pe_int (fun _ _=>rfl)) pa_nil))))) (pss_cons (ps_set (i:=3) sc_law_met.nd rfl (Or.inl rfl) (pe_op op_sub (pe_callB (call_min2 rfl) rfl T.b_min bb_min (pa_cons (pe_op op_add (pe_ix ix_tup (pv 0) pe_int (fun _ _=>rfl)) (pe_ix ix_tup (pv 0) pe_int (fun _ _=>rfl))) (pa_cons (pe_op op_add (pe_ix ix_tup (pv 1) pe_int (fun _ _=>rfl)) (pe_ix ix_tup (pv 1) pe_int (fun _ _=>rfl))) pa_nil))) (pe_callB (call_max2 rfl) rfl T.b_max bb_max (pa_cons (pe_ix ix_tup (pv 0) pe_int (fun _ _=>rfl)) (pa_cons (pe_ix ix_tup (pv 1) pe_int (fun _ _=>rfl)) pa_nil))))) (pss_cons (ps_if (PW.pt (pw_or (pt_cmpR op_eq (pv 2) pe_int (nomark _)) (pw_or1 (pt_cmpR op_eq (pv 3) pe_int (nomark _))))) (pss_one (ps_ret (pe_callB (call_max3 rfl) rfl T.b_max bb_max (pa_cons (pv 2) (pa_cons (pv 3) (pa_cons pe_int pa_nil)))))) pss_nil) (pss_one (ps_ret pe_int))))),?_⟩;have tp:=SqT.of (K:=K) hp;have tr:=SqT.of (K:=K) hr';refine ⟨_,rfl,p,_,_,_,rfl,rfl,tp,rfl,_,rfl,p,_,_,_,rfl,rfl,tp,rfl,_,_,rfl,rfl,_,rfl,r,_,_,_,rfl,rfl,tr,rfl,_,rfl,r,_,_,_,rfl,rfl,tr,rfl,_,_,rfl,rfl,_,_,rfl,_,rfl,p,_,_,_,rfl,rfl,tp,rfl,_,rfl,r,_,_,_,rfl,rfl,tr,rfl,_,_,rfl,_,_,rfl,rfl,?_⟩;refine ⟨_,rfl,p,_,_,_,rfl,rfl,tp,rfl,_,rfl,p,_,_,_,rfl,rfl,tp,rfl,_,_,rfl,rfl,_,rfl,r,_,_,_,rfl,rfl,tr,rfl,_,rfl,r,_,_,_,rfl,rfl,tr,rfl,_,_,rfl,rfl,_,_,rfl,_,rfl,p,_,_,_,rfl,rfl,tp,rfl,_,rfl,r,_,_,_,rfl,rfl,tr,rfl,_,_,rfl,_,_,rfl,rfl,?_⟩;dsimp only;have ex:((if (b.x:Int) + b.w < (a.x:Int) + a.w then (b.x:Int) + b.w else (a.x:Int) + a.w) - if (b.x:Int) > a.x then (b.x:Int) else a.x)=over a.x a.w b.x b.w:=rfl;have ey:((if (b.y:Int) + b.w < (a.y:Int) + a.w then (b.y:Int) + b.w else (a.y:Int) + a.w) - if (b.y:Int) > a.y then (b.y:Int) else a.y)=over a.y a.w b.y b.w:=rfl;rw [ex,ey];have mt:=met_touch (a:=over a.x a.w b.x b.w) (d:=over a.y a.w b.y b.w);have ti:=touchB_iff (q:=a) (r:=b);generalize over a.x a.w b.x b.w=X at *;generalize over a.y a.w b.y b.w=Y at *;refine ⟨_,rfl,rfl,_,rfl,ite2 (fun c => ?_) (fun c => ?_)⟩
  · have c':X=0:=V.int.inj (of_decide_eq_true c);refine ⟨_,rfl,_,rfl,X,Y,0,rfl,q' _ H (Same.refl H) ?_⟩;rw [ti,← mt];exact ⟨fun h=>⟨.inl c',h⟩,fun h=>h.2⟩
  · refine ⟨_,rfl,rfl,_,rfl,ite2 (fun d => ?_) (fun d => ?_)⟩
    · have d':Y=0:=V.int.inj (of_decide_eq_true d);refine ⟨_,rfl,_,rfl,X,Y,0,rfl,q' _ H (Same.refl H) ?_⟩;rw [ti,← mt];exact ⟨fun h=>⟨.inr d',h⟩,fun h=>h.2⟩
    · refine q' 0 H (Same.refl H) ?_;rw [ti,← mt];refine ⟨fun h=>absurd h (by decide),fun h => ?_⟩;rcases h.1 with e | e
      · exact absurd (decide_eq_true (congrArg V.int e)) c
      · exact absurd (decide_eq_true (congrArg V.int e)) d
end
end Qs


namespace Qs
open PySem L2


structure BL (A:List Nat→List (List Nat)) (k:Nat) (M:List Mem) (ls:List Nat):Prop where
  len:ls.length=M.length
  zero:ls[0]? = some 0
  par:∀ (i:Nat) (m:Mem),0 < i→M[i]? = some m→∃ (j c:_) (mj:Mem) (lj:Nat),j < i∧m.2=some c∧M[j]? = some mj∧mj.1=c∧m.1∈A c∧ls[j]? = some lj∧ls[i]? = some (lj + 1)
  mono:ls.Pairwise (· ≤ ·)
  cap:∀ (i lk li:Nat),ls[k]? = some lk→ls[i]? = some li→li≤lk + 1
  disc:∀ (j:Nat) (m:Mem),j < k→M[j]? = some m→∀ y∈A m.1,∃ (i:Nat) (mi:Mem) (li lj:Nat),M[i]? = some mi∧mi.1=y∧ls[i]? = some li∧ls[j]? = some lj∧li≤lj + 1
theorem get_app {α:Type} {l r:List α} {i:Nat} {x:α} (h:l[i]? = some x):(l++r)[i]? = some x:=by
  rw [List.getElem?_append_left (List.getElem?_eq_some_iff.mp h).1];exact h

structure FL (A:List Nat→List (List Nat)) (k lk:Nat) (mk:Mem) (M:List Mem) (ls:List Nat):Prop where
  len:ls.length=M.length
  zero:ls[0]? = some 0
  par:∀ (i:Nat) (m:Mem),0 < i→M[i]? = some m→∃ (j c:_) (mj:Mem) (lj:Nat),j < i∧m.2=some c∧M[j]? = some mj∧mj.1=c∧m.1∈A c∧ls[j]? = some lj∧ls[i]? = some (lj + 1)
  mono:ls.Pairwise (· ≤ ·)
  top:∀ x∈ls,x≤lk + 1
  at_:M[k]? = some mk∧ls[k]? = some lk
  disc:∀ (j:Nat) (m:Mem),j < k→M[j]? = some m→∀ y∈A m.1,∃ (i:Nat) (mi:Mem) (li lj:Nat),M[i]? = some mi∧mi.1=y∧ls[i]? = some li∧ls[j]? = some lj∧li≤lj + 1
theorem FL.add {A:List Nat→List (List Nat)} {k lk:Nat} {mk:Mem} {M:List Mem} {ls:List Nat} (h:FL A k lk mk M ls) {o:List Nat} (ho:o∈A mk.1):∃ ls',FL A k lk mk (add1 mk.1 M o) ls':=by
  unfold add1
  split
  · exact ⟨ls,h⟩
  · have hk:=(List.getElem?_eq_some_iff.mp h.at_.1).1;refine ⟨ls++[lk + 1],by rw [List.length_append,List.length_append,h.len]; rfl,get_app h.zero,fun i m hi hm => ?_,?_,fun x hx => ?_,⟨get_app h.at_.1,get_app h.at_.2⟩,fun j m hj hm y hy => ?_⟩
    · by_cases q:i < M.length
      · rw [List.getElem?_append_left q] at hm;obtain ⟨j,c,mj,lj,h1,h2,h3,h4,h5,h6,h7⟩:=h.par i m hi hm;exact ⟨j,c,mj,lj,h1,h2,get_app h3,h4,h5,get_app h6,get_app h7⟩
      · have hl:=(List.getElem?_eq_some_iff.mp hm).1;rw [List.length_append,List.length_singleton] at hl;have e:i=M.length:=by omega
        subst e;rw [List.getElem?_append_right (Nat.le_refl _),Nat.sub_self] at hm;have em:(o,some mk.1)=m:=by simpa using hm
        subst em;refine ⟨k,mk.1,mk,lk,hk,rfl,get_app h.at_.1,rfl,ho,get_app h.at_.2,?_⟩;rw [← h.len,List.getElem?_append_right (Nat.le_refl _),Nat.sub_self];rfl
    · refine List.pairwise_append.mpr ⟨h.mono,by simp,fun a ha b hb => ?_⟩;rw [List.mem_singleton.mp hb];exact h.top a ha
    · rcases List.mem_append.mp hx with hx | hx
      · exact h.top x hx
      · rw [List.mem_singleton.mp hx]; exact Nat.le_refl _
    · have hjl:j < M.length:=by omega
      rw [List.getElem?_append_left hjl] at hm;obtain ⟨i,mi,li,lj,h1,h2,h3,h4,h5⟩:=h.disc j m hj hm y hy;exact ⟨i,mi,li,lj,get_app h1,h2,get_app h3,get_app h4,h5⟩
theorem FL.fold {A:List Nat→List (List Nat)} {k lk:Nat} {mk:Mem}:∀ {os:List (List Nat)} {M:List Mem} {ls:List Nat},FL A k lk mk M ls→(∀ o∈os,o∈A mk.1)→∃ ls',FL A k lk mk (os.foldl (add1 mk.1) M) ls'
  | [],_,ls,h,_=>⟨ls,h⟩
  | o::os,M,ls,h,ho=>by
    obtain ⟨ls',h'⟩:=h.add (ho o List.mem_cons_self);exact FL.fold (os:=os) h' fun x hx=>ho x (List.mem_cons_of_mem _ hx)
theorem BL.bfs (A:List Nat→List (List Nat)) (z:List Nat):∀ k,∃ ls,BL A k (bfsN A z k) ls
  | 0=>⟨[0],rfl,rfl,fun i m hi hm=>by
      have:=(List.getElem?_eq_some_iff.mp hm).1
      have e:(bfsN A z 0).length=1:=rfl;omega,by simp,fun i lk li h1 h2=>by
      have:=(List.getElem?_eq_some_iff.mp h2).1
      have e:i=0:=by simpa using this
      subst e;cases h2;exact Nat.zero_le _,fun j m hj=>absurd hj (Nat.not_lt_zero _)⟩
  | k + 1=>by
    obtain ⟨ls,h⟩:=BL.bfs A z k;have e0:bfsN A z (k + 1)=match (bfsN A z k)[k]? with | none=>bfsN A z k | some m=>grow A (bfsN A z k) m.1:=rfl
    cases hm:(bfsN A z k)[k]? with
    | none =>
      rw [hm] at e0;have e1:bfsN A z (k + 1)=bfsN A z k:=e0;rw [e1];have hl:(bfsN A z k).length≤k:=List.getElem?_eq_none_iff.mp hm;refine ⟨ls,h.len,h.zero,h.par,h.mono,fun i lk li h1 _ => ?_,fun j m hj hjm => ?_⟩
      · have:=(List.getElem?_eq_some_iff.mp h1).1
        have:=h.len
        omega
      · have:=(List.getElem?_eq_some_iff.mp hjm).1
        exact h.disc j m (by omega) hjm
    | some mk =>
      rw [hm] at e0;have e1:bfsN A z (k + 1)=(A mk.1).foldl (add1 mk.1) (bfsN A z k):=e0;have hkl:=(List.getElem?_eq_some_iff.mp hm).1;obtain ⟨lk,hlk⟩:∃ lk,ls[k]? = some lk:=⟨ls[k]'(by rw [h.len]; exact hkl),List.getElem?_eq_getElem _⟩;have f0:FL A k lk mk (bfsN A z k) ls:=⟨h.len,h.zero,h.par,h.mono,fun x hx=>by
        obtain ⟨i,hi⟩:=List.getElem?_of_mem hx;exact h.cap i lk x hlk hi,⟨hm,hlk⟩,h.disc⟩
      obtain ⟨ls',f⟩:=f0.fold (os:=A mk.1) fun o ho=>ho;rw [← e1] at f;refine ⟨ls',f.len,f.zero,f.par,f.mono,fun i lk' li h1 h2 => ?_,fun j m hj hjm y hy => ?_⟩
      · have t1:=f.top li (List.mem_of_getElem? h2);have l1:=(List.getElem?_eq_some_iff.mp h1).1;have l2:=(List.getElem?_eq_some_iff.mp f.at_.2).1;have e3:ls'[k]=lk:=(List.getElem?_eq_some_iff.mp f.at_.2).2;have e4:ls'[k + 1]=lk':=(List.getElem?_eq_some_iff.mp h1).2
        have:=List.pairwise_iff_getElem.mp f.mono k (k + 1) l2 l1 (by omega)
        omega
      · by_cases q:j < k
        · exact f.disc j m q hjm y hy
        · have ej:j=k:=by omega
          subst ej;rw [f.at_.1] at hjm;cases hjm;have hin:y∈(bfsN A z (j + 1)).map (·.1):=by rw [e1]; exact fold_all _ _ _ y hy
          obtain ⟨mi,hmi,ey⟩:=List.mem_map.mp hin;obtain ⟨i,hi⟩:=List.getElem?_of_mem hmi;have il:=(List.getElem?_eq_some_iff.mp hi).1;obtain ⟨li,hli⟩:∃ li,ls'[i]? = some li:=⟨ls'[i]'(by rw [f.len]; exact il),List.getElem?_eq_getElem _⟩;exact ⟨i,mi,li,lk,hi,ey,hli,f.at_.2,f.top li (List.mem_of_getElem? hli)⟩
end Qs


namespace Qs
open PySem L2
section
variable {P:Program} {w:World} {K:PySem.W.Frag} {mg:Str→Option Value} {base:Heap} {CX:CXT} {f:Addr} {fd:FuncData}
abbrev s_is_whole:Stmt:=top 10
theorem sc_is_whole:FnScope ["thing"] ["thing"] (defScope s_is_whole):=⟨rfl,rfl,rfl,by decide +kernel,rfl,by decide +kernel,by decide +kernel⟩
def sp_is_whole (K:PySem.W.Frag):Sp:=fun vs H Q _=>∃ x,vs=[x]∧((∃ i,x=.int i∧Q (.bl true) H)∨(∃ b,x=.bl b∧Q (.bl false) H)∨∃ t,TyOf K H x t∧PySem.W.kitOne K t (.type "int")=some false∧Q (.bl false) H)
theorem ok_is_whole (T:Tx K mg) (F:FunD K "is_whole" "is_whole" s_is_whole f fd .none):FnOk P w K mg base CX 1 f fd ["thing"] (sp_is_whole K):=by
  refine F.ok sc_is_whole (fun vs H Q E h => ?_) (fun cdv A outer s H vs Q E hr h => ?_)
  · obtain ⟨x,rfl,_⟩:=h;rfl
  obtain ⟨x,rfl,h⟩:=h;refine ⟨_,(pss_one (ps_ret (pe_and (pe_callB (call_isiT "int") rfl T.b_isinstance bb_isinstance (pa_cons (pv 0) (pa_cons (pe_bty T.b_int bt_int) pa_nil))) (pe_one (pe_not (pe_callB (call_isiT "bool") rfl T.b_isinstance bb_isinstance (pa_cons (pv 0) (pa_cons (pe_bty T.b_bool bt_bool) pa_nil)))))))),?_⟩
  rcases h with ⟨i,rfl,q⟩ | ⟨b,rfl,q⟩ | ⟨t,ty,hk,q⟩
  · refine ⟨_,rfl,_,_,_,rfl,.int i,kit_ii,_,rfl,iteT ?_⟩;exact ⟨_,rfl,_,_,_,rfl,.int i,kit_ib,_,rfl,q⟩
  · refine ⟨_,rfl,_,_,_,rfl,.bl b,kit_bi,_,rfl,iteT ?_⟩;exact ⟨_,rfl,_,_,_,rfl,.bl b,kit_bb,_,rfl,q⟩
  · exact ⟨_,rfl,_,_,_,rfl,ty,hk,_,rfl,iteF q⟩
abbrev s_is_level:Stmt:=top 11
theorem sc_is_level:FnScope ["thing"] ["thing"] (defScope s_is_level):=⟨rfl,rfl,rfl,by decide +kernel,rfl,by decide +kernel,by decide +kernel⟩
def sp_is_level (K:PySem.W.Frag):Sp:=fun vs H Q _=>∃ i,vs=[.int i]∧(0≤i∧i≤40→Q (.bl true) H)∧(¬ (0≤i∧i≤40)→Q (.bl false) H)
theorem ok_is_level (T:Tx K mg) (q:Quiet CX) (F:FunD K "is_level" "is_level" s_is_level f fd .none) (C_is_whole:Fok P w K mg base CX 1 "is_whole" ["thing"] [] (sp_is_whole K)):FnOk P w K mg base CX 2 f fd ["thing"] (sp_is_level K):=by
  refine F.ok sc_is_level (fun vs H Q E h => ?_) (fun cdv A outer s H vs Q E hr h => ?_)
  · obtain ⟨x,rfl,_⟩:=h;rfl
  obtain ⟨i,rfl,h1,h2⟩:=h;refine ⟨_,(pss_one (ps_ret (pe_and (pe_callF C_is_whole q hr (pa_cons (pv 0) pa_nil)) (pe_one (pe_chain op_le op_le pe_int (pv 0) (pe_gint T.c_MOST)))))),?_⟩;refine ⟨_,rfl,_,rfl,.inl ⟨i,rfl,_,rfl,iteT ?_⟩⟩;refine ⟨_,rfl,_,_,rfl,rfl,_,rfl,ite2 (fun c => ?_) (fun c => ?_)⟩
  · have c':(0:Int)≤i:=of_decide_eq_true c;refine ⟨_,_,rfl,rfl,?_⟩;show Q (.bl (decide (i≤40))) H;by_cases d:i≤40
    · have e:decide (i≤40)=true:=decide_eq_true d;rw [e]; exact h1 ⟨c',d⟩
    · have e:decide (i≤40)=false:=decide_eq_false d;rw [e]; exact h2 fun z=>d z.2
  · exact h2 fun z=>c (decide_eq_true z.1)
abbrev s_need_level:Stmt:=top 14
theorem sc_need_level:FnScope ["level","least"] ["level","least"] (defScope s_need_level):=⟨rfl,rfl,rfl,by decide +kernel,rfl,by decide +kernel,by decide +kernel⟩
def sp_need_level:Sp:=fun vs H Q _=>∃ l m:Int,vs=[.int l,.int m]∧0≤l∧l≤40∧m≤l∧Q .non H
theorem ok_need_level {dV:Value} (T:Tx K mg) (q:Quiet CX) (F:FunD K "need_level" "need_level" s_need_level f fd dV) (C_is_level:Fok P w K mg base CX 2 "is_level" ["thing"] [] (sp_is_level K)):FnOk P w K mg base CX 3 f fd ["level","least"] sp_need_level:=by
  refine F.ok sc_need_level (fun vs H Q E h => ?_) (fun cdv A outer s H vs Q E hr h => ?_)
  · obtain ⟨_,_,rfl,_⟩:=h;rfl
  obtain ⟨l,m,rfl,h0,h1,h2,q'⟩:=h;refine ⟨_,(pss_one (ps_if (PW.pt (pw_or (pt_not (pt_val (pe_callF C_is_level q hr (pa_cons (pv 0) pa_nil)))) (pw_or1 (pt_cmpR op_lt (pv 0) (pv 1) (nomark _))))) (pss_one ps_never) pss_nil)),?_⟩;refine ⟨_,rfl,l,rfl,fun _ => ?_,fun z=>absurd ⟨h0,h1⟩ z⟩;refine ⟨_,rfl,iteF ?_⟩;refine ⟨_,rfl,_,rfl,_,_,rfl,rfl,_,rfl,ite2 (fun c => ?_) (fun _=>q')⟩;have c':l < m:=of_decide_eq_true c;exact absurd c' (by omega)
abbrev s_width_of:Stmt:=top 19
theorem sc_width_of:FnScope ["level","wide","step"] ["level"] (defScope s_width_of):=⟨rfl,rfl,rfl,by decide +kernel,rfl,by decide +kernel,by decide +kernel⟩
def sp_width_of:Sp:=fun vs H Q _=>∃ n:Nat,vs=[.int n]∧n≤64∧Q (.int ((2 ^ n:Nat):Int)) H
theorem ok_width_of (T:Tx K mg) (F:FunD K "width_of" "width_of" s_width_of f fd .none):FnOk P w K mg base CX 1 f fd ["level"] sp_width_of:=by
  refine F.ok sc_width_of (fun vs H Q E h => ?_) (fun cdv A outer s H vs Q E hr h => ?_)
  · obtain ⟨x,rfl,_⟩:=h;rfl
  obtain ⟨n,rfl,hn,q'⟩:=h;refine ⟨_,(pss_cons (ps_set (i:=1) sc_width_of.nd rfl (Or.inl rfl) pe_int) (pss_cons (ps_for PassesOwn.never rfl (pi_range1 rfl T.b_range (pa_cons (pv 0) pa_nil)) (pg_name (i:=2) sc_width_of.nd rfl (Or.inl rfl)) (pss_one (ps_set (i:=1) sc_width_of.nd rfl (Or.inl rfl) (pe_op op_mul (pv 1) pe_int)))) (pss_one (ps_ret (pv 1))))),?_⟩;refine ⟨_,rfl,_,rfl,by omega,by omega,for_range (fun i σ H2=>H2=H∧∃ x v,x=((2 ^ i:Nat):Int)∧σ=[some (.int n),some (.int x),v]) ⟨rfl,1,none,rfl,rfl⟩ ?_ ?_⟩
  · rintro i σ H2 hi ⟨rfl,x,v,rfl,rfl⟩;refine ⟨_,rfl,_,_,rfl,rfl,.inr ⟨by decide,by decide⟩,rfl,_,_,?_,rfl⟩;rw [Nat.pow_succ,Int.natCast_mul]; rfl
  · rintro σ H2 ⟨rfl,x,v,rfl,rfl⟩;have e:((n:Int)).toNat=n:=Int.toNat_natCast n;refine ⟨_,rfl,?_⟩;rw [e];exact q'
abbrev s_need_place:Stmt:=top 20
theorem sc_need_place:FnScope ["x","y","level","wide","along"] ["x","y","level"] (defScope s_need_place):=⟨rfl,rfl,rfl,by decide +kernel,rfl,by decide +kernel,by decide +kernel⟩
def sp_need_place:Sp:=fun vs H Q _=>∃ (x y:Int) (n:Nat),vs=[.int x,.int y,.int n]∧n≤40∧(0≤x∧x < ((2 ^ n:Nat):Int))∧(0≤y∧y < ((2 ^ n:Nat):Int))∧∀ H',Same H H'→Q .non H'
theorem ok_need_place (T:Tx K mg) (q:Quiet CX) (F:FunD K "need_place" "need_place" s_need_place f fd .none) (C_width_of:Fok P w K mg base CX 1 "width_of" ["level"] [] sp_width_of) (C_is_whole:Fok P w K mg base CX 1 "is_whole" ["thing"] [] (sp_is_whole K)) :
    FnOk P w K mg base CX 2 f fd ["x","y","level"] sp_need_place:=by
  refine F.ok sc_need_place (fun vs H Q E h => ?_) (fun cdv A outer s H vs Q E hr h => ?_)
  · obtain ⟨_,_,_,rfl,_⟩:=h;rfl
  obtain ⟨x,y,n,rfl,hn,hx,hy,q'⟩:=h;refine ⟨_,(pss_cons (ps_set (i:=3) sc_need_place.nd rfl (Or.inl rfl) (pe_callF C_width_of q hr (pa_cons (pv 2) pa_nil))) (pss_one (ps_for PassesOwn.never rfl (pi_tup (pe_tupx (pax_c (pv 0) (pax_c (pv 1) pax_nil)))) (pg_name (i:=4) sc_need_place.nd rfl (Or.inl rfl)) (pss_one (ps_if (PW.pt (pw_or (pt_not (pt_val (pe_callF C_is_whole q hr (pa_cons (pv 4) pa_nil)))) (pw_or1 (pt_not (pt_chain op_le op_lt pe_int (pv 4) (pv 3)))))) (pss_one ps_never) pss_nil))))),?_⟩;refine ⟨_,rfl,n,rfl,by omega,?_⟩;refine ⟨_,rfl,_,rfl,(by show 2≤sizeLine; decide),fun p hp=>⟨p,rfl,⟨_,SqT.of upd_same⟩,for_tup (xs:=[.int x,.int y]) (fun i σ H2=>H2=upd H p (.tup [.int x,.int y])∧∃ v,σ=[some (.int x),some (.int y),some (.int n),some (.int ((2 ^ n:Nat):Int)),v]) ⟨rfl,none,rfl⟩ (fun i σ H2 _ h2=>by rw [h2.1]; exact SqT.of upd_same) ?_ ?_⟩⟩
  · rintro i u σ H2 hu ⟨rfl,v,rfl⟩;obtain ⟨a,rfl,ha⟩:∃ a,u=V.int a∧(0≤a∧a < ((2 ^ n:Nat):Int)):=by
      rcases i with _ | _ | i
      · exact ⟨x,(Option.some.inj hu).symm,hx⟩
      · exact ⟨y,(Option.some.inj hu).symm,hy⟩
      · cases hu
    refine ⟨_,rfl,_,rfl,.inl ⟨a,rfl,_,rfl,iteF ?_⟩⟩;refine ⟨_,rfl,_,_,rfl,rfl,_,rfl,ite2 (fun _ => ?_) (fun c=>absurd (decide_eq_true ha.1) c)⟩;exact ⟨_,rfl,_,_,rfl,rfl,_,rfl,iteNS ha.2 ⟨rfl,_,rfl⟩⟩
  · rintro σ H2 ⟨rfl,v,rfl⟩;exact q' _ (Same.new hp _)
theorem div_two (x m:Nat):x / 2 ^ m / 2=x / 2 ^ (m + 1):=by rw [Nat.div_div_eq_div_mul,Nat.pow_succ]
abbrev s_code_at:Stmt:=top 21
theorem sc_code_at:FnScope ["x","y","level","code","step"] ["x","y","level"] (defScope s_code_at):=⟨rfl,rfl,rfl,by decide +kernel,rfl,by decide +kernel,by decide +kernel⟩
def sp_code_at:Sp:=fun vs H Q _=>∃ x y n:Nat,vs=[.int x,.int y,.int n]∧n≤40∧x < 2 ^ n∧y < 2 ^ n∧∀ H',Same H H'→Q (.str (txt (low n x y))) H'
theorem ok_code_at (T:Tx K mg) (q:Quiet CX) (F:FunD K "code_at" "code_at" s_code_at f fd .none) (C_need_level_1:Fok P w K mg base CX 3 "need_level" ["level","least"] [.int 0] sp_need_level) (C_need_place:Fok P w K mg base CX 2 "need_place" ["x","y","level"] [] sp_need_place) :
    FnOk P w K mg base CX 4 f fd ["x","y","level"] sp_code_at:=by
  refine F.ok sc_code_at (fun vs H Q E h => ?_) (fun cdv A outer s H vs Q E hr h => ?_)
  · obtain ⟨_,_,_,rfl,_⟩:=h;rfl
  obtain ⟨x,y,n,rfl,hn,hx,hy,q'⟩:=h;refine ⟨_,(pss_cons (ps_expr (pe_callF C_need_level_1 q hr (pa_cons (pv 2) pa_nil))) (pss_cons (ps_expr (pe_callF C_need_place q hr (pa_cons (pv 0) (pa_cons (pv 1) (pa_cons (pv 2) pa_nil))))) (pss_cons (ps_set (i:=3) sc_code_at.nd rfl (Or.inl rfl) pe_str) (pss_cons (ps_for PassesOwn.never rfl (pi_range1 rfl T.b_range (pa_cons (pv 2) pa_nil)) (pg_name (i:=4) sc_code_at.nd rfl (Or.inl rfl)) (pss_cons (ps_set (i:=3) sc_code_at.nd rfl (Or.inl rfl) (pe_op op_add_str (pe_callTy call_str_int rfl T.b_str bt_str (pa_cons (pe_op op_add (pe_op op_mul (pe_op op_mod (pv 1) pe_int) pe_int) (pe_op op_mod (pv 0) pe_int)) pa_nil)) (pv 3))) (pss_cons (ps_set (i:=0) sc_code_at.nd rfl (Or.inl rfl) (pe_op op_fdivW (pv 0) pe_int)) (pss_one (ps_set (i:=1) sc_code_at.nd rfl (Or.inl rfl) (pe_op op_fdivW (pv 1) pe_int)))))) (pss_one (ps_ret (pv 3))))))),?_⟩;refine ⟨_,rfl,(n:Int),0,rfl,by omega,by omega,by omega,?_⟩;refine ⟨_,rfl,_,rfl,_,rfl,x,y,n,rfl,hn,⟨by omega,by exact_mod_cast hx⟩,⟨by omega,by exact_mod_cast hy⟩,fun H1 s1 => ?_⟩;refine ⟨_,rfl,_,rfl,by omega,by omega,for_range (fun i σ H2=>H2=H1∧∃ z a b v,z=txt (low i x y)∧a=((x / 2 ^ i:Nat):Int)∧b=((y / 2 ^ i:Nat):Int)∧σ=[some (.int a),some (.int b),some (.int n),some (.str z),v]) ⟨rfl,_,_,_,none,empty_eq,by simp,by simp,rfl⟩ ?_ ?_⟩
  · rintro i σ H2 hi ⟨rfl,z,a,b,v,rfl,rfl,rfl,rfl⟩;have hi':i < n:=by omega
    have ed:((y / 2 ^ i:Nat):Int) % 2 * 2 + ((x / 2 ^ i:Nat):Int) % 2=((dgt x y i:Nat):Int):=by
      unfold dgt;generalize x / 2 ^ i=a;generalize y / 2 ^ i=b;omega
    have hd:=dgt_lt x y i;have lg:((dgt x y i:Nat):Int).natAbs.log2 < 1920:=by
      rw [Int.natAbs_natCast];exact four (P:=fun d=>d.log2 < 1920) (by decide +kernel) (by decide +kernel) (by decide +kernel) (by decide +kernel) hd
    refine ⟨_,rfl,_,_,rfl,rfl,(by show (0:Int) < 2; decide),_,_,rfl,rfl,.inr ⟨by decide,by decide⟩,_,rfl,_,_,rfl,rfl,(by show (0:Int) < 2; decide),_,_,rfl,rfl,((dgt x y i:Nat):Int),(by show [V.int _]=[V.int _]; rw [ed]),lg,?_⟩;rw [str_one hd];refine ⟨_,rfl,_,_,rfl,rfl,small (by rw [txt_len,low_len]; show 1 + i≤1000; omega),?_⟩;refine ⟨_,rfl,_,_,rfl,rfl,cdivW (by decide) (by decide),_,rfl,_,_,rfl,rfl,cdivW (by decide) (by decide),rfl,_,_,_,_,?_,?_,?_,rfl⟩
    · rw [one_txt,low_succ]
    · rw [← div_two]; rfl
    · rw [← div_two]; rfl
  · rintro σ H2 ⟨rfl,z,a,b,v,rfl,rfl,rfl,rfl⟩;have e:((n:Int)).toNat=n:=Int.toNat_natCast n;refine ⟨_,rfl,?_⟩;rw [e];exact q' _ s1
end
end Qs
namespace Qs
open PySem L2
theorem low_take {n x y k:Nat} (h:k < n):(low n x y).take (k + 1)=(low n x y).take k++[dgt x y (n - 1 - k)]:=by
  rw [List.take_add_one]
  congr 1
  simp [low,h]
theorem pre_txt (ds:List Nat) (k:Nat):pre (txt ds) k=txt (ds.take k):=by
  unfold pre txt;simp [List.map_take]
theorem cxs_low {n x y:Nat} (hx:x < 2 ^ n):∀ k,k≤n→cxs ((low n x y).take k)=x / 2 ^ (n - k)
  | 0,_=>by rw [Nat.sub_zero,Nat.div_eq_of_lt hx]; rfl
  | k + 1,h=>by
    rw [low_take (by omega),cxs_snoc,cxs_low hx k (by omega)];have e:n - k=(n - (k + 1)) + 1:=by omega
    have e1:n - 1 - k=n - (k + 1):=by omega
    rw [e,← div_two,e1];unfold dgt;omega
theorem cys_low {n x y:Nat} (hy:y < 2 ^ n):∀ k,k≤n→cys ((low n x y).take k)=y / 2 ^ (n - k)
  | 0,_=>by rw [Nat.sub_zero,Nat.div_eq_of_lt hy]; rfl
  | k + 1,h=>by
    rw [low_take (by omega),cys_snoc,cys_low hy k (by omega)];have e:n - k=(n - (k + 1)) + 1:=by omega
    have e1:n - 1 - k=n - (k + 1):=by omega
    rw [e,← div_two,e1];unfold dgt;omega
section
variable {P:Program} {w:World} {K:PySem.W.Frag} {mg:Str→Option Value} {base:Heap} {CX:CXT} {f:Addr} {fd:FuncData}
abbrev s_leaf_at:Stmt:=top 26
theorem sc_leaf_at:FnScope ["sheet","x","y","code","tree","signs"] ["sheet","x","y"] (defScope s_leaf_at):=⟨rfl,rfl,rfl,by decide +kernel,rfl,by decide +kernel,by decide +kernel⟩
def sp_leaf_at:Sp:=fun vs H Q _=>∃ (v:V) (t:Tr) (n x y:Nat),vs=[v,.int x,.int y]∧ShAt H v n t∧Good n t∧n≤40∧x < 2 ^ n∧y < 2 ^ n∧∀ (i:Nat) (c:Int) H',Same H H'→i≤n→node t ((low n x y).take i)=some (.col c)→Q (.str (txt ((low n x y).take i))) H'
theorem ok_leaf_at (T:Tx K mg) (q:Quiet CX) (F:FunD K "leaf_at" "leaf_at" s_leaf_at f fd .none) (C_code_at:Fok P w K mg base CX 4 "code_at" ["x","y","level"] [] sp_code_at):FnOk P w K mg base CX 5 f fd ["sheet","x","y"] sp_leaf_at:=by
  refine F.ok sc_leaf_at (fun vs H Q E h => ?_) (fun cdv A outer s H vs Q E hr h => ?_)
  · obtain ⟨_,_,_,_,_,rfl,_⟩:=h;rfl
  obtain ⟨v,t,n,x,y,rfl,⟨p,vt,rfl,hp,ht⟩,gt,hn,hx,hy,q'⟩:=h;refine ⟨_,(pss_cons (ps_set (i:=3) sc_leaf_at.nd rfl (Or.inl rfl) (pe_callF C_code_at q hr (pa_cons (pv 1) (pa_cons (pv 2) (pa_cons (pe_ix ix_tup (pv 0) pe_int (fun _ _=>rfl)) pa_nil))))) (pss_cons (ps_set (i:=4) sc_leaf_at.nd rfl (Or.inl rfl) (pe_ix ix_tup (pv 0) pe_int (fun _ _=>rfl))) (pss_cons (ps_set (i:=5) sc_leaf_at.nd rfl (Or.inl rfl) pe_int) (pss_cons (ps_while PassesOwn.never (pt_val (pe_callB (call_isiT "tuple") rfl T.b_isinstance bb_isinstance (pa_cons (pv 4) (pa_cons (pe_bty T.b_tuple bt_tuple) pa_nil)))) (pss_cons (ps_set (i:=4) sc_leaf_at.nd rfl (Or.inl rfl) (pe_ix ix_tup (pv 4) (pe_callTy call_int_str rfl T.b_int bt_int (pa_cons (pe_ix ix_str (pv 3) (pv 5) (fun _ _=>rfl)) pa_nil)) (fun _ _=>rfl))) (pss_one (ps_set (i:=5) sc_leaf_at.nd rfl (Or.inl rfl) (pe_op op_add (pv 5) pe_int))))) (pss_one (ps_ret (pe_slice sl_str (pv 3) po_none (po_some (pv 5))))))))),?_⟩
  have zs:(txt (low n x y)).length≤sizeLine:=by rw [txt_len,low_len]; exact small (by omega)
  refine ⟨_,rfl,_,rfl,_,rfl,p,_,_,_,rfl,rfl,SqT.of hp,rfl,x,y,n,rfl,hn,hx,hy,fun H1 s1 => ?_⟩;refine ⟨_,rfl,p,_,_,_,rfl,rfl,SqT.of (s1 _ _ hp),rfl,?_⟩;refine while_by (fun σ H2=>H2=H1∧∃ (i:Nat) (v':V) (t':Tr),i≤n∧TrAt H1 v' t'∧node t ((low n x y).take i)=some t'∧Good (n - i) t'∧σ=[some (.ref p),some (.int x),some (.int y),some (.str (txt (low n x y))),some v',some (.int (i:Int))]) (fun σ H2=>match σ with | [_,_,_,_,_,some (.int i)]=>n - i.toNat | _=>0) ⟨rfl,0,vt,t,Nat.zero_le _,ht.up s1.tups,rfl,gt,rfl⟩ ?_ ?_
  · rintro σ H2 ⟨rfl,i,v',t',hi,ht',hnd,gt',rfl⟩;cases ht' with
    | col j =>
      refine ⟨_,rfl,_,_,_,rfl,.int j,kit_it,_,rfl,iteF ?_⟩;refine ⟨_,rfl,_,rfl,_,rfl,_,rfl,zs,?_⟩;rw [slice_pre,pre_txt];exact q' i j H2 s1 hi hnd
    | @four r xa xb xc xd ta tb tc td e ja jb jc jd =>
      have hi1:i < n:=by
        rcases Nat.lt_or_ge i n with z | z
        · exact z
        · rw [show n - i=0 by omega] at gt';exact gt'.elim
      have ed:(low n x y).take (i + 1)=(low n x y).take i++[dgt x y (n - 1 - i)]:=low_take hi1;have hd:dgt x y (n - 1 - i) < 4:=dgt_lt ..;have ga:(low n x y)[i]? = some (dgt x y (n - 1 - i)):=by simp [low,hi1]
      generalize dgt x y (n - 1 - i)=d at *;rw [show n - i=(n - (i + 1)) + 1 by omega] at gt';obtain ⟨g1,g2,g3,g4,_⟩:=gt';have key:∃ x',atI [xa,xb,xc,xd] (d:Int)=some x'∧TrAt H2 x' (qk (.four ta tb tc td) d)∧Good (n - (i + 1)) (qk (.four ta tb tc td) d):=by
        rcases d with _ | _ | _ | _ | d
        · exact ⟨xa,rfl,ja,g1⟩
        · exact ⟨xb,rfl,jb,g2⟩
        · exact ⟨xc,rfl,jc,g3⟩
        · exact ⟨xd,rfl,jd,g4⟩
        · omega
      obtain ⟨x',ex,kx,gx⟩:=key;have at':atI (txt (low n x y)).cps.toList (i:Int)=some (48 + d):=atI_nat (by show (((low n x y).map (48 + ·)).toArray).toList[i]? = _; simp [ga]);refine ⟨_,rfl,_,_,_,rfl,.tup e,kit_tt,_,rfl,iteT ?_⟩;refine ⟨_,rfl,_,rfl,_,rfl,_,i,48 + d,rfl,rfl,zs,at',_,(d:Int),rfl,int_one hd,by show (1:Nat)≤640; decide,r,_,_,x',rfl,rfl,SqT.of e,ex,?_⟩;refine ⟨_,rfl,_,_,rfl,rfl,⟨rfl,i + 1,x',_,by omega,kx,?_,gx,by simp⟩,?_⟩
      · rw [ed,node_app,hnd];rfl
      · show n - ((i:Int) + 1).toNat < n - ((i:Int)).toNat;omega
  · rintro σ H2 Q1 Q2 k h;obtain ⟨a,e1,b,c,d,e2,e3,e4,k',f1,f2⟩:=h;exact ⟨a,e1,b,c,d,e2,e3,e4,k',f1,k _ _ f2⟩
end
end Qs


namespace Qs
open PySem L2
theorem sqX_cxs:∀ (ds:List Nat) (n:Nat),ds.length≤n→sqX n ds=cxs ds * 2 ^ (n - ds.length)
  | [],n,_=>by show 0=cxs [] * 2 ^ (n - 0); rw [show cxs []=0 from rfl]; omega
  | d::ds,n,h=>by
    rw [List.length_cons] at h;obtain ⟨k,rfl⟩:∃ k,n=k + 1 + ds.length:=⟨n - 1 - ds.length,by omega⟩;have ih:=sqX_cxs ds (k + ds.length) (by omega);have e1:cxs (d::ds)=d % 2 * 2 ^ ds.length + cxs ds:=by
      have:=cxs_app [d] ds
      rw [List.singleton_append] at this;rw [this];simp [cxs]
    show d % 2 * 2 ^ (k + 1 + ds.length - 1) + sqX (k + 1 + ds.length - 1) ds=_;rw [show k + 1 + ds.length - 1=k + ds.length by omega,ih,e1,List.length_cons,show k + 1 + ds.length - (ds.length + 1)=k by omega,show k + ds.length - ds.length=k by omega,Nat.add_mul,Nat.mul_assoc,← Nat.pow_add,Nat.add_comm ds.length k]
theorem sqY_cys:∀ (ds:List Nat) (n:Nat),ds.length≤n→sqY n ds=cys ds * 2 ^ (n - ds.length)
  | [],n,_=>by show 0=cys [] * 2 ^ (n - 0); rw [show cys []=0 from rfl]; omega
  | d::ds,n,h=>by
    rw [List.length_cons] at h;obtain ⟨k,rfl⟩:∃ k,n=k + 1 + ds.length:=⟨n - 1 - ds.length,by omega⟩;have ih:=sqY_cys ds (k + ds.length) (by omega);have e1:cys (d::ds)=d / 2 * 2 ^ ds.length + cys ds:=by
      have:=cys_app [d] ds
      rw [List.singleton_append] at this;rw [this];simp [cys]
    show d / 2 * 2 ^ (k + 1 + ds.length - 1) + sqY (k + 1 + ds.length - 1) ds=_;rw [show k + 1 + ds.length - 1=k + ds.length by omega,ih,e1,List.length_cons,show k + 1 + ds.length - (ds.length + 1)=k by omega,show k + ds.length - ds.length=k by omega,Nat.add_mul,Nat.mul_assoc,← Nat.pow_add,Nat.add_comm ds.length k]
def aroD (L:List Sq) (z z':List Nat):Prop:=Near (linkB (colK L)) (dueP L) z z'

structure LandCx (L:List Sq) (A:List Nat→List (List Nat)) (zs:List (List Nat)):Prop where
  ez:zs=L.map (·.z)
  hB:L.Pairwise BefS
  len:zs.length≤1500
  near:∀ z z',z'∈A z↔aroD L z z'
section
variable {L:List Sq} {A:List Nat→List (List Nat)} {zs:List (List Nat)}
theorem LandCx.cl (C:LandCx L A zs):∀ z∈zs,∀ y∈A z,y∈zs:=fun z _ y hy=>by
  obtain ⟨dd,hdd,_,h⟩:=(C.near z y).mp hy;obtain ⟨q1,h1,r1,h2,rfl,_⟩:=dueP_pair hdd;rw [C.ez];rcases h with ⟨_,e⟩ | ⟨_,e⟩
  · rw [e]; exact List.mem_map.mpr ⟨r1,h2,rfl⟩
  · rw [e]; exact List.mem_map.mpr ⟨q1,h1,rfl⟩
theorem LandCx.col (C:LandCx L A zs) {z y:List Nat} (h:y∈A z):valV (colK L) (ky y)=valV (colK L) (ky z):=by
  obtain ⟨d,_,hb,h⟩:=(C.near z y).mp h;have e:valV (colK L) (ky d.1)=valV (colK L) (ky d.2):=of_decide_eq_true hb;rcases h with ⟨rfl,rfl⟩ | ⟨rfl,rfl⟩
  · exact e.symm
  · exact e
end
end Qs


namespace Qs
open PySem L2
theorem leaf_sq {t:Tr} {n:Nat} (gt:Good n t) {z:List Nat} {c:Int} (h4:∀ d∈z,d < 4) (h:node t z=some (.col c)):∃ q∈sqs [] t 0 0 n,q.z=z∧q.c=c:=by
  have go:∀ (z:List Nat) (t:Tr) (p:List Nat) (x y k:Nat),Good k t→(∀ d∈z,d < 4)→node t z=some (.col c)→∃ q∈sqs p t x y k,q.z=p++z∧q.c=c:=by
    intro z
    induction z with
    | nil =>
      intro t p x y k _ _ h;have e:t=.col c:=Option.some.inj h;subst e;exact ⟨⟨p,c,x,y,2 ^ k⟩,List.mem_singleton.mpr rfl,by simp,rfl⟩
    | cons d z ih =>
      intro t p x y k g h4 h;cases t with
      | col i=>cases h
      | four a b cc dd =>
        rcases k with _ | k
        · exact g.elim
        have hd:=h4 d List.mem_cons_self;have h4':∀ e∈z,e < 4:=fun e he=>h4 e (List.mem_cons_of_mem _ he);have gq:=g.q d;have app:∀ e,p++[e]++z=p++e::z:=fun e=>by simp
        show ∃ q∈sqs (p++[0]) a x y k++(sqs (p++[1]) b (x + 2 ^ k) y k++(sqs (p++[2]) cc x (y + 2 ^ k) k++sqs (p++[3]) dd (x + 2 ^ k) (y + 2 ^ k) k)),_;rcases d with _ | _ | _ | _ | d
        · obtain ⟨q,h1,h2,h3⟩:=ih a (p++[0]) x y k gq h4' h;exact ⟨q,List.mem_append_left _ h1,by rw [h2,app],h3⟩
        · obtain ⟨q,h1,h2,h3⟩:=ih b (p++[1]) (x + 2 ^ k) y k gq h4' h;exact ⟨q,List.mem_append_right _ (List.mem_append_left _ h1),by rw [h2,app],h3⟩
        · obtain ⟨q,h1,h2,h3⟩:=ih cc (p++[2]) x (y + 2 ^ k) k gq h4' h;exact ⟨q,List.mem_append_right _ (List.mem_append_right _ (List.mem_append_left _ h1)),by rw [h2,app],h3⟩
        · obtain ⟨q,h1,h2,h3⟩:=ih dd (p++[3]) (x + 2 ^ k) (y + 2 ^ k) k gq h4' h;exact ⟨q,List.mem_append_right _ (List.mem_append_right _ (List.mem_append_right _ h1)),by rw [h2,app],h3⟩
        · omega
  obtain ⟨q,h1,h2,h3⟩:=go z t [] 0 0 n gt h4 h;exact ⟨q,h1,by rw [h2]; rfl,h3⟩
theorem valV_no {kvs:List (Key × V)} {k:Key}:k∉kvs.map (·.1)→valV kvs k=none:=by
  induction kvs with
  | nil=>intro _; rfl
  | cons p r ih =>
    intro h;rw [List.map_cons,List.mem_cons] at h;rw [valV_neg fun e=>h (.inl e.symm)];exact ih fun c=>h (.inr c)
theorem apart3 {L:List Sq} (h:L.Pairwise BefS):∀ {q r:Sq},q∈L→r∈L→q=r∨Sep q r∨Sep r q:=by
  induction L with
  | nil=>intro q r hq; cases hq
  | cons p L ih =>
    obtain ⟨h1,h2⟩:=List.pairwise_cons.mp h;intro q r hq hr;rcases List.mem_cons.mp hq with eq | hq
    · rcases List.mem_cons.mp hr with er | hr
      · exact .inl (eq.trans er.symm)
      · exact .inr (.inl (eq▸(h1 r hr).1))
    · rcases List.mem_cons.mp hr with er | hr
      · exact .inr (.inr (er▸(h1 q hq).1))
      · exact ih h2 hq hr
theorem one_leaf {L:List Sq} (h:L.Pairwise BefS) {q r:Sq} (hq:q∈L) (hr:r∈L) {x y:Nat} (a:q.x≤x∧x < q.x + q.w∧q.y≤y∧y < q.y + q.w) (b:r.x≤x∧x < r.x + r.w∧r.y≤y∧y < r.y + r.w):q=r:=by
  rcases apart3 h hq hr with e | e | e
  · exact e
  · unfold Sep at e;omega
  · unfold Sep at e;omega
theorem near_of {L:List Sq} (hB:L.Pairwise BefS) (hw:∀ q∈L,0 < q.w) {A:List Nat→List (List Nat)} {zs:List (List Nat)} (C:LandCx L A zs) {q r:Sq} (hq:q∈L) (hr:r∈L) (hc:q.c=r.c) (ht:touchB q r=true):r.z∈A q.z:=by
  obtain ⟨i,hi⟩:=List.getElem?_of_mem hq;obtain ⟨j,hj⟩:=List.getElem?_of_mem hr;have lk:∀ {a b:Sq},a∈L→b∈L→a.c=b.c→linkB (colK L) (a.z,b.z)=true:=fun {a b} ha hb e=>by
    unfold linkB;rw [colK_val hB ha,colK_val hB hb,e];exact decide_eq_true rfl
  refine (C.near q.z r.z).mpr ?_;rcases Nat.lt_trichotomy i j with h | h | h
  · exact ⟨(q.z,r.z),dueP_of hi hj h ht,lk hq hr hc,.inl ⟨rfl,rfl⟩⟩
  · rw [h,hj] at hi;cases hi;rw [touchB_iff] at ht
    have:=hw q hq
    unfold over mn mx at ht
    repeat' split at ht
    all_goals omega
  · exact ⟨(r.z,q.z),dueP_of hj hi h (by rw [touch_sym]; exact ht),lk hr hq hc.symm,.inr ⟨rfl,rfl⟩⟩
theorem touch_of {L:List Sq} (hB:L.Pairwise BefS) {A:List Nat→List (List Nat)} {zs:List (List Nat)} (C:LandCx L A zs) {q r:Sq} (hq:q∈L) (hr:r∈L) (h:r.z∈A q.z):touchB q r=true:=by
  obtain ⟨d,hd,_,h⟩:=(C.near q.z r.z).mp h;obtain ⟨q2,hq2,r2,hr2,rfl,tt⟩:=dueP_pair hd;rcases h with ⟨e3,e4⟩ | ⟨e3,e4⟩
  · rw [z_inj hB hq hq2 e3,z_inj hB hr hr2 e4];exact tt
  · rw [z_inj hB hq hr2 e3,z_inj hB hr hq2 e4,touch_sym];exact tt

inductive Wk (L:List Sq) (c0:Int):Sq→Sq→Nat→Prop
  | nil {q:Sq}:q∈L→q.c=c0→Wk L c0 q q 0
  | snoc {a b c:Sq} {m:Nat}:Wk L c0 a b m→c∈L→c.c=c0→touchB b c=true→Wk L c0 a c (m + 1)
theorem Wk.fin {L:List Sq} {c0:Int} {a b:Sq} {m:Nat} (h:Wk L c0 a b m):b∈L∧b.c=c0:=by
  cases h with
  | nil h1 h2=>exact ⟨h1,h2⟩
  | snoc _ h1 h2 _=>exact ⟨h1,h2⟩
theorem Wk.cons {L:List Sq} {c0:Int} {a b c:Sq} {m:Nat} (h:Wk L c0 b c m) (h1:a∈L) (h2:a.c=c0) (ht:touchB a b=true):Wk L c0 a c (m + 1):=by
  induction h with
  | nil k1 k2=>exact .snoc (.nil h1 h2) k1 k2 ht
  | snoc _ k1 k2 k3 ih=>exact .snoc ih k1 k2 k3
theorem Wk.symm {L:List Sq} {c0:Int} {a b:Sq} {m:Nat} (h:Wk L c0 a b m):Wk L c0 b a m:=by
  induction h with
  | nil h1 h2=>exact .nil h1 h2
  | snoc _ h1 h2 h3 ih=>exact ih.cons h1 h2 (by rw [touch_sym]; exact h3)
def Dst (L:List Sq) (c0:Int) (a b:Sq) (m:Nat):Prop:=Wk L c0 a b m∧∀ k,Wk L c0 a b k→m≤k
theorem Dst.one {L:List Sq} {c0:Int} {a b:Sq} {m k:Nat} (h:Dst L c0 a b m) (g:Dst L c0 a b k):m=k:=Nat.le_antisymm (h.2 _ g.1) (g.2 _ h.1)
structure Way (L:List Sq) (c0:Int) (a b:Sq) (ws:List Sq):Prop where
  pos:0 < ws.length
  ini:ws[0]? = some a
  fin:ws[ws.length - 1]? = some b
  all:∀ q∈ws,q∈L∧q.c=c0
  tch:∀ (i:Nat) (x y:Sq),ws[i]? = some x→ws[i + 1]? = some y→touchB x y=true
theorem Way.one {L:List Sq} {c0:Int} {a:Sq} (h:a∈L) (hc:a.c=c0):Way L c0 a a [a]:=⟨Nat.zero_lt_one,rfl,rfl,fun q hq=>by
  rw [List.mem_singleton.mp hq]; exact ⟨h,hc⟩,fun i x y _ h2=>by
  have:=(List.getElem?_eq_some_iff.mp h2).1
  exact absurd this (by simp)⟩
theorem Way.snoc {L:List Sq} {c0:Int} {a b c:Sq} {ws:List Sq} (W:Way L c0 a b ws) (h:c∈L) (hc:c.c=c0) (ht:touchB b c=true):Way L c0 a c (ws++[c]):=by
  have hp:=W.pos;refine ⟨by rw [List.length_append]; omega,by rw [List.getElem?_append_left hp]; exact W.ini,?_,fun q hq => ?_,fun i x y h1 h2 => ?_⟩
  · rw [List.length_append,List.length_singleton,Nat.add_sub_cancel,List.getElem?_append_right (Nat.le_refl _),Nat.sub_self];rfl
  · rcases List.mem_append.mp hq with hq | hq
    · exact W.all q hq
    · rw [List.mem_singleton.mp hq]; exact ⟨h,hc⟩
  · have l2:=(List.getElem?_eq_some_iff.mp h2).1;rw [List.length_append,List.length_singleton] at l2;by_cases e:i + 1 < ws.length
    · rw [List.getElem?_append_left e] at h2;rw [List.getElem?_append_left (by omega)] at h1;exact W.tch i x y h1 h2
    · have e':i + 1=ws.length:=by omega
      rw [e',List.getElem?_append_right (Nat.le_refl _),Nat.sub_self] at h2;rw [List.getElem?_append_left (by omega)] at h1;have f:=W.fin;rw [← e',Nat.add_sub_cancel,h1] at f;cases f;cases h2;exact ht

section
variable {L:List Sq} {A:List Nat→List (List Nat)} {q0:Sq} {k:Nat} {ls:List Nat}
theorem mem_wk (hB:L.Pairwise BefS) (C:LandCx L A (L.map (·.z))) (hq0:q0∈L) (B:BL A k (bfsN A q0.z k) ls):∀ (i:Nat) (m:Mem) (l:Nat),(bfsN A q0.z k)[i]? = some m→ls[i]? = some l→l≤i∧∃ q∈L,q.z=m.1∧q.c=q0.c∧Wk L q0.c q0 q l:=by
  have hz:q0.z∈L.map (·.z):=List.mem_map.mpr ⟨q0,hq0,rfl⟩;have bi:=BI.bfs C.cl hz k;intro i
  induction i using Nat.strongRecOn with
  | ind i ih =>
    intro m l h1 h2;rcases Nat.eq_zero_or_pos i with e | hi
    · subst e;rw [bfs_head A q0.z k] at h1;rw [B.zero] at h2;cases h1;cases h2;exact ⟨Nat.le_refl _,q0,hq0,rfl,rfl,.nil hq0 rfl⟩
    · obtain ⟨j,c,mj,lj,g1,g2,g3,g4,g5,g6,g7⟩:=B.par i m hi h1;rw [h2] at g7;cases g7;obtain ⟨hl,r,hr,e1,e2,wk⟩:=ih j g1 mj lj g3 g6;obtain ⟨q,hq,e3⟩:=List.mem_map.mp (bi.sub m (List.mem_of_getElem? h1));have e3':q.z=m.1:=e3;have hA:q.z∈A r.z:=by rw [e3',e1,g4]; exact g5
      have hc:=C.col hA;rw [colK_val hB hq,colK_val hB hr] at hc;injection hc with hc;injection hc with hc;exact ⟨by omega,q,hq,e3',hc.trans e2,.snoc wk hq (hc.trans e2) (touch_of hB C hr hq hA)⟩
theorem wk_mem (hB:L.Pairwise BefS) (hw:∀ q∈L,0 < q.w) (C:LandCx L A (L.map (·.z))) (hq0:q0∈L) (hk:(bfsN A q0.z k).length=k) (B:BL A k (bfsN A q0.z k) ls) {q:Sq} {m:Nat} (h:Wk L q0.c q0 q m):∃ (i:Nat) (mm:Mem) (l:Nat),(bfsN A q0.z k)[i]? = some mm∧mm.1=q.z∧ls[i]? = some l∧l≤m:=by
  induction h with
  | nil h1 h2 =>
    exact ⟨0,_,0,bfs_head A q0.z k,rfl,B.zero,Nat.le_refl _⟩
  | snoc w1 h1 h2 h3 ih =>
    obtain ⟨j,mj,lj,g1,g2,g3,g4⟩:=ih;have jl:=(List.getElem?_eq_some_iff.mp g1).1;have b1:=w1.fin;obtain ⟨i,mi,li,lj',k1,k2,k3,k4,k5⟩:=B.disc j mj (by omega) g1 _ (by rw [g2]; exact near_of hB hw C b1.1 h1 (b1.2.trans h2.symm) h3);rw [g3] at k4;cases k4;exact ⟨i,mi,li,k1,k2,k3,by omega⟩
end

theorem leaf_in {t:Tr} {n X Y:Nat} (gt:Good n t) (xn:X < 2 ^ n) (yn:Y < 2 ^ n) {L:List Sq} (eL:L=sqs [] t 0 0 n) {q0:Sq} (hq0:q0∈L) (ins:q0.x≤X∧X < q0.x + q0.w∧q0.y≤Y∧Y < q0.y + q0.w) {i:Nat} {c:Int} (hi:i≤n) (hnd:node t ((low n X Y).take i)=some (.col c)):(low n X Y).take i=q0.z:=by
  obtain ⟨z,ez⟩:∃ z,z=(low n X Y).take i:=⟨_,rfl⟩;rw [← ez] at hnd ⊢;have z4:∀ e∈z,e < 4:=fun e he=>by
    rw [ez] at he;have he':=List.mem_of_mem_take he;unfold low at he';obtain ⟨i',_,rfl⟩:=List.mem_map.mp he';exact dgt_lt _ _ _
  have hB:L.Pairwise BefS:=by rw [eL]; exact sqs_bef t [] 0 0 n gt
  obtain ⟨q1,hq1,e1,_⟩:=leaf_sq gt z4 hnd;obtain ⟨w1,e2,_,_,hl,ex,ey,ew⟩:=sqs_ok t [] 0 0 n gt q1 hq1;rw [List.nil_append] at e2;have ew1:w1=z:=by rw [← e2,e1]
  have lz:z.length=i:=by rw [ez,List.length_take,low_len]; omega
  have cx:cxs z=X / 2 ^ (n - i):=by rw [ez]; exact cxs_low xn i hi
  have cy:cys z=Y / 2 ^ (n - i):=by rw [ez]; exact cys_low yn i hi
  rw [ew1,lz,Nat.zero_add] at ex ey;rw [ew1,lz] at ew;rw [cx] at ex;rw [cy] at ey;have pp:=Nat.two_pow_pos (n - i);have m1:=Nat.div_add_mod X (2 ^ (n - i));have m2:=Nat.mod_lt X pp;have m3:=Nat.div_add_mod Y (2 ^ (n - i));have m4:=Nat.mod_lt Y pp;rw [Nat.mul_comm] at m1 m3
  have:q1=q0:=one_leaf hB (by rw [eL]; exact hq1) hq0 (x:=X) (y:=Y) ⟨by omega,by omega,by omega,by omega⟩ ins
  rw [← e1,this]

structure RI (L:List Sq) (q0:Sq) (k:Nat) (rest edge:List Sq) (kv:List (Key × V)):Prop where
  sub:∀ q∈rest,q∈L∧q.c=q0.c
  esub:∀ q∈edge,q∈L∧valV kv (ky q.z)=some (.int (k:Int))
  st:(valV kv (ky q0.z)).isSome=true
  is:∀ q∈L,∀ v,valV kv (ky q.z)=some v→∃ m:Nat,v=.int (m:Int)∧m≤k∧Dst L q0.c q0 q m∧(m=k→q∈edge)
  no:∀ q∈L,valV kv (ky q.z)=none→q.c≠q0.c∨q∈rest
  far:∀ q∈rest,valV kv (ky q.z)=none∧∀ m,Wk L q0.c q0 q m→k < m
def hitB (edge:List Sq) (q:Sq):Bool:=edge.any fun e=>touchB q e
theorem RI.step {L:List Sq} (hB:L.Pairwise BefS) {q0:Sq} {k:Nat} {rest edge:List Sq} {kv kv':List (Key × V)} (h:RI L q0 k rest edge kv)
    (hv:∀ y:List Nat,valV kv' (ky y)=if y∈(rest.filter (hitB edge)).map (·.z) then some (.int ((k + 1:Nat):Int)) else valV kv (ky y)):RI L q0 (k + 1) (rest.filter fun q => !hitB edge q) (rest.filter (hitB edge)) kv':=by
  have inA:∀ {q:Sq},q∈L→q.z∈(rest.filter (hitB edge)).map (·.z)→q∈rest∧hitB edge q=true:=fun {q} hq hz=>by
    obtain ⟨a,ha,e⟩:=List.mem_map.mp hz;obtain ⟨a1,a2⟩:=List.mem_filter.mp ha;rw [← z_inj hB (h.sub a a1).1 hq e];exact ⟨a1,a2⟩
  refine ⟨fun q hq=>h.sub q (List.mem_filter.mp hq).1,fun q hq => ?_,?_,fun q hq v e => ?_,fun q hq e => ?_,fun q hq => ?_⟩
  · refine ⟨(h.sub q (List.mem_filter.mp hq).1).1,?_⟩;rw [hv,if_pos (List.mem_map.mpr ⟨q,hq,rfl⟩)]
  · rw [hv]
    split
    · rfl
    · exact h.st
  · rw [hv] at e
    split at e
    · rename_i c
      obtain ⟨a1,a2⟩:=inA hq c;unfold hitB at a2;obtain ⟨b,hb,tb⟩:=List.any_eq_true.mp a2;obtain ⟨b1,b2⟩:=h.esub b hb;obtain ⟨m,e1,_,d,_⟩:=h.is b b1 _ b2;have em:m=k:=by
        injection e1 with e1;omega
      subst em;refine ⟨m + 1,(Option.some.inj e).symm,Nat.le_refl _,⟨.snoc d.1 hq (h.sub q a1).2 (by rw [touch_sym]; exact tb),fun j hj=>(h.far q a1).2 j hj⟩,fun _=>List.mem_filter.mpr ⟨a1,by unfold hitB; exact a2⟩⟩
    · obtain ⟨m,e1,e2,e3,_⟩:=h.is q hq v e;exact ⟨m,e1,by omega,e3,fun c=>by omega⟩
  · rw [hv] at e
    split at e
    · cases e
    · rename_i c
      rcases h.no q hq e with h1 | h1
      · exact .inl h1
      · refine .inr (List.mem_filter.mpr ⟨h1,?_⟩);cases hh:hitB edge q with
        | false=>rfl
        | true=>exact absurd (List.mem_map.mpr ⟨q,List.mem_filter.mpr ⟨h1,hh⟩,rfl⟩) c
  · obtain ⟨h1,h2⟩:=List.mem_filter.mp hq;have hL:=h.sub q h1;obtain ⟨f1,f2⟩:=h.far q h1;refine ⟨?_,fun m hm => ?_⟩
    · rw [hv,if_neg fun c => ?_]
      · exact f1
      · rw [(inA hL.1 c).2] at h2;cases h2
    · have h3:=f2 m hm;rcases Nat.lt_or_ge (k + 1) m with h4 | h4
      · exact h4
      have em:m=k + 1:=by omega
      subst em;cases hm with
      | snoc w1 k1 k2 k3 =>
        rename_i b
        have b1:=w1.fin;cases hb:valV kv (ky b.z) with
        | none =>
          rcases h.no b b1.1 hb with g | g
          · exact absurd b1.2 g
          · exact absurd ((h.far b g).2 k w1) (Nat.lt_irrefl _)
        | some v =>
          obtain ⟨m',_,g2,g3,g4⟩:=h.is b b1.1 v hb;rcases Nat.lt_or_ge m' k with g5 | g5
          · have:=f2 (m' + 1) (.snoc g3.1 k1 k2 k3)
            omega
          · have hin:=g4 (by omega)
            have:hitB edge q=true:=by
              unfold hitB;exact List.any_eq_true.mpr ⟨b,hin,by rw [touch_sym]; exact k3⟩
            rw [this] at h2;cases h2
theorem RI.done {L:List Sq} {q0:Sq} {k:Nat} {rest:List Sq} {kv:List (Key × V)} (h:RI L q0 k rest [] kv) {q:Sq} (hq:q∈L) :
    (∃ m:Nat,valV kv (ky q.z)=some (.int (m:Int))∧Dst L q0.c q0 q m)∨(valV kv (ky q.z)=none∧∀ m,¬ Wk L q0.c q0 q m):=by
  have all:∀ {b:Sq} {m:Nat},Wk L q0.c q0 b m→(valV kv (ky b.z)).isSome=true:=fun {b m} w=>by
    induction w with
    | nil _ _=>exact h.st
    | snoc w1 h1 h2 h3 ih =>
      rename_i x y m1
      have i1:=ih;obtain ⟨v,hv⟩:=Option.isSome_iff_exists.mp i1;obtain ⟨m',_,g2,g3,g4⟩:=h.is x w1.fin.1 v hv;rcases Nat.lt_or_ge m' k with g5 | g5
      · cases hy:valV kv (ky y.z) with
        | some v=>rfl
        | none =>
          rcases h.no y h1 hy with g | g
          · exact absurd h2 g
          · have:=(h.far y g).2 (m' + 1) (.snoc g3.1 h1 h2 h3)
            omega
      · exact absurd (g4 (by omega)) (by simp)
  cases e:valV kv (ky q.z) with
  | some v =>
    obtain ⟨m,e1,_,e3,_⟩:=h.is q hq v e;exact .inl ⟨m,by rw [e1],e3⟩
  | none =>
    refine .inr ⟨rfl,fun m w => ?_⟩
    have:=all w
    rw [e] at this;cases this
theorem RI.init {L:List Sq} {q0:Sq} (hq0:q0∈L) (hB:L.Pairwise BefS):RI L q0 0 (L.filter fun q=>decide (q.c=q0.c) && !decide (q.z=q0.z)) [q0] [(ky q0.z,.int 0)]:=by
  have v0:∀ {q:Sq},q∈L→valV [(ky q0.z,V.int 0)] (ky q.z)=if q.z=q0.z then some (V.int 0) else none:=fun {q} hq=>by
    by_cases e:q.z=q0.z
    · rw [if_pos e,e,valV_pos rfl]
    · rw [if_neg e,valV_neg fun c=>e (ky_inj c).symm,valV_nil]
  refine ⟨fun q hq => ?_,fun q hq => ?_,by rw [valV_pos rfl]; rfl,fun q hq v e => ?_,fun q hq e => ?_,fun q hq => ?_⟩
  · obtain ⟨h1,h2⟩:=List.mem_filter.mp hq;rw [Bool.and_eq_true] at h2;exact ⟨h1,of_decide_eq_true h2.1⟩
  · rw [List.mem_singleton.mp hq];exact ⟨hq0,by rw [valV_pos rfl]; rfl⟩
  · rw [v0 hq] at e
    split at e
    · rename_i c
      obtain rfl:=z_inj hB hq hq0 c;exact ⟨0,(Option.some.inj e).symm,Nat.le_refl _,⟨.nil hq rfl,fun _ _=>Nat.zero_le _⟩,fun _=>List.mem_singleton.mpr rfl⟩
    · cases e
  · rw [v0 hq] at e
    split at e
    · cases e
    · rename_i c
      by_cases hc:q.c=q0.c
      · refine .inr (List.mem_filter.mpr ⟨hq,?_⟩);rw [decide_eq_true hc,decide_eq_false c];rfl
      · exact .inl hc
  · obtain ⟨h1,h2⟩:=List.mem_filter.mp hq;rw [Bool.and_eq_true] at h2;have ne:¬ q.z=q0.z:=fun e=>by
      rw [decide_eq_true e] at h2;exact absurd h2.2 (by decide)
    refine ⟨by rw [v0 h1,if_neg ne],fun m w => ?_⟩;rcases Nat.eq_zero_or_pos m with e | e
    · subst e;cases w;exact absurd rfl ne
    · exact e
end Qs


namespace Qs
open PySem L2
def WayV (H0 H:Hp) (L:List Sq) (q1 q2:Sq) (u:V):Prop:=(u=.non∧∀ m,¬ Wk L q1.c q1 q2 m)∨∃ (l:Addr) (ws:List Sq),u=.ref l∧H0 l=none∧H l=some (.lst (ws.map fun q=>sV q.z))∧Way L q1.c q1 q2 ws∧Dst L q1.c q1 q2 (ws.length - 1)∧ws.length≤1501
def InSqr (q:Sq) (x y:Nat):Prop:=q.x≤x∧x < q.x + q.w∧q.y≤y∧y < q.y + q.w
def onK (M:List Mem):List (Key × V):=M.map fun m=>(ky m.1,parV m.2)
theorem mem_pairs {H:Hp}:∀ {us:List V} {M:List Mem},MemAt H us M→∃ as:List Addr,us=as.map V.ref∧PairsAt H as (onK M)
  | _,_,.nil=>⟨[],rfl,.nil⟩
  | _,_,.cons ⟨p,e,hp⟩ r=>by
    obtain ⟨as,h1,h2⟩:=mem_pairs r;exact ⟨p::as,by rw [e,h1]; rfl,.cons hp h2⟩
theorem atI_end {α:Type} {xs:List α} {v:α} (hp:0 < xs.length) (h:xs[xs.length - 1]? = some v):atI xs (-1)=some v:=by
  have e:ixN xs.length (-1)=some (xs.length - 1):=by
    unfold ixN;rw [if_neg (by omega),if_pos (by omega)]
    congr 1
    omega
  unfold atI;rw [e];exact h
theorem Way.end_ {L:List Sq} {c0:Int} {a b:Sq} {ws:List Sq} (W:Way L c0 a b ws):atI (ws.map fun q=>sV q.z) (-1)=some (sV b.z):=by
  refine atI_end (by rw [List.length_map]; exact W.pos) ?_;rw [List.length_map,List.getElem?_map,W.fin];rfl
section
variable {P:Program} {w:World} {K:PySem.W.Frag} {mg:Str→Option Value} {base:Heap} {CX:CXT} {f:Addr} {fd:FuncData}
abbrev s_way_between:Stmt:=top 35
theorem sc_way_between:FnScope ["sheet","x","y","to_x","to_y","first","last","onward","way"] ["sheet","x","y","to_x","to_y"] (defScope s_way_between):=⟨rfl,rfl,rfl,by decide +kernel,rfl,by decide +kernel,by decide +kernel⟩
def sp_way_between:Sp:=fun vs H Q _=>∃ (ps:Addr) (n x y x2 y2:Nat) (v:V) (t:Tr) (L:List Sq) (q1 q2:Sq),vs=[.ref ps,.int x,.int y,.int x2,.int y2]∧H ps=some (.tup [.int (n:Int),v])∧TrAt H v t∧Good n t∧n≤40∧cnt t≤1500∧L=sqs [] t 0 0 n∧q1∈L∧q2∈L∧InSqr q1 x y∧InSqr q2 x2 y2 ∧
  ∀ u H',Same H H'→WayV H H' L q1 q2 u→Q u H'
theorem ok_way_between (T:Tx K mg) (q:Quiet (CXe P w)) (F:FunD K "way_between" "way_between" s_way_between f fd .none) (C_leaf_at:Fok P w K mg base (CXe P w) 5 "leaf_at" ["sheet","x","y"] [] sp_leaf_at) (C_alike_around:Fok P w K mg base (CXe P w) 45 "alike_around" ["sheet"] [] sp_alike_around) (C_members_from:Fok P w K mg base (CXe P w) 1 "members_from" ["around","first"] [] sp_members_from) :
    FnOk P w K mg base (CXe P w) 46 f fd ["sheet","x","y","to_x","to_y"] sp_way_between:=by
  refine F.ok sc_way_between (fun vs H Q E h => ?_) (fun cdv A outer s H vs Q E hr h => ?_)
  · obtain ⟨_,_,_,_,_,_,_,_,_,_,_,rfl,_⟩:=h;rfl
  obtain ⟨ps,n,x,y,x2,y2,v,t,L,q1,q2,rfl,hps,ht,gt,hn,hc,eL,hq1,hq2,in1,in2,q'⟩:=h;refine ⟨_,(pss_cons (ps_set (i:=5) sc_way_between.nd rfl (Or.inl rfl) (pe_callF C_leaf_at q hr (pa_cons (pv 0) (pa_cons (pv 1) (pa_cons (pv 2) pa_nil))))) (pss_cons (ps_set (i:=6) sc_way_between.nd rfl (Or.inl rfl) (pe_callF C_leaf_at q hr (pa_cons (pv 0) (pa_cons (pv 3) (pa_cons (pv 4) pa_nil))))) (pss_cons (ps_set (i:=7) sc_way_between.nd rfl (Or.inl rfl) (pe_callTy (call_dictL rfl) rfl T.b_dict bt_dict (pa_cons (pe_callF C_members_from q hr (pa_cons (pe_callF C_alike_around q hr (pa_cons (pv 0) pa_nil)) (pa_cons (pv 6) pa_nil))) pa_nil))) (pss_cons (ps_if (pt_cmpR (op_notInD hr.dic) (pv 5) (pv 7) (by with_unfolding_all rfl)) (pss_one (ps_ret pe_non)) pss_nil) (pss_cons (ps_set (i:=8) sc_way_between.nd rfl (Or.inl rfl) (pe_lstx (pax_c (pv 5) pax_nil))) (pss_cons (ps_while PassesOwn.never (pt_cmpR op_ne (pe_ix ix_list (pv 8) (pe_un un_neg pe_int) (fun _ _=>rfl)) (pv 6) (nomark _)) (pss_one (ps_expr (pe_bm PySem.F.plainAttrs_list PySem.F.slot_list_append PySem.F.type_list_append mt_append (pv 8) (pa_cons (pe_dget hr.dic (pv 7) (pe_ix ix_list (pv 8) (pe_un un_neg pe_int) (fun _ _=>rfl)) (fun _ _=>rfl)) pa_nil))))) (pss_one (ps_ret (pv 8))))))))),?_⟩;have hB:L.Pairwise BefS:=by rw [eL]; exact sqs_bef t [] 0 0 n gt
  have lc:L.length=cnt t:=by rw [eL]; exact sqs_len t [] 0 0 n
  have hwL:∀ q∈L,0 < q.w:=fun q1 h1=>(sqs_in t [] 0 0 n gt q1 (by rw [← eL]; exact h1)).2.2.2.2;have fit:∀ {q:Sq} {x y:Nat},q∈L→InSqr q x y→x < 2 ^ n∧y < 2 ^ n:=fun {q x y} hq hi=>by
    obtain ⟨_,i2,_,i4,_⟩:=sqs_in t [] 0 0 n gt q (by rw [← eL]; exact hq);unfold InSqr at hi;omega
  refine ⟨_,rfl,_,rfl,_,rfl,.ref ps,t,n,x,y,rfl,⟨ps,v,rfl,hps,ht⟩,gt,hn,(fit hq1 in1).1,(fit hq1 in1).2,fun i c H1 s1 hi hnd => ?_⟩;rw [leaf_in gt (fit hq1 in1).1 (fit hq1 in1).2 eL hq1 in1 hi hnd];refine ⟨_,rfl,_,rfl,_,rfl,.ref ps,t,n,x2,y2,rfl,⟨ps,v,rfl,s1 _ _ hps,ht.up s1.tups⟩,gt,hn,(fit hq2 in2).1,(fit hq2 in2).2,fun i2 c2 H2 s2 hi2 hnd2 => ?_⟩;rw [leaf_in gt (fit hq2 in2).1 (fit hq2 in2).2 eL hq2 in2 hi2 hnd2];have s02:=s1.trans s2;refine ⟨_,rfl,ps,n,v,t,rfl,s02 _ _ hps,ht.up s02.tups,gt,hn,hc,fun da lo A H3 s3 hda ar hAl hN hAe => ?_⟩;rw [← eL] at ar hN;have Cx:LandCx L A (L.map (·.z)):=⟨rfl,hB,by rw [List.length_map]; omega,hN⟩;have hz:q2.z∈L.map (·.z):=List.mem_map.mpr ⟨q2,hq2,rfl⟩;refine ⟨_,rfl,da,q2.z,L.map (·.z),lo,A,rfl,ar,hz,by rw [List.length_map]; omega,Cx.cl,hAl,fun lm um k H4 s4 hlm um4 hM hk => ?_⟩;have bi:=BI.bfs Cx.cl hz k;have bl:=bi.len;rw [List.length_map] at bl;obtain ⟨ls,B⟩:=BL.bfs A q2.z k;obtain ⟨M,eM⟩:∃ M,M=bfsN A q2.z k:=⟨_,rfl⟩;obtain ⟨as,eas,hP⟩:=mem_pairs hM;have nd:((onK (bfsN A q2.z k)).map (·.1)).Nodup:=by
    have:=bi.nd
    unfold onK;rw [List.map_map];unfold List.Nodup at this ⊢;rw [List.pairwise_map] at this ⊢;exact this.imp fun h e=>h (ky_inj e)
  have s04:=s02.trans (s3.trans s4);refine ⟨lm,as,onK (bfsN A q2.z k),rfl,SqL.of (by rw [um4,eas]),hP,nd,fun dn hdn => ?_⟩;have s5:=Same.new hdn (.dK (onK (bfsN A q2.z k)));have u5:upd H4 dn (.dK (onK (bfsN A q2.z k))) dn=some (.dK (onK (bfsN A q2.z k))):=upd_same;generalize upd H4 dn (.dK (onK (bfsN A q2.z k)))=H5 at *;have s05:=s04.trans s5;have vat:∀ {i:Nat} {m:Mem},(bfsN A q2.z k)[i]? = some m→valV (onK (bfsN A q2.z k)) (ky m.1)=some (parV m.2):=fun {i m} h=>valV_mem nd (List.mem_map.mpr ⟨m,List.mem_of_getElem? h,rfl⟩);have lbl:∀ {i:Nat} {m:Mem},(bfsN A q2.z k)[i]? = some m→∃ l,ls[i]? = some l:=fun {i m} h=>⟨ls[i]'(by rw [B.len]; exact (List.getElem?_eq_some_iff.mp h).1),List.getElem?_eq_getElem _⟩;refine ⟨_,rfl,_,rfl,dn,_,rfl,DGet.k (k:=ky q1.z) u5,_,rfl,ite2 (fun c1 => ?_) (fun c1 => ?_)⟩
  · have c1':(!(valV (onK (bfsN A q2.z k)) (ky q1.z)).isSome)=true:=c1;refine q' _ _ s05 (.inl ⟨rfl,fun m wk => ?_⟩);have ec:=wk.fin.2;obtain ⟨i,mm,l,g1,g2,g3,g4⟩:=wk_mem hB hwL Cx hq2 hk B (by rw [ec]; exact wk.symm);rw [← g2,vat g1] at c1';cases c1'
  have c1':(valV (onK (bfsN A q2.z k)) (ky q1.z)).isSome=true:=by
    cases hh:(valV (onK (bfsN A q2.z k)) (ky q1.z)).isSome with
    | true=>rfl
    | false =>
      have c2:¬ (!(valV (onK (bfsN A q2.z k)) (ky q1.z)).isSome)=true:=c1;rw [hh] at c2;exact absurd rfl c2
  obtain ⟨i0,m0,g0,e0⟩:∃ (i:Nat) (m:Mem),(bfsN A q2.z k)[i]? = some m∧m.1=q1.z:=by
    apply Classical.byContradiction
    intro no;rw [valV_no fun hin => ?_] at c1'
    · cases c1'
    · unfold onK at hin;rw [List.map_map] at hin;obtain ⟨m,hm,ek⟩:=List.mem_map.mp hin;obtain ⟨i,hi⟩:=List.getElem?_of_mem hm;exact no ⟨i,m,hi,ky_inj ek⟩
  obtain ⟨l0,hl0⟩:=lbl g0;have i0l:=(List.getElem?_eq_some_iff.mp g0).1;obtain ⟨li0,qq,hqq,ez,ecq,wk0⟩:=mem_wk hB Cx hq2 B i0 m0 l0 g0 hl0;have eqq:qq=q1:=z_inj hB hqq hq1 (ez.trans e0);subst eqq;have dst:Dst L qq.c qq q2 l0:=by
    rw [ecq];refine ⟨wk0.symm,fun j wj => ?_⟩;obtain ⟨i,mm,l,k1,k2,k3,k4⟩:=wk_mem hB hwL Cx hq2 hk B wj.symm;have a1:((bfsN A q2.z k).map (·.1))[i0]? = some qq.z:=by rw [List.getElem?_map,g0,ez]; rfl
    have a2:((bfsN A q2.z k).map (·.1))[i]? = some qq.z:=by rw [List.getElem?_map,k1,← k2]; rfl
    have ei:=(List.getElem?_inj (List.getElem?_eq_some_iff.mp a1).1 bi.nd).mp (a1.trans a2.symm);rw [← ei,hl0] at k3;cases k3;exact k4
  refine ⟨_,rfl,(by show 1≤sizeLine; decide),fun wl hwl => ?_⟩;have s6:=Same.new hwl (.lst [sV qq.z]);have u6:upd H5 wl (.lst [sV qq.z]) wl=some (.lst [sV qq.z]):=upd_same;have nwl:H wl=none:=s05.free hwl;have dw:dn≠wl:=fun e=>by rw [e,hwl] at u5; cases u5
  have u56:upd H5 wl (.lst [sV qq.z]) dn=some (.dK (onK (bfsN A q2.z k))):=s6 _ _ u5;show gName 8 (.ref wl) _ (upd H5 wl (.lst [sV qq.z])) _;generalize upd H5 wl (.lst [sV qq.z])=H6 at *;have s06:=s05.trans s6;refine ⟨fun m σ H7=>∃ (ws:List Sq) (i:Nat) (mm:Mem) (l:Nat) (b:Sq),l=m∧Same H H7∧H7 dn=some (.dK (onK (bfsN A q2.z k)))∧H7 wl=some (.lst (ws.map fun q=>sV q.z))∧Way L qq.c qq b ws∧(bfsN A q2.z k)[i]? = some mm∧mm.1=b.z∧ls[i]? = some l∧ws.length + l=l0 + 1∧σ=[some (.ref ps),some (.int (x:Int)),some (.int (y:Int)),some (.int (x2:Int)),some (.int (y2:Int)),some (sV qq.z),some (sV q2.z),some (.ref dn),some (.ref wl)],
    ⟨l0,[qq],i0,m0,l0,qq,rfl,s06,u56,u6,Way.one hq1 rfl,g0,e0,hl0,by show 1 + l0=l0 + 1; omega,rfl⟩,?_⟩
  rintro m σ H7 ⟨ws,i,mm,l,b,rfl,s7,d7,u7,W,g1,g2,g3,len,rfl⟩;have hb:=W.all b (List.mem_of_getElem? W.fin);refine ⟨_,rfl,1,rfl,wl,_,-1,sV b.z,rfl,rfl,SqL.of u7,W.end_,_,rfl,rfl,_,rfl,ite2 (fun c => ?_) (fun c => ?_)⟩
  rotate_left
  · have e:sV b.z=sV q2.z:=by
      cases hh:decide (sV b.z=sV q2.z) with
      | true=>exact of_decide_eq_true hh
      | false =>
        have c':¬ (!decide (sV b.z=sV q2.z))=true:=c;rw [hh] at c';exact absurd rfl c'
    have e2:b=q2:=z_inj hB hb.1 hq2 (txt_inj2 (V.str.inj e));subst e2;have e3:l=0:=by
      have a1:((bfsN A b.z k).map (·.1))[i]? = some b.z:=by rw [List.getElem?_map,g1,← g2]; rfl
      have a2:((bfsN A b.z k).map (·.1))[0]? = some b.z:=by rw [List.getElem?_map,bfs_head A b.z k]; rfl
      have ei:=(List.getElem?_inj (List.getElem?_eq_some_iff.mp a1).1 bi.nd).mp (a1.trans a2.symm);rw [ei,B.zero] at g3;exact (Option.some.inj g3).symm
    exact ⟨_,rfl,q' _ _ s7 (.inr ⟨wl,ws,rfl,nwl,u7,W,by rw [show ws.length - 1=l0 by omega]; exact dst,by omega⟩)⟩
  have ne:b≠q2:=fun e=>by
    have c':(!decide (sV b.z=sV q2.z))=true:=c;rw [e,decide_eq_true rfl] at c';cases c'
  have hi:0 < i:=by
    rcases Nat.eq_zero_or_pos i with e | e
    · rw [e,bfs_head A q2.z k] at g1;cases g1;exact absurd (z_inj hB hb.1 hq2 g2.symm) ne
    · exact e
  obtain ⟨j,c,mj,lj,k1,k2,k3,k4,k5,k6,k7⟩:=B.par i mm hi g1;rw [g3] at k7;cases k7;obtain ⟨_,r,hr,er,ecr,_⟩:=mem_wk hB Cx hq2 B j mj lj k3 k6;have hA:b.z∈A r.z:=by rw [← g2,er,k4]; exact k5
  have tch:touchB b r=true:=by rw [touch_sym]; exact touch_of hB Cx hr hb.1 hA
  have pv:valV (onK (bfsN A q2.z k)) (ky b.z)=some (sV r.z):=by
    rw [← g2,vat g1,k2,er,k4];rfl
  refine ⟨fun σ' H8=>∃ (ws:List Sq) (i:Nat) (mm:Mem) (b:Sq),Same H H8∧H8 dn=some (.dK (onK (bfsN A q2.z k)))∧H8 wl=some (.lst (ws.map fun q=>sV q.z))∧Way L qq.c qq b ws∧(bfsN A q2.z k)[i]? = some mm∧mm.1=b.z∧ls[i]? = some lj∧ws.length + lj=l0 + 1∧σ'=[some (.ref ps),some (.int (x:Int)),some (.int (y:Int)),some (.int (x2:Int)),some (.int (y2:Int)),some (sV qq.z),some (sV q2.z),some (.ref dn),some (.ref wl)],fun σ' H8 ⟨ws,i,mm,b,h1,h2,h3,h4,h5,h6,h7,h8,h9⟩=>⟨lj,Nat.lt_succ_self _,ws,i,mm,lj,b,rfl,h1,h2,h3,h4,h5,h6,h7,h8,h9⟩,?_⟩;refine ⟨_,rfl,.inl ⟨rfl,_,SqL.of u7⟩,_,rfl,_,rfl,1,rfl,wl,_,-1,sV b.z,rfl,rfl,SqL.of u7,W.end_,dn,sV r.z,rfl,pv▸DGet.k (k:=ky b.z) d7,wl,_,sV r.z,rfl,rfl,u7,Nat.lt_of_lt_of_le (by rw [List.length_map]; omega:_ < 5000) (by decide),?_⟩;refine ⟨ws++[r],j,mj,r,Same.set s7 nwl _,by rw [upd_ne dw]; exact d7,by rw [upd_same,List.map_append]; rfl,W.snoc hr (ecr.trans ecq.symm) tch,k3,er.symm,k6,by rw [List.length_append,List.length_singleton]; omega,rfl⟩
end
end Qs


namespace Qs
open PySem L2
def txD (l:List Sq):List PyData:=l.map fun q=>.str (txt q.z)
theorem txs_dats {H:Hp}:∀ (l:List Sq),Dats H (l.map fun q=>sV q.z) (txD l)
  | []=>.nil
  | q::l=>.cons (.str _) (txs_dats l)
theorem txs_shaped {l:List Sq} (h:∀ q∈l,IsC (txt q.z)):SeqAt.shaped (.list (txD l))=true:=by
  have e:PyData.canLayAll0 (txD l)=true∧PyData.depthAll (txD l)≤1:=by
    induction l with
    | nil=>exact ⟨rfl,Nat.zero_le _⟩
    | cons q r ih =>
      obtain ⟨i1,i2⟩:=ih (fun p hp=>h p (List.mem_cons_of_mem _ hp));refine ⟨?_,?_⟩
      · show (PyData.strOk (txt q.z) && PyData.canLayAll0 (txD r))=true;rw [strOk_isC (h q List.mem_cons_self),i1]; rfl
      · show max 0 (PyData.depthAll (txD r))≤1;omega
  unfold SeqAt.shaped;show (PyData.canLayAll0 (txD l) && decide (PyData.depthAll (txD l) + 1≤64))=true;rw [e.1,decide_eq_true (by omega)]; rfl
theorem filt_snoc {p:Sq→Bool} {l:List Sq} {i:Nat} {q:Sq} (h:l[i]? = some q):(l.take (i + 1)).filter p=(l.take i).filter p++if p q then [q] else []:=by
  rw [List.take_add_one,h,List.filter_append]
  congr 1
  show List.filter p [q]=_;rw [List.filter_cons];rfl
theorem filt_len (p:Sq→Bool):∀ l:List Sq,(l.filter fun q => !p q).length + (l.filter p).length=l.length
  | []=>rfl
  | a::r=>by
    have ih:=filt_len p r;rw [List.filter_cons,List.filter_cons];cases h:p a with
    | true =>
      show (r.filter fun q => !p q).length + ((r.filter p).length + 1)=r.length + 1;omega
    | false =>
      show ((r.filter fun q => !p q).length + 1) + (r.filter p).length=r.length + 1;omega
section
variable {P:Program} {w:World} {K:PySem.W.Frag} {mg:Str→Option Value} {base:Heap} {CX:CXT} {f:Addr} {fd:FuncData}
abbrev s_law_reached:Stmt:=top 50
theorem sc_law_reached:FnScope ["_law_told","_law_squares","_law_start","_law_rest","_law_steps","_law_edge","_law_after","_law_later","_law_code_here"] ["_law_told","_law_squares","_law_start"] (defScope s_law_reached):=⟨rfl,rfl,rfl,by decide +kernel,rfl,by decide +kernel,by decide +kernel⟩
def Told (L:List Sq) (q0:Sq) (kv:List (Key × V)):Prop:=∀ q∈L,(∃ m:Nat,valV kv (ky q.z)=some (.int (m:Int))∧Dst L q0.c q0 q m)∨(valV kv (ky q.z)=none∧∀ m,¬ Wk L q0.c q0 q m)
def sp_law_reached:Sp:=fun vs H Q _=>∃ (dt dq:Addr) (ob:Obj) (kvq:List (Key × V)) (L:List Sq) (q0:Sq),vs=[.ref dt,.ref dq,sV q0.z]∧H dt=some (.frz ob (.dK (colK L)))∧H dq=some (.dK kvq)∧(∀ q∈L,∃ p,valV kvq (ky q.z)=some (.ref p)∧SqT3 H p q)∧L.Pairwise BefS∧L.length≤1500∧q0∈L∧(∀ q∈L,IsC (txt q.z)) ∧
  ∀ ds kv H',Same H H'→H' ds=some (.dK kv)→Told L q0 kv→Q (.ref ds) H'
theorem ok_law_reached (T:Tx K mg) (q:Quiet CX) (F:FunD K "_law_reached" "_law_reached" s_law_reached f fd .none) (C__law_met:Fok P w K mg base CX 1 "_law_met" ["_law_one","_law_two"] [] sp_law_met):FnOk P w K mg base CX 2 f fd ["_law_told","_law_squares","_law_start"] sp_law_reached:=by
  refine F.ok sc_law_reached (fun vs H Q E h => ?_) (fun cdv A outer s H vs Q E hr h => ?_)
  · obtain ⟨_,_,_,_,_,_,rfl,_⟩:=h;rfl
  obtain ⟨dt,dq,ob,kvq,L,q0,rfl,hdt,hdq,hsq,hB,hL,hq0,hC,q'⟩:=h;refine ⟨_,(pss_cons (ps_setCI (i0:=3) (N':=["_law_code_here","_law_start","_law_told"]) ["_law_told","_law_start"] ["_law_start","_law_told"] [2,0] 1 (by with_unfolding_all rfl) rfl (capsOk_cons rfl rfl (by decide) (capsOk_cons rfl rfl (by decide) capsOk_nil)) rfl rfl (by decide) rfl (by decide +kernel) rfl (by decide +kernel) rfl (pi_keysF (pv 0)) (fun C s0 H0 fp pins=>(pg_name (i:=0) (show (["_law_code_here","_law_start","_law_told"]:List Str).Nodup by decide +kernel) rfl (Or.inl rfl) (Or.inr rfl))) (fun C s0 H0 fp pins=>(PW.pt (pw_and (pt_cmpR op_eq (pe_dget hr.dic (pv 2) (pv 0) (fun _ _=>rfl)) (pe_dget hr.dic (pv 2) (pv 1) (fun _ _=>rfl)) (nomark _)) (pw_and1 (pt_cmpR op_ne (pv 0) (pv 1) (nomark _)))))) (fun C s0 H0 fp pins=>(pv 0)) sc_law_reached.nd rfl (Or.inl rfl)) (pss_cons (ps_set (i:=4) sc_law_reached.nd rfl (Or.inl rfl) (pe_disp1 (pv 2) pe_int)) (pss_cons (ps_set (i:=5) sc_law_reached.nd rfl (Or.inl rfl) (pe_lstx (pax_c (pv 2) pax_nil))) (pss_cons (ps_while PassesOwn.never (pt_cmpR (op_neD hr) (pv 5) (pe_lstx pax_nil) (nomark _)) (pss_cons (ps_set (i:=6) sc_law_reached.nd rfl (Or.inl rfl) (pe_lstx pax_nil)) (pss_cons (ps_set (i:=7) sc_law_reached.nd rfl (Or.inl rfl) (pe_lstx pax_nil)) (pss_cons (ps_for PassesOwn.never rfl (pi_list (pv 3)) (pg_name (i:=8) sc_law_reached.nd rfl (Or.inr rfl)) (pss_one (ps_if (pt_val (pe_callB (call_any rfl) rfl T.b_any bb_any (pa_cons (pe_compC (N':=["_law_one","_law_squares","_law_code_here"]) ["_law_squares","_law_code_here"] ["_law_squares","_law_code_here"] [1,8] 1 (by with_unfolding_all rfl) rfl (capsOk_cons rfl rfl (by decide) (capsOk_cons rfl rfl (by decide) capsOk_nil)) rfl rfl (by decide) rfl (by decide +kernel) rfl (by decide +kernel) rfl (pi_list (pv 5)) (fun C s0 H0 fp pins=>(pg_name (i:=0) (show (["_law_one","_law_squares","_law_code_here"]:List Str).Nodup by decide +kernel) rfl (Or.inl rfl) (Or.inr rfl))) (fun C s0 H0 fp pins=>(pe_cmpR op_gt (pe_callF C__law_met q hr (pa_cons (pe_dget hr.dic (pv 1) (pv 2) (fun _ _=>rfl)) (pa_cons (pe_dget hr.dic (pv 1) (pv 0) (fun _ _=>rfl)) pa_nil))) pe_int (nomark _)))) pa_nil))) (pss_cons (ps_expr (pe_bm PySem.F.plainAttrs_list PySem.F.slot_list_append PySem.F.type_list_append mt_append (pv 6) (pa_cons (pv 8) pa_nil))) (pss_one (ps_dput hr.dic (pv 4) (pv 8) (pe_op op_add (pe_dget hr.dic (pv 4) (pe_ix ix_list (pv 5) pe_int (fun _ _=>rfl)) (fun _ _=>rfl)) pe_int) (swaps_of rfl)))) (pss_one (ps_expr (pe_bm PySem.F.plainAttrs_list PySem.F.slot_list_append PySem.F.type_list_append mt_append (pv 7) (pa_cons (pv 8) pa_nil))))))) (pss_cons (ps_set (i:=3) sc_law_reached.nd rfl (Or.inl rfl) (pv 7)) (pss_one (ps_set (i:=5) sc_law_reached.nd rfl (Or.inl rfl) (pv 6)))))))) (pss_one (ps_ret (pv 4))))))),?_⟩
  have gz:∀ {H':Hp} {q:Sq},Same H H'→q∈L→DGet H' dt (sV q.z) (some (.int q.c)):=fun sm hq=>.inl ⟨colK L,ky _,.inr ⟨ob,sm _ _ hdt⟩,rfl,(colK_val hB hq).symm⟩;have cl:(colK L).length=L.length:=by unfold colK; rw [List.length_map]
  have big:∀ {k:Nat},k≤1000000→k≤sizeLine:=fun {k} h=>Nat.le_trans h (by decide);refine ⟨[sV q0.z,.ref dt],rfl,_,rfl,dt,ob,colK L,rfl,hdt,compCI_keys (fun D (i:Nat) ys H'=>Same H H'∧H' D=some (.lst ys)∧ys.length≤i∧ys=((L.take i).filter fun q=>decide (q.c=q0.c) && !decide (q.z=q0.z)).map fun q=>sV q.z) (big (by omega)) (fun D i ys H' h=>h.1 _ _ hdt) (fun D i ys H' h=>⟨h.2.1,h.2.2.1⟩) (fun D hD=>⟨Same.new hD _,upd_same,Nat.le_refl _,rfl⟩) ?_ ?_ (fun _ _ _ _ _ k h=>k _ _ h) ?_ ?_⟩
  · rintro D i k v ys H5 hk hD ⟨c1,c2,c3,c4⟩;unfold colK at hk;rw [List.getElem?_map] at hk;obtain ⟨q1,eq1,e⟩:=Option.map_eq_some_iff.mp hk;cases e;have hq1:=List.mem_of_getElem? eq1;have out:(decide (q1.c=q0.c) && !decide (q1.z=q0.z))=false→Same H H5∧H5 D=some (.lst ys)∧ys.length≤i + 1∧ys=((L.take (i + 1)).filter fun q=>decide (q.c=q0.c) && !decide (q.z=q0.z)).map fun q=>sV q.z:=fun e=>⟨c1,c2,by omega,by rw [filt_snoc eq1,e,c4]; simp⟩;refine ⟨rfl,_,rfl,_,rfl,dt,.int q1.c,rfl,gz c1 hq1,_,rfl,_,rfl,dt,.int q0.c,rfl,gz c1 hq0,rfl,_,rfl,ite2 (fun c => ?_) (fun c=>iteF (out ?_))⟩
    · have c':q1.c=q0.c:=V.int.inj (of_decide_eq_true c);refine ⟨_,rfl,_,rfl,rfl,_,rfl,ite2 (fun d => ?_) (fun d=>out ?_)⟩
      · have d':¬ q1.z=q0.z:=fun e=>by
          have d2:(!decide (sV q1.z=sV q0.z))=true:=d;rw [e,decide_eq_true rfl] at d2;cases d2
        refine ⟨_,rfl,c2,Same.set c1 hD _,upd_same,by rw [List.length_append]; show ys.length + 1≤i + 1; omega,?_⟩;rw [filt_snoc eq1,decide_eq_true c',decide_eq_false d',List.map_append,← c4];rfl
      · have d':q1.z=q0.z:=by
          apply Classical.byContradiction
          intro ne;refine d ?_;show (!decide (sV q1.z=sV q0.z))=true;have ne':¬ sV q1.z=sV q0.z:=fun e=>ne (txt_inj2 (V.str.inj e));rw [decide_eq_false ne'];rfl
        rw [decide_eq_true d',Bool.not_true,Bool.and_false]
    · have c':¬ q1.c=q0.c:=fun k=>c (decide_eq_true (congrArg V.int k));rw [decide_eq_false c',Bool.false_and]
  rotate_left
  · rintro σ H' R R' k ⟨v,h1,h2⟩;exact ⟨v,h1,k _ _ h2⟩
  · rintro σ H' R R' k ⟨a1,e1,a2,e2,d',v',e3,g1,a4,e4,a5,e5,d2,v2,e6,g2,e7,kk,e8,h⟩;refine ⟨a1,e1,a2,e2,d',v',e3,g1,a4,e4,a5,e5,d2,v2,e6,g2,e7,kk,e8,?_⟩;cases kk with
    | true =>
      obtain ⟨b1,f1,b2,f2,f3,b3,f4,h⟩:=h;exact ⟨b1,f1,b2,f2,f3,b3,f4,k _ _ h⟩
    | false=>exact k _ _ h
  rintro D ys H5 hD ⟨s5,uD,_,c4⟩;rw [List.take_of_length_le (by omega)] at c4;obtain ⟨R,eR⟩:∃ R,R=L.filter fun q=>decide (q.c=q0.c) && !decide (q.z=q0.z):=⟨_,rfl⟩;rw [← eR] at c4;subst c4;have lR:R.length≤L.length:=by rw [eR]; exact List.length_filter_le _ _
  have RI0:=RI.init hq0 hB;rw [← eR] at RI0;refine fun ds hds=>⟨_,rfl,upd_same,[(ky q0.z,.int 0)],rfl,(by show 1≤15; decide),?_⟩;generalize e6:upd (upd H5 ds _) ds _=H6;have s6:Same H5 H6:=e6▸Same.set (Same.new hds _) hds _;have w6:H6 ds=some (.dK [(ky q0.z,.int 0)]):=by rw [← e6]; exact upd_same
  have nds:H ds=none:=s5.free hds;refine ⟨_,rfl,(by show 1≤sizeLine; decide),fun el hel => ?_⟩;have s7:=Same.new hel (.lst [sV q0.z]);have u7:upd H6 el (.lst [sV q0.z]) el=some (.lst [sV q0.z]):=upd_same;show gName 5 (.ref el) _ (upd H6 el (.lst [sV q0.z])) _;generalize upd H6 el (.lst [sV q0.z])=H7 at *;have s07:=s5.trans (s6.trans s7);have ud7:=(s6.trans s7) _ _ uD;refine ⟨fun m σ H8=>∃ (k:Nat) (rest edge:List Sq) (rl el:Addr) (kv:List (Key × V)) (o6 o7 o8:Option V),rest.length + (if edge.isEmpty then 0 else 1)=m∧Same H H8∧H8 rl=some (.lst (rest.map fun q=>sV q.z))∧H8 el=some (.lst (edge.map fun q=>sV q.z))∧H8 ds=some (.dK kv)∧RI L q0 k rest edge kv∧kv.length + rest.length≤L.length + 1∧edge.length≤L.length + 1∧σ=[some (.ref dt),some (.ref dq),some (sV q0.z),some (.ref rl),some (.ref ds),some (.ref el),o6,o7,o8],
    ⟨_,0,R,[q0],D,el,_,none,none,none,rfl,s07,ud7,u7,s7 _ _ w6,RI0,by show 1 + R.length≤_; omega,by show 1≤_; omega,rfl⟩,?_⟩
  rintro m σ H8 ⟨k,rest,edge,rl,el,kv,o6,o7,o8,rfl,s8,ur8,ue8,ud8,RI8,l8,le8,rfl⟩;have hE:∀ q∈edge,IsC (txt q.z):=fun q hq=>hC q (RI8.esub q hq).1;refine ⟨_,rfl,(by show 0≤sizeLine; decide),fun pe hpe=>⟨.list (txD edge),.list (txD []),.lst (Same.new hpe _ _ _ ue8) (txs_dats edge),.lst upd_same (txs_dats []),txs_shaped hE,txs_shaped (fun q hq=>by cases hq),_,rfl,ite2 (fun c => ?_) (fun c => ?_)⟩⟩
  rotate_left
  · cases edge with
    | nil=>exact ⟨_,rfl,q' ds kv _ (Same.set s8 (s8.free hpe) _) (Same.new hpe _ _ _ ud8) fun q hq=>RI8.done hq⟩
    | cons e0 es=>exact absurd rfl c
  have ene:edge≠[]:=fun e=>by
    rw [e] at c;exact absurd c (by decide)
  have s9:Same H8 (upd H8 pe (.lst [])):=Same.new hpe _;generalize upd H8 pe (.lst [])=H9 at *;have s09:=s8.trans s9;have ur9:=s9 _ _ ur8;have ue9:=s9 _ _ ue8;have ud9:=s9 _ _ ud8;refine ⟨fun σ H10=>∃ (rest' edge':List Sq) (rl el:Addr) (kv:List (Key × V)) (o6 o7 o8:Option V),rest'.length + edge'.length=rest.length∧Same H H10∧H10 rl=some (.lst (rest'.map fun q=>sV q.z))∧H10 el=some (.lst (edge'.map fun q=>sV q.z))∧H10 ds=some (.dK kv)∧RI L q0 (k + 1) rest' edge' kv∧kv.length + rest'.length≤L.length + 1∧edge'.length≤L.length + 1∧σ=[some (.ref dt),some (.ref dq),some (sV q0.z),some (.ref rl),some (.ref ds),some (.ref el),o6,o7,o8],?_,?_⟩
  · rintro σ' H10 ⟨rest',edge',rl,el,kv,o6,o7,o8,h1,h2,h3,h4,h5,h6,h7,h8,h9⟩;refine ⟨_,?_,k + 1,rest',edge',rl,el,kv,o6,o7,o8,rfl,h2,h3,h4,h5,h6,h7,h8,h9⟩;have e1:edge.isEmpty=false:=by
      cases edge with
      | nil=>exact absurd rfl ene
      | cons _ _=>rfl
    rw [e1];cases edge' with
    | nil =>
      have h1':rest'.length + 0=rest.length:=h1;show rest'.length + 0 < rest.length + 1;omega
    | cons a b =>
      have h1':rest'.length + (b.length + 1)=rest.length:=h1;show rest'.length + 1 < rest.length + 1;omega
  refine ⟨(by show 0≤sizeLine; decide),fun al hal => ?_⟩;have s10:=Same.new hal (.lst []);have w10:upd H9 al (.lst []) al=some (.lst []):=upd_same;show gName 6 (.ref al) _ (upd H9 al (.lst [])) _;generalize upd H9 al (.lst [])=H10 at *;refine ⟨(by show 0≤sizeLine; decide),fun tl htl => ?_⟩;have s11:=Same.new htl (.lst []);have w11:upd H10 tl (.lst []) tl=some (.lst []):=upd_same;show gName 7 (.ref tl) _ (upd H10 tl (.lst [])) _;generalize upd H10 tl (.lst [])=H11 at *;have s911:=s10.trans s11;have s011:=s09.trans s911;have wa11:=s11 _ _ w10;have ur11:=s911 _ _ ur9;have ue11:=s911 _ _ ue9;have ud11:=s911 _ _ ud9;have nal:H al=none:=s09.free hal;have ntl:H tl=none:=(s09.trans s10).free htl;have alds:al≠ds:=fun e=>by rw [e,ud9] at hal; cases hal
  have tlds:tl≠ds:=fun e=>by rw [e,s10 _ _ ud9] at htl; cases htl
  have altl:al≠tl:=fun e=>by rw [← e,w10] at htl; cases htl
  have rlx:rl≠al∧rl≠tl∧rl≠ds:=⟨fun e=>(by rw [← e,ur9] at hal; cases hal),fun e=>(by rw [← e,s10 _ _ ur9] at htl; cases htl),fun e=>(by rw [e,ud9] at ur9; cases ur9)⟩;have elx:el≠al∧el≠tl∧el≠ds:=⟨fun e=>(by rw [← e,ue9] at hal; cases hal),fun e=>(by rw [← e,s10 _ _ ue9] at htl; cases htl),fun e=>(by rw [e,ud9] at ue9; cases ue9)⟩;refine ⟨_,rfl,rl,rfl,⟨_,SqL.of ur11⟩,for_list (xs:=rest.map fun q=>sV q.z) (fun (i:Nat) σ H12=>i≤rest.length∧Same H H12∧H12 rl=some (.lst (rest.map fun q=>sV q.z))∧H12 el=some (.lst (edge.map fun q=>sV q.z))∧H12 al=some (.lst (((rest.take i).filter (hitB edge)).map fun q=>sV q.z))∧H12 tl=some (.lst (((rest.take i).filter fun q => !hitB edge q).map fun q=>sV q.z))∧(∃ kv',H12 ds=some (.dK kv')∧kv'.length≤kv.length + ((rest.take i).filter (hitB edge)).length∧∀ y:List Nat,valV kv' (ky y)=if y∈((rest.take i).filter (hitB edge)).map (·.z) then some (.int ((k + 1:Nat):Int)) else valV kv (ky y))∧∃ o8:Option V,σ=[some (.ref dt),some (.ref dq),some (sV q0.z),some (.ref rl),some (.ref ds),some (.ref el),some (.ref al),some (.ref tl),o8])
    ⟨Nat.zero_le _,s011,ur11,ue11,wa11,w11,⟨kv,ud11,Nat.le_refl _,fun y=>(by rw [if_neg (by simp)])⟩,_,rfl⟩ (fun i σ H12 _ h=>SqL.of h.2.2.1) ?_ ?_⟩
  rotate_left
  · rintro σ H12 ⟨_,s12,ur12,ue12,ua12,ut12,⟨kv',ud12,l12,v12⟩,o8,rfl⟩;rw [List.length_map,List.take_length] at ua12 ut12 l12 v12;have lens:(rest.filter fun q => !hitB edge q).length + (rest.filter (hitB edge)).length=rest.length:=filt_len _ _;exact ⟨_,rfl,_,rfl,rest.filter (fun q => !hitB edge q),rest.filter (hitB edge),tl,al,kv',_,_,_,lens,s12,ut12,ua12,ud12,RI8.step hB v12,by omega,by omega,rfl⟩
  rintro i u σ H12 hu ⟨_,s12,ur12,ue12,ua12,ut12,⟨kv',ud12,l12,v12⟩,o8,rfl⟩;rw [List.getElem?_map] at hu;obtain ⟨q1,eq1,rfl⟩:=Option.map_eq_some_iff.mp hu;have hil:=(List.getElem?_eq_some_iff.mp eq1).1;have hq1r:=List.mem_of_getElem? eq1;have hq1:=(RI8.sub q1 hq1r).1;have gq:∀ {H':Hp} {q:Sq} {p:Addr},Same H H'→valV kvq (ky q.z)=some (.ref p)→DGet H' dq (sV q.z) (some (.ref p)):=fun {H' q p} sm hv=>hv▸DGet.k (k:=ky q.z) (sm _ _ hdq);obtain ⟨p1,vp1,hp1⟩:=hsq q1 hq1;have le:edge.length≤1000000:=by omega
  refine ⟨[.ref dq,sV q1.z],rfl,_,rfl,el,rfl,⟨_,SqL.of ue12⟩,compC_list (edge.map fun q=>sV q.z) (fun D (j:Nat) ys H'=>Same H12 H'∧H' D=some (.lst ys)∧j≤edge.length∧ys=((edge.take j).map fun e=>touchB q1 e).map V.bl) (by rw [List.length_map]; exact big le) (fun D j ys H' h=>SqL.of (h.1 _ _ ue12)) (fun D j ys H' h=>⟨h.2.1,by rw [h.2.2.2,List.length_map,List.length_map,List.length_take]; exact Nat.min_le_left _ _⟩) (fun D hD=>⟨Same.new hD _,upd_same,Nat.zero_le _,rfl⟩) ?_ ?_ (fun _ _ _ _ _ k h=>k _ _ h) ?_⟩
  · rintro D j x ys H13 hx hD ⟨c1,c2,c3,c4⟩;rw [List.getElem?_map] at hx;obtain ⟨e1,ee1,rfl⟩:=Option.map_eq_some_iff.mp hx;have hjl:=(List.getElem?_eq_some_iff.mp ee1).1;obtain ⟨p2,vp2,hp2⟩:=hsq e1 (RI8.esub e1 (List.mem_of_getElem? ee1)).1;have s013:=s12.trans c1;refine ⟨rfl,_,rfl,_,rfl,dq,.ref p1,rfl,gq s013 vp1,_,rfl,_,rfl,dq,.ref p2,rfl,gq s013 vp2,p1,p2,q1,e1,rfl,s013 _ _ hp1,s013 _ _ hp2,fun ii H14 s14 hii=>⟨_,_,rfl,rfl,s14 _ _ c2,Same.set (c1.trans s14) hD _,upd_same,hjl,?_⟩⟩;have eb:decide ((0:Int) < ii)=touchB q1 e1:=by
      cases ht:touchB q1 e1 with
      | true=>exact decide_eq_true (hii.mpr ht)
      | false=>exact decide_eq_false fun h=>by rw [hii.mp h] at ht; cases ht
    show ys++[V.bl (decide ((0:Int) < ii))]=_;rw [List.take_add_one,ee1,List.map_append,List.map_append,← c4,eb];rfl
  rotate_left
  · rintro σ H' R R' kk ⟨a1,e1,a2,e2,d1,v1,e3,g1,a4,e4,a5,e5,d2,v2,e6,g2,p,r,aa,bb,e7,h1,h2,h⟩;exact ⟨a1,e1,a2,e2,d1,v1,e3,g1,a4,e4,a5,e5,d2,v2,e6,g2,p,r,aa,bb,e7,h1,h2,fun i H'' sm hi=>by
      obtain ⟨i1,i2,f1,f2,h⟩:=h i H'' sm hi;exact ⟨i1,i2,f1,f2,kk _ _ h⟩⟩
  rintro D ys H13 hD ⟨s13,uD,_,c4⟩;rw [List.length_map,List.take_length] at c4;have s013:=s12.trans s13;have ur13:=s13 _ _ ur12;have ue13:=s13 _ _ ue12;have ua13:=s13 _ _ ua12;have ut13:=s13 _ _ ut12;have ud13:=s13 _ _ ud12;have eany:((edge.map fun e=>touchB q1 e).any id)=hitB edge q1:=by
    unfold hitB;rw [List.any_map];rfl
  have la:((rest.take i).filter (hitB edge)).length≤i:=Nat.le_trans (List.length_filter_le _ _) (by rw [List.length_take]; exact Nat.min_le_left _ _);have lt:((rest.take i).filter fun q => !hitB edge q).length≤i:=Nat.le_trans (List.length_filter_le _ _) (by rw [List.length_take]; exact Nat.min_le_left _ _);refine ⟨D,edge.map fun e=>touchB q1 e,rfl,SqL.of (by rw [uD,c4]),?_⟩;rw [eany];cases hh:hitB edge q1 with
  | true =>
    refine ⟨_,rfl,iteT ⟨_,rfl,.inl ⟨rfl,_,SqL.of ua13⟩,_,rfl,al,_,_,rfl,rfl,ua13,Nat.lt_of_lt_of_le (by rw [List.length_map]; omega:_ < 5000) (by decide),?_⟩⟩;have s14:=Same.set s013 nal (.lst ((((rest.take i).filter (hitB edge)).map fun q=>sV q.z)++[sV q1.z]));have w14:upd H13 al (.lst ((((rest.take i).filter (hitB edge)).map fun q=>sV q.z)++[sV q1.z])) al=some (.lst ((((rest.take i).filter (hitB edge)).map fun q=>sV q.z)++[sV q1.z])):=upd_same;have k14:∀ b o,b≠al→H13 b=some o→upd H13 al (.lst ((((rest.take i).filter (hitB edge)).map fun q=>sV q.z)++[sV q1.z])) b=some o:=fun b o hb h=>by rw [upd_ne hb]; exact h
    generalize upd H13 al (.lst ((((rest.take i).filter (hitB edge)).map fun q=>sV q.z)++[sV q1.z]))=H14 at *;obtain ⟨e0,es,ee⟩:∃ e0 es,edge=e0::es:=by
      cases edge with
      | nil=>exact absurd rfl ene
      | cons a b=>exact ⟨a,b,rfl⟩
    have he0:e0∈edge:=by rw [ee]; exact List.mem_cons_self
    have v0:valV kv' (ky e0.z)=some (.int (k:Int)):=by
      rw [v12,if_neg fun hin => ?_]
      · exact (RI8.esub e0 he0).2
      · obtain ⟨a,ha,ea⟩:=List.mem_map.mp hin;have ha2:=List.mem_of_mem_take (List.mem_filter.mp ha).1
        have:=(RI8.far a ha2).1
        rw [show a.z=e0.z from ea,(RI8.esub e0 he0).2] at this;cases this
    have ud14:=k14 _ _ (Ne.symm alds) ud13;have fin:i + 1≤rest.length∧Same H (upd H14 ds (.dK (putK kv' (ky q1.z) (.int ((k:Int) + 1))))):=⟨hil,Same.set s14 nds _⟩;refine ⟨_,rfl,_,rfl,el,_,0,sV e0.z,rfl,rfl,SqL.of (k14 _ _ elx.1 ue13),atI_nat (j:=0) (by rw [ee]; rfl),ds,.int (k:Int),rfl,v0▸DGet.k (k:=ky e0.z) ud14,_,_,rfl,rfl,_,rfl,_,rfl,ds,_,rfl,DPut.k (k:=ky q1.z) ud14 (Nat.lt_of_lt_of_le (by omega:kv'.length < 5000) (by decide)),fin.1,fin.2,by rw [upd_ne rlx.2.2]; exact k14 _ _ rlx.1 ur13,by rw [upd_ne elx.2.2]; exact k14 _ _ elx.1 ue13,?_,?_,⟨_,upd_same,?_,fun y => ?_⟩,_,rfl⟩
    · rw [upd_ne alds,w14,filt_snoc eq1,hh,List.map_append];rfl
    · rw [upd_ne tlds,k14 _ _ (Ne.symm altl) ut13,filt_snoc eq1,hh];simp
    · have:=length_putK kv' (ky q1.z) (.int ((k:Int) + 1))
      rw [filt_snoc eq1,hh,if_pos rfl,List.length_append,List.length_singleton];show (putK kv' (ky q1.z) (.int ((k:Int) + 1))).length≤_;omega
    · show valV (putK kv' (ky q1.z) (.int ((k:Int) + 1))) (ky y)=_;rw [valV_put,v12,filt_snoc eq1,hh,if_pos (show true=true from rfl),List.map_append];by_cases cy:y=q1.z
      · subst cy;rw [if_pos rfl,if_pos (List.mem_append_right _ (List.mem_map.mpr ⟨q1,List.mem_singleton.mpr rfl,rfl⟩))];rfl
      · rw [if_neg fun e=>cy (ky_inj e)];by_cases cz:y∈((rest.take i).filter (hitB edge)).map (·.z)
        · rw [if_pos cz,if_pos (List.mem_append_left _ cz)]
        · rw [if_neg cz,if_neg fun hin => ?_];rcases List.mem_append.mp hin with h | h
          · exact cz h
          · exact cy (List.mem_singleton.mp h)
  | false =>
    refine ⟨_,rfl,iteF ⟨_,rfl,.inl ⟨rfl,_,SqL.of ut13⟩,_,rfl,tl,_,_,rfl,rfl,ut13,Nat.lt_of_lt_of_le (by rw [List.length_map]; omega:_ < 5000) (by decide),hil,Same.set s013 ntl _,by rw [upd_ne rlx.2.1]; exact ur13,by rw [upd_ne elx.2.1]; exact ue13,?_,?_,⟨kv',by rw [upd_ne (Ne.symm tlds)]; exact ud13,?_,fun y => ?_⟩,_,rfl⟩⟩
    · rw [upd_ne altl,ua13,filt_snoc eq1,hh];simp
    · rw [upd_same,filt_snoc eq1,hh,List.map_append];rfl
    · rw [filt_snoc eq1,hh];simpa using l12
    · rw [v12,filt_snoc eq1,hh,if_neg Bool.false_ne_true,List.append_nil]
end
end Qs


namespace Qs
open PySem L2
section
variable {P:Program} {w:World} {K:PySem.W.Frag} {mg:Str→Option Value} {base:Heap} {CX:CXT} {f:Addr} {fd:FuncData}
abbrev s_law_place:Stmt:=top 52
theorem sc_law_place:FnScope ["_law_square_here","_law_cell"] ["_law_square_here","_law_cell"] (defScope s_law_place):=⟨rfl,rfl,rfl,by decide +kernel,rfl,by decide +kernel,by decide +kernel⟩
def sp_law_place:Sp:=fun vs H Q _=>∃ (p:Addr) (q:Sq) (c:Int),vs=[.ref p,.int c]∧SqT3 H p q∧0 < q.w∧∀ (r:Addr) (X Y:Nat) H',Same H H'→H' r=some (.tup [.int (X:Int),.int (Y:Int)])→InSqr q X Y→Q (.ref r) H'
theorem ok_law_place (T:Tx K mg) (F:FunD K "_law_place" "_law_place" s_law_place f fd .none):FnOk P w K mg base CX 1 f fd ["_law_square_here","_law_cell"] sp_law_place:=by
  refine F.ok sc_law_place (fun vs H Q E h => ?_) (fun cdv A outer s H vs Q E hr h => ?_)
  · obtain ⟨_,_,_,rfl,_⟩:=h;rfl
  obtain ⟨p,q0,ce,rfl,hp,hw,q'⟩:=h;refine ⟨_,(pss_one (ps_ret (pe_tupx (pax_c (pe_op op_add (pe_ix ix_tup (pv 0) pe_int (fun _ _=>rfl)) (pe_op op_mod (pe_op op_fdivW (pv 1) pe_int) (pe_ix ix_tup (pv 0) pe_int (fun _ _=>rfl)))) (pax_c (pe_op op_add (pe_ix ix_tup (pv 0) pe_int (fun _ _=>rfl)) (pe_op op_mod (pe_op op_fdivW (pv 1) pe_int) (pe_ix ix_tup (pv 0) pe_int (fun _ _=>rfl)))) pax_nil))))),?_⟩;have tq:=SqT.of (K:=K) hp;have wpos:(0:Int) < (q0.w:Int):=by omega
  obtain ⟨X,eX,hX1,hX2⟩:∃ X:Nat,(q0.x:Int) + ce / 3 % (q0.w:Int)=(X:Int)∧q0.x≤X∧X < q0.x + q0.w:=by
    have h1:=Int.emod_nonneg (ce / 3) (show (q0.w:Int)≠0 by omega);have h2:=Int.emod_lt_of_pos (ce / 3) wpos;generalize ce / 3 % (q0.w:Int)=r at *;exact ⟨q0.x + r.toNat,by omega,by omega,by omega⟩
  obtain ⟨Y,eY,hY1,hY2⟩:∃ Y:Nat,(q0.y:Int) + ce / 7 % (q0.w:Int)=(Y:Int)∧q0.y≤Y∧Y < q0.y + q0.w:=by
    have h1:=Int.emod_nonneg (ce / 7) (show (q0.w:Int)≠0 by omega);have h2:=Int.emod_lt_of_pos (ce / 7) wpos;generalize ce / 7 % (q0.w:Int)=r at *;exact ⟨q0.y + r.toNat,by omega,by omega,by omega⟩
  refine ⟨_,rfl,p,_,_,_,rfl,rfl,tq,rfl,_,rfl,_,_,rfl,rfl,cdivW (by decide) (by decide),_,rfl,p,_,_,_,rfl,rfl,tq,rfl,_,_,rfl,rfl,wpos,_,_,rfl,rfl,?_⟩;dsimp only;rw [eX];refine ⟨_,rfl,p,_,_,_,rfl,rfl,tq,rfl,_,rfl,_,_,rfl,rfl,cdivW (by decide) (by decide),_,rfl,p,_,_,_,rfl,rfl,tq,rfl,_,_,rfl,rfl,wpos,_,_,rfl,rfl,?_⟩;dsimp only;rw [eY];exact ⟨by show 2≤sizeLine; decide,fun r hr'=>q' r X Y _ (Same.new hr' _) upd_same ⟨hX1,hX2,hY1,hY2⟩⟩
abbrev s_law_right:Stmt:=top 51
theorem sc_law_right:FnScope ["_law_found","_law_told","_law_squares","_law_start","_law_goal","_law_steps","_law_k","_law_code_here"] ["_law_found","_law_told","_law_squares","_law_start","_law_goal"] (defScope s_law_right):=⟨rfl,rfl,rfl,by decide +kernel,rfl,by decide +kernel,by decide +kernel⟩
def sp_law_right:Sp:=fun vs H Q _=>∃ (u:V) (H0:Hp) (dt dq:Addr) (ob:Obj) (kvq:List (Key × V)) (L:List Sq) (q0 q2:Sq),vs=[u,.ref dt,.ref dq,sV q0.z,sV q2.z]∧H dt=some (.frz ob (.dK (colK L)))∧H dq=some (.dK kvq)∧(∀ q∈L,∃ p,valV kvq (ky q.z)=some (.ref p)∧SqT3 H p q)∧L.Pairwise BefS∧L.length≤1500∧q0∈L∧q2∈L∧(∀ q∈L,IsC (txt q.z))∧WayV H0 H L q0 q2 u ∧
  ∀ H',Same H H'→Q (.bl true) H'
theorem ok_law_right (T:Tx K mg) (q:Quiet CX) (F:FunD K "_law_right" "_law_right" s_law_right f fd .none) (C__law_reached:Fok P w K mg base CX 2 "_law_reached" ["_law_told","_law_squares","_law_start"] [] sp_law_reached) (C__law_met:Fok P w K mg base CX 1 "_law_met" ["_law_one","_law_two"] [] sp_law_met):FnOk P w K mg base CX 3 f fd ["_law_found","_law_told","_law_squares","_law_start","_law_goal"] sp_law_right:=by
  refine F.ok sc_law_right (fun vs H Q E h => ?_) (fun cdv A outer s H vs Q E hr h => ?_)
  · obtain ⟨_,_,_,_,_,_,_,_,_,rfl,_⟩:=h;rfl
  obtain ⟨u,H0,dt,dq,ob,kvq,L,q0,q2,rfl,hdt,hdq,hsq,hB,hL,hq0,hq2,hC,hW,q'⟩:=h;refine ⟨_,(pss_cons (ps_set (i:=5) sc_law_right.nd rfl (Or.inl rfl) (pe_callF C__law_reached q hr (pa_cons (pv 1) (pa_cons (pv 2) (pa_cons (pv 3) pa_nil))))) (pss_cons (ps_if (pt_cmpR (op_notInD hr.dic) (pv 4) (pv 5) (by with_unfolding_all rfl)) (pss_one (ps_ret (pe_cmpR op_isN (pv 0) pe_non (nomark _)))) pss_nil) (pss_cons (ps_if (PW.pt (pw_or (pt_not (pt_val (pe_callB (call_isiT "list") rfl T.b_isinstance bb_isinstance (pa_cons (pv 0) (pa_cons (pe_bty T.b_list bt_list) pa_nil))))) (pw_or (pt_cmpR op_ne (pe_callB call_len rfl T.b_len bb_len (pa_cons (pv 0) pa_nil)) (pe_op op_add (pe_dget hr.dic (pv 5) (pv 4) (fun _ _=>rfl)) pe_int) (nomark _)) (pw_or (pt_cmpR op_ne (pe_ix ix_list (pv 0) pe_int (fun _ _=>rfl)) (pv 3) (nomark _)) (pw_or1 (pt_cmpR op_ne (pe_ix ix_list (pv 0) (pe_un un_neg pe_int) (fun _ _=>rfl)) (pv 4) (nomark _))))))) (pss_one (ps_ret pe_bl)) pss_nil) (pss_cons (ps_for PassesOwn.never rfl (pi_enumerate rfl T.b_enumerate (pa_cons (pv 0) pa_nil)) (pg_tup rfl (pgs_cons (pg_name (i:=6) sc_law_right.nd rfl (Or.inl rfl)) (pgs_cons (pg_name (i:=7) sc_law_right.nd rfl (Or.inl rfl)) pgs_nil))) (pss_cons (ps_if (PW.pt (pw_or (pt_not (pt_val (pe_callB (call_isiT "str") rfl T.b_isinstance bb_isinstance (pa_cons (pv 7) (pa_cons (pe_bty T.b_str bt_str) pa_nil))))) (pw_or (pt_cmpR (op_notInD hr.dic) (pv 7) (pv 1) (by with_unfolding_all rfl)) (pw_or1 (pt_cmpR op_ne (pe_dget hr.dic (pv 1) (pv 7) (fun _ _=>rfl)) (pe_dget hr.dic (pv 1) (pv 3) (fun _ _=>rfl)) (nomark _)))))) (pss_one (ps_ret pe_bl)) pss_nil) (pss_one (ps_if (PW.pt (pw_and (pt_cmpR op_gt (pv 6) pe_int (nomark _)) (pw_and1 (pt_cmpR op_eq (pe_callF C__law_met q hr (pa_cons (pe_dget hr.dic (pv 2) (pv 7) (fun _ _=>rfl)) (pa_cons (pe_dget hr.dic (pv 2) (pe_ix ix_list (pv 0) (pe_op op_sub (pv 6) pe_int) (fun _ _=>rfl)) (fun _ _=>rfl)) pa_nil))) pe_int (nomark _))))) (pss_one (ps_ret pe_bl)) pss_nil)))) (pss_one (ps_ret pe_bl)))))),?_⟩
  refine ⟨_,rfl,_,rfl,_,rfl,dt,dq,ob,kvq,L,q0,rfl,hdt,hdq,hsq,hB,hL,hq0,hC,fun ds kv H1 s1 u1 told => ?_⟩;refine ⟨_,rfl,_,rfl,ds,_,rfl,DGet.k (k:=ky q2.z) u1,_,rfl,?_⟩;rcases told q2 hq2 with ⟨m,hv,hd⟩ | ⟨hv,hn⟩
  rotate_left
  · rw [hv];refine iteT ?_;have eu:u=.non:=by
      rcases hW with ⟨e,_⟩ | ⟨_,_,_,_,_,_,d,_⟩
      · exact e
      · exact absurd d.1 (hn _)
    subst eu;exact ⟨_,rfl,rfl,q' _ s1⟩
  rw [hv];refine iteF ?_;rcases hW with ⟨_,e⟩ | ⟨l,ws,rfl,_,hl,W,d,lw⟩
  · exact absurd hd.1 (e _)
  have em:=hd.one d;have hl1:=s1 _ _ hl;have wp:=W.pos;refine ⟨_,rfl,_,_,_,rfl,.lst hl1,kit_ll,_,rfl,iteF ⟨_,rfl,_,_,rfl,.inl ⟨_,SqL.of hl1,rfl⟩,_,rfl,_,rfl,ds,.int (m:Int),rfl,hv▸DGet.k (k:=ky q2.z) u1,_,_,rfl,rfl,rfl,_,rfl,iteNS ?_ ⟨_,rfl,l,_,0,sV q0.z,rfl,rfl,SqL.of hl1,atI_nat (j:=0) ?_,_,rfl,rfl,_,rfl,iteNS rfl ⟨_,rfl,1,rfl,l,_,-1,sV q2.z,rfl,rfl,SqL.of hl1,W.end_,_,rfl,rfl,_,rfl,iteNS rfl ?_⟩⟩⟩⟩
  · rw [List.length_map,em];show V.int _=V.int _
    congr 1
    omega
  · rw [List.getElem?_map,W.ini];rfl
  have gz:∀ {H':Hp} {q:Sq},Same H H'→q∈L→DGet H' dt (sV q.z) (some (.int q.c)):=fun sm hq=>.inl ⟨colK L,ky _,.inr ⟨ob,sm _ _ hdt⟩,rfl,(colK_val hB hq).symm⟩;have gq:∀ {H':Hp} {q:Sq} {p:Addr},Same H H'→valV kvq (ky q.z)=some (.ref p)→DGet H' dq (sV q.z) (some (.ref p)):=fun {H' q p} sm hv=>hv▸DGet.k (k:=ky q.z) (sm _ _ hdq);refine ⟨_,rfl,l,rfl,⟨_,SqL.of hl1⟩,for_enum (xs:=ws.map fun q=>sV q.z) (fun (i:Nat) σ H2=>Same H H2∧∃ o6 o7:Option V,σ=[some (.ref l),some (.ref dt),some (.ref dq),some (sV q0.z),some (sV q2.z),some (.ref ds),o6,o7]) ⟨s1,_,_,rfl⟩ (fun i σ H2 h=>SqL.of (h.1 _ _ hl)) ?_ ?_⟩
  rotate_left
  · rintro σ H2 ⟨s2,o6,o7,rfl⟩;exact q' _ s2
  rintro i u pe σ H2 hu ⟨s2,o6,o7,rfl⟩ hpe;rw [List.getElem?_map] at hu;obtain ⟨q1,eq1,rfl⟩:=Option.map_eq_some_iff.mp hu;have hq1:=W.all q1 (List.mem_of_getElem? eq1);refine ⟨pe,_,rfl,SqT.of upd_same,rfl,_,_,rfl,_,_,rfl,rfl,?_⟩;have s3:=Same.new hpe (.tup [.int (i:Int),sV q1.z]);generalize upd H2 pe (.tup [.int (i:Int),sV q1.z])=H3 at *;have s03:=s2.trans s3;have hl3:=s03 _ _ hl;refine ⟨_,rfl,_,_,_,rfl,.str _,kit_ss,_,rfl,iteF ⟨_,rfl,_,rfl,dt,_,rfl,gz s03 hq1.1,_,rfl,iteF ⟨_,rfl,_,rfl,dt,.int q1.c,rfl,gz s03 hq1.1,_,rfl,_,rfl,dt,.int q0.c,rfl,gz s03 hq0,rfl,_,rfl,iteNS (by rw [hq1.2]) ?_⟩⟩⟩;cases i with
  | zero =>
    refine ⟨_,rfl,_,_,rfl,rfl,_,rfl,ite2 (fun c => ?_) (fun _=>iteF ⟨s03,_,_,rfl⟩)⟩;have c':(0:Int) < ((0:Nat):Int):=of_decide_eq_true c;exact absurd c' (by decide)
  | succ j =>
    have hjl:=(List.getElem?_eq_some_iff.mp eq1).1;obtain ⟨q3,eq3⟩:∃ q3,ws[j]? = some q3:=⟨ws[j]'(by omega),List.getElem?_eq_getElem _⟩;have hq3:=W.all q3 (List.mem_of_getElem? eq3);have tt:=W.tch j q3 q1 eq3 eq1;obtain ⟨p1,vp1,hp1⟩:=hsq q1 hq1.1;obtain ⟨p3,vp3,hp3⟩:=hsq q3 hq3.1;refine ⟨_,rfl,_,_,rfl,rfl,_,rfl,ite2 (fun _ => ?_) (fun c=>absurd (decide_eq_true (by omega:(0:Int) < ((j + 1:Nat):Int))) c)⟩;refine ⟨_,rfl,_,rfl,dq,.ref p1,rfl,gq s03 vp1,_,rfl,_,rfl,_,rfl,_,_,rfl,rfl,l,_,((j:Nat):Int),sV q3.z,rfl,(by show V.int (((j + 1:Nat):Int) - 1)=_; congr 1; omega),SqL.of hl3,atI_nat (by rw [List.getElem?_map,eq3]; rfl),dq,.ref p3,rfl,gq s03 vp3,p1,p3,q1,q3,rfl,s03 _ _ hp1,s03 _ _ hp3,fun ii H4 s4 hii=>⟨rfl,_,rfl,ite2 (fun c => ?_) (fun _=>⟨s03.trans s4,_,_,rfl⟩)⟩⟩;have c':ii=0:=V.int.inj (of_decide_eq_true c)
    have:=hii.mpr (by rw [touch_sym]; exact tt)
    omega
end
end Qs


namespace Qs
open PySem L2
theorem sq_of {t:Tr} {n:Nat} (gt:Good n t) {L:List Sq} (eL:L=sqs [] t 0 0 n) {sq:Sq} (hq:sq∈L):IsC (txt sq.z)∧(txt sq.z).length≤n∧((sqX n (dig (txt sq.z)):Nat):Int)=(sq.x:Int)∧((sqY n (dig (txt sq.z)):Nat):Int)=(sq.y:Int)∧((2 ^ (n - (txt sq.z).length):Nat):Int)=(sq.w:Int):=by
  obtain ⟨w0,e0,h4,_,hle,ex,ey,ew⟩:=sqs_ok t [] 0 0 n gt sq (by rw [← eL]; exact hq);rw [List.nil_append] at e0;subst e0;have hl:(txt sq.z).length=sq.z.length:=by rw [← dig_len,dig_txt]
  refine ⟨txt_isC h4,by rw [hl]; exact hle,?_,?_,?_⟩
  · rw [dig_txt,sqX_cxs _ _ hle,ex,Nat.zero_add]
  · rw [dig_txt,sqY_cys _ _ hle,ey,Nat.zero_add]
  · rw [hl,ew]

theorem cm01 (i:Int) (b:Bool):CMul i (if b then 1 else 0):=.inr (by cases b <;> decide)
section
variable {P:Program} {w:World} {K:PySem.W.Frag} {mg:Str→Option Value} {base:Heap} {CX:CXT} {f:Addr} {fd:FuncData}
abbrev s_law:Stmt:=top 53
theorem sc_law:FnScope ["_law_script","_law_sheet_here","_law_told","_law_squares","_law_code_here","_law_codes","_law_k","_law_cell","_law_start","_law_some","_law_goal","_law_x","_law_y","_law_to_x","_law_to_y","_law_found"] ["_law_script"] (defScope s_law):=⟨rfl,rfl,rfl,by decide +kernel,rfl,by decide +kernel,by decide +kernel⟩
def sp_law (K:PySem.W.Frag):Sp:=fun vs H Q _=>∃ (a:Addr) (ns:List Int),vs=[.ref a]∧SqL K H a (ns.map V.int)∧ns.length≤63∧∀ H',Q (.bl true) H'
theorem ok_law (T:Tx K mg) (q:Quiet (CXe P w)) (F:FunD K "law" "law" s_law f fd .none) (C__law_sheet:Fok P w K mg base (CXe P w) 45 "_law_sheet" ["_law_script"] [] (sp_law_sheet K)) (C__law_leaves:Fok P w K mg base (CXe P w) 42 "_law_leaves" ["_law_tree","_law_code_here"] [] (sp_law_leaves 41)) (C__law_square:Fok P w K mg base (CXe P w) 1 "_law_square" ["_law_code_here","_law_level"] [] sp_law_square) (C__law_at:Fok P w K mg base (CXe P w) 1 "_law_at" ["_law_script","_law_k"] [] (sp_law_at K))
    (C_way_between:Fok P w K mg base (CXe P w) 46 "way_between" ["sheet","x","y","to_x","to_y"] [] sp_way_between) (C__law_right:Fok P w K mg base (CXe P w) 3 "_law_right" ["_law_found","_law_told","_law_squares","_law_start","_law_goal"] [] sp_law_right) (C__law_place:Fok P w K mg base (CXe P w) 1 "_law_place" ["_law_square_here","_law_cell"] [] sp_law_place) :
    FnOk P w K mg base (CXe P w) 47 f fd ["_law_script"] (sp_law K):=by
  refine F.ok sc_law (fun vs H Q E h => ?_) (fun cdv A outer s H vs Q E hr h => ?_)
  · obtain ⟨_,_,rfl,_⟩:=h;rfl
  obtain ⟨a,ns,rfl,hS,h63,q'⟩:=h;refine ⟨_,(pss_cons (ps_set (i:=1) sc_law.nd rfl (Or.inl rfl) (pe_callF C__law_sheet q hr (pa_cons (pv 0) pa_nil))) (pss_cons (ps_set (i:=2) sc_law.nd rfl (Or.inr rfl) (pe_callTy (call_dictL rfl) rfl T.b_dict bt_dict (pa_cons (pe_callF C__law_leaves q hr (pa_cons (pe_ix ix_tup (pv 1) pe_int (fun _ _=>rfl)) (pa_cons pe_str pa_nil))) pa_nil))) (pss_cons (ps_set (i:=3) sc_law.nd rfl (Or.inl rfl) pe_dnewK) (pss_cons (ps_for PassesOwn.never rfl (pi_keys (pv 2)) (pg_name (i:=4) sc_law.nd rfl (Or.inl rfl)) (pss_one (ps_dput hr.dic (pv 3) (pv 4) (pe_callF C__law_square q hr (pa_cons (pv 4) (pa_cons (pe_ix ix_tup (pv 1) pe_int (fun _ _=>rfl)) pa_nil))) (swaps_of rfl)))) (pss_cons (ps_set (i:=5) sc_law.nd rfl (Or.inl rfl) (pe_callTy (call_listD rfl) rfl T.b_list bt_list (pa_cons (pv 2) pa_nil))) (pss_cons (ps_for PassesOwn.never rfl (pi_range1 rfl T.b_range (pa_cons (pe_op op_add pe_int (pe_op op_mul (pe_op op_mod (pe_callF C__law_at q hr (pa_cons (pv 0) (pa_cons pe_int pa_nil))) pe_int) (pe_callTy call_int1 rfl T.b_int bt_int (pa_cons (pe_cmpR op_lt (pe_callB call_lenR rfl T.b_len bb_len (pa_cons (pv 2) pa_nil)) pe_int (nomark _)) pa_nil)))) pa_nil)) (pg_name (i:=6) sc_law.nd rfl (Or.inl rfl)) (pss_cons (ps_set (i:=7) sc_law.nd rfl (Or.inl rfl) (pe_op op_add (pe_callF C__law_at q hr (pa_cons (pv 0) (pa_cons (pe_op op_add pe_int (pv 6)) pa_nil))) (pe_op op_mul pe_int (pv 6)))) (pss_cons (ps_set (i:=8) sc_law.nd rfl (Or.inr rfl) (pe_ix ix_list (pv 5) (pe_op op_mod (pv 7) (pe_callB call_len rfl T.b_len bb_len (pa_cons (pv 5) pa_nil))) (fun _ _=>rfl))) (pss_cons (ps_set (i:=9) sc_law.nd rfl (Or.inl rfl) (pv 5)) (pss_cons (ps_cut (ps_if (pt_cmpR op_gt (pe_op op_mod (pe_op op_fdivW (pv 7) pe_int) pe_int) pe_int (nomark _)) (pss_one (ps_setCI (i0:=9) (N':=["_law_code_here","_law_told","_law_start"]) ["_law_told","_law_start"] ["_law_told","_law_start"] [2,8] 1 (by with_unfolding_all rfl) rfl (capsOk_cons rfl rfl (by decide) (capsOk_cons rfl rfl (by decide) capsOk_nil)) rfl rfl (by decide) rfl (by decide +kernel) rfl (by decide +kernel) rfl (pi_list (pv 5)) (fun C s0 H0 fp pins=>(pg_name (i:=0) (show (["_law_code_here","_law_told","_law_start"]:List Str).Nodup by decide +kernel) rfl (Or.inl rfl) (Or.inr rfl))) (fun C s0 H0 fp pins=>(pt_cmpR op_eq (pe_dget hr.dic (pv 1) (pv 0) (fun _ _=>rfl)) (pe_dget hr.dic (pv 1) (pv 2) (fun _ _=>rfl)) (nomark _))) (fun C s0 H0 fp pins=>(pv 0)) sc_law.nd rfl (Or.inl rfl))) pss_nil)) (pss_cons (ps_set (i:=10) sc_law.nd rfl (Or.inl rfl) (pe_ix ix_list (pv 9) (pe_op op_mod (pe_op op_fdivW (pv 7) pe_int) (pe_callB call_len rfl T.b_len bb_len (pa_cons (pv 9) pa_nil))) (fun _ _=>rfl))) (pss_cons (ps_asg (pe_callF C__law_place q hr (pa_cons (pe_dget hr.dic (pv 3) (pv 8) (fun _ _=>rfl)) (pa_cons (pv 7) pa_nil))) (pg_tup rfl (pgs_cons (pg_name (i:=11) sc_law.nd rfl (Or.inl rfl)) (pgs_cons (pg_name (i:=12) sc_law.nd rfl (Or.inl rfl)) pgs_nil)))) (pss_cons (ps_asg (pe_callF C__law_place q hr (pa_cons (pe_dget hr.dic (pv 3) (pv 10) (fun _ _=>rfl)) (pa_cons (pe_op op_fdivW (pv 7) pe_int) pa_nil))) (pg_tup rfl (pgs_cons (pg_name (i:=13) sc_law.nd rfl (Or.inl rfl)) (pgs_cons (pg_name (i:=14) sc_law.nd rfl (Or.inl rfl)) pgs_nil)))) (pss_cons (ps_set (i:=15) sc_law.nd rfl (Or.inl rfl) (pe_callF C_way_between q hr (pa_cons (pv 1) (pa_cons (pv 11) (pa_cons (pv 12) (pa_cons (pv 13) (pa_cons (pv 14) pa_nil))))))) (pss_cons (ps_if (pt_not (pt_val (pe_callF C__law_right q hr (pa_cons (pv 15) (pa_cons (pv 2) (pa_cons (pv 3) (pa_cons (pv 8) (pa_cons (pv 10) pa_nil)))))))) (pss_one (ps_ret pe_bl)) pss_nil) (pss_one (ps_if (pt_cmpR op_notN (pv 15) pe_non (nomark _)) (pss_cons (ps_expr (pe_bm PySem.F.plainAttrs_list PySem.F.slot_list_append PySem.F.type_list_append mt_append (pv 15) (pa_cons pe_str pa_nil))) (pss_one (ps_if (pt_not (pt_val (pe_callF C__law_right q hr (pa_cons (pe_callF C_way_between q hr (pa_cons (pv 1) (pa_cons (pv 11) (pa_cons (pv 12) (pa_cons (pv 13) (pa_cons (pv 14) pa_nil)))))) (pa_cons (pv 2) (pa_cons (pv 3) (pa_cons (pv 8) (pa_cons (pv 10) pa_nil)))))))) (pss_one (ps_ret pe_bl)) pss_nil))) pss_nil)))))))))))) (pss_one (ps_ret pe_bl)))))))),?_⟩
  have two:2≤sizeLine:=by decide
  refine ⟨_,rfl,a,ns,rfl,hS,h63,fun v n t H1 s1 hv hn gt ct => ?_⟩;obtain ⟨ps,x,rfl,hps,hx⟩:=hv;refine ⟨_,rfl,ps,_,_,_,rfl,rfl,SqT.of hps,rfl,x,t,"",n,n,rfl,hx,gt,empty_eq▸IsC.nil,by rw [show ("" : Str).length=0 by decide +kernel]; omega,hn,by omega,by decide,by omega,fun lt us H2 s2 hlt u2 hus => ?_⟩
  obtain ⟨L,eL⟩:∃ L,L=sqs [] t 0 0 n:=⟨_,rfl⟩;have hB:L.Pairwise BefS:=by rw [eL]; exact sqs_bef t [] 0 0 n gt
  have lc:L.length=cnt t:=by rw [eL]; exact sqs_len t [] 0 0 n
  have cp:=cnt_pos t;rw [dig_empty,lvs_sqs t [] 0 0 n,← eL] at hus;obtain ⟨as,eas,hpr⟩:=pas_pairs hus;have hpr':PairsAt H2 as (colK L):=by
    unfold colK;rw [List.map_map] at hpr;exact hpr
  refine ⟨lt,as,colK L,rfl,SqL.of (by rw [u2,eas]),hpr',colK_nodup hB,fun dc hdc => ?_⟩;have s3:=Same.new hdc (.dK (colK L));have u3:upd H2 dc (.dK (colK L)) dc=some (.dK (colK L)):=upd_same;generalize upd H2 dc (.dK (colK L))=H3 at *;have cl:(colK L).length=L.length:=by unfold colK; rw [List.length_map]
  refine fun dq hdq => ?_;have s4:=Same.new hdq (.dK []);have u4:upd H3 dq (.dK []) dq=some (.dK []):=upd_same;have u34:=s4 _ _ u3;generalize upd H3 dq (.dK [])=H4 at *;have s24:=s3.trans s4;have ndq:H2 dq=none:=s3.free hdq;have dcq:dc≠dq:=fun e=>by rw [e,hdq] at u3; cases u3
  have sqr:∀ {sq:Sq},sq∈L→IsC (txt sq.z)∧(txt sq.z).length≤n∧((sqX n (dig (txt sq.z)):Nat):Int)=(sq.x:Int)∧((sqY n (dig (txt sq.z)):Nat):Int)=(sq.y:Int)∧((2 ^ (n - (txt sq.z).length):Nat):Int)=(sq.w:Int):=fun {sq} hq=>sq_of gt eL hq;have hps2:=s2 _ _ hps;refine ⟨_,rfl,dc,colK L,rfl,u34,fun ob=>for_keys (fun (i:Nat) σ H5=>Same H2 H5∧H5 dc=some (.frz ob (.dK (colK L)))∧(∃ kvq,H5 dq=some (.dK kvq)∧kvq.length≤i∧∀ q∈L.take i,∃ p,valV kvq (ky q.z)=some (.ref p)∧SqT3 H5 p q)∧∃ o4:Option V,σ=[some (.ref a),some (.ref ps),some (.ref dc),some (.ref dq),o4,none,none,none,none,none,none,none,none,none,none,none])
    ⟨Same.set s24 hdc _,upd_same,⟨[],by rw [upd_ne (Ne.symm dcq)]; exact u4,Nat.le_refl _,fun q hq=>(by cases hq)⟩,_,rfl⟩ (fun i σ H5 _ h=>h.2.1) ?_ ?_⟩
  · rintro i k v' σ H5 hk ⟨s5,f5,⟨kvq,d5,l5,a5⟩,o4,rfl⟩;unfold colK at hk;rw [List.getElem?_map] at hk;obtain ⟨q1,eq1,e⟩:=Option.map_eq_some_iff.mp hk;cases e;have hq1:=List.mem_of_getElem? eq1;have hil:=(List.getElem?_eq_some_iff.mp eq1).1;obtain ⟨hC,hlen,e1,e2,e3⟩:=sqr hq1;refine ⟨_,rfl,_,rfl,ps,_,_,_,rfl,rfl,SqT.of (s5 _ _ hps2),rfl,txt q1.z,n,rfl,hC,hlen,hn,fun pa H6 s6 hpa => ?_⟩;rw [e1,e2,e3] at hpa;refine ⟨_,rfl,_,rfl,dq,_,rfl,DPut.k (k:=ky q1.z) (s6 _ _ d5) (Nat.lt_of_lt_of_le (by omega:kvq.length < 5000) (by decide)),?_⟩;have tt:Tups H6 (upd H6 dq (.dK (putK kvq (ky q1.z) (.ref pa)))):=tups_upd (s6 _ _ d5) (by intro xs q; cases q);refine ⟨Same.set (s5.trans s6) ndq _,by rw [upd_ne dcq]; exact s6 _ _ f5,⟨_,upd_same,?_,fun q hq => ?_⟩,_,rfl⟩
    · have:=length_putK kvq (ky q1.z) (.ref pa)
      omega
    · rw [valV_put];by_cases c:q.z=q1.z
      · have hqL:q∈L:=List.mem_of_mem_take hq;have e5:q=q1:=z_inj hB hqL hq1 c;rw [if_pos (by rw [c]),e5];exact ⟨pa,rfl,tt _ _ hpa⟩
      · rw [if_neg fun k=>c (ky_inj k)];rw [List.take_add_one,eq1] at hq;rcases List.mem_append.mp hq with hq | hq
        · obtain ⟨p,h1,h2⟩:=a5 q hq;exact ⟨p,h1,tt _ _ (s6 _ _ h2)⟩
        · have:q=q1:=by simpa using hq
          exact absurd (by rw [this]) c
  rintro σ H5 ⟨s5,f5,⟨kvq,d5,l5,a5⟩,o4,rfl⟩;rw [cl,List.take_length] at a5;have hS5:=(s1.trans (s2.trans s5)).seq hS;have rd5:Rd H5 dc (.dK (colK L)):=.inr ⟨ob,f5⟩;have big:∀ {k:Nat},k≤1000000→k≤sizeLine:=fun {k} h=>Nat.le_trans h (by decide);refine ⟨_,rfl,dc,colK L,rfl,rd5,fun pl hpl => ?_⟩;have emk:((colK L).map fun e=>kV e.1)=L.map fun q=>sV q.z:=by
    unfold colK;rw [List.map_map];rfl
  rw [emk];have s6:=Same.new hpl (.lst (L.map fun q=>sV q.z));have u6:upd H5 pl (.lst (L.map fun q=>sV q.z)) pl=some (.lst (L.map fun q=>sV q.z)):=upd_same;generalize upd H5 pl (.lst (L.map fun q=>sV q.z))=H6 at *;have f6:=s6 _ _ f5;have d6:=s6 _ _ d5;have hS6:=s6.seq hS5;have b01:∀ b:Bool,(0:Int)≤1 + cell ns 11 % 4 * (if b then 1 else 0)∧(1:Int) + cell ns 11 % 4 * (if b then 1 else 0) < 5:=by
    intro b;cases b with
    | true=>rw [if_pos rfl]; omega
    | false=>rw [if_neg (by decide)]; omega
  have pL:0 < L.length:=by omega
  have hps6:=s6 _ _ (s5 _ _ hps2);have s16:=s2.trans (s5.trans s6);have hx6:=hx.up s16.tups;have hwL:∀ q∈L,0 < q.w:=fun q1 h1=>(sqs_in t [] 0 0 n gt q1 (by rw [← eL]; exact h1)).2.2.2.2;have sq6:∀ q∈L,∃ p,valV kvq (ky q.z)=some (.ref p)∧SqT3 H6 p q:=fun q1 h1=>by
    obtain ⟨p,h2,h3⟩:=a5 q1 h1;exact ⟨p,h2,s6 _ _ h3⟩
  have hC:∀ q∈L,IsC (txt q.z):=fun q h=>(sqr h).1;have gz:∀ {H':Hp} {q:Sq},Same H6 H'→q∈L→DGet H' dc (sV q.z) (some (.int q.c)):=fun sm hq=>.inl ⟨colK L,ky _,.inr ⟨ob,sm _ _ f6⟩,rfl,(colK_val hB hq).symm⟩;have gq:∀ {H':Hp} {q:Sq} {p:Addr},Same H6 H'→valV kvq (ky q.z)=some (.ref p)→DGet H' dq (sV q.z) (some (.ref p)):=fun {H' q p} sm hv=>hv▸DGet.k (k:=ky q.z) (sm _ _ d6);have pick:∀ {S:List Sq} (c:Int),0 < S.length→∃ q1∈S,atI (S.map fun q=>sV q.z) (c % (((S.map fun q=>sV q.z).length:Nat):Int))=some (sV q1.z):=fun {S} c hp=>by
    rw [List.length_map];have h1:=Int.emod_nonneg c (show ((S.length:Nat):Int)≠0 by omega);have h2:=Int.emod_lt_of_pos c (show (0:Int) < ((S.length:Nat):Int) by omega);obtain ⟨m,em⟩:∃ m:Nat,c % ((S.length:Nat):Int)=(m:Int):=⟨_,(Int.toNat_of_nonneg h1).symm⟩;rw [em] at h2 ⊢;have hm:m < S.length:=by omega
    exact ⟨S[m],List.getElem_mem _,atI_nat (by rw [List.getElem?_map,List.getElem?_eq_getElem hm]; rfl)⟩
  refine ⟨_,rfl,a,ns,11,rfl,hS6,h63,_,_,rfl,rfl,(by show (0:Int) < 4; decide),_,rfl,dc,colK L,rfl,.inr ⟨ob,f6⟩,_,_,rfl,rfl,.inr ⟨_,rfl,_,_,rfl,rfl,cm01 _ _,_,_,rfl,rfl,_,rfl,Int.le_trans (by decide) (b01 _).1,Int.lt_trans (b01 _).2 (by decide),?_⟩⟩;refine for_range (fun (j:Nat) σ H7=>Same H6 H7∧∃ o6 o7 o8 o9 o10 o11 o12 o13 o14 o15:Option V,σ=[some (.ref a),some (.ref ps),some (.ref dc),some (.ref dq),o4,some (.ref pl),o6,o7,o8,o9,o10,o11,o12,o13,o14,o15]) ⟨Same.refl _,_,_,_,_,_,_,_,_,_,_,rfl⟩ ?_ ?_
  rotate_left
  · rintro σ H7 ⟨s7,o6,o7,o8,o9,o10,o11,o12,o13,o14,o15,rfl⟩;exact q' _
  rintro j σ H7 hj ⟨s7,o6,o7,o8,o9,o10,o11,o12,o13,o14,o15,rfl⟩;have hS7:=s7.seq hS6;have hj4:j < 5:=by
    have h1:j < ((1:Int) + cell ns 11 % 4 * (if decide ((((colK L).length:Nat):Int) < 70) then 1 else 0)).toNat:=hj;have h2:=b01 (decide ((((colK L).length:Nat):Int) < 70));omega
  refine ⟨_,rfl,_,rfl,_,_,rfl,rfl,a,ns,12 + j,(by show [V.ref a,V.int (12 + (0 + (j:Int)))]=[V.ref a,V.int ((12 + j:Nat):Int)]; rw [show (12:Int) + (0 + (j:Int))=((12 + j:Nat):Int) by omega]),hS7,h63,_,rfl,_,_,rfl,rfl,.inl ⟨by decide,by decide⟩,_,_,rfl,rfl,?_⟩;dsimp only;generalize cell ns (12 + j) + 5 * (0 + (j:Int))=ce;have u7:=s7 _ _ u6;obtain ⟨q0,hq0,at0⟩:=pick (S:=L) ce pL;refine ⟨_,rfl,_,rfl,_,rfl,_,_,rfl,.inl ⟨_,SqL.of u7,rfl⟩,_,_,rfl,rfl,(by show (0:Int) < (((L.map fun q=>sV q.z).length:Nat):Int); rw [List.length_map]; omega),pl,_,_,sV q0.z,rfl,rfl,SqL.of u7,at0,?_⟩;refine ⟨_,rfl,?_⟩;refine ⟨fun σ H8=>∃ (ls:Addr) (S:List Sq),Same H6 H8∧H8 ls=some (.lst (S.map fun q=>sV q.z))∧(∀ q∈S,q∈L)∧0 < S.length∧S.length≤L.length∧σ=[some (.ref a),some (.ref ps),some (.ref dc),some (.ref dq),o4,some (.ref pl),some (.int (0 + (j:Int))),some (.int ce),some (sV q0.z),some (.ref ls),o10,o11,o12,o13,o14,o15],?_,?_⟩
  · refine ⟨_,rfl,_,_,rfl,rfl,cdivW (by decide) (by decide),_,_,rfl,rfl,(by show (0:Int) < 4; decide),_,_,rfl,rfl,_,rfl,ite2 (fun _ => ?_) (fun _=>⟨pl,L,s7,u7,fun q h=>h,pL,Nat.le_refl _,rfl⟩)⟩;refine ⟨[.ref dc,sV q0.z],rfl,_,rfl,pl,rfl,⟨_,SqL.of u7⟩,compCI_list (L.map fun q=>sV q.z) (fun D (i:Nat) ys H'=>Same H7 H'∧H' D=some (.lst ys)∧ys.length≤i∧ys=((L.take i).filter fun q=>decide (q.c=q0.c)).map fun q=>sV q.z) (big (by rw [List.length_map]; omega)) (fun D i ys H' h=>SqL.of (h.1 _ _ u7)) (fun D i ys H' h=>⟨h.2.1,h.2.2.1⟩) (fun D hD=>⟨Same.new hD _,upd_same,Nat.le_refl _,rfl⟩) ?_ ?_ (fun _ _ _ _ _ k h=>k _ _ h) ?_ ?_⟩
    · rintro D i y ys H8 hy hD ⟨c1,c2,c3,c4⟩;rw [List.getElem?_map] at hy;obtain ⟨q1,eq1,rfl⟩:=Option.map_eq_some_iff.mp hy;have hq1:=List.mem_of_getElem? eq1;refine ⟨rfl,_,rfl,_,rfl,dc,.int q1.c,rfl,gz (s7.trans c1) hq1,_,rfl,_,rfl,dc,.int q0.c,rfl,gz (s7.trans c1) hq0,rfl,_,rfl,ite2 (fun c => ?_) (fun c => ?_)⟩
      · have c':q1.c=q0.c:=V.int.inj (of_decide_eq_true c);refine ⟨_,rfl,c2,Same.set c1 hD _,upd_same,by rw [List.length_append]; show ys.length + 1≤i + 1; omega,?_⟩;rw [filt_snoc eq1,decide_eq_true c',List.map_append,← c4];rfl
      · have c':¬ q1.c=q0.c:=fun k=>c (decide_eq_true (congrArg V.int k));refine ⟨c1,c2,by omega,?_⟩;rw [filt_snoc eq1,decide_eq_false c',c4];simp
    rotate_left
    · rintro σ H' R R' k ⟨v,h1,h2⟩;exact ⟨v,h1,k _ _ h2⟩
    · rintro σ H' R R' k ⟨a1,e1,a2,e2,d',v',e3,g1,a4,e4,a5,e5,d2,v2,e6,g2,e7,kk,e8,h⟩;exact ⟨a1,e1,a2,e2,d',v',e3,g1,a4,e4,a5,e5,d2,v2,e6,g2,e7,kk,e8,k _ _ h⟩
    rintro D ys H8 hD ⟨s8,uD,_,c4⟩;rw [List.length_map,List.take_length] at c4;refine ⟨D,_,s7.trans s8,by rw [uD,c4],fun q h=>(List.mem_filter.mp h).1,?_,List.length_filter_le _ _,rfl⟩;exact List.length_pos_of_mem (List.mem_filter.mpr ⟨hq0,decide_eq_true rfl⟩)
  rintro σ H8 ⟨ls,S,s8,u8,hS,pS,lS,rfl⟩;obtain ⟨q2,hq2S,at2⟩:=pick (S:=S) (ce / 11) pS;have hq2:=hS q2 hq2S;refine ⟨_,rfl,_,rfl,_,_,rfl,rfl,cdivW (by decide) (by decide),_,rfl,_,_,rfl,.inl ⟨_,SqL.of u8,rfl⟩,_,_,rfl,rfl,(by show (0:Int) < (((S.map fun q=>sV q.z).length:Nat):Int); rw [List.length_map]; omega),ls,_,_,sV q2.z,rfl,rfl,SqL.of u8,at2,?_⟩;obtain ⟨p0,vp0,hp0⟩:=sq6 q0 hq0;obtain ⟨p2,vp2,hp2⟩:=sq6 q2 hq2;refine ⟨_,rfl,_,rfl,dq,.ref p0,rfl,gq s8 vp0,_,rfl,p0,q0,ce,rfl,s8 _ _ hp0,hwL _ hq0,fun r1 X Y H9 s9 u9 in1 => ?_⟩;refine ⟨r1,_,rfl,SqT.of u9,rfl,_,_,rfl,_,_,rfl,rfl,?_⟩;have s89:=s8.trans s9;refine ⟨_,rfl,_,rfl,dq,.ref p2,rfl,gq s89 vp2,_,rfl,_,_,rfl,rfl,cdivW (by decide) (by decide),p2,q2,_,rfl,s89 _ _ hp2,hwL _ hq2,fun r2 X2 Y2 H10 s10 u10 in2 => ?_⟩;refine ⟨r2,_,rfl,SqT.of u10,rfl,_,_,rfl,_,_,rfl,rfl,?_⟩;have s610:=s89.trans s10;refine ⟨_,rfl,_,rfl,_,rfl,_,rfl,_,rfl,ps,n,X,Y,X2,Y2,x,t,L,q0,q2,rfl,s610 _ _ hps6,hx6.up s610.tups,gt,hn,ct,eL,hq0,hq2,in1,in2,fun u H11 s11 hW => ?_⟩;have s611:=s610.trans s11;have up6:∀ {H':Hp},Same H6 H'→∀ q∈L,∃ p,valV kvq (ky q.z)=some (.ref p)∧SqT3 H' p q:=fun {H'} sm q1 h1=>by
    obtain ⟨p,h2,h3⟩:=sq6 q1 h1;exact ⟨p,h2,sm _ _ h3⟩
  refine ⟨_,rfl,_,rfl,_,rfl,_,rfl,_,rfl,u,H10,dc,dq,ob,kvq,L,q0,q2,rfl,s611 _ _ f6,s611 _ _ d6,up6 s611,hB,by omega,hq0,hq2,hC,hW,fun H12 s12=>⟨_,rfl,iteF ?_⟩⟩;have s612:=s611.trans s12;refine ⟨_,rfl,rfl,_,rfl,?_⟩;rcases hW with ⟨rfl,_⟩ | ⟨lw,ws,rfl,nlw,ulw,W,hd,lws⟩
  · exact iteF ⟨s612,_,_,_,_,_,_,_,_,_,_,rfl⟩
  refine iteT ?_;have u12:=s12 _ _ ulw;have n6:H6 lw=none:=s610.free nlw;refine ⟨_,rfl,.inl ⟨rfl,_,SqL.of u12⟩,lw,_,_,rfl,rfl,u12,Nat.lt_of_le_of_lt (by rw [List.length_map]; exact lws) (by decide),?_⟩;have s613:=Same.set s612 n6 (.lst ((ws.map fun q=>sV q.z)++[.str (Str.ofString "")]))
  generalize upd H12 lw (.lst ((ws.map fun q=>sV q.z)++[.str (Str.ofString "")]))=H13 at *
  refine ⟨_,rfl,_,rfl,_,rfl,_,rfl,_,rfl,ps,n,X,Y,X2,Y2,x,t,L,q0,q2,rfl,s613 _ _ hps6,hx6.up s613.tups,gt,hn,ct,eL,hq0,hq2,in1,in2,fun u H14 s14 hW => ?_⟩;have s614:=s613.trans s14;refine ⟨_,rfl,_,rfl,_,rfl,_,rfl,u,H13,dc,dq,ob,kvq,L,q0,q2,rfl,s614 _ _ f6,s614 _ _ d6,up6 s614,hB,by omega,hq0,hq2,hC,hW,fun H15 s15=>⟨_,rfl,iteF ?_⟩⟩;exact ⟨s614.trans s15,_,_,_,_,_,_,_,_,_,_,rfl⟩
end
end Qs


namespace Qs
open PySem L2
theorem kd4 {P:Program} {w:World} {K:PySem.W.Frag} {aC p0 p1 p2 p3:Addr} {dk0 dk1 dk2 dk3:Tok} {nC:Nat} (y:K.lookup aC=some ⟨.type "dict",none,.dict #[⟨PyData.keyHash w.params "up",.str "up" dk0,.ref p0⟩,⟨PyData.keyHash w.params "right",.str "right" dk1,.ref p1⟩,⟨PyData.keyHash w.params "down",.str "down" dk2,.ref p2⟩,⟨PyData.keyHash w.params "left",.str "left" dk3,.ref p3⟩] nC,#[]⟩) :
    KD P w K aC [(.inr "up",.ref p0),(.inr "right",.ref p1),(.inr "down",.ref p2),(.inr "left",.ref p3)]:=by
  refine ⟨_,[(.inr "up",.ref p0),(.inr "right",.ref p1),(.inr "down",.ref p2),(.inr "left",.ref p3)],y,.cons ⟨rfl,rfl⟩ (.cons ⟨rfl,rfl⟩ (.cons ⟨rfl,rfl⟩ (.cons ⟨rfl,rfl⟩ .nil))),_,_,⟨rfl,rfl,rfl⟩,rfl,fun e he => ?_,.cons (kV_is ⟨_,rfl⟩) rfl (.cons (kV_is ⟨_,rfl⟩) rfl (.cons (kV_is ⟨_,rfl⟩) rfl (.cons (kV_is ⟨_,rfl⟩) rfl .nil))),(by show ([.inr "up",.inr "right",.inr "down",.inr "left"]:List Key).Nodup; decide +kernel)⟩
  simp only [List.mem_toArray,List.mem_cons,List.not_mem_nil,or_false] at he;rcases he with rfl | rfl | rfl | rfl
  · exact ⟨.inr "up",kV_is ⟨_,rfl⟩,rfl⟩
  · exact ⟨.inr "right",kV_is ⟨_,rfl⟩,rfl⟩
  · exact ⟨.inr "down",kV_is ⟨_,rfl⟩,rfl⟩
  · exact ⟨.inr "left",kV_is ⟨_,rfl⟩,rfl⟩
end Qs
namespace Qs
open PySem L2
theorem lenKS {us:List Value} {n:Nat} (h:us.length=n + 1):∃ a t,us=a::t∧t.length=n:=by
  cases us with
  | nil=>cases h
  | cons a t=>exact ⟨a,t,rfl,Nat.succ.inj h⟩
theorem lenK1 {us:List Value} (h:us.length=1):∃ a,us=[a]:=by
  obtain ⟨a,u0,e0,h⟩:=lenKS h;have e:=List.eq_nil_of_length_eq_zero h;subst e;subst e0;exact ⟨a,rfl⟩
theorem lenK2 {us:List Value} (h:us.length=2):∃ a b,us=[a,b]:=by
  obtain ⟨a,u0,e0,h⟩:=lenKS h;obtain ⟨b,u1,e1,h⟩:=lenKS h;have e:=List.eq_nil_of_length_eq_zero h;subst e;subst e1;subst e0;exact ⟨a,b,rfl⟩
theorem lenK3 {us:List Value} (h:us.length=3):∃ a b c,us=[a,b,c]:=by
  obtain ⟨a,u0,e0,h⟩:=lenKS h;obtain ⟨b,u1,e1,h⟩:=lenKS h;obtain ⟨c,u2,e2,h⟩:=lenKS h;have e:=List.eq_nil_of_length_eq_zero h;subst e;subst e2;subst e1;subst e0;exact ⟨a,b,c,rfl⟩
theorem lenK4 {us:List Value} (h:us.length=4):∃ a b c d,us=[a,b,c,d]:=by
  obtain ⟨a,u0,e0,h⟩:=lenKS h;obtain ⟨b,u1,e1,h⟩:=lenKS h;obtain ⟨c,u2,e2,h⟩:=lenKS h;obtain ⟨d,u3,e3,h⟩:=lenKS h;have e:=List.eq_nil_of_length_eq_zero h;subst e;subst e3;subst e2;subst e1;subst e0;exact ⟨a,b,c,d,rfl⟩
theorem lenK5 {us:List Value} (h:us.length=5):∃ a b c d e,us=[a,b,c,d,e]:=by
  obtain ⟨a,u0,e0,h⟩:=lenKS h;obtain ⟨b,u1,e1,h⟩:=lenKS h;obtain ⟨c,u2,e2,h⟩:=lenKS h;obtain ⟨d,u3,e3,h⟩:=lenKS h;obtain ⟨e,u4,e4,h⟩:=lenKS h;have e:=List.eq_nil_of_length_eq_zero h;subst e;subst e4;subst e3;subst e2;subst e1;subst e0;exact ⟨a,b,c,d,e,rfl⟩
theorem len1 {us:List Value} {d:Value} (h:(us++[d]).length=2):∃ a,us=[a]:=by
  match us,h with
  | [a],_=>exact ⟨a,rfl⟩
  | [],h=>simp at h
  | _::_::_,h=>simp at h
theorem all_mk {l:PySem.W.OpenLaw} {w:World} {K:PySem.W.Frag} {h:Heap} {mg:Str→Option Value} {fa f0 f1 f2 f3 f4 f5 f6 f7 f8 f9 f10 f11 f12 f13 f14 f15 f16 f17 f18 f19 f20 f21 f22 f23 f24 f25 f26 f27 f28 f29 f30 f31 f32 f33 f34 f35 f36:Addr} (X:K.In h) (G:h.Ns mainGlobals mg) (hfa:mg "law" = some (.ref fa))
    {od0 an0 od1 an1 od2 an2 od3 an3 od4 an4 od5 an5 od6 an6 od7 an7 od8 an8 od9 an9 od10 an10 od11 an11 od12 an12 od13 an13 od14 an14 od15 an15 od16 an16 od17 an17 od18 an18 od19 an19 od20 an20 od21 an21 od22 an22 od23 an23 od24 an24 od25 an25 od26 an26 od27 an27 od28 an28 od29 an29 od30 an30 od31 an31 od32 an32 od33 an33 od34 an34 od35 an35 od36 an36:Option Addr} {sl0 sl1 sl2 sl3 sl4 sl5 sl6 sl7 sl8 sl9 sl10 sl11 sl12 sl13 sl14 sl15 sl16 sl17 sl18 sl19 sl20 sl21 sl22 sl23 sl24 sl25 sl26 sl27 sl28 sl29 sl30 sl31 sl32 sl33 sl34 sl35 sl36:Array (Option Value)} {oc0 kV0 dc0 pm0 cd0 ct0 oc1 kV1 dc1 pm1 cd1 ct1 oc2 kV2 dc2 pm2 cd2 ct2 oc3 kV3 dc3 pm3 cd3 ct3 oc4 kV4 dc4 pm4 cd4 ct4 oc5 kV5 dc5 pm5 cd5 ct5 oc6 kV6 dc6 pm6 cd6 ct6 oc7 kV7 dc7 pm7 cd7 ct7 oc8 kV8 dc8 pm8 cd8 ct8 oc9 kV9 dc9 pm9 cd9 ct9 oc10 kV10 dc10 pm10 cd10 ct10 oc11 kV11 dc11 pm11 cd11 ct11 oc12 kV12 dc12 pm12 cd12 ct12 oc13 kV13 dc13 pm13 cd13 ct13 oc14 kV14 dc14 pm14 cd14 ct14 oc15 kV15 dc15 pm15 cd15 ct15 oc16 kV16 dc16 pm16 cd16 ct16 oc17 kV17 dc17 pm17 cd17 ct17 oc18 kV18 dc18 pm18 cd18 ct18 oc19 kV19 dc19 pm19 cd19 ct19 oc20 kV20 dc20 pm20 cd20 ct20 oc21 kV21 dc21 pm21 cd21 ct21 oc22 kV22 dc22 pm22 cd22 ct22 oc23 kV23 dc23 pm23 cd23 ct23 oc24 kV24 dc24 pm24 cd24 ct24 oc25 kV25 dc25 pm25 cd25 ct25 oc26 kV26 dc26 pm26 cd26 ct26 oc27 kV27 dc27 pm27 cd27 ct27 oc28 kV28 dc28 pm28 cd28 ct28 oc29 kV29 dc29 pm29 cd29 ct29 oc30 kV30 dc30 pm30 cd30 ct30 oc31 kV31 dc31 pm31 cd31 ct31 oc32 kV32 dc32 pm32 cd32 ct32 oc33 kV33 dc33 pm33 cd33 ct33 oc34 kV34 dc34 pm34 cd34 ct34 oc35 kV35 dc35 pm35 cd35 ct35 oc36 kV36 dc36 pm36 cd36 ct36:Value}
    {dt7:Addr} {do7:Option Addr} {dn7:Nat} {dsl7:Array (Option Value)} {dk7:Tok}
    (a0:PySem.W.nsIn K mainGlobals "is_side" = some (some (.ref f0))) (l0:K.lookup f0=some ⟨oc0,od0,.func (PySem.W.fnOf "is_side" "is_side" (defArgs s_is_side) (defBody s_is_side) (defScope s_is_side) .none kV0 dc0 pm0 an0 cd0 ct0),sl0⟩) (c0:PySem.W.codeIn K cd0 "is_side" = true) (k0:PySem.W.keepIn K (.ref f0)=true)
    (a1:PySem.W.nsIn K mainGlobals "is_code" = some (some (.ref f1))) (l1:K.lookup f1=some ⟨oc1,od1,.func (PySem.W.fnOf "is_code" "is_code" (defArgs s_is_code) (defBody s_is_code) (defScope s_is_code) .none kV1 dc1 pm1 an1 cd1 ct1),sl1⟩) (c1:PySem.W.codeIn K cd1 "is_code" = true) (k1:PySem.W.keepIn K (.ref f1)=true)
    (a2:PySem.W.nsIn K mainGlobals "need_code" = some (some (.ref f2))) (l2:K.lookup f2=some ⟨oc2,od2,.func (PySem.W.fnOf "need_code" "need_code" (defArgs s_need_code) (defBody s_need_code) (defScope s_need_code) .none kV2 dc2 pm2 an2 cd2 ct2),sl2⟩) (c2:PySem.W.codeIn K cd2 "need_code" = true) (k2:PySem.W.keepIn K (.ref f2)=true)
    (a3:PySem.W.nsIn K mainGlobals "need_side" = some (some (.ref f3))) (l3:K.lookup f3=some ⟨oc3,od3,.func (PySem.W.fnOf "need_side" "need_side" (defArgs s_need_side) (defBody s_need_side) (defScope s_need_side) .none kV3 dc3 pm3 an3 cd3 ct3),sl3⟩) (c3:PySem.W.codeIn K cd3 "need_side" = true) (k3:PySem.W.keepIn K (.ref f3)=true)
    (a4:PySem.W.nsIn K mainGlobals "beside" = some (some (.ref f4))) (l4:K.lookup f4=some ⟨oc4,od4,.func (PySem.W.fnOf "beside" "beside" (defArgs s_beside) (defBody s_beside) (defScope s_beside) .none kV4 dc4 pm4 an4 cd4 ct4),sl4⟩) (c4:PySem.W.codeIn K cd4 "beside" = true) (k4:PySem.W.keepIn K (.ref f4)=true)
    (a5:PySem.W.nsIn K mainGlobals "is_whole" = some (some (.ref f5))) (l5:K.lookup f5=some ⟨oc5,od5,.func (PySem.W.fnOf "is_whole" "is_whole" (defArgs s_is_whole) (defBody s_is_whole) (defScope s_is_whole) .none kV5 dc5 pm5 an5 cd5 ct5),sl5⟩) (c5:PySem.W.codeIn K cd5 "is_whole" = true) (k5:PySem.W.keepIn K (.ref f5)=true)
    (a6:PySem.W.nsIn K mainGlobals "is_level" = some (some (.ref f6))) (l6:K.lookup f6=some ⟨oc6,od6,.func (PySem.W.fnOf "is_level" "is_level" (defArgs s_is_level) (defBody s_is_level) (defScope s_is_level) .none kV6 dc6 pm6 an6 cd6 ct6),sl6⟩) (c6:PySem.W.codeIn K cd6 "is_level" = true) (k6:PySem.W.keepIn K (.ref f6)=true)
    (a7:PySem.W.nsIn K mainGlobals "need_level" = some (some (.ref f7))) (l7:K.lookup f7=some ⟨oc7,od7,.func (PySem.W.fnOf "need_level" "need_level" (defArgs s_need_level) (defBody s_need_level) (defScope s_need_level) (.ref dt7) kV7 dc7 pm7 an7 cd7 ct7),sl7⟩) (c7:PySem.W.codeIn K cd7 "need_level" = true) (k7:PySem.W.keepIn K (.ref f7)=true)
    (d7:K.lookup dt7=some ⟨.type "tuple",do7,.seq #[.int 0 dk7] dn7,dsl7⟩)
    (a8:PySem.W.nsIn K mainGlobals "width_of" = some (some (.ref f8))) (l8:K.lookup f8=some ⟨oc8,od8,.func (PySem.W.fnOf "width_of" "width_of" (defArgs s_width_of) (defBody s_width_of) (defScope s_width_of) .none kV8 dc8 pm8 an8 cd8 ct8),sl8⟩) (c8:PySem.W.codeIn K cd8 "width_of" = true) (k8:PySem.W.keepIn K (.ref f8)=true)
    (a9:PySem.W.nsIn K mainGlobals "need_place" = some (some (.ref f9))) (l9:K.lookup f9=some ⟨oc9,od9,.func (PySem.W.fnOf "need_place" "need_place" (defArgs s_need_place) (defBody s_need_place) (defScope s_need_place) .none kV9 dc9 pm9 an9 cd9 ct9),sl9⟩) (c9:PySem.W.codeIn K cd9 "need_place" = true) (k9:PySem.W.keepIn K (.ref f9)=true)
    (a10:PySem.W.nsIn K mainGlobals "code_at" = some (some (.ref f10))) (l10:K.lookup f10=some ⟨oc10,od10,.func (PySem.W.fnOf "code_at" "code_at" (defArgs s_code_at) (defBody s_code_at) (defScope s_code_at) .none kV10 dc10 pm10 an10 cd10 ct10),sl10⟩) (c10:PySem.W.codeIn K cd10 "code_at" = true) (k10:PySem.W.keepIn K (.ref f10)=true)
    (a11:PySem.W.nsIn K mainGlobals "leaves_below" = some (some (.ref f11))) (l11:K.lookup f11=some ⟨oc11,od11,.func (PySem.W.fnOf "leaves_below" "leaves_below" (defArgs s_leaves_below) (defBody s_leaves_below) (defScope s_leaves_below) .none kV11 dc11 pm11 an11 cd11 ct11),sl11⟩) (c11:PySem.W.codeIn K cd11 "leaves_below" = true) (k11:PySem.W.keepIn K (.ref f11)=true)
    (a12:PySem.W.nsIn K mainGlobals "leaves" = some (some (.ref f12))) (l12:K.lookup f12=some ⟨oc12,od12,.func (PySem.W.fnOf "leaves" "leaves" (defArgs s_leaves) (defBody s_leaves) (defScope s_leaves) .none kV12 dc12 pm12 an12 cd12 ct12),sl12⟩) (c12:PySem.W.codeIn K cd12 "leaves" = true) (k12:PySem.W.keepIn K (.ref f12)=true)
    (a13:PySem.W.nsIn K mainGlobals "leaves_along" = some (some (.ref f13))) (l13:K.lookup f13=some ⟨oc13,od13,.func (PySem.W.fnOf "leaves_along" "leaves_along" (defArgs s_leaves_along) (defBody s_leaves_along) (defScope s_leaves_along) .none kV13 dc13 pm13 an13 cd13 ct13),sl13⟩) (c13:PySem.W.codeIn K cd13 "leaves_along" = true) (k13:PySem.W.keepIn K (.ref f13)=true)
    (a14:PySem.W.nsIn K mainGlobals "beyond_leaf" = some (some (.ref f14))) (l14:K.lookup f14=some ⟨oc14,od14,.func (PySem.W.fnOf "beyond_leaf" "beyond_leaf" (defArgs s_beyond_leaf) (defBody s_beyond_leaf) (defScope s_beyond_leaf) .none kV14 dc14 pm14 an14 cd14 ct14),sl14⟩) (c14:PySem.W.codeIn K cd14 "beyond_leaf" = true) (k14:PySem.W.keepIn K (.ref f14)=true)
    (a15:PySem.W.nsIn K mainGlobals "touches" = some (some (.ref f15))) (l15:K.lookup f15=some ⟨oc15,od15,.func (PySem.W.fnOf "touches" "touches" (defArgs s_touches) (defBody s_touches) (defScope s_touches) .none kV15 dc15 pm15 an15 cd15 ct15),sl15⟩) (c15:PySem.W.codeIn K cd15 "touches" = true) (k15:PySem.W.keepIn K (.ref f15)=true)
    (a16:PySem.W.nsIn K mainGlobals "leaf_at" = some (some (.ref f16))) (l16:K.lookup f16=some ⟨oc16,od16,.func (PySem.W.fnOf "leaf_at" "leaf_at" (defArgs s_leaf_at) (defBody s_leaf_at) (defScope s_leaf_at) .none kV16 dc16 pm16 an16 cd16 ct16),sl16⟩) (c16:PySem.W.codeIn K cd16 "leaf_at" = true) (k16:PySem.W.keepIn K (.ref f16)=true)
    (a17:PySem.W.nsIn K mainGlobals "alike_around" = some (some (.ref f17))) (l17:K.lookup f17=some ⟨oc17,od17,.func (PySem.W.fnOf "alike_around" "alike_around" (defArgs s_alike_around) (defBody s_alike_around) (defScope s_alike_around) .none kV17 dc17 pm17 an17 cd17 ct17),sl17⟩) (c17:PySem.W.codeIn K cd17 "alike_around" = true) (k17:PySem.W.keepIn K (.ref f17)=true)
    (a18:PySem.W.nsIn K mainGlobals "members_from" = some (some (.ref f18))) (l18:K.lookup f18=some ⟨oc18,od18,.func (PySem.W.fnOf "members_from" "members_from" (defArgs s_members_from) (defBody s_members_from) (defScope s_members_from) .none kV18 dc18 pm18 an18 cd18 ct18),sl18⟩) (c18:PySem.W.codeIn K cd18 "members_from" = true) (k18:PySem.W.keepIn K (.ref f18)=true)
    (a19:PySem.W.nsIn K mainGlobals "way_between" = some (some (.ref f19))) (l19:K.lookup f19=some ⟨oc19,od19,.func (PySem.W.fnOf "way_between" "way_between" (defArgs s_way_between) (defBody s_way_between) (defScope s_way_between) .none kV19 dc19 pm19 an19 cd19 ct19),sl19⟩) (c19:PySem.W.codeIn K cd19 "way_between" = true) (k19:PySem.W.keepIn K (.ref f19)=true)
    (a20:PySem.W.nsIn K mainGlobals "_law_at" = some (some (.ref f20))) (l20:K.lookup f20=some ⟨oc20,od20,.func (PySem.W.fnOf "_law_at" "_law_at" (defArgs s_law_at) (defBody s_law_at) (defScope s_law_at) .none kV20 dc20 pm20 an20 cd20 ct20),sl20⟩) (c20:PySem.W.codeIn K cd20 "_law_at" = true) (k20:PySem.W.keepIn K (.ref f20)=true)
    (a21:PySem.W.nsIn K mainGlobals "_law_code" = some (some (.ref f21))) (l21:K.lookup f21=some ⟨oc21,od21,.func (PySem.W.fnOf "_law_code" "_law_code" (defArgs s_law_code) (defBody s_law_code) (defScope s_law_code) .none kV21 dc21 pm21 an21 cd21 ct21),sl21⟩) (c21:PySem.W.codeIn K cd21 "_law_code" = true) (k21:PySem.W.keepIn K (.ref f21)=true)
    (a22:PySem.W.nsIn K mainGlobals "_law_colour" = some (some (.ref f22))) (l22:K.lookup f22=some ⟨oc22,od22,.func (PySem.W.fnOf "_law_colour" "_law_colour" (defArgs s_law_colour) (defBody s_law_colour) (defScope s_law_colour) .none kV22 dc22 pm22 an22 cd22 ct22),sl22⟩) (c22:PySem.W.codeIn K cd22 "_law_colour" = true) (k22:PySem.W.keepIn K (.ref f22)=true)
    (a23:PySem.W.nsIn K mainGlobals "_law_paints" = some (some (.ref f23))) (l23:K.lookup f23=some ⟨oc23,od23,.func (PySem.W.fnOf "_law_paints" "_law_paints" (defArgs s_law_paints) (defBody s_law_paints) (defScope s_law_paints) .none kV23 dc23 pm23 an23 cd23 ct23),sl23⟩) (c23:PySem.W.codeIn K cd23 "_law_paints" = true) (k23:PySem.W.keepIn K (.ref f23)=true)
    (a24:PySem.W.nsIn K mainGlobals "_law_tree_of" = some (some (.ref f24))) (l24:K.lookup f24=some ⟨oc24,od24,.func (PySem.W.fnOf "_law_tree_of" "_law_tree_of" (defArgs s_law_tree_of) (defBody s_law_tree_of) (defScope s_law_tree_of) .none kV24 dc24 pm24 an24 cd24 ct24),sl24⟩) (c24:PySem.W.codeIn K cd24 "_law_tree_of" = true) (k24:PySem.W.keepIn K (.ref f24)=true)
    (a25:PySem.W.nsIn K mainGlobals "_law_tree_by" = some (some (.ref f25))) (l25:K.lookup f25=some ⟨oc25,od25,.func (PySem.W.fnOf "_law_tree_by" "_law_tree_by" (defArgs s_law_tree_by) (defBody s_law_tree_by) (defScope s_law_tree_by) .none kV25 dc25 pm25 an25 cd25 ct25),sl25⟩) (c25:PySem.W.codeIn K cd25 "_law_tree_by" = true) (k25:PySem.W.keepIn K (.ref f25)=true)
    (a26:PySem.W.nsIn K mainGlobals "_law_grid" = some (some (.ref f26))) (l26:K.lookup f26=some ⟨oc26,od26,.func (PySem.W.fnOf "_law_grid" "_law_grid" (defArgs s_law_grid) (defBody s_law_grid) (defScope s_law_grid) .none kV26 dc26 pm26 an26 cd26 ct26),sl26⟩) (c26:PySem.W.codeIn K cd26 "_law_grid" = true) (k26:PySem.W.keepIn K (.ref f26)=true)
    (a27:PySem.W.nsIn K mainGlobals "_law_tree_of_rows" = some (some (.ref f27))) (l27:K.lookup f27=some ⟨oc27,od27,.func (PySem.W.fnOf "_law_tree_of_rows" "_law_tree_of_rows" (defArgs s_law_tree_of_rows) (defBody s_law_tree_of_rows) (defScope s_law_tree_of_rows) .none kV27 dc27 pm27 an27 cd27 ct27),sl27⟩) (c27:PySem.W.codeIn K cd27 "_law_tree_of_rows" = true) (k27:PySem.W.keepIn K (.ref f27)=true)
    (a28:PySem.W.nsIn K mainGlobals "_law_sheet_by_digits" = some (some (.ref f28))) (l28:K.lookup f28=some ⟨oc28,od28,.func (PySem.W.fnOf "_law_sheet_by_digits" "_law_sheet_by_digits" (defArgs s_law_sheet_by_digits) (defBody s_law_sheet_by_digits) (defScope s_law_sheet_by_digits) .none kV28 dc28 pm28 an28 cd28 ct28),sl28⟩) (c28:PySem.W.codeIn K cd28 "_law_sheet_by_digits" = true) (k28:PySem.W.keepIn K (.ref f28)=true)
    (a29:PySem.W.nsIn K mainGlobals "_law_sheet" = some (some (.ref f29))) (l29:K.lookup f29=some ⟨oc29,od29,.func (PySem.W.fnOf "_law_sheet" "_law_sheet" (defArgs s_law_sheet) (defBody s_law_sheet) (defScope s_law_sheet) .none kV29 dc29 pm29 an29 cd29 ct29),sl29⟩) (c29:PySem.W.codeIn K cd29 "_law_sheet" = true) (k29:PySem.W.keepIn K (.ref f29)=true)
    (a30:PySem.W.nsIn K mainGlobals "_law_leaves" = some (some (.ref f30))) (l30:K.lookup f30=some ⟨oc30,od30,.func (PySem.W.fnOf "_law_leaves" "_law_leaves" (defArgs s_law_leaves) (defBody s_law_leaves) (defScope s_law_leaves) .none kV30 dc30 pm30 an30 cd30 ct30),sl30⟩) (c30:PySem.W.codeIn K cd30 "_law_leaves" = true) (k30:PySem.W.keepIn K (.ref f30)=true)
    (a31:PySem.W.nsIn K mainGlobals "_law_square" = some (some (.ref f31))) (l31:K.lookup f31=some ⟨oc31,od31,.func (PySem.W.fnOf "_law_square" "_law_square" (defArgs s_law_square) (defBody s_law_square) (defScope s_law_square) .none kV31 dc31 pm31 an31 cd31 ct31),sl31⟩) (c31:PySem.W.codeIn K cd31 "_law_square" = true) (k31:PySem.W.keepIn K (.ref f31)=true)
    (a32:PySem.W.nsIn K mainGlobals "_law_met" = some (some (.ref f32))) (l32:K.lookup f32=some ⟨oc32,od32,.func (PySem.W.fnOf "_law_met" "_law_met" (defArgs s_law_met) (defBody s_law_met) (defScope s_law_met) .none kV32 dc32 pm32 an32 cd32 ct32),sl32⟩) (c32:PySem.W.codeIn K cd32 "_law_met" = true) (k32:PySem.W.keepIn K (.ref f32)=true)
    (a33:PySem.W.nsIn K mainGlobals "_law_reached" = some (some (.ref f33))) (l33:K.lookup f33=some ⟨oc33,od33,.func (PySem.W.fnOf "_law_reached" "_law_reached" (defArgs s_law_reached) (defBody s_law_reached) (defScope s_law_reached) .none kV33 dc33 pm33 an33 cd33 ct33),sl33⟩) (c33:PySem.W.codeIn K cd33 "_law_reached" = true) (k33:PySem.W.keepIn K (.ref f33)=true)
    (a34:PySem.W.nsIn K mainGlobals "_law_right" = some (some (.ref f34))) (l34:K.lookup f34=some ⟨oc34,od34,.func (PySem.W.fnOf "_law_right" "_law_right" (defArgs s_law_right) (defBody s_law_right) (defScope s_law_right) .none kV34 dc34 pm34 an34 cd34 ct34),sl34⟩) (c34:PySem.W.codeIn K cd34 "_law_right" = true) (k34:PySem.W.keepIn K (.ref f34)=true)
    (a35:PySem.W.nsIn K mainGlobals "_law_place" = some (some (.ref f35))) (l35:K.lookup f35=some ⟨oc35,od35,.func (PySem.W.fnOf "_law_place" "_law_place" (defArgs s_law_place) (defBody s_law_place) (defScope s_law_place) .none kV35 dc35 pm35 an35 cd35 ct35),sl35⟩) (c35:PySem.W.codeIn K cd35 "_law_place" = true) (k35:PySem.W.keepIn K (.ref f35)=true)
    (a36:PySem.W.nsIn K mainGlobals "law" = some (some (.ref f36))) (l36:K.lookup f36=some ⟨oc36,od36,.func (PySem.W.fnOf "law" "law" (defArgs s_law) (defBody s_law) (defScope s_law) .none kV36 dc36 pm36 an36 cd36 ct36),sl36⟩) (c36:PySem.W.codeIn K cd36 "law" = true) (k36:PySem.W.keepIn K (.ref f36)=true)
    (z0:PySem.W.nsIn K mainGlobals "isinstance" = some none)
    (z1:PySem.W.nsIn K mainGlobals "int" = some none)
    (z2:PySem.W.nsIn K mainGlobals "bool" = some none)
    {zt3:Tok} (z3:PySem.W.nsIn K mainGlobals "MOST" = some (some (.int 40 zt3)))
    (z4:PySem.W.nsIn K mainGlobals "all" = some none)
    (z5:PySem.W.nsIn K mainGlobals "str" = some none)
    (z6:PySem.W.nsIn K mainGlobals "len" = some none)
    {zt7:Tok} (z7:PySem.W.nsIn K mainGlobals "QUARTERS" = some (some (.str "0123" zt7)))
    (z8:PySem.W.nsIn K mainGlobals "range" = some none)
    (z9:PySem.W.nsIn K mainGlobals "tuple" = some none)
    (z10:PySem.W.nsIn K mainGlobals "sorted" = some none)
    (z11:PySem.W.nsIn K mainGlobals "dict" = some none)
    (z12:PySem.W.nsIn K mainGlobals "min" = some none)
    (z13:PySem.W.nsIn K mainGlobals "max" = some none)
    (z14:PySem.W.nsIn K mainGlobals "any" = some none)
    (z15:PySem.W.nsIn K mainGlobals "enumerate" = some none)
    (z16:PySem.W.nsIn K mainGlobals "list" = some none)
    {aS aC p0 p1 p2 p3:Addr} {oS r0 r1 r2 r3:Option Addr} {ts0 ts1 ts2 ts3 dk0 dk1 dk2 dk3:Tok} {nC nS:Nat} {slS:Array (Option Value)}
    (u0:PySem.W.nsIn K mainGlobals "SIDES" = some (some (.ref aS))) (u1:K.lookup aS=some ⟨.type "tuple",oS,.seq #[.str "up" ts0,.str "right" ts1,.str "down" ts2,.str "left" ts3] nS,slS⟩)
    (u2:PySem.W.nsIn K mainGlobals "CROSSINGS" = some (some (.ref aC))) (u3:K.lookup aC=some ⟨.type "dict",none,.dict #[⟨PyData.keyHash w.params "up",.str "up" dk0,.ref p0⟩,⟨PyData.keyHash w.params "right",.str "right" dk1,.ref p1⟩,⟨PyData.keyHash w.params "down",.str "down" dk2,.ref p2⟩,⟨PyData.keyHash w.params "left",.str "left" dk3,.ref p3⟩] nC,#[]⟩)
    {ta0 tb0:Tok} {nn0:Nat} {sk0:Array (Option Value)} (u4:K.lookup p0=some ⟨.type "tuple",r0,.seq #[.str "2301" ta0,.str "23" tb0] nn0,sk0⟩)
    {ta1 tb1:Tok} {nn1:Nat} {sk1:Array (Option Value)} (u5:K.lookup p1=some ⟨.type "tuple",r1,.seq #[.str "1032" ta1,.str "02" tb1] nn1,sk1⟩)
    {ta2 tb2:Tok} {nn2:Nat} {sk2:Array (Option Value)} (u6:K.lookup p2=some ⟨.type "tuple",r2,.seq #[.str "2301" ta2,.str "01" tb2] nn2,sk2⟩)
    {ta3 tb3:Tok} {nn3:Nat} {sk3:Array (Option Value)} (u7:K.lookup p3=some ⟨.type "tuple",r3,.seq #[.str "1032" ta3,.str "13" tb3] nn3,sk3⟩)
    {cNoSide cSheetError:Addr}
    (y0:PySem.W.nsIn K mainGlobals "NoSide" = some (some (.ref cNoSide)))
    (y1:PySem.W.nsIn K mainGlobals "SheetError" = some (some (.ref cSheetError)))
    (y2:PySem.W.excIn K cNoSide bmV "ValueError.__new__" = true)
    (y3:PySem.W.findIn K (.ref cNoSide) "__getattribute__" = some (some (.builtin "BaseException.__getattribute__")))
    (y4:PySem.W.findIn K (.ref cNoSide) "__getattr__" = some none)
    (y5:PySem.W.findIn K (.ref cNoSide) "__class__" = some (some (.builtin "object.__class__")))
    (y6:PySem.W.subIn K (.ref cNoSide) (.type "object")=some true)
    (y7:PySem.W.subIn K (.ref cNoSide) (.type "BaseException")=some true)
    {cdNoSide:ClassData}
    (y8:PySem.W.clsIn K cNoSide=some cdNoSide)
    (y9:PySem.W.exmOne K (.ref cNoSide) (.ref cSheetError)=some true)
    (y10:PySem.W.kitOne K (.ref cNoSide) (.type "ValueError")=some true)
    : ∃ fd:FuncData,(∀ (s:Shared) (v:Value),BindsTo s fd ⟨[v],[]⟩ [("_law_script",v)])∧∀ base:Heap,K.In base→base.Ns mainGlobals mg→FnOk l.prog w K mg base (CXe l.prog w) 47 fa fd ["_law_script"] (sp_law K):=by
  have e:=hfa.symm.trans (PySem.W.mg_of X G a36);cases e;have T:Tx K mg:=⟨PySem.W.mg_none_of X G z0,PySem.W.mg_none_of X G z1,PySem.W.mg_none_of X G z2,⟨_,PySem.W.mg_of X G z3⟩,PySem.W.mg_none_of X G z4,PySem.W.mg_none_of X G z5,PySem.W.mg_none_of X G z6,⟨_,PySem.W.mg_of X G z7⟩,PySem.W.mg_none_of X G z8,PySem.W.mg_none_of X G z9,PySem.W.mg_none_of X G z10,PySem.W.mg_none_of X G z11,PySem.W.mg_none_of X G z12,PySem.W.mg_none_of X G z13,PySem.W.mg_none_of X G z14,PySem.W.mg_none_of X G z15,PySem.W.mg_none_of X G z16⟩;have U:Ty l.prog w K mg:=⟨⟨aS,PySem.W.mg_of X G u0,_,_,_,u1,rfl,rfl,(by show 4≤sizeLine; decide),.cons ⟨_,rfl⟩ (.cons ⟨_,rfl⟩ (.cons ⟨_,rfl⟩ (.cons ⟨_,rfl⟩ .nil)))⟩,aC,p0,p1,p2,p3,PySem.W.mg_of X G u2,kd4 u3,⟨_,_,_,u4,rfl,rfl,(by show 2≤sizeLine; decide),.cons ⟨_,rfl⟩ (.cons ⟨_,rfl⟩ .nil)⟩,⟨_,_,_,u5,rfl,rfl,(by show 2≤sizeLine; decide),.cons ⟨_,rfl⟩ (.cons ⟨_,rfl⟩ .nil)⟩,⟨_,_,_,u6,rfl,rfl,(by show 2≤sizeLine; decide),.cons ⟨_,rfl⟩ (.cons ⟨_,rfl⟩ .nil)⟩,⟨_,_,_,u7,rfl,rfl,(by show 2≤sizeLine; decide),.cons ⟨_,rfl⟩ (.cons ⟨_,rfl⟩ .nil)⟩⟩;have Y:Yx K mg:=⟨cNoSide,cSheetError,PySem.W.mg_of X G y0,PySem.W.mg_of X G y1,⟨PySem.W.mg_of X G y0,y2⟩,⟨y3,y4,y5,y6,y7,by rw [y8]; rfl⟩,y9,y10⟩;have F0:=funD_mk (st:=s_is_side) l0 c0 k0;have F1:=funD_mk (st:=s_is_code) l1 c1 k1;have F2:=funD_mk (st:=s_need_code) l2 c2 k2;have F3:=funD_mk (st:=s_need_side) l3 c3 k3;have F4:=funD_mk (st:=s_beside) l4 c4 k4;have F5:=funD_mk (st:=s_is_whole) l5 c5 k5;have F6:=funD_mk (st:=s_is_level) l6 c6 k6;have F7:=funD_mk (st:=s_need_level) l7 c7 k7;have F8:=funD_mk (st:=s_width_of) l8 c8 k8;have F9:=funD_mk (st:=s_need_place) l9 c9 k9;have F10:=funD_mk (st:=s_code_at) l10 c10 k10;have F11:=funD_mk (st:=s_leaves_below) l11 c11 k11;have F12:=funD_mk (st:=s_leaves) l12 c12 k12;have F13:=funD_mk (st:=s_leaves_along) l13 c13 k13;have F14:=funD_mk (st:=s_beyond_leaf) l14 c14 k14;have F15:=funD_mk (st:=s_touches) l15 c15 k15;have F16:=funD_mk (st:=s_leaf_at) l16 c16 k16;have F17:=funD_mk (st:=s_alike_around) l17 c17 k17;have F18:=funD_mk (st:=s_members_from) l18 c18 k18;have F19:=funD_mk (st:=s_way_between) l19 c19 k19;have F20:=funD_mk (st:=s_law_at) l20 c20 k20;have F21:=funD_mk (st:=s_law_code) l21 c21 k21;have F22:=funD_mk (st:=s_law_colour) l22 c22 k22;have F23:=funD_mk (st:=s_law_paints) l23 c23 k23;have F24:=funD_mk (st:=s_law_tree_of) l24 c24 k24;have F25:=funD_mk (st:=s_law_tree_by) l25 c25 k25;have F26:=funD_mk (st:=s_law_grid) l26 c26 k26;have F27:=funD_mk (st:=s_law_tree_of_rows) l27 c27 k27;have F28:=funD_mk (st:=s_law_sheet_by_digits) l28 c28 k28;have F29:=funD_mk (st:=s_law_sheet) l29 c29 k29;have F30:=funD_mk (st:=s_law_leaves) l30 c30 k30;have F31:=funD_mk (st:=s_law_square) l31 c31 k31;have F32:=funD_mk (st:=s_law_met) l32 c32 k32;have F33:=funD_mk (st:=s_law_reached) l33 c33 k33;have F34:=funD_mk (st:=s_law_right) l34 c34 k34;have F35:=funD_mk (st:=s_law_place) l35 c35 k35;have F36:=funD_mk (st:=s_law) l36 c36 k36;have b0:=F0.binds (ps:=["thing"]) fun _ _ _ _ _ _ us hl=>by obtain ⟨a,rfl⟩:=lenK1 hl; exact rfl
  have b1:=F1.binds (ps:=["thing"]) fun _ _ _ _ _ _ us hl=>by obtain ⟨a,rfl⟩:=lenK1 hl; exact rfl
  have b2:=F2.binds (ps:=["code"]) fun _ _ _ _ _ _ us hl=>by obtain ⟨a,rfl⟩:=lenK1 hl; exact rfl
  have b3:=F3.binds (ps:=["side"]) fun _ _ _ _ _ _ us hl=>by obtain ⟨a,rfl⟩:=lenK1 hl; exact rfl
  have b4:=F4.binds (ps:=["code","side"]) fun _ _ _ _ _ _ us hl=>by obtain ⟨a,b,rfl⟩:=lenK2 hl; exact rfl
  have b5:=F5.binds (ps:=["thing"]) fun _ _ _ _ _ _ us hl=>by obtain ⟨a,rfl⟩:=lenK1 hl; exact rfl
  have b6:=F6.binds (ps:=["thing"]) fun _ _ _ _ _ _ us hl=>by obtain ⟨a,rfl⟩:=lenK1 hl; exact rfl
  have b7:=F7.bindsD (ps:=["level","least"]) (ds:=[]) d7 rfl fun _ _ _ _ _ _ us hl=>by obtain ⟨a,b,rfl⟩:=lenK2 ((congrArg List.length (List.append_nil us)).symm.trans hl); exact ⟨_,rfl,rfl⟩
  have bd7:=F7.bindsD (ps:=["level","least"]) (ds:=[.int 0 dk7]) d7 rfl fun _ _ _ _ _ _ us hl=>by obtain ⟨a,rfl⟩:=len1 hl; exact ⟨_,rfl,rfl⟩
  have b8:=F8.binds (ps:=["level"]) fun _ _ _ _ _ _ us hl=>by obtain ⟨a,rfl⟩:=lenK1 hl; exact rfl
  have b9:=F9.binds (ps:=["x","y","level"]) fun _ _ _ _ _ _ us hl=>by obtain ⟨a,b,c,rfl⟩:=lenK3 hl; exact rfl
  have b10:=F10.binds (ps:=["x","y","level"]) fun _ _ _ _ _ _ us hl=>by obtain ⟨a,b,c,rfl⟩:=lenK3 hl; exact rfl
  have b11:=F11.binds (ps:=["tree","code"]) fun _ _ _ _ _ _ us hl=>by obtain ⟨a,b,rfl⟩:=lenK2 hl; exact rfl
  have b12:=F12.binds (ps:=["sheet"]) fun _ _ _ _ _ _ us hl=>by obtain ⟨a,rfl⟩:=lenK1 hl; exact rfl
  have b13:=F13.binds (ps:=["tree","code","near"]) fun _ _ _ _ _ _ us hl=>by obtain ⟨a,b,c,rfl⟩:=lenK3 hl; exact rfl
  have b14:=F14.binds (ps:=["sheet","code","side"]) fun _ _ _ _ _ _ us hl=>by obtain ⟨a,b,c,rfl⟩:=lenK3 hl; exact rfl
  have b15:=F15.binds (ps:=["sheet"]) fun _ _ _ _ _ _ us hl=>by obtain ⟨a,rfl⟩:=lenK1 hl; exact rfl
  have b16:=F16.binds (ps:=["sheet","x","y"]) fun _ _ _ _ _ _ us hl=>by obtain ⟨a,b,c,rfl⟩:=lenK3 hl; exact rfl
  have b17:=F17.binds (ps:=["sheet"]) fun _ _ _ _ _ _ us hl=>by obtain ⟨a,rfl⟩:=lenK1 hl; exact rfl
  have b18:=F18.binds (ps:=["around","first"]) fun _ _ _ _ _ _ us hl=>by obtain ⟨a,b,rfl⟩:=lenK2 hl; exact rfl
  have b19:=F19.binds (ps:=["sheet","x","y","to_x","to_y"]) fun _ _ _ _ _ _ us hl=>by obtain ⟨a,b,c,d,e,rfl⟩:=lenK5 hl; exact rfl
  have b20:=F20.binds (ps:=["_law_script","_law_k"]) fun _ _ _ _ _ _ us hl=>by obtain ⟨a,b,rfl⟩:=lenK2 hl; exact rfl
  have b21:=F21.binds (ps:=["_law_cell","_law_size"]) fun _ _ _ _ _ _ us hl=>by obtain ⟨a,b,rfl⟩:=lenK2 hl; exact rfl
  have b22:=F22.binds (ps:=["_law_cell"]) fun _ _ _ _ _ _ us hl=>by obtain ⟨a,rfl⟩:=lenK1 hl; exact rfl
  have b23:=F23.binds (ps:=["_law_script","_law_first","_law_most","_law_level"]) fun _ _ _ _ _ _ us hl=>by obtain ⟨a,b,c,d,rfl⟩:=lenK4 hl; exact rfl
  have b24:=F24.binds (ps:=["_law_a","_law_b","_law_c","_law_d"]) fun _ _ _ _ _ _ us hl=>by obtain ⟨a,b,c,d,rfl⟩:=lenK4 hl; exact rfl
  have b25:=F25.binds (ps:=["_law_paints_here"]) fun _ _ _ _ _ _ us hl=>by obtain ⟨a,rfl⟩:=lenK1 hl; exact rfl
  have b26:=F26.binds (ps:=["_law_script","_law_first","_law_level"]) fun _ _ _ _ _ _ us hl=>by obtain ⟨a,b,c,rfl⟩:=lenK3 hl; exact rfl
  have b27:=F27.binds (ps:=["_law_rows"]) fun _ _ _ _ _ _ us hl=>by obtain ⟨a,rfl⟩:=lenK1 hl; exact rfl
  have b28:=F28.binds (ps:=["_law_cell"]) fun _ _ _ _ _ _ us hl=>by obtain ⟨a,rfl⟩:=lenK1 hl; exact rfl
  have b29:=F29.binds (ps:=["_law_script"]) fun _ _ _ _ _ _ us hl=>by obtain ⟨a,rfl⟩:=lenK1 hl; exact rfl
  have b30:=F30.binds (ps:=["_law_tree","_law_code_here"]) fun _ _ _ _ _ _ us hl=>by obtain ⟨a,b,rfl⟩:=lenK2 hl; exact rfl
  have b31:=F31.binds (ps:=["_law_code_here","_law_level"]) fun _ _ _ _ _ _ us hl=>by obtain ⟨a,b,rfl⟩:=lenK2 hl; exact rfl
  have b32:=F32.binds (ps:=["_law_one","_law_two"]) fun _ _ _ _ _ _ us hl=>by obtain ⟨a,b,rfl⟩:=lenK2 hl; exact rfl
  have b33:=F33.binds (ps:=["_law_told","_law_squares","_law_start"]) fun _ _ _ _ _ _ us hl=>by obtain ⟨a,b,c,rfl⟩:=lenK3 hl; exact rfl
  have b34:=F34.binds (ps:=["_law_found","_law_told","_law_squares","_law_start","_law_goal"]) fun _ _ _ _ _ _ us hl=>by obtain ⟨a,b,c,d,e,rfl⟩:=lenK5 hl; exact rfl
  have b35:=F35.binds (ps:=["_law_square_here","_law_cell"]) fun _ _ _ _ _ _ us hl=>by obtain ⟨a,b,rfl⟩:=lenK2 hl; exact rfl
  refine ⟨PySem.W.fnOf "law" "law" (defArgs s_law) (defBody s_law) (defScope s_law) .none kV36 dc36 pm36 an36 cd36 ct36,fun s v=>.of_eq rfl,fun base _ _ => ?_⟩
  have C_is_side:Fok l.prog w K mg base (CXe l.prog w) 1 "is_side" ["thing"] [] (sp_is_side):=fok F0 (ok_is_side T U F0) b0 (PySem.W.mg_of X G a0)
  have C_is_code:Fok l.prog w K mg base (CXe l.prog w) 1 "is_code" ["thing"] [] (gsp_is_code K):=fok F1 (gok_is_code T F1) b1 (PySem.W.mg_of X G a1)
  have C_need_code:Fok l.prog w K mg base (CXe l.prog w) 2 "need_code" ["code"] [] (sp_need_code):=fok F2 (ok_need_code T quietE F2 C_is_code) b2 (PySem.W.mg_of X G a2)
  have C_need_side:Fok l.prog w K mg base (CXe l.prog w) 2 "need_side" ["side"] [] (sp_need_side Y):=fok F3 (ok_need_side T Y quietE F3 C_is_side) b3 (PySem.W.mg_of X G a3)
  have C_beside:Fok l.prog w K mg base (CXe l.prog w) 3 "beside" ["code","side"] [] (sp_besideX Y):=fok F4 (ok_beside T Y U quietE F4 C_need_code C_need_side) b4 (PySem.W.mg_of X G a4)
  have C_is_whole:Fok l.prog w K mg base (CXe l.prog w) 1 "is_whole" ["thing"] [] (sp_is_whole K):=fok F5 (ok_is_whole T F5) b5 (PySem.W.mg_of X G a5)
  have C_is_level:Fok l.prog w K mg base (CXe l.prog w) 2 "is_level" ["thing"] [] (sp_is_level K):=fok F6 (ok_is_level T quietE F6 C_is_whole) b6 (PySem.W.mg_of X G a6)
  have C_need_level:Fok l.prog w K mg base (CXe l.prog w) 3 "need_level" ["level","least"] [] (sp_need_level):=fok F7 (ok_need_level T quietE F7 C_is_level) b7 (PySem.W.mg_of X G a7)
  have C_need_level_1:Fok l.prog w K mg base (CXe l.prog w) 3 "need_level" ["level","least"] [.int 0] (sp_need_level):=fokD F7 (ok_need_level T quietE F7 C_is_level) bd7 (.cons ⟨_,rfl⟩ .nil) (PySem.W.mg_of X G a7)
  have C_width_of:Fok l.prog w K mg base (CXe l.prog w) 1 "width_of" ["level"] [] (sp_width_of):=fok F8 (ok_width_of T F8) b8 (PySem.W.mg_of X G a8)
  have C_need_place:Fok l.prog w K mg base (CXe l.prog w) 2 "need_place" ["x","y","level"] [] (sp_need_place):=fok F9 (ok_need_place T quietE F9 C_width_of C_is_whole) b9 (PySem.W.mg_of X G a9)
  have C_code_at:Fok l.prog w K mg base (CXe l.prog w) 4 "code_at" ["x","y","level"] [] (sp_code_at):=fok F10 (ok_code_at T quietE F10 C_need_level_1 C_need_place) b10 (PySem.W.mg_of X G a10)
  have C_leaves_below:Fok l.prog w K mg base (CXe l.prog w) 42 "leaves_below" ["tree","code"] [] (sp_leaves_below 41):=fok F11 (ok_leaves_below T quietE F11 b11 (PySem.W.mg_of X G a11) 41) b11 (PySem.W.mg_of X G a11)
  have C_leaves:Fok l.prog w K mg base (CXe l.prog w) 43 "leaves" ["sheet"] [] (sp_leaves):=fok F12 (ok_leaves T quietE F12 C_leaves_below) b12 (PySem.W.mg_of X G a12)
  have C_leaves_along:Fok l.prog w K mg base (CXe l.prog w) 42 "leaves_along" ["tree","code","near"] [] (sp_leaves_along 41):=fok F13 (ok_leaves_along T quietE F13 b13 (PySem.W.mg_of X G a13) 41) b13 (PySem.W.mg_of X G a13)
  have C_beyond_leaf:Fok l.prog w K mg base (CXe l.prog w) 43 "beyond_leaf" ["sheet","code","side"] [] (sp_beyond_leaf Y):=fok F14 (ok_beyond_leaf T Y U quietE F14 C_beside C_leaves_along) b14 (PySem.W.mg_of X G a14)
  have C_touches:Fok l.prog w K mg base (CXe l.prog w) 44 "touches" ["sheet"] [] (sp_touches):=fok F15 (ok_touches T Y quietE F15 C_leaves C_beyond_leaf) b15 (PySem.W.mg_of X G a15)
  have C_leaf_at:Fok l.prog w K mg base (CXe l.prog w) 5 "leaf_at" ["sheet","x","y"] [] (sp_leaf_at):=fok F16 (ok_leaf_at T quietE F16 C_code_at) b16 (PySem.W.mg_of X G a16)
  have C_alike_around:Fok l.prog w K mg base (CXe l.prog w) 45 "alike_around" ["sheet"] [] (sp_alike_around):=fok F17 (ok_alike_around T quietE F17 C_leaves C_touches) b17 (PySem.W.mg_of X G a17)
  have C_members_from:Fok l.prog w K mg base (CXe l.prog w) 1 "members_from" ["around","first"] [] (sp_members_from):=fok F18 (ok_members_from T F18) b18 (PySem.W.mg_of X G a18)
  have C_way_between:Fok l.prog w K mg base (CXe l.prog w) 46 "way_between" ["sheet","x","y","to_x","to_y"] [] (sp_way_between):=fok F19 (ok_way_between T quietE F19 C_leaf_at C_alike_around C_members_from) b19 (PySem.W.mg_of X G a19)
  have C__law_at:Fok l.prog w K mg base (CXe l.prog w) 1 "_law_at" ["_law_script","_law_k"] [] (sp_law_at K):=fok F20 (ok_law_at T F20) b20 (PySem.W.mg_of X G a20)
  have C__law_code:Fok l.prog w K mg base (CXe l.prog w) 1 "_law_code" ["_law_cell","_law_size"] [] (sp_law_code):=fok F21 (ok_law_code T F21) b21 (PySem.W.mg_of X G a21)
  have C__law_colour:Fok l.prog w K mg base (CXe l.prog w) 1 "_law_colour" ["_law_cell"] [] (sp_law_colour):=fok F22 (ok_law_colour T F22) b22 (PySem.W.mg_of X G a22)
  have C__law_paints:Fok l.prog w K mg base (CXe l.prog w) 3 "_law_paints" ["_law_script","_law_first","_law_most","_law_level"] [] (sp_law_paints K):=fok F23 (ok_law_paints T quietE F23 C__law_at C__law_code C__law_colour) b23 (PySem.W.mg_of X G a23)
  have C__law_tree_of:Fok l.prog w K mg base (CXe l.prog w) 1 "_law_tree_of" ["_law_a","_law_b","_law_c","_law_d"] [] (sp_law_tree_of):=fok F24 (ok_law_tree_of T F24) b24 (PySem.W.mg_of X G a24)
  have C__law_tree_by:Fok l.prog w K mg base (CXe l.prog w) 43 "_law_tree_by" ["_law_paints_here"] [] (sp_law_tree_by 41):=fok F25 (ok_law_tree_by T quietE F25 C__law_tree_of b25 (PySem.W.mg_of X G a25) 41) b25 (PySem.W.mg_of X G a25)
  have C__law_grid:Fok l.prog w K mg base (CXe l.prog w) 2 "_law_grid" ["_law_script","_law_first","_law_level"] [] (sp_law_grid K):=fok F26 (ok_law_grid T quietE F26 C__law_at) b26 (PySem.W.mg_of X G a26)
  have C__law_tree_of_rows:Fok l.prog w K mg base (CXe l.prog w) 2 "_law_tree_of_rows" ["_law_rows"] [] (sp_law_tree_of_rows):=fok F27 (ok_law_tree_of_rows T quietE F27 C__law_tree_of) b27 (PySem.W.mg_of X G a27)
  have C__law_sheet_by_digits:Fok l.prog w K mg base (CXe l.prog w) 44 "_law_sheet_by_digits" ["_law_cell"] [] (sp_sheet_digits):=fok F28 (ok_law_sheet_by_digits T quietE F28 C__law_tree_of_rows C__law_tree_by) b28 (PySem.W.mg_of X G a28)
  have C__law_sheet:Fok l.prog w K mg base (CXe l.prog w) 45 "_law_sheet" ["_law_script"] [] (sp_law_sheet K):=fok F29 (ok_law_sheet T quietE F29 C__law_at C__law_sheet_by_digits C__law_tree_of_rows C__law_grid C__law_paints C__law_colour C__law_tree_by) b29 (PySem.W.mg_of X G a29)
  have C__law_leaves:Fok l.prog w K mg base (CXe l.prog w) 42 "_law_leaves" ["_law_tree","_law_code_here"] [] (sp_law_leaves 41):=fok F30 (ok_law_leaves T quietE F30 b30 (PySem.W.mg_of X G a30) 41) b30 (PySem.W.mg_of X G a30)
  have C__law_square:Fok l.prog w K mg base (CXe l.prog w) 1 "_law_square" ["_law_code_here","_law_level"] [] (sp_law_square):=fok F31 (ok_law_square T F31) b31 (PySem.W.mg_of X G a31)
  have C__law_met:Fok l.prog w K mg base (CXe l.prog w) 1 "_law_met" ["_law_one","_law_two"] [] (sp_law_met):=fok F32 (ok_law_met T F32) b32 (PySem.W.mg_of X G a32)
  have C__law_reached:Fok l.prog w K mg base (CXe l.prog w) 2 "_law_reached" ["_law_told","_law_squares","_law_start"] [] (sp_law_reached):=fok F33 (ok_law_reached T quietE F33 C__law_met) b33 (PySem.W.mg_of X G a33)
  have C__law_right:Fok l.prog w K mg base (CXe l.prog w) 3 "_law_right" ["_law_found","_law_told","_law_squares","_law_start","_law_goal"] [] (sp_law_right):=fok F34 (ok_law_right T quietE F34 C__law_reached C__law_met) b34 (PySem.W.mg_of X G a34)
  have C__law_place:Fok l.prog w K mg base (CXe l.prog w) 1 "_law_place" ["_law_square_here","_law_cell"] [] (sp_law_place):=fok F35 (ok_law_place T F35) b35 (PySem.W.mg_of X G a35)
  exact ok_law T quietE F36 C__law_sheet C__law_leaves C__law_square C__law_at C_way_between C__law_right C__law_place
theorem walk {l:PySem.W.OpenLaw} {q:Program} {loose:List Str} {XP:(Str→Option Value)→Heap→Prop} {YP:World→Heap→Prop} {d:DefRec} {K:Params→PySem.W.Frag} (hn:l.most=some 63) (hdf:d.params.defaults=[])
    (hY:∀ (w:World) (h:Heap),YP w h→(K w.params).In h)
    (F:∀ (w:World) (mg:Str→Option Value) (fa:Addr) (h:Heap),(K w.params).In h→h.Ns mainGlobals mg→mg d.name=some (.ref fa) →
      ∃ fd:FuncData,(∀ (s:Shared) (u:Value),BindsTo s fd ⟨[u],[]⟩ [("_law_script",u)])∧∀ base:Heap,(K w.params).In base→base.Ns mainGlobals mg→FnOk l.prog w (K w.params) mg base (CXe l.prog w) 47 fa fd ["_law_script"] (sp_law (K w.params))) :
    PySem.W.WalkO q loose XP YP l.row.toRowW d [] (fun f vs=>PySem.call f vs) :=
  L2.walk_of (n:=63) (k:=47) (x := "_law_script") (CX:=fun w=>(CXe l.prog w)) (sp:=fun w=>sp_law (K w.params)) hn (by decide) hdf ⟨rfl,by decide,by decide⟩ hY F (fun _ _ a ns hl _ hS=>⟨a,ns,rfl,hS,hl,fun _=>rfl⟩) fun _ _ _ _ _ z=>quietE _ _ _ _ _ z
end Qs
-- The head lays a twin equation for each constant of the run; those of the largest ones are most of its size and are not needed. A name that stands already is not laid anew.
def PySem.W.Fast.tw14507653755437070752:Nat:=0
def PySem.W.Fast.tw2267232485890498816:Nat:=0
def PySem.W.Fast.tw10553623135379194540:Nat:=0
def PySem.W.Fast.tw7388227695840618633:Nat:=0
def PySem.W.Fast.tw3024596115871513872:Nat:=0
def PySem.W.Fast.tw4689963111677952930:Nat:=0
def PySem.W.Fast.tw4492242832484926517:Nat:=0
def PySem.W.Fast.tw16323184161804583354:Nat:=0
def PySem.W.Fast.tw16346641508353370496:Nat:=0
def PySem.W.Fast.tw12929746922252301568:Nat:=0
def PySem.W.Fast.tw16565923124395280787:Nat:=0
def PySem.W.Fast.tw1147612418921271690:Nat:=0
def PySem.W.Fast.tw16604401756875337442:Nat:=0
def PySem.W.Fast.tw15975133790732050662:Nat:=0
def PySem.W.Fast.tw16720912392087510175:Nat:=0
def PySem.W.Fast.tw17013291422488298516:Nat:=0
def PySem.W.Fast.tw9047082648632806085:Nat:=0
def PySem.W.Fast.tw15360017376869494102:Nat:=0
def PySem.W.Fast.tw3287840339076173123:Nat:=0
def PySem.W.Fast.tw2571415507619738014:Nat:=0
def PySem.W.Fast.tw15472131361965159128:Nat:=0
def PySem.W.Fast.tw1584956867433974881:Nat:=0
def PySem.W.Fast.tw12120315376760682700:Nat:=0
def PySem.W.Fast.tw12537710790098735632:Nat:=0
def PySem.W.Fast.tw3065789957598026084:Nat:=0
def PySem.W.Fast.tw7553344930155963240:Nat:=0
def PySem.W.Fast.tw11964547495135254388:Nat:=0
def PySem.W.Fast.tw1755280456506100608:Nat:=0
def PySem.W.Fast.tw1532782270750614332:Nat:=0
def PySem.W.Fast.tw2390060481840866372:Nat:=0
def PySem.W.Fast.tw13601992986163483155:Nat:=0
def PySem.W.Fast.tw4380423401447152245:Nat:=0
def PySem.W.Fast.tw4880050207454637933:Nat:=0
def PySem.W.Fast.tw17213727056806402540:Nat:=0
def PySem.W.Fast.tw12801768259136766004:Nat:=0
def PySem.W.Fast.tw13663239681188663811:Nat:=0
def PySem.W.Fast.tw10754888967573319229:Nat:=0
def PySem.W.Fast.tw11522804535677198105:Nat:=0
def PySem.W.Fast.tw2509260363252033946:Nat:=0
def PySem.W.Fast.tw12145196089039521768:Nat:=0
def PySem.W.Fast.tw6511957532523180926:Nat:=0
def PySem.W.Fast.tw7199572623787487404:Nat:=0
def PySem.W.Fast.tw16447658952407315345:Nat:=0
def PySem.W.Fast.tw1224937851516171682:Nat:=0
def PySem.W.Fast.tw10952906830470190861:Nat:=0
def PySem.W.Fast.tw3997729573594952700:Nat:=0
def PySem.W.Fast.tw4048038275864115644:Nat:=0
def PySem.W.Fast.tw17718795492277883770:Nat:=0
def PySem.W.Fast.tw4372615637119419253:Nat:=0
def PySem.W.Fast.tw11979891311461417272:Nat:=0
def PySem.W.Fast.tw15138192369469597034:Nat:=0
def PySem.W.Fast.tw17241038594458628046:Nat:=0
def PySem.W.Fast.tw6612359824571666258:Nat:=0
def PySem.W.Fast.tw9570545412684720182:Nat:=0
def PySem.W.Fast.tw17729302833853222208:Nat:=0
def PySem.W.Fast.tw17996901943291643758:Nat:=0
def PySem.W.Fast.tw2860549944534529634:Nat:=0
def PySem.W.Fast.tw12767005565280235341:Nat:=0
def PySem.W.Fast.tw7784288404345961876:Nat:=0
def PySem.W.Fast.tw10290821311244534262:Nat:=0
def PySem.W.Fast.tw9524070518967099508:Nat:=0
def PySem.W.Fast.tw7944842028865813252:Nat:=0
def PySem.W.Fast.tw14326465541593251748:Nat:=0
def PySem.W.Fast.tw7603876724816807552:Nat:=0
def PySem.W.Fast.tw13615689992400488914:Nat:=0
def PySem.W.Fast.tw16292557875109632100:Nat:=0
def PySem.W.Fast.tw8928231884817554678:Nat:=0
def PySem.W.Fast.tw12053718576896346811:Nat:=0
def PySem.W.Fast.tw6760193927573365752:Nat:=0
def PySem.W.Fast.tw973791217719741972:Nat:=0
def PySem.W.Fast.tw8755770904994060661:Nat:=0
def PySem.W.Fast.tw5518949051445171509:Nat:=0
def PySem.W.Fast.tw10782390182892017844:Nat:=0
def PySem.W.Fast.tw12069048351401907636:Nat:=0
def PySem.W.Fast.tw14517721507287539441:Nat:=0
def PySem.W.Fast.tw9902468382339936675:Nat:=0
def PySem.W.Fast.tw1688897946899448976:Nat:=0
def PySem.W.Fast.tw3053042030916840685:Nat:=0
def PySem.W.Fast.tw16623753615727473415:Nat:=0
def PySem.W.Fast.tw15208167623114814689:Nat:=0
def PySem.W.Fast.tw1211997361098025183:Nat:=0
def PySem.W.Fast.tw5092936194306450397:Nat:=0
def PySem.W.Fast.tw2205241514088954047:Nat:=0
def PySem.W.Fast.tw14079978272329536633:Nat:=0
def PySem.W.Fast.tw1521211998698429463:Nat:=0
def PySem.W.Fast.tw4981133401173280284:Nat:=0
def PySem.W.Fast.tw15217218753828097270:Nat:=0
def PySem.W.Fast.tw4062707059868205290:Nat:=0
def PySem.W.Fast.tw3838712451923774783:Nat:=0
def PySem.W.Fast.tw6605567943487235146:Nat:=0
def PySem.W.Fast.tw10241841950311866082:Nat:=0
def PySem.W.Fast.tw3998520185249653888:Nat:=0
def PySem.W.Fast.tw7960762876906163903:Nat:=0
def PySem.W.Fast.tw12036216541430310177:Nat:=0
def PySem.W.Fast.tw15632638658267244642:Nat:=0
def PySem.W.Fast.tw10194290705751953638:Nat:=0
def PySem.W.Fast.tw3259804590132080372:Nat:=0
def PySem.W.Fast.tw9984726395362282094:Nat:=0
def PySem.W.Fast.tw12182570044214937305:Nat:=0
def PySem.W.Fast.tw3475955316867944027:Nat:=0
def PySem.W.Fast.tw3488468385870332440:Nat:=0
def PySem.W.Fast.tw1733913345959207997:Nat:=0
def PySem.W.Fast.tw16980986958038876727:Nat:=0
def PySem.W.Fast.tw12367234516525131625:Nat:=0
def PySem.W.Fast.tw7753823086264787871:Nat:=0
def PySem.W.Fast.tw6537477671237826950:Nat:=0
def PySem.W.Fast.tw4873432232956299293:Nat:=0
def PySem.W.Fast.tw1330963229995711833:Nat:=0
def PySem.W.Fast.tw9629587918680443546:Nat:=0
def PySem.W.Fast.tw6889668886657502573:Nat:=0
def PySem.W.Fast.tw9594559076393536728:Nat:=0
def PySem.W.Fast.tw10886246961764776361:Nat:=0
def PySem.W.Fast.tw17183656773033042983:Nat:=0
def PySem.W.Fast.tw12066449271598330355:Nat:=0
def PySem.W.Fast.tw4819722421314824941:Nat:=0
def PySem.W.Fast.tw17414883251967942869:Nat:=0
def PySem.W.Fast.tw7440632106363022534:Nat:=0
def PySem.W.Fast.tw7045613101877960493:Nat:=0
def PySem.W.Fast.tw18187310632271632042:Nat:=0
def PySem.W.Fast.tw7271130630296963568:Nat:=0
def PySem.W.Fast.tw4261001479046373701:Nat:=0
def PySem.W.Fast.tw12013940158837858879:Nat:=0
def PySem.W.Fast.tw16819987447180943229:Nat:=0
def PySem.W.Fast.tw12753628301943166262:Nat:=0
def PySem.W.Fast.tw1572771765298130251:Nat:=0
def PySem.W.Fast.tw2004894742991370944:Nat:=0
def PySem.W.Fast.tw17682764933797651130:Nat:=0
def PySem.W.Fast.tw16635064774210285834:Nat:=0
def PySem.W.Fast.tw2482957714967233686:Nat:=0
def PySem.W.Fast.tw3291809683619879171:Nat:=0
def PySem.W.Fast.tw1880870708765343701:Nat:=0
def PySem.W.Fast.tw4899353206989515209:Nat:=0
def PySem.W.Fast.tw16024313389103651617:Nat:=0
def PySem.W.Fast.tw899013158480366863:Nat:=0
def PySem.W.Fast.tw18033493466124199326:Nat:=0
def PySem.W.Fast.tw486760177591006080:Nat:=0
def PySem.W.Fast.tw4054657172230889551:Nat:=0
def PySem.W.Fast.tw5968674728834403043:Nat:=0
def PySem.W.Fast.tw8329433627317770929:Nat:=0
def PySem.W.Fast.tw3902506424519576058:Nat:=0
def PySem.W.Fast.tw8739166848354439586:Nat:=0
def PySem.W.Fast.tw12068951197354204920:Nat:=0
def PySem.W.Fast.tw549751571053677594:Nat:=0
def PySem.W.Fast.tw12275400767257681156:Nat:=0
def PySem.W.Fast.tw7191659092825189117:Nat:=0
def PySem.W.Fast.tw8497281091159300698:Nat:=0
def PySem.W.Fast.tw10027451855128868701:Nat:=0
def PySem.W.Fast.tw3122302910447997332:Nat:=0
def PySem.W.Fast.tw12739986009272950839:Nat:=0
def PySem.W.Fast.tw9213970263495641581:Nat:=0
def PySem.W.Fast.tw594175734141992452:Nat:=0
def PySem.W.Fast.tw8557045420345084005:Nat:=0
def PySem.W.Fast.tw9804209437153211670:Nat:=0
def PySem.W.Fast.tw2667931256300625219:Nat:=0
def PySem.W.Fast.tw15387804881836309119:Nat:=0
def PySem.W.Fast.tw15104270497626823540:Nat:=0
def PySem.W.Fast.tw13526533398576691996:Nat:=0
def PySem.W.Fast.tw8630608466348817899:Nat:=0
def PySem.W.Fast.tw2192226132134590974:Nat:=0
def PySem.W.Fast.tw12432603412706955564:Nat:=0
def PySem.W.Fast.tw423327603328011079:Nat:=0
def PySem.W.Fast.tw17306855232707721099:Nat:=0
def PySem.W.Fast.tw7246913444415455967:Nat:=0
def PySem.W.Fast.tw6470662284593421686:Nat:=0
def PySem.W.Fast.tw18108227434055145312:Nat:=0
def PySem.W.Fast.tw18070892455168024646:Nat:=0
def PySem.W.Fast.tw3819863784938023019:Nat:=0
def PySem.W.Fast.tw8410516374432125305:Nat:=0
def PySem.W.Fast.tw18268720827136051689:Nat:=0
def PySem.W.Fast.tw5247019593146478934:Nat:=0
def PySem.W.Fast.tw8227544742443602467:Nat:=0
def PySem.W.Fast.tw1692292033213012675:Nat:=0
def PySem.W.Fast.tw3232386005067453812:Nat:=0
def PySem.W.Fast.tw18318055196855676117:Nat:=0
def PySem.W.Fast.tw13344316425609138685:Nat:=0
def PySem.W.Fast.tw1647676444721924533:Nat:=0
def PySem.W.Fast.tw14500067766664810757:Nat:=0
def PySem.W.Fast.tw5024399447662050085:Nat:=0
def PySem.W.Fast.tw1646923527957963367:Nat:=0
def PySem.W.Fast.tw2267172793078312698:Nat:=0
def PySem.W.Fast.tw1111557327483841333:Nat:=0
def PySem.W.Fast.tw1541550056089273951:Nat:=0
def PySem.W.Fast.tw10380900414661897810:Nat:=0
def PySem.W.Fast.tw17178833846490028668:Nat:=0
def PySem.W.Fast.tw7211997350319726030:Nat:=0
def PySem.W.Fast.tw6715006121134453989:Nat:=0
def PySem.W.Fast.tw15003232393375798648:Nat:=0
def PySem.W.Fast.tw9283840463754423066:Nat:=0
def PySem.W.Fast.tw11822610677350216851:Nat:=0
def PySem.W.Fast.tw16929908877730794764:Nat:=0
open PySem PySem.W PyProof.Rows
set_option maxRecDepth 100000 in
set_option maxHeartbeats 0 in
theorem PySem.Challenge.cw_quartersheet_k64_ways_as_short_as_can_be_holds : PySem.Challenge.rw_quartersheet_k64_ways_as_short_as_can_be.Holds := by
  w_on; o_law; k_head; (case hw=>w_witness2)
  k_fill
  refine Qs.walk (l:=PySem.Challenge.rw_quartersheet_k64_ways_as_short_as_can_be) rfl rfl (fun w h Y=>PySem.W.kIn_of Y) ?F
  case F =>
    intro w mg fa h KX G hmg
    refine' Qs.all_mk KX G hmg ?a0 ?l0 ?c0 ?k0 ?a1 ?l1 ?c1 ?k1 ?a2 ?l2 ?c2 ?k2 ?a3 ?l3 ?c3 ?k3 ?a4 ?l4 ?c4 ?k4 ?a5 ?l5 ?c5 ?k5 ?a6 ?l6 ?c6 ?k6 ?a7 ?l7 ?c7 ?k7 ?d7 ?a8 ?l8 ?c8 ?k8 ?a9 ?l9 ?c9 ?k9 ?a10 ?l10 ?c10 ?k10 ?a11 ?l11 ?c11 ?k11 ?a12 ?l12 ?c12 ?k12 ?a13 ?l13 ?c13 ?k13 ?a14 ?l14 ?c14 ?k14 ?a15 ?l15 ?c15 ?k15 ?a16 ?l16 ?c16 ?k16 ?a17 ?l17 ?c17 ?k17 ?a18 ?l18 ?c18 ?k18 ?a19 ?l19 ?c19 ?k19 ?a20 ?l20 ?c20 ?k20 ?a21 ?l21 ?c21 ?k21 ?a22 ?l22 ?c22 ?k22 ?a23 ?l23 ?c23 ?k23 ?a24 ?l24 ?c24 ?k24 ?a25 ?l25 ?c25 ?k25 ?a26 ?l26 ?c26 ?k26 ?a27 ?l27 ?c27 ?k27 ?a28 ?l28 ?c28 ?k28 ?a29 ?l29 ?c29 ?k29 ?a30 ?l30 ?c30 ?k30 ?a31 ?l31 ?c31 ?k31 ?a32 ?l32 ?c32 ?k32 ?a33 ?l33 ?c33 ?k33 ?a34 ?l34 ?c34 ?k34 ?a35 ?l35 ?c35 ?k35 ?a36 ?l36 ?c36 ?k36 ?z0 ?z1 ?z2 ?z3 ?z4 ?z5 ?z6 ?z7 ?z8 ?z9 ?z10 ?z11 ?z12 ?z13 ?z14 ?z15 ?z16 ?u0 ?u1 ?u2 ?u3 ?u4 ?u5 ?u6 ?u7 ?y0 ?y1 ?y2 ?y3 ?y4 ?y5 ?y6 ?y7 ?y8 ?y9 ?y10
    (case a0=>k_is)
    (case l0=>k_is)
    (case c0=>k_is)
    (case k0=>k_is)
    (case a1=>k_is)
    (case l1=>k_is)
    (case c1=>k_is)
    (case k1=>k_is)
    (case a2=>k_is)
    (case l2=>k_is)
    (case c2=>k_is)
    (case k2=>k_is)
    (case a3=>k_is)
    (case l3=>k_is)
    (case c3=>k_is)
    (case k3=>k_is)
    (case a4=>k_is)
    (case l4=>k_is)
    (case c4=>k_is)
    (case k4=>k_is)
    (case a5=>k_is)
    (case l5=>k_is)
    (case c5=>k_is)
    (case k5=>k_is)
    (case a6=>k_is)
    (case l6=>k_is)
    (case c6=>k_is)
    (case k6=>k_is)
    (case a7=>k_is)
    (case l7=>k_is)
    (case c7=>k_is)
    (case k7=>k_is)
    (case d7=>k_is)
    (case a8=>k_is)
    (case l8=>k_is)
    (case c8=>k_is)
    (case k8=>k_is)
    (case a9=>k_is)
    (case l9=>k_is)
    (case c9=>k_is)
    (case k9=>k_is)
    (case a10=>k_is)
    (case l10=>k_is)
    (case c10=>k_is)
    (case k10=>k_is)
    (case a11=>k_is)
    (case l11=>k_is)
    (case c11=>k_is)
    (case k11=>k_is)
    (case a12=>k_is)
    (case l12=>k_is)
    (case c12=>k_is)
    (case k12=>k_is)
    (case a13=>k_is)
    (case l13=>k_is)
    (case c13=>k_is)
    (case k13=>k_is)
    (case a14=>k_is)
    (case l14=>k_is)
    (case c14=>k_is)
    (case k14=>k_is)
    (case a15=>k_is)
    (case l15=>k_is)
    (case c15=>k_is)
    (case k15=>k_is)
    (case a16=>k_is)
    (case l16=>k_is)
    (case c16=>k_is)
    (case k16=>k_is)
    (case a17=>k_is)
    (case l17=>k_is)
    (case c17=>k_is)
    (case k17=>k_is)
    (case a18=>k_is)
    (case l18=>k_is)
    (case c18=>k_is)
    (case k18=>k_is)
    (case a19=>k_is)
    (case l19=>k_is)
    (case c19=>k_is)
    (case k19=>k_is)
    (case a20=>k_is)
    (case l20=>k_is)
    (case c20=>k_is)
    (case k20=>k_is)
    (case a21=>k_is)
    (case l21=>k_is)
    (case c21=>k_is)
    (case k21=>k_is)
    (case a22=>k_is)
    (case l22=>k_is)
    (case c22=>k_is)
    (case k22=>k_is)
    (case a23=>k_is)
    (case l23=>k_is)
    (case c23=>k_is)
    (case k23=>k_is)
    (case a24=>k_is)
    (case l24=>k_is)
    (case c24=>k_is)
    (case k24=>k_is)
    (case a25=>k_is)
    (case l25=>k_is)
    (case c25=>k_is)
    (case k25=>k_is)
    (case a26=>k_is)
    (case l26=>k_is)
    (case c26=>k_is)
    (case k26=>k_is)
    (case a27=>k_is)
    (case l27=>k_is)
    (case c27=>k_is)
    (case k27=>k_is)
    (case a28=>k_is)
    (case l28=>k_is)
    (case c28=>k_is)
    (case k28=>k_is)
    (case a29=>k_is)
    (case l29=>k_is)
    (case c29=>k_is)
    (case k29=>k_is)
    (case a30=>k_is)
    (case l30=>k_is)
    (case c30=>k_is)
    (case k30=>k_is)
    (case a31=>k_is)
    (case l31=>k_is)
    (case c31=>k_is)
    (case k31=>k_is)
    (case a32=>k_is)
    (case l32=>k_is)
    (case c32=>k_is)
    (case k32=>k_is)
    (case a33=>k_is)
    (case l33=>k_is)
    (case c33=>k_is)
    (case k33=>k_is)
    (case a34=>k_is)
    (case l34=>k_is)
    (case c34=>k_is)
    (case k34=>k_is)
    (case a35=>k_is)
    (case l35=>k_is)
    (case c35=>k_is)
    (case k35=>k_is)
    (case a36=>k_is)
    (case l36=>k_is)
    (case c36=>k_is)
    (case k36=>k_is)
    (case z0=>k_is)
    (case z1=>k_is)
    (case z2=>k_is)
    (case z3=>k_is)
    (case z4=>k_is)
    (case z5=>k_is)
    (case z6=>k_is)
    (case z7=>k_is)
    (case z8=>k_is)
    (case z9=>k_is)
    (case z10=>k_is)
    (case z11=>k_is)
    (case z12=>k_is)
    (case z13=>k_is)
    (case z14=>k_is)
    (case z15=>k_is)
    (case z16=>k_is)
    (case u0=>k_is)
    (case u1=>k_is)
    (case u2=>k_is)
    (case u3=>k_is)
    (case u4=>k_is)
    (case u5=>k_is)
    (case u6=>k_is)
    (case u7=>k_is)
    (case y0=>k_is)
    (case y1=>k_is)
    (case y2=>k_exc)
    (case y3=>k_is)
    (case y4=>k_is)
    (case y5=>k_is)
    (case y6=>k_is)
    (case y7=>k_is)
    (case y8=>k_is)
    (case y9=>kts_exm)
    (case y10=>kit_is)


