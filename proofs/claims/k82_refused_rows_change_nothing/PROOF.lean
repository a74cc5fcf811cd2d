import PyProof.Rows.All
import OpenK.KMake
import OpenK.KCall
import OpenK.KLine
import OpenK.KOwn
import OpenK.KDescr
import OpenK.KMore
import KE.RegKIsAll
import KE.RegKTryMore
import KE.KSortTup
import KE.KSortAsk
import KE.KIntText
import KE.LcSums
import KE.KItem
import KE.KNestM
import Wide.FinOn
import Lean
import PyProof.EqAt
import PyProof.EqKinds
import PyProof.TupleCall
import PySem.Challenge.RW_quartersheet_k82_refused_rows_change_not
set_option Elab.async false
set_option linter.all false
set_option maxRecDepth 100000
noncomputable section
section
open PySem PySem.Spec PyProof.Rows
abbrev B2:=@Heap.get?_push_of_some
abbrev B3:=@List.length_append
abbrev B4:=@wpAny_bind
abbrev B5:=@List.length_cons
abbrev B6:=@List.mem_cons
abbrev B7:=@Nat.le_refl
abbrev B8:=@decide_eq_true
abbrev B9:=@Heap.lt_size
abbrev B_:=@List.length_map
abbrev Ca:=@Heap.get?_push_size
abbrev Cb:=@Nat.le_of_ble_eq_true
abbrev Cc:=@List.not_mem_nil
abbrev Cd:=@of_decide_eq_true
abbrev Ce:=@List.mem_append_right
abbrev Cf:=@List.getElem?_eq_getElem
abbrev Cg:=@decide_eq_false
abbrev Ch:=@wpAny_pure
abbrev Ci:=@Bool.false_ne_true
abbrev Cj:=@List.size_toArray
abbrev Ck:=@List.getElem?_eq_some_iff
abbrev Cm:=@List.mem_append
abbrev Cn:=@Nat.ne_of_lt
abbrev Co:=@Nat.lt_of_lt_of_le
abbrev Cp:=@List.mem_cons_of_mem
abbrev Cq:=@Nat.le_trans
abbrev Cr:=@Nat.zero_le
abbrev Cs:=@congrArg
abbrev Ct:=@List.map_cons
abbrev Cu:=@Heap.get?_update_other
abbrev Cv:=@wpAny_mono
abbrev Cw:=@List.mem_of_getElem?
abbrev Cy:=@Bool.and_eq_true
abbrev Cz:=@List.getElem?_append_left
abbrev CA:=@List.mem_singleton
abbrev CB:=@List.eq_nil_of_length_eq_zero
abbrev CC:=@List.all_eq_true
abbrev CD:=@List.map_append
abbrev CF:=@Array.getD_eq_getD_getElem?
abbrev CG:=@List.getElem?_append_right
abbrev CH:=@List.length_take
abbrev CI:=@Option.isNone_iff_eq_none
abbrev CJ:=@List.append_nil
abbrev CK:=@List.getElem?_map
abbrev CL:=@Int.toNat_natCast
abbrev CM:=@Array.getElem?_eq_some_iff
abbrev CN:=@List.mem_cons_self
abbrev CO:=@Option.isSome_iff_exists
abbrev CP:=@PassesOwn.never
abbrev CQ:=@List.nodup_cons
abbrev CS:=@Bool.true_and
abbrev CT:=@List.length_drop
abbrev CU:=@List.take_of_length_le
abbrev CV:=@Nat.lt_irrefl
abbrev CW:=@List.drop_eq_getElem_cons
abbrev CY:=@Heap.size_push
abbrev CZ:=@List.length_replicate
abbrev C0:=@List.find?_cons
abbrev C1:=@Int.emod_lt_of_pos
abbrev C3:=@Int.emod_nonneg
abbrev C4:=@Option.map_eq_some_iff
abbrev C5:=@List.lookup_cons
abbrev C6:=@List.map_map
abbrev C7:=@Heap.get?_update_self
abbrev C8:=@Nat.lt_succ_of_lt
abbrev C9:=@List.getElem?_replicate
abbrev C_:=@List.filterMap_cons
abbrev Da:=@Int.eq_ofNat_of_zero_le
abbrev Db:=@Nat.lt_succ_self
abbrev De:=@Nat.lt_of_le_of_lt
abbrev Dg:=@Bool.false_eq_true
abbrev Dh:=@Nat.le_succ
abbrev Di:=@Bool.eq_iff_iff
abbrev Dj:=@List.take_add_one
abbrev Dk:=@List.append_assoc
abbrev Dl:=@List.mem_of_mem_drop
abbrev Do:=@List.mem_append_left
abbrev Dp:=@List.getElem?_set_ne
abbrev Dq:=@Nat.le_add_right
abbrev Dr:=@Array.length_toList
abbrev Ds:=@Nat.ne_of_gt
abbrev Dt:=@Nat.lt_or_ge
abbrev Du:=@Nat.not_lt_zero
abbrev Dv:=@Option.map_eq_none_iff
abbrev Dw:=@List.getElem?_set_self
abbrev Dx:=@PassesOwn.leaving
abbrev Dy:=@Array.getElem?_setIfInBounds_ne
abbrev Dz:=@List.mem_range
abbrev DA:=@List.mem_map
abbrev DB:=@List.suffix_cons
abbrev DC:=@List.mem_of_mem_take
abbrev DD:=@List.any_cons
abbrev DE:=@Nat.add_eq
abbrev DF:=@List.of_mem_zip
abbrev DG:=@decide_eq_true_iff
abbrev DH:=@List.find?_eq_none
abbrev DI:=@List.drop_zero
abbrev DJ:=@Bool.decide_or
abbrev DK:=@List.all_cons
abbrev DL:=@Bool.false_or
abbrev DM:=@Nat.le_of_lt
abbrev DN:=@List.map_nil
abbrev DO:=@Int.zero_add
abbrev DP:=@Heap.dictOf_iff
abbrev DQ:=@Bool.or_eq_true
end
namespace L2
open PySem PySem.Spec PyProof.Rows
variable {H:Hp}{X:Cx}{s:Shared}{pos:Pos}{prog:Program}{A:Around}{K:PySem.W.Frag}
abbrev Key:=Sum Int Str
def nO:Key→Value→Bool
 | .inl k,v=>Value.isInt k v
 | .inr x,v=>Value.isStrOf x v
def BN (w:World):Key→Int
 | .inl k=>hashInt k
 | .inr x=>hashStr w x
theorem bX:∀ {k:Key} {v:Value},nO k v=true→(∃ i t,k=Sum.inl i∧v=Value.int i t)∨(∃ x t,k=Sum.inr x∧v=Value.str x t)
 | .inl i,v,h=>by
  obtain⟨t,e⟩:=Value.isInt_shape (k:=i) (v:=v) h;exact .inl ⟨i,t,rfl,e⟩
 | .inr x,v,h=>by
  obtain⟨t,e⟩:=Value.isStrOf_shape (x:=x) (v:=v) h;exact .inr ⟨x,t,rfl,e⟩
theorem uZ (i:Int)(t:Tok):nO (.inl i) (.int i t)=true:=by simp[nO,Value.isInt]
theorem uY (x:Str)(t:Tok):nO (.inr x) (.str x t)=true:=by simp[nO,Value.isStrOf]
theorem Ab (a b:Int):decide ((Sum.inl a:Key)=Sum.inl b)=(a == b):=by
 by_cases e:a=b
 ·subst e;simp
 ·have h:¬ (Sum.inl a:Key)=Sum.inl b:=fun q=>e (Sum.inl.inj q);rw[Cg h];exact (beq_eq_false_iff_ne.mpr e).symm
theorem zZ (a b:Str):decide ((Sum.inr a:Key)=Sum.inr b)=decide (a=b):=by
 by_cases e:a=b
 ·subst e;simp
 ·have h:¬ (Sum.inr a:Key)=Sum.inr b:=fun q=>e (Sum.inr.inj q);rw[Cg h,Cg e]
theorem Aa (a:Int)(b:Str):decide ((Sum.inl a:Key)=Sum.inr b)=false:=Cg (fun q=>nomatch q)
theorem z_ (a:Str)(b:Int):decide ((Sum.inr a:Key)=Sum.inl b)=false:=Cg (fun q=>nomatch q)
def bW (prog:Program)(w:World):PySem.KeyKind prog w Key where
 is:=nO
 hash:=BN w
 inj:=fun v a b ha hb=>by
  rcases bX ha with⟨i,t,rfl,rfl⟩|⟨x,t,rfl,rfl⟩
  ·rcases bX hb with⟨j,u,rfl,e⟩|⟨y,u,rfl,e⟩
   ·injection e with e1 _;rw[e1]
   ·exact nomatch e
  ·rcases bX hb with⟨j,u,rfl,e⟩|⟨y,u,rfl,e⟩
   ·exact nomatch e
   ·injection e with e1 _;rw[e1]
 byValue:=fun k v h=>by
  rcases bX h with⟨i,t,rfl,rfl⟩|⟨x,t,rfl,rfl⟩<;>rfl
 pyHash:=fun hv h=>by
  rcases bX hv with⟨i,t,rfl,rfl⟩|⟨x,t,rfl,rfl⟩
  ·exact wpAny_pyHash_int h
  ·exact wpAny_pyHash_str h
 eqBool:=fun hu hv h=>by
  rcases bX hu with⟨i,t,rfl,rfl⟩|⟨x,t,rfl,rfl⟩
  ·rcases bX hv with⟨j,u,rfl,rfl⟩|⟨y,u,rfl,rfl⟩
   ·rw[Ab]at h;exact wpAny_eqBool_int h
   ·rw[Aa]at h;exact SeqAt.EqAt.int_str i t y u _ _ _ _ h
  ·rcases bX hv with⟨j,u,rfl,rfl⟩|⟨y,u,rfl,rfl⟩
   ·rw[z_]at h;exact SeqAt.EqAt.str_int x t j u _ _ _ _ h
   ·rw[zZ]at h;exact wpAny_eqBool_str h
 «strs» := fun k x t v h=>by
  rcases bX h with⟨i,u,rfl,e⟩|⟨y,u,rfl,e⟩
  ·exact nomatch e
  ·injection e with e1 _;subst e1;cases v<;>rfl
theorem qE (prog:Program)(w:World)(i:Int)(t:Tok):(bW prog w).is (.inl i) (.int i t)=true:=uZ i t
theorem qD (prog:Program)(w:World)(x:Str)(t:Tok):(bW prog w).is (.inr x) (.str x t)=true:=uY x t
inductive V where
 | non | bl (b:Bool) | int (i:Int) | str (x:Str) | byt (b:Array UInt8) | flt (b:UInt64) | ref (a:Addr) | ty (n:String)
 deriving DecidableEq
def a_:V→Value→Prop
 | .non,u=>u=Value.none
 | .bl b,u=>u=Value.bool b
 | .int i,u=>∃ t,u=Value.int i t
 | .str x,u=>∃ t,u=Value.str x t
 | .byt b,u=>∃ t,u=Value.bytes b t
 | .flt b,u=>∃ t,u=Value.float b t
 | .ref a,u=>u=Value.ref a
 | .ty n,u=>u=Value.type n
abbrev aX:List V→List Value→Prop:=Paired a_
theorem aX.length {xs:List V}{us:List Value}(r:aX xs us):xs.length=us.length:=Paired.length r
theorem aX.get:∀ {xs:List V} {us:List Value} {i:Nat} {x:V},aX xs us→xs[i]? = some x→∃ u,us[i]? = some u∧a_ x u
 | _,_,_,_,.nil,e=>by simp at e
 | _,_,0,_,.cons r _,e=>by simp at e;subst e;exact⟨_,rfl,r⟩
 | _,_,i + 1,x,.cons _ t,e=>by
  obtain⟨u,h1,h2⟩:=aX.get (i:=i) (x:=x) t (by simpa using e);exact⟨u,by simpa using h1,h2⟩
theorem aX.set {x:V}{u:Value}(r:a_ x u):∀ {xs:List V} {us:List Value} (i:Nat),aX xs us→aX (xs.set i x) (us.set i u)
 | _,_,_,.nil=>.nil
 | _,_,0,.cons _ t=>.cons r t
 | _,_,i + 1,.cons q t=>.cons q (aX.set r i t)
theorem aX.append:∀ {xs ys:List V} {us ws:List Value},aX xs us→aX ys ws→aX (xs++ys) (us++ws)
 | _,_,_,_,.nil,s=>s
 | _,_,_,_,.cons r t,s=>.cons r (aX.append t s)
theorem aX.take:∀ {xs:List V} {us:List Value} (n:Nat),aX xs us→aX (xs.take n) (us.take n)
 | _,_,0,_=>.nil
 | _,_,_ + 1,.nil=>.nil
 | _,_,n + 1,.cons r t=>.cons r (aX.take n t)
theorem aX.drop:∀ {xs:List V} {us:List Value} (n:Nat),aX xs us→aX (xs.drop n) (us.drop n)
 | _,_,0,r=>r
 | _,_,_ + 1,.nil=>.nil
 | _,_,n + 1,.cons _ t=>aX.drop n t
def hG:Option V→Option Value→Prop
 | some v,some u=>a_ v u
 | none,none=>True
 | _,_=>False
def KV {κ:Type}:List (κ × V)→List (κ × Value)→Prop:=Paired fun (p:κ × V) (q:κ × Value)=>p.1=q.1∧a_ p.2 q.2
def kV:Key→V
 | .inl i=>.int i
 | .inr x=>.str x
inductive HO where
 
 | lst (xs:List V)
 
 | tup (xs:List V)
 
 | dK (kvs:List (Key × V)) | dT (kvs:List (List Key × V))
 
 | set (S:Int→Bool) (n:Nat)
 
 | ins (C dx:Addr) (fs:List (Str × V))
 
 | own (x:Addr)
 
 | xd (fs:List (Str × V))
 
 | met (f x:Addr)
 
 | rng (lo hi:Int)
 
 | frz (o:Obj) (u:HO)
 
 | tbl (ps:Array Value)
 
 | ext (φ:Heap→Prop)
abbrev Hp:=Addr→Option HO
def upd (H:Hp)(a:Addr)(o:HO):Hp:=fun b=>if b=a then some o else H b
theorem aj {H:Hp}{a:Addr}{o:HO}:upd H a o a=some o:=by unfold upd;rw[if_pos rfl]
theorem aL {H:Hp}{a b:Addr}{o:HO}(h:b≠a):upd H a o b=H b:=by unfold upd;rw[if_neg h]
theorem mx {H:Hp}{a b:Addr}{o u:HO}(h:H a=some o)(h':H b=some u)(d:o≠u):a≠b:=by
 intro e;subst e;rw[h]at h';exact d (Option.some.inj h')
theorem bI {H:Hp}{a b:Addr}{o:HO}(h:H a=some o)(h':H b=none):a≠b:=by
 intro e;subst e;rw[h]at h';cases h'
section
variable (P:Program)(w:World)
def bT (H:Hp)(h:Heap)(a:Addr):HO→Prop
 | .lst xs=>xs.length≤sizeLine∧∃ (its:List Value) (n:Nat),aX xs its∧h.get? a=some { cls:=.type "list",data:=.seq its.toArray n }
 | .tup xs=>xs.length≤sizeLine∧∃ its:List Value,aX xs its∧IsTup h a its.toArray
 | .dK kvs=>kvs.length≤sizeLine∧(a == sysModules)=false∧∃ vs,KV kvs vs∧h.DictOf (bW P w) a vs
 | .dT kvs=>kvs.length≤sizeLine∧(a == sysModules)=false∧∃ xs:List (List Key × Addr × Value),
   Paired (fun (p:List Key × V) (q:List Key × Addr × Value)=>p.1=q.1∧H q.2.1=some (.tup (p.1.map kV))∧a_ p.2 q.2.2) kvs xs ∧
   ∃ o es ep,h.get? a=some o∧o.ExactDict∧o.data=.dict es ep∧es.toList=xs.map (entryOfKey (tupleKind (bW P w)))∧(xs.map (·.1)).Nodup
 | .set S n=>h.SetOf (intKind P w) a S n
 | .ins C dx fs=>H dx=some (.own a)∧fs.length≤1000∧dx≠a∧h.get? a=some (PySem.W.instObj C dx) ∧
   ∃ mA,h.Ns1 dx mA∧(∀ f,hG (fs.lookup f) (mA f))∧PySem.Within mA (fs.map (·.1))
 | .own _=>∃ o,h.get? a=some o
 | .xd fs=>∃ mA,h.Ns1 a mA∧∀ f,hG (fs.lookup f) (mA f)
 | .rng lo hi=>∃ t u v,h.get? a=some { cls:=.type "range",data:=.fields #[.int lo t,.int hi u,.int 1 v] }
 | .frz o u=>h.get? a=some o∧bT H h a u
 | .tbl ps=>h.get? a=some { cls:=.none,data:=.fields ps }
 | .met f x=>h.get? a=some (PySem.W.methodObj (.ref f) (.ref x))
 | .ext φ=>φ h∧(∃ o,h.get? a=some o)∧∀ h1 h2:Heap,φ h1→(∀ o,h1.get? a=some o→h2.get? a=some o)→φ h2
def HOk (H:Hp)(h:Heap):Prop:=∀ a o,H a=some o→bT P w H h a o
end
section
variable {P:Program}{w:World}{H':Hp}{h h':Heap}{a:Addr}{o:HO}
theorem bT.lt (x:bT P w H h a o):a < h.objs.size:=by
 cases o with
 | lst xs=>obtain⟨_,_,_,_,e⟩:=x;exact B9 e
 | tup xs=>obtain⟨_,_,_,p⟩:=x;exact p.lt
 | dK kvs=>obtain⟨_,_,_,_,o,_,_,e,_⟩:=x;exact B9 e
 | dT kvs=>obtain⟨_,_,_,_,o,_,_,e,_⟩:=x;exact B9 e
 | set S n=>obtain⟨o,_,_,_,e,_⟩:=x;exact B9 e
 | ins C dx fs=>obtain⟨_,_,_,e,_⟩:=x;exact B9 e
 | own y=>obtain⟨_,e⟩:=x;exact B9 e
 | xd fs=>obtain⟨_,⟨_,_,_,e,_⟩,_⟩:=x;exact B9 e
 | rng lo hi=>obtain⟨_,_,_,e⟩:=x;exact B9 e
 | frz ob u=>obtain⟨e,_⟩:=x;exact B9 e
 | tbl ps=>exact B9 (show h.get? a=some _ from x)
 | met f y=>exact B9 (show h.get? a=some _ from x)
 | ext φ=>obtain⟨_,⟨_,e⟩,_⟩:=x;exact B9 e
theorem Paired.mapP {α β:Type}{F G:α→β→Prop}:∀ {l₁:List α} {l₂:List β},Paired F l₁ l₂→(∀ a b,F a b→G a b)→Paired G l₁ l₂
 | _,_,.nil,_=>.nil
 | _,_,.cons r t,f=>.cons (f _ _ r) (Paired.mapP t f)
theorem bT.stay (x:bT P w H h a o)(k:∀ b u,(b=a∨H b=some (.own a))→h.get? b=some u→h'.get? b=some u)
  (ho:∀ b,H b=some (.own a)→H' b=some (.own a)) (ht:∀ b xs,H b=some (.tup xs)→H' b=some (.tup xs)):bT P w H' h' a o:=by
 induction o with
 | lst xs=>obtain⟨z,its,n,r,e⟩:=x;exact⟨z,its,n,r,k _ _ (.inl rfl) e⟩
 | tup xs=>obtain⟨z,its,r,ob,e,c⟩:=x;exact⟨z,its,r,ob,k _ _ (.inl rfl) e,c⟩
 | dK kvs=>obtain⟨z,y,vs,r,ob,es,ep,e,c⟩:=x;exact⟨z,y,vs,r,ob,es,ep,k _ _ (.inl rfl) e,c⟩
 | dT kvs =>
  obtain⟨z,y,xs,r,ob,es,ep,e,c⟩:=x;exact⟨z,y,xs,Paired.mapP r fun p q z=>⟨z.1,ht _ _ z.2.1,z.2.2⟩,ob,es,ep,k _ _ (.inl rfl) e,c⟩
 | set S n=>obtain⟨ob,es,ep,t,e,c⟩:=x;exact⟨ob,es,ep,t,k _ _ (.inl rfl) e,c⟩
 | ins C dx fs =>
  obtain⟨d,z,ne,e,mA,⟨od,es,ep,e2,c⟩,r⟩:=x;exact⟨ho _ d,z,ne,k _ _ (.inl rfl) e,mA,⟨od,es,ep,k _ _ (.inr d) e2,c⟩,r⟩
 | own y=>obtain⟨ob,e⟩:=x;exact⟨ob,k _ _ (.inl rfl) e⟩
 | xd fs=>obtain⟨mA,⟨od,es,ep,e,c⟩,r⟩:=x;exact⟨mA,⟨od,es,ep,k _ _ (.inl rfl) e,c⟩,r⟩
 | rng lo hi=>obtain⟨t,u,v,e⟩:=x;exact⟨t,u,v,k _ _ (.inl rfl) e⟩
 | frz ob u ih=>obtain⟨e,q⟩:=x;exact⟨k _ _ (.inl rfl) e,ih q⟩
 | tbl ps =>
  have e:h.get? a=some { cls:=.none,data:=.fields ps }:=x;show h'.get? a=some { cls:=.none,data:=.fields ps };exact k a _ (.inl rfl) e
 | met f y =>
  have e:h.get? a=some (PySem.W.methodObj (.ref f) (.ref y)):=x;show h'.get? a=some (PySem.W.methodObj (.ref f) (.ref y));exact k a _ (.inl rfl) e
 | ext φ=>obtain⟨p,⟨o,e⟩,st⟩:=x;exact⟨st _ _ p fun o q=>k _ _ (.inl rfl) q,⟨o,k _ _ (.inl rfl) e⟩,st⟩
theorem HOk.lt (x:HOk P w H h)(e:H a=some o):a < h.objs.size:=(x a o e).lt
theorem HOk.fresh (x:HOk P w H h)(e:h.objs.size≤a):H a=none:=by
 cases q:H a with
 | none=>rfl
 | some u=>exact absurd (Co (x.lt q) e) (CV _)
theorem HOk.kept (x:HOk P w H h)(k:∀ b u,h.get? b=some u→h'.get? b=some u):HOk P w H h':=fun a o e =>
 (x a o e).stay (fun b u _ q=>k b u q) (fun _ q=>q) fun _ _ q=>q
theorem HOk.laid (x:HOk P w H h)(k:∀ b u,h.get? b=some u→h'.get? b=some u)(hp:h.objs.size≤a)(new:bT P w (upd H a o) h' a o):HOk P w (upd H a o) h':=fun b u e=>by
 have hn:=x.fresh hp;by_cases hb:b=a
 ·subst hb;rw[aj]at e;cases e;exact new
 ·rw[aL hb]at e;exact (x b u e).stay (fun c v _ q=>k c v q) (fun c q=>by rw[aL (bI q hn)];exact q) fun c xs q=>by rw[aL (bI q hn)];exact q
end
def Rd (H:Hp)(a:Addr)(u:HO):Prop:=H a=some u∨∃ o,H a=some (.frz o u)
theorem Rd.ok {P:Program}{w:World}{H:Hp}{h:Heap}{a:Addr}{u:HO}(r:Rd H a u)(x:HOk P w H h):bT P w H h a u:=by
 rcases r with r|⟨o,r⟩
 ·exact x a u r
 ·obtain⟨_,q⟩:=x a _ r;exact q
def Mut:Option HO→Prop
 | some (.lst _)=>True
 | some (.dK _)=>True
 | some (.dT _)=>True
 | some (.set _ _)=>True
 | some (.ins _ _ _)=>True
 | some (.ext _)=>True
 | _=>False
section
variable {P:Program}{w:World}{h h':Heap}{x e:Addr}{o':HO}
theorem HOk.write (ok:HOk P w H h)(mu:Mut (H x))(he:e=x∨H e=some (.own x))(k:∀ b u,b≠e→h.get? b=some u→h'.get? b=some u)(heo:∃ u,h'.get? e=some u)
  (new:bT P w (upd H x o') h' x o'):HOk P w (upd H x o') h':=fun b u q=>by
 have nown:∀ c y,H c=some (.own y)→c≠x:=fun c y r z=>by subst z;rw[r]at mu;exact mu
 have ntup:∀ c xs,H c=some (.tup xs)→c≠x:=fun c xs r z=>by subst z;rw[r]at mu;exact mu
 by_cases hb:b=x
 ·subst hb;rw[aj]at q;cases q;exact new
 ·rw[aL hb]at q;by_cases hbe:b=e
  ·have q':H b=some (.own x):=by
    rcases he with z|z
    ·exact absurd (hbe.trans z) hb
    ·rw[hbe];exact z
   rw[q]at q';cases q';obtain⟨v,hv⟩:=heo;exact⟨v,by rw[hbe];exact hv⟩
  ·refine (ok b u q).stay (fun c v hc r=>k c v ?_ r) (fun c r=>by rw[aL (nown c b r)];exact r) fun c xs r=>by rw[aL (ntup c xs r)];exact r
   rcases hc with rfl|hc
   ·exact hbe
   ·rintro rfl;rcases he with z | z
    ·exact nown c b hc z
    ·rw[hc]at z;cases z;exact hb rfl
end
structure Un (fs ex:List Addr)(H H':Hp)(h h':Heap):Prop where
 keep:∀ b o,h.get? b=some o→H b=none→b∉fs→b∉ex→h'.get? b=some o
 slot:∀ b o,h.get? b=some o→H b=none→b∈fs→b∉ex→∃ sl,h'.get? b=some { o with slots:=sl }
 free:∀ b o,h.get? b=some o→H b=none→b∉ex→H' b=none
 there:∀ b o,h.get? b=some o→b∉ex→∃ o',h'.get? b=some o'
 tups:∀ b xs,H b=some (.tup xs)→H' b=some (.tup xs)
 frzs:∀ b o u,H b=some (.frz o u)→H' b=some (.frz o u)
 tbls:∀ b ps,H b=some (.tbl ps)→∃ more,H' b=some (.tbl (ps++more))
section
variable {fs fs' ex ex':List Addr}{H1 H2:Hp}{h h1 h2 h':Heap}{a x e:Addr}{o:HO}
theorem Un.any (u:Un fs ex H H1 h h1){b:Addr}{ob:Obj}(q:h.get? b=some ob)(n:H b=none)(hx:b∉ex):∃ sl,h1.get? b=some { ob with slots:=sl }:=by
 by_cases hb:b∈fs
 ·exact u.slot b ob q n hb hx
 ·exact⟨ob.slots,u.keep b ob q n hb hx⟩
theorem Un.trans (a:Un fs ex H H1 h h1)(b:Un fs ex H1 H2 h1 h2):Un fs ex H H2 h h2 where
 keep:=fun c ob q n hc hx=>b.keep c ob (a.keep c ob q n hc hx) (a.free c ob q n hx) hc hx
 slot:=fun c ob q n hc hx=>by
  obtain⟨sl,e1⟩:=a.slot c ob q n hc hx;obtain⟨sl',e2⟩:=b.slot c _ e1 (a.free c ob q n hx) hc hx;exact⟨sl',e2⟩
 free:=fun c ob q n hx=>by
  obtain⟨o',e1⟩:=a.there c ob q hx;exact b.free c o' e1 (a.free c ob q n hx) hx
 there:=fun c ob q hx=>by
  obtain⟨o',e1⟩:=a.there c ob q hx;exact b.there c o' e1 hx
 tups:=fun c xs q=>b.tups c xs (a.tups c xs q)
 frzs:=fun c ob xs q=>b.frzs c ob xs (a.frzs c ob xs q)
 tbls:=fun c ps q=>by
  obtain⟨m1,e1⟩:=a.tbls c ps q;obtain⟨m2,e2⟩:=b.tbls c _ e1;exact⟨m1++m2,by rw[e2,Array.append_assoc]⟩
theorem Un.kept (k:∀ b u,h.get? b=some u→h'.get? b=some u):Un fs ex H H h h' :=
 ⟨fun b ob q _ _ _=>k b ob q,fun b ob q _ _ _=>⟨ob.slots,k b ob q⟩,fun _ _ _ n _=>n,fun b ob q _=>⟨ob,k b ob q⟩,fun _ _ q=>q,fun _ _ _ q=>q,fun _ ps q=>⟨#[],by rw[q];simp⟩⟩
theorem Un.refl:Un fs ex H H h h:=Un.kept fun _ _ q=>q
theorem Un.laid (k:∀ b u,h.get? b=some u→h'.get? b=some u)(hp:h.objs.size≤a)(hn:H a=none):Un fs ex H (upd H a o) h h' where
 keep:=fun b u q _ _ _=>k b u q
 slot:=fun b u q _ _ _=>⟨u.slots,k b u q⟩
 free:=fun b u q n _=>by rw[aL (Cn (Co (B9 q) hp))];exact n
 there:=fun b u q _=>⟨u,k b u q⟩
 tups:=fun b xs q=>by rw[aL (bI q hn)];exact q
 frzs:=fun b u xs q=>by rw[aL (bI q hn)];exact q
 tbls:=fun b ps q=>⟨#[],by rw[aL (bI q hn),q];simp⟩
theorem Un.write (mu:Mut (H x))(he:e=x∨H e=some (.own x))(k:∀ b u,b≠e→h.get? b=some u→h'.get? b=some u)(heo:∃ u,h'.get? e=some u):Un fs ex H (upd H x o) h h':=by
 have hx:∀ b,H b=none→b≠x:=fun b n z=>by subst z;rw[n]at mu;exact mu
 have hb:∀ b,H b=none→b≠e:=fun b n z=>by
  subst z;rcases he with r | r
  ·exact hx b n r
  ·rw[n]at r;cases r
 have hm:∀ b u,H b=some u→¬ Mut (some u)→b≠x:=fun b u q nm z=>by subst z;rw[q]at mu;exact nm mu
 refine⟨fun b u q n _ _=>k b u (hb b n) q,fun b u q n _ _=>⟨u.slots,k b u (hb b n) q⟩,fun b u q n _=>by rw[aL (hx b n)];exact n,fun b u q _ =>?_,
  fun b xs q=>by rw[aL (hm b _ q fun z=>z)];exact q,fun b u xs q=>by rw[aL (hm b _ q fun z=>z)];exact q,fun b ps q=>⟨#[],by rw[aL (hm b _ q fun z=>z),q];simp⟩⟩
 by_cases hbe:b=e
 ·subst hbe;exact heo
 ·exact⟨u,k b u hbe q⟩
theorem Un.mono (u:Un fs ex H H1 h h1)(hs:∀ b∈fs,b∈fs')(hx:∀ b∈ex,b∈ex'):Un fs' ex' H H1 h h1 :=
 ⟨fun b ob q n hb he=>u.keep b ob q n (fun z=>hb (hs b z)) fun z=>he (hx b z),fun _ _ q n _ he=>u.any q n fun z=>he (hx _ z),fun b ob q n he=>u.free b ob q n fun z=>he (hx b z),fun b ob q he=>u.there b ob q fun z=>he (hx b z),u.tups,u.frzs,u.tbls⟩
end
def trk (h:Heap)(H:Hp):List Addr:=(List.range h.objs.size).filter fun a=>(H a).isSome
def pB (h:Heap)(H:Hp):Heap:=PySem.W.hideAll h (trk h H)
theorem vf (h:Heap)(H:Hp):(pB h H).objs.size=h.objs.size:=PySem.W.hideAll_size _ _
theorem w8 {h:Heap}{H:Hp}{b:Addr}{o:Obj}(e:h.get? b=some o)(n:H b=none):(pB h H).get? b=some o :=
 PySem.W.hideAll_get _ e fun hm=>by
  have q:(H b).isSome=true:=(List.mem_filter.mp hm).2;rw[n]at q;simp at q
theorem yi {h:Heap}{H:Hp}{b:Addr}{o:Obj}(e:(pB h H).get? b=some o):h.get? b=some o∧H b=none:=by
 have e':h.get? b=some o:=PySem.W.of_hideAll (trk h H) e;refine⟨e',?_⟩;cases q:H b with
 | none=>rfl
 | some x =>
  have hm:b∈trk h H:=List.mem_filter.mpr ⟨Dz.mpr (B9 e'),by simp[q]⟩;have z:(pB h H).get? b=none:=PySem.W.hideAll_none (trk h H) hm;rw[z]at e;cases e
structure Mod (K:PySem.W.Frag)(mg:Str→Option Value)(base:Heap):Prop where
 kin:K.In base
 glob:base.Ns mainGlobals mg
 blt:∃ mb,base.Ns builtinsNs mb∧∀ x:Str,x ≠ "__name__" → mb x=bootBuiltins x
 nolimit:base.NoLimit
structure Cx where
 prog:Program
 w:World
 K:PySem.W.Frag
 mg:Str→Option Value
 base:Heap
 A:Around
 N:List Str
 s₀:Shared
 H₀:Hp
 env:Env
 outer:List Env
 stack:List Env
 ex:List Addr
 fn:Str→Bool
 calm:Bool
 pn:List (Addr × Obj)
 xe:Value→Shared→Prop
def frs (l:List Env):List Addr:=l.filterMap (·.frame)
abbrev Cx.fs (X:Cx):List Addr:=frs X.outer
def Vis (sc:Scope)(x:Str):Prop:=sc.names.lookup x=some .local∨sc.names.lookup x=some .cell∨sc.names.lookup x=some .free
def Loc (sc:Scope)(x:Str):Prop:=sc.names.lookup x=some .local∨sc.names.lookup x=some .cell
def B0 (env:Env)(h:Heap)(m:Str→Option Value)(x:Str)(u:Value):Prop :=
 (env.kindOf x=some .local∧m x=some u)∨((env.kindOf x=some .cell∨env.kindOf x=some .free)∧∃ c,env.cells.lookup x=some c∧h.IsCell c (some u))
structure Cx.Ok (X:Cx):Prop where
 mod:Mod X.K X.mg X.base
 kind:X.env.scope.kind=.function
 glob:X.env.globals=mainGlobals
 blt:X.env.builtins=builtinsNs
 above:X.s₀.heap.objs.size≤X.env.locals
 inj:∀ x y c,X.env.cells.lookup x=some c→X.env.cells.lookup y=some c→x=y
 has:∀ x,(X.env.kindOf x=some .cell∨X.env.kindOf x=some .free)→∃ c,X.env.cells.lookup x=some c
 cab:∀ x c,X.fn x=true→X.env.cells.lookup x=some c→X.s₀.heap.objs.size≤c
 hd:X.calm=true→X.A.handled=none
 frames:X.A.frames=some X.stack
 stk:X.stack=X.outer∨(X.stack=X.env::X.outer∧X.env.frame=some X.env.locals)
 exf:∀ b∈X.ex,b≠X.env.locals∧∀ x c,X.env.cells.lookup x=some c→c≠b
 bs:∀ b o,X.base.get? b=some o→X.s₀.heap.get? b=some o∧X.H₀ b=none
 bsz:X.base.objs.size≤X.s₀.heap.objs.size
 noex:∀ b o,X.base.get? b=some o→b∉X.ex
 exfs:∀ b∈X.ex,b∉X.fs
 funs:X.s₀.heap.FunFrames X.base X.outer
 frf:∀ b∈X.fs,X.H₀ b=none
structure Inv (X:Cx)(pins:List (Addr × Obj))(σ:List (Option V))(H:Hp)(s:Shared):Prop where
 ok:X.Ok
 os:s.os=X.s₀.os
 bare:AllBare s.gens
 base:Un X.fs X.ex X.H₀ H X.s₀.heap s.heap
 loc:∃ m,s.heap.Ns X.env.locals m∧∀ (i:Nat) (x:Str) (v:V),X.N[i]? = some x→σ[i]? = some (some v)→Vis X.env.scope x→∃ u,a_ v u∧B0 X.env s.heap m x u
 cell:∀ x c,X.env.cells.lookup x=some c→∃ v,s.heap.IsCell c v
 free:H X.env.locals=none
 freeC:∀ x c,X.env.cells.lookup x=some c→H c=none
 pin:∀ p∈X.pn++pins,s.heap.get? p.1=some p.2∧H p.1=none∧p.1≠X.env.locals∧p.1∉X.fs∧∀ v,p.2.data≠.cell v
 hok:HOk X.prog X.w H s.heap
 len:σ.length=X.N.length
section
variable {pins:List (Addr × Obj)}{σ:List (Option V)}{H':Hp}{h':Heap}
theorem Cx.Ok.nofr (ok:X.Ok){b:Addr}{o:Obj}(e:X.base.get? b=some o):b∉X.fs:=fun hb=>by
 have:=(ok.funs.mem hb).1
 rw[e]at this;cases this
theorem Inv.bs (I:Inv X pins σ H s):∀ b o,X.base.get? b=some o→s.heap.get? b=some o∧H b=none:=fun b o e =>
 ⟨I.base.keep b o (I.ok.bs b o e).1 (I.ok.bs b o e).2 (I.ok.nofr e) (I.ok.noex b o e),I.base.free b o (I.ok.bs b o e).1 (I.ok.bs b o e).2 (I.ok.noex b o e)⟩
theorem Inv.bk (I:Inv X pins σ H s):∀ b o,X.base.get? b=some o→s.heap.get? b=some o:=fun b o e=>(I.bs b o e).1
theorem Inv.mod (I:Inv X pins σ H s):Mod X.K X.mg X.base:=I.ok.mod
theorem Inv.kIn (I:Inv X pins σ H s):X.K.In s.heap:=I.ok.mod.kin.keeps I.bk
theorem Inv.lt (I:Inv X pins σ H s):X.env.locals < s.heap.objs.size:=let ⟨_,hn,_⟩:=I.loc;hn.lt
theorem Inv.sz (I:Inv X pins σ H s):X.s₀.heap.objs.size≤s.heap.objs.size:=Cq I.ok.above (DM I.lt)
theorem Inv.nofs (I:Inv X pins σ H s){a:Addr}(h:s.heap.objs.size≤a):a∉X.fs:=fun hb=>by
 obtain⟨_,o,ho,_⟩:=I.ok.funs.mem hb;exact absurd (Co (B9 ho) (Cq I.sz h)) (CV _)
theorem Inv.cne (I:Inv X pins σ H s):∀ x c,X.env.cells.lookup x=some c→c≠X.env.locals:=fun x c e z=>by
 obtain⟨v,o,ho,hd⟩:=I.cell x c e;obtain⟨m,⟨o',es,ep,ho',hd',_⟩,_⟩:=I.loc;rw[z,ho']at ho;cases ho;rw[hd']at hd;cases hd
theorem Inv.funs (I:Inv X pins σ H s):s.heap.FunFrames X.base X.outer:=by
 have all:∀ (l:List Env),(∀ b∈frs l,b∈X.fs)→X.s₀.heap.FunFrames X.base l→s.heap.FunFrames X.base l:=by
  intro l
  induction l with
  | nil=>intro _ _;trivial
  | cons env r ih =>
   intro hs hl;obtain⟨hk,⟨L,o,hf,hn,ho,hd⟩,hr⟩:=hl;have hL:L∈X.fs:=hs L (by unfold frs;rw[C_,hf];exact CN);obtain⟨sl,e⟩:=I.base.slot L o ho (I.ok.frf L hL) hL fun z=>I.ok.exfs L z hL;exact⟨hk,⟨L,_,hf,hn,e,hd⟩,ih (fun b hb=>hs b (by unfold frs;rw[C_,hf];exact Cp _ hb)) hr⟩
 exact all X.outer (fun _ hb=>hb) I.ok.funs
theorem Inv.stack (I:Inv X pins σ H s):s.heap.FunFrames X.base X.stack:=by
 rcases I.ok.stk with e|⟨e,hf⟩
 ·rw[e];exact I.funs
 ·rw[e];obtain⟨m,hn,_⟩:=I.loc;refine .cons (by rw[I.ok.kind];decide) hf hn ?_ I.funs;exact Heap.get?_none_of_le (Cq I.ok.bsz I.ok.above)
theorem Inv.stkSub (I:Inv X pins σ H s):∀ b∈frs X.stack,b∈X.env.locals::X.fs:=fun b hb=>by
 rcases I.ok.stk with e|⟨e,hf⟩
 ·rw[e]at hb;exact Cp _ hb
 ·rw[e]at hb;unfold frs at hb;rw[C_,hf]at hb;exact hb
theorem Inv.stkFree (I:Inv X pins σ H s):∀ b∈frs X.stack,H b=none:=fun b hb=>by
 rcases B6.mp (I.stkSub b hb) with e|hb
 ·rw[e];exact I.free
 ·obtain⟨_,o,ho,_⟩:=I.ok.funs.mem hb;exact I.base.free b o ho (I.ok.frf b hb) fun z=>I.ok.exfs b z hb
theorem Inv.step {g':Array GenState}{t':Nat}{d':Drawn}{ch:List Addr}(I:Inv X pins σ H s)
  (hch:∀ b∈ch,(b∈X.ex∨X.s₀.heap.objs.size≤b)∧b≠X.env.locals∧(∀ x c,X.env.cells.lookup x=some c→c≠b)∧∀ p∈X.pn++pins,p.1≠b)
  (keep:∀ b o,b≠X.env.locals→b∉X.fs→b∉ch→s.heap.get? b=some o→H b=none→h'.get? b=some o)
  (slot:∀ b o,b≠X.env.locals→b∈X.fs→b∉ch→s.heap.get? b=some o→H b=none→∃ sl,h'.get? b=some { o with slots:=sl }) (free:∀ b o,b∉ch→s.heap.get? b=some o→H b=none→H' b=none)
  (there:∀ b o,b∉ch→s.heap.get? b=some o→∃ o',h'.get? b=some o')
  (tups:∀ b xs,H b=some (.tup xs)→H' b=some (.tup xs)) (frzs:∀ b o u,H b=some (.frz o u)→H' b=some (.frz o u)) (tbls:∀ b ps,H b=some (.tbl ps)→∃ more,H' b=some (.tbl (ps++more)))
  (ns:∀ m,s.heap.Ns X.env.locals m→h'.Ns X.env.locals m) (hok:HOk X.prog X.w H' h') (hg:AllBare g') :
  Inv X pins σ H' { s with heap:=h',gens:=g',drawn:=d',toks:=t' }:=by
 have neL:∀ b o,X.s₀.heap.get? b=some o→b≠X.env.locals:=fun b o e=>Cn (Co (B9 e) I.ok.above);have neC:∀ b o,X.s₀.heap.get? b=some o→b∉X.ex→b∉ch:=fun b o e hx hb=>by
  rcases (hch b hb).1 with z|z
  ·exact hx z
  ·exact absurd (Co (B9 e) z) (CV _)
 have cellK:∀ x c,X.env.cells.lookup x=some c→∀ v,s.heap.IsCell c v→h'.IsCell c v:=fun x c e v ⟨o,ho,hd⟩=>by
  have nch:c∉ch:=fun z=>(hch c z).2.2.1 x c e rfl;by_cases hc:c∈X.fs
  ·obtain⟨sl,q⟩:=slot c o (I.cne x c e) hc nch ho (I.freeC x c e);exact⟨_,q,hd⟩
  ·exact⟨o,keep c o (I.cne x c e) hc nch ho (I.freeC x c e),hd⟩
 refine⟨I.ok,I.os,hg,⟨fun b o e n hb hx =>?_,fun b o e n hb hx =>?_,fun b o e n hx =>?_,fun b o e hx =>?_,fun b xs e=>tups b xs (I.base.tups b xs e),fun b o xs e=>frzs b o xs (I.base.frzs b o xs e),fun b ps e =>?_⟩,?_,fun x c e =>?_,?_,fun x c e =>?_,fun p hp =>?_,hok,I.len⟩
 ·exact keep b o (neL b o e) hb (neC b o e hx) (I.base.keep b o e n hb hx) (I.base.free b o e n hx)
 ·obtain⟨sl,e1⟩:=I.base.slot b o e n hb hx;obtain⟨sl',e2⟩:=slot b _ (neL b o e) hb (neC b o e hx) e1 (I.base.free b o e n hx);exact⟨sl',e2⟩
 ·obtain⟨o',e1⟩:=I.base.there b o e hx;exact free b o' (neC b o e hx) e1 (I.base.free b o e n hx)
 ·obtain⟨o',e1⟩:=I.base.there b o e hx;exact there b o' (neC b o e hx) e1
 ·obtain⟨m1,e1⟩:=I.base.tbls b ps e;obtain⟨m2,e2⟩:=tbls b _ e1;exact⟨m1++m2,by rw[e2,Array.append_assoc]⟩
 ·obtain⟨m,hn,hl⟩:=I.loc;refine⟨m,ns m hn,fun i x v e1 e2 e3 =>?_⟩;obtain⟨u,r,l⟩:=hl i x v e1 e2 e3;refine⟨u,r,?_⟩;rcases l with l|⟨k,c,e,z⟩
  ·exact .inl l
  ·exact .inr ⟨k,c,e,cellK x c e _ z⟩
 ·obtain⟨v,z⟩:=I.cell x c e;exact⟨v,cellK x c e v z⟩
 ·obtain⟨m,⟨o,_,_,ho,_⟩,_⟩:=I.loc;exact free _ o (fun z=>(hch _ z).2.1 rfl) ho I.free
 ·obtain⟨v,o,ho,hd⟩:=I.cell x c e;exact free c o (fun z=>(hch c z).2.2.1 x c e rfl) ho (I.freeC x c e)
 ·obtain⟨e,n,ne,nf,d⟩:=I.pin p hp;have nch:p.1∉ch:=fun z=>(hch p.1 z).2.2.2 p hp rfl;exact⟨keep p.1 p.2 ne nf nch e n,free p.1 p.2 nch e n,ne,nf,d⟩
theorem Inv.un {t':Nat}(I:Inv X pins σ H s)(u:Un X.fs [] H H' s.heap h')(hok:HOk X.prog X.w H' h'):Inv X pins σ H' { s with heap:=h',toks:=t' }:=by
 obtain⟨m,⟨o,es,ep,ho,r⟩,_⟩:=id I.loc;obtain⟨sl,hL⟩:=u.any ho I.free (by simp);exact I.step (g':=s.gens) (d':=s.drawn) (ch:=[]) (fun _ z=>nomatch z) (fun b o _ hb _ e n=>u.keep b o e n hb (by simp)) (fun b o _ hb _ e n=>u.slot b o e n hb (by simp)) (fun b o _ e n=>u.free b o e n (by simp)) (fun b o _ e=>u.there b o e (by simp)) u.tups u.frzs u.tbls (fun m' hm=>by
  obtain⟨o',es',ep',ho',r'⟩:=hm;rw[ho]at ho';cases ho';exact⟨_,es',ep',hL,r'⟩) hok I.bare
theorem Inv.call {g':Array GenState}{t':Nat}{d':Drawn}{ch:List Addr}(I:Inv X pins σ H s)(u:Un (frs X.stack) ch H H' s.heap h')(hok:HOk X.prog X.w H' h')(hg:AllBare g')
  (hch:∀ b∈ch,(b∈X.ex∨X.s₀.heap.objs.size≤b)∧b≠X.env.locals∧(∀ x c,X.env.cells.lookup x=some c→c≠b)∧∀ p∈X.pn++pins,p.1≠b) :
  Inv X pins σ H' { s with heap:=h',gens:=g',drawn:=d',toks:=t' }:=by
 obtain⟨m,⟨o,es,ep,ho,r⟩,_⟩:=id I.loc;obtain⟨sl,hL⟩:=u.any ho I.free fun z=>(hch _ z).2.1 rfl;exact I.step (ch:=ch) hch (fun b o hL hb hc e n=>u.keep b o e n (fun z=>(B6.mp (I.stkSub b z)).elim hL hb) hc) (fun b o _ _ hc e n=>u.any e n hc) (fun b o hc e n=>u.free b o e n hc) (fun b o hc e=>u.there b o e hc) u.tups u.frzs u.tbls (fun m' hm=>by
  obtain⟨o',es',ep',ho',r'⟩:=hm;rw[ho]at ho';cases ho';exact⟨_,es',ep',hL,r'⟩) hok hg
theorem Inv.turned {t':Nat}{it:Addr}(I:Inv X pins σ H s)(k:∀ b o,b≠it→s.heap.get? b=some o→h'.get? b=some o)(hn:H it=none)(hL:it≠X.env.locals)
  (h1:it∈X.ex∨X.s₀.heap.objs.size≤it) (h2:∀ x c,X.env.cells.lookup x=some c→c≠it) (h3:∀ p∈X.pn++pins,p.1≠it):Inv X pins σ H { s with heap:=h',toks:=t' }:=by
 have nit:∀ b u,H b=some u→b≠it:=fun b u e z=>by rw[z,hn]at e;cases e
 refine I.step (g':=s.gens) (d':=s.drawn) (ch:=[it]) (fun b hb =>?_) (fun b o _ _ hc e _=>k b o (fun z=>hc (by simp[z])) e) (fun b o _ _ hc e _=>⟨o.slots,k b o (fun z=>hc (by simp[z])) e⟩) (fun _ _ _ _ n=>n)
  (fun b o hc e=>⟨o,k b o (fun z=>hc (by simp[z])) e⟩) (fun _ _ e=>e) (fun _ _ _ e=>e) (fun b ps e=>⟨#[],by rw[e];simp⟩) (fun m hm =>?_) (fun b u e =>?_) I.bare
 ·have e:b=it:=by simpa using hb
  subst e;exact⟨h1,hL,h2,h3⟩
 ·obtain⟨o,es,ep,ho,r⟩:=hm;exact⟨o,es,ep,k _ o (Ne.symm hL) ho,r⟩
 ·refine (I.hok b u e).stay (fun c v hc q=>k c v ?_ q) (fun _ q=>q) fun _ _ q=>q;rcases hc with z | z
  ·rw[z];exact nit b u e
  ·exact nit c _ z
theorem Inv.tok (I:Inv X pins σ H s)(t:Nat):Inv X pins σ H { s with toks:=t }:=I.un (h':=s.heap) (t':=t) Un.refl I.hok
theorem Inv.kept {t':Nat}(I:Inv X pins σ H s)(k:∀ b u,s.heap.get? b=some u→h'.get? b=some u):Inv X pins σ H { s with heap:=h',toks:=t' }:=I.un (Un.kept k) (I.hok.kept k)
theorem Inv.laid {a:Addr}{o:HO}{t':Nat}(I:Inv X pins σ H s)(k:∀ b u,s.heap.get? b=some u→h'.get? b=some u)(hp:s.heap.objs.size≤a)(new:bT X.prog X.w (upd H a o) h' a o):
  Inv X pins σ (upd H a o) { s with heap:=h',toks:=t' }:=I.un (Un.laid k hp (I.hok.fresh hp)) (I.hok.laid k hp new)
theorem Inv.write {x e:Addr}{o:HO}{t':Nat}(I:Inv X pins σ H s)(mu:Mut (H x))(he:e=x∨H e=some (.own x))(k:∀ b u,b≠e→s.heap.get? b=some u→h'.get? b=some u)(heo:∃ u,h'.get? e=some u)
  (new:bT X.prog X.w (upd H x o) h' x o):Inv X pins σ (upd H x o) { s with heap:=h',toks:=t' }:=I.un (Un.write mu he k heo) (I.hok.write mu he k heo new)
theorem Inv.weak {σ':List (Option V)}(I:Inv X pins σ H s)(hl:σ'.length=σ.length)(w:∀ (i:Nat) v,σ'[i]? = some (some v)→σ[i]? = some (some v)):Inv X pins σ' H s :=
 ⟨I.ok,I.os,I.bare,I.base,let ⟨m,hn,hl'⟩:=I.loc;⟨m,hn,fun i x v e1 e2 e3=>hl' i x v e1 (w i v e2) e3⟩,I.cell,I.free,I.freeC,I.pin,I.hok,hl.trans I.len⟩
theorem Inv.pins_of {pins':List (Addr × Obj)}(I:Inv X pins σ H s)(h:∀ p∈pins',s.heap.get? p.1=some p.2∧H p.1=none∧p.1≠X.env.locals∧p.1∉X.fs∧∀ v,p.2.data≠.cell v):Inv X pins' σ H s :=
 ⟨I.ok,I.os,I.bare,I.base,I.loc,I.cell,I.free,I.freeC,fun p hp=>(Cm.mp hp).elim (fun z=>I.pin p (Do _ z)) (h p),I.hok,I.len⟩
theorem qC {N:List Str}(hN:N.Nodup){i j:Nat}{x:Str}(a:N[i]? = some x)(b:N[j]? = some x):i=j:=by
 obtain⟨h1,e1⟩:=Ck.mp a;obtain⟨h2,e2⟩:=Ck.mp b;exact (List.getElem_inj hN).mp (e1.trans e2.symm)
theorem nA {M:Model}{A:Around}{E:Value→Shared→Prop}{i:Nat}{x:Str}{v:V}{u:Value}{Q:Unit→Shared→Prop}(I:Inv X pins σ H s)(hN:X.N.Nodup)(hi:X.N[i]? = some x)(hx:Loc X.env.scope x)(r:a_ v u)
  (h:∀ s',Inv X pins (σ.set i (some v)) H s'→(∃ a,Heap.SameBut a s.heap s'.heap∧(a=X.env.locals∨X.env.cells.lookup x=some a))→Q () s') (hf:X.fn x=true∨X.env.scope.names.lookup x=some .local:=by first | exact .inl rfl | exact .inr rfl | assumption):wpAny M A (storeName X.env x u) Q E s:=by
 obtain⟨m,hn,hl⟩:=id I.loc;have hcls:(X.env.scope.kind == .class || (X.env.scope.kind == .module && X.env.locals != X.env.globals))=false:=by rw[I.ok.kind];rfl
 have hiσ:i < σ.length:=by rw[I.len];exact (Ck.mp hi).1
 have cne:=I.cne;have tracked:∀ {a:Addr} {h':Heap},(∃ o,s.heap.get? a=some o∧H a=none)→Heap.SameBut a s.heap h'→HOk X.prog X.w H h':=fun {a h'} ha hs b ob e=>by
  obtain⟨_,_,hfree⟩:=ha;refine (I.hok b ob e).stay (fun c w' hc q=>(hs.2 c ?_).trans q) (fun _ q=>q) fun _ _ q=>q;rintro rfl;rcases hc with rfl|hc
  ·rw[hfree]at e;cases e
  ·rw[hfree]at hc;cases hc
 rcases hx with hk|hk
 ·refine wpAny_storeName_local hk hn (fun h' hn' hs =>?_) hcls;obtain⟨oL,_,_,hoL,_⟩:=id hn;refine h _ ⟨I.ok,I.os,I.bare,⟨fun b o e n hb hx =>?_,fun b o e n hb hx =>?_,I.base.free,fun b o e hx =>?_,I.base.tups,I.base.frzs,I.base.tbls⟩,⟨_,hn',fun j y v' e1 e2 e3 =>?_⟩,fun y c e =>?_,I.free,I.freeC,fun p hp =>?_,tracked ⟨oL,hoL,I.free⟩ hs,by simpa using I.len⟩ ⟨_,hs,.inl rfl⟩
  ·exact (hs.2 b (Cn (Co (B9 e) I.ok.above))).trans (I.base.keep b o e n hb hx)
  ·obtain⟨sl,e1⟩:=I.base.slot b o e n hb hx;exact⟨sl,(hs.2 b (Cn (Co (B9 e) I.ok.above))).trans e1⟩
  ·obtain⟨o',e1⟩:=I.base.there b o e hx;exact⟨o',(hs.2 b (Cn (Co (B9 e) I.ok.above))).trans e1⟩
  ·by_cases hj:j=i
   ·subst hj;rw[hi]at e1;cases e1;rw[Dw hiσ]at e2;cases e2;exact⟨u,r,.inl ⟨hk,by simp⟩⟩
   ·rw[Dp (Ne.symm hj)]at e2;obtain⟨u',r',q⟩:=hl j y v' e1 e2 e3;refine⟨u',r',?_⟩;rcases q with⟨k,e⟩ | ⟨k,c,e,z⟩
    ·refine .inl ⟨k,?_⟩
     have:y≠x:=fun e=>hj (qC hN e1 (e▸hi))
     simp[this,e]
    ·exact .inr ⟨k,c,e,z.sameBut hs (cne y c e)⟩
  ·obtain⟨w',z⟩:=I.cell y c e;exact⟨w',z.sameBut hs (cne y c e)⟩
  ·obtain⟨e,n,ne,nf,d⟩:=I.pin p hp;exact⟨(hs.2 p.1 ne).trans e,n,ne,nf,d⟩
 ·have hfn:X.fn x=true:=by
   rcases hf with z|z
   ·exact z
   ·rw[z]at hk;cases hk
  obtain⟨c,hc⟩:=I.ok.has x (.inl hk);obtain⟨w',z⟩:=I.cell x c hc;refine wpAny_storeName_cell I.ok.kind hk hc z (fun h' hc' hs =>?_);obtain⟨oc,hoc,hocd⟩:=id z;refine h { s with heap:=h' } ⟨I.ok,I.os,I.bare,⟨fun b o e n hb hx =>?_,fun b o e n hb hx =>?_,I.base.free,fun b o e hx =>?_,I.base.tups,I.base.frzs,I.base.tbls⟩,⟨m,hn.sameBut hs (Ne.symm (cne x c hc)),fun j y v' e1 e2 e3 =>?_⟩,fun y c' e =>?_,I.free,I.freeC,fun p hp =>?_,tracked ⟨oc,hoc,I.freeC x c hc⟩ hs,by simpa using I.len⟩ ⟨c,hs,.inr hc⟩
  ·exact (hs.2 b (Cn (Co (B9 e) (I.ok.cab x c hfn hc)))).trans (I.base.keep b o e n hb hx)
  ·obtain⟨sl,e1⟩:=I.base.slot b o e n hb hx;exact⟨sl,(hs.2 b (Cn (Co (B9 e) (I.ok.cab x c hfn hc)))).trans e1⟩
  ·obtain⟨o',e1⟩:=I.base.there b o e hx;exact⟨o',(hs.2 b (Cn (Co (B9 e) (I.ok.cab x c hfn hc)))).trans e1⟩
  ·by_cases hj:j=i
   ·subst hj;rw[hi]at e1;cases e1;rw[Dw hiσ]at e2;cases e2;exact⟨u,r,.inr ⟨.inl hk,c,hc,hc'⟩⟩
   ·rw[Dp (Ne.symm hj)]at e2;obtain⟨u',r',q⟩:=hl j y v' e1 e2 e3;refine⟨u',r',?_⟩;rcases q with q | ⟨k,c',e,z'⟩
    ·exact .inl q
    ·refine .inr ⟨k,c',e,z'.sameBut hs ?_⟩;rintro rfl;exact hj (qC hN e1 (I.ok.inj _ _ _ e hc▸hi))
  ·by_cases hcc:c'=c
   ·subst hcc;exact⟨_,hc'⟩
   ·obtain⟨w2,z2⟩:=I.cell y c' e;exact⟨w2,z2.sameBut hs hcc⟩
  ·obtain⟨e,n,ne,nf,d⟩:=I.pin p hp;refine⟨(hs.2 p.1 ?_).trans e,n,ne,nf,d⟩;intro q;rw[q,hoc]at e;have q':oc=p.2:=Option.some.inj e;exact d w' (by rw[← q'];exact hocd)
theorem gp {M:Model}{A:Around}{E:Value→Shared→Prop}{i:Nat}{x:Str}{v:V}{u:Value}{Q:Unit→Shared→Prop}(I:Inv X pins σ H s)(hN:X.N.Nodup)(hi:X.N[i]? = some x)(hx:Loc X.env.scope x)(r:a_ v u)
  (h:∀ s',Inv X pins (σ.set i (some v)) H s'→Q () s') (hf:X.fn x=true∨X.env.scope.names.lookup x=some .local:=by first | exact .inl rfl | exact .inr rfl | assumption):wpAny M A (storeName X.env x u) Q E s :=
 nA I hN hi hx r (fun s' I' _=>h s' I') hf
theorem Inv.call' {s':Shared}{ch:List Addr}(I:Inv X pins σ H s)(ho:s'.os=s.os)(u:Un (frs X.stack) ch H H' s.heap s'.heap)(hok:HOk X.prog X.w H' s'.heap)(hg:AllBare s'.gens)
  (hch:∀ b∈ch,(b∈X.ex∨X.s₀.heap.objs.size≤b)∧b≠X.env.locals∧(∀ x c,X.env.cells.lookup x=some c→c≠b)∧∀ p∈X.pn++pins,p.1≠b):Inv X pins σ H' s':=by
 obtain⟨h',g',d',t',o'⟩:=s';have e:o'=s.os:=ho;subst e;exact I.call (g':=g') (t':=t') (d':=d') u hok hg hch
end
abbrev XK:=Value→Option Addr→Hp→Prop
abbrev St:=List (Option V)
abbrev VK:=V→Hp→Prop
abbrev TE:=St→Hp→VK→Prop
abbrev TT:=St→Hp→(Bool→Hp→Prop)→Prop
abbrev TA:=St→Hp→(List V→Hp→Prop)→Prop
structure hJ where
 nx:St→Hp→Prop
 rt:VK
 bk:St→Hp→Prop:=fun _ _=>False
 ct:St→Hp→Prop:=fun _ _=>False
abbrev TS:=hJ→St→Hp→Prop
def EP (X:Cx)(pins:List (Addr × Obj))(σ:St)(Q:VK)(u:Value)(s':Shared):Prop:=∃ v H',Inv X pins σ H' s'∧a_ v u∧Q v H'
def TP (X:Cx)(pins:List (Addr × Obj))(σ:St)(Q:Bool→Hp→Prop)(b:Bool)(s':Shared):Prop:=∃ H',Inv X pins σ H' s'∧Q b H'
def AP (X:Cx)(pins:List (Addr × Obj))(σ:St)(Q:List V→Hp→Prop)(us:List Value)(s':Shared):Prop:=∃ vs H',Inv X pins σ H' s'∧aX vs us∧Q vs H'
def SP (X:Cx)(pins:List (Addr × Obj))(D:hJ)(f:Flow)(s':Shared):Prop :=
 match f with
 | .next=>∃ σ' H',Inv X pins σ' H' s'∧D.nx σ' H'
 | .brk=>∃ σ' H',Inv X pins σ' H' s'∧D.bk σ' H'
 | .cont=>∃ σ' H',Inv X pins σ' H' s'∧D.ct σ' H'
 | .ret u=>∃ v σ' H',Inv X pins σ' H' s'∧a_ v u∧D.rt v H'
def PE (X:Cx)(e:Expr)(t:TE):Prop :=
 ∀ ⦃pins:List (Addr × Obj)⦄ (s:Shared) (σ:St) (H:Hp) (Q:VK),Inv X pins σ H s→t σ H Q→wpAny (model X.prog X.w) X.A (eval e X.env) (EP X pins σ Q) X.xe s
def PT (X:Cx)(e:Expr)(t:TT):Prop :=
 ∀ ⦃pins:List (Addr × Obj)⦄ (s:Shared) (σ:St) (H:Hp) (Q:Bool→Hp→Prop),Inv X pins σ H s→t σ H Q→wpAny (model X.prog X.w) X.A (isTrue e X.env (eval e X.env)) (TP X pins σ Q) X.xe s
def PW (X:Cx)(e:Expr)(t:TT):Prop :=
 ∀ ⦃whole:Sem Value⦄ (pins:List (Addr × Obj)) (s:Shared) (σ:St) (H:Hp) (Q:Bool→Hp→Prop),Inv X pins σ H s→t σ H Q→wpAny (model X.prog X.w) X.A (isTrue e X.env whole) (TP X pins σ Q) X.xe s
theorem PW.pt {X:Cx}{e:Expr}{t:TT}(h:PW X e t):PT X e t:=@h _
def PA (X:Cx)(es:List Expr)(t:TA):Prop :=
 ∀ ⦃pos:Pos⦄ (pins:List (Addr × Obj)) (s:Shared) (σ:St) (H:Hp) (Q:List V→Hp→Prop),Inv X pins σ H s→t σ H Q→wpAny (model X.prog X.w) X.A (spliced (backTo pos (starEach es X.env))) (AP X pins σ Q) X.xe s
def PS (X:Cx)(st:Stmt)(t:TS):Prop :=
 ∀ ⦃pins:List (Addr × Obj)⦄ (s:Shared) (σ:St) (H:Hp) (D:hJ),Inv X pins σ H s→t D σ H→wpAny (model X.prog X.w) X.A (exec st X.env) (SP X pins D) X.xe s
def PSs (X:Cx)(st:List Stmt)(t:TS):Prop :=
 ∀ ⦃pins:List (Addr × Obj)⦄ (s:Shared) (σ:St) (H:Hp) (D:hJ),Inv X pins σ H s→t D σ H→wpAny (model X.prog X.w) X.A (execs st X.env) (SP X pins D) X.xe s
theorem thn {α:Type}{t:Sem α}{Q Q':α→Shared→Prop}{M:Model}{A:Around}{E:Value→Shared→Prop}{s:Shared}(h:wpAny M A t Q E s)(hQ:∀ a s,Q a s→Q' a s):wpAny M A t Q' E s:=Cv h hQ fun _ _ x=>x
section
def bO (i:Nat):TE:=fun σ H Q=>∃ v,σ[i]? = some (some v)∧Q v H
def tC (v:V):TE:=fun _ H Q=>Q v H
theorem zE {i:Nat}{x:Str}{pos:Pos}(hN:X.N[i]? = some x)(hv:Vis X.env.scope x)(hd:(x == ("__debug__" : Str))=false:=by decide)(hcd:(x == ("__classdict__" : Str))=false:=by decide):PE X (.Name x pos) (bO i):=by
 intro pins s σ H Q I h;obtain⟨v,e,h⟩:=h;obtain⟨m,hn,hl⟩:=I.loc;obtain⟨u,r,l⟩:=hl i x v hN e hv;have fin:EP X pins σ Q u s:=⟨v,H,I,r,h⟩;rcases l with⟨hk,hm⟩ | ⟨hk,c,hc,hcell⟩
 ·exact wpAny_Name (wpAny_loadName_local I.ok.kind hk hn hm fin) hd
 ·rcases hk with hk|hk
  ·exact wpAny_Name (wpAny_loadName_cell I.ok.kind hk hc hcell fin) hd
  ·exact wpAny_Name (wpAny_loadName_free I.ok.kind hk hc hcell fin hcd) hd
theorem ac {i j pos}:PE X (.Constant (.int i) j pos) (tC (.int i)):=fun _ _ _ H _ I h=>wpAny_Constant_int ⟨.int i,H,I.tok _,⟨_,rfl⟩,h⟩
theorem fw {b j pos}:PE X (.Constant (.bool b) j pos) (tC (.bl b)):=fun _ _ _ H _ I h=>Constant_bool ⟨.bl b,H,I,rfl,h⟩
theorem jZ {j pos}:PE X (.Constant .none j pos) (tC .non):=fun _ _ _ H _ I h=>Constant_none ⟨.non,H,I,rfl,h⟩
theorem ah {x j pos}:PE X (.Constant (.str x) j pos) (tC (.str x)):=fun _ _ _ H _ I h=>Calls.Constant_str ⟨.str x,H,I.tok _,⟨_,rfl⟩,h⟩
def Gl (X:Cx)(x:Str):Prop:=X.env.kindOf x=some .globalImplicit
theorem fY {E:Value→Shared→Prop}{pins:List (Addr × Obj)}{s:Shared}{σ:St}{H:Hp}{x:Str}{u:Value}{pos:Pos}{Q:Value→Shared→Prop}(I:Inv X pins σ H s)(hg:Gl X x)(hm:X.mg x=some u)(h:Q u s)
  (hd:(x == ("__debug__" : Str))=false:=by decide):wpAny (model X.prog X.w) X.A (eval (.Name x pos) X.env) Q E s :=
 Calls.Name_function_global I.ok.kind hg (Calls.loadGlobal_global (by rw[I.ok.glob];exact I.mod.glob.keeps I.bk) hm h) hd
theorem fZ {E:Value→Shared→Prop}{pins:List (Addr × Obj)}{s:Shared}{σ:St}{H:Hp}{x:Str}{u:Value}{pos:Pos}{Q:Value→Shared→Prop}(I:Inv X pins σ H s)(hg:Gl X x)(hm:X.mg x=none)(hv:bootBuiltins x=some u)(h:Q u s)
  (hn:x ≠ "__name__" := by decide) (hd:(x == ("__debug__" : Str))=false:=by decide):wpAny (model X.prog X.w) X.A (eval (.Name x pos) X.env) Q E s:=by
 obtain⟨mb,h1,h2⟩:=I.mod.blt;exact Calls.Name_function_global I.ok.kind hg (Calls.loadGlobal_builtin (by rw[I.ok.glob];exact I.mod.glob.keeps I.bk) hm (by rw[I.ok.blt];exact h1.keeps I.bk) ((h2 x hn).trans hv) h) hd
theorem bB {x:Str}{v:V}{u:Value}{pos:Pos}(hg:Gl X x)(hm:X.mg x=some u)(r:a_ v u)(hd:(x == ("__debug__" : Str))=false:=by decide):PE X (.Name x pos) (tC v) :=
 fun _ _ _ H _ I h=>fY I hg hm ⟨v,H,I,r,h⟩ hd
theorem x9 {x:Str}{v:V}{u:Value}{pos:Pos}(hg:Gl X x)(hm:X.mg x=none)(hv:bootBuiltins x=some u)(r:a_ v u)(hn:x ≠ "__name__" := by decide)(hd:(x == ("__debug__" : Str))=false:=by decide):PE X (.Name x pos) (tC v) :=
 fun _ _ _ H _ I h=>fZ I hg hm hv ⟨v,H,I,r,h⟩ hn hd
variable {a b:Expr}{ta tb:TE}
def tB (t:TE):TT:=fun σ H Q=>t σ H fun x H1=>∃ c,x=.bl c∧Q c H1
theorem bz {e:Expr}{t:TE}(h:PE X e t)(he:∀ whole,isTrue e X.env whole=(do let v ← whole;standAt e.pos;holding [v] (truthy v)):=by intro _;rfl):PT X e (tB t):=by
 intro pins s σ H Q I hw;refine isTrue_plain (thn (@h pins s σ H _ I hw) fun v s1 ⟨x,H1,I1,r1,q1⟩ =>?_) (he _);obtain⟨d,rfl,q⟩:=q1;cases r1;exact wpAny_truthy_bool ⟨H1,I1,q⟩
variable {tA tB':TT}{rest:List Expr}
def BF (t u:TT):TT:=fun σ H Q=>t σ H fun c H1=>if c=true then u σ H1 Q else Q false H1
def tOr (t u:TT):TT:=fun σ H Q=>t σ H fun c H1=>if c=true then Q true H1 else u σ H1 Q
def AJ (t:TT):TT:=fun σ H Q=>t σ H fun c H1=>Q (!c) H1
theorem xT (ha:PT X a tA):PW X (.BoolOp .And [a] pos) tA:=by
 intro wh pins s σ H Q I h;refine isTrue_and (thn (@ha pins s σ H Q I h) fun c s1 e =>?_);cases c with
 | true=>exact isTrue_and_nil e
 | false=>exact e
theorem cV (ha:PT X a tA):PW X (.BoolOp .Or [a] pos) tA:=by
 intro wh pins s σ H Q I h;refine isTrue_or (thn (@ha pins s σ H Q I h) fun c s1 e =>?_);cases c with
 | false=>exact isTrue_or_nil e
 | true=>exact e
theorem zy (ha:PT X a tA)(hb:PW X (.BoolOp .And (b::rest) pos) tB'):PW X (.BoolOp .And (a::b::rest) pos) (BF tA tB'):=by
 intro wh pins s σ H Q I h;refine isTrue_and (thn (@ha pins s σ H _ I h) fun c s1 ⟨H1,I1,q1⟩ =>?_);cases c with
 | true=>exact @hb wh pins s1 σ H1 Q I1 q1
 | false=>exact⟨H1,I1,q1⟩
theorem eu (ha:PT X a tA)(hb:PW X (.BoolOp .Or (b::rest) pos) tB'):PW X (.BoolOp .Or (a::b::rest) pos) (tOr tA tB'):=by
 intro wh pins s σ H Q I h;refine isTrue_or (thn (@ha pins s σ H _ I h) fun c s1 ⟨H1,I1,q1⟩ =>?_);cases c with
 | true=>exact⟨H1,I1,q1⟩
 | false=>exact @hb wh pins s1 σ H1 Q I1 q1
theorem bP (ha:PT X a tA):PT X (.UnaryOp .Not a pos) (AJ tA):=by
 intro pins s σ H Q I h;exact isTrue_not (@ha pins s σ H (fun c H1=>Q (!c) H1) I h)
def AO (ta tb:TE):TE:=fun σ H Q=>ta σ H fun x H1=>∃ c,x=.bl c∧if c=true then tb σ H1 Q else Q (.bl false) H1
def AI (ta:TE):TE:=fun σ H Q=>ta σ H fun x H1=>∃ c,x=.bl c∧Q (.bl (!c)) H1
theorem oQ {op}{t:TE}(h:PE X a t):PE X (.BoolOp op [a] pos) t:=fun pins s σ H Q I hw=>BoolOp_one (@h pins s σ H Q I hw)
theorem mj (ha:PE X a ta)(hb:PE X (.BoolOp .And (b::rest) pos) tb):PE X (.BoolOp .And (a::b::rest) pos) (AO ta tb):=by
 intro pins s σ H Q I h;refine BoolOp_and (thn (@ha pins s σ H _ I h) fun v s1 ⟨x,H1,I1,r1,q1⟩ =>?_);obtain⟨c,rfl,q1⟩:=q1;cases r1;refine wpAny_truthy_bool ?_;cases c with
 | true=>exact @hb pins s1 σ H1 Q I1 q1
 | false=>exact⟨.bl false,H1,I1,rfl,q1⟩
theorem wo (ha:PE X a ta):PE X (.UnaryOp .Not a pos) (AI ta):=by
 intro pins s σ H Q I h;refine UnaryOp_ (thn (@ha pins s σ H _ I h) fun v s1 ⟨x,H1,I1,r1,q1⟩ =>?_);obtain⟨c,rfl,q1⟩:=q1;cases r1;exact not_of (wpAny_truthy_bool ⟨.bl (!c),H1,I1,rfl,q1⟩)
def tIf (t:TT)(ta tb:TE):TE:=fun σ H Q=>t σ H fun c H1=>if c=true then ta σ H1 Q else tb σ H1 Q
theorem ww {c:Expr}(hc:PT X c tA)(ha:PE X a ta)(hb:PE X b tb):PE X (.IfExp c a b pos) (tIf tA ta tb):=by
 intro pins s σ H Q I h;refine wpAny_IfExp (thn (@hc pins s σ H _ I h) fun d s1 ⟨H1,I1,q1⟩ =>?_);cases d with
 | true=>exact @ha pins s1 σ H1 Q I1 q1
 | false=>exact @hb pins s1 σ H1 Q I1 q1
end
def SqL (K:PySem.W.Frag)(H:Hp)(a:Addr)(xs:List V):Prop :=
 Rd H a (.lst xs) ∨
  ∃ (o:Obj) (its:Array Value) (n:Nat),K.lookup a=some o∧o.cls=.type "list" ∧ o.dict=none∧o.data=.seq its n∧its.size≤sizeLine∧aX xs its.toList
def SqT (K:PySem.W.Frag)(H:Hp)(a:Addr)(xs:List V):Prop :=
 Rd H a (.tup xs) ∨
  ∃ (o:Obj) (its:Array Value) (n:Nat),K.lookup a=some o∧o.cls=.type "tuple" ∧ o.data=.seq its n∧its.size≤sizeLine∧aX xs its.toList
def BY:Value→Option V
 | .none=>some .non
 | .bool b=>some (.bl b)
 | .int i _=>some (.int i)
 | .str x _=>some (.str x)
 | .bytes b _=>some (.byt b)
 | .float b _=>some (.flt b)
 | .ref a=>some (.ref a)
 | .type n=>some (.ty n)
 | _=>none
theorem a_.abs {x:V}{u:Value}(r:a_ x u):BY u=some x:=by
 cases x with
 | non=>cases r;rfl
 | bl _=>cases r;rfl
 | int _=>obtain⟨t,rfl⟩:=r;rfl
 | str _=>obtain⟨t,rfl⟩:=r;rfl
 | byt _=>obtain⟨t,rfl⟩:=r;rfl
 | flt _=>obtain⟨t,rfl⟩:=r;rfl
 | ref _=>cases r;rfl
 | ty _=>cases r;rfl
theorem a_.inj {x y:V}{u:Value}(r:a_ x u)(q:a_ y u):x=y:=Option.some.inj (r.abs.symm.trans q.abs)
theorem aX.inj:∀ {xs ys:List V} {us:List Value},aX xs us→aX ys us→xs=ys
 | _,_,_,.nil,.nil=>rfl
 | _,_,_,.cons r t,.cons r' t'=>by rw[r.inj r',aX.inj t t']
section
variable {pins:List (Addr × Obj)}{σ:St}{a:Addr}{xs ys:List V}
theorem SqL.of {K:PySem.W.Frag}(h:H a=some (.lst xs)):SqL K H a xs:=.inl (.inl h)
theorem SqT.of {K:PySem.W.Frag}(h:H a=some (.tup xs)):SqT K H a xs:=.inl (.inl h)
theorem Inv.list (I:Inv X pins σ H s)(h:SqL X.K H a xs):∃ its:List Value,aX xs its∧PlainL s.heap a its.toArray∧xs.length≤sizeLine:=by
 rcases h with h|⟨o,its,n,hk,hc,hd,hs,hz,r⟩
 ·obtain⟨z,its,n,r,e⟩:=h.ok I.hok;exact⟨its,r,⟨_,n,e,rfl,rfl,rfl⟩,z⟩
 ·refine⟨its.toList,r,⟨o,n,I.kIn a o hk,hc,hd,by simpa using hs⟩,?_⟩;have e:=r.length;simp only[Dr]at e;omega
theorem Inv.tuple (I:Inv X pins σ H s)(h:SqT X.K H a xs):∃ its:List Value,aX xs its∧IsTup s.heap a its.toArray∧xs.length≤sizeLine:=by
 rcases h with h|⟨o,its,n,hk,hc,hs,hz,r⟩
 ·obtain⟨z,its,r,p⟩:=h.ok I.hok;exact⟨its,r,p,z⟩
 ·refine⟨its.toList,r,⟨o,I.kIn a o hk,hc,n,by simpa using hs⟩,?_⟩;have e:=r.length;simp only[Dr]at e;omega
theorem Inv.list_inj (I:Inv X pins σ H s)(h:SqL X.K H a xs)(h':SqL X.K H a ys):xs=ys:=by
 obtain⟨its,r,⟨o,n,e,_,_,d⟩,_⟩:=I.list h;obtain⟨its',r',⟨o',n',e',_,_,d'⟩,_⟩:=I.list h';rw[e]at e';cases e';rw[d]at d';injection d' with d1 _
 have:its=its':=by simpa using Cs Array.toList d1
 subst this;exact r.inj r'
theorem Inv.tuple_inj (I:Inv X pins σ H s)(h:SqT X.K H a xs)(h':SqT X.K H a ys):xs=ys:=by
 obtain⟨its,r,⟨o,e,_,n,d⟩,_⟩:=I.tuple h;obtain⟨its',r',⟨o',e',_,n',d'⟩,_⟩:=I.tuple h';rw[e]at e';cases e';rw[d]at d';injection d' with d1 _
 have:its=its':=by simpa using Cs Array.toList d1
 subst this;exact r.inj r'
end
abbrev Cx.wish (X:Cx)(E:Value→Shared→Prop):Cx:={ X with xe:=E }
abbrev Cx.nox (X:Cx):Cx:=X.wish fun _ _=>False
theorem Cx.Ok.wish {X:Cx}(ok:X.Ok)(E:Value→Shared→Prop):(X.wish E).Ok :=
 ⟨ok.mod,ok.kind,ok.glob,ok.blt,ok.above,ok.inj,ok.has,ok.cab,ok.hd,ok.frames,ok.stk,ok.exf,ok.bs,ok.bsz,ok.noex,ok.exfs,ok.funs,ok.frf⟩
theorem Cx.Ok.unwish {X:Cx}{E:Value→Shared→Prop}(ok:(X.wish E).Ok):X.Ok :=
 ⟨ok.mod,ok.kind,ok.glob,ok.blt,ok.above,ok.inj,ok.has,ok.cab,ok.hd,ok.frames,ok.stk,ok.exf,ok.bs,ok.bsz,ok.noex,ok.exfs,ok.funs,ok.frf⟩
section
variable {pins:List (Addr × Obj)}{σ:St}{E:Value→Shared→Prop}
theorem Inv.wish (I:Inv X pins σ H s)(E:Value→Shared→Prop):Inv (X.wish E) pins σ H s:=⟨I.ok.wish E,I.os,I.bare,I.base,I.loc,I.cell,I.free,I.freeC,I.pin,I.hok,I.len⟩
theorem Inv.unwish (I:Inv (X.wish E) pins σ H s):Inv X pins σ H s:=⟨I.ok.unwish,I.os,I.bare,I.base,I.loc,I.cell,I.free,I.freeC,I.pin,I.hok,I.len⟩
theorem SP.unwish {D:hJ}{f:Flow}{s':Shared}(h:SP (X.wish E) pins D f s'):SP X pins D f s':=by
 cases f with
 | next=>obtain⟨σ',H',I,q⟩:=h;exact⟨σ',H',I.unwish,q⟩
 | brk=>obtain⟨σ',H',I,q⟩:=h;exact⟨σ',H',I.unwish,q⟩
 | cont=>obtain⟨σ',H',I,q⟩:=h;exact⟨σ',H',I.unwish,q⟩
 | ret u=>obtain⟨v,σ',H',I,r,q⟩:=h;exact⟨v,σ',H',I.unwish,r,q⟩
theorem PSs.nox {st:List Stmt}{t:TS}(h:PSs X.nox st t):PSs X st t:=fun pins s σ H D I hw =>
 Cv (@h pins s σ H D (I.wish _) hw) (fun _ _ q=>q.unwish) fun _ _ z=>False.elim z
end
section
variable {st:Stmt}{rest:List Stmt}{t u:TS}{e:Expr}{te:TE}
def vX:TS:=fun D σ H=>D.nx σ H
def rk (t u:TS):TS:=fun D σ H=>t { D with nx:=u D } σ H
theorem aA:PSs X [] vX:=fun _ _ σ H _ I h=>wpAny_execs_nil ⟨σ,H,I,h⟩
theorem ae (h1:PS X st t)(h2:PSs X rest u):PSs X (st::rest) (rk t u):=by
 intro pins s σ H D I h;refine wpAny_execs_cons (thn (@h1 pins s σ H { D with nx:=u D } I h) fun f s1 q =>?_);cases f with
 | next =>
  obtain⟨σ',H',I',q⟩:=q;exact @h2 pins s1 σ' H' D I' q
 | ret v=>exact q
 | brk=>exact q
 | cont=>exact q
theorem ag (h1:PS X st t):PSs X [st] t:=by
 intro pins s σ H D I h;refine wpAny_execs_cons (thn (@h1 pins s σ H D I h) fun f s1 q =>?_);cases f with
 | next=>exact wpAny_execs_nil q
 | ret v=>exact q
 | brk=>exact q
 | cont=>exact q
theorem Inv.quiet {pins:List (Addr × Obj)}{σ:St}{H:Hp}{s:Shared}(I:Inv X pins σ H s):interactive X.env=false:=by simp[interactive,I.ok.kind]
def AM (te:TE):TS:=fun D σ H=>te σ H fun _ H1=>D.nx σ H1
theorem bL (he:PE X e te)(hs:swapsWith e none pos.line X.env=pure false:=by rfl):PS X (.Expr e pos) (AM te):=by
 intro pins s σ H D I h;exact wpAny_Expr_any (thn (@he pins s σ H _ I h) fun v s1 ⟨x,H1,I1,r1,q1⟩=>⟨σ,H1,I1,q1⟩) I.quiet hs
def zm (te:TE):TS:=fun D σ H=>te σ H D.rt
theorem av (he:PE X e te):PS X (.Return (some e) pos) (zm te):=by
 intro pins s σ H D I h;exact wpAny_Return_some (thn (@he pins s σ H _ I h) fun v s1 ⟨x,H1,I1,r1,q1⟩=>⟨x,σ,H1,I1,r1,q1⟩)
def zp (c:TT)(t u:TS):TS:=fun D σ H=>c σ H fun b H1=>if b=true then t D σ H1 else u D σ H1
theorem aV {c:Expr}{a b:List Stmt}{tc:TT}(hc:PT X c tc)(ha:PSs X a t)(hb:PSs X b u):PS X (.If c a b pos) (zp tc t u):=by
 intro pins s σ H D I h;refine wpAny_If (thn (@hc pins s σ H _ I h) fun d s1 ⟨H1,I1,q1⟩ =>?_);cases d with
 | true=>exact @ha pins s1 σ H1 D I1 q1
 | false=>exact @hb pins s1 σ H1 D I1 q1
def zn:TS:=fun _ _ _=>False
theorem aY:PS X st zn:=fun _ _ _ _ _ _ h=>h.elim
end
abbrev TG:=V→St→Hp→(St→Hp→Prop)→Prop
abbrev TGs:=List V→St→Hp→(St→Hp→Prop)→Prop
def PG (X:Cx)(target:Expr)(t:TG):Prop :=
 ∀ (pins:List (Addr × Obj)) (s:Shared) (σ:St) (H:Hp) (v:V) (u:Value) (Q:St→Hp→Prop),Inv X pins σ H s→a_ v u→t v σ H Q →
  wpAny (model X.prog X.w) X.A (assign target X.env u) (fun _ s'=>∃ σ' H',Inv X pins σ' H' s'∧Q σ' H') X.xe s
def PGs (X:Cx)(ts:List Expr)(t:TGs):Prop :=
 ∀ (pins:List (Addr × Obj)) (s:Shared) (σ:St) (H:Hp) (vs:List V) (us:List Value) (Q:St→Hp→Prop),Inv X pins σ H s→aX vs us→t vs σ H Q →
  wpAny (model X.prog X.w) X.A (assignInOrder ((assignEach ts X.env).map (·.2)) us) (fun _ s'=>∃ σ' H',Inv X pins σ' H' s'∧Q σ' H') X.xe s
abbrev Az:=V→V→V→Hp→(Hp→Prop)→Prop
def Bv (X:Cx)(t:Az):Prop :=
 ∀ (pins:List (Addr × Obj)) (s:Shared) (σ:St) (H:Hp) (o i v:V) (ov iv u:Value) (Q:Hp→Prop),Inv X pins σ H s→a_ o ov→a_ i iv→a_ v u→t o i v H Q →
  wpAny (model X.prog X.w) X.A (setItem ov iv u) (fun _ s'=>∃ H',Inv X pins σ H' s'∧Q H') X.xe s
section
def ir (i:Nat):TG:=fun v σ H Q=>Q (σ.set i (some v)) H
theorem aQ {i:Nat}{x:Str}(hN:X.N.Nodup)(hi:X.N[i]? = some x)(hx:Loc X.env.scope x)(hf:X.fn x=true∨X.env.scope.names.lookup x=some .local:=by first | exact .inl rfl | exact .inr rfl | assumption):PG X (.Name x pos) (ir i):=by
 intro pins s σ H v u Q I r h;exact wpAny_assign_Name (gp I hN hi hx r (fun s' I'=>⟨_,H,I',h⟩) hf)
def BS:TGs:=fun vs σ H Q=>vs=[]∧Q σ H
def Bm (t:TG)(u:TGs):TGs:=fun vs σ H Q=>∃ v r,vs=v::r∧t v σ H fun σ' H'=>u r σ' H' Q
theorem fQ:PGs X [] BS:=by
 intro pins s σ H vs us Q I r h;obtain⟨e,h⟩:=h;subst e;cases r;exact assignInOrder_nil ⟨σ,H,I,h⟩
theorem bJ {e:Expr}{es:List Expr}{t:TG}{u:TGs}(h1:PG X e t)(h2:PGs X es u)
  (hs:(assignEach (e::es) X.env).map (·.2)=assign e X.env::(assignEach es X.env).map (·.2):=by rfl):PGs X (e::es) (Bm t u):=by
 intro pins s σ H vs us Q I r h;obtain⟨v,vr,e1,h⟩:=h;subst e1;cases r with
 | cons r rr =>
  rw[hs];refine assignInOrder_cons (thn (@h1 pins s σ H _ _ _ I r h) fun _ s1 ⟨σ1,H1,I1,q1⟩ =>?_);exact @h2 pins s1 σ1 H1 _ _ Q I1 rr q1
def Bl (K:PySem.W.Frag)(n:Nat)(t:TGs):TG:=fun v σ H Q=>∃ a xs,v=.ref a∧SqT K H a xs∧xs.length=n∧t xs σ H Q
theorem mf {es:List Expr}{k:Nat}{t:TGs}{n:Nat}(hc:X.calm=true)(h:PGs X es t)
  (hn:(assignEach es X.env).length=n:=by rfl) (hst:(assignEach es X.env).findIdx? (·.1)=none:=by rfl):PG X (.Tuple es k pos) (Bl X.K n t):=by
 intro pins s σ H v u Q I r hw;obtain⟨a,xs,e1,hq,hl,hw⟩:=hw;subst e1;cases r;obtain⟨its,rv,ht,hz⟩:=I.tuple hq;refine assign_Tuple_tuple (I.ok.hd hc) ht (by simp[hn,← hl,rv.length]) hst fun h' hx =>?_;have I1:Inv X pins σ H { s with heap:=h' }:=I.kept (t':=s.toks) fun b o e=>hx b o (Cn (B9 e)) e;exact @h pins _ σ H xs _ Q I1 (by simpa using rv) hw
def BR (to ti:TE)(t:Az):TG:=fun v σ H Q=>to σ H fun o H1=>ti σ H1 fun i H2=>t o i v H2 fun H3=>Q σ H3
theorem rS {o i:Expr}{to ti:TE}{t:Az}(ho:PE X o to)(hi:PE X i ti)(hs:Bv X t)
  (ha:∀ v,assign (.Subscript o i pos) X.env v=(do
   let ov ← holding [v] (eval o X.env)
   let iv ← holding [v,ov] (eval i X.env)
   standAt pos
   holding [v,ov,iv] (setItem ov iv v)
   release [v,ov,iv] []):=by intro _;rfl):PG X (.Subscript o i pos) (BR to ti t):=by
 intro pins s σ H v u Q I r h;rw[ha];refine B4 (wpAny_holding (thn (@ho pins s σ H _ I h) fun ov s1 ⟨x,H1,I1,r1,q1⟩ =>?_));refine B4 (wpAny_holding (thn (@hi pins s1 σ H1 _ I1 q1) fun iv s2 ⟨y,H2,I2,r2,q2⟩ =>?_));refine B4 (wpAny_standAt (B4 (wpAny_holding (thn (@hs pins s2 σ H2 x y v ov iv u _ I2 r1 r2 r q2) fun _ s3 ⟨H3,I3,q3⟩ =>?_))));exact wpAny_release ⟨σ,H3,I3,q3⟩
def mV (te:TE)(g:TG):TS:=fun D σ H=>te σ H fun x H1=>g x σ H1 D.nx
theorem iN {tg e:Expr}{te:TE}{g:TG}(he:PE X e te)(hg:PG X tg g)(hs:swapsWithSole [tg] e pos.line X.env=pure false:=by rfl)(hw:swappedStores [tg] e X.env=pure none:=by rfl)
  (h1:(assignEach [tg] X.env).map (·.2)=[assign tg X.env]:=by rfl):PS X (.Assign [tg] e pos) (mV te g):=by
 intro pins s σ H D I h;refine wpAny_Assign_stores (thn (@he pins s σ H _ I h) fun v s1 ⟨x,H1,I1,r1,q1⟩ =>?_) hs hw;rw[h1];exact thn (@hg pins s1 σ H1 x v _ I1 r1 q1) fun _ s2 q=>q
theorem aE {i:Nat}{x:Str}{e:Expr}{te:TE}{pos':Pos}(hN:X.N.Nodup)(hi:X.N[i]? = some x)(hx:Loc X.env.scope x)(he:PE X e te)(hs:swapsWith e (some (.Name x pos')) pos.line X.env=pure false:=by rfl)(hf:X.fn x=true∨X.env.scope.names.lookup x=some .local:=by first | exact .inl rfl | exact .inr rfl | assumption):
  PS X (.Assign [.Name x pos'] e pos) (mV te (ir i)):=by
 intro pins s σ H D I h;refine wpAny_Assign_Name (thn (@he pins s σ H _ I h) fun v s1 ⟨y,H1,I1,r1,q1⟩ =>?_) hs;exact gp I1 hN hi hx r1 (fun s2 I2=>⟨_,H1,I2,q1⟩) hf
def BA (i j:Nat)(ta:TA):TS:=fun D σ H=>ta σ H fun vs H1=>∃ v w,vs=[v,w]∧D.nx ((σ.set i (some v)).set j (some w)) H1
theorem zA {i j:Nat}{x y:Str}{a b:Expr}{ta:TA}{px py pt:Pos}{kt k2 pt2}(hc:X.calm=true)(hN:X.N.Nodup)(hi:X.N[i]? = some x)(hj:X.N[j]? = some y)(hij:i≠j)
  (hx:X.env.scope.names.lookup x=some .local) (hy:X.env.scope.names.lookup y=some .local) (ha:PA X [a,b] ta)
  (hw:swappedStores [.Tuple [.Name x px,.Name y py] kt pt] (.Tuple [a,b] k2 pt2) X.env=pure (some [x,y]))
  (hs:swapsWithSole [.Tuple [.Name x px,.Name y py] kt pt] (.Tuple [a,b] k2 pt2) pos.line X.env=pure false:=by rfl) :
  PS X (.Assign [.Tuple [.Name x px,.Name y py] kt pt] (.Tuple [a,b] k2 pt2) pos) (BA i j ta):=by
 intro pins s σ H D I h;rw[exec_Assign_arm];refine B4 (wpAny_standAt ?_);rw[hs];refine B4 (Ch ?_);rw[if_neg (by decide)];refine B4 (Tuple_ (thn (@ha _ pins s σ H _ I h) fun us s1 ⟨vs,H1,I1,r1,q1⟩ =>?_));obtain⟨v,w,e1,q1⟩:=q1;subst e1;obtain⟨u1,u2,rfl,rv,rw'⟩:∃ u1 u2,us=[u1,u2]∧a_ v u1∧a_ w u2:=by
  cases r1 with
  | cons p q =>
   cases q with
   | cons p' q' =>
    cases q';exact⟨_,_,rfl,p,p'⟩
 refine wpAny_newObj_type ?_ (by show 2≤sizeLine;decide);have I2:Inv X pins σ H1 { s1 with heap:=s1.heap.push { cls:=.type "tuple",data:=.seq [u1,u2].toArray } }:=I1.kept (t':=s1.toks) fun b o e=>B2 _ e
 rw[hw];refine B4 (Ch ?_);show wpAny (model X.prog X.w) X.A (do rule "assign.swapped-stores";let items ← unpackItems (.ref s1.heap.objs.size) 2 none;assignInOrder [fun v=>bindName X.env y v,fun v=>bindName X.env x v] items.reverse;pure Flow.next) _ _ _
 refine B4 (wpAny_rule (B4 (unpackItems_tuple (items := #[u1,u2]) (I.ok.hd hc) (IsTup.new s1.heap _) fun h' hx' =>?_)));have I3:=I2.kept (h':=h') (t':=s1.toks) fun b o e=>hx' b o (Cn (B9 e)) e;show wpAny _ _ (assignInOrder [fun v=>bindName X.env y v,fun v=>bindName X.env x v] [u2,u1] >>= fun _=>pure Flow.next) _ _ _;refine B4 (assignInOrder_cons (wpAny_bindName (gp I3 hN hj (.inl hy) rw' (fun s2 I4 =>?_) (.inr hy))));refine assignInOrder_cons (wpAny_bindName (gp I4 hN hi (.inl hx) rv (fun s3 I5=>assignInOrder_nil (Ch ?_)) (.inr hx)));rw[List.set_comm _ _ (Ne.symm hij)]at I5;exact⟨_,H1,I5,q1⟩
def vU (c:TT)(tb:TS):TS:=fun D σ H=>∃ W:Nat→St→Hp→Prop,(∃ m,W m σ H)∧∀ m σ H,W m σ H →
 c σ H fun b H1=>if b=true then ∃ N:St→Hp→Prop,(∀ σ' H',N σ' H'→∃ m',m' < m∧W m' σ' H')∧tb { D with nx:=N,ct:=N,bk:=D.nx } σ H1 else D.nx σ H1
theorem wl {c:Expr}{body:List Stmt}{tc:TT}{tb:TS}(hp:PassesOwn (model X.prog X.w) X.A X.env X.xe)(hc:PT X c tc)(hb:PSs X body tb):PS X (.While c body [] pos) (vU tc tb):=by
 intro pins s σ H D I h;obtain⟨W,⟨m0,w0⟩,turn⟩:=h;refine wpAny_While (codeAny_whileLoop (fun n s'=>∃ σ' H',Inv X pins σ' H' s'∧W n σ' H') ?_ m0 ⟨σ,H,I,w0⟩);rintro n s1 ⟨σ1,H1,I1,w1⟩;refine wpAny_passesOwn hp (thn (@hc pins s1 σ1 H1 _ I1 (turn n σ1 H1 w1)) fun b s2 ⟨H2,I2,q2⟩ =>?_);cases b with
 | true =>
  obtain⟨N,hN,q2⟩:=q2;rw[if_pos rfl];refine wpAny_passesOwn hp (thn (@hb pins s2 σ1 H2 _ I2 q2) fun f s3 q3 =>?_);cases f with
  | next =>
   obtain⟨σ3,H3,I3,n3⟩:=q3;obtain⟨m',hm,w3⟩:=hN σ3 H3 n3;exact⟨m',hm,σ3,H3,I3,w3⟩
  | cont =>
   obtain⟨σ3,H3,I3,n3⟩:=q3;obtain⟨m',hm,w3⟩:=hN σ3 H3 n3;exact⟨m',hm,σ3,H3,I3,w3⟩
  | brk=>exact q3
  | ret v=>exact q3
 | false =>
  rw[if_neg Ci];exact wpAny_execs_nil ⟨σ1,H2,I2,q2⟩
end
structure It where
 go:Nat→Hp→Prop
 yld:Nat→Hp→V→Hp→Prop
 stop:Nat→Hp→Prop
def mP (X:Cx)(pins:List (Addr × Obj))(H:Hp)(b:Addr):Prop :=
 H b=none∧b≠X.env.locals∧b∉X.fs∧(b∈X.ex∨X.s₀.heap.objs.size≤b)∧(∀ x c,X.env.cells.lookup x=some c→c≠b)∧∀ p∈X.pn++pins,p.1≠b
theorem Inv.fpOk {X:Cx}{pins:List (Addr × Obj)}{σ:St}{H H':Hp}{s:Shared}{b:Addr}(I:Inv X pins σ H s)(hb:s.heap.objs.size≤b)(hn:H' b=none):mP X pins H' b:=by
 refine⟨hn,Ds (Co I.lt hb),I.nofs hb,.inr (Cq I.sz hb),fun x c e z =>?_,fun p hp z =>?_⟩
 ·obtain⟨v,q⟩:=I.cell x c e;exact absurd (Co q.lt (by rw[z];exact hb)) (CV _)
 ·exact absurd (Co (B9 (I.pin p hp).1) (by rw[z];exact hb)) (CV _)
structure sY (P:Program)(w:World)(K:PySem.W.Frag)(tg:Expr)(J:It)(fp:List Addr)(it:Addr)(tn:Nat→Heap→Prop):Prop where
 mem:it∈fp
 obj:∀ i h,tn i h→∀ b∈fp,∃ o,h.get? b=some o∧∀ v,o.data≠.cell v
 keep:∀ i h h',tn i h→(∀ b∈fp,∀ o,h.get? b=some o→h'.get? b=some o)→tn i h'
 item:∀ (X:Cx),X.prog=P→X.w=w→X.K=K→X.calm=true→∀ (i:Nat) (pins:List (Addr × Obj)) (s:Shared) (σ:St) (H:Hp) (E:Value→Shared→Prop),Inv X pins σ H s→(∀ b∈fp,mP X pins H b)→tn i s.heap→J.go i H →
  wpAny (model P w) X.A (pyNext (.ref it)) (fun r s1=>∃ u,r=some u ∧
   wpAny (model P w) X.A (letOwnedTupleGo tg (.ref it) u) (fun _ s2=>∃ x H',Inv X pins σ H' s2∧a_ x u∧J.yld i H x H'∧tn (i + 1) s2.heap∧∀ b∈fp,H' b=none) E s1) E s
 done:∀ (X:Cx),X.prog=P→X.w=w→X.K=K→X.calm=true→∀ (i:Nat) (pins:List (Addr × Obj)) (s:Shared) (σ:St) (H:Hp) (E:Value→Shared→Prop),Inv X pins σ H s→(∀ b∈fp,mP X pins H b)→tn i s.heap→J.stop i H →
  wpAny (model P w) X.A (pyNext (.ref it)) (fun r s1=>r=none∧Inv X pins σ H s1) E s
 self:∀ (A:Around) (i:Nat) (s:Shared) (Q:Value→Shared→Prop) (E:Value→Shared→Prop),tn i s.heap→Q (.ref it) s→wpAny (model P w) A (pyIter (.ref it)) Q E s
abbrev TI:=St→Hp→(It→Hp→Prop)→Prop
def PIE (X:Cx)(pins:List (Addr × Obj))(σ:St)(tg:Expr)(R:It→Hp→Prop)(itv:Value)(s2:Shared):Prop :=
 ∃ (it:Addr) (fp:List Addr) (tn:Nat→Heap→Prop) (J:It) (H':Hp),itv=.ref it∧Inv X pins σ H' s2∧sY X.prog X.w X.K tg J fp it tn∧tn 0 s2.heap∧(∀ b∈fp,mP X pins H' b)∧R J H'
def PI (X:Cx)(tg iter:Expr)(wi:TI):Prop :=
 ∀ (pins:List (Addr × Obj)) (s:Shared) (σ:St) (H:Hp) (R:It→Hp→Prop),Inv X pins σ H s→wi σ H R →
  wpAny (model X.prog X.w) X.A (eval iter X.env) (fun v s1=>wpAny (model X.prog X.w) X.A (pyIter v) (PIE X pins σ tg R) X.xe s1) X.xe s
theorem tQ {M:Model}{A:Around}{E:Value→Shared→Prop}{s:Shared}{tg:Expr}{it:Addr}{u:Value}{o:Obj}{n:String}{vs:Array Value}{Q:Unit→Shared→Prop}(ho:s.heap.get? it=some o)(hc:o.cls=.type n)(hd:o.data=.fields vs)
  (hn:["enumerate","zip","dict_itemiterator","dict_reverseitemiterator","odict_iterator","itertools.zip_longest","itertools.pairwise"].contains n=false) (hQ:Q () s):wpAny M A (letOwnedTupleGo tg (.ref it) u) Q E s:=by
 unfold letOwnedTupleGo;cases tg<;>first
  | exact Ch hQ
  | (cases u<;>first
    | exact Ch hQ
    | (refine B4 (wpAny_load ho ?_)
       rw[hc,hd];show wpAny M A (if (["enumerate","zip","dict_itemiterator","dict_reverseitemiterator","odict_iterator","itertools.zip_longest","itertools.pairwise"].contains n && vs[0]? == some (rawInt _))=true then _ else _) Q E s
       rw[if_neg (by intro h;rw[hn,Bool.false_and]at h;cases h)];exact Ch hQ))
def Itl (K:PySem.W.Frag)(a:Addr):It :=
 ⟨fun i H=>∃ xs x,SqL K H a xs∧xs[i]? = some x,fun i H x H'=>H'=H∧∀ xs,SqL K H a xs→xs[i]? = some x,fun i H=>∃ xs,SqL K H a xs∧xs.length≤i⟩
def Itt (K:PySem.W.Frag)(a:Addr):It :=
 ⟨fun i H=>∃ xs x,SqT K H a xs∧xs[i]? = some x,fun i H x H'=>H'=H∧∀ xs,SqT K H a xs→xs[i]? = some x,fun i H=>∃ xs,SqT K H a xs∧xs.length≤i⟩
def Itr (lo:Int)(n:Nat):It:=⟨fun i _=>i < n,fun i H x H'=>H'=H∧x=.int (lo + i),fun i _=>n≤i⟩
theorem uo {P:Program}{w:World}{K:PySem.W.Frag}{tg:Expr}(a it:Addr):sY P w K tg (Itl K a) [it] it (fun i h=>h.IsListIter it a i) where
 mem:=by simp
 obj:=fun i h st b hb=>by
  have e:b=it:=by simpa using hb
  subst e;obtain⟨o,e,c,d⟩:=st;exact⟨o,e,fun v z=>by rw[d]at z;cases z⟩
 keep:=fun i h h' st k=>st.at fun o e=>k it (by simp) o e
 item:=by
  intro X hP hw hK hc i pins s σ H E I hf st hg;subst hP hw hK;obtain⟨xs,x,hq,hx⟩:=hg;obtain⟨its,rv,p,hz⟩:=I.list hq;obtain⟨u,hu,ru⟩:=rv.get hx;obtain⟨f0,f1,f2,f3,f4,f5⟩:=hf it (by simp);refine wpAny_pyNext_list_item st p.isList (x:=u) (by simpa using hu) fun h' st' sb =>?_;have I1:Inv X pins σ H { s with heap:=h' }:=I.turned (t':=s.toks) (fun b o hb e=>(sb.2 b hb).trans e) f0 f1 f3 f4 f5;obtain⟨o,e,c,d⟩:=id st';exact⟨u,rfl,tQ (s:={ s with heap:=h' }) e c d (by decide) ⟨x,H,I1,ru,⟨rfl,fun ys hy=>by rw[I.list_inj hy hq];exact hx⟩,st',fun b hb=>(hf b hb).1⟩⟩
 done:=by
  intro X hP hw hK hc i pins s σ H E I hf st hg;subst hP hw hK;obtain⟨xs,hq,hx⟩:=hg;obtain⟨its,rv,p,hz⟩:=I.list hq;obtain⟨f0,f1,f2,f3,f4,f5⟩:=hf it (by simp);have hl:=rv.length;exact wpAny_pyNext_list_end (I.ok.hd hc) st p.isList (by simp;omega) fun h' eb=>⟨rfl,I.turned (t':=s.toks) (fun b o hb e=>eb b o hb e) f0 f1 f3 f4 f5⟩
 self:=fun _ _ _ _ _ st h=>wpAny_pyIter_listiter st h
theorem re {P:Program}{w:World}{K:PySem.W.Frag}{tg:Expr}(a it:Addr):sY P w K tg (Itt K a) [it] it (fun i h=>h.IsTupleIter it a i) where
 mem:=by simp
 obj:=fun i h st b hb=>by
  have e:b=it:=by simpa using hb
  subst e;obtain⟨o,e,c,d⟩:=st;exact⟨o,e,fun v z=>by rw[d]at z;cases z⟩
 keep:=fun i h h' st k=>st.at fun o e=>k it (by simp) o e
 item:=by
  intro X hP hw hK hc i pins s σ H E I hf st hg;subst hP hw hK;obtain⟨xs,x,hq,hx⟩:=hg;obtain⟨its,rv,p,hz⟩:=I.tuple hq;obtain⟨u,hu,ru⟩:=rv.get hx;obtain⟨f0,f1,f2,f3,f4,f5⟩:=hf it (by simp);refine wpAny_pyNext_tuple_item st (show s.heap.IsTuple a its.toArray from p) (x:=u) (by simpa using hu) fun h' st' sb =>?_;have I1:Inv X pins σ H { s with heap:=h' }:=I.turned (t':=s.toks) (fun b o hb e=>(sb.2 b hb).trans e) f0 f1 f3 f4 f5;obtain⟨o,e,c,d⟩:=id st';exact⟨u,rfl,tQ (s:={ s with heap:=h' }) e c d (by decide) ⟨x,H,I1,ru,⟨rfl,fun ys hy=>by rw[I.tuple_inj hy hq];exact hx⟩,st',fun b hb=>(hf b hb).1⟩⟩
 done:=by
  intro X hP hw hK hc i pins s σ H E I hf st hg;subst hP hw hK;obtain⟨xs,hq,hx⟩:=hg;obtain⟨its,rv,p,hz⟩:=I.tuple hq;obtain⟨f0,f1,f2,f3,f4,f5⟩:=hf it (by simp);have hl:=rv.length;exact wpAny_pyNext_tuple_end (I.ok.hd hc) st (show s.heap.IsTuple a its.toArray from p) (by simp;omega) fun h' eb=>⟨rfl,I.turned (t':=s.toks) (fun b o hb e=>eb b o hb e) f0 f1 f3 f4 f5⟩
 self:=fun _ _ _ _ _ st h=>wpAny_pyIter_tupleiter st h
theorem rf {P:Program}{w:World}{K:PySem.W.Frag}{tg:Expr}(it:Addr)(lo:Int)(n:Nat):sY P w K tg (Itr lo n) [it] it (fun i h=>IsRangeIter h it (lo + (i:Nat) * 1) ((n:Int) - (i:Nat)) 1) where
 mem:=by simp
 obj:=fun i h st b hb=>by
  have e:b=it:=by simpa using hb
  subst e;exact⟨_,st,fun v z=>by
   have z':Data.fields _=Data.cell v:=z;cases z'⟩
 keep:=fun i h h' st k=>k it (by simp) _ st
 item:=by
  intro X hP hw hK hc i pins s σ H E I hf st hg;subst hP hw hK;obtain⟨f0,f1,f2,f3,f4,f5⟩:=hf it (by simp);have W:=Walks.range (prog:=X.prog) (w:=X.w) (I.ok.hd hc) it lo 1 n;refine W.item i s _ _ hg st fun v h' tk hv st' kk =>?_;obtain⟨t,rfl⟩:=hv;have I1:Inv X pins σ H { s with heap:=h',toks:=tk }:=I.turned (fun b o hb e=>kk b o (by simpa using hb) e) f0 f1 f3 f4 f5;refine⟨_,rfl,tQ (s:={ s with heap:=h',toks:=tk }) (n := "range_iterator") st' rfl rfl (by decide) ⟨.int (lo + i),H,I1,⟨t,?_⟩,⟨rfl,rfl⟩,st',fun b hb=>(hf b hb).1⟩⟩
  rw[Int.mul_one]
 done:=by
  intro X hP hw hK hc i pins s σ H E I hf st hg;subst hP hw hK;obtain⟨f0,f1,f2,f3,f4,f5⟩:=hf it (by simp);exact wpAny_pyNext_range_end (I.ok.hd hc) st (by have:n≤i:=hg;omega) fun h' eb=>⟨rfl,I.turned (t':=s.toks) (fun b o hb e=>eb b o hb e) f0 f1 f3 f4 f5⟩
 self:=fun _ _ _ _ _ st h=>wpAny_pyIter_rangeiter st h
section
variable {tg:Expr}
def Bk (K:PySem.W.Frag)(tl:TE):TI:=fun σ H R=>tl σ H fun x H1=>∃ a,x=.ref a∧(∃ xs,SqL K H1 a xs)∧R (Itl K a) H1
def BP (K:PySem.W.Frag)(tl:TE):TI:=fun σ H R=>tl σ H fun x H1=>∃ a,x=.ref a∧(∃ xs,SqT K H1 a xs)∧R (Itt K a) H1
theorem k_ {l:Expr}{tl:TE}(hl:PE X l tl):PI X tg l (Bk X.K tl):=by
 intro pins s σ H R I h;refine thn (@hl pins s σ H _ I h) fun v s1 ⟨x,H1,I1,r1,q1⟩ =>?_;obtain⟨a,e,⟨xs,hq⟩,q⟩:=q1;subst e;cases r1;obtain⟨its,rv,p,hz⟩:=I1.list hq;refine wpAny_pyIter_list p.isList ?_;refine⟨s1.heap.objs.size,[s1.heap.objs.size],_,_,H1,rfl,I1.kept (t':=s1.toks) fun b o e=>B2 _ e,uo a _,⟨_,Ca _ rfl,rfl,rfl⟩,fun b hb =>?_,q⟩;have e:b=s1.heap.objs.size:=by simpa using hb
 subst e;exact I1.fpOk (B7 _) (I1.hok.fresh (B7 _))
theorem rR {l:Expr}{tl:TE}(hl:PE X l tl):PI X tg l (BP X.K tl):=by
 intro pins s σ H R I h;refine thn (@hl pins s σ H _ I h) fun v s1 ⟨x,H1,I1,r1,q1⟩ =>?_;obtain⟨a,e,⟨xs,hq⟩,q⟩:=q1;subst e;cases r1;obtain⟨its,rv,p,hz⟩:=I1.tuple hq;refine wpAny_pyIter_tuple (show s1.heap.IsTuple a its.toArray from p) ?_;refine⟨s1.heap.objs.size,[s1.heap.objs.size],_,_,H1,rfl,I1.kept (t':=s1.toks) fun b o e=>B2 _ e,re a _,⟨_,Ca _ rfl,rfl,rfl⟩,fun b hb =>?_,q⟩;have e:b=s1.heap.objs.size:=by simpa using hb
 subst e;exact I1.fpOk (B7 _) (I1.hok.fresh (B7 _))
theorem qg {pins:List (Addr × Obj)}{σ:St}{H:Hp}{s:Shared}{R:It→Hp→Prop}{E:Value→Shared→Prop}{lo hi:Int}{t u v:Tok}{tk:Nat}(I:Inv X pins σ H s)(h1:-(2 ^ 62)≤lo)(h2:lo < 2 ^ 62)(h3:-(2 ^ 62)≤hi)(h4:hi < 2 ^ 62)
  (q:R (Itr lo (hi - lo).toNat) H):wpAny (model X.prog X.w) X.A (pyIter (.ref s.heap.objs.size)) (PIE X pins σ tg R) E { s with heap:=s.heap.push { cls:=.type "range",data:=.fields #[.int lo t,.int hi u,.int 1 v] },toks:=tk }:=by
 refine wpAny_pyIter_range (IsRange.new ..) (small_one h1 h2 h3 h4) ?_;have I1:Inv X pins σ H { s with heap:=s.heap.push { cls:=.type "range",data:=.fields #[.int lo t,.int hi u,.int 1 v] },toks:=tk }:=I.kept fun b o e=>B2 _ e
 refine⟨(s.heap.push { cls:=.type "range",data:=.fields #[.int lo t,.int hi u,.int 1 v] }).objs.size,[(s.heap.push { cls:=.type "range",data:=.fields #[.int lo t,.int hi u,.int 1 v] }).objs.size],_,_,H,rfl,
  I1.kept (t':=tk) fun b o e=>B2 _ e,rf _ lo (hi - lo).toNat,?_,fun b hb =>?_,q⟩
 ·have e1:lo + ((0:Nat):Int) * 1=lo:=by simp
  have e2:(((hi - lo).toNat:Nat):Int) - ((0:Nat):Int)=Builtin.Range.rangeSize lo hi 1:=by rw[rangeSize_one];split<;>omega
  show IsRangeIter _ _ (lo + ((0:Nat):Int) * 1) ((((hi - lo).toNat:Nat):Int) - ((0:Nat):Int)) 1;rw[e1,e2];exact Ca _ rfl
 ·have e:b=(s.heap.push { cls:=.type "range",data:=.fields #[.int lo t,.int hi u,.int 1 v] }).objs.size:=by simpa using hb
  subst e;exact I1.fpOk (B7 _) (I1.hok.fresh (B7 _))
def Bj (ta:TA):TI:=fun σ H R=>ta σ H fun vs H1=>∃ j:Int,vs=[.int j]∧-(2 ^ 62)≤j∧j < 2 ^ 62∧R (Itr 0 j.toNat) H1
def Bi (ta:TA):TI:=fun σ H R=>ta σ H fun vs H1=>∃ i j:Int,vs=[.int i,.int j]∧(-(2 ^ 62)≤i∧i < 2 ^ 62∧-(2 ^ 62)≤j∧j < 2 ^ 62)∧R (Itr i (j - i).toNat) H1
theorem cM {a:Expr}{ta:TA}{p pos:Pos}(hg:Gl X "range")(hm:X.mg "range" = none)(ha:PA X [a] ta)(hs:starEach [a] X.env=[(false,eval a X.env)]:=by rfl):PI X tg (.Call (.Name "range" p) [a] [] pos) (Bj ta):=by
 intro pins s σ H R I h;refine Call_ (fZ I hg hm boot_range (PyProof.Rows.callWith_type1 (thn (@ha pos pins s σ H _ I h) fun us s1 ⟨vs,H1,I1,r1,q1⟩ =>?_) hs rfl));obtain⟨j,e,q1,q2,q⟩:=q1;subst e;cases r1 with
 | cons r rr =>
  cases rr;obtain⟨t,rfl⟩:=r;exact call_range_1 (qg I1 (by omega) (by omega) q1 q2 (by simpa using q))
theorem uH {a b:Expr}{ta:TA}{p pos:Pos}(hg:Gl X "range")(hm:X.mg "range" = none)(ha:PA X [a,b] ta)(hs:starEach [a,b] X.env=[(false,eval a X.env),(false,eval b X.env)]:=by rfl)(hs2:starEach [b] X.env=[(false,eval b X.env)]:=by rfl):
  PI X tg (.Call (.Name "range" p) [a,b] [] pos) (Bi ta):=by
 intro pins s σ H R I h;refine Call_ (fZ I hg hm boot_range (PyProof.Rows.callWith_type1 (thn (@ha pos pins s σ H _ I h) fun us s1 ⟨vs,H1,I1,r1,q1⟩ =>?_) (by rw[hs,hs2]) (by rw[hs2];rfl)));obtain⟨i,j,e,⟨q1,q2,q3,q4⟩,q⟩:=q1;subst e;cases r1 with
 | cons r rr =>
  cases rr with
  | cons r' rr =>
   cases rr;obtain⟨t,rfl⟩:=r;obtain⟨t',rfl⟩:=r';exact call_range_2 (qg I1 q1 q2 q3 q4 q)
def BB (wi:TI)(g:TG)(tb:TS):TS:=fun D σ H=>wi σ H fun J H1=>∃ W:Nat→Nat→St→Hp→Prop,(∃ m,W 0 m σ H1)∧∀ i m σ H,W i m σ H →
 (J.stop i H∧D.nx σ H)∨(J.go i H∧∃ N:St→Hp→Prop,(∀ σ' H',N σ' H'→∃ m',m' < m∧W (i + 1) m' σ' H')∧∀ x H',J.yld i H x H'→g x σ H' fun σ2 H2=>tb { D with nx:=N,ct:=N,bk:=D.nx } σ2 H2)
def iO (fp:List Addr)(h:Heap):List (Addr × Obj):=fp.filterMap fun b=>(h.get? b).map fun o=>(b,o)
theorem cI {fp:List Addr}{h:Heap}{b:Addr}{o:Obj}(hb:b∈fp)(e:h.get? b=some o):(b,o)∈iO fp h:=List.mem_filterMap.mpr ⟨b,hb,by rw[e];rfl⟩
theorem uQ {fp:List Addr}{h:Heap}{p:Addr × Obj}(hp:p∈iO fp h):p.1∈fp∧h.get? p.1=some p.2:=by
 obtain⟨b,hb,e⟩:=List.mem_filterMap.mp hp;cases q:h.get? b with
 | none=>rw[q]at e;cases e
 | some o =>
  rw[q]at e;have e':(b,o)=p:=Option.some.inj e;subst e';exact⟨hb,q⟩
theorem Inv.pinned {pins:List (Addr × Obj)}{σ:St}{H:Hp}{s:Shared}{fp:List Addr}(I:Inv X pins σ H s)(hf:∀ b∈fp,mP X pins H b)(ho:∀ b∈fp,∃ o,s.heap.get? b=some o∧∀ v,o.data≠.cell v):Inv X (pins++iO fp s.heap) σ H s :=
 I.pins_of fun p hp=>(Cm.mp hp).elim (fun z=>I.pin p (Ce _ z)) fun z=>by
  obtain⟨hb,e⟩:=uQ z;obtain⟨f0,f1,f2,_⟩:=hf p.1 hb;obtain⟨o,e',d⟩:=ho p.1 hb;rw[e]at e';cases e';exact⟨e,f0,f1,f2,d⟩
theorem Inv.unpinned {pins pl:List (Addr × Obj)}{σ:St}{H:Hp}{s:Shared}(I:Inv X (pins++pl) σ H s):Inv X pins σ H s:=I.pins_of fun p hp=>I.pin p (Ce _ (Do _ hp))
theorem dD {iter:Expr}{body:List Stmt}{wi:TI}{g:TG}{tb:TS}{pos:Pos}(hp:PassesOwn (model X.prog X.w) X.A X.env X.xe)(hc:X.calm=true)(hi:PI X tg iter wi)(hg:PG X tg g)(hb:PSs X body tb)
  (hs:∀ x,foldedSetIterable iter X.env x=pure x:=by intro _;rfl):PS X (.For tg iter body [] pos) (BB wi g tb):=by
 intro pins s σ H D I h;refine wpAny_For (thn (@hi pins s σ H _ I h) fun v s1 h1=>thn h1 fun itv s2 h2 =>?_) hs;obtain⟨it,fp,tn,J,H2,e,I2,T,st2,f2,W,⟨m0,w0⟩,turn⟩:=h2;subst e
 -- what stays true of the iterator's objects through the loop
 have stat:∀ {H':Hp},(∀ b∈fp,H' b=none)→∀ b∈fp,mP X pins H' b:=fun hn b hb=>⟨hn b hb,(f2 b hb).2⟩;refine codeAny_forLoop_any (fun n s'=>∃ i σ' H',Inv X pins σ' H' s'∧tn i s'.heap∧(∀ b∈fp,H' b=none)∧W i n σ' H') ?_ m0 ⟨0,σ,H2,I2,st2,fun b hb=>(f2 b hb).1,w0⟩;rintro n s3 ⟨i,σ3,H3,I3,st3,fr3,w3⟩;rcases turn i n σ3 H3 w3 with⟨stop,qn⟩ | ⟨go,N,hN,step⟩
 ·refine wpAny_passesOwn hp (thn (T.done X rfl rfl rfl hc i pins s3 σ3 H3 X.xe I3 (stat fr3) st3 stop) fun r s4 ⟨hr,I4⟩ =>?_);subst hr;exact wpAny_execs_nil ⟨σ3,H3,I4,qn⟩
 ·refine wpAny_passesOwn hp (thn (T.item X rfl rfl rfl hc i pins s3 σ3 H3 X.xe I3 (stat fr3) st3 go) fun r s4 ⟨u,hr,h4⟩ =>?_);subst hr;refine wpAny_passesOwn hp (thn h4 fun _ s5 ⟨x,H5,I5,r5,y5,st5,fr5⟩ =>?_);have I5':=I5.pinned (stat fr5) (T.obj _ _ st5);refine wpAny_passesOwn hp (thn (hg _ s5 σ3 H5 x u _ I5' r5 (step x H5 y5)) fun _ s6 ⟨σ6,H6,I6,q6⟩ =>?_);refine wpAny_passesOwn hp (thn (@hb _ s6 σ6 H6 _ I6 q6) fun f s7 q7 =>?_);have again:∀ {σ7:St} {H7:Hp},Inv X (pins++iO fp s5.heap) σ7 H7 s7→N σ7 H7→∃ m,m < n∧∃ i σ' H',Inv X pins σ' H' s7∧tn i s7.heap∧(∀ b∈fp,H' b=none)∧W i m σ' H':=fun {σ7 H7} I7 n7=>by
   obtain⟨m',hm,w7⟩:=hN σ7 H7 n7;refine⟨m',hm,i + 1,σ7,H7,I7.unpinned,T.keep _ _ _ st5 fun b hb o e=>(I7.pin (b,o) (Ce _ (Ce _ (cI hb e)))).1,fun b hb =>?_,w7⟩;obtain⟨o,e,d⟩:=T.obj _ _ st5 b hb;exact (I7.pin (b,o) (Ce _ (Ce _ (cI hb e)))).2.1
  cases f with
  | next=>obtain⟨σ7,H7,I7,n7⟩:=q7;exact again I7 n7
  | cont=>obtain⟨σ7,H7,I7,n7⟩:=q7;exact again I7 n7
  | brk=>obtain⟨σ7,H7,I7,q7⟩:=q7;exact⟨σ7,H7,I7.unpinned,q7⟩
  | ret v=>obtain⟨x7,σ7,H7,I7,r7,q7⟩:=q7;exact⟨x7,σ7,H7,I7.unpinned,r7,q7⟩
end
theorem qM {K:PySem.W.Frag}{a:Addr}{xs:List V}{g:TG}{tb:TS}{D:hJ}{σ:St}{H:Hp}(Pv:Nat→St→Hp→Prop)(h0:Pv 0 σ H)(hl:∀ i σ H,i≤xs.length→Pv i σ H→SqL K H a xs)
  (hs:∀ i x σ H,xs[i]? = some x→Pv i σ H→g x σ H fun σ2 H2=>tb { D with nx:=Pv (i + 1),ct:=Pv (i + 1),bk:=D.nx } σ2 H2) (hd:∀ σ H,Pv xs.length σ H→D.nx σ H) :
  ∃ W:Nat→Nat→St→Hp→Prop,(∃ m,W 0 m σ H)∧∀ i m σ H,W i m σ H →
   ((Itl K a).stop i H∧D.nx σ H)∨((Itl K a).go i H∧∃ N:St→Hp→Prop,(∀ σ' H',N σ' H'→∃ m',m' < m∧W (i + 1) m' σ' H')∧∀ x H',(Itl K a).yld i H x H'→g x σ H' fun σ2 H2=>tb { D with nx:=N,ct:=N,bk:=D.nx } σ2 H2):=by
 refine⟨fun i m σ H=>m=xs.length - i∧i≤xs.length∧Pv i σ H,⟨xs.length,by simp,Cr _,h0⟩,?_⟩;rintro i m σ H ⟨rfl,hi,p⟩;have q:=hl i σ H hi p;by_cases hlt:i < xs.length
 ·refine .inr ⟨⟨xs,xs[i],q,by simp[hlt]⟩,Pv (i + 1),fun σ' H' p'=>⟨xs.length - (i + 1),by omega,rfl,hlt,p'⟩,fun x H' y =>?_⟩;obtain⟨e,y⟩:=y;subst e;exact hs i x σ _ (y xs q) p
 ·have e:i=xs.length:=by omega
  subst e;exact .inl ⟨⟨xs,q,B7 _⟩,hd σ H p⟩
theorem yz {K:PySem.W.Frag}{a:Addr}{xs:List V}{g:TG}{tb:TS}{D:hJ}{σ:St}{H:Hp}(Pv:Nat→St→Hp→Prop)(h0:Pv 0 σ H)(hl:∀ i σ H,i≤xs.length→Pv i σ H→SqT K H a xs)
  (hs:∀ i x σ H,xs[i]? = some x→Pv i σ H→g x σ H fun σ2 H2=>tb { D with nx:=Pv (i + 1),ct:=Pv (i + 1),bk:=D.nx } σ2 H2) (hd:∀ σ H,Pv xs.length σ H→D.nx σ H) :
  ∃ W:Nat→Nat→St→Hp→Prop,(∃ m,W 0 m σ H)∧∀ i m σ H,W i m σ H →
   ((Itt K a).stop i H∧D.nx σ H)∨((Itt K a).go i H∧∃ N:St→Hp→Prop,(∀ σ' H',N σ' H'→∃ m',m' < m∧W (i + 1) m' σ' H')∧∀ x H',(Itt K a).yld i H x H'→g x σ H' fun σ2 H2=>tb { D with nx:=N,ct:=N,bk:=D.nx } σ2 H2):=by
 refine⟨fun i m σ H=>m=xs.length - i∧i≤xs.length∧Pv i σ H,⟨xs.length,by simp,Cr _,h0⟩,?_⟩;rintro i m σ H ⟨rfl,hi,p⟩;have q:=hl i σ H hi p;by_cases hlt:i < xs.length
 ·refine .inr ⟨⟨xs,xs[i],q,by simp[hlt]⟩,Pv (i + 1),fun σ' H' p'=>⟨xs.length - (i + 1),by omega,rfl,hlt,p'⟩,fun x H' y =>?_⟩;obtain⟨e,y⟩:=y;subst e;exact hs i x σ _ (y xs q) p
 ·have e:i=xs.length:=by omega
  subst e;exact .inl ⟨⟨xs,q,B7 _⟩,hd σ H p⟩
theorem cO {lo:Int}{n:Nat}{g:TG}{tb:TS}{D:hJ}{σ:St}{H:Hp}(Pv:Nat→St→Hp→Prop)(h0:Pv 0 σ H)
  (hs:∀ i σ H,i < n→Pv i σ H→g (.int (lo + i)) σ H fun σ2 H2=>tb { D with nx:=Pv (i + 1),ct:=Pv (i + 1),bk:=D.nx } σ2 H2) (hd:∀ σ H,Pv n σ H→D.nx σ H) :
  ∃ W:Nat→Nat→St→Hp→Prop,(∃ m,W 0 m σ H)∧∀ i m σ H,W i m σ H →
   ((Itr lo n).stop i H∧D.nx σ H)∨((Itr lo n).go i H∧∃ N:St→Hp→Prop,(∀ σ' H',N σ' H'→∃ m',m' < m∧W (i + 1) m' σ' H')∧∀ x H',(Itr lo n).yld i H x H'→g x σ H' fun σ2 H2=>tb { D with nx:=N,ct:=N,bk:=D.nx } σ2 H2):=by
 refine⟨fun i m σ H=>m=n - i∧i≤n∧Pv i σ H,⟨n,by simp,Cr _,h0⟩,?_⟩;rintro i m σ H ⟨rfl,hi,p⟩;by_cases hlt:i < n
 ·refine .inr ⟨hlt,Pv (i + 1),fun σ' H' p'=>⟨n - (i + 1),by omega,rfl,hlt,p'⟩,fun x H' y =>?_⟩;obtain⟨e,y⟩:=y;subst e y;exact hs i σ _ hlt p
 ·have e:i=n:=by omega
  subst e;exact .inl ⟨B7 _,hd σ H p⟩
theorem vJ {c:TT}{tb:TS}{D:hJ}{σ:St}{H:Hp}(Pv:St→Hp→Prop)(μ:St→Hp→Nat)(h0:Pv σ H)
  (hs:∀ σ H,Pv σ H→c σ H fun b H1=>if b=true then tb { D with nx:=fun σ' H'=>Pv σ' H'∧μ σ' H' < μ σ H,ct:=fun σ' H'=>Pv σ' H'∧μ σ' H' < μ σ H,bk:=D.nx } σ H1 else D.nx σ H1)
  (mono:∀ σ H Q Q',(∀ b H1,Q b H1→Q' b H1)→c σ H Q→c σ H Q'):vU c tb D σ H:=by
 refine⟨fun m σ H=>m=μ σ H∧Pv σ H,⟨_,rfl,h0⟩,?_⟩;rintro m σ H ⟨rfl,p⟩;refine mono σ H _ _ (fun b H1 q =>?_) (hs σ H p);cases b with
 | true=>exact⟨_,fun σ' H' ⟨p',l⟩=>⟨_,l,rfl,p'⟩,q⟩
 | false=>exact q
abbrev R2:=V→V→Hp→VK→Prop
def OpR (X:Cx)(f:Value→Value→Sem Value)(r:R2):Prop :=
 ∀ (pins:List (Addr × Obj)) (s:Shared) (σ:St) (H:Hp) (x y:V) (v u:Value) (Q:VK),Inv X pins σ H s→a_ x v→a_ y u→r x y H Q →
  wpAny (model X.prog X.w) X.A (f v u) (EP X pins σ Q) X.xe s
def UnR (X:Cx)(f:Value→Sem Value)(r:V→Hp→VK→Prop):Prop :=
 ∀ (pins:List (Addr × Obj)) (s:Shared) (σ:St) (H:Hp) (x:V) (v:Value) (Q:VK),Inv X pins σ H s→a_ x v→r x H Q →
  wpAny (model X.prog X.w) X.A (f v) (EP X pins σ Q) X.xe s
def eJ (X:Cx)(f:Value)(r:List V→Hp→VK→Prop):Prop :=
 ∀ (pins:List (Addr × Obj)) (s:Shared) (σ:St) (H:Hp) (xs:List V) (us:List Value) (Q:VK),Inv X pins σ H s→aX xs us→r xs H Q →
  wpAny (model X.prog X.w) X.A (call f us) (EP X pins σ Q) X.xe s
def tOp (r:R2)(ta tb:TE):TE:=fun σ H Q=>ta σ H fun x H1=>tb σ H1 fun y H2=>r x y H2 Q
def tUn (r:V→Hp→VK→Prop)(ta:TE):TE:=fun σ H Q=>ta σ H fun x H1=>r x H1 Q
def rI (C:Int→Int→Prop)(g:Int→Int→V):R2:=fun x y H Q=>∃ i j,x=.int i∧y=.int j∧C i j∧Q (g i j) H
def rI0 (g:Int→Int→V):R2:=fun x y H Q=>∃ i j,x=.int i∧y=.int j∧Q (g i j) H
def rU (g:Int→V):V→Hp→VK→Prop:=fun x H Q=>∃ i,x=.int i∧Q (g i) H
section
variable {a b c:Expr}{ta tb tc:TE}
theorem Au (ha:PE X a ta)(hb:PE X b tb){pins:List (Addr × Obj)}{s:Shared}{σ:St}{H:Hp}{R:V→V→Hp→Prop}(I:Inv X pins σ H s)
  (h:ta σ H fun x H1=>tb σ H1 fun y H2=>R x y H2) {Q:Value→Shared→Prop} {f:Value→Value→Sem Value}
  (hf:∀ v u s2 x y H2,Inv X pins σ H2 s2→a_ x v→a_ y u→R x y H2→wpAny (model X.prog X.w) X.A (f v u) Q X.xe s2) :
  wpAny (model X.prog X.w) X.A (eval a X.env) (fun v s₁=>wpAny (model X.prog X.w) X.A (eval b X.env) (fun u s₂=>wpAny (model X.prog X.w) X.A (f v u) Q X.xe s₂) X.xe s₁) X.xe s:=by
 refine thn (@ha pins s σ H _ I h) fun v s1 ⟨x,H1,I1,r1,q1⟩ =>?_;refine thn (@hb pins s1 σ H1 _ I1 q1) fun u s2 ⟨y,H2,I2,r2,q2⟩ =>?_;exact hf v u s2 x y H2 I2 r1 r2 q2
theorem ar {op:Operator}{r:R2}(ho:OpR X (binaryOp op) r)(ha:PE X a ta)(hb:PE X b tb):PE X (.BinOp a op b pos) (tOp r ta tb):=by
 intro pins s σ H Q I h;exact wpAny_BinOp (Au ha hb I h fun v u s2 x y H2 I2 rx ry q=>@ho pins s2 σ H2 x y v u Q I2 rx ry q)
theorem yV {op:UnaryOp}{r:V→Hp→VK→Prop}(ho:UnR X (unaryOp op) r)(ha:PE X a ta):PE X (.UnaryOp op a pos) (tUn r ta):=by
 intro pins s σ H Q I h;exact UnaryOp_ (thn (@ha pins s σ H _ I h) fun v s1 ⟨x,H1,I1,r1,q1⟩=>@ho pins s1 σ H1 x v Q I1 r1 q1)
theorem opI {f:Value→Value→Sem Value}{C:Int→Int→Prop}{g:Int→Int→Int}
  (rule:∀ (i j:Int) (t u:Tok) (s:Shared) (Q:Value→Shared→Prop) (E:Value→Shared→Prop),C i j→Q (.int (g i j) s.toks) { s with toks:=s.toks + 1 }→wpAny (model X.prog X.w) X.A (f (.int i t) (.int j u)) Q E s) :
  OpR X f (rI C fun i j=>.int (g i j)):=by
 intro pins s σ H x y v u Q I rx ry h;obtain⟨i,j,rfl,rfl,hc,q⟩:=h;obtain⟨t,rfl⟩:=rx;obtain⟨t',rfl⟩:=ry;exact rule i j t t' s _ _ hc ⟨.int (g i j),H,I.tok _,⟨_,rfl⟩,q⟩
theorem A9 {f:Value→Value→Sem Value}{g:Int→Int→Int}
  (rule:∀ (i j:Int) (t u:Tok) (s:Shared) (Q:Value→Shared→Prop) (E:Value→Shared→Prop),Q (.int (g i j) s.toks) { s with toks:=s.toks + 1 }→wpAny (model X.prog X.w) X.A (f (.int i t) (.int j u)) Q E s) :
  OpR X f (rI0 fun i j=>.int (g i j)):=by
 intro pins s σ H x y v u Q I rx ry h;obtain⟨i,j,rfl,rfl,q⟩:=h;obtain⟨t,rfl⟩:=rx;obtain⟨t',rfl⟩:=ry;exact rule i j t t' s _ _ ⟨.int (g i j),H,I.tok _,⟨_,rfl⟩,q⟩
theorem zI {f:Value→Value→Sem Value}{g:Int→Int→Bool}
  (rule:∀ (i j:Int) (t u:Tok) (s:Shared) (Q:Value→Shared→Prop) (E:Value→Shared→Prop),Q (.bool (g i j)) s→wpAny (model X.prog X.w) X.A (f (.int i t) (.int j u)) Q E s) :
  OpR X f (rI0 fun i j=>.bl (g i j)):=by
 intro pins s σ H x y v u Q I rx ry h;obtain⟨i,j,rfl,rfl,q⟩:=h;obtain⟨t,rfl⟩:=rx;obtain⟨t',rfl⟩:=ry;exact rule i j t t' s _ _ ⟨.bl (g i j),H,I,rfl,q⟩
def yN (i j:Int):Prop:=0≤j∧j≤1000000∧i.natAbs < 2 ^ 64
def AE (i j:Int):Prop:=(-(2 ^ 64) < i∧i < 2 ^ 64)∨(-(2 ^ 64) < j∧j < 2 ^ 64)
theorem AE.ok {i j:Int}(h:AE i j):IntMulOk i j:=by
 rcases h with⟨h1,h2⟩|⟨h1,h2⟩
 ·exact .of_left (intBits_le_64 h1 h2)
 ·exact .of_right (intBits_le_64 h1 h2)
theorem bC:OpR X (binaryOp .Add) (rI0 fun i j=>.int (i + j)):=A9 fun _ _ _ _ _ _ _ q=>add_int q
theorem j4:OpR X (binaryOp .Sub) (rI0 fun i j=>.int (i - j)):=A9 fun _ _ _ _ _ _ _ q=>sub_int q
theorem iP:OpR X (binaryOp .Mult) (rI AE fun i j=>.int (i * j)):=opI fun _ _ _ _ _ _ _ hc q=>mul_int q hc.ok
theorem aU:OpR X (binaryOp .Mod) (rI (fun _ j=>0 < j) fun i j=>.int (i % j)):=opI fun i j _ _ _ _ _ hc q=>by
 have h1:(0:Int) < j:=hc;exact mod_int' (by omega) (by rw[Int.fmod_eq_emod_of_nonneg i (by omega)];exact q)
theorem wF:OpR X (binaryOp .Pow) (rI yN fun i j=>.int (i ^ j.toNat)):=opI fun _ _ _ _ _ _ _ hc q=>pow_int_small hc.1 hc.2.1 hc.2.2 q
theorem zG:OpR X (binaryOp .LShift) (rI yN fun i j=>.int (i * 2 ^ j.toNat)):=opI fun _ _ _ _ _ _ _ hc q=>lshift_int_small hc.1 hc.2.1 hc.2.2 q
theorem unI {f:Value→Sem Value}{g:Int→Int}
  (rule:∀ (i:Int) (t:Tok) (s:Shared) (Q:Value→Shared→Prop) (E:Value→Shared→Prop),Q (.int (g i) s.toks) { s with toks:=s.toks + 1 }→wpAny (model X.prog X.w) X.A (f (.int i t)) Q E s) :
  UnR X f (rU fun i=>.int (g i)):=by
 intro pins s σ H x v Q I rx h;obtain⟨i,rfl,q⟩:=h;obtain⟨t,rfl⟩:=rx;exact rule i t s _ _ ⟨.int (g i),H,I.tok _,⟨_,rfl⟩,q⟩
theorem vO:UnR X (unaryOp .USub) (rU fun i=>.int (-i)):=unI fun _ _ _ _ _ q=>neg_int q
end
def AR:V→V→Bool
 | .non,.non=>true | .non,.int _=>true | .int _,.non=>true | .non,.bl _=>true | .bl _,.non=>true | .non,.str _=>true | .str _,.non=>true
 | .int _,.int _=>true | .bl _,.bl _=>true | .str _,.str _=>true | .byt _,.byt _=>true
 | .int _,.str _=>true | .str _,.int _=>true | .bl _,.str _=>true | .str _,.bl _=>true
 | _,_=>false
def rEq:R2:=fun x y H Q=>AR x y=true∧Q (.bl (decide (x=y))) H
def rNe:R2:=fun x y H Q=>AR x y=true∧Q (.bl (!decide (x=y))) H
theorem ub {i j:Int}:decide (V.int i=V.int j)=(i == j):=by
 rw[Di];simp
theorem xm {i j:Bool}:decide (V.bl i=V.bl j)=(i == j):=by
 rw[Di];simp
theorem ua {i j:Str}:decide (V.str i=V.str j)=(i == j):=by
 rw[Di];simp
theorem uc {i j:Array UInt8}:decide (V.byt i=V.byt j)=(i.toList == j.toList):=by
 rw[Di];cases i;cases j;simp
section
variable {a b c:Expr}{ta tb tc:TE}
theorem bd {pins:List (Addr × Obj)}{σ:St}{H:Hp}{s:Shared}{Q:VK}{k k':Bool}(I:Inv X pins σ H s)(q:Q (.bl k) H)(e:k=k'):EP X pins σ Q (.bool k') s:=by
 subst e;exact⟨.bl k,H,I,rfl,q⟩
theorem bS:OpR X (compareOp .Eq) rEq:=by
 intro pins s σ H x y v u Q I rx ry h;obtain⟨hs,q⟩:=h;cases x with
 | non =>
  cases rx;cases y with
  | non=>cases ry;exact PySem.EqNone.eq_none_none (bd I q (by simp))
  | bl j=>cases ry;exact PySem.EqNone.eq_none_bool (bd I q (by simp))
  | int j=>obtain⟨t',rfl⟩:=ry;exact PySem.EqNone.eq_none_int (bd I q (by simp))
  | str j=>obtain⟨t',rfl⟩:=ry;exact PySem.EqNone.eq_none_str (bd I q (by simp))
  | _=>exact absurd (show false=true from hs) Ci
 | bl i =>
  cases rx;cases y with
  | non=>cases ry;exact PySem.EqNone.eq_bool_none (bd I q (by simp))
  | bl j=>cases ry;exact eq_bool (bd I q xm)
  | str j=>obtain⟨t',rfl⟩:=ry;exact PySem.EqMixed.eq_bool_str (bd I q (by simp))
  | _=>exact absurd (show false=true from hs) Ci
 | int i =>
  obtain⟨t,rfl⟩:=rx;cases y with
  | non=>cases ry;exact PySem.EqNone.eq_int_none (bd I q (by simp))
  | int j=>obtain⟨t',rfl⟩:=ry;exact eq_int (bd I q ub)
  | str j=>obtain⟨t',rfl⟩:=ry;exact PySem.EqMixed.eq_int_str (bd I q (by simp))
  | _=>exact absurd (show false=true from hs) Ci
 | str i =>
  obtain⟨t,rfl⟩:=rx;cases y with
  | non=>cases ry;exact PySem.EqNone.eq_str_none (bd I q (by simp))
  | bl j=>cases ry;exact PySem.EqMixed.eq_str_bool (bd I q (by simp))
  | int j=>obtain⟨t',rfl⟩:=ry;exact PySem.EqMixed.eq_str_int (bd I q (by simp))
  | str j=>obtain⟨t',rfl⟩:=ry;exact eq_str (bd I q ua)
  | _=>exact absurd (show false=true from hs) Ci
 | byt i =>
  obtain⟨t,rfl⟩:=rx;cases y with
  | byt j=>obtain⟨t',rfl⟩:=ry;exact PySem.W.eq_bytes (bd I q uc)
  | _=>exact absurd (show false=true from hs) Ci
 | _=>cases y<;>exact absurd (show false=true from hs) Ci
theorem jm:OpR X (compareOp .NotEq) rNe:=by
 intro pins s σ H x y v u Q I rx ry h;obtain⟨hs,q⟩:=h;cases x with
 | non =>
  cases rx;cases y with
  | non=>cases ry;exact PySem.EqNone.ne_none_none (bd I q (by simp))
  | bl j=>cases ry;exact PySem.EqNone.ne_none_bool (bd I q (by simp))
  | int j=>obtain⟨t',rfl⟩:=ry;exact PySem.EqNone.ne_none_int (bd I q (by simp))
  | str j=>obtain⟨t',rfl⟩:=ry;exact PySem.EqNone.ne_none_str (bd I q (by simp))
  | _=>exact absurd (show false=true from hs) Ci
 | bl i =>
  cases rx;cases y with
  | non=>cases ry;exact PySem.EqNone.ne_bool_none (bd I q (by simp))
  | bl j=>cases ry;exact ne_bool (bd I q (Cs not xm))
  | str j=>obtain⟨t',rfl⟩:=ry;exact PySem.EqMixed.ne_bool_str (bd I q (by simp))
  | _=>exact absurd (show false=true from hs) Ci
 | int i =>
  obtain⟨t,rfl⟩:=rx;cases y with
  | non=>cases ry;exact PySem.EqNone.ne_int_none (bd I q (by simp))
  | int j=>obtain⟨t',rfl⟩:=ry;exact ne_int (bd I q (Cs not ub))
  | str j=>obtain⟨t',rfl⟩:=ry;exact PySem.EqMixed.ne_int_str (bd I q (by simp))
  | _=>exact absurd (show false=true from hs) Ci
 | str i =>
  obtain⟨t,rfl⟩:=rx;cases y with
  | non=>cases ry;exact PySem.EqNone.ne_str_none (bd I q (by simp))
  | bl j=>cases ry;exact PySem.EqMixed.ne_str_bool (bd I q (by simp))
  | int j=>obtain⟨t',rfl⟩:=ry;exact PySem.EqMixed.ne_str_int (bd I q (by simp))
  | str j=>obtain⟨t',rfl⟩:=ry;exact ne_str (bd I q (Cs not ua))
  | _=>exact absurd (show false=true from hs) Ci
 | byt i =>
  obtain⟨t,rfl⟩:=rx;cases y with
  | byt j=>obtain⟨t',rfl⟩:=ry;exact PySem.W.ne_bytes (bd I q (Cs not uc))
  | _=>exact absurd (show false=true from hs) Ci
 | _=>cases y<;>exact absurd (show false=true from hs) Ci
theorem qi:OpR X (compareOp .Lt) (rI0 fun i j=>.bl (decide (i < j))):=zI fun _ _ _ _ _ _ _ q=>lt_int q
theorem gQ:OpR X (compareOp .LtE) (rI0 fun i j=>.bl (decide (i≤j))):=zI fun _ _ _ _ _ _ _ q=>le_int q
theorem tI:OpR X (compareOp .Gt) (rI0 fun i j=>.bl (decide (j < i))):=zI fun _ _ _ _ _ _ _ q=>gt_int q
theorem j6:OpR X (compareOp .In) (fun x y H Q=>∃ i j,x=.str i∧y=.str j∧Q (.bl (!(Builtin.Str.occurrences j i 0 j.length 1).isEmpty)) H):=by
 intro pins s σ H x y v u Q I rx ry h;obtain⟨i,j,rfl,rfl,q⟩:=h;obtain⟨t,rfl⟩:=rx;obtain⟨t',rfl⟩:=ry;exact in_str (bd I q rfl)
theorem rW:OpR X (compareOp .Is) (fun x y H Q=>y=.non∧Q (.bl (decide (x=.non))) H):=by
 intro pins s σ H x y v u Q I rx ry h;obtain⟨rfl,q⟩:=h;cases ry;refine is_none_gen (bd I q ?_);cases x<;>first
  | (cases rx;rfl)
  | (obtain⟨t,rfl⟩:=rx;rfl)
theorem oR:OpR X (compareOp .NotIn) (fun x y H Q=>∃ i j,x=.str i∧y=.str j∧Q (.bl (!(!(Builtin.Str.occurrences j i 0 j.length 1).isEmpty))) H):=by
 intro pins s σ H x y v u Q I rx ry h;obtain⟨i,j,rfl,rfl,q⟩:=h;obtain⟨t,rfl⟩:=rx;obtain⟨t',rfl⟩:=ry;exact notIn_str (bd I q rfl)
theorem aK (b:Expr){op:CmpOp}(h:op≠.In:=by decide)(h2:op≠.NotIn:=by decide):behindInMarks op b=false:=by
 have e1:(op == CmpOp.In)=false:=by cases op<;>first | rfl | exact absurd rfl h
 have e2:(op == CmpOp.NotIn)=false:=by cases op<;>first | rfl | exact absurd rfl h2
 cases b<;>simp[behindInMarks,e1,e2]
theorem fT {op:CmpOp}{r:R2}(ho:OpR X (compareOp op) r)(ha:PE X a ta)(hb:PE X b tb)(hm:behindInMarks op b=false):PE X (.Compare a [op] [b] pos) (tOp r ta tb):=by
 intro pins s σ H Q I h;exact wpAny_Compare1 (Au ha hb I h fun v u s2 x y H2 I2 rx ry q=>@ho pins s2 σ H2 x y v u Q I2 rx ry q) hm
def vV (t:TE):TT:=fun σ H Q=>t σ H fun x H'=>∃ k,x=.bl k∧Q k H'
theorem aB {op:CmpOp}{r:R2}(ho:OpR X (compareOp op) r)(ha:PE X a ta)(hb:PE X b tb)(hm:behindInMarks op b=false):PT X (.Compare a [op] [b] pos) (vV (tOp r ta tb)):=by
 intro pins s σ H Q I h;refine wpAny_isTrue_Compare1 (thn (@ha pins s σ H _ I h) fun v s1 ⟨x,H1,I1,r1,q1⟩=>thn (@hb pins s1 σ H1 _ I1 q1) fun u s2 ⟨y,H2,I2,r2,q2⟩ =>
  thn (@ho pins s2 σ H2 x y v u _ I2 r1 r2 q2) fun c s3 ⟨z,H3,I3,r3,k,e,q3⟩ =>?_) hm
 subst e;cases r3;exact wpAny_truthy_bool ⟨H3,I3,q3⟩
def vY (r r':R2)(ta tb tc:TE):TE:=fun σ H Q=>ta σ H fun x H1=>tb σ H1 fun y H2=>r x y H2 fun z H3=>∃ k,z=.bl k ∧
 (if k=true then tc σ H3 fun w' H4=>r' y w' H4 Q else Q (.bl false) H3)
theorem mh {op op':CmpOp}{r r':R2}(ho:OpR X (compareOp op) r)(ho':OpR X (compareOp op') r')(ha:PE X a ta)(hb:PE X b tb)(hc:PE X c tc)
  (hm:lastMarks [op,op'] [b,c]=false:=by with_unfolding_all rfl):PE X (.Compare a [op,op'] [b,c] pos) (vY r r' ta tb tc):=by
 intro pins s σ H Q I h;refine Compare_chain (thn (@ha pins s σ H _ I h) fun v s1 ⟨x,H1,I1,r1,q1⟩=>chain_link (thn (@hb pins s1 σ H1 _ I1 q1) fun u s2 ⟨y,H2,I2,r2,q2⟩ =>
  thn (@ho pins s2 σ H2 x y v u _ I2 r1 r2 q2) fun d s3 ⟨z,H3,I3,r3,k,e,q3⟩ =>?_)) hm
 subst e;cases r3;refine wpAny_truthy_bool ?_;cases k with
 | false=>exact ite_ff ⟨.bl false,H3,I3,rfl,q3⟩
 | true=>exact ite_tt (chain_last (thn (@hc pins s3 σ H3 _ I3 q3) fun w' s4 ⟨z',H4,I4,r4,q4⟩=>@ho' pins s4 σ H4 y z' u w' Q I4 r2 r4 q4))
theorem md {op op':CmpOp}{r r':R2}(ho:OpR X (compareOp op) r)(ho':OpR X (compareOp op') r')(ha:PE X a ta)(hb:PE X b tb)(hc:PE X c tc)
  (hm:lastMarks [op,op'] [b,c]=false:=by with_unfolding_all rfl):PT X (.Compare a [op,op'] [b,c] pos) (vV (vY r r' ta tb tc)):=by
 intro pins s σ H Q I h;refine isTrue_chain (thn (@ha pins s σ H _ I h) fun v s1 ⟨x,H1,I1,r1,q1⟩=>test_link (thn (@hb pins s1 σ H1 _ I1 q1) fun u s2 ⟨y,H2,I2,r2,q2⟩ =>
  thn (@ho pins s2 σ H2 x y v u _ I2 r1 r2 q2) fun d s3 ⟨z,H3,I3,r3,k,e,q3⟩ =>?_)) hm
 subst e;cases r3;refine wpAny_truthy_bool ?_;cases k with
 | false =>
  obtain⟨k',e',q'⟩:=q3;cases e';exact ite_ff ⟨H3,I3,q'⟩
 | true =>
  refine ite_tt (test_last (thn (@hc pins s3 σ H3 _ I3 q3) fun w' s4 ⟨z',H4,I4,r4,q4⟩=>thn (@ho' pins s4 σ H4 y z' u w' _ I4 r2 r4 q4) fun d' s5 ⟨z2,H5,I5,r5,k2,e2,q5⟩ =>?_));subst e2;cases r5;exact wpAny_truthy_bool ⟨H5,I5,q5⟩
theorem mB:(sizeLine:Nat) < 2 ^ 63:=by rw[sizeLine_eq];decide
theorem aP:OpR X (binaryOp .Add) (fun x y H Q=>∃ i j,x=.str i∧y=.str j∧i.length + j.length≤sizeLine∧Q (.str (i++j)) H):=by
 intro pins s σ H x y v u Q I rx ry h;obtain⟨i,j,rfl,rfl,hz,q⟩:=h;obtain⟨t,rfl⟩:=rx;obtain⟨t',rfl⟩:=ry;exact add_str (fun t' tk=>⟨.str (i++j),H,I.tok _,⟨_,rfl⟩,q⟩) hz
theorem iV {x:V}{us:List Value}(r:aX [x] us):∃ u,us=[u]∧a_ x u:=by
 cases r with
 | cons r1 r2=>cases r2;exact⟨_,rfl,r1⟩
theorem pQ {x y:V}{us:List Value}(r:aX [x,y] us):∃ u w',us=[u,w']∧a_ x u∧a_ y w':=by
 cases r with
 | cons r1 r2 =>
  cases r2 with
  | cons r3 r4=>cases r4;exact⟨_,_,rfl,r1,r3⟩
theorem vB (hc:X.calm=true):eJ X (.builtin "max") (fun xs H Q=>∃ i j,xs=[.int i,.int j]∧Q (.int (if j > i then j else i)) H):=by
 intro pins s σ H xs us Q I r h;obtain⟨i,j,rfl,q⟩:=h;obtain⟨u,w',rfl,⟨t,rfl⟩,⟨t',rfl⟩⟩:=pQ r;refine max_two_ints (I.ok.hd hc) fun h' tk k=>⟨_,H,I.kept k,?_,q⟩;by_cases hj:j > i
 ·rw[if_pos hj,if_pos hj];exact⟨_,rfl⟩
 ·rw[if_neg hj,if_neg hj];exact⟨_,rfl⟩
theorem vA (hc:X.calm=true):eJ X (.builtin "min") (fun xs H Q=>∃ i j,xs=[.int i,.int j]∧Q (.int (if j < i then j else i)) H):=by
 intro pins s σ H xs us Q I r h;obtain⟨i,j,rfl,q⟩:=h;obtain⟨u,w',rfl,⟨t,rfl⟩,⟨t',rfl⟩⟩:=pQ r;refine min_two_ints (I.ok.hd hc) fun h' tk k=>⟨_,H,I.kept k,?_,q⟩;by_cases hj:j < i
 ·rw[if_pos hj,if_pos hj];exact⟨_,rfl⟩
 ·rw[if_neg hj,if_neg hj];exact⟨_,rfl⟩
theorem bY:eJ X (.type "str") (fun xs H Q=>∃ i,xs=[.int i]∧i.natAbs.log2 < 1920∧Q (.str (toString i)) H):=by
 intro pins s σ H xs us Q I r h;obtain⟨i,rfl,hz,q⟩:=h;obtain⟨u,rfl,t,rfl⟩:=iV r;exact PySem.P.str_of_int hz ⟨.str _,H,I.tok _,⟨_,rfl⟩,q⟩
def B1 (K:PySem.W.Frag)(x:V)(H:Hp)(n:Nat):Prop :=
 match x with
 | .str y=>y.length≤sizeLine∧n=y.length
 | .byt y=>y.size≤sizeLine∧n=y.size
 | .ref p=>(∃ xs,SqL K H p xs∧n=xs.length)∨∃ xs,SqT K H p xs∧n=xs.length
 | _=>False
theorem bu:eJ X (.builtin "len") (fun xs H Q=>∃ x n,xs=[x]∧B1 X.K x H n∧Q (.int n) H):=by
 intro pins s σ H xs us Q I r h;obtain⟨x,n,rfl,e,q⟩:=h;obtain⟨u,rfl,rx⟩:=iV r;have hl:=mB;have hs:sizeLine=16777216:=sizeLine_eq;cases x with
 | str y =>
  obtain⟨t,rfl⟩:=rx;obtain⟨hy,e'⟩:y.length≤sizeLine∧n=y.length:=e;subst e';exact len_str (by omega) ⟨.int _,H,I.tok _,⟨_,rfl⟩,q⟩
 | byt y =>
  obtain⟨t,rfl⟩:=rx;obtain⟨hy,e'⟩:y.size≤sizeLine∧n=y.size:=e;subst e';exact PySem.W.len_bytes (by omega) ⟨.int _,H,I.tok _,⟨_,rfl⟩,q⟩
 | ref p =>
  cases rx;have e':(∃ xs,SqL X.K H p xs∧n=xs.length)∨∃ xs,SqT X.K H p xs∧n=xs.length:=e;rcases e' with⟨xs,hx,e'⟩ | ⟨xs,hx,e'⟩
  ·subst e';obtain⟨its,r',pl,hz⟩:=I.list hx;have hlen:=r'.length;exact Calls.call_len_list pl.isList (by simp only[Cj];omega) ⟨.int xs.length,H,I.tok _,⟨_,by simp only[Cj];rw[hlen]⟩,q⟩
  ·subst e';obtain⟨its,r',pl,hz⟩:=I.tuple hx;have hlen:=r'.length;exact len_tuple pl (by simp only[Cj];omega) ⟨.int xs.length,H,I.tok _,⟨_,by simp only[Cj];rw[hlen]⟩,q⟩
 | _=>exact (show False from e).elim
end
structure sZ (h:Heap)(x dx C:Addr)(mA:Str→Option Value):Prop where
 obj:h.get? x=some (PySem.W.instObj C dx)
 ns:h.Ns1 dx mA
 ne:dx≠x
theorem uV {h:Heap}{dx:Addr}{mA:Str→Option Value}(n:h.Ns1 dx mA):∃ od,h.get? dx=some od∧∀ name,PySem.W.lookIn name od=some (mA name):=by
 obtain⟨o,es,ep,ho,hd,hk,_,hm⟩:=n;refine⟨o,ho,fun name =>?_⟩;have e:=hm name;unfold nsFind findBy at e;rw[← Array.find?_toList]at e;unfold PySem.W.lookIn;rw[hd];dsimp only
 split
 ·rename_i y q
  rw[q]at e;exact Cs some e
 ·rename_i q
  rw[q]at e;have a:es.toList.any (·.refKey)=false:=by
   rw[List.any_eq_false];intro y hy;obtain⟨z,t,hkey⟩:=hk y (Array.mem_toList_iff.mp hy);simp[DictEntry.refKey,hkey]
  have a':¬ es.toList.any (·.refKey)=true:=by rw[a];exact Ci
  rw[if_neg a'];exact Cs some e
theorem sZ.look {h:Heap}{x dx C:Addr}{mA:Str→Option Value}(I:sZ h x dx C mA):∃ od,PySem.W.InstAt h x (PySem.W.instObj C dx) C (some od)∧∀ name,PySem.W.lookIn name od=some (mA name) :=
 let ⟨od,ho,hl⟩:=uV I.ns
 ⟨od,⟨I.obj,rfl,rfl,ho⟩,hl⟩
section
variable {w:World}{E:Value→Shared→Prop}{x dx C f:Addr}{mA:Str→Option Value}{name:Str}{v:Value}
theorem yw {expr:Bool}{Q:Value→Shared→Prop}(X:K.In s.heap)(I:sZ s.heap x dx C mA)(hg:PySem.W.plainGet K C name=true)(hh:PySem.W.hasDictIn K C=true)
  (ha:PySem.W.findIn K (.ref C) name=some none) (hv:mA name=some v) (hv':PySem.W.handedIn v=true) (h:Q v { s with toks:=s.toks + 1 }) :
  wpAny (model prog w) A (getAttr (.ref x) name expr) Q E s:=by
 obtain⟨od,J,hl⟩:=I.look;exact PySem.W.get_value X J (PySem.W.plainGet_of hg).1 (PySem.W.findObj_own hh ha rfl (by rw[hl,hv])) hv' h
theorem w9 {pl:Sem Bool}{Q:Value × List Value→Shared→Prop}(X:K.In s.heap)(I:sZ s.heap x dx C mA)(hg:PySem.W.plainGet K C name=true)
  (hf:PySem.W.findIn K (.ref C) name=some (some (.ref f))) (ht:PySem.W.isFn K (.ref f)=true) (hv:mA name=none) (h:Q (.ref f,[.ref x]) s) :
  wpAny (model prog w) A (getMethod (.ref x) name pl) Q E s:=by
 obtain⟨od,J,hl⟩:=I.look;exact PySem.W.method_fn X J (PySem.W.plainGet_of hg).1 (PySem.W.plainGet_of hg).2 hf (beq_iff_eq.mp ht) (by show (PySem.W.lookIn name od).map (·.isSome)=some false;rw[hl,hv];rfl) h
theorem xK {ns:List Str}{Q:Unit→Shared→Prop}(X:K.In s.heap)(I:sZ s.heap x dx C mA)
  (hs:PySem.W.findIn K (.ref C) "__setattr__" = some (some (.builtin "object.__setattr__"))) (hp:PySem.W.plainOver K C=true) (ht:PySem.W.takerIn K C name=some none) (hh:PySem.W.hasDictIn K C=true)
  (hw:PySem.Within mA ns) (hsz:ns.length≤sizeLine)
  (h:∀ h',sZ h' x dx C (fun y=>if y=name then some v else mA y)→Heap.SameBut dx s.heap h'→Q () { s with heap:=h',toks:=s.toks + 2 }) :
  wpAny (model prog w) A (setAttr (.ref x) name v) Q E s:=by
 obtain⟨od,J,hl⟩:=I.look;refine PySem.W.set_plain X J hs (PySem.W.osa_open (s:={ s with toks:=s.toks + 1 }) (r:=none) X J hp ht fun b =>?_);obtain⟨cd,hc,hd'⟩:=PySem.W.any_some hh;have hx:s.heap.get? x=some ⟨.ref C,some dx,.plain,#[]⟩:=I.obj;refine B4 (Ch (B4 (B4 (wpAny_loadPart hx (B4 (PySem.W.Looks.here (s:={ s with toks:=s.toks + 1 }) (PySem.W.looks_clsIn X hc) ?_))))));rw[hd'];refine Ch (a:=some dx) (B4 (Ch (B4 ?_)));refine wpAny_nsSet1 (s:={ s with toks:=s.toks + 1 }) I.ns fun h' hn2 hs2 =>?_;obtain⟨oD,esD,epD,hoD,hdD,hcD⟩:=hn2.count (PySem.Within.cons name v hw);refine B4 (wpAny_lookBehind hoD (by rw[hdD];exact pastItsLine_dict (Cq hcD (by rw[B5];omega))) ?_);exact Ch (h _ ⟨(hs2.2 _ (Ne.symm I.ne)).trans I.obj,hn2,I.ne⟩ hs2)
theorem wR {R:Result→Shared→Prop}{vs:List Value}{kw:List (Str × Value)}(X:K.In s.heap)(hm:PySem.W.makesIn K C=true)
  (hi:PySem.W.findIn K (.ref C) "__init__" = some (some (.ref f))) (hf:PySem.W.typeIn K (.ref f)=some (.type "function"))
  (h:codeAny (model prog w) (A.under (.builtin "type.__call__" ⟨.ref C::vs,kw⟩)) (.call (.ref f) ⟨.ref (s.heap.objs.size + 1)::vs,kw⟩) (PySem.W.InitBack (s.heap.objs.size + 1) R)
   { s with heap:=(s.heap.push PySem.W.emptyDict).push (PySem.W.instObj C s.heap.objs.size) }) :
  codeAny (model prog w) A (.call (.ref C) ⟨vs,kw⟩) R s:=by
 obtain⟨hh,g,d,t,os⟩:=s;exact PySem.W.make_core (PySem.W.makes_of X hm) (PySem.W.looks_findIn X hi) (fun self=>PySem.W.bind_fn X self hf) (.inl rfl) h
end
def ii (f:Str)(v:V):List (Str × V)→List (Str × V)
 | []=>[(f,v)]
 | (g,x)::r=>if g=f then (g,v)::r else (g,x)::ii f v r
theorem kz (f g:Str)(v:V):∀ fs:List (Str × V),(ii f v fs).lookup g=if g=f then some v else fs.lookup g
 | []=>by
  show List.lookup g [(f,v)]=_;by_cases h:g=f
  ·have hb:(g == f)=true:=beq_iff_eq.mpr h;simp only[List.lookup,hb,if_pos h]
  ·have hb:(g == f)=false:=beq_eq_false_iff_ne.mpr h;simp only[List.lookup,hb,if_neg h]
 | (k,x)::r=>by
  have ih:=kz f g v r;rw[show ii f v ((k,x)::r)=(if k=f then (k,v)::r else (k,x)::ii f v r) from rfl];by_cases hk:k=f
  ·rw[if_pos hk];by_cases h:g=k
   ·have hb:(g == k)=true:=beq_iff_eq.mpr h;simp only[List.lookup,hb,if_pos (h.trans hk)]
   ·have hb:(g == k)=false:=beq_eq_false_iff_ne.mpr h;simp only[List.lookup,hb,if_neg (fun e:g=f=>h (e.trans hk.symm))]
  ·rw[if_neg hk];by_cases h:g=k
   ·have hb:(g == k)=true:=beq_iff_eq.mpr h;simp only[List.lookup,hb,if_neg (fun e:g=f=>hk (h.symm.trans e))]
   ·have hb:(g == k)=false:=beq_eq_false_iff_ne.mpr h;simp only[List.lookup,hb];exact ih
theorem j9 (f:Str)(v:V):∀ fs:List (Str × V),f∈(ii f v fs).map (·.1)∧∀ g,g∈fs.map (·.1)→g∈(ii f v fs).map (·.1)
 | []=>⟨by simp[ii],fun g h=>by simp at h⟩
 | (k,x)::r=>by
  obtain⟨i1,i2⟩:=j9 f v r;rw[show ii f v ((k,x)::r)=(if k=f then (k,v)::r else (k,x)::ii f v r) from rfl];by_cases hk:k=f
  ·rw[if_pos hk];subst hk;exact⟨by simp,fun g h=>by simpa using h⟩
  ·rw[if_neg hk];refine⟨?_,fun g h =>?_⟩
   ·rw[Ct];exact Cp _ i1
   ·rw[Ct]at h ⊢;rcases B6.mp h with e | e
    ·exact B6.mpr (.inl e)
    ·exact Cp _ (i2 g e)
theorem kB (f:Str)(v:V):∀ fs:List (Str × V),(ii f v fs).length≤fs.length + 1
 | []=>by simp[ii]
 | (k,x)::r=>by
  have ih:=kB f v r;rw[show ii f v ((k,x)::r)=(if k=f then (k,v)::r else (k,x)::ii f v r) from rfl];by_cases hk:k=f
  ·rw[if_pos hk,B5,B5];omega
  ·rw[if_neg hk,B5,B5];omega
theorem hG.some_of {v:V}{o:Option Value}(r:hG (some v) o):∃ u,o=some u∧a_ v u:=by
 cases o with
 | none=>exact (show False from r).elim
 | some u=>exact⟨u,rfl,r⟩
theorem hG.none_of {o:Option Value}(r:hG none o):o=none:=by
 cases o with
 | none=>rfl
 | some u=>exact (show False from r).elim
theorem vg {v:V}{u:Value}(r:a_ v u):PySem.W.handedIn u=true:=by
 cases v with
 | non=>cases (show u=Value.none from r);rfl
 | bl b=>cases (show u=Value.bool b from r);rfl
 | int i=>obtain⟨t,e⟩:=(show ∃ t,u=Value.int i t from r);cases e;rfl
 | str x=>obtain⟨t,e⟩:=(show ∃ t,u=Value.str x t from r);cases e;rfl
 | byt b=>obtain⟨t,e⟩:=(show ∃ t,u=Value.bytes b t from r);cases e;rfl
 | flt b=>obtain⟨t,e⟩:=(show ∃ t,u=Value.float b t from r);cases e;rfl
 | ref a=>cases (show u=Value.ref a from r);rfl
 | ty n=>cases (show u=Value.type n from r);rfl
section
variable {P:Program}{w:World}{H':Hp}{h h':Heap}{a C dx:Addr}{fs fs':List (Str × V)}
theorem li (hok:HOk P w H h)(e:H a=some (.ins C dx fs)):∃ mA,sZ h a dx C mA∧(∀ f,hG (fs.lookup f) (mA f))∧PySem.Within mA (fs.map (·.1))∧fs.length≤1000∧H dx=some (.own a):=by
 obtain⟨d,z,ne,ob,mA,n,r,q⟩:=(show bT P w H h a (.ins C dx fs) from hok a _ e);exact⟨mA,⟨ob,n,ne⟩,r,q,z,d⟩
end
structure Cls (K:PySem.W.Frag)(C:Addr):Prop where
 pg:PySem.W.plainGet K C Str.empty=true
 hd:PySem.W.hasDictIn K C=true
 po:PySem.W.plainOver K C=true
 sa:PySem.W.findIn K (.ref C) "__setattr__" = some (some (.builtin "object.__setattr__"))
theorem Cls.get {K:PySem.W.Frag}{C:Addr}(c:Cls K C)(f:Str):PySem.W.plainGet K C f=true:=c.pg
def iU (K:PySem.W.Frag)(C:Addr)(f:Str):Prop:=PySem.W.findIn K (.ref C) f=some none
theorem iU.taker {K:PySem.W.Frag}{C:Addr}{f:Str}(n:iU K C f):PySem.W.takerIn K C f=some none:=by
 unfold PySem.W.takerIn;rw[show PySem.W.findIn K (.ref C) f=some none from n];rfl
structure AC (K:PySem.W.Frag)(C:Addr)(m:Str)(f:Addr):Prop where
 at_:PySem.W.findIn K (.ref C) m=some (some (.ref f))
 fn:PySem.W.isFn K (.ref f)=true
 kp:PySem.W.keepIn K (.ref f)=true
section
variable {pins:List (Addr × Obj)}{σ:St}{a C dx:Addr}{fs:List (Str × V)}{f:Str}{v:V}{E:Value→Shared→Prop}
theorem sQ {b:Bool}{Q:Value→Shared→Prop}(I:Inv X pins σ H s)(e:H a=some (.ins C dx fs))(c:Cls X.K C)(n:iU X.K C f)(l:fs.lookup f=some v)
  (h:∀ u s',Inv X pins σ H s'→a_ v u→Q u s'):wpAny (model X.prog X.w) A (getAttr (.ref a) f b) Q E s:=by
 obtain⟨mA,O,r,_,_,_⟩:=li I.hok e;obtain⟨u,hu,ru⟩:=hG.some_of (v:=v) (o:=mA f) (by rw[← l];exact r f);exact yw I.kIn O (c.get f) c.hd n hu (vg ru) (h u _ (I.tok _) ru)
theorem mF {m:Str}{g:Addr}{pl:Sem Bool}{Q:Value × List Value→Shared→Prop}(I:Inv X pins σ H s)(e:H a=some (.ins C dx fs))(c:Cls X.K C)(k:AC X.K C m g)(l:fs.lookup m=none)
  (h:Q (.ref g,[.ref a]) s):wpAny (model X.prog X.w) A (getMethod (.ref a) m pl) Q E s:=by
 obtain⟨mA,O,r,_,_,_⟩:=li I.hok e;have hn:mA m=none:=hG.none_of (by rw[← l];exact r m);exact w9 I.kIn O (c.get m) k.at_ k.fn hn h
theorem rA {y:V}{u:Value}{Q:Unit→Shared→Prop}(I:Inv X pins σ H s)(e:H a=some (.ins C dx fs))(c:Cls X.K C)(n:iU X.K C f)(hl:fs.length < 1000)(ry:a_ y u)
  (h:∀ s',Inv X pins σ (upd H a (.ins C dx (ii f y fs))) s'→Q () s'):wpAny (model X.prog X.w) A (setAttr (.ref a) f u) Q E s:=by
 obtain⟨mA,O,r,wi,_,ho⟩:=li I.hok e;have hz:(fs.map (·.1)).length≤sizeLine:=by rw[B_,sizeLine_eq];omega
 refine xK I.kIn O c.sa c.po n.taker c.hd wi hz fun h' O' sb=>h _ ?_;have hd:∃ o,h'.get? dx=some o:=let ⟨o,_,_,e',_⟩:=O'.ns;⟨o,e'⟩
 refine I.write (x:=a) (e:=dx) (by rw[e];exact True.intro) (.inr ho) (fun b q hb z=>(sb.2 b hb).trans z) hd ?_;refine⟨by rw[aL O.ne];exact ho,?_,O.ne,O'.obj,_,O'.ns,fun g =>?_,fun g hg =>?_⟩
 ·have:=kB f y fs;omega
 ·show hG ((ii f y fs).lookup g) (if g=f then some u else mA g);rw[kz];by_cases q:g=f
  ·rw[if_pos q,if_pos q];exact ry
  ·rw[if_neg q,if_neg q];exact r g
 ·by_cases q:g=f
  ·rw[q];exact (j9 f y fs).1
  ·refine (j9 f y fs).2 g (wi g fun z=>hg ?_);show (if g=f then some u else mA g)=none;rw[if_neg q];exact z
theorem Inv.made (I:Inv X pins σ H s):Inv X pins σ (upd (upd H s.heap.objs.size (.own (s.heap.objs.size + 1))) (s.heap.objs.size + 1) (.ins C s.heap.objs.size []))
  { s with heap:=(s.heap.push PySem.W.emptyDict).push (PySem.W.instObj C s.heap.objs.size) }:=by
 have e1:(s.heap.push PySem.W.emptyDict).get? s.heap.objs.size=some PySem.W.emptyDict:=Ca s.heap rfl;have e2:((s.heap.push PySem.W.emptyDict).push (PySem.W.instObj C s.heap.objs.size)).get? (s.heap.objs.size + 1)=some (PySem.W.instObj C s.heap.objs.size):=by
  have:=Ca (s.heap.push PySem.W.emptyDict) (o:=PySem.W.instObj C s.heap.objs.size) rfl
  rwa [CY]at this
 have e3:(s.heap.push PySem.W.emptyDict).Ns s.heap.objs.size (fun _=>none):=⟨PySem.W.emptyDict,#[],_,e1,rfl,(fun e he=>absurd he (by simp)),fun _=>rfl⟩;have I1:=I.laid (a:=s.heap.objs.size) (o:=.own (s.heap.objs.size + 1)) (h':=s.heap.push PySem.W.emptyDict) (t':=s.toks) (fun b u q=>B2 _ q) (B7 _) ⟨_,e1⟩;refine I1.laid (a:=s.heap.objs.size + 1) (o:=.ins C s.heap.objs.size []) (t':=s.toks) (fun b u q=>B2 _ q) (Nat.le_of_eq (CY _ _)) ?_;have ne:s.heap.objs.size≠s.heap.objs.size + 1:=Cn (Db _);refine⟨by rw[aL ne,aj],Cr _,ne,e2,fun _=>none,(Heap.Ns1.of_empty e3).at fun o q=>B2 _ q,fun _=>True.intro,fun y hy=>absurd rfl hy⟩
theorem yI {prog:Program}{w:World}{env:Env}{e:Expr}{f:Str}{pos:Pos}{s:Shared}{Q:Value→Shared→Prop}(hb:attributeBase e f env (eval e env)=eval e env)
  (h:wpAny (model prog w) A (eval e env) (fun o s₁=>wpAny (model prog w) A (getAttr o f true) Q E s₁) E s):wpAny (model prog w) A (eval (.Attribute e f pos) env) Q E s :=
 Attribute_any_ h (by rw[arm_eval_Attribute,hb])
end
def BC (K:PySem.W.Frag)(ta:TE)(f:Str):TE:=fun σ H Q=>ta σ H fun x H1=>∃ a C dx fs v,x=.ref a∧H1 a=some (.ins C dx fs)∧Cls K C∧iU K C f∧fs.lookup f=some v∧Q v H1
def BG (K:PySem.W.Frag)(ta tv:TE)(f:Str):TS:=fun D σ H=>tv σ H fun y H1=>ta σ H1 fun x H2=>∃ a C dx fs,x=.ref a∧H2 a=some (.ins C dx fs)∧Cls K C∧iU K C f∧fs.length < 1000 ∧
 D.nx σ (upd H2 a (.ins C dx (ii f y fs)))
section
variable {o e value:Expr}{f:Str}{pos' tpos:Pos}{ta tv:TE}
theorem wx (he:PE X e ta)(hb:attributeBase e f X.env (eval e X.env)=eval e X.env):PE X (.Attribute e f pos) (BC X.K ta f):=by
 intro pins s σ H Q I h;refine yI hb (thn (@he pins s σ H _ I h) fun u s1 ⟨x,H1,I1,rx,a,C,dx,fs,v,ex,ea,c,n,l,q⟩ =>?_);subst ex;obtain rfl:u=Value.ref a:=rx;exact sQ I1 ea c n l fun u' s2 I2 ru=>⟨v,H1,I2,ru,q⟩
theorem zB (ha:PE X o ta)(hv:PE X value tv)(hs:swapsWith value (some (.Attribute o f pos')) pos.line X.env=pure false):PS X (.Assign [.Attribute o f pos'] value pos) (BG X.K ta tv f):=by
 intro pins s σ H D I h;refine plainObj_wpAny_Assign_Attribute (thn (@hv pins s σ H _ I h) fun u s1 ⟨y,H1,I1,ry,q⟩=>thn (@ha pins s1 σ H1 _ I1 q) fun ov s2 ⟨x,H2,I2,rx,a,C,dx,fs,ex,ea,c,n,l,q2⟩ =>?_) hs;subst ex;obtain rfl:ov=Value.ref a:=rx;exact rA I2 ea c n l ry fun s3 I3=>⟨σ,_,I3,q2⟩
end
section
variable {pins:List (Addr × Obj)}{σ:St}{E:Value→Shared→Prop}{Q:Value→Shared→Prop}{c:Value}{b:Bool}
inductive fg (K:PySem.W.Frag)(H:Hp):V→Value→Prop where
 | non:fg K H .non (.type "NoneType")
 | bl (x:Bool):fg K H (.bl x) (.type "bool")
 | int (i:Int):fg K H (.int i) (.type "int")
 | str (x:Str):fg K H (.str x) (.type "str")
 | flt (x:UInt64):fg K H (.flt x) (.type "float")
 | lst {a:Addr} {xs:List V} (e:H a=some (.lst xs)):fg K H (.ref a) (.type "list")
 | frz {a:Addr} {o:Obj} {xs:List V} (e:H a=some (.frz o (.lst xs))):fg K H (.ref a) (.type "list")
 | tup {a:Addr} {xs:List V} (e:H a=some (.tup xs)):fg K H (.ref a) (.type "tuple")
 | dK {a:Addr} {kvs:List (Key × V)} (e:H a=some (.dK kvs)):fg K H (.ref a) (.type "dict")
 | dT {a:Addr} {kvs:List (List Key × V)} (e:H a=some (.dT kvs)):fg K H (.ref a) (.type "dict")
 | ins {a C dx:Addr} {fs:List (Str × V)} (e:H a=some (.ins C dx fs)) (cl:Cls K C) (ha:PySem.W.findIn K (.ref C) "__class__" = some (some (.builtin "object.__class__")))
   (hn:PySem.W.specialIn K (.builtin "object.__class__") "__get__" = some (some (.builtin "getset_descriptor.__get__"))) (htk:PySem.W.takesIn K (.builtin "object.__class__")=some true)
   (hm:PySem.W.mroIn K C (.type "object")=some true):fg K H (.ref a) (.ref C)
theorem ve {x:V}{u t:Value}(I:Inv X pins σ H s)(rx:a_ x u)(ty:fg X.K H x t)(e:PySem.W.kitOne X.K t c=some b)(h:∀ tk,Q (.bool b) { s with toks:=tk }):
  wpAny (model X.prog X.w) A (call (.builtin "isinstance") [u,c]) Q E s:=by
 cases ty with
 | non=>cases (show u=Value.none from rx);exact PySem.W.kia_one PySem.W.kitx_none I.kIn True.intro e (fun z=>nomatch z) h
 | bl y=>cases (show u=Value.bool y from rx);exact PySem.W.kia_one PySem.W.kitx_bool I.kIn True.intro e (fun z=>nomatch z) h
 | int i=>obtain⟨t,q⟩:=(show ∃ t,u=Value.int i t from rx);cases q;exact PySem.W.kia_one PySem.W.kitx_int I.kIn True.intro e (fun z=>nomatch z) h
 | str y=>obtain⟨t,q⟩:=(show ∃ t,u=Value.str y t from rx);cases q;exact PySem.W.kia_one PySem.W.kitx_str I.kIn True.intro e (fun z=>nomatch z) h
 | flt y=>obtain⟨t,q⟩:=(show ∃ t,u=Value.float y t from rx);cases q;exact PySem.W.kia_one PySem.W.kitx_float I.kIn True.intro e (fun z=>nomatch z) h
 | @lst a xs ea =>
  cases (show u=Value.ref a from rx);obtain⟨_,_,n,_,h1⟩:=(show bT X.prog X.w H s.heap a (.lst xs) from I.hok a _ ea);exact PySem.W.kia_one PySem.W.kitx_list I.kIn ⟨_,h1,rfl⟩ e (fun z=>nomatch z) h
 | @frz a ob xs ea =>
  cases (show u=Value.ref a from rx);obtain⟨_,_,_,n,_,h1⟩:=(show bT X.prog X.w H s.heap a (.frz ob (.lst xs)) from I.hok a _ ea);exact PySem.W.kia_one PySem.W.kitx_list I.kIn ⟨_,h1,rfl⟩ e (fun z=>nomatch z) h
 | @tup a xs ea =>
  cases (show u=Value.ref a from rx);obtain⟨_,_,_,p⟩:=(show bT X.prog X.w H s.heap a (.tup xs) from I.hok a _ ea);obtain⟨o,h1,h2,_⟩:=p;exact PySem.W.kia_one PySem.W.kitx_tuple I.kIn ⟨o,h1,h2⟩ e (fun z=>nomatch z) h
 | @dK a kvs ea =>
  cases (show u=Value.ref a from rx);obtain⟨_,_,vs,_,p⟩:=(show bT X.prog X.w H s.heap a (.dK kvs) from I.hok a _ ea);obtain⟨o,es,ep,h1,h2,_⟩:=p;exact PySem.W.kia_one PySem.W.kitx_dict I.kIn ⟨o,h1,h2.1⟩ e (fun z=>nomatch z) h
 | @dT a kvs ea =>
  cases (show u=Value.ref a from rx);obtain⟨_,_,xs,_,o,es,ep,h1,h2,_⟩:=(show bT X.prog X.w H s.heap a (.dT kvs) from I.hok a _ ea);exact PySem.W.kia_one PySem.W.kitx_dict I.kIn ⟨o,h1,h2.1⟩ e (fun z=>nomatch z) h
 | @ins a C dx fs ea cl ha hn htk hm =>
  cases (show u=Value.ref a from rx);obtain⟨mA,O,_⟩:=li I.hok ea;obtain⟨od,J,_⟩:=O.look;exact PySem.W.kia_one (PySem.W.kitx_own (cl.get _) cl.hd ha hn htk hm) I.kIn J e (fun z=>nomatch z) h
end
structure cy (k:Nat)(A:Around):Prop where
 hd:A.handled=none
 dp:A.depth + 3 * k + 5 < recursionLimit
 un:A.units + 16 * k + 200 < cLine
theorem cy.mono {j k:Nat}{A:Around}(r:cy k A)(h:j≤k):cy j A:=⟨r.hd,by have:=r.dp;omega,by have:=r.un;omega⟩
theorem cy.deeper {k:Nat}{A:Around}(r:cy (k + 1) A)(env:Env):cy k (A.deeper env) :=
 ⟨r.hd,by have:=r.dp;show A.depth + 1 + 3 * k + 5 < _;omega,by have:=r.un;show A.units + 3 + 16 * k + 200 < _;omega⟩
theorem sE {A:Around}{C:Addr}{us:List Value}{kw:List (Str × Value)}:(A.under (.builtin "type.__call__" ⟨.ref C::us,kw⟩)).depth=A.depth + 1:=by
 first | rfl | simp[Around.under,Code.weight,Code.isCreation,Code.isGuard,Code.isCaller,Code.frames,Code.isFrame,guardIds]
theorem sD {A:Around}{C:Addr}{us:List Value}{kw:List (Str × Value)}:(A.under (.builtin "type.__call__" ⟨.ref C::us,kw⟩)).units=A.units + 1:=by
 first | rfl | simp[Around.under,Code.cUnits,Code.frames,Code.isFrame]
theorem cy.make {k:Nat}{A:Around}(r:cy (k + 1) A)(C:Addr)(us:List Value)(kw:List (Str × Value)):cy k (A.under (.builtin "type.__call__" ⟨.ref C::us,kw⟩)) :=
 ⟨r.hd,by have:=r.dp;rw[sE];omega,by have:=r.un;rw[sD];omega⟩
theorem cy.depth {k:Nat}{A:Around}(r:cy k A):A.depth < recursionLimit:=by have:=r.dp;omega
theorem cy.units {k:Nat}{A:Around}(r:cy k A):A.units + 64 < cLine:=by have:=r.un;omega
def gk:TA:=fun _ H Q=>Q [] H
def dS (ta:TE)(tr:TA):TA:=fun σ H Q=>ta σ H fun x H1=>tr σ H1 fun xs H2=>Q (x::xs) H2
section
variable {e:Expr}{es:List Expr}{te:TE}{t:TA}
theorem af:PA X [] gk:=fun _ _ _ _ H Q I h=>Calls.spliced_nil ⟨[],H,I,.nil,h⟩
theorem aa (ha:PE X e te)(hr:PA X es t)(hs:starEach (e::es) X.env=(false,eval e X.env)::starEach es X.env:=by rfl):PA X (e::es) (dS te t):=by
 intro pos pins s σ H Q I h;rw[hs];show wpAny _ _ (spliced ((false,eval e X.env)::backTo pos (starEach es X.env))) _ _ s;refine Calls.spliced_cons (thn (@ha pins s σ H _ I h) fun u s1 ⟨x,H1,I1,r1,q1⟩ =>?_);exact thn (@hr pos pins s1 σ H1 _ I1 q1) fun us s2 ⟨xs,H2,I2,r2,q2⟩=>⟨x::xs,H2,I2,.cons r1 r2,q2⟩
def xB (t:TA):TE:=fun σ H Q=>t σ H fun xs H1=>xs.length≤sizeLine∧∀ p,H1 p=none→Q (.ref p) (upd H1 p (.tup xs))
def mU (t:TA):TE:=fun σ H Q=>t σ H fun xs H1=>xs.length≤sizeLine∧∀ p,H1 p=none→Q (.ref p) (upd H1 p (.lst xs))
theorem wn {x1}(h:PA X es t):PE X (.Tuple es x1 pos) (xB t):=by
 intro pins s σ H Q I hq;refine wpAny_Tuple_spliced (thn (@h pos pins s σ H _ I hq) fun us s1 ⟨xs,H1,I1,r,z,q⟩=>⟨by rw[← r.length];exact z,?_⟩);have hf:H1 s1.heap.objs.size=none:=I1.hok.fresh (B7 _);refine⟨.ref s1.heap.objs.size,upd H1 s1.heap.objs.size (.tup xs),I1.laid (t':=s1.toks) (fun b u e=>B2 _ e) (B7 _) ?_,rfl,q _ hf⟩;exact⟨z,us,r,⟨_,Ca _ rfl,rfl,_,rfl⟩⟩
theorem wu (h:PA X es t):PE X (.List es pos) (mU t):=by
 intro pins s σ H Q I hq;refine wpAny_List_spliced (thn (@h pos pins s σ H _ I hq) fun us s1 ⟨xs,H1,I1,r,z,q⟩=>⟨by rw[← r.length];exact z,?_⟩);have hf:H1 s1.heap.objs.size=none:=I1.hok.fresh (B7 _);refine⟨.ref s1.heap.objs.size,upd H1 s1.heap.objs.size (.lst xs),I1.laid (t':=s1.toks) (fun b u e=>B2 _ e) (B7 _) ?_,rfl,q _ hf⟩;exact⟨z,us,0,r,Ca _ rfl⟩
end
abbrev Sp:=List V→Hp→VK→XK→Prop
abbrev CXT:=List Env→Hp→Shared→XK→Value→Shared→Prop
structure nt (P:Program)(w:World)(K:PySem.W.Frag)(mg:Str→Option Value)(base:Heap)(A:Around)(outer:List Env)(s:Shared)(H:Hp):Prop where
 frames:A.frames=some outer
 mod:Mod K mg base
 bs:∀ b o,base.get? b=some o→s.heap.get? b=some o∧H b=none
 bsz:base.objs.size≤s.heap.objs.size
 funs:s.heap.FunFrames base outer
 frf:∀ b∈frs outer,H b=none
 hok:HOk P w H s.heap
 bare:AllBare s.gens
def CE (outer:List Env)(P:Program)(w:World)(H:Hp)(s:Shared)(Q:VK)(u:Value)(s':Shared):Prop :=
 ∃ v H',s'.os=s.os∧AllBare s'.gens∧Un (frs outer) [] H H' s.heap s'.heap∧HOk P w H' s'.heap∧a_ v u∧Q v H'
def CR (CX:CXT)(outer:List Env)(P:Program)(w:World)(H:Hp)(s:Shared)(Q:VK)(E:XK)(r:Result)(s':Shared):Prop :=
 match r with
 | .ok (.ret u)=>CE outer P w H s Q u s'
 | .ok _=>False
 | .error e=>CX outer H s E e s'
structure aO (P:Program)(w:World)(K:PySem.W.Frag)(mg:Str→Option Value)(base:Heap)(CX:CXT)(k:Nat)(f:Addr)(fd:FuncData)(ps:List Str)(sp:Sp):Prop where
 len:∀ vs H Q E,sp vs H Q E→vs.length=ps.length
 run:∀ (A:Around) (outer:List Env) (s:Shared) (H:Hp) (args:Args) (us:List Value) (vs:List V) (Q:VK) (E:XK),cy k A→nt P w K mg base A outer s H→BindsTo s fd args (ps.zip us)→aX vs us→sp vs H Q E →
  codeAny (model P w) A (.call (.ref f) args) (CR CX outer P w H s Q E) s
theorem aO.mono {P:Program}{w:World}{K:PySem.W.Frag}{mg:Str→Option Value}{base:Heap}{CX:CXT}{j k:Nat}{f:Addr}{fd:FuncData}{ps:List Str}{sp:Sp}(F:aO P w K mg base CX j f fd ps sp)(h:j≤k):
  aO P w K mg base CX k f fd ps sp:=⟨F.len,fun A outer s H args us vs Q E hr=>F.run A outer s H args us vs Q E (hr.mono h)⟩
theorem aO.imp {P:Program}{w:World}{K:PySem.W.Frag}{mg:Str→Option Value}{base:Heap}{CX:CXT}{k:Nat}{f:Addr}{fd:FuncData}{ps:List Str}{sp sp':Sp}(F:aO P w K mg base CX k f fd ps sp)
  (h:∀ vs H Q E,sp' vs H Q E→sp vs H Q E):aO P w K mg base CX k f fd ps sp' :=
 ⟨fun vs H Q E q=>F.len vs H Q E (h _ _ _ _ q),fun A outer s H args us vs Q E hr he hb hv hs=>F.run A outer s H args us vs Q E hr he hb hv (h _ _ _ _ hs)⟩
theorem nt.make {P:Program}{w:World}{K:PySem.W.Frag}{mg:Str→Option Value}{base:Heap}{A:Around}{outer:List Env}{s:Shared}{H:Hp}(e:nt P w K mg base A outer s H)(C:Addr)(us:List Value)(kw:List (Str × Value)):
  nt P w K mg base (A.under (.builtin "type.__call__" ⟨.ref C::us,kw⟩)) outer s H:=⟨by first | exact e.frames | (simpa[Around.under,Code.envs,Code.isFrame,pushEnvs] using e.frames),e.mod,e.bs,e.bsz,e.funs,e.frf,e.hok,e.bare⟩
section
variable {pins:List (Addr × Obj)}{σ:St}{s':Shared}
theorem Inv.env0 (I:Inv X pins σ H s):nt X.prog X.w X.K X.mg X.base X.A X.stack s H :=
 ⟨I.ok.frames,I.ok.mod,I.bs,Cq I.ok.bsz I.sz,I.stack,I.stkFree,I.hok,I.bare⟩
theorem Inv.after {Q:VK}{u:Value}(I:Inv X pins σ H s)(h:CE X.stack X.prog X.w H s Q u s'):EP X pins σ Q u s':=by
 obtain⟨v,H',os,bare,un,hok,r,q⟩:=h;obtain⟨hh,g,d,t,os'⟩:=s';obtain rfl:os'=s.os:=os;exact⟨v,H',I.call (h':=hh) (g':=g) (d':=d) (t':=t) (ch:=[]) un hok bare (fun b z=>absurd z (by simp)),r,q⟩
end
def lF (sp:Sp)(dvs:List V)(E:XK)(t:TA):TE:=fun σ H Q=>t σ H fun vs H1=>sp (vs++dvs) H1 Q E
def yQ (C:Addr)(m:Str)(sp:Sp)(dvs:List V)(E:XK)(ta:TE)(t:TA):TE:=fun σ H Q=>ta σ H fun x H1=>∃ a dx fs,x=.ref a∧H1 a=some (.ins C dx fs)∧fs.lookup m=none ∧
 t σ H1 fun vs H2=>sp (x::(vs++dvs)) H2 Q E
def yR (C:Addr)(sp:Sp)(dvs:List V)(E:XK)(t:TA):TE:=fun σ H Q=>t σ H fun vs H1=>∀ x dx,H1 x=none→H1 dx=none→dx≠x →
 sp (.ref x::(vs++dvs)) (upd (upd H1 dx (.own x)) x (.ins C dx [])) (fun v H2=>v=.non∧Q (.ref x) H2) E
def bU (K:PySem.W.Frag)(fd:FuncData)(ps:List Str)(ds:List Value):Prop :=
 ∀ (s:Shared) (us:List Value),K.In s.heap→(us++ds).length=ps.length→BindsTo s fd ⟨us,[]⟩ (ps.zip (us++ds))
theorem bU.all {K:PySem.W.Frag}{fd:FuncData}{ps:List Str}(h:∀ us:List Value,us.length=ps.length→bindArgs fd ⟨us,[]⟩=pure (ps.zip us)):bU K fd ps []:=fun s us _ hl=>by
 rw[CJ]at hl ⊢;exact .of_eq (h us hl)
def eI (CX:CXT)(X:Cx)(E:XK):Prop:=∀ (pins:List (Addr × Obj)) (σ:St) (H:Hp) (s:Shared) (e:Value) (s':Shared),Inv X pins σ H s→CX X.stack H s E e s'→X.xe e s'
section
variable {CX:CXT}{k:Nat}{f C:Addr}{fd:FuncData}{ps:List Str}{sp:Sp}{dvs:List V}{ds:List Value}{E:XK}{x m:Str}{p apos:Pos}{e o:Expr}{es:List Expr}{ta:TE}{t:TA}
theorem oK {pins:List (Addr × Obj)}{σ:St}{H:Hp}{s:Shared}{Q:VK}{us:List Value}{vs:List V}(F:aO X.prog X.w X.K X.mg X.base CX k f fd ps sp)(hr:cy k X.A)(hb:bU X.K fd ps ds)(hd:aX dvs ds)(hx:eI CX X E)
  (I:Inv X pins σ H s) (r:aX vs us) (h:sp (vs++dvs) H Q E):wpAny (model X.prog X.w) X.A (call (.ref f) us) (EP X pins σ Q) X.xe s:=by
 have r2:aX (vs++dvs) (us++ds):=r.append hd;have hl:(us++ds).length=ps.length:=by rw[← r2.length];exact F.len _ _ _ _ h
 refine wpAny_call (codeAny_mono (F.run X.A X.stack s H ⟨us,[]⟩ (us++ds) (vs++dvs) Q E hr I.env0 (hb s us I.kIn hl) r2 h) fun r s' hq =>?_);cases r with
 | error e=>exact hx pins σ H s e s' I hq
 | ok fl =>
  cases fl with
  | ret u=>exact I.after hq
  | next=>exact False.elim hq
  | brk=>exact False.elim hq
  | cont=>exact False.elim hq
theorem x8 (F:aO X.prog X.w X.K X.mg X.base CX k f fd ps sp)(hr:cy k X.A)(hg:Gl X x)(hm:X.mg x=some (.ref f))(hk:PySem.W.keepIn X.K (.ref f)=true)(hb:bU X.K fd ps ds)(hd:aX dvs ds)(hx:eI CX X E)
  (ha:PA X (e::es) t) (hdb:(x == ("__debug__" : Str))=false:=by decide) (he:starEach (e::es) X.env=(false,eval e X.env)::starEach es X.env:=by rfl) (hpl:(backTo pos (starEach es X.env)).any (·.1)=false:=by rfl) :
  PE X (.Call (.Name x p) (e::es) [] pos) (lF sp dvs E t):=by
 intro pins s σ H Q I h;refine wpAny_Call_Name_kw (fY I hg hm ?_ hdb);refine PySem.W.callWith_K (h₀:=X.base) I.ok.mod.kin hk (thn (@ha pos pins s σ H _ I h) fun us s1 ⟨vs,H1,I1,r,q⟩=>⟨I1.kIn,?_⟩) he hpl;exact oK F hr hb hd hx I1 r q
theorem wC (F:aO X.prog X.w X.K X.mg X.base CX k f fd ps sp)(hr:cy k X.A)(hg:Gl X x)(hm:X.mg x=some (.ref f))(hk:PySem.W.keepIn X.K (.ref f)=true)(hb:bU X.K fd ps ds)(hd:aX dvs ds)(hx:eI CX X E)
  (hdb:(x == ("__debug__" : Str))=false:=by decide):PE X (.Call (.Name x p) [] [] pos) (lF sp dvs E gk):=by
 intro pins s σ H Q I h;refine wpAny_Call_Name_kw (fY I hg hm ?_ hdb);exact PySem.W.callWith_K0 I.kIn hk (oK (us:=[]) F hr hb hd hx I .nil h)
theorem xZ {pl:Sem Bool}(he:PE X o ta)(c:Cls X.K C)(hm:AC X.K C m f)(F:aO X.prog X.w X.K X.mg X.base CX k f fd ps sp)(hr:cy k X.A)(hb:bU X.K fd ps ds)(hd:aX dvs ds)(hx:eI CX X E)(ha:PA X (e::es) t)
  (hst:starEach (e::es) X.env=(false,eval e X.env)::starEach es X.env:=by rfl) (hpl:(backTo pos (starEach es X.env)).any (·.1)=false:=by rfl)
  (ht:eval (.Call (.Attribute o m apos) (e::es) [] pos) X.env=(do
   let ov ← eval o X.env
   standAt apos.atName
   let (f,first) ← holding [ov] (getMethod ov m pl)
   callWith pos f first (backTo pos (starEach (e::es) X.env)) (backToKw pos (keywordEach [] X.env))):=by rfl) :
  PE X (.Call (.Attribute o m apos) (e::es) [] pos) (yQ C m sp dvs E ta t):=by
 intro pins s σ H Q I h;refine PySem.W.methodCall_KW (pl:=pl) (thn (@he pins s σ H _ I h) fun u s1 ⟨x,H1,I1,rx,a,dx,fs,ex,ea,l,q⟩ =>?_) ht;subst ex;obtain rfl:u=Value.ref a:=rx;refine mF I1 ea c hm l ?_;refine PySem.W.callWith_K (first:=[.ref a]) (h₀:=X.base) I.ok.mod.kin hm.kp (thn (@ha pos pins s1 σ H1 _ I1 q) fun us s2 ⟨vs,H2,I2,r,q2⟩=>⟨I2.kIn,?_⟩) hst hpl;exact oK (us:=.ref a::us) (vs:=.ref a::vs) F hr hb hd hx I2 (.cons rfl r) q2
structure Mk (K:PySem.W.Frag)(C f:Addr):Prop where
 makes:PySem.W.makesIn K C=true
 init:PySem.W.findIn K (.ref C) "__init__" = some (some (.ref f))
 fn:PySem.W.isFn K (.ref f)=true
 kp:PySem.W.keepIn K (.ref C)=true
theorem wj {pins:List (Addr × Obj)}{σ:St}{H:Hp}{s:Shared}{Q:VK}{us:List Value}{vs:List V}(M:Mk X.K C f)(F:aO X.prog X.w X.K X.mg X.base CX k f fd ps sp)(hr:cy (k + 1) X.A)(hb:bU X.K fd ps ds)(hd:aX dvs ds)
  (hx:eI CX X E) (I:Inv X pins σ H s) (r:aX vs us)
  (h:∀ x dx,H x=none→H dx=none→dx≠x→sp (.ref x::(vs++dvs)) (upd (upd H dx (.own x)) x (.ins C dx [])) (fun v H2=>v=.non∧Q (.ref x) H2) E) :
  wpAny (model X.prog X.w) X.A (call (.ref C) us) (EP X pins σ Q) X.xe s:=by
 have hq:=h (s.heap.objs.size + 1) s.heap.objs.size (I.hok.fresh (Dh _)) (I.hok.fresh (B7 _)) (Cn (Db _));have I2:=Inv.made (C:=C) I;have r2:aX (V.ref (s.heap.objs.size + 1)::(vs++dvs)) (Value.ref (s.heap.objs.size + 1)::(us++ds)):=.cons rfl (r.append hd);have hl:(Value.ref (s.heap.objs.size + 1)::us++ds).length=ps.length:=by
  have e:=r2.length;rw[F.len _ _ _ _ hq]at e;exact e.symm
 refine wpAny_call (wR (f:=f) I.kIn M.makes M.init (beq_iff_eq.mp M.fn) (codeAny_mono (F.run _ X.stack _ _ ⟨Value.ref (s.heap.objs.size + 1)::us,[]⟩ (Value.ref (s.heap.objs.size + 1)::(us++ds)) _ _ E (hr.make C us [])
  (I2.env0.make C us []) (hb _ (Value.ref (s.heap.objs.size + 1)::us) I2.kIn hl) r2 hq) fun r s' hq' =>?_))
 cases r with
 | error e=>exact hx pins σ _ _ e s' I2 hq'
 | ok fl =>
  cases fl with
  | ret u =>
   obtain⟨v,H',I3,rv,ev,q3⟩:=I2.after hq';subst ev;exact⟨rv,⟨V.ref (s.heap.objs.size + 1),H',I3,rfl,q3⟩⟩
  | next=>exact False.elim hq'
  | brk=>exact False.elim hq'
  | cont=>exact False.elim hq'
theorem wt (M:Mk X.K C f)(F:aO X.prog X.w X.K X.mg X.base CX k f fd ps sp)(hr:cy (k + 1) X.A)(hg:Gl X x)(hm:X.mg x=some (.ref C))(hb:bU X.K fd ps ds)(hd:aX dvs ds)(hx:eI CX X E)
  (hdb:(x == ("__debug__" : Str))=false:=by decide):PE X (.Call (.Name x p) [] [] pos) (yR C sp dvs E gk):=by
 intro pins s σ H Q I h;refine wpAny_Call_Name_kw (fY I hg hm ?_ hdb);exact PySem.W.callWith_K0 I.kIn M.kp (wj (us:=[]) M F hr hb hd hx I .nil h)
end
section
variable {CX:CXT}{k:Nat}{f C:Addr}{fd:FuncData}{ps ks:List Str}{sp:Sp}{E:XK}{x m:Str}{p apos kpos:Pos}{e o:Expr}{es:List Expr}{kws:List Keyword}{te ta:TE}{t tk:TA}{nm:Option Str}
variable {g:List Value→List Value→List Value}{gV:List V→List V→List V}
end
structure ap (N P:List Str)(sc:Scope):Prop where
 kind:sc.kind=.function
 co:sc.isCoroutine=false
 gen:sc.isGenerator=false
 nd:N.Nodup
 pre:N.take P.length=P
 par:∀ x∈P,sc.names.lookup x=some .local∨sc.names.lookup x=some .cell
 nofree:∀ y∈sc.names,y.2≠.free
theorem n5 {kindOf:Str→Option NameKind}{x:Str}:∀ {binds:List (Str × Value)} {m:Str→Option Value},(∀ v,(x,v)∉binds)→bindL kindOf binds m x=m x
 | [],_,_=>rfl
 | (n,v)::r,m,h=>by
  unfold bindL;rw[n5 fun w hw=>h w (Cp _ hw)]
  split
  ·have:x≠n:=by rintro rfl;exact h v CN
   simp[this]
  ·rfl
theorem n8 {kindOf:Str→Option NameKind}{x:Str}:∀ {binds:List (Str × Value)} {m:Str→Option Value},(∀ v,(x,v)∉binds)→bindC kindOf binds m x=m x
 | [],_,_=>rfl
 | (n,v)::r,m,h=>by
  unfold bindC;rw[n8 fun w hw=>h w (Cp _ hw)]
  split
  ·rfl
  ·have:x≠n:=by rintro rfl;exact h v CN
   simp[this]
theorem n6 {kindOf:Str→Option NameKind}{x:Str}{v:Value}:∀ {P:List Str} {vs:List Value} {i:Nat} {m:Str→Option Value},P.Nodup→P[i]? = some x→vs[i]? = some v→kindOf x=some .local →
  bindL kindOf (P.zip vs) m x=some v
 | [],_,_,_,_,h,_,_=>by simp at h
 | _::_,[],_,_,_,_,h,_=>by simp at h
 | p::P,w::vs,0,m,nd,h1,h2,hk=>by
  simp at h1 h2;subst h1;subst h2;show bindL kindOf ((p,w)::P.zip vs) m p=_;unfold bindL;rw[n5 fun v hv=>(CQ.mp nd).1 (DF hv).1,if_pos hk];simp
 | p::P,w::vs,i + 1,m,nd,h1,h2,hk=>by
  show bindL kindOf ((p,w)::P.zip vs) m x=_;unfold bindL;exact n6 (i:=i) (CQ.mp nd).2 (by simpa using h1) (by simpa using h2) hk
theorem n9 {kindOf:Str→Option NameKind}{x:Str}{v:Value}:∀ {P:List Str} {vs:List Value} {i:Nat} {m:Str→Option Value},P.Nodup→P[i]? = some x→vs[i]? = some v→kindOf x≠some .local →
  bindC kindOf (P.zip vs) m x=some v
 | [],_,_,_,_,h,_,_=>by simp at h
 | _::_,[],_,_,_,_,h,_=>by simp at h
 | p::P,w::vs,0,m,nd,h1,h2,hk=>by
  simp at h1 h2;subst h1;subst h2;show bindC kindOf ((p,w)::P.zip vs) m p=_;unfold bindC;rw[n8 fun v hv=>(CQ.mp nd).1 (DF hv).1,if_neg hk];simp
 | p::P,w::vs,i + 1,m,nd,h1,h2,hk=>by
  show bindC kindOf ((p,w)::P.zip vs) m x=_;unfold bindC;exact n9 (i:=i) (CQ.mp nd).2 (by simpa using h1) (by simpa using h2) hk
def dI (N:List Str)(vs:List V):St:=vs.map some++List.replicate (N.length - vs.length) none
def fe (CX:CXT)(P:Program)(w:World)(K:PySem.W.Frag)(mg:Str→Option Value)(base:Heap)(N:List Str)(qual:Str)(scope:Scope)(f:Addr)(cd:Value)(A:Around)(outer:List Env)(s:Shared)(H:Hp)(E:XK):Cx where
 prog:=P
 w:=w
 K:=K
 mg:=mg
 base:=base
 A:=A.deeper (envOfC qual scope s.heap.objs.size f cd)
 N:=N
 s₀:=s
 H₀:=H
 env:=envOfC qual scope s.heap.objs.size f cd
 outer:=outer
 stack:=envOfC qual scope s.heap.objs.size f cd::outer
 ex:=[]
 calm:=true
 fn:=fun _=>true
 pn:=[]
 xe:=fun e s'=>wpAny (model P w) (A.deeper (envOfC qual scope s.heap.objs.size f cd)) (leaving (envOfC qual scope s.heap.objs.size f cd) e) (fun _ s''=>CX outer H s E e s'') (fun e' s''=>CX outer H s E e' s'') s'
theorem qV {sc:Scope}{n:Nat}{x:Str}(h:sc.names.lookup x=some .cell):∃ c,(cellsFrom n sc.names []).lookup x=some c:=by
 have q:=PySem.W.cellsFrom_some sc.names n [] (.inl h);exact CO.mp q
theorem nU {CX:CXT}{P:Program}{w:World}{K:PySem.W.Frag}{mg:Str→Option Value}{base:Heap}{N ps:List Str}{qual:Str}{scope:Scope}{f:Addr}{cd:Value}{A:Around}{outer:List Env}{s s1:Shared}{H:Hp}{E:XK}{us:List Value}{vs:List V}
  (S:ap N ps scope) (hd:A.handled=none) (e0:nt P w K mg base A outer s H) (hl:vs.length=ps.length) (r:aX vs us)
  (x:InCallC s s.heap.objs.size (bindL (envOfC qual scope s.heap.objs.size f cd).kindOf (ps.zip us) fun _=>none) (cellsFrom (s.heap.objs.size + 1) scope.names []) (bindC (envOfC qual scope s.heap.objs.size f cd).kindOf (ps.zip us) fun _=>none) s1) :
  Inv (fe CX P w K mg base N qual scope f cd A outer s H E) [] (dI N vs) H s1:=by
 have hpl:ps.length≤N.length:=by have:=Cs List.length S.pre;rw[CH]at this;omega
 obtain⟨h1,tk,rfl,hk⟩:=x.done;have noA:∀ b:Addr,b∉(fe CX P w K mg base N qual scope f cd A outer s H E).ex:=fun b z=>absurd (show b∈([]:List Addr) from z) (by simp);refine⟨⟨e0.mod,S.kind,rfl,rfl,B7 _,fun y z c h1 h2 =>?_,fun y hy =>?_,fun y c _ h =>?_,fun _=>hd,Around.frames_deeper e0.frames,.inr ⟨rfl,rfl⟩,fun b z=>absurd z (noA b),e0.bs,e0.bsz,fun b _ _=>noA b,fun b z=>absurd z (noA b),e0.funs,e0.frf⟩,
  rfl,e0.bare,Un.kept hk,⟨_,x.toInCall.ns,fun i y v h1 h2 h3 =>?_⟩,fun y c h=>⟨_,x.cell y c h⟩,e0.hok.fresh (B7 _),fun y c h =>?_,fun p hp=>absurd (show p∈([]:List (Addr × Obj)) from hp) (by simp),e0.hok.kept hk,?_⟩
 ·exact name_of_addr x.apart (PySem.mem_of_lookup h1) (PySem.mem_of_lookup h2)
 ·have hy:scope.names.lookup y=some .cell∨scope.names.lookup y=some .free:=hy;rcases hy with hy | hy
  ·exact qV hy
  ·exact absurd rfl (S.nofree _ (PySem.mem_of_lookup hy))
 ·exact DM (x.above y c (PySem.mem_of_lookup h))
 ·have hi:i < vs.length:=by
   unfold dI at h2;by_cases hi:i < vs.length
   ·exact hi
   ·rw[CG (by simpa using hi)]at h2;rw[C9]at h2
    split at h2<;>cases h2
  have ha:vs[i]? = some v:=by
   unfold dI at h2;rw[Cz (by simpa using hi),CK]at h2;cases e:vs[i]? with
   | none=>rw[e]at h2;cases h2
   | some a=>rw[e]at h2;cases h2;rfl
  obtain⟨u,hu,rv⟩:=r.get ha;have hp:ps[i]? = some y:=by
   rw[← S.pre,List.getElem?_take_of_lt (by omega)];exact h1
  have ndP:ps.Nodup:=by rw[← S.pre];exact S.nd.sublist (List.take_sublist _ _)
  refine⟨u,rv,?_⟩;rcases S.par y (Cw hp) with k | k
  ·exact .inl ⟨k,n6 ndP hp hu k⟩
  ·obtain⟨c,e⟩:=qV (n:=s.heap.objs.size + 1) k;refine .inr ⟨.inl k,c,e,?_⟩;have q:=x.cell y c e;rw[n9 ndP hp hu (by show scope.names.lookup y≠_;rw[k];decide)]at q;exact q
 ·exact e0.hok.fresh (DM (x.above y c (PySem.mem_of_lookup h)))
 ·unfold dI;show _=N.length;rw[B3,B_,CZ];omega
theorem za {CX:CXT}{P:Program}{w:World}{K:PySem.W.Frag}{mg:Str→Option Value}{base:Heap}{k:Nat}{f:Addr}{name qual:Str}{params:Arguments}{body:List Stmt}{scope:Scope}{dV kV doc pm cdv ct oc:Value}{an od:Option Addr}
  {osl:Array (Option Value)} {N ps:List Str} {sp:Sp} (lk:K.lookup f=some ⟨oc,od,.func (PySem.W.fnOf name qual params body scope dV kV doc pm an cdv ct),osl⟩) (hcd:PySem.W.codeIn K cdv qual=true) (S:ap N ps scope)
  (len:∀ vs H Q E,sp vs H Q E→vs.length=ps.length)
  (hbody:∀ (A:Around) (outer:List Env) (s:Shared) (H:Hp) (vs:List V) (Q:VK) (E:XK),cy k (A.deeper (envOfC qual scope s.heap.objs.size f cdv))→sp vs H Q E →
   ∃ t,PSs (fe CX P w K mg base N qual scope f cdv A outer s H E) body t∧t { nx:=fun _ H'=>Q .non H',rt:=Q } (dI N vs) H) :
  aO P w K mg base CX (k + 1) f (PySem.W.fnOf name qual params body scope dV kV doc pm an cdv ct) ps sp:=by
 refine⟨len,fun A outer s H args us vs Q E hr e0 hb r hsp =>?_⟩;have hl:=len _ _ _ _ hsp;have KX:K.In s.heap:=e0.mod.kin.keeps fun b o e=>(e0.bs b o e).1;have lim:s.heap.NoLimit:=e0.mod.nolimit.keeps fun b o e=>(e0.bs b o e).1;have hkind:∀ y∈ps.zip us,scope.names.lookup y.1=some .local∨(scope.names.lookup y.1=some .cell∧((cellsFrom (s.heap.objs.size + 1) scope.names []).lookup y.1).isSome=true):=fun⟨n,v⟩ hy=>by
  rcases S.par n (DF hy).1 with q|q
  ·exact .inl q
  ·exact .inr ⟨q,PySem.W.cellsFrom_some _ _ _ (.inl q)⟩
 refine codeAny_call_function hr.depth (KX _ _ lk) rfl S.co S.gen rfl (PySem.W.codeRec_of KX hcd) (hb _ _ _ _ ?_);refine wpAny_newFunctionEnv_cells S.kind hkind fun env he s1 x =>?_;subst he;refine⟨lim.keeps x.toInCall.keep,codeAny_func ?_⟩;obtain⟨t,ht,hq⟩:=hbody A outer s H vs Q E (hr.deeper _) hsp;have I:Inv (fe CX P w K mg base N qual scope f cdv A outer s H E) [] (dI N vs) H s1:=nU S hr.hd e0 hl r x;refine Cv (@ht [] s1 (dI N vs) H _ I hq) (fun fl s' hs =>?_) fun e s' hs=>hs;have fin:∀ {σ':St} {H':Hp} {v:V} {u:Value},Inv (fe CX P w K mg base N qual scope f cdv A outer s H E) [] σ' H' s'→a_ v u→Q v H'→CE outer P w H s Q u s' :=
  fun {σ' H' v u} J rv q=>⟨v,H',J.os,J.bare,J.base,J.hok,rv,q⟩
 cases fl with
 | ret u =>
  obtain⟨v,σ',H',J,rv,q⟩:=hs;exact fin J rv q
 | next =>
  obtain⟨σ',H',J,q⟩:=hs;exact fin (v:=V.non) (u:=Value.none) J rfl q
 | brk =>
  obtain⟨_,_,_,q⟩:=hs;exact False.elim q
 | cont =>
  obtain⟨_,_,_,q⟩:=hs;exact False.elim q
section
variable {x:Str}{p:Pos}{e:Expr}{es:List Expr}{t:TA}{id T:String}{r:List V→Hp→VK→Prop}
def tCB (r:List V→Hp→VK→Prop)(t:TA):TE:=fun σ H Q=>t σ H fun vs H1=>r vs H1 Q
theorem ax (hc:eJ X (.builtin id) r)(hg:Gl X x)(hm:X.mg x=none)(hv:bootBuiltins x=some (.builtin id))(ha:PA X (e::es) t)(hn:x ≠ "__name__" := by decide)(hdb:(x == ("__debug__" : Str))=false:=by decide)
  (he:starEach (e::es) X.env=(false,eval e X.env)::starEach es X.env:=by rfl) (hpl:(backTo pos (starEach es X.env)).any (·.1)=false:=by rfl):PE X (.Call (.Name x p) (e::es) [] pos) (tCB r t):=by
 intro pins s σ H Q I h;refine wpAny_Call_Name_kw (fZ I hg hm hv ?_ hn hdb);exact PyProof.Rows.callWith_builtin1 (thn (@ha pos pins s σ H _ I h) fun us s1 ⟨vs,H1,I1,r1,q1⟩=>@hc pins s1 σ H1 vs us Q I1 r1 q1) he hpl
theorem bq (hc:eJ X (.type T) r)(hg:Gl X x)(hm:X.mg x=none)(hv:bootBuiltins x=some (.type T))(ha:PA X (e::es) t)(hn:x ≠ "__name__" := by decide)(hdb:(x == ("__debug__" : Str))=false:=by decide)
  (he:starEach (e::es) X.env=(false,eval e X.env)::starEach es X.env:=by rfl) (hpl:(backTo pos (starEach es X.env)).any (·.1)=false:=by rfl):PE X (.Call (.Name x p) (e::es) [] pos) (tCB r t):=by
 intro pins s σ H Q I h;refine wpAny_Call_Name_kw (fZ I hg hm hv ?_ hn hdb);exact PyProof.Rows.callWith_type1 (thn (@ha pos pins s σ H _ I h) fun us s1 ⟨vs,H1,I1,r1,q1⟩=>@hc pins s1 σ H1 vs us Q I1 r1 q1) he hpl
end
end L2
namespace HT
open PySem PyProof.Rows
section
open PySem.SeqAt
open PySem.AutoSeq1 (wpAny_loadPart')
open PySem.MeetsSeq PySem.MeetsSeq2 PySem.MeetsSeq3
end
section
variable {prog:Program}{w:World}{A:Around}{E:Value→Shared→Prop}{s:Shared}
def sIx (n d:Nat):Option Int→Nat
 | none=>d
 | some v=>if v < 0 then (v + (n:Int)).toNat else min v.toNat n
end
end HT
namespace L2
open PySem PySem.Spec PyProof.Rows
variable {H:Hp}{X:Cx}{s:Shared}{pos:Pos}{prog:Program}{A:Around}{K:PySem.W.Frag}
abbrev TO:=St→Hp→(Option Int→Hp→Prop)→Prop
def PO (X:Cx)(e:Option Expr)(t:TO):Prop :=
 ∀ (pins:List (Addr × Obj)) (s:Shared) (σ:St) (H:Hp) (Q:Option Int→Hp→Prop),Inv X pins σ H s→t σ H Q →
  wpAny (model X.prog X.w) X.A (evalPart e X.env) (fun u s'=>∃ o H',Inv X pins σ H' s'∧IsPart u o∧Q o H') X.xe s
def xC:TO:=fun _ H Q=>Q none H
def AH (t:TE):TO:=fun σ H Q=>t σ H fun x H1=>∃ i,x=.int i∧Q (some i) H1
section
variable {e:Expr}{te:TE}{lo hi:Option Expr}{tl th:TO}{p2:Pos}
theorem c_:PO X none xC:=by
 intro pins s σ H Q I h;rw[evalPart_none];exact Ch ⟨none,H,I,.none,h⟩
theorem cm (h:PE X e te):PO X (some e) (AH te):=by
 intro pins s σ H Q I hw;rw[evalPart_some];refine thn (@h pins s σ H _ I hw) fun u s1 ⟨x,H1,I1,r1,q1⟩ =>?_;obtain⟨i,rfl,q⟩:=q1;obtain⟨t,rfl⟩:=r1;exact⟨some i,H1,I1,.int i t,q⟩
def SlR (X:Cx)(r:V→Option Int→Option Int→Hp→VK→Prop):Prop :=
 ∀ (pins:List (Addr × Obj)) (s:Shared) (σ:St) (H:Hp) (x:V) (v vl vu:Value) (lo hi:Option Int) (sl:Addr) (Q:VK),Inv X pins σ H s→a_ x v→s.heap.IsSliceOf sl vl vu .none→IsPart vl lo→IsPart vu hi→r x lo hi H Q →
  ∃ T id,typeLookup (.type T) "__getitem__" = pure (some (.builtin id))∧s.TypeIs v T∧wpAny (model X.prog X.w) X.A (getItem v (.ref sl)) (EP X pins σ Q) X.xe s
def tSl (r:V→Option Int→Option Int→Hp→VK→Prop)(te:TE)(tl th:TO):TE:=fun σ H Q=>te σ H fun x H1=>tl σ H1 fun l H2=>th σ H2 fun u H3=>r x l u H3 Q
theorem ci {r:V→Option Int→Option Int→Hp→VK→Prop}(hr:SlR X r)(he:PE X e te)(hl:PO X lo tl)(hu:PO X hi th):PE X (.Subscript e (.Slice lo hi none p2) pos) (tSl r te tl th):=by
 intro pins s σ H Q I h;refine Subscript_ (thn (@he pins s σ H _ I h) fun v s1 ⟨x,H1,I1,r1,q1⟩ =>?_);refine wpAny_Slice (thn (@hl pins s1 σ H1 _ I1 q1) fun vl s2 ⟨l,H2,I2,pl,q2⟩=>thn (@hu pins s2 σ H2 _ I2 q2) fun vu s3 ⟨u,H3,I3,pu,q3⟩ =>?_);rw[evalPart_none];refine Ch ?_;have I4:Inv X pins σ H3 { s3 with heap:=s3.heap.push { cls:=.type "slice",data:=.fields #[vl,vu,.none] } }:=I3.kept (t':=s3.toks) fun b ob q=>B2 _ q
 obtain⟨T,id,hT,ht,hg⟩:=@hr pins { s3 with heap:=s3.heap.push { cls:=.type "slice",data:=.fields #[vl,vu,.none] } } σ H3 x v vl vu l u s3.heap.objs.size Q I4 r1 (Heap.IsSliceOf.new ..) pl pu q3
 show wpAny (model X.prog X.w) X.A (subscriptTail e (.Slice lo hi none p2) v (.ref s3.heap.objs.size)) (EP X pins σ Q) X.xe { s3 with heap:=s3.heap.push { cls:=.type "slice",data:=.fields #[vl,vu,.none] } }
 exact tail_any (ops:=[.ref s3.heap.objs.size,v]) ht hT hg (by with_unfolding_all rfl)
def gU (xs:List V)(lo hi:Option Int):List V:=(xs.drop (HT.sIx xs.length 0 lo)).take (HT.sIx xs.length xs.length hi - HT.sIx xs.length 0 lo)
theorem qS (xs:List V)(lo hi:Option Int):(gU xs lo hi).length≤xs.length:=by
 unfold gU;rw[CH,CT];omega
end
def ixN (n:Nat)(i:Int):Option Nat:=if 0≤i then (if i < n then some i.toNat else none) else if -(n:Int)≤i then some (i + n).toNat else none
def atI {α:Type}(xs:List α)(i:Int):Option α:=(ixN xs.length i).bind fun j=>xs[j]?
theorem tO {n:Nat}{i:Int}{j:Nat}(h:ixN n i=some j):seqIndex? i n=some j∧j < n∧-(n:Int)≤i∧i < n:=by
 unfold ixN at h;by_cases h0:0≤i
 ·rw[if_pos h0]at h;by_cases h1:i < n
  ·rw[if_pos h1]at h;have e:i.toNat=j:=Option.some.inj h;exact⟨by rw[seqIndex_of h0 h1,e],by omega,by omega,h1⟩
  ·rw[if_neg h1]at h;cases h
 ·rw[if_neg h0]at h;by_cases h1:-(n:Int)≤i
  ·rw[if_pos h1]at h;have e:(i + n).toNat=j:=Option.some.inj h;exact⟨by rw[seqIndex_neg (by omega) h1,e],by omega,h1,by omega⟩
  ·rw[if_neg h1]at h;cases h
theorem pK {α:Type}{xs:List α}{i:Int}{v:α}(h:atI xs i=some v):∃ j,seqIndex? i xs.length=some j∧xs[j]? = some v∧j < xs.length∧-(xs.length:Int)≤i∧i < xs.length:=by
 unfold atI at h;cases e:ixN xs.length i with
 | none=>rw[e]at h;cases h
 | some j =>
  rw[e]at h;obtain⟨h1,h2,h3,h4⟩:=tO e;exact⟨j,h1,h,h2,h3,h4⟩
theorem dH {α:Type}{xs:List α}{j:Nat}{v:α}(h:xs[j]? = some v):atI xs (j:Int)=some v:=by
 have hj:j < xs.length:=(Ck.mp h).1;have e:ixN xs.length (j:Int)=some j:=by
  unfold ixN;rw[if_pos (by omega),if_pos (by omega)];simp
 unfold atI;rw[e];exact h
def ug (b:Expr):Prop:=∀ o i,subscripted b false o i=operate [o,i] (getItem o i)
def IxR (X:Cx)(r:R2):Prop :=
 ∀ (value slice:Expr) (pins:List (Addr × Obj)) (s:Shared) (σ:St) (H:Hp) (x y:V) (v u:Value) (Q:VK),Inv X pins σ H s→a_ x v→a_ y u→r x y H Q →
  subscripted slice false v u=operate [v,u] (getItem v u)→wpAny (model X.prog X.w) X.A (subscriptTail value slice v u) (EP X pins σ Q) X.xe s
def MtR (X:Cx)(id:String)(r:V→List V→Hp→VK→Prop):Prop :=
 ∀ (pins:List (Addr × Obj)) (s:Shared) (σ:St) (H:Hp) (x:V) (xs:List V) (v:Value) (us:List Value) (Q:VK),Inv X pins σ H s→a_ x v→aX xs us→r x xs H Q →
  wpAny (model X.prog X.w) X.A (call (.builtin id) (v::us)) (EP X pins σ Q) X.xe s
section
variable {a b:Expr}{ta tb:TE}
theorem aq {r:R2}(hr:IxR X r)(ha:PE X a ta)(hb:PE X b tb)(hs:ug b):PE X (.Subscript a b pos) (tOp r ta tb):=by
 intro pins s σ H Q I h;exact Subscript_ (Au ha hb I h fun v u s2 x y H2 I2 rx ry q=>hr a b pins s2 σ H2 x y v u Q I2 rx ry q (hs _ _))
def BK (K:PySem.W.Frag):R2:=fun x y H Q=>∃ p xs i v,x=.ref p∧y=.int i∧SqL K H p xs∧atI xs i=some v∧Q v H
def AU (K:PySem.W.Frag):R2:=fun x y H Q=>∃ p xs i v,x=.ref p∧y=.int i∧SqT K H p xs∧atI xs i=some v∧Q v H
def BJ:R2:=fun x y H Q=>∃ z i c,x=.str z∧y=.int i∧z.length≤sizeLine∧atI z.cps.toList i=some c∧Q (.str ⟨#[c]⟩) H
theorem ao:IxR X (BK X.K):=by
 intro value slice pins s σ H x y v u Q I rx ry h hs;obtain⟨p,xs,i,z,rfl,rfl,hq,he,q⟩:=h;cases rx;obtain⟨t,rfl⟩:=ry;obtain⟨its,r,pl,hz⟩:=I.list hq;obtain⟨j,h1,h2,h3,h4,h5⟩:=pK he;obtain⟨w,ew,rw'⟩:=r.get h2;have hl:=r.length;have hn:=mB;have fin:EP X pins σ Q w s:=⟨z,H,I,rw',q⟩;by_cases h0:0≤i
 ·have hj:i.toNat=j:=by
   rw[seqIndex_of h0 h5]at h1;exact Option.some.inj h1
  exact item_listR pl.isList h0 (by omega) (by rw[hj];simpa using ew) fin hs
 ·have hj:(i + (its.toArray.size:Int)).toNat=j:=by
   rw[seqIndex_neg (by omega) h4]at h1;rw[Cj,← hl];exact Option.some.inj h1
  exact subscriptTail_builtinR (x:=w) pl.isList.typeIs slot_list_getitem.lookup
   (wpAny_getItem_list_neg (Q:=fun r s'=>r=w∧EP X pins σ Q r s') pl.isList (by omega) (by rw[Cj]<;>omega) (by omega) (by rw[hj];simpa using ew) ⟨rfl,fin⟩) hs
theorem bg:IxR X (AU X.K):=by
 intro value slice pins s σ H x y v u Q I rx ry h hs;obtain⟨p,xs,i,z,rfl,rfl,hq,he,q⟩:=h;cases rx;obtain⟨t,rfl⟩:=ry;obtain⟨its,r,pl,hz⟩:=I.tuple hq;obtain⟨j,h1,h2,h3,h4,h5⟩:=pK he;obtain⟨w,ew,rw'⟩:=r.get h2;have hl:=r.length;have hn:=mB;have fin:EP X pins σ Q w s:=⟨z,H,I,rw',q⟩;exact subscriptTail_builtinR (x:=w) pl.typeIs slot_tuple_getitem.lookup
  (getItem_tuple (j:=j) (Q:=fun r s'=>r=w∧EP X pins σ Q r s') pl (by omega) (by omega) (by rw[Cj,← hl];exact h1) (by simpa using ew) ⟨rfl,fin⟩) hs
theorem eE:IxR X BJ:=by
 intro value slice pins s σ H x y v u Q I rx ry h hs;obtain⟨z,i,c,rfl,rfl,hz,he,q⟩:=h;obtain⟨t,rfl⟩:=rx;obtain⟨t',rfl⟩:=ry;obtain⟨j,h1,h2,h3,h4,h5⟩:=pK he;have hl:z.cps.toList.length=z.length:=by simp[Str.length]
 rw[hl]at h1 h4 h5;have hn:=mB;exact tail_any (typeIs_str s z t) slot_str_getitem.lookup (getItem_str (c:=c) (by
  have e1:decide (i < -(2 ^ 63:Int))=false:=Cg (by omega);have e2:decide (i ≥ 2 ^ 63)=false:=Cg (by omega);rw[e1,e2,Bool.or_false]) (by rw[h1];simpa using h2) ⟨.str ⟨#[c]⟩,H,I.tok _,⟨_,rfl⟩,q⟩) hs
theorem sC (its:List Value)(n j:Nat)(u:Value):Obj.mapSeq (·.setIfInBounds j u) { cls:=.type "list",data:=.seq its.toArray n }={ cls:=.type "list",data:=.seq (its.set j u).toArray n }:=by
 simp[Obj.mapSeq]
theorem Inv.lst {pins:List (Addr × Obj)}{σ:St}{H:Hp}{s:Shared}{p:Addr}{xs:List V}(I:Inv X pins σ H s)(h:H p=some (.lst xs)):
  ∃ (its:List Value) (n:Nat),aX xs its∧s.heap.get? p=some { cls:=.type "list",data:=.seq its.toArray n }∧xs.length≤sizeLine:=by
 obtain⟨z,its,n,r,e⟩:=I.hok p _ h;exact⟨its,n,r,e,z⟩
theorem Inv.lstUpd {pins:List (Addr × Obj)}{σ:St}{H:Hp}{s:Shared}{p:Addr}{xs ys:List V}{its its':List Value}{n n':Nat}{f:Obj→Obj}(I:Inv X pins σ H s)(h:H p=some (.lst xs))
  (ho:s.heap.get? p=some { cls:=.type "list",data:=.seq its.toArray n }) (hf:f { cls:=.type "list",data:=.seq its.toArray n }={ cls:=.type "list",data:=.seq its'.toArray n' }) (r:aX ys its') (hz:ys.length≤sizeLine) (t:Nat) :
  Inv X pins σ (upd H p (.lst ys)) { s with heap:=s.heap.update p f,toks:=t }:=by
 have e:(s.heap.update p f).get? p=some { cls:=.type "list",data:=.seq its'.toArray n' }:=by
  rw[C7 f ho (by rw[hf]<;>rfl),hf]
 refine I.write (x:=p) (e:=p) (by rw[h];trivial) (.inl rfl) (fun b u hb q=>(Cu _ _ (Ne.symm hb)).trans q) ⟨_,e⟩ ?_;exact⟨hz,its',n',r,e⟩
def AT:V→V→V→Hp→(Hp→Prop)→Prop:=fun o i v H Q=>∃ p xs k j,o=.ref p∧i=.int k∧H p=some (.lst xs)∧ixN xs.length k=some j∧Q (upd H p (.lst (xs.set j v)))
theorem lO:Bv X AT:=by
 intro pins s σ H o i v ov iv u Q I ro ri rv h;obtain⟨p,xs,k,j,rfl,rfl,hp,hj,q⟩:=h;cases ro;obtain⟨t,rfl⟩:=ri;obtain⟨its,n,r,ho,hz⟩:=I.lst hp;obtain⟨h1,h2,h3,h4⟩:=tO hj;have hl:=r.length;have hn:=mB;have I':Inv X pins σ (upd H p (.lst (xs.set j v))) { s with heap:=s.heap.update p (Obj.mapSeq (·.setIfInBounds j u)) } :=
  I.lstUpd hp ho (sC its n j u) (r.set rv j) (by rw[List.length_set];exact hz) s.toks
 by_cases h0:0≤k
 ·have hk:k.toNat=j:=by
   rw[seqIndex_of h0 h4]at h1;exact Option.some.inj h1
  exact PySem.W.ki_setAt ho h0 (by omega) (by rw[Cj,← hl];exact h4) (by rw[hk];exact⟨_,I',q⟩)
 ·have hk:(k + (its.toArray.size:Int)).toNat=j:=by
   rw[seqIndex_neg (by omega) h3]at h1;rw[Cj,← hl];exact Option.some.inj h1
  exact PySem.W.ki_setBack ho (by omega) (by rw[Cj,← hl];exact h3) (by omega) (by rw[hk];exact⟨_,I',q⟩)
theorem oq (lo hi:Option Int)(n:Nat):(sliceBounds lo hi none n).1=((HT.sIx n 0 lo:Nat):Int)∧(sliceBounds lo hi none n).2.1=((HT.sIx n n hi:Nat):Int)∧(sliceBounds lo hi none n).2.2=1:=by
 refine⟨?_,?_,rfl⟩
 ·cases lo with
  | none=>simp[sliceBounds,HT.sIx]
  | some i =>
   simp only[sliceBounds,HT.sIx,Option.getD_none,show (1:Int) > 0 by decide,if_true];by_cases h:i < 0
   ·simp only[h,if_true]<;>omega
   ·simp only[h,if_false]<;>omega
 ·cases hi with
  | none=>simp[sliceBounds,HT.sIx]
  | some i =>
   simp only[sliceBounds,HT.sIx,Option.getD_none,show (1:Int) > 0 by decide,if_true];by_cases h:i < 0
   ·simp only[h,if_true]<;>omega
   ·simp only[h,if_false]<;>omega
theorem mX (its:List Value)(lo hi:Option Int):slicePick its.toArray lo hi none=((its.drop (HT.sIx its.length 0 lo)).take (HT.sIx its.length its.length hi - HT.sIx its.length 0 lo)).toArray:=by
 obtain⟨h1,h2,h3⟩:=oq lo hi its.toArray.size;unfold slicePick;rw[h1,h2,h3];simp only[sliceRange_one,pick_run,Cj]<;>rfl
def BI (K:PySem.W.Frag):V→Option Int→Option Int→Hp→VK→Prop:=fun x lo hi H Q=>∃ a xs,x=.ref a∧SqL K H a xs∧∀ p,H p=none→Q (.ref p) (upd H p (.lst (gU xs lo hi)))
theorem ot:SlR X (BI X.K):=by
 intro pins s σ H x v vl vu lo hi sl Q I rx hs pl pu h;obtain⟨a,xs,rfl,hx,q⟩:=h;cases rx;obtain⟨its,r,ht,hz⟩:=I.list hx;have hlen:=r.length;refine⟨"list",_,slot_list_getitem.lookup,ht.isList.typeIs,?_⟩
 refine wpAny_getItem_list_slice ht.isList hs pl pu .none (by simp) ?_ (by rw[Cj]<;>omega);rw[mX,← hlen];refine⟨.ref s.heap.objs.size,_,I.laid (t':=s.toks) (o:=.lst (gU xs lo hi)) (fun b ob q=>B2 _ q) (B7 _) ?_,rfl,q _ (I.hok.fresh (B7 _))⟩;exact⟨Cq (qS xs lo hi) hz,_,0,(r.drop (HT.sIx xs.length 0 lo)).take (HT.sIx xs.length xs.length hi - HT.sIx xs.length 0 lo),Ca _ rfl⟩
def eR:V→Bool
 | .non=>true
 | .bl _=>true
 | .int _=>true
 | .str _=>true
 | _=>false
def eqV:V→V→Bool
 | .non,.non=>true
 | .bl a,.bl b=>a == b
 | .bl a,.int b=>(if a then 1 else 0) == b
 | .int a,.bl b=>a == (if b then 1 else 0)
 | .int a,.int b=>a == b
 | .str a,.str b=>a == b
 | _,_=>false
theorem Ah {A:Around}{s:Shared}{y x:V}{u v:Value}(ry:a_ y u)(rx:a_ x v)(fy:eR y=true)(fx:eR x=true):SeqAt.EqAt A s u v (eqV y x):=by
 cases y with
 | non =>
  cases ry;cases x with
  | non=>cases rx;exact SeqAt.EqAt.same _
  | bl b=>cases rx;exact SeqAt.EqAt.none_bool b
  | int b=>obtain⟨t,rfl⟩:=rx;exact SeqAt.EqAt.none_int b t
  | str b=>obtain⟨t,rfl⟩:=rx;exact SeqAt.EqAt.none_str b t
  | _=>exact absurd (show false=true from fx) Ci
 | bl a =>
  cases ry;cases x with
  | non=>cases rx;exact SeqAt.EqAt.bool_none a
  | bl b=>cases rx;exact SeqAt.EqAt.bool_bool a b
  | int b=>obtain⟨t,rfl⟩:=rx;exact SeqAt.EqAt.bool_int a b t
  | str b=>obtain⟨t,rfl⟩:=rx;exact SeqAt.EqAt.bool_str a b t
  | _=>exact absurd (show false=true from fx) Ci
 | int a =>
  obtain⟨t',rfl⟩:=ry;cases x with
  | non=>cases rx;exact SeqAt.EqAt.int_none a t'
  | bl b=>cases rx;exact SeqAt.EqAt.int_bool a t' b
  | int b=>obtain⟨t,rfl⟩:=rx;exact SeqAt.EqAt.int_int a t' b t
  | str b=>obtain⟨t,rfl⟩:=rx;exact SeqAt.EqAt.int_str a t' b t
  | _=>exact absurd (show false=true from fx) Ci
 | str a =>
  obtain⟨t',rfl⟩:=ry;cases x with
  | non=>cases rx;exact SeqAt.EqAt.str_none a t'
  | bl b=>cases rx;exact SeqAt.EqAt.str_bool a t' b
  | int b=>obtain⟨t,rfl⟩:=rx;exact SeqAt.EqAt.str_int a t' b t
  | str b=>obtain⟨t,rfl⟩:=rx;exact SeqAt.EqAt.str_str a t' b t
  | _=>exact absurd (show false=true from fx) Ci
 | _=>exact absurd (show false=true from fy) Ci
def eqU (x:V)(u:Value):Bool:=match u with
 | .none=>eqV .non x
 | .bool b=>eqV (.bl b) x
 | .int i _=>eqV (.int i) x
 | .str z _=>eqV (.str z) x
 | _=>false
theorem pC {x y:V}{u:Value}(r:a_ y u)(f:eR y=true):eqU x u=eqV y x:=by
 cases y with
 | non=>cases r;rfl
 | bl b=>cases r;rfl
 | int i=>obtain⟨t,rfl⟩:=r;rfl
 | str z=>obtain⟨t,rfl⟩:=r;rfl
 | _=>exact absurd (show false=true from f) Ci
theorem pL {x:V}:∀ {xs:List V} {us:List Value},aX xs us→xs.all eR=true→us.any (eqU x)=xs.any fun y=>eqV y x
 | _,_,.nil,_=>rfl
 | y::xs,u::us,.cons r t,f=>by
  rw[DK,Cy]at f;rw[DD,DD,pC r f.1,pL t f.2]
theorem gT {A:Around}{s:Shared}{x:V}{v:Value}(rx:a_ x v)(fx:eR x=true):∀ {xs:List V} {us:List Value},aX xs us→xs.all eR=true→∀ u∈us,SeqAt.EqAt A s u v (eqU x u)
 | _,_,.nil,_=>fun u hu=>by cases hu
 | y::xs,u::us,.cons r t,f=>fun u' hu=>by
  rw[DK,Cy]at f;rcases B6.mp hu with rfl | hu
  ·rw[pC r f.1];exact Ah r rx f.1 fx
  ·exact gT rx fx t f.2 u' hu
def inV (x:V)(xs:List V):Bool:=xs.any fun y=>eqV y x
def rIn (K:PySem.W.Frag)(neg:Bool):R2:=fun x y H Q=>∃ p xs,y=.ref p∧(SqL K H p xs∨SqT K H p xs)∧eR x=true∧xs.all eR=true∧Q (.bl (if neg then !inV x xs else inV x xs)) H
theorem uL:OpR X (compareOp .In) (rIn X.K false):=by
 intro pins s σ H x y v u Q I rx ry h;obtain⟨p,xs,rfl,hq,fx,fs,q⟩:=h;cases ry;rcases hq with hq | hq
 ·obtain⟨its,r,pl,hz⟩:=I.list hq;refine SeqAt.in_listAt (eqU x) pl.isList (fun w hw=>gT rx fx r fs w (by simpa using hw)) ⟨.bl _,H,I,rfl,?_⟩;rw[show its.toArray.any (eqU x)=its.any (eqU x) by simp,pL r fs];exact q
 ·obtain⟨its,r,pl,hz⟩:=I.tuple hq;refine SeqAt.in_tupleAt (eqU x) pl (fun w hw=>gT rx fx r fs w (by simpa using hw)) ⟨.bl _,H,I,rfl,?_⟩;rw[show its.toArray.any (eqU x)=its.any (eqU x) by simp,pL r fs];exact q
theorem pH:eJ X (.type "list") (fun xs H Q=>∃ p ys,xs=[.ref p]∧(SqL X.K H p ys∨SqT X.K H p ys)∧∀ l,H l=none→Q (.ref l) (upd H l (.lst ys))):=by
 intro pins s σ H xs us Q I r h;obtain⟨p,ys,rfl,hq,q⟩:=h;obtain⟨u,rfl,rx⟩:=iV r;cases rx;have fin:∀ (its:List Value),aX ys its→ys.length≤sizeLine→∀ (h':Heap) (c':Nat),(∀ b o',s.heap.get? b=some o'→h'.get? b=some o') →
   h'.get? s.heap.objs.size=some { cls:=.type "list",dict:=none,data:=.seq its.toArray c',slots := #[] }→EP X pins σ Q (.ref s.heap.objs.size) { s with heap:=h' }:=fun its r' hz h' c' kp e =>
  ⟨.ref s.heap.objs.size,_,I.laid (t':=s.toks) kp (B7 _) (show bT X.prog X.w _ h' _ (.lst ys) from⟨hz,its,c',r',e⟩),rfl,q _ (I.hok.fresh (B7 _))⟩
 rcases hq with hq|hq
 ·obtain⟨its,r',pl,hz⟩:=I.list hq;have hlen:=r'.length;obtain⟨o,ho,hc,n,hd⟩:=pl.isList;exact call_list_seq p (.inl rfl) ho hc hd (fun h' c' kp e=>fin its r' hz h' c' kp e) (by simp only[Cj]<;>omega)
 ·obtain⟨its,r',pl,hz⟩:=I.tuple hq;have hlen:=r'.length;obtain⟨o,ho,hc,n,hd⟩:=pl;exact call_list_seq p (.inr rfl) ho hc hd (fun h' c' kp e=>fin its r' hz h' c' kp e) (by simp only[Cj]<;>omega)
theorem nq:eJ X (.type "tuple") (fun xs H Q=>∃ p ys,xs=[.ref p]∧((SqL X.K H p ys∧∀ l,H l=none→Q (.ref l) (upd H l (.tup ys)))∨(SqT X.K H p ys∧Q (.ref p) H))):=by
 intro pins s σ H xs us Q I r h;obtain⟨p,ys,rfl,h⟩:=h;obtain⟨u,rfl,rx⟩:=iV r;cases rx;rcases h with⟨hq,q⟩ | ⟨hq,q⟩
 ·obtain⟨its,r',pl,hz⟩:=I.list hq;have hlen:=r'.length;refine call_tuple_list pl.isList (fun h' kp =>?_) (by simp only[Cj]<;>omega);have I1:Inv X pins σ H { s with heap:=h' }:=I.kept (t':=s.toks) kp;have I2:Inv X pins σ (upd H h'.objs.size (.tup ys)) { s with heap:=h'.push { cls:=.type "tuple",data:=.seq its.toArray } } :=
   I1.laid (t':=s.toks) (fun b o e=>B2 _ e) (B7 _) (show bT X.prog X.w _ _ _ (.tup ys) from⟨hz,its,r',IsTup.new _ _⟩)
  exact⟨.ref h'.objs.size,_,I2,rfl,q _ (I1.hok.fresh (B7 _))⟩
 ·obtain⟨its,r',pl,hz⟩:=I.tuple hq;exact call_tuple_same pl ⟨.ref p,H,I,rfl,q⟩
def tyV (K:PySem.W.Frag)(T:String)(x:V)(H:Hp):Prop:=match x with
 | .str _=>T = "str"
 | .int _=>T = "int"
 | .ref p=>(T = "list" ∧ ∃ xs,SqL K H p xs)∨(T = "tuple" ∧ ∃ o,K.lookup p=some o∧o.cls=.type "tuple" ∧ o.dict=none) ∨
   (T = "dict" ∧ ((∃ kvs,H p=some (.dK kvs))∨∃ kvs,H p=some (.dT kvs)))∨(T = "set" ∧ ∃ S n,H p=some (.set S n))
 | _=>False
theorem vP {pins:List (Addr × Obj)}{σ:St}{H:Hp}{s:Shared}{T:String}{x:V}{v:Value}(I:Inv X pins σ H s)(r:a_ x v)(ty:tyV X.K T x H):
  s.TypeIs v T∧∀ a,v=.ref a→∃ ob,s.heap.get? a=some ob∧ob.dict=none:=by
 cases x with
 | str z =>
  obtain⟨t,rfl⟩:=r;cases (show T = "str" from ty)
  exact⟨typeIs_str s z t,fun _ e=>nomatch e⟩
 | int i =>
  obtain⟨t,rfl⟩:=r;cases (show T = "int" from ty)
  exact⟨typeIs_int s i t,fun _ e=>nomatch e⟩
 | ref p =>
  cases r;rcases ty with⟨rfl,xs,hq⟩ | ⟨rfl,o,hk,hc,hd⟩ | ⟨rfl,hk⟩ | ⟨rfl,S,n,hk⟩
  ·obtain⟨its,_,pl,_⟩:=I.list hq;refine⟨pl.isList.typeIs,fun a e =>?_⟩;cases e;obtain⟨o,n,e,c,hd,_⟩:=pl;exact⟨o,e,hd⟩
  ·refine⟨⟨o,I.kIn p o hk,hc⟩,fun a e =>?_⟩;cases e;exact⟨o,I.kIn _ o hk,hd⟩
  ·have z:∃ o,s.heap.get? p=some o∧o.ExactDict:=by
    rcases hk with⟨kvs,hk⟩|⟨kvs,hk⟩
    ·obtain⟨_,_,_,_,o,_,_,e,ex,_⟩:=I.hok p _ hk;exact⟨o,e,ex⟩
    ·obtain⟨_,_,_,_,o,_,_,e,ex,_⟩:=I.hok p _ hk;exact⟨o,e,ex⟩
   obtain⟨o,e,ex⟩:=z;refine⟨⟨o,e,ex.1⟩,fun a e2 =>?_⟩;cases e2;exact⟨o,e,ex.2.1⟩
  ·obtain⟨o,_,_,_,e,ex,_⟩:=I.hok p _ hk;refine⟨⟨o,e,ex.1⟩,fun a e2 =>?_⟩;cases e2;exact⟨o,e,ex.2.1⟩
 | _=>exact False.elim ty
def BE (K:PySem.W.Frag)(T:String)(r:V→List V→Hp→VK→Prop)(to:TE):TE:=fun σ H Q=>to σ H fun x H1=>tyV K T x H1∧r x [] H1 Q
def tBM (K:PySem.W.Frag)(T:String)(r:V→List V→Hp→VK→Prop)(to:TE)(t:TA):TE:=fun σ H Q=>to σ H fun x H1=>tyV K T x H1∧t σ H1 fun xs H2=>r x xs H2 Q
variable {o e:Expr}{es:List Expr}{to:TE}{t:TA}{name:Str}{apos cpos:Pos}{T id:String}{r:V→List V→Hp→VK→Prop}
theorem zF (pa:PlainAttrs T)(slot:Slot T name id)(hty:typeOf (.builtin id)=pure (.type "method_descriptor"))(hm:MtR X id r)(ho:PE X o to)
  (hbase:attributeBase o name X.env (eval o X.env)=eval o X.env:=by rfl) (hline:(apos.endLine == cpos.line)=true:=by rfl):PE X (.Call (.Attribute o name apos) [] [] cpos) (BE X.K T r to):=by
 intro pins s σ H Q I h;refine wpAny_Call_method0_late hbase hline (thn (@ho pins s σ H _ I h) fun v s1 ⟨x,H1,I1,r1,ty,q1⟩ =>?_);obtain⟨h1,h2⟩:=vP I1 r1 ty;exact⟨T,id,pa,slot,hty,h1,h2,Calls.callWith_builtin rfl (PySem.evalArgs_none (@hm pins s1 σ H1 x [] v [] Q I1 r1 .nil q1))⟩
theorem dh (pa:PlainAttrs T)(slot:Slot T name id)(hty:typeOf (.builtin id)=pure (.type "method_descriptor"))(hm:MtR X id r)(ho:PE X o to)(ha:PA X (e::es) t)
  (hbase:attributeBase o name X.env (eval o X.env)=eval o X.env:=by rfl)
  (hfew:((backTo cpos (starEach (e::es) X.env)).all (fun x => !x.1) && (backToKw cpos (keywordEach [] X.env)).all (fun x=>x.1.isSome)
   && decide ((e::es).length + ([]:List Keyword).length + (if ([]:List Keyword).isEmpty then 0 else 1) < 30))=true:=by rfl)
  (hline:(apos.endLine == cpos.line)=true:=by rfl) (hs:starEach (e::es) X.env=(false,eval e X.env)::starEach es X.env:=by rfl) (hplain:(backTo cpos (starEach es X.env)).any (·.1)=false:=by rfl) :
  PE X (.Call (.Attribute o name apos) (e::es) [] cpos) (tBM X.K T r to t):=by
 intro pins s σ H Q I h;refine wpAny_Call_method_late hbase hfew hline rfl (thn (@ho pins s σ H _ I h) fun v s1 ⟨x,H1,I1,r1,ty,q1⟩ =>?_);obtain⟨h1,h2⟩:=vP I1 r1 ty;refine⟨T,id,pa,slot,hty,h1,h2,?_⟩;have hA:=@ha cpos pins s1 σ H1 _ I1 q1;rw[hs]at hA ⊢;refine Calls.callWith_builtin (by show (false || (backTo cpos (starEach es X.env)).any (·.1))=false;rw[hplain]<;>rfl) (Calls.evalArgs_plain ?_);exact thn hA fun us s2 ⟨vs,H2,I2,r2,q2⟩=>@hm pins s2 σ H2 x vs v us Q I2 r1 r2 q2
end
def MtM (X:Cx)(id:String)(r:V→List V→Hp→VK→Prop):Prop :=
 ∀ (pins:List (Addr × Obj)) (s:Shared) (σ:St) (H:Hp) (x:V) (xs:List V) (v:Value) (us:List Value) (Q:VK),Inv X pins σ H s→a_ x v→aX xs us→r x xs H Q →
  wpAny (model X.prog X.w) X.A (call (.builtin id) (v::us)) (EP X pins σ Q) X.xe s
theorem aX.one:∀ {x:V} {us:List Value},aX [x] us→∃ u,us=[u]∧a_ x u
 | _,_,.cons r .nil=>⟨_,rfl,r⟩
section
variable {pins:List (Addr × Obj)}{σ:St}{l b:Addr}{xs ys zs:List V}
theorem Inv.lset {its its':List Value}{n:Nat}{f:Array Value→Array Value}{t':Nat}(I:Inv X pins σ H s)(hH:H l=some (.lst xs))
  (e:s.heap.get? l=some { cls:=.type "list",data:=.seq its.toArray n }) (hf:f its.toArray=its'.toArray) (hv:aX ys its') (hz:ys.length≤sizeLine) :
  Inv X pins σ (upd H l (.lst ys)) { s with heap:=s.heap.update l (Obj.mapSeq f),toks:=t' }:=by
 have q:=PySem.IsL.update e f;rw[hf]at q;refine I.write (x:=l) (e:=l) (by rw[hH];exact trivial) (.inl rfl) (fun b' u hb hu=>(Cu s.heap (Obj.mapSeq f) (Ne.symm hb)).trans hu) ⟨_,q⟩ ?_;exact⟨hz,its',_,hv,q⟩
theorem Inv.lnew {its:List Value}{t':Nat}(I:Inv X pins σ H s)(hv:aX ys its)(hz:ys.length≤sizeLine):
  Inv X pins σ (upd H s.heap.objs.size (.lst ys)) { s with heap:=s.heap.push { cls:=.type "list",data:=.seq its.toArray },toks:=t' } :=
 I.laid (fun _ _ q=>B2 _ q) (B7 _) ⟨hz,its,0,hv,Ca _ rfl⟩
theorem Inv.fresh (I:Inv X pins σ H s):H s.heap.objs.size=none:=I.hok.fresh (B7 _)
theorem Inv.lstM (I:Inv X pins σ H s)(hH:H l=some (.lst xs)):xs.length≤sizeLine∧∃ (its:List Value) (n:Nat),aX xs its∧xs.length=its.length∧s.heap.get? l=some { cls:=.type "list",data:=.seq its.toArray n }:=by
 obtain⟨z,its,n,r,e⟩:=I.hok l _ hH;exact⟨z,its,n,r,r.length,e⟩
end
section
def xS:V→List V→Hp→VK→Prop:=fun x vs H Q=>∃ l xs y,x=.ref l∧vs=[y]∧H l=some (.lst xs)∧xs.length < sizeLine∧Q .non (upd H l (.lst (xs++[y])))
theorem dE:MtM X "list.append" xS:=by
 intro pins s σ H x vs v us Q I rx rv h;obtain⟨l,xs,y,rfl,rfl,hH,hz,q⟩:=h;cases rx;obtain⟨u,rfl,ru⟩:=rv.one;obtain⟨z,its,n,r,hl,e⟩:=I.lstM hH;refine call_meets F.slot_list_append ⟨_,e,rfl⟩ F.entry_list_append (F.args_list_append_2 _ _) (PySem.list_append l its.toArray n u (by rw[Cj];omega)) ⟨e,?_⟩;refine⟨.non,_,I.lset (its':=its++[u]) hH e (by simp) (r.append (.cons ru .nil)) ?_,rfl,q⟩;rw[B3,List.length_singleton];omega
def uE:R2:=fun x y H Q=>∃ l b xs zs,x=.ref l∧y=.ref b∧H l=some (.lst xs)∧H b=some (.lst zs)∧xs.length + zs.length≤sizeLine∧∀ p,H p=none→Q (.ref p) (upd H p (.lst (xs++zs)))
theorem cG:OpR X (binaryOp .Add) uE:=by
 intro pins s σ H x y v u Q I rx ry h;obtain⟨l,b,xs,zs,rfl,rfl,hH,hB,hz,q⟩:=h;cases rx;cases ry;obtain⟨z,its,n,r,hl,e⟩:=I.lstM hH;obtain⟨z2,its2,n2,r2,hl2,e2⟩:=I.lstM hB;refine PySem.P.add_list e e2 ?_ (by rw[Cj,Cj];omega);have ea:its.toArray++its2.toArray=(its++its2).toArray:=by simp
 rw[ea];exact⟨.ref _,_,I.lnew (t':=s.toks) (r.append r2) (by rw[B3];omega),rfl,q _ I.fresh⟩
end
section
variable {w:World}{E:Value→Shared→Prop}
set_option maxRecDepth 100000 in
end
section
end
end L2
namespace Att
open PySem PySem.W PySem.Calls PyProof.Rows
theorem kQ {P:Params}{h:Heap}:∀ (ns:List Int) (vs:List Value),WellAll P h vs (ns.map WData.int)→IntsAre vs ns:=by
 intro ns
 induction ns with
 | nil =>
  intro vs w;rw[DN]at w;cases w;exact .nil
 | cons n ns ih =>
  intro vs w;rw[Ct]at w;cases w with
  | cons a b =>
   cases a;exact .cons _ _ (ih _ b)
theorem uu {l:OpenLaw}{n:Nat}(hn:l.most=some n){P:Params}{h:Heap}{args:List WData}{vals:List Value}
  (hpre:l.row.toRowW.claim.pre args=true) (hwl:WellAll P h vals args) :
  ∃ a vs ns,vals=[Value.ref a]∧args=[WData.list (ns.map WData.int)]∧h.get? a=some { cls:=.type "list",data:=.seq vs.toArray }∧IntsAre vs ns∧ns.length≤n:=by
 have hsh:WShape.hasAll [] args [.list .int]=true:=(pre_splitW hpre).1;have hc:l.pre.holds [] { args:=args }=true:=(pre_splitW hpre).2;obtain⟨d,r,rfl,h1,h2⟩:=hasAllW_cons hsh;obtain rfl:=hasAllW_nil h2;obtain⟨xs,rfl,h3⟩:=hasW_list h1;obtain⟨ns,rfl⟩:=items_int h3;have hlen:ns.length≤n:=by
  unfold OpenLaw.pre at hc;have h4:(WTm.not (.lt (.lit (.int (n:Int))) (.len (.arg 0)))).holds [] { args:=[.list (ns.map .int)] }=true:=by
   have h4:=(holds_andW hc).1;rw[hn]at h4;exact h4
  have h5:=condW_of h4 (w_not (w_lt w_lit (w_len_list (w_arg rfl))));rw[B_]at h5;refine Nat.le_of_not_lt fun q =>?_;have q':(n:Int) < ((ns.length:Nat):Int):=by omega
  first
   | (rw[B8 q']at h5;exact absurd h5 (by decide))
   | (simp at h5;omega)
 cases hwl with
 | cons w1 w2 =>
  cases w2;cases w1 with
  | list ho hall=>exact⟨_,_,ns,rfl,rfl,ho,kQ ns _ hall,hlen⟩
theorem uG (l:OpenLaw)(args:List WData):l.row.toRowW.claim.post args (.bool true) args=true :=
 postW_of (r:=l.row.toRowW) (X:=(true == true))
  (show WShape.has [] (.bool true) .bool=true by first | rfl | decide | simp[WShape.has,WShape.arms,WShape.armsAll])
  (show (WTm.eq .res (.lit (.bool true))).value [] { args:=args,res:=some (.bool true),after:=args }=some (.bool (true == true)) from w_eq_bool (w_res rfl) w_lit) rfl
theorem qW {l:OpenLaw}{n:Nat}{q:Program}{loose:List Str}{XP:(Str→Option Value)→Heap→Prop}{YP:World→Heap→Prop}{d:DefRec}
  (hn:l.most=some n) (hdf:d.params.defaults=[])
  (call:∀ (w:World) (s₀ s₁:Shared) (mg mb:Str→Option Value) (fa:Addr) (o:Obj) (pm cd doc:Value) (a:Addr) (vs:List Value) (ns:List Int),
   Ground q loose [] XP w s₀ mg mb s₁.heap→YP w s₁.heap →
   s₁.heap.get? fa=some o→o.data=.func (docDef d.name d.params d.body d.scope pm cd doc)→s₁.heap.CodeRec cd d.name→mg d.name=some (.ref fa) →
   s₁.heap.get? a=some { cls:=.type "list",data:=.seq vs.toArray }→IntsAre vs ns→ns.length≤n→s₁.gens = #[] →
   codeAny (model l.prog w) callerA (.call (.ref fa) ⟨[.ref a],[]⟩) (fun r s'=>r=.ok (.ret (.bool true))∧OldK s₁.heap s'.heap∧s'.os=s₁.os∧AllBare s'.gens) s₁) :
  WalkO q loose XP YP l.row.toRowW d [] (fun f vs=>PySem.call f vs):=by
 intro w s₀ s₁ mg mb G Y fa o pm cd doc dV kV ho hd hcd hD hmg hg args vals as hpre hlay hrd hwl hlo;obtain rfl:dV=.none:=Dflts.none hD hdf;obtain rfl:kV=.none:=Dflts.noKw hD;obtain⟨a,vs,ns,rfl,rfl,hobj,hints,hlen⟩:=uu hn hpre hwl;refine enter_call (codeAny_mono (call w s₀ s₁ mg mb fa o pm cd doc a vs ns G Y ho (fd_plain hd) hcd hmg hobj hints hlen hg) fun r s' hq =>?_);obtain⟨rfl,h2,h3,h4⟩:=hq;exact⟨.inl ⟨.bool true,.bool true,[],rfl,fun _=>rfl,.bool true,uG l _,fun _=>⟨List.Pairwise.nil,fun _ hm=>(nomatch hm)⟩⟩,h2,h3,h4⟩
section
variable {prog:Program}{w:World}{A:Around}{E:Value→Shared→Prop}{s:Shared}{K:Frag}
end
end Att
namespace L2
open PySem PySem.Spec PyProof.Rows
variable {H:Hp}{X:Cx}{s:Shared}{pos:Pos}{prog:Program}{A:Around}{K:PySem.W.Frag}
theorem nu:∀ {vs:List Value} {ns:List Int},IntsAre vs ns→aX (ns.map V.int) vs
 | _,_,.nil=>.nil
 | _,_,.cons n t h=>.cons ⟨t,rfl⟩ (nu h)
def AA (H:Hp):Prop:=∀ b,H b=none∨∃ o xs,H b=some (.frz o (.lst xs))
theorem wY {P:Program}{w:World}{K:PySem.W.Frag}{mg mb:Str→Option Value}{CX:CXT}{k:Nat}{fa a:Addr}{fd:FuncData}{x:Str}{sp:Sp}{s₁:Shared}{vs:List Value}{ns:List Int}
  (KX:K.In s₁.heap) (hns:s₁.heap.Ns mainGlobals mg) (hb:s₁.heap.Ns builtinsNs mb) (hbb:∀ x:Str,x ≠ "__name__" → mb x=bootBuiltins x) (hlim:s₁.heap.NoLimit) (hg:s₁.gens = #[])
  (ha:s₁.heap.get? a=some { cls:=.type "list",data:=.seq vs.toArray }) (hi:IntsAre vs ns) (hl:ns.length≤sizeLine) (hr:cy k callerA)
  (F:∀ base:Heap,K.In base→base.Ns mainGlobals mg→aO P w K mg base CX k fa fd [x] sp) (hbind:∀ (s:Shared) (u:Value),BindsTo s fd ⟨[u],[]⟩ [(x,u)])
  (hsp:∀ H:Hp,AA H→SqL K H a (ns.map V.int)→sp [.ref a] H (fun v _=>v=.bl true) fun _ _ _=>False)
  (hCX:∀ H e s',CX [] H s₁ (fun _ _ _=>False) e s'→False) :
  codeAny (model P w) callerA (.call (.ref fa) ⟨[.ref a],[]⟩) (fun r s'=>r=.ok (.ret (.bool true))∧OldK s₁.heap s'.heap∧s'.os=s₁.os∧AllBare s'.gens) s₁:=by
 have rv:=nu hi;have lenV:=hi.length
 -- from an abstract heap in which nothing but the script may be tracked
 have core:∀ H:Hp,AA H→SqL K H a (ns.map V.int)→HOk P w H s₁.heap→(∀ b,H b≠none→b=a)→(H a≠none→K.lookup a=none) →
   codeAny (model P w) callerA (.call (.ref fa) ⟨[.ref a],[]⟩) (fun r s'=>r=.ok (.ret (.bool true))∧OldK s₁.heap s'.heap∧s'.os=s₁.os∧AllBare s'.gens) s₁:=by
  intro H hO hS hok hA hK;have base_of:∀ {b:Addr} {o:Obj},s₁.heap.get? b=some o→H b=none→(pB s₁.heap H).get? b=some o:=fun e n=>w8 e n;have noA:∀ {b:Addr} {o:Obj} {es:Array DictEntry} {ep:Nat},s₁.heap.get? b=some o→o.data=.dict es ep→H b=none:=fun {b o es ep} e d=>by
   cases q:H b with
   | none=>rfl
   | some u =>
    have e':b=a:=hA b (by rw[q];simp);subst e';rw[ha]at e;cases e;have d':Data.seq vs.toArray _=Data.dict es ep:=d;cases d'
  have nsK:∀ {b:Addr} {m:Str→Option Value},s₁.heap.Ns b m→(pB s₁.heap H).Ns b m:=fun {b m} ⟨o,es,ep,e,d,r⟩=>⟨o,es,ep,base_of e (noA e d),d,r⟩;have hKb:K.In (pB s₁.heap H):=fun b o e=>base_of (KX b o e) (by
   cases q:H b with
   | none=>rfl
   | some u =>
    have e':b=a:=hA b (by rw[q];simp);subst e';rw[hK (by rw[q];simp)]at e;cases e)
  have hM:Mod K mg (pB s₁.heap H):=⟨hKb,nsK hns,⟨mb,nsK hb,hbb⟩,let ⟨mc,h1,h2⟩:=hlim;⟨mc,nsK h1,h2⟩⟩;have e0:nt P w K mg (pB s₁.heap H) callerA [] s₁ H:=⟨rfl,hM,fun b o e=>yi e,Nat.le_of_eq (vf _ _),trivial,fun b hb=>absurd (show b∈([]:List Addr) from hb) (by simp),hok,.of_eq hg⟩;refine codeAny_mono ((F _ hKb (nsK hns)).run callerA [] s₁ H ⟨[.ref a],[]⟩ [.ref a] [.ref a] _ _ hr e0 (hbind s₁ (.ref a)) (.cons rfl .nil) (hsp H hO hS)) fun r s' h =>?_;cases r with
  | error e=>exact (hCX H e s' h).elim
  | ok fl =>
   cases fl with
   | next=>exact False.elim h
   | brk=>exact False.elim h
   | cont=>exact False.elim h
   | ret u =>
    obtain⟨v,H',os,bare,un,hok',r',q⟩:=h;have q':v=.bl true:=q;subst q';obtain rfl:u=Value.bool true:=r';refine⟨rfl,OldK.of_keep fun b o e =>?_,os,bare⟩;cases q:H b with
    | none=>exact un.keep b o e q (by intro z;exact absurd (show b∈([]:List Addr) from z) (by simp)) (by simp)
    | some u =>
     rcases hO b with z|⟨ob,xs,z⟩
     ·rw[q]at z;cases z
     ·have z2:=un.frzs b ob _ z;obtain⟨e1,_⟩:=hok b _ z;obtain⟨e2,_⟩:=hok' b _ z2;rw[e]at e1;cases e1;exact e2
 cases hk:K.lookup a with
 | some o =>
  -- the script is one of the module's own objects
  have e:=KX a o hk;rw[ha]at e;cases e;refine core (fun _=>none) (fun _=>.inl rfl) (.inr ⟨_,vs.toArray,_,hk,rfl,rfl,rfl,by rw[Cj,lenV];exact hl,by simpa using rv⟩) (fun b u z=>by have z':(none:Option HO)=some u:=z;cases z') (fun b z=>absurd rfl z) fun z=>absurd rfl z
 | none =>
  refine core (fun b=>if b=a then some (.frz { cls:=.type "list",data:=.seq vs.toArray } (.lst (ns.map V.int))) else none) (fun b =>?_) (.inl (.inr ⟨{ cls:=.type "list",data:=.seq vs.toArray },if_pos rfl⟩)) (fun b u z =>?_) (fun b z =>?_) fun _=>hk
  ·by_cases hb:b=a
   ·exact .inr ⟨_,_,if_pos hb⟩
   ·exact .inl (if_neg hb)
  ·by_cases hb:b=a
   ·have z':=(if_pos hb).symm.trans z;cases z';subst hb;exact⟨ha,by rw[B_];exact hl,vs,_,rv,ha⟩
   ·have z':=(if_neg hb).symm.trans z;cases z'
  ·by_cases hb:b=a
   ·exact hb
   ·exact absurd (if_neg hb) z
theorem xA {l:PySem.W.OpenLaw}{n k:Nat}{q:Program}{loose:List Str}{XP:(Str→Option Value)→Heap→Prop}{YP:World→Heap→Prop}{d:DefRec}{K:Params→PySem.W.Frag}{CX:World→CXT}{sp:World→Sp}{x:Str}
  (hn:l.most=some n) (hn2:n≤sizeLine) (hdf:d.params.defaults=[]) (hr:cy k callerA)
  (hY:∀ (w:World) (h:Heap),YP w h→(K w.params).In h)
  (F:∀ (w:World) (mg:Str→Option Value) (fa:Addr) (h:Heap),(K w.params).In h→h.Ns mainGlobals mg→mg d.name=some (.ref fa) →
   ∃ fd:FuncData,(∀ (s:Shared) (u:Value),BindsTo s fd ⟨[u],[]⟩ [(x,u)]) ∧
    ∀ base:Heap,(K w.params).In base→base.Ns mainGlobals mg→aO l.prog w (K w.params) mg base (CX w) k fa fd [x] (sp w))
  (hsp:∀ (w:World) (H:Hp) (a:Addr) (ns:List Int),ns.length≤n→AA H→SqL (K w.params) H a (ns.map V.int)→sp w [.ref a] H (fun v _=>v=.bl true) fun _ _ _=>False)
  (hCX:∀ (w:World) (H:Hp) (s:Shared) (e:Value) (s':Shared),CX w [] H s (fun _ _ _=>False) e s'→False) :
  PySem.W.WalkO q loose XP YP l.row.toRowW d [] (fun f vs=>PySem.call f vs):=by
 refine Att.qW hn hdf fun w s₀ s₁ mg mb fa o pm cd doc a vs ns G Y ho hd hcd hmg hobj hints hlen hg =>?_;have KX:=hY w _ Y;obtain⟨fd,hb,hF⟩:=F w mg fa _ KX G.T.g hmg;exact wY KX G.T.g G.T.b G.T.builtins G.T.nolimit hg hobj hints (Cq hlen hn2) hr hF hb (fun H hO hS=>hsp w H a ns hlen hO hS) fun H e s'=>hCX w H s₁ e s'
def bR (s:Stmt):Arguments:=match s with
 | .FunctionDef _ a _ _ _ _ _ _ _ _=>a
 | _=>{ posonlyargs:=[],args:=[],vararg:=none,kwonlyargs:=[],kw_defaults:=[],kwarg:=none,defaults:=[] }
def bt (s:Stmt):List Stmt:=match s with
 | .FunctionDef _ _ b _ _ _ _ _ _ _=>b
 | _=>[]
def ai (s:Stmt):Scope:=match s with
 | .FunctionDef _ _ _ _ _ _ sc _ _ _=>sc
 | _=>{ kind:=.function,names:=[],isGenerator:=false,isCoroutine:=false }
abbrev E0:XK:=fun _ _ _=>False
section
variable {P:Program}{w:World}{mg:Str→Option Value}{base:Heap}
end
theorem nJ {n:Nat}(h:n≤1000):n < sizeLine:=De h (by decide)
section
theorem pv (i:Nat){x:Str}{pos:Pos}(hN:X.N[i]? = some x:=by rfl)(hv:Vis X.env.scope x:=by first | exact Or.inl rfl | exact Or.inr (Or.inl rfl) | exact Or.inr (Or.inr rfl))(hd:(x == ("__debug__" : Str))=false:=by decide)
  (hcd:(x == ("__classdict__" : Str))=false:=by decide):PE X (.Name x pos) (bO i):=zE hN hv hd hcd
end
theorem cA {A B:Prop}(h:B):if false=true then A else B:=by
 rw[if_neg Ci];exact h
theorem cD {A B:Prop}(h:A):if true=true then A else B:=by
 rw[if_pos rfl];exact h
theorem bM {c A B:Prop}[Decidable c](h1:c→A)(h2:¬ c→B):if c then A else B:=by
 by_cases h:c
 ·rw[if_pos h];exact h1 h
 ·rw[if_neg h];exact h2 h
theorem nQ {c A B:Prop}[Decidable c](hc:c)(h:B):if (!decide c)=true then A else B:=by
 rw[B8 hc];exact cA h
def al (H H':Hp):Prop:=∀ b o,H b=some o→H' b=some o
theorem al.refl (H:Hp):al H H:=fun _ _ h=>h
theorem al.trans {H H1 H2:Hp}(a:al H H1)(b:al H1 H2):al H H2:=fun c o h=>b c o (a c o h)
theorem al.seq {K:PySem.W.Frag}{H H':Hp}{a:Addr}{xs:List V}(e:al H H')(h:SqL K H a xs):SqL K H' a xs:=by
 rcases h with (h|⟨o,h⟩)|h
 ·exact .inl (.inl (e _ _ h))
 ·exact .inl (.inr ⟨o,e _ _ h⟩)
 ·exact .inr h
section
variable {κ:Type}[DecidableEq κ]
def dk (kvs:List (κ × V))(k:κ):Option V:=(kvs.find? fun kv=>decide (kv.1=k)).map (·.2)
def jj (kvs:List (κ × V))(k:κ)(v:V):List (κ × V) :=
 if (kvs.any fun kv=>decide (kv.1=k))=true then kvs.map (fun kv=>if kv.1=k then (kv.1,v) else kv) else kvs++[(k,v)]
theorem lA {p:κ × V}{r:List (κ × V)}{k:κ}(e:p.1=k):dk (p::r) k=some p.2:=by simp[dk,C0,e]
theorem lB {p:κ × V}{r:List (κ × V)}{k:κ}(e:¬ p.1=k):dk (p::r) k=dk r k:=by simp[dk,C0,e]
theorem pS (k:κ):∀ kvs:List (κ × V),(kvs.any fun kv=>decide (kv.1=k))=(dk kvs k).isSome
 | []=>rfl
 | p::r=>by
  rw[DD];by_cases e:p.1=k
  ·simp only[lA e,B8 e,Bool.true_or,Option.isSome_some]
  ·rw[lB e,Cg e,DL];exact pS k r
theorem kA (kvs:List (κ × V))(k:κ)(v:V):(jj kvs k v).length≤kvs.length + 1:=by
 unfold jj
 split
 ·rw[B_];omega
 ·rw[B3,B5,List.length_nil];omega
theorem hG.isSome_eq {o:Option V}{u:Option Value}(r:hG o u):o.isSome=u.isSome:=by
 cases o with
 | none=>cases u with
  | none=>rfl
  | some _=>exact (show False from r).elim
 | some _=>cases u with
  | none=>exact (show False from r).elim
  | some _=>rfl
theorem KV.val {kvs:List (κ × V)}{vs:List (κ × Value)}(r:KV kvs vs)(k:κ):hG (dk kvs k) (valueAt vs k):=by
 unfold KV at r
 induction r with
 | nil=>exact True.intro
 | @cons p q ps qs h t ih =>
  obtain⟨h1,h2⟩:=h;by_cases e:p.1=k
  ·have e':q.1=k:=h1.symm.trans e;have b:valueAt (q::qs) k=some q.2:=by simp[valueAt,C0,e']
   rw[lA e,b];exact h2
  ·have e':¬ q.1=k:=fun z=>e (h1.trans z);have b:valueAt (q::qs) k=valueAt qs k:=by simp[valueAt,C0,e']
   rw[lB e,b];exact ih
theorem KV.any {kvs:List (κ × V)}{vs:List (κ × Value)}(r:KV kvs vs)(k:κ):(kvs.any fun kv=>decide (kv.1=k))=vs.any fun kv=>decide (kv.1=k):=by
 unfold KV at r
 induction r with
 | nil=>rfl
 | cons h t ih=>rw[DD,DD,ih,h.1]
theorem KV.repl {kvs:List (κ × V)}{vs:List (κ × Value)}(r:KV kvs vs)(k:κ){y:V}{u:Value}(ry:a_ y u):
  KV (kvs.map fun kv=>if kv.1=k then (kv.1,y) else kv) (vs.map fun kv=>if kv.1=k then (kv.1,u) else kv):=by
 unfold KV at r ⊢
 induction r with
 | nil=>exact .nil
 | @cons p q ps qs h t ih =>
  rw[Ct,Ct];refine .cons ?_ ih;obtain⟨h1,h2⟩:=h;by_cases e:p.1=k
  ·rw[if_pos e,if_pos (h1.symm.trans e)];exact⟨h1,ry⟩
  ·rw[if_neg e,if_neg (fun z=>e (h1.trans z))];exact⟨h1,h2⟩
theorem KV.put {kvs:List (κ × V)}{vs:List (κ × Value)}(r:KV kvs vs)(k:κ){y:V}{u:Value}(ry:a_ y u):KV (jj kvs k y) (stored vs k u):=by
 unfold jj stored;rw[r.any k];by_cases e:(vs.any fun kv=>decide (kv.1=k))=true
 ·rw[if_pos e,if_pos e];exact r.repl k ry
 ·rw[if_neg e,if_neg e];exact Paired.snoc r ⟨rfl,ry⟩
theorem KV.length {kvs:List (κ × V)}{vs:List (κ × Value)}(r:KV kvs vs):kvs.length=vs.length:=Paired.length r
end
theorem jy {P:Program}{w:World}{k:Key}{u:Value}(r:a_ (kV k) u):(bW P w).is k u=true:=by
 cases k with
 | inl i=>obtain⟨t,e⟩:=(show ∃ t,u=Value.int i t from r);subst e;exact qE P w i t
 | inr x=>obtain⟨t,e⟩:=(show ∃ t,u=Value.str x t from r);subst e;exact qD P w x t
theorem nP {P:Program}{w:World}:∀ {ks:List Key} {us:List Value},aX (ks.map kV) us→ItemsAre (bW P w) ks us
 | [],_,r=>by rw[DN]at r;cases r;exact .nil
 | k::ks,_,r=>by
  rw[Ct]at r;cases r with
  | cons h t=>exact .cons (jy h) (nP t)
abbrev KT (H:Hp):List (List Key × V)→List (List Key × Addr × Value)→Prop:=Paired fun p q=>p.1=q.1∧H q.2.1=some (.tup (p.1.map kV))∧a_ p.2 q.2.2
theorem KT.val {H:Hp}{kvs:List (List Key × V)}{xs:List (List Key × Addr × Value)}(r:KT H kvs xs)(k:List Key):hG (dk kvs k) ((atKey xs k).map (·.2)):=by
 induction r with
 | nil=>exact True.intro
 | @cons p q ps qs h t ih =>
  obtain⟨h1,_,h2⟩:=h;by_cases e:p.1=k
  ·have e':q.1=k:=h1.symm.trans e;have b:atKey (q::qs) k=some q.2:=by simp[atKey,C0,e']
   rw[lA e,b];exact h2
  ·have e':¬ q.1=k:=fun z=>e (h1.trans z);have b:atKey (q::qs) k=atKey qs k:=by simp[atKey,C0,e']
   rw[lB e,b];exact ih
theorem KT.repl {H:Hp}{kvs:List (List Key × V)}{xs:List (List Key × Addr × Value)}(r:KT H kvs xs)(k:List Key){y:V}{u:Value}(ry:a_ y u):
  KT H (kvs.map fun kv=>if kv.1=k then (kv.1,y) else kv) (xs.map (putAt k u)):=by
 induction r with
 | nil=>exact .nil
 | @cons p q ps qs h t ih =>
  rw[Ct,Ct];refine .cons ?_ ih;obtain⟨h1,h2,h3⟩:=h;unfold putAt;by_cases e:p.1=k
  ·rw[if_pos e,if_pos (h1.symm.trans e)];exact⟨h1,h2,ry⟩
  ·rw[if_neg e,if_neg (fun z=>e (h1.trans z))];exact⟨h1,h2,h3⟩
theorem KT.put {H:Hp}{kvs:List (List Key × V)}{xs:List (List Key × Addr × Value)}(r:KT H kvs xs)(k:List Key){b:Addr}{y:V}{u:Value}(hb:H b=some (.tup (k.map kV)))(ry:a_ y u):
  KT H (jj kvs k y) (storedH xs k b u):=by
 have e:(kvs.any fun kv=>decide (kv.1=k))=(atKey xs k).isSome:=by
  rw[pS,(r.val k).isSome_eq,Option.isSome_map]
 unfold jj storedH;rw[e];by_cases q:(atKey xs k).isSome=true
 ·rw[if_pos q,if_pos q];exact r.repl k ry
 ·rw[if_neg q,if_neg q];exact Paired.snoc r ⟨rfl,hb,ry⟩
theorem KT.keeps {H H':Hp}{kvs:List (List Key × V)}{xs:List (List Key × Addr × Value)}(r:KT H kvs xs)(ht:∀ b ys,H b=some (.tup ys)→H' b=some (.tup ys)):KT H' kvs xs :=
 Paired.mapP r fun _ _ z=>⟨z.1,ht _ _ z.2.1,z.2.2⟩
section
variable {P:Program}{w:World}{h:Heap}{a:Addr}
theorem yT {u:HO}(ok:HOk P w H h)(e:Rd H a u):bT P w H h a u:=e.ok ok
theorem tY {kvs:List (Key × V)}(ok:HOk P w H h)(e:Rd H a (.dK kvs)):kvs.length≤sizeLine∧(a == sysModules)=false∧∃ vs,KV kvs vs∧h.DictOf (bW P w) a vs :=
 show bT P w H h a (.dK kvs) from yT ok e
theorem Bq {kvs:List (Key × V)}(ok:HOk P w H h)(e:H a=some (.dK kvs)):kvs.length≤sizeLine∧(a == sysModules)=false∧∃ vs,KV kvs vs∧h.DictOf (bW P w) a vs:=tY ok (.inl e)
theorem pA {ks:List Key}(ok:HOk P w H h)(e:H a=some (.tup (ks.map kV))):(tupleKind (bW P w)).is h ks a:=by
 obtain⟨_,its,r,o,h1,h2,n,h3⟩:=(show bT P w H h a (.tup (ks.map kV)) from ok a _ e);exact⟨o,its.toArray,n,h1,h2,h3,by simpa using nP r⟩
theorem tV {kvs:List (List Key × V)}(ok:HOk P w H h)(e:Rd H a (.dT kvs)):kvs.length≤sizeLine∧(a == sysModules)=false ∧
  ∃ xs,KT H kvs xs∧h.DictOfH (tupleKind (bW P w)) a xs:=by
 obtain⟨z,y,xs,r,o,es,ep,h1,h2,h3,h4,h5⟩:=(show bT P w H h a (.dT kvs) from yT ok e);refine⟨z,y,xs,r,o,es,ep,h1,h2,h3,h4,fun x hx =>?_,h5⟩;have all:∀ {l:List (List Key × V)} {m:List (List Key × Addr × Value)},KT H l m→∀ x∈m,(tupleKind (bW P w)).is h x.1 x.2.1:=by
  intro l m q
  induction q with
  | nil=>intro x hx;exact nomatch hx
  | @cons p q ps qs hq t ih =>
   intro x hx;rcases B6.mp hx with e | hx
   ·subst e;exact pA ok (by rw[← hq.1];exact hq.2.1)
   ·exact ih x hx
 exact all r x hx
theorem Bp {kvs:List (List Key × V)}(ok:HOk P w H h)(e:H a=some (.dT kvs)):kvs.length≤sizeLine∧(a == sysModules)=false ∧
  ∃ xs,KT H kvs xs∧h.DictOfH (tupleKind (bW P w)) a xs:=tV ok (.inl e)
end
def q9 (H:Hp)(a:Addr)(y:V)(r:Option V):Prop :=
 (∃ kvs k,Rd H a (.dK kvs)∧y=kV k∧r=dk kvs k)∨∃ kvs k b,Rd H a (.dT kvs)∧y=.ref b∧H b=some (.tup (k.map kV))∧r=dk kvs k
def Bw (H:Hp)(a:Addr)(y v:V)(H':Hp):Prop :=
 (∃ kvs k,H a=some (.dK kvs)∧y=kV k∧kvs.length < sizeLine∧H'=upd H a (.dK (jj kvs k v))) ∨
 ∃ kvs k b,H a=some (.dT kvs)∧y=.ref b∧H b=some (.tup (k.map kV))∧kvs.length < sizeLine∧H'=upd H a (.dT (jj kvs k v))
theorem q9.k {H:Hp}{a:Addr}{kvs:List (Key × V)}{k:Key}(e:H a=some (.dK kvs)):q9 H a (kV k) (dk kvs k):=.inl ⟨kvs,k,.inl e,rfl,rfl⟩
section
variable {pins:List (Addr × Obj)}{σ:St}{a:Addr}{y v:V}{u r:Value}{o:Option V}{E:Value→Shared→Prop}
theorem Inv.big (I:Inv X pins σ H s):sysModules < s.heap.objs.size:=by
 have h:mainGlobals < s.heap.objs.size:=(I.mod.glob.keeps I.bk).lt;exact Nat.lt_trans (by decide) h
theorem vq {Q:Value→Shared→Prop}(hu:A.units + 1 < cLine)(I:Inv X pins σ H s)(g:q9 H a y (some v))(ry:a_ y u)(h:∀ w' s',Inv X pins σ H s'→a_ v w'→Q w' s'):
  wpAny (model X.prog X.w) A (getItem (.ref a) u) Q E s:=by
 rcases g with⟨kvs,k,e,ey,l⟩|⟨kvs,k,b,e,ey,eb,l⟩
 ·subst ey;obtain⟨z,hd,vs,rel,dd⟩:=tY I.hok e;obtain⟨w',hw,rw'⟩:=hG.some_of (v:=v) (o:=valueAt vs k) (by rw[l];exact rel.val k);exact wpAny_getItem_of (jy ry) dd.mapOf hw (h w' _ (I.tok _) rw')
 ·subst ey;cases (show u=Value.ref b from ry);obtain⟨z,hd,xs,rel,dd⟩:=tV I.hok e;obtain⟨w',hw,rw'⟩:=hG.some_of (v:=v) (o:=(atKey xs k).map (·.2)) (by rw[l];exact rel.val k);obtain⟨p,hp,hp2⟩:=C4.mp hw;refine wpAny_getItem_heap (tupleKind_room_in1 hu) (pA I.hok eb) dd hp ?_;rw[hp2];exact h w' _ (I.tok _) rw'
theorem yD {Q:Value→Shared→Prop}(hu:A.units + 1 < cLine)(I:Inv X pins σ H s)(g:q9 H a y o)(ry:a_ y u)(h:∀ s',Inv X pins σ H s'→Q (.bool (!o.isSome)) s'):
  wpAny (model X.prog X.w) A (compareOp .NotIn u (.ref a)) Q E s:=by
 rcases g with⟨kvs,k,e,ey,l⟩|⟨kvs,k,b,e,ey,eb,l⟩
 ·subst ey;obtain⟨z,hd,vs,rel,dd⟩:=tY I.hok e;refine wpAny_notIn_of (jy ry) hd dd.mapOf ?_;rw[← (rel.val k).isSome_eq,← l];exact h _ (I.tok _)
 ·subst ey;cases (show u=Value.ref b from ry);obtain⟨z,hd,xs,rel,dd⟩:=tV I.hok e;refine wpAny_notIn_heap (tupleKind_room_in1 hu) (pA I.hok eb) hd dd ?_;have q:=(rel.val k).isSome_eq;rw[Option.isSome_map]at q;rw[← q,← l];exact h _ (I.tok _)
theorem ud {h':Heap}{t':Nat}{ob:HO}(I:Inv X pins σ H s)(mu:Mut (H a))(hs:Heap.SameBut a s.heap h')(he:∃ q,h'.get? a=some q)(new:bT X.prog X.w (upd H a ob) h' a ob):
  Inv X pins σ (upd H a ob) { s with heap:=h',toks:=t' } :=
 I.write (x:=a) (e:=a) mu (.inl rfl) (fun b q hb z=>(hs.2 b hb).trans z) he new
theorem Ai {P:Program}{w:World}{H':Hp}{h':Heap}{kvs:List (Key × V)}{vs:List (Key × Value)}(z:kvs.length≤sizeLine)(hd:(a == sysModules)=false)(rel:KV kvs vs)(dd:h'.DictOf (bW P w) a vs):
  bT P w H' h' a (.dK kvs):=⟨z,hd,vs,rel,dd⟩
theorem vp {H':Hp}{Q:Unit→Shared→Prop}(hu:A.units + 1 < cLine)(I:Inv X pins σ H s)(g:Bw H a y v H')(ry:a_ y u)(rv:a_ v r)(h:∀ s',Inv X pins σ H' s'→Q () s'):
  wpAny (model X.prog X.w) A (setItem (.ref a) u r) Q E s:=by
 rcases g with⟨kvs,k,e,ey,l,eH⟩|⟨kvs,k,b,e,ey,eb,l,eH⟩
 ·subst ey eH;obtain⟨z,hd,vs,rel,dd⟩:=Bq I.hok e;have hz:vs.length≤sizeLine:=by rw[← rel.length];exact z
  have hl:(jj kvs k v).length≤sizeLine:=by have:=kA kvs k v;omega
  refine wpAny_setItem_pairs (hsz:=hz) (jy ry) dd fun h' dd' hs=>h _ ?_;have he:∃ q,h'.get? a=some q:=let ⟨q,_,_,hq,_⟩:=dd';⟨q,hq⟩
  exact ud I (by rw[e];exact True.intro) hs he (Ai hl hd (rel.put k rv) dd')
 ·subst ey eH;cases (show u=Value.ref b from ry);obtain⟨z,hd,xs,rel,dd⟩:=Bp I.hok e;have hz:xs.length≤sizeLine:=by rw[← Paired.length rel];exact z
  have hl:(jj kvs k v).length≤sizeLine:=by have:=kA kvs k v;omega
  refine wpAny_setItem_heap (hsz:=hz) (tupleKind_room_in1 hu) (pA I.hok eb) dd fun h' dd' hs=>h _ ?_;obtain⟨q,es,ep,hq,h2,h3,h4,_,h5⟩:=dd';refine ud I (by rw[e];exact True.intro) hs ⟨q,hq⟩ ⟨hl,hd,_,(rel.put k eb rv).keeps fun c ys ec =>?_,q,es,ep,hq,h2,h3,h4,h5⟩;rw[aL (mx ec e (fun z=>nomatch z))];exact ec
end
section
variable {pins:List (Addr × Obj)}{σ:St}{a:Addr}{kvs:List (Key × V)}{k:Key}{u:Value}{E:Value→Shared→Prop}
end
def AB (i:Expr):Prop:=∀ ov iv,subscripted i false ov iv=operate [ov,iv] (getItem ov iv)
theorem tj {prog:Program}{w:World}{A:Around}{E:Value→Shared→Prop}{s:Shared}{env:Env}{value slice:Expr}{pos:Pos}{T id:String}{Q:Value→Shared→Prop}
  (hl:typeLookup (.type T) "__getitem__" = pure (some (.builtin id))) (hs:AB slice)
  (h:wpAny (model prog w) A (eval value env) (fun o s₁=>wpAny (model prog w) A (eval slice env) (fun i s₂=>s₂.TypeIs o T∧wpAny (model prog w) A (getItem o i) Q E s₂) E s₁) E s) :
  wpAny (model prog w) A (eval (.Subscript value slice pos) env) Q E s:=by
 refine Subscript_ (Cv h (fun o s₁ h₁=>Cv h₁ (fun i s₂ h₂ =>?_) fun _ _ x=>x) fun _ _ x=>x);obtain⟨hT,h₂⟩:=h₂;unfold subscriptTail;refine B4 ?_;rw[getitemInPython_of_ne hT.not_modules];refine B4 (wpAny_specialOf hT hl ?_);have fin:wpAny (model prog w) A (subscripted slice false o i) (fun r s₃=>wpAny (model prog w) A (letTemporaryGo value o r >>= fun _=>pure r) Q E s₃) E s₂:=by
  rw[hs o i];exact wpAny_operating (Cv h₂ (fun r s₃ h₃=>B4 (wpAny_letTemporaryGo (Ch h₃))) fun _ _ x=>x)
 first
  | exact Ch (B4 fin)
  | exact B4 (Ch (B4 fin))
  | exact B4 fin
theorem qO {X:Cx}{pins:List (Addr × Obj)}{σ:St}{H:Hp}{s:Shared}{a:Addr}{y:V}{o:Option V}(I:Inv X pins σ H s)(g:q9 H a y o):s.TypeIs (.ref a) "dict" := by
 rcases g with⟨kvs,k,e,_,_⟩|⟨kvs,k,b,e,_,_,_⟩
 ·obtain⟨_,_,vs,_,dd⟩:=tY I.hok e;exact dd.typeIs
 ·obtain⟨_,_,xs,_,dd⟩:=tV I.hok e;exact dd.typeIs
def AN (td ty:TE):TE:=fun σ H Q=>td σ H fun x H1=>ty σ H1 fun y H2=>∃ a v,x=.ref a∧q9 H2 a y (some v)∧Q v H2
def AS (td ty tv:TE):TS:=fun D σ H=>tv σ H fun v H1=>td σ H1 fun x H2=>ty σ H2 fun y H3=>∃ a H4,x=.ref a∧Bw H3 a y v H4∧D.nx σ H4
section
variable {o i e value:Expr}{pos' tpos:Pos}{td ty tv:TE}
theorem x6 (hu:X.A.units + 1 < cLine)(ho:PE X o td)(hi:PE X i ty)(hs:AB i):PE X (.Subscript o i pos) (AN td ty):=by
 intro pins s σ H Q I h;refine tj PySem.F.slot_dict_getitem.lookup hs (thn (@ho pins s σ H _ I h) fun u s1 ⟨x,H1,I1,rx,q1⟩=>thn (@hi pins s1 σ H1 _ I1 q1) fun iv s2 ⟨y,H2,I2,ry,a,v,ex,g,q2⟩ =>?_);subst ex;obtain rfl:u=Value.ref a:=rx;exact⟨qO I2 g,vq hu I2 g ry fun w' s3 I3 rw'=>⟨v,H2,I3,rw',q2⟩⟩
theorem xX (hu:X.A.units + 1 < cLine)(ho:PE X o td)(hi:PE X i ty)(hv:PE X value tv)(hs:swapsWith value (some (.Subscript o i pos')) pos.line X.env=pure false):
  PS X (.Assign [.Subscript o i pos'] value pos) (AS td ty tv):=by
 intro pins s σ H D I h;refine wpAny_Assign_Subscript (thn (@hv pins s σ H _ I h) fun r s1 ⟨v,H1,I1,rv,q1⟩=>thn (@ho pins s1 σ H1 _ I1 q1) fun u s2 ⟨x,H2,I2,rx,q2⟩=>thn (@hi pins s2 σ H2 _ I2 q2) fun iv s3 ⟨y,H3,I3,ry,a,H4,ex,g,q3⟩ =>?_) hs;subst ex;obtain rfl:u=Value.ref a:=rx;exact vp hu I3 g ry rv fun s4 I4=>⟨σ,H4,I4,q3⟩
end
theorem xj {P:Program}{w:World}{H:Hp}(h:Heap)(hb:sysModules < h.objs.size):bT P w H (h.push { cls:=.type "dict",data:=.dict #[] }) h.objs.size (.dK []) :=
 ⟨Cr _,beq_eq_false_iff_ne.mpr (Ne.symm (Cn hb)),[],.nil,Heap.DictOf.new h⟩
def zq:TE:=fun _ H Q=>∀ p,H p=none→Q (.ref p) (upd H p (.dK []))
section
theorem wy:PE X (.Dict [] [] pos) zq:=fun pins s σ H Q I h =>
 wpAny_Dict_empty ⟨.ref s.heap.objs.size,_,I.laid (a:=s.heap.objs.size) (o:=.dK []) (t':=s.toks) (fun _ _ q=>B2 _ q) (B7 _) (xj s.heap I.big),rfl,h _ (I.hok.fresh (B7 _))⟩
end
section
variable {pins:List (Addr × Obj)}{σ:St}{a:Addr}{y d:V}{u r:Value}{o:Option V}{E:Value→Shared→Prop}
end
section
variable {o e f:Expr}{apos cpos:Pos}{td ty tx:TE}
end
section
variable {pins:List (Addr × Obj)}{σ:St}{a:Addr}{kvs:List (Key × V)}{E:Value→Shared→Prop}
end
section
variable {pins:List (Addr × Obj)}{σ:St}{a:Addr}{y:V}{u:Value}{E:Value→Shared→Prop}
end
section
variable {κ:Type}[DecidableEq κ]
end
end L2
set_option maxHeartbeats 4000000
namespace L2
open PySem PySem.Spec PyProof.Rows
variable {H:Hp}{X:Cx}{s:Shared}{pos:Pos}{prog:Program}{A:Around}{K:PySem.W.Frag}
def Itg (n:Nat)(g:Nat→V):It:=⟨fun i _=>i < n,fun i H x H'=>H'=H∧x=g i,fun i _=>n≤i⟩
theorem ny {P:Program}{w:World}{K:PySem.W.Frag}{tg:Expr}{it:Addr}{n:Nat}{Pn:Nat→Value→Prop}{St:Nat→Heap→Prop}{g:Nat→V}
  (W:∀ A:Around,A.handled=none→Walks P w A it [it] [it] n Pn St) (hv:∀ i v,Pn i v→a_ (g i) v)
  (hk:∀ i h h',St i h→(∀ o,h.get? it=some o→h'.get? it=some o)→St i h')
  (hself:∀ (A:Around) (i:Nat) (s:Shared) (Q:Value→Shared→Prop) (E:Value→Shared→Prop),St i s.heap→Q (.ref it) s→wpAny (model P w) A (pyIter (.ref it)) Q E s)
  (ho:∀ i h,St i h→∃ o c vs,h.get? it=some o∧o.cls=.type c∧o.data=.fields vs ∧
   ["enumerate","zip","dict_itemiterator","dict_reverseitemiterator","odict_iterator","itertools.zip_longest","itertools.pairwise"].contains c=false) :
  sY P w K tg (Itg n g) [it] it (fun i h=>i≤n∧St i h) where
 mem:=by simp
 obj:=fun i h st b hb=>by
  have e:b=it:=by simpa using hb
  subst e;obtain⟨o,c,vs,e,_,d,_⟩:=ho i h st.2;exact⟨o,e,fun v z=>by rw[d]at z;cases z⟩
 keep:=fun i h h' st k=>⟨st.1,hk i h h' st.2 fun o e=>k it (by simp) o e⟩
 item:=by
  intro X hP hw hK hc i pins s σ H E I hf st hg;subst hP hw hK;obtain⟨f0,f1,f2,f3,f4,f5⟩:=hf it (by simp);refine (W X.A (I.ok.hd hc)).item i s _ _ hg st.2 fun v h' tk hP st' kk =>?_;have I1:Inv X pins σ H { s with heap:=h',toks:=tk }:=I.turned (fun b o hb e=>kk b o (by simpa using hb) e) f0 f1 f3 f4 f5;obtain⟨o,c,vs,e,hcls,d,hn⟩:=ho _ _ st';exact⟨v,rfl,tQ (s:={ s with heap:=h',toks:=tk }) e hcls d hn ⟨g i,H,I1,hv i v hP,⟨rfl,rfl⟩,⟨hg,st'⟩,fun b hb=>(hf b hb).1⟩⟩
 done:=by
  intro X hP hw hK hc i pins s σ H E I hf st hg;subst hP hw hK;obtain⟨f0,f1,f2,f3,f4,f5⟩:=hf it (by simp);have hg':n≤i:=hg;have e:i=n:=Nat.le_antisymm st.1 hg';subst e;exact (W X.A (I.ok.hd hc)).done s _ _ st.2 fun h' tk kk=>⟨rfl,I.turned (fun b o hb e=>kk b o (by simpa using hb) e) f0 f1 f3 f4 f5⟩
 self:=fun A i s Q E st h=>hself A i s Q E st.2 h
theorem yA {n:Nat}{g':Nat→V}{g:TG}{tb:TS}{D:hJ}{σ:St}{H:Hp}(Pv:Nat→St→Hp→Prop)(h0:Pv 0 σ H)
  (hs:∀ i σ H,i < n→Pv i σ H→g (g' i) σ H fun σ2 H2=>tb { D with nx:=Pv (i + 1),ct:=Pv (i + 1),bk:=D.nx } σ2 H2) (hd:∀ σ H,Pv n σ H→D.nx σ H) :
  ∃ W:Nat→Nat→St→Hp→Prop,(∃ m,W 0 m σ H)∧∀ i m σ H,W i m σ H →
   ((Itg n g').stop i H∧D.nx σ H)∨((Itg n g').go i H∧∃ N:St→Hp→Prop,(∀ σ' H',N σ' H'→∃ m',m' < m∧W (i + 1) m' σ' H')∧∀ x H',(Itg n g').yld i H x H'→g x σ H' fun σ2 H2=>tb { D with nx:=N,ct:=N,bk:=D.nx } σ2 H2):=by
 refine⟨fun i m σ H=>m=n - i∧i≤n∧Pv i σ H,⟨n,by simp,Cr _,h0⟩,?_⟩;rintro i m σ H ⟨rfl,hi,p⟩;by_cases hlt:i < n
 ·refine .inr ⟨hlt,Pv (i + 1),fun σ' H' p'=>⟨n - (i + 1),by omega,rfl,hlt,p'⟩,fun x H' y =>?_⟩;obtain⟨e,y⟩:=y;subst e y;exact hs i σ _ hlt p
 ·have e:i=n:=by omega
  subst e;exact .inl ⟨B7 _,hd σ H p⟩
section
variable {tg:Expr}
def sgn (z:Str)(i:Nat):Str:=⟨#[z.cps.getD i 0]⟩
def BQ (tl:TE):TI:=fun σ H R=>tl σ H fun x H1=>∃ z,x=.str z∧R (Itg z.length fun i=>.str (sgn z i)) H1
theorem rq {z:Str}{i:Nat}{v:Value}(h:SignAt z i v):a_ (.str (sgn z i)) v:=by
 obtain⟨c,u,hc,rfl⟩:=h;refine⟨u,?_⟩;have e:z.cps.getD i 0=c:=by simp[CF,hc]
 unfold sgn;rw[e]
theorem oP {l:Expr}{tl:TE}(hl:PE X l tl):PI X tg l (BQ tl):=by
 intro pins s σ H R I h;refine thn (@hl pins s σ H _ I h) fun v s1 ⟨x,H1,I1,r1,q1⟩ =>?_;obtain⟨z,e,q⟩:=q1;subst e;obtain⟨t,rfl⟩:=r1;have fp:∀ b∈[s1.heap.objs.size],mP X pins H1 b:=fun b hb=>by
  have e:b=s1.heap.objs.size:=by simpa using hb
  subst e;exact I1.fpOk (B7 _) (I1.hok.fresh (B7 _))
 cases ha:z.cps.all (· < 128)
 ·refine wpAny_pyIter_wide ha ?_;refine⟨s1.heap.objs.size,[s1.heap.objs.size],_,_,H1,rfl,I1.kept (t':=s1.toks) fun b o e=>B2 _ e,
   ny (St:=fun i h=>h.IsStrIter s1.heap.objs.size "str_iterator" z t i) (fun A hA=>Walks.strWide hA _ z t) (fun i v=>rq) (fun i h h' st k=>let ⟨o,ho,r⟩:=st;⟨o,k o ho,r⟩) (fun A i s Q E st hQ=>wpAny_pyIter_striter_wide st hQ)
    (fun i h st=>let ⟨o,ho,hc,hd⟩:=st;⟨o,_,_,ho,hc,hd,by decide⟩),⟨Cr _,⟨_,Ca _ rfl,rfl,rfl⟩⟩,fp,q⟩
 ·refine wpAny_pyIter_ascii ha ?_;refine⟨s1.heap.objs.size,[s1.heap.objs.size],_,_,H1,rfl,I1.kept (t':=s1.toks) fun b o e=>B2 _ e,
   ny (St:=fun i h=>h.IsStrIter s1.heap.objs.size "str_ascii_iterator" z t i) (fun A hA=>Walks.strAscii hA _ z t) (fun i v=>rq) (fun i h h' st k=>let ⟨o,ho,r⟩:=st;⟨o,k o ho,r⟩) (fun A i s Q E st hQ=>wpAny_pyIter_striter_ascii st hQ)
    (fun i h st=>let ⟨o,ho,hc,hd⟩:=st;⟨o,_,_,ho,hc,hd,by decide⟩),⟨Cr _,⟨_,Ca _ rfl,rfl,rfl⟩⟩,fp,q⟩
end
section
theorem cu:eJ X (.type "int") (fun xs H Q=>∃ z n,xs=[.str z]∧PySem.intText? z=some n∧z.length≤640∧Q (.int n) H):=by
 intro pins s σ H xs us Q I r h;obtain⟨z,n,rfl,hn,hl,q⟩:=h;obtain⟨u,rfl,t,rfl⟩:=iV r;exact PySem.W.KIN.call_text hn hl ⟨.int n,H,I.tok _,⟨_,rfl⟩,q⟩
theorem lG:∀ {ys:List Str} {us:List Value},aX (ys.map V.str) us→StrsAre us ys
 | [],us,r=>by rw[DN]at r;cases r;exact .nil
 | y::ys,us,r=>by
  rw[Ct]at r;cases r with
  | cons r1 r2 =>
   obtain⟨t,e⟩:=r1;subst e;exact .cons y t (lG r2)
def yU (K:PySem.W.Frag):V→List V→Hp→VK→Prop:=fun x vs H Q=>∃ z a ys,x=.str z∧vs=[.ref a]∧SqL K H a (ys.map V.str)∧(ys.map (·.length)).sum + ys.length * z.length≤16777216∧Q (.str (Txt.join z ys)) H
theorem fV:MtR X "str.join" (yU X.K):=by
 intro pins s σ H x vs v us Q I rx rv h;obtain⟨z,a,ys,rfl,rfl,hS,hz,q⟩:=h;obtain⟨t,rfl⟩:=rx;obtain⟨u,rfl,ru⟩:=rv.one;cases ru;obtain⟨its,r,pl,_⟩:=I.list hS;exact join_list pl.isList (by simpa using lG r) hz fun t' k=>⟨.str _,H,I.tok _,⟨_,rfl⟩,q⟩
def BH:V→Option Int→Option Int→Hp→VK→Prop:=fun x lo hi H Q=>∃ z,x=.str z∧z.length≤sizeLine∧Q (.str (Txt.slice z lo hi)) H
theorem eT:SlR X BH:=by
 intro pins s σ H x v vl vu lo hi sl Q I rx hs pl pu h;obtain⟨z,rfl,hz,q⟩:=h;obtain⟨t,rfl⟩:=rx;refine⟨"str",_,F.slot_str_getitem.lookup,typeIs_str _ _ _,?_⟩
 obtain⟨o,e1,e2,e3⟩:=hs;have fin:∀ (z':Str) (t':Tok) (k:Nat),z'=Txt.slice z lo hi→EP X pins σ Q (.str z' t') { s with toks:=k }:=fun z' t' k e=>by
  subst e;exact⟨.str _,H,I.tok _,⟨_,rfl⟩,q⟩
 cases pl with
 | none =>
  cases pu with
  | none=>exact wpAny_getItem_str_slice (l:=none) (u:=none) (st:=none) ⟨o,e1,e2,e3⟩ rfl (post_val_or_str ⟨Cq (Txt.slice_le z _ _) hz,fun t' k=>fin _ t' k rfl⟩)
  | int j uj=>exact wpAny_getItem_str_slice (l:=none) (u:=some (j,uj)) (st:=none) ⟨o,e1,e2,e3⟩ rfl (post_val_or_str ⟨Cq (Txt.slice_le z _ _) hz,fun t' k=>fin _ t' k rfl⟩)
 | int i ui =>
  cases pu with
  | none=>exact wpAny_getItem_str_slice (l:=some (i,ui)) (u:=none) (st:=none) ⟨o,e1,e2,e3⟩ rfl (post_val_or_str ⟨Cq (Txt.slice_le z _ _) hz,fun t' k=>fin _ t' k rfl⟩)
  | int j uj=>exact wpAny_getItem_str_slice (l:=some (i,ui)) (u:=some (j,uj)) (st:=none) ⟨o,e1,e2,e3⟩ rfl (post_val_or_str ⟨Cq (Txt.slice_le z _ _) hz,fun t' k=>fin _ t' k rfl⟩)
def AX (K:PySem.W.Frag)(T:String):List V→Hp→VK→Prop:=fun xs H Q=>∃ x t b,xs=[x,.ty T]∧fg K H x t∧PySem.W.kitOne K t (.type T)=some b∧Q (.bl b) H
theorem bN (T:String):eJ X (.builtin "isinstance") (AX X.K T):=by
 intro pins s σ H xs us Q I r h;obtain⟨x,t,b,rfl,ty,hk,q⟩:=h;obtain⟨u,c,rfl,rx,rc⟩:=pQ r;cases (show c=.type T from rc);exact ve I rx ty hk fun tk=>⟨.bl b,H,I.tok _,rfl,q⟩
end
section
variable {w:World}{R:Result→Shared→Prop}
def vT (ifs:List Expr)(env:Env):Sem Bool:=forIn ifs true fun c r=>if r=true then do
  let ok ← isTrue c env (eval c env)
  pure (ForInStep.yield ok)
 else pure (ForInStep.yield r)
theorem gW {elt target iter:Expr}{ifs:List Expr}{scope:Scope}{pos:Pos}{it acc:Value}{env:Env}(I:Nat→Shared→Prop)
  (turn:∀ n s,I n s→wpAny (model prog w) A (pyNext it) (fun r s1=>match r with
   | none=>R (.ok .next) s1
   | some v=>wpAny (model prog w) A (letOwnedTupleGo target it v) (fun _ s2=>wpAny (model prog w) A (assign target env v) (fun _ s3 =>
     wpAny (model prog w) A (vT ifs env) (fun ok s4=>if ok=true then
     wpAny (model prog w) A (eval elt env) (fun x s4 =>
      wpAny (model prog w) A (call (.builtin "list.append") [acc,x]) (fun _ s5=>∃ m,m < n∧I m s5) (notedBy (model prog w) A env fun e s'=>R (.error e) s') s4) (notedBy (model prog w) A env fun e s'=>R (.error e) s') s4
     else ∃ m,m < n∧I m s4) (notedBy (model prog w) A env fun e s'=>R (.error e) s') s3)
     (notedBy (model prog w) A env fun e s'=>R (.error e) s') s2) (notedBy (model prog w) A env fun e s'=>R (.error e) s') s1) (notedBy (model prog w) A env fun e s'=>R (.error e) s') s)
  (n:Nat) (h:I n s) :
  codeAny (model prog w) A (.compLoop (.ListComp elt [⟨target,iter,ifs,0⟩] scope pos) 0 it acc env) R s:=by
 refine codeAny_loop rfl I (fun n s hI =>?_) n h;show wpAny _ A ((compTurn (.ListComp elt [⟨target,iter,ifs,0⟩] scope pos) 0 it acc env).onRaise (fun x=>do noteFrame x env;theTreesLotGoes x)) _ _ s;refine wpAny_noted ?_;rw[compTurn_list];refine B4 (wpAny_standAt (B4 (Cv (turn n s hI) (fun r s1 h1 =>?_) fun _ _ h'=>h')));cases r with
 | none=>exact Ch h1
 | some v =>
  refine B4 (Cv h1 (fun _ s2 h2=>B4 (Cv h2 (fun _ s3 h3 =>?_) fun _ _ h'=>h')) fun _ _ h'=>h');refine B4 (Cv h3 (fun ok s4 h4 =>?_) fun _ _ h'=>h');cases ok with
  | false=>exact Ch ⟨rfl,h4⟩
  | true =>
   exact B4 (B4 (Cv h4 (fun x s4 h4=>B4 (Cv h4 (fun _ s5 h5=>Ch (Ch ⟨rfl,h5⟩)) fun _ _ h'=>h')) fun _ _ h'=>h'))
end
section
variable {elt tg iter:Expr}{scope:Scope}{N':List Str}{wi:TI}{g:TG}{te:TE}
theorem HOk.but {P:Program}{w:World}{H:Hp}{h h':Heap}{C:Addr}(x:HOk P w H h)(n:H C=none)(k:∀ b u,b≠C→h.get? b=some u→h'.get? b=some u):HOk P w H h':=fun a o e =>
 (x a o e).stay (fun b u hb q=>k b u (by
  rcases hb with z|z
  ·rw[z];intro z2;rw[z2,n]at e;cases e
  ·intro z2;rw[z2,n]at z;cases z) q) (fun _ q=>q) fun _ _ q=>q
end
section
theorem gZ:∀ {bs:List Bool} {us:List Value},aX (bs.map V.bl) us→LSm.BoolsAre us bs
 | [],us,r=>by rw[DN]at r;cases r;exact .nil
 | b::bs,us,r=>by
  rw[Ct]at r;cases r with
  | cons r1 r2 =>
   cases (show _=Value.bool b from r1);exact .cons b (gZ r2)
theorem jD (hc:X.calm=true):eJ X (.builtin "all") (fun xs H Q=>∃ (a:Addr) (bs:List Bool),xs=[.ref a]∧SqL X.K H a (bs.map V.bl)∧Q (.bl (bs.all id)) H):=by
 intro pins s σ H xs us Q I r h;obtain⟨a,bs,rfl,hS,q⟩:=h;obtain⟨u,rfl,ru⟩:=iV r;cases ru;obtain⟨its,rv,pl,_⟩:=I.list hS;have hb:=gZ rv;have hlt:a < s.heap.objs.size:=by obtain⟨_,e,_⟩:=pl.isList;exact B9 e
 refine call_all_walk (wpAny_pyIter_list pl.isList ?_);refine⟨s.heap.objs.size,[s.heap.objs.size,a],[s.heap.objs.size],its.toArray.size,_,_,fun i=>(bs[i]?).getD true,rfl,Walks.list (A:=X.A.in1) (I.ok.hd hc) _ a (Cn hlt) its.toArray,
  ⟨⟨_,Ca _ rfl,rfl,rfl⟩,pl.isList.push _⟩,fun i v s' Q' E' hP hQ =>?_,fun h' tk hk =>?_⟩
 ·obtain⟨b,e,rfl⟩:=hb.get i v (by simpa using hP);simp only[e,Option.getD_some]at hQ;exact wpAny_truthy_bool hQ
 ·have e:((List.range its.toArray.size).all fun i=>(bs[i]?).getD true)=bs.all id:=by
   rw[Cj,hb.length];exact LSm.range_all bs
  rw[e];exact⟨.bl _,H,I.kept (LSm.kept_iter hk),rfl,q⟩
theorem nk:MtR X "str.startswith" (fun x vs H Q=>∃ z y,x=.str z∧vs=[.str y]∧Q (.bl (Txt.startswith z y)) H):=by
 intro pins s σ H x vs v us Q I rx rv h;obtain⟨z,y,rfl,rfl,q⟩:=h;obtain⟨t,rfl⟩:=rx;obtain⟨u,rfl,tu,rfl⟩:=rv.one;exact SC.startswith ⟨.bl _,H,I,rfl,q⟩
theorem wO:MtR X "str.index" (fun x vs H Q=>∃ z y i rest,x=.str z∧vs=[.str y]∧Builtin.Str.occurrences z y 0 z.length 1=i::rest∧Q (.int (i:Nat)) H):=by
 intro pins s σ H x vs v us Q I rx rv h;obtain⟨z,y,i,rest,rfl,rfl,ho,q⟩:=h;obtain⟨t,rfl⟩:=rx;obtain⟨u,rfl,tu,rfl⟩:=rv.one;exact SC.index ho ⟨.int _,H,I.tok _,⟨_,rfl⟩,q⟩
theorem ml:OpR X (binaryOp .Mult) (fun x y H Q=>∃ z n,x=.str z∧y=.int n∧MulOk z n∧Q (.str (Txt.mul z n)) H):=by
 intro pins s σ H x y v u Q I rx ry h;obtain⟨z,n,rfl,rfl,hz,q⟩:=h;obtain⟨t,rfl⟩:=rx;obtain⟨t',rfl⟩:=ry;exact SB.mul hz (fun t' tk=>⟨.str _,H,I.tok _,⟨_,rfl⟩,q⟩)
end
def bv (CX:CXT):Prop:=∀ outer H s e s',CX outer H s E0 e s'→False
theorem tH {CX:CXT}{X:Cx}(q:bv CX):eI CX X E0:=fun _ _ _ _ _ _ _ h=>(q _ _ _ _ _ h).elim
structure Fok (P:Program)(w:World)(K:PySem.W.Frag)(mg:Str→Option Value)(base:Heap)(CX:CXT)(j:Nat)(x:Str)(ps:List Str)(dvs:List V)(sp:Sp):Prop where
 ex:∃ f fd ds,aO P w K mg base CX j f fd ps sp∧bU K fd ps ds∧aX dvs ds∧PySem.W.keepIn K (.ref f)=true∧mg x=some (.ref f)
section
variable {CX:CXT}{j k:Nat}{ps:List Str}{sp:Sp}{dvs:List V}{E:XK}{x:Str}{p:Pos}{e:Expr}{es:List Expr}{t:TA}
theorem aG (F:Fok X.prog X.w X.K X.mg X.base CX j x ps dvs sp)(hr:cy k X.A)(hx:eI CX X E)(ha:PA X (e::es) t)(hj:j≤k:=by decide)(hg:Gl X x:=by rfl)
  (hdb:(x == ("__debug__" : Str))=false:=by decide) (he:starEach (e::es) X.env=(false,eval e X.env)::starEach es X.env:=by rfl) (hpl:(backTo pos (starEach es X.env)).any (·.1)=false:=by rfl) :
  PE X (.Call (.Name x p) (e::es) [] pos) (lF sp dvs E t):=by
 obtain⟨f,fd,ds,G,b,v,kp,m⟩:=F.ex;exact x8 G (hr.mono hj) hg m kp b v hx ha hdb he hpl
theorem au (F:Fok X.prog X.w X.K X.mg X.base CX j x ps dvs sp)(q:bv CX)(hr:cy k X.A)(ha:PA X (e::es) t)(hj:j≤k:=by decide)(hg:Gl X x:=by rfl)
  (hdb:(x == ("__debug__" : Str))=false:=by decide) (he:starEach (e::es) X.env=(false,eval e X.env)::starEach es X.env:=by rfl) (hpl:(backTo pos (starEach es X.env)).any (·.1)=false:=by rfl) :
  PE X (.Call (.Name x p) (e::es) [] pos) (lF sp dvs E0 t):=aG F hr (tH q) ha hj hg hdb he hpl
end
section
variable {P:Program}{w:World}{mg:Str→Option Value}{base:Heap}
structure aN (K:PySem.W.Frag)(x qual:Str)(st:Stmt)(f:Addr)(fd:FuncData)(dV:Value):Prop where
 ex:∃ (oc:Value) (od:Option Addr) (kV doc pm:Value) (an:Option Addr) (cdv ct:Value) (osl:Array (Option Value)),
  fd=PySem.W.fnOf x qual (bR st) (bt st) (ai st) dV kV doc pm an cdv ct∧K.lookup f=some ⟨oc,od,.func fd,osl⟩∧PySem.W.codeIn K cdv qual=true
 kp:PySem.W.keepIn K (.ref f)=true
theorem lq {x qual:Str}{st:Stmt}{f:Addr}{oc:Value}{od an:Option Addr}{osl:Array (Option Value)}{dV kV doc pm cdv ct:Value}(l:K.lookup f=some ⟨oc,od,.func (PySem.W.fnOf x qual (bR st) (bt st) (ai st) dV kV doc pm an cdv ct),osl⟩)
  (c:PySem.W.codeIn K cdv qual=true) (k:PySem.W.keepIn K (.ref f)=true):aN K x qual st f (PySem.W.fnOf x qual (bR st) (bt st) (ai st) dV kV doc pm an cdv ct) dV:=⟨⟨oc,od,kV,doc,pm,an,cdv,ct,osl,rfl,l,c⟩,k⟩
theorem aN.ok {x qual:Str}{st:Stmt}{f:Addr}{fd:FuncData}{dV:Value}{N ps:List Str}{k:Nat}{sp:Sp}{CX:CXT}(F:aN K x qual st f fd dV)(S:ap N ps (ai st))(len:∀ vs H Q E,sp vs H Q E→vs.length=ps.length)
  (hbody:∀ (cdv:Value) (A:Around) (outer:List Env) (s:Shared) (H:Hp) (vs:List V) (Q:VK) (E:XK),cy k (A.deeper (envOfC qual (ai st) s.heap.objs.size f cdv))→sp vs H Q E →
   ∃ t,PSs (fe CX P w K mg base N qual (ai st) f cdv A outer s H E).nox (bt st) t∧t { nx:=fun _ H'=>Q .non H',rt:=Q } (dI N vs) H):aO P w K mg base CX (k + 1) f fd ps sp:=by
 obtain⟨oc,od,kV,doc,pm,an,cdv,ct,osl,rfl,lk,hcd⟩:=F.ex;refine za lk hcd S len fun A outer s H vs Q E hr hsp =>?_;obtain⟨t,h,q⟩:=hbody cdv A outer s H vs Q E hr hsp;exact⟨t,h.nox,q⟩
theorem aN.okX {x qual:Str}{st:Stmt}{f:Addr}{fd:FuncData}{dV:Value}{N ps:List Str}{k:Nat}{sp:Sp}{CX:CXT}(F:aN K x qual st f fd dV)(S:ap N ps (ai st))(len:∀ vs H Q E,sp vs H Q E→vs.length=ps.length)
  (hbody:∀ (cdv:Value) (A:Around) (outer:List Env) (s:Shared) (H:Hp) (vs:List V) (Q:VK) (E:XK),cy k (A.deeper (envOfC qual (ai st) s.heap.objs.size f cdv))→sp vs H Q E →
   ∃ t,PSs (fe CX P w K mg base N qual (ai st) f cdv A outer s H E) (bt st) t∧t { nx:=fun _ H'=>Q .non H',rt:=Q } (dI N vs) H):aO P w K mg base CX (k + 1) f fd ps sp:=by
 obtain⟨oc,od,kV,doc,pm,an,cdv,ct,osl,rfl,lk,hcd⟩:=F.ex;exact za lk hcd S len fun A outer s H vs Q E hr hsp=>hbody cdv A outer s H vs Q E hr hsp
theorem aN.binds {x qual:Str}{st:Stmt}{f:Addr}{fd:FuncData}{dV:Value}{ps:List Str}(F:aN K x qual st f fd dV)
  (h:∀ (kV doc pm:Value) (an:Option Addr) (cdv ct:Value) (us:List Value),us.length=ps.length→bindArgs (PySem.W.fnOf x qual (bR st) (bt st) (ai st) dV kV doc pm an cdv ct) ⟨us,[]⟩=pure (ps.zip us)):bU K fd ps []:=by
 obtain⟨oc,od,kV,doc,pm,an,cdv,ct,osl,rfl,lk,hcd⟩:=F.ex;exact .all (h kV doc pm an cdv ct)
theorem aN.bindsD {x qual:Str}{st:Stmt}{f t:Addr}{fd:FuncData}{ps:List Str}{o:Obj}{items:Array Value}{n:Nat}{ds:List Value}(F:aN K x qual st f fd (.ref t))(ho:K.lookup t=some o)(hs:o.data=.seq items n)
  (h:∀ (kV doc pm:Value) (an:Option Addr) (cdv ct:Value) (us:List Value),(us++ds).length=ps.length →
   ∃ k,bindArgs (PySem.W.fnOf x qual (bR st) (bt st) (ai st) (.ref t) kV doc pm an cdv ct) ⟨us,[]⟩=seqItems? (.ref t) >>= k∧k (some items)=pure (ps.zip (us++ds))):bU K fd ps ds:=by
 obtain⟨oc,od,kV,doc,pm,an,cdv,ct,osl,rfl,lk,hcd⟩:=F.ex;intro s us X hl;obtain⟨k,h1,h2⟩:=h kV doc pm an cdv ct us hl;exact BindsTo.of_defaults rfl (X _ _ ho) hs h1 h2
theorem fok {CX:CXT}{j:Nat}{x qual:Str}{st:Stmt}{f:Addr}{fd:FuncData}{dV:Value}{ps:List Str}{sp:Sp}(F:aN K x qual st f fd dV)(G:aO P w K mg base CX j f fd ps sp)(b:bU K fd ps [])(m:mg x=some (.ref f)):
  Fok P w K mg base CX j x ps [] sp:=⟨f,fd,[],G,b,.nil,F.kp,m⟩
theorem BW {CX:CXT}{j:Nat}{x qual:Str}{st:Stmt}{f:Addr}{fd:FuncData}{dV:Value}{ps:List Str}{sp:Sp}{ds:List Value}{dvs:List V}(F:aN K x qual st f fd dV)(G:aO P w K mg base CX j f fd ps sp)(b:bU K fd ps ds)(v:aX dvs ds)(m:mg x=some (.ref f)):
  Fok P w K mg base CX j x ps dvs sp:=⟨f,fd,ds,G,b,v,F.kp,m⟩
end
section
def zf (i j:Int):Prop:=0 < j∧j < 2 ^ 1000
theorem cF:OpR X (binaryOp .FloorDiv) (rI zf fun i j=>.int (i / j)):=opI fun i j _ _ _ _ _ hc q=>by
 have h1:(0:Int) < j:=hc.1;have h2:j < 2 ^ 1000:=hc.2;refine floordiv_int (by omega) (by rw[Int.fdiv_eq_ediv_of_nonneg i (by omega)];exact q) (.inl (PyProof.noPylong_of_log2 ?_));have e:j.natAbs.log2 < 1000:=by
  refine (Nat.log2_lt (by omega)).mpr ?_;have e2:((j.natAbs:Nat):Int)=j:=by omega
  have e3:((2 ^ 1000:Nat):Int)=(2:Int) ^ 1000:=by rw[Int.natCast_pow];rfl
  omega
 omega
theorem gX {i j:Int}(h0:0 < j)(h1:j < 1000000000000000000000000):zf i j:=⟨h0,Int.lt_trans h1 (by decide +kernel)⟩
end
theorem gY:bootBuiltins "int" = some (.type "int"):=by decide +kernel
theorem eF:bootBuiltins "str" = some (.type "str"):=by decide +kernel
theorem yG:bootBuiltins "bool" = some (.type "bool"):=by decide +kernel
theorem yE:bootBuiltins "list" = some (.type "list"):=by decide +kernel
theorem dj:bootBuiltins "tuple" = some (.type "tuple"):=by decide +kernel
theorem ay:bootBuiltins "isinstance" = some (.builtin "isinstance"):=by decide +kernel
theorem Aw:bootBuiltins "max" = some (.builtin "max"):=by decide +kernel
theorem Av:bootBuiltins "min" = some (.builtin "min"):=by decide +kernel
theorem pI:bootBuiltins "all" = some (.builtin "all"):=by decide +kernel
theorem Ax:bootBuiltins "any" = some (.builtin "any"):=by decide +kernel
theorem ck:bootBuiltins "len" = some (.builtin "len"):=by decide +kernel
section
theorem zX:PySem.W.kitOne K (.type "int") (.type "int")=some true:=by kernel_rfl
theorem zY:PySem.W.kitOne K (.type "int") (.type "bool")=some false:=by kernel_rfl
theorem kit_is:PySem.W.kitOne K (.type "int") (.type "str")=some false:=by kernel_rfl
theorem sM:PySem.W.kitOne K (.type "str") (.type "str")=some true:=by kernel_rfl
theorem iQ:PySem.W.kitOne K (.type "tuple") (.type "tuple")=some true:=by kernel_rfl
theorem zV:PySem.W.kitOne K (.type "NoneType") (.type "str")=some false:=by kernel_rfl
theorem zW:PySem.W.kitOne K (.type "list") (.type "str")=some false:=by kernel_rfl
theorem zU:PySem.W.kitOne K (.type "tuple") (.type "str")=some false:=by kernel_rfl
end
inductive SK where
 | l | t
def SK.it:SK→Heap→Addr→Addr→Nat→Prop
 | .l,h,b,a,i=>h.IsListIter b a i
 | .t,h,b,a,i=>h.IsTupleIter b a i
def SK.sq:SK→Heap→Addr→Array Value→Prop
 | .l,h,a,xs=>h.IsList a xs
 | .t,h,a,xs=>h.IsTuple a xs
def SK.ob:SK→Addr→Obj
 | .l,a=>{ cls:=.type "list_iterator",data:=.fields #[.ref a,.int 0 0] }
 | .t,a=>{ cls:=.type "tuple_iterator",data:=.fields #[.ref a,.int 0 0] }
theorem SK.it_at {k:SK}{h h':Heap}{b a:Addr}{i:Nat}(x:k.it h b a i)(e:∀ o,h.get? b=some o→h'.get? b=some o):k.it h' b a i:=by
 cases k
 ·exact Heap.IsListIter.at x e
 ·obtain⟨o,ho,r⟩:=x;exact⟨o,e o ho,r⟩
theorem SK.sq_at {k:SK}{h h':Heap}{a:Addr}{xs:Array Value}(x:k.sq h a xs)(e:∀ o,h.get? a=some o→h'.get? a=some o):k.sq h' a xs:=by
 cases k
 ·exact Heap.IsList.at x e
 ·exact Heap.IsTuple.at x e
theorem SK.it_ob {k:SK}{h:Heap}{b a:Addr}{i:Nat}(x:k.it h b a i):∃ o,h.get? b=some o∧∃ vs,o.data=.fields vs:=by
 cases k
 ·obtain⟨o,ho,_,d⟩:=x;exact⟨o,ho,_,d⟩
 ·obtain⟨o,ho,_,d⟩:=x;exact⟨o,ho,_,d⟩
theorem SK.sq_lt {k:SK}{h:Heap}{a:Addr}{xs:Array Value}(x:k.sq h a xs):a < h.objs.size:=by
 cases k
 ·obtain⟨o,ho,_⟩:=x;exact B9 ho
 ·obtain⟨o,ho,_⟩:=x;exact B9 ho
section
variable {w:World}{E:Value→Shared→Prop}
theorem jv {it t:Addr}{i:Nat}{items}{x:Value}{Q:Value→Shared→Prop}(hit:s.heap.IsTupleIter it t i)(ht:s.heap.IsTuple t items)(hx:items[i]? = some x)
  (hQ:∀ h',h'.IsTupleIter it t (i + 1)→Heap.SameBut it s.heap h'→Q x { s with heap:=h' }):wpAny (model prog w) A (Builtin.SmallTypes.nextOf (.ref it)) Q E s:=by
 obtain⟨o,ho,hc,hd⟩:=id hit;obtain⟨ol,hol,_,nl,hdl⟩:=ht;unfold Builtin.SmallTypes.nextOf;refine B4 (wpAny_callSpecial?_slot (name:=Str.ofString "__next__") hit.typeIs slot_tupleiter_next (wpAny_call_entry slot_tupleiter_next hit.typeIs entry_tupleiter_next ?_ (args_tupleiter_next _)))
 show wpAny _ _ (field (.ref it) 0 >>= _) _ _ s;refine B4 (wpAny_field ho hd (x:=.ref t) rfl ?_);show wpAny _ _ (if (Value.ref t == Value.none)=true then _ else _) _ _ s;rw[if_neg (show ¬ ((Value.ref t == Value.none)=true) from Ci)];show wpAny _ _ (field (.ref it) 1 >>= _) _ _ s;refine B4 (wpAny_field ho hd (x:=.int i 0) rfl ?_);show wpAny _ _ (seqItems? (.ref t) >>= _) _ _ s;refine B4 (wpAny_seqItems hol hdl ?_);simp only[CL,hx];refine B4 (wpAny_setField ho hd (by simp) (Ch ⟨x,rfl,Ch (hQ _ ?_ (Heap.SameBut.update ..))⟩));exact⟨_,C7 _ ho (Obj.isFreed_of_fields (Obj.data_mapFields hd _)),(Obj.cls_mapFields ..).trans hc,by
  rw[Obj.data_mapFields hd];simp[rawInt]⟩
theorem j8 {it t:Addr}{i:Nat}{items}{Q:Value→Shared→Prop}(hh:A.handled=none)(hit:s.heap.IsTupleIter it t i)(ht:s.heap.IsTuple t items)(hx:items[i]? = none)
  (hE:∀ h' e,Heap.ExtBut it s.heap h'→(∃ o,h'.get? e=some o∧o.cls=.type "StopIteration")→E (.ref e) { s with heap:=h' }):wpAny (model prog w) A (Builtin.SmallTypes.nextOf (.ref it)) Q E s:=by
 obtain⟨o,ho,hc,hd⟩:=id hit;obtain⟨ol,hol,_,nl,hdl⟩:=ht;unfold Builtin.SmallTypes.nextOf;refine B4 (wpAny_callSpecial?_slot (name:=Str.ofString "__next__") hit.typeIs slot_tupleiter_next (wpAny_call_entry slot_tupleiter_next hit.typeIs entry_tupleiter_next ?_ (args_tupleiter_next _)))
 show wpAny _ _ (field (.ref it) 0 >>= _) _ _ s;refine B4 (wpAny_field ho hd (x:=.ref t) rfl ?_);show wpAny _ _ (if (Value.ref t == Value.none)=true then _ else _) _ _ s;rw[if_neg (show ¬ ((Value.ref t == Value.none)=true) from Ci)];show wpAny _ _ (field (.ref it) 1 >>= _) _ _ s;refine B4 (wpAny_field ho hd (x:=.int i 0) rfl ?_);show wpAny _ _ (seqItems? (.ref t) >>= _) _ _ s;refine B4 (wpAny_seqItems hol hdl ?_);simp only[CL,hx];refine B4 (wpAny_rule (B4 (wpAny_setField ho hd (by simp) ?_)));show wpAny _ _ (newExc (.type "StopIteration") [] >>= _) _ _ _
 refine B4 ?_;simp only[newExc,newTuple];refine B4 (wpAny_newObj_type ?_ (by size_fits));refine B4 (m:=firstArgMember _ _) (wpAny_of_eq (a:=Value.none) (by first | rfl | (simp only[firstArgMember];rfl)) ?_);refine wpAny_newObj_type ?_ (by size_fits);simp only[raiseNew];refine B4 (wpAny_handled ?_)
 first | rw[show A.in1.handled=none from hh] | rw[hh]
 refine B4 (Ch (wpAny_throw ?_));exact hE _ _ (((Heap.SameBut.update ..).extBut.push _).push _) ⟨_,Ca _ rfl,rfl⟩
theorem SK.next {k:SK}{it a:Addr}{i:Nat}{xs:Array Value}{x:Value}{Q:Value→Shared→Prop}(hit:k.it s.heap it a i)(hs:k.sq s.heap a xs)(hx:xs[i]? = some x)
  (hQ:∀ h',k.it h' it a (i + 1)→Heap.SameBut it s.heap h'→Q x { s with heap:=h' }):wpAny (model prog w) A (Builtin.SmallTypes.nextOf (.ref it)) Q E s:=by
 cases k
 ·exact wpAny_nextOf_list_item hit hs hx hQ
 ·exact jv hit hs hx hQ
theorem SK.stop {k:SK}{it a:Addr}{i:Nat}{xs:Array Value}{Q:Value→Shared→Prop}(hh:A.handled=none)(hit:k.it s.heap it a i)(hs:k.sq s.heap a xs)(hx:xs[i]? = none)
  (hE:∀ h' e,Heap.ExtBut it s.heap h'→(∃ o,h'.get? e=some o∧o.cls=.type "StopIteration")→E (.ref e) { s with heap:=h' }):wpAny (model prog w) A (Builtin.SmallTypes.nextOf (.ref it)) Q E s:=by
 cases k
 ·exact wpAny_nextOf_list_end hh hit hs hx hE
 ·exact j8 hh hit hs hx hE
theorem SK.iter {k:SK}{a:Addr}{xs:Array Value}{Q:Value→Shared→Prop}(hs:k.sq s.heap a xs)(hQ:Q (.ref s.heap.objs.size) { s with heap:=s.heap.push (k.ob a) }):wpAny (model prog w) A (pyIter (.ref a)) Q E s:=by
 cases k
 ·exact wpAny_pyIter_list hs hQ
 ·exact wpAny_pyIter_tuple hs hQ
theorem SK.it_new {k:SK}{h:Heap}{a:Addr}:k.it (h.push (k.ob a)) h.objs.size a 0:=by
 cases k
 ·exact⟨_,Ca _ rfl,rfl,rfl⟩
 ·exact⟨_,Ca _ rfl,rfl,rfl⟩
structure ZAp (z TI TO i1 i2:Addr):Prop where
 TIz:TI≠z
 TOz:TO≠z
 i1z:i1≠z
 i2z:i2≠z
 TITO:TI≠TO
 TIi1:TI≠i1
 TIi2:TI≠i2
 TOi1:TO≠i1
 TOi2:TO≠i2
 i12:i1≠i2
structure Off (z TO i1 i2 a:Addr):Prop where
 z:a≠z
 TO:a≠TO
 i1:a≠i1
 i2:a≠i2
def Kp (z TO i1 i2:Addr)(h h':Heap):Prop:=∀ c o,Off z TO i1 i2 c→h.get? c=some o→h'.get? c=some o
theorem vG {k1 k2:SK}{z TI TO i1 i2 l1 l2:Addr}{n:Nat}{xs ys:Array Value}{x y a b:Value}{Q:Option Value→Shared→Prop}(D:ZAp z TI TO i1 i2)(o1:Off z TO i1 i2 l1)(o2:Off z TO i1 i2 l2)
  (hz:IsZip s.heap z TI TO .none) (hTI:IsPair s.heap TI (.ref i1) (.ref i2)) (hTO:IsPair s.heap TO a b) (h1:k1.it s.heap i1 l1 n) (h2:k2.it s.heap i2 l2 n) (s1:k1.sq s.heap l1 xs) (s2:k2.sq s.heap l2 ys)
  (hx:xs[n]? = some x) (hy:ys[n]? = some y)
  (hQ:∀ h',IsZip h' z TI TO (rawInt s.heap.objs.size)→IsPair h' TI (.ref i1) (.ref i2)→IsPair h' TO x y→k1.it h' i1 l1 (n + 1)→k2.it h' i2 l2 (n + 1)→IsPair h' s.heap.objs.size x y→Kp z TO i1 i2 s.heap h'→Q (some (.ref s.heap.objs.size)) { s with heap:=h' }) :
  wpAny (model prog w) A (pyNext (.ref z)) Q E s:=by
 have hT:s.TypeIs (.ref z) "zip" := ⟨_,hz,rfl⟩
 unfold pyNext;refine B4 (wpAny_attempt (wpAny_callSpecial?_slot (name:=Str.ofString "__next__") hT F.slot_zip_next (wpAny_call_entry F.slot_zip_next hT F.entry_zip_next ?_ (F.args_zip_next_1 _))))
 show wpAny _ _ (field (.ref z) 2 >>= _) _ _ _;refine B4 (wpAny_field hz rfl (x:=.bool false) rfl ?_);show wpAny _ _ (field (.ref z) 3 >>= _) _ _ _;refine B4 (wpAny_field hz rfl (x:=.ref TI) rfl ?_);refine B4 (wpAny_seqItems hTI rfl ?_);show wpAny _ _ (Builtin.SmallTypes.ownedTupleIsFree (.ref z) >>= _) _ _ _;refine B4 ?_;unfold Builtin.SmallTypes.ownedTupleIsFree;refine B4 (wpAny_field hz rfl (x:=.none) rfl (Ch ?_));simp only[if_true];refine B4 (wpAny_rule ?_);refine B4 (wpAny_field hz rfl (x:=.ref TO) rfl ?_);refine B4 (wpAny_setField_rec hz (by simp) fun g1 z1 b1 =>?_)
 replace z1:IsZip g1 z TI TO .ellipsis:=z1
 refine B4 ?_;simp only[List.zipIdx_cons,List.zipIdx_nil,List.forIn_cons,List.forIn_nil];refine B4 (B4 (wpAny_onRaise ?_));show wpAny _ _ (Builtin.SmallTypes.nextOf (.ref i1) >>= _) _ _ _;refine B4 (SK.next (SK.it_at h1 fun o e=>b1.extBut _ _ D.i1z e) (SK.sq_at s1 fun o e=>b1.extBut _ _ o1.z e) hx fun g2 j1 b2=>Ch ?_);have t2:IsPair g2 TO a b:=b2.extBut _ _ D.TOi1 (b1.extBut _ _ D.TOz hTO);refine B4 (wpAny_seqItems t2 rfl ?_);refine B4 (wpAny_updateSeq_pair t2 fun g3 t3 b3 =>?_)
 replace t3:IsPair g3 TO x b:=t3
 refine B4 (wpAny_letGo (Ch ?_));refine B4 (B4 (wpAny_onRaise ?_));show wpAny _ _ (Builtin.SmallTypes.nextOf (.ref i2) >>= _) _ _ _;refine B4 (SK.next (SK.it_at h2 fun o e=>b3.extBut _ _ D.TOi2.symm (b2.extBut _ _ D.i12.symm (b1.extBut _ _ D.i2z e))) (SK.sq_at s2 fun o e=>b3.extBut _ _ o2.TO (b2.extBut _ _ o2.i1 (b1.extBut _ _ o2.z e))) hy fun g4 j2 b4=>Ch ?_);have t4:IsPair g4 TO x b:=b4.extBut _ _ D.TOi2 t3;refine B4 (wpAny_seqItems t4 rfl ?_);refine B4 (wpAny_updateSeq_pair t4 fun g5 t5 b5 =>?_)
 replace t5:IsPair g5 TO x y:=t5
 refine B4 (wpAny_letGo (Ch (Ch ?_)));refine B4 (wpAny_seqItems t5 rfl ?_);refine B4 (wpAny_newTuple ?_);have sz:g5.objs.size=s.heap.objs.size:=by rw[b5.1,b4.1,b3.1,b2.1,b1.1]
 have z5:IsZip g5 z TI TO .ellipsis:=b5.extBut _ _ D.TOz.symm (b4.extBut _ _ D.i2z.symm (b3.extBut _ _ D.TOz.symm (b2.extBut _ _ D.i1z.symm z1)));have kp:Kp z TO i1 i2 s.heap g5:=fun c o f e=>b5.extBut _ _ f.TO (b4.extBut _ _ f.i2 (b3.extBut _ _ f.TO (b2.extBut _ _ f.i1 (b1.extBut _ _ f.z e))));have zlt:z < g5.objs.size:=B9 z5;show wpAny _ _ (Builtin.SmallTypes.ownedTupleHandOut (.ref z) (.ref g5.objs.size) >>= _) _ _ _;refine B4 ?_;unfold Builtin.SmallTypes.ownedTupleHandOut;have z6:IsZip (g5.push { cls:=.type "tuple",data:=.seq #[x,y] }) z TI TO .ellipsis:=B2 _ z5
 refine B4 (wpAny_setField_rec z6 (by simp) fun g7 z7 b7 =>?_)
 replace z7:IsZip g7 z TI TO (rawInt g5.objs.size):=z7
 refine wpAny_setField_rec z7 (by simp) fun g8 z8 b8 =>?_
 replace z8:IsZip g8 z TI TO (rawInt g5.objs.size):=z8
 have up:∀ c o,c≠z→g5.get? c=some o→g8.get? c=some o:=fun c o c1 e=>b8.extBut _ _ c1 (b7.extBut _ _ c1 (B2 _ e));have t8:IsPair g8 g5.objs.size x y:=b8.extBut _ _ (Ds zlt) (b7.extBut _ _ (Ds zlt) (Ca _ rfl));rw[sz]at z8 t8;refine Ch ⟨_,rfl,?_⟩;show wpAny _ _ (pure (some (Value.ref g5.objs.size))) _ _ _;rw[sz];exact Ch (hQ g8 z8 (up _ _ D.TIz (b5.extBut _ _ D.TITO (b4.extBut _ _ D.TIi2 (b3.extBut _ _ D.TITO (b2.extBut _ _ D.TIi1 (b1.extBut _ _ D.TIz hTI)))))) (up _ _ D.TOz t5)
  (SK.it_at j1 fun o e=>up _ _ D.i1z (b5.extBut _ _ D.TOi1.symm (b4.extBut _ _ D.i12 (b3.extBut _ _ D.TOi1.symm e)))) (SK.it_at j2 fun o e=>up _ _ D.i2z (b5.extBut _ _ D.TOi2.symm e)) t8 fun c o f e=>up c o f.z (kp c o f e))
theorem vF {k1 k2:SK}{z TI TO i1 i2 l1 l2:Addr}{n:Nat}{xs ys:Array Value}{a b:Value}{Q:Option Value→Shared→Prop}(hh:A.handled=none)(D:ZAp z TI TO i1 i2)(o1:Off z TO i1 i2 l1)(o2:Off z TO i1 i2 l2)
  (hz:IsZip s.heap z TI TO .none) (hTI:IsPair s.heap TI (.ref i1) (.ref i2)) (hTO:IsPair s.heap TO a b) (h1:k1.it s.heap i1 l1 n) (h2:k2.it s.heap i2 l2 n) (s1:k1.sq s.heap l1 xs) (s2:k2.sq s.heap l2 ys)
  (hend:xs[n]? = none∨ys[n]? = none) (hQ:∀ h',Kp z TO i1 i2 s.heap h'→Q none { s with heap:=h' }):wpAny (model prog w) A (pyNext (.ref z)) Q E s:=by
 have hT:s.TypeIs (.ref z) "zip" := ⟨_,hz,rfl⟩
 have fin:∀ h' e,Kp z TO i1 i2 s.heap h'→(∃ o,h'.get? e=some o∧o.cls=.type "StopIteration")→wpAny (model prog w) A (do if ← isInstance (.ref e) (.type "StopIteration") then pure none else throw (.ref e)) Q E { s with heap:=h' }:=fun h' e kp he=>by
  obtain⟨o,ho,hc⟩:=he;exact B4 (wpAny_isInstance (T := "StopIteration") (b:=true) ⟨o,ho,hc⟩ isSubtype_stop (Ch (hQ _ kp)))
 unfold pyNext;refine B4 (wpAny_attempt (wpAny_callSpecial?_slot (name:=Str.ofString "__next__") hT F.slot_zip_next (wpAny_call_entry F.slot_zip_next hT F.entry_zip_next ?_ (F.args_zip_next_1 _))))
 show wpAny _ _ (field (.ref z) 2 >>= _) _ _ _;refine B4 (wpAny_field hz rfl (x:=.bool false) rfl ?_);show wpAny _ _ (field (.ref z) 3 >>= _) _ _ _;refine B4 (wpAny_field hz rfl (x:=.ref TI) rfl ?_);refine B4 (wpAny_seqItems hTI rfl ?_);show wpAny _ _ (Builtin.SmallTypes.ownedTupleIsFree (.ref z) >>= _) _ _ _;refine B4 ?_;unfold Builtin.SmallTypes.ownedTupleIsFree;refine B4 (wpAny_field hz rfl (x:=.none) rfl (Ch ?_));simp only[if_true];refine B4 (wpAny_rule ?_);refine B4 (wpAny_field hz rfl (x:=.ref TO) rfl ?_);refine B4 (wpAny_setField_rec hz (by simp) fun g1 z1 b1 =>?_)
 replace z1:IsZip g1 z TI TO .ellipsis:=z1
 refine B4 ?_;simp only[List.zipIdx_cons,List.zipIdx_nil,List.forIn_cons,List.forIn_nil];refine B4 (B4 (wpAny_onRaise ?_));show wpAny _ _ (Builtin.SmallTypes.nextOf (.ref i1) >>= _) _ _ _;have hit1:=SK.it_at h1 fun o e=>b1.extBut _ _ D.i1z e;have sq1:=SK.sq_at s1 fun o e=>b1.extBut _ _ o1.z e;cases hx:xs[n]? with
 | none =>
  refine B4 (SK.stop hh hit1 sq1 hx fun g2 e b2 he =>?_);obtain⟨oe,hoe,hce⟩:=he;have z2:IsZip g2 z TI TO .ellipsis:=b2 _ _ D.i1z.symm z1;have hez:e≠z:=fun q=>by subst q;rw[z2]at hoe;cases hoe;simp at hce
  refine wpAny_setField_rec z2 (by simp) fun g3 _ b3=>fin g3 e (fun c o f q=>b3.extBut _ _ f.z (b2 _ _ f.i1 (b1.extBut _ _ f.z q))) ⟨oe,b3.extBut _ _ hez hoe,hce⟩
 | some x =>
  have hy:ys[n]? = none:=by rcases hend with q | q;rw[hx]at q;cases q;exact q
  refine B4 (SK.next hit1 sq1 hx fun g2 j1 b2=>Ch ?_);have t2:IsPair g2 TO a b:=b2.extBut _ _ D.TOi1 (b1.extBut _ _ D.TOz hTO);refine B4 (wpAny_seqItems t2 rfl ?_);refine B4 (wpAny_updateSeq_pair t2 fun g3 t3 b3 =>?_);refine B4 (wpAny_letGo (Ch ?_));refine B4 (B4 (wpAny_onRaise ?_));show wpAny _ _ (Builtin.SmallTypes.nextOf (.ref i2) >>= _) _ _ _;refine B4 (SK.stop hh (SK.it_at h2 fun o e=>b3.extBut _ _ D.TOi2.symm (b2.extBut _ _ D.i12.symm (b1.extBut _ _ D.i2z e))) (SK.sq_at s2 fun o e=>b3.extBut _ _ o2.TO (b2.extBut _ _ o2.i1 (b1.extBut _ _ o2.z e))) hy fun g4 e b4 he =>?_);obtain⟨oe,hoe,hce⟩:=he;have z4:IsZip g4 z TI TO .ellipsis:=b4 _ _ D.i2z.symm (b3.extBut _ _ D.TOz.symm (b2.extBut _ _ D.i1z.symm z1));have hez:e≠z:=fun q=>by subst q;rw[z4]at hoe;cases hoe;simp at hce
  refine wpAny_setField_rec z4 (by simp) fun g5 _ b5=>fin g5 e (fun c o f q=>b5.extBut _ _ f.z (b4 _ _ f.i2 (b3.extBut _ _ f.TO (b2.extBut _ _ f.i1 (b1.extBut _ _ f.z q))))) ⟨oe,b5.extBut _ _ hez hoe,hce⟩
end
def zH1 (k1:SK)(h:Heap)(l1:Addr):Heap:=h.push (k1.ob l1)
def zH2 (k1 k2:SK)(h:Heap)(l1 l2:Addr):Heap:=(zH1 k1 h l1).push (k2.ob l2)
def zH3 (k1 k2:SK)(h:Heap)(l1 l2:Addr):Heap:=(zH2 k1 k2 h l1 l2).push { cls:=.type "tuple",data:=.seq #[.ref h.objs.size,.ref (zH1 k1 h l1).objs.size] }
def zH4 (k1 k2:SK)(h:Heap)(l1 l2:Addr):Heap:=(zH3 k1 k2 h l1 l2).push { cls:=.type "tuple",data:=.seq #[.none,.none] }
def zH5 (k1 k2:SK)(h:Heap)(l1 l2:Addr):Heap:=(zH4 k1 k2 h l1 l2).push { cls:=.type "zip",data:=.fields #[.none,.bool false,.bool false,.ref (zH2 k1 k2 h l1 l2).objs.size,.ref (zH3 k1 k2 h l1 l2).objs.size] }
theorem uU (k1 k2:SK)(l1 l2:Addr)(xs ys:Array Value):
  Meets (Builtin.«zip.__new__» ⟨[.type "zip",.ref l1,.ref l2],[]⟩) (fun _ R s=>k1.sq s.heap l1 xs∧k2.sq s.heap l2 ys ∧
   R (.ok (.ret (.ref (zH4 k1 k2 s.heap l1 l2).objs.size))) { s with heap:=zH5 k1 k2 s.heap l1 l2 }) :=
 .of_wp fun prog w A R s h=>by
  obtain⟨hp,g,d,tk,os⟩:=s;obtain⟨hl1,hl2,h⟩:=h;have hsub:=sub_zip;have hL1:k1.sq (Shared.heap ⟨hp,g,d,tk,os⟩) l1 xs:=hl1;have hL2:k2.sq (Shared.heap ⟨hp.push (k1.ob l1),g,d,tk,os⟩) l2 ys:=SK.sq_at hl2 fun o e=>B2 _ e
  wp_walk using SK.iter hL1,SK.iter hL2
  exact⟨_,rfl,h⟩
section
variable {w:World}{E:Value→Shared→Prop}
theorem xr {k1 k2:SK}{l1 l2:Addr}{xs ys:Array Value}{Q:Value→Shared→Prop}(hl1:k1.sq s.heap l1 xs)(hl2:k2.sq s.heap l2 ys)
  (h:∀ h',IsZip h' (s.heap.objs.size + 4) (s.heap.objs.size + 2) (s.heap.objs.size + 3) .none→IsPair h' (s.heap.objs.size + 2) (.ref s.heap.objs.size) (.ref (s.heap.objs.size + 1)) →
   IsPair h' (s.heap.objs.size + 3) .none .none→k1.it h' s.heap.objs.size l1 0→k2.it h' (s.heap.objs.size + 1) l2 0 →
   (∀ c o,s.heap.get? c=some o→h'.get? c=some o)→Q (.ref (s.heap.objs.size + 4)) { s with heap:=h' }) :
  wpAny (model prog w) A (call (.type "zip") [.ref l1,.ref l2]) Q E s:=by
 refine callType_new F.called_zip (by decide) (F.typeCall_zip_2 _ _) (F.newCall_zip_2 _ _) (fun obj=>F.args_object_init_3 obj _ _) F.entry_zip_new
  (uU k1 k2 l1 l2 xs ys) ⟨hl1,hl2,?_⟩
 have z1:(zH1 k1 s.heap l1).objs.size=s.heap.objs.size + 1:=CY ..;have z2:(zH2 k1 k2 s.heap l1 l2).objs.size=s.heap.objs.size + 2:=by unfold zH2;rw[CY,z1]
 have z3:(zH3 k1 k2 s.heap l1 l2).objs.size=s.heap.objs.size + 3:=by unfold zH3;rw[CY,z2]
 have z4:(zH4 k1 k2 s.heap l1 l2).objs.size=s.heap.objs.size + 4:=by unfold zH4;rw[CY,z3]
 have u1:∀ b o,(zH1 k1 s.heap l1).get? b=some o→(zH5 k1 k2 s.heap l1 l2).get? b=some o:=fun b o e =>
  B2 _ (B2 _ (B2 _ (B2 _ e)))
 have u2:∀ b o,(zH2 k1 k2 s.heap l1 l2).get? b=some o→(zH5 k1 k2 s.heap l1 l2).get? b=some o:=fun b o e =>
  B2 _ (B2 _ (B2 _ e))
 have g5:IsZip (zH5 k1 k2 s.heap l1 l2) (zH4 k1 k2 s.heap l1 l2).objs.size (zH2 k1 k2 s.heap l1 l2).objs.size (zH3 k1 k2 s.heap l1 l2).objs.size .none:=Ca _ rfl;have g4:IsPair (zH5 k1 k2 s.heap l1 l2) (zH3 k1 k2 s.heap l1 l2).objs.size .none .none:=B2 _ (Ca _ rfl);have g3:IsPair (zH5 k1 k2 s.heap l1 l2) (zH2 k1 k2 s.heap l1 l2).objs.size (.ref s.heap.objs.size) (.ref (zH1 k1 s.heap l1).objs.size):=B2 _ (B2 _ (Ca _ rfl));have j1:k1.it (zH5 k1 k2 s.heap l1 l2) s.heap.objs.size l1 0:=SK.it_at SK.it_new fun o e=>u1 _ o e;have j2:k2.it (zH5 k1 k2 s.heap l1 l2) (zH1 k1 s.heap l1).objs.size l2 0:=SK.it_at SK.it_new fun o e=>u2 _ o e;rw[z4,z2,z3]at g5;rw[z3]at g4;rw[z2,z1]at g3;rw[z1]at j2;show _∧_;rw[z4];exact⟨⟨_,g5,rfl⟩,h _ g5 g3 g4 j1 j2 fun c o x=>u1 _ _ (B2 _ x)⟩
end
def SK.Sq:SK→PySem.W.Frag→Hp→Addr→List V→Prop
 | .l=>SqL
 | .t=>SqT
def Itz (K:PySem.W.Frag)(k1 k2:SK)(l1 l2:Addr):It :=
 ⟨fun i H=>∃ xs ys x y,k1.Sq K H l1 xs∧k2.Sq K H l2 ys∧xs[i]? = some x∧ys[i]? = some y,
  fun i H v H'=>∃ p x y,H p=none∧v=.ref p∧H'=upd H p (.tup [x,y])∧(∀ xs,k1.Sq K H l1 xs→xs[i]? = some x)∧∀ ys,k2.Sq K H l2 ys→ys[i]? = some y,
  fun i H=>∃ xs ys,k1.Sq K H l1 xs∧k2.Sq K H l2 ys∧(xs.length≤i∨ys.length≤i)⟩
section
variable {pins:List (Addr × Obj)}{σ:St}{h':Heap}
theorem SK.read {k:SK}{a:Addr}{xs:List V}(I:Inv X pins σ H s)(h:k.Sq X.K H a xs):∃ its:List Value,aX xs its∧k.sq s.heap a its.toArray:=by
 cases k
 ·obtain⟨its,r,p,_⟩:=I.list h;exact⟨its,r,p.isList⟩
 ·obtain⟨its,r,p,_⟩:=I.tuple h;exact⟨its,r,p⟩
theorem SK.inj {k:SK}{a:Addr}{xs ys:List V}(I:Inv X pins σ H s)(h:k.Sq X.K H a xs)(h':k.Sq X.K H a ys):xs=ys:=by
 cases k
 ·exact I.list_inj h h'
 ·exact I.tuple_inj h h'
theorem Inv.turnedL {t':Nat}{L:List Addr}(I:Inv X pins σ H s)(k:∀ b o,b∉L→s.heap.get? b=some o→h'.get? b=some o)(f:∀ b∈L,mP X pins H b):Inv X pins σ H { s with heap:=h',toks:=t' }:=by
 have nit:∀ b u,H b=some u→b∉L:=fun b u e z=>by rw[(f b z).1]at e;cases e
 refine I.step (g':=s.gens) (d':=s.drawn) (ch:=L) (fun b hb =>?_) (fun b o _ _ hc e _=>k b o hc e) (fun b o _ _ hc e _=>⟨o.slots,k b o hc e⟩) (fun _ _ _ _ n=>n)
  (fun b o hc e=>⟨o,k b o hc e⟩) (fun _ _ e=>e) (fun _ _ _ e=>e) (fun b ps e=>⟨#[],by rw[e];simp⟩) (fun m hm =>?_) (fun b u e =>?_) I.bare
 ·obtain⟨f0,f1,f2,f3,f4,f5⟩:=f b hb;exact⟨f3,f1,f4,f5⟩
 ·obtain⟨o,es,ep,ho,r⟩:=hm;exact⟨o,es,ep,k _ o (fun z=>(f _ z).2.1 rfl) ho,r⟩
 ·refine (I.hok b u e).stay (fun c v hc q=>k c v ?_ q) (fun _ q=>q) fun _ _ q=>q;rcases hc with z | z
  ·rw[z];exact nit b u e
  ·exact nit c _ z
theorem wK {z TO i1 i2 b:Addr}(h:b∉[z,TO,i1,i2]):Off z TO i1 i2 b:=⟨fun e=>h (by simp[e]),fun e=>h (by simp[e]),fun e=>h (by simp[e]),fun e=>h (by simp[e])⟩
theorem xy (m:Nat):ZAp (m + 4) (m + 2) (m + 3) m (m + 1) :=
 ⟨(by show ¬ (_:Nat)=_;omega),(by show ¬ (_:Nat)=_;omega),(by show ¬ (_:Nat)=_;omega),(by show ¬ (_:Nat)=_;omega),(by show ¬ (_:Nat)=_;omega),(by show ¬ (_:Nat)=_;omega),(by show ¬ (_:Nat)=_;omega),(by show ¬ (_:Nat)=_;omega),(by show ¬ (_:Nat)=_;omega),(by show ¬ (_:Nat)=_;omega)⟩
theorem tJ {m a:Nat}(h:a < m):Off (m + 4) (m + 3) m (m + 1) a:=⟨(by show ¬ (_:Nat)=_;omega),(by show ¬ (_:Nat)=_;omega),(by show ¬ (_:Nat)=_;omega),(by show ¬ (_:Nat)=_;omega)⟩
theorem vS {P:Program}{w:World}{K:PySem.W.Frag}{elts:List Expr}{kk:Nat}{tp:Pos}{k1 k2:SK}{z TI TO i1 i2 l1 l2:Addr}(D:ZAp z TI TO i1 i2)(o1:Off z TO i1 i2 l1)(o2:Off z TO i1 i2 l2):
  sY P w K (.Tuple elts kk tp) (Itz K k1 k2 l1 l2) [z,TI,TO,i1,i2] z
   (fun i h=>IsZip h z TI TO .none∧IsPair h TI (.ref i1) (.ref i2)∧(∃ a b,IsPair h TO a b)∧k1.it h i1 l1 i∧k2.it h i2 l2 i) where
 mem:=by simp
 obj:=fun i h st b hb=>by
  obtain⟨hz,hTI,⟨a,c,hTO⟩,h1,h2⟩:=st;have fi:∀ {k:SK} {b a:Addr} {i:Nat},k.it h b a i→∃ o,h.get? b=some o∧∀ v,o.data≠.cell v:=fun x=>by
   obtain⟨o,ho,vs,d⟩:=SK.it_ob x;exact⟨o,ho,fun v q=>by rw[d]at q;cases q⟩
  simp only[B6,Cc,or_false]at hb;rcases hb with rfl | rfl | rfl | rfl | rfl
  ·exact⟨_,hz,fun v q=>by cases q⟩
  ·exact⟨_,hTI,fun v q=>by cases q⟩
  ·exact⟨_,hTO,fun v q=>by cases q⟩
  ·exact fi h1
  ·exact fi h2
 keep:=fun i h h' st k=>by
  obtain⟨hz,hTI,⟨a,c,hTO⟩,h1,h2⟩:=st;exact⟨k _ (by simp) _ hz,k _ (by simp) _ hTI,⟨a,c,k _ (by simp) _ hTO⟩,SK.it_at h1 fun o e=>k _ (by simp) o e,SK.it_at h2 fun o e=>k _ (by simp) o e⟩
 item:=by
  intro X hP hw hK hc i pins s σ H E I hf st hg;subst hP hw hK;obtain⟨hz,hTI,⟨a,c,hTO⟩,h1,h2⟩:=st;obtain⟨xs,ys,x,y,q1,q2,hx,hy⟩:=hg;obtain⟨u1,r1,s1⟩:=SK.read I q1;obtain⟨u2,r2,s2⟩:=SK.read I q2;obtain⟨x',hx',rx⟩:=r1.get hx;obtain⟨y',hy',ry⟩:=r2.get hy;refine vG D o1 o2 hz hTI hTO h1 h2 s1 s2 (x:=x') (y:=y') (by simpa using hx') (by simpa using hy') fun g z' ti' to' j1 j2 tp' kp=>⟨_,rfl,?_⟩;have lt:∀ {b:Addr} {o:Obj},s.heap.get? b=some o→s.heap.objs.size≠b:=fun e=>Ds (B9 e);have hn:H s.heap.objs.size=none:=I.hok.fresh (B7 _);refine wpAny_letOwnedTupleGo_zip z' fun g' z'' sb =>?_;have I1:Inv X pins σ (upd H s.heap.objs.size (.tup [x,y])) { s with heap:=s.heap.push { cls:=.type "tuple",data:=.seq #[x',y'] } } :=
   I.laid (t':=s.toks) (fun b u e=>B2 _ e) (B7 _) ⟨(by show 2≤sizeLine;decide),[x',y'],.cons rx (.cons ry .nil),⟨_,Ca _ rfl,rfl,_,rfl⟩⟩
  have fp':∀ b∈[z,TI,TO,i1,i2],s.heap.objs.size≠b∧upd H s.heap.objs.size (.tup [x,y]) b=none:=fun b hb=>by
   have e:s.heap.objs.size≠b:=by
    simp only[B6,Cc,or_false]at hb;rcases hb with rfl | rfl | rfl | rfl | rfl
    ·exact lt hz
    ·exact lt hTI
    ·exact lt hTO
    ·obtain⟨o,ho,_⟩:=SK.it_ob h1;exact lt ho
    ·obtain⟨o,ho,_⟩:=SK.it_ob h2;exact lt ho
   exact⟨e,by rw[aL (Ne.symm e)];exact (hf b hb).1⟩
  have sub:∀ b∈[z,TO,i1,i2],b∈[z,TI,TO,i1,i2]:=fun b hb=>by
   simp only[B6,Cc,or_false]at hb ⊢;rcases hb with h | h | h | h<;>simp[h]
  have I2:Inv X pins σ (upd H s.heap.objs.size (.tup [x,y])) { s with heap:=g' }:=by
   refine Inv.turnedL (s:={ s with heap:=s.heap.push { cls:=.type "tuple",data:=.seq #[x',y'] } }) (h':=g') (t':=s.toks) (L:=[z,TO,i1,i2]) I1 (fun b o hb e =>?_) fun b hb =>?_
   ·have ob:=wK hb;rcases Heap.get?_push_cases e with⟨e1,e2⟩ | e1
    ·subst e1 e2;exact sb.extBut _ _ ob.z tp'
    ·exact sb.extBut _ _ ob.z (kp b o ob e1)
   ·obtain⟨f0,f1,f2,f3,f4,f5⟩:=hf b (sub b hb);exact⟨(fp' b (sub b hb)).2,f1,f2,f3,f4,f5⟩
  refine⟨.ref s.heap.objs.size,_,I2,rfl,⟨_,x,y,hn,rfl,rfl,fun zs hq =>?_,fun zs hq =>?_⟩,⟨z'',sb.extBut _ _ D.TIz ti',⟨_,_,sb.extBut _ _ D.TOz to'⟩,SK.it_at j1 fun o e=>sb.extBut _ _ D.i1z e,SK.it_at j2 fun o e=>sb.extBut _ _ D.i2z e⟩,fun b hb=>(fp' b hb).2⟩
  ·rw[SK.inj I hq q1];exact hx
  ·rw[SK.inj I hq q2];exact hy
 done:=by
  intro X hP hw hK hc i pins s σ H E I hf st hg;subst hP hw hK;obtain⟨hz,hTI,⟨a,c,hTO⟩,h1,h2⟩:=st;obtain⟨xs,ys,q1,q2,he⟩:=hg;obtain⟨u1,r1,s1⟩:=SK.read I q1;obtain⟨u2,r2,s2⟩:=SK.read I q2;have e1:=r1.length;have e2:=r2.length;refine vF (I.ok.hd hc) D o1 o2 hz hTI hTO h1 h2 s1 s2 (he.imp (fun q =>?_) fun q =>?_) fun g kp=>⟨rfl,I.turnedL (t':=s.toks) (L:=[z,TO,i1,i2]) (fun b o hb e=>kp b o (wK hb) e) fun b hb=>hf b ?_⟩
  ·simp;omega
  ·simp;omega
  ·simp only[B6,Cc,or_false]at hb ⊢;rcases hb with h | h | h | h<;>simp[h]
 self:=fun _ _ _ _ _ st h=>wpAny_pyIter_zip st.1 h
end
section
theorem Ap:bootBuiltins "zip" = some (.type "zip"):=by first | rfl | kernel_rfl | decide +kernel
def BO (K:PySem.W.Frag)(ta:TA):TI:=fun σ H R=>ta σ H fun vs H1=>∃ (l1 l2:Addr) (k1 k2:SK),vs=[.ref l1,.ref l2]∧(∃ xs,k1.Sq K H1 l1 xs)∧(∃ ys,k2.Sq K H1 l2 ys)∧R (Itz K k1 k2 l1 l2) H1
theorem zC {a b:Expr}{ta:TA}{p pos:Pos}{elts:List Expr}{kk:Nat}{tp:Pos}(hg:Gl X "zip")(hm:X.mg "zip" = none)(ha:PA X [a,b] ta)
  (hs:starEach [a,b] X.env=(false,eval a X.env)::starEach [b] X.env:=by rfl) (hpl:(backTo pos (starEach [b] X.env)).any (·.1)=false:=by rfl) :
  PI X (.Tuple elts kk tp) (.Call (.Name "zip" p) [a,b] [] pos) (BO X.K ta):=by
 intro pins s σ H R I h;refine Call_ (fZ I hg hm Ap (PyProof.Rows.callWith_type1 (thn (@ha pos pins s σ H _ I h) fun us s1 ⟨vs,H1,I1,r1,q1⟩ =>?_) hs hpl));obtain⟨l1,l2,k1,k2,e,⟨xs,q1⟩,⟨ys,q2⟩,q⟩:=q1;subst e;cases r1 with
 | cons r rr =>
  cases rr with
  | cons r' rr =>
   cases rr;cases r;cases r';obtain⟨u1,_,s1'⟩:=SK.read I1 q1;obtain⟨u2,_,s2'⟩:=SK.read I1 q2;have a1:=SK.sq_lt s1';have a2:=SK.sq_lt s2';refine xr s1' s2' fun g hz hTI hTO j1 j2 kp=>wpAny_pyIter_zip hz ?_;refine⟨_,[s1.heap.objs.size + 4,s1.heap.objs.size + 2,s1.heap.objs.size + 3,s1.heap.objs.size,s1.heap.objs.size + 1],_,_,H1,rfl,I1.kept (t':=s1.toks) kp,
    vS (k1:=k1) (k2:=k2) (l1:=l1) (l2:=l2) (xy _) (tJ a1) (tJ a2),
    ⟨hz,hTI,⟨_,_,hTO⟩,j1,j2⟩,fun b hb =>?_,q⟩
   have hb':s1.heap.objs.size≤b:=by
    simp only[B6,Cc,or_false]at hb;rcases hb with h | h | h | h | h
    ·rw[h];exact Dq _ _
    ·rw[h];exact Dq _ _
    ·rw[h];exact Dq _ _
    ·rw[h];exact B7 _
    ·rw[h];exact Dq _ _
   exact I1.fpOk hb' (I1.hok.fresh hb')
end
def KTu (K:PySem.W.Frag)(a:Addr)(xs:List V):Prop:=∃ (o:Obj) (its:Array Value) (n:Nat),K.lookup a=some o∧o.cls=.type "tuple" ∧ o.data=.seq its n∧its.size≤sizeLine∧aX xs its.toList
theorem KTu.sq {K:PySem.W.Frag}{a:Addr}{xs:List V}{H:Hp}(h:KTu K a xs):SqT K H a xs:=.inr h
def KD (P:Program)(w:World)(K:PySem.W.Frag)(a:Addr)(kvs:List (Key × V)):Prop:=∃ (o:Obj) (vs:List (Key × Value)),K.lookup a=some o∧KV kvs vs∧o.IsDictOf (bW P w) vs
def AL (P:Program)(w:World)(K:PySem.W.Frag)(td ty:TE):TE:=fun σ H Q=>td σ H fun x H1=>ty σ H1 fun y H2=>∃ a kvs k v,x=.ref a∧y=kV k∧KD P w K a kvs∧dk kvs k=some v∧Q v H2
theorem jl {X:Cx}{o i:Expr}{pos:Pos}{td ty:TE}(ho:PE X o td)(hi:PE X i ty)(hs:AB i):PE X (.Subscript o i pos) (AL X.prog X.w X.K td ty):=by
 intro pins s σ H Q I h;refine tj PySem.F.slot_dict_getitem.lookup hs (thn (@ho pins s σ H _ I h) fun u s1 ⟨x,H1,I1,rx,q1⟩=>thn (@hi pins s1 σ H1 _ I1 q1) fun iv s2 ⟨y,H2,I2,ry,a,kvs,k,v,ex,ey,kd,l,q2⟩ =>?_);subst ex ey;obtain rfl:u=Value.ref a:=rx;obtain⟨ob,vs,hk,rel,dd⟩:=kd;have dd':s2.heap.DictOf (bW X.prog X.w) a vs:=DP.mpr ⟨ob,I2.kIn a ob hk,dd⟩;obtain⟨w',hw,rw'⟩:=hG.some_of (v:=v) (o:=valueAt vs k) (by rw[← l];exact rel.val k);exact⟨dd'.typeIs,wpAny_getItem_of (jy ry) dd'.mapOf hw ⟨v,H2,I2.tok _,rw',q2⟩⟩
def Tr3 (h base:Heap)(e:Addr)(cls a0 fl:Value):Prop :=
 ∃ oe vs T oT ts,h.get? e=some oe∧(oe.cls=cls∧vs[0]? = some a0∧vs[2]? = some .none)∧oe.data=.fields vs∧vs[1]? = some (.ref T)∧base.get? T=none∧T≠e∧h.get? T=some oT∧oT.data=.fields ts∧ts[3]? = some fl
def On3 (base:Heap)(l:List Env)(e:Addr)(cls a0 fl:Value)(h:Heap):Prop:=base.StaysIn h∧base.get? e=none∧h.FunFrames base l∧Tr3 h base e cls a0 fl
section
variable {M:Model}{E:Value→Shared→Prop}{base:Heap}{env:Env}{outer l:List Env}{L e:Addr}{cls a0 fl:Value}{Q:Unit→Shared→Prop}
theorem xQ {b:Addr}{o:Obj}{vs:Array Value}(fr:s.heap.FunFrames base l)(ho:s.heap.get? b=some o)(hd:o.data=.fields vs):b∉l.filterMap (·.frame):=fun m=>by
 obtain⟨_,o',ho',nf⟩:=fr.mem m;cases ho.symm.trans ho';exact nf vs hd
theorem On3.poke {h h':Heap}{T:Addr}{oT:Obj}{ts:Array Value}(st:base.StaysIn h)(fr:h.FunFrames base l)(hT:h.get? T=some oT)(dT:oT.data=.fields ts)(nT:base.get? T=none)(oth:∀ b,b≠T→h'.get? b=h.get? b):
  base.StaysIn h'∧h'.FunFrames base l∧∀ b o,h.get? b=some o→(∀ vs,o.data≠.fields vs)→h'.get? b=some o:=by
 have k:∀ b o,h.get? b=some o→(∀ vs,o.data≠.fields vs)→h'.get? b=some o:=fun b o hb nf=>(oth b fun q=>by subst q;cases hb.symm.trans hT;exact nf ts dT).trans hb;exact⟨fun b o hb=>(oth b fun q=>by subst q;rw[nT]at hb;cases hb).trans (st b o hb),fr.of_keeps fun b o hb nf=>⟨o,k b o hb nf,rfl⟩,k⟩
theorem wL (f:On3 base l e cls a0 fl s.heap)(q:∀ h',On3 base l e cls a0 .none h'→s.heap.UpToSlots h'→Q () { s with heap:=h' }):wpAny M A (setFlight (.ref e) none) Q E s:=by
 obtain⟨st,ne,fr,oe,vs,T,oT,ts,he,hc,hd,h1,nT,Te,hT,dT,h3⟩:=f;have lt:=(CM.mp h3).1;unfold setFlight;refine B4 (wpAny_field he hd h1 ?_);rw[if_pos (by simp)];refine wpAny_setField hT dT lt ?_;obtain⟨a1,a2,a3⟩:=On3.poke st fr hT dT nT (h':=s.heap.update T (Obj.mapFields (·.setIfInBounds 3 ((none:Option Addr).elim Value.none fun f=>rawInt f)))) fun b hb=>Cu _ _ (Ne.symm hb);exact q _ ⟨a1,ne,a2,oe,vs,T,_,_,(Cu _ _ Te).trans he,hc,hd,h1,nT,Te,C7 _ hT (Obj.isFreed_of_fields (Obj.data_mapFields dT _)),Obj.data_mapFields dT _,by simp[lt]⟩ fun b o hb nf=>⟨o.slots,a3 b o hb nf⟩
theorem sS {oe:Obj}{vs:Array Value}{head:Value}{had:Bool}(hfr:A.frames=some (env::outer))(hf:env.frame=some L)(st:base.StaysIn s.heap)(ne:base.get? e=none)(fr:s.heap.FunFrames base (env::outer))
  (he:s.heap.get? e=some oe) (hd:oe.data=.fields vs) (lt:1 < vs.size) (hc:oe.cls=cls∧vs[0]? = some a0∧vs[2]? = some .none) (q:∀ h',On3 base (env::outer) e cls a0 (rawInt L) h'→s.heap.UpToSlots h'→Q () { s with heap:=h' }) :
  wpAny M A (do let a ← frameOf env;let pl ← entryPlaceOf L had;let b ← EntryCells.newEntry head a .none (rawInt L) .none pl;setField (.ref e) 1 b) Q E s:=by
 have out:=xQ fr he hd;refine B4 (wpAny_frameOf_fun hfr fr hf fun g sl=>B4 (wpAny_entryPlaceOf fun pl hp =>?_));unfold EntryCells.newEntry newFields;refine B4 (wpAny_newObj_type ?_ (hp.sizeOk5 _ _ _ _ _));have g1:g.get? e=some oe:=(sl.2.1 e out).trans he;have g2:base.StaysIn g:=fun b o hb=>(sl.2.1 b fun m=>by rw[(fr.mem m).1]at hb;cases hb).trans (st b o hb);obtain⟨N,eN⟩:∃ N:Obj,N={ cls:=.type "traceback",dict:=none,data:=.fields ([head,.ref L,.none,rawInt L,.none]++(if pl.isEmpty then List.replicate 6 Value.none else pl)).toArray }:=⟨_,rfl⟩
 have dN:N.data=.fields ([head,.ref L,.none,rawInt L,.none]++(if pl.isEmpty then List.replicate 6 Value.none else pl)).toArray:=by rw[eN]
 have gN:(g.push N).get? g.objs.size=some N:=Ca g (by rw[eN];rfl);have g3:(g.push N).get? e=some oe:=B2 N g1;have Te:g.objs.size≠e:=Ds (B9 g1);rw[← eN];refine wpAny_setField g3 hd lt (q _ ?_ ?_)
 all_goals
  have oth:∀ b,b≠e→((g.push N).update e (Obj.mapFields (·.setIfInBounds 1 (Value.ref g.objs.size)))).get? b=(g.push N).get? b:=fun b hb=>Cu _ _ (Ne.symm hb);have hk:∀ b o,s.heap.get? b=some o→(∀ vs,o.data≠.fields vs)→∃ sl',((g.push N).update e (Obj.mapFields (·.setIfInBounds 1 (Value.ref g.objs.size)))).get? b=some { o with slots:=sl' }:=fun b o hb nf=>by
   obtain⟨sl',e1⟩:=sl.2.2 b o hb;exact⟨sl',(oth b fun z=>by subst z;cases hb.symm.trans he;exact nf vs hd).trans (B2 N e1)⟩
 ·have d3:=Obj.data_mapFields hd (·.setIfInBounds 1 (Value.ref g.objs.size));refine⟨fun b o hb=>(oth b fun z=>by subst z;rw[ne]at hb;cases hb).trans (B2 N (g2 b o hb)),ne,fr.of_keeps fun b o hb nf =>?_,_,_,g.objs.size,N,_,C7 _ g3 (Obj.isFreed_of_fields d3),⟨?_,?_,?_⟩,d3,by simp[lt],g2.fresh,Te,(oth _ Te).trans gN,dN,by rfl⟩
  ·obtain⟨sl',e1⟩:=hk b o hb nf;exact⟨_,e1,rfl⟩
  ·exact (Obj.cls_mapFields _ _).trans hc.1
  ·rw[Dy (by decide)];exact hc.2.1
  ·rw[Dy (by decide)];exact hc.2.2
 ·exact hk
theorem wW (hfr:A.frames=some (env::outer))(hf:env.frame=some L)(f:On3 base (env::outer) e cls a0 .none s.heap)(q:∀ h',On3 base (env::outer) e cls a0 (rawInt L) h'→s.heap.UpToSlots h'→Q () { s with heap:=h' }):
  wpAny M A (noteFrame (.ref e) env) Q E s:=by
 obtain⟨st,ne,fr,oe,vs,T,oT,ts,he,hc,hd,h1,nT,Te,hT,dT,h3⟩:=f;unfold noteFrame;simp only[hf];refine B4 (wpAny_field he hd h1 ?_);rw[if_pos (by simp)];refine B4 (wpAny_field hT dT h3 ?_);rw[if_neg (by simp[rawInt])];refine B4 (wpAny_setField hT dT (CM.mp h3).1 ?_);obtain⟨a1,a2,a3⟩:=On3.poke st fr hT dT nT (h':=s.heap.update T (Obj.mapFields (·.setIfInBounds 3 Value.none))) fun b hb=>Cu _ _ (Ne.symm hb);exact sS hfr hf a1 ne a2 ((Cu _ _ Te).trans he) hd (CM.mp h1).1 hc fun h' o u=>q h' o fun b o' hb nf=>u b o' (a3 b o' hb nf) nf
theorem zT (hfr:A.frames=some (env::outer))(hf:env.frame=some L)(f:On3 base (env::outer) e cls a0 .none s.heap)(q:∀ h',On3 base outer e cls a0 .none h'→s.heap.UpToSlots h'→Q () { s with heap:=h' }):
  wpAny M A (leaving env (.ref e)) Q E s:=by
 unfold leaving;refine B4 (wW hfr hf f fun h1 o1 u1=>wL o1 fun h2 o2 u2 =>?_);obtain⟨b1,b2,⟨_,_,b3⟩,b4⟩:=o2;exact q h2 ⟨b1,b2,b3,b4⟩ (u1.trans u2)
theorem Bc {h:Heap}{args:List Value}(hfr:A.frames=some (env::outer))(hf:env.frame=some L)(st:base.StaysIn h)(fr:h.FunFrames base (env::outer))(hx:Heap.MadeExcOf h s.heap e cls args)
  (q:∀ h' a0,On3 base outer e cls a0 .none h'→s.heap.UpToSlots h'→Q () { s with heap:=h' }):wpAny M A (leaving env (.ref e)) Q E s:=by
 obtain⟨t,he,tn,ht⟩:=hx.there;have ne:base.get? e=none:=by
  cases z:base.get? e with
  | none=>rfl
  | some o=>have:=st e o z;rw[hx.new]at this;cases this
 unfold leaving noteFrame;simp only[hf];refine B4 (B4 (wpAny_field he rfl (x:=Value.none) rfl ?_));rw[if_neg (by decide)];refine sS hfr hf (fun b o hb=>hx.keeps b o (st b o hb)) ne (fr.of_keeps fun b o hb _=>⟨o,hx.keeps b o hb,rfl⟩) he rfl (by simp) ⟨rfl,rfl,rfl⟩ fun h1 o1 u1=>wL o1 fun h2 o2 u2 =>?_;obtain⟨b1,b2,⟨_,_,b3⟩,b4⟩:=o2;exact q h2 _ ⟨b1,b2,b3,b4⟩ (u1.trans u2)
end
theorem bT.there {P:Program}{w:World}{H:Hp}{h:Heap}{a:Addr}{o:HO}(x:bT P w H h a o):∃ u,h.get? a=some u:=by
 cases o with
 | lst xs=>obtain⟨_,_,_,_,e⟩:=x;exact⟨_,e⟩
 | tup xs=>obtain⟨_,_,_,o,e,_⟩:=x;exact⟨_,e⟩
 | dK kvs=>obtain⟨_,_,_,_,o,_,_,e,_⟩:=x;exact⟨_,e⟩
 | dT kvs=>obtain⟨_,_,_,_,o,_,_,e,_⟩:=x;exact⟨_,e⟩
 | set S n=>obtain⟨o,_,_,_,e,_⟩:=x;exact⟨_,e⟩
 | ins C dx fs=>obtain⟨_,_,_,e,_⟩:=x;exact⟨_,e⟩
 | own y=>exact x
 | xd fs=>obtain⟨_,⟨_,_,_,e,_⟩,_⟩:=x;exact⟨_,e⟩
 | rng lo hi=>obtain⟨_,_,_,e⟩:=x;exact⟨_,e⟩
 | frz ob u=>obtain⟨e,_⟩:=x;exact⟨_,e⟩
 | tbl ps=>exact⟨_,(show h.get? a=some _ from x)⟩
 | met f y=>exact⟨_,(show h.get? a=some _ from x)⟩
 | ext φ=>obtain⟨_,e,_⟩:=x;exact e
theorem HOk.not {P:Program}{w:World}{H:Hp}{h:Heap}{a:Addr}(x:HOk P w H h)(e:h.get? a=none):H a=none:=by
 cases q:H a with
 | none=>rfl
 | some o =>
  obtain⟨u,z⟩:=(x a o q).there;rw[e]at z;cases z
structure Fly (h0:Heap)(H:Hp)(h:Heap)(e:Addr)(cls:Value):Prop where
 ex:∃ oe vs a0 T oT ts,h.get? e=some oe∧(oe.cls=cls∧vs[0]? = some a0∧vs[2]? = some .none)∧oe.data=.fields vs∧vs[1]? = some (.ref T)∧(h0.get? T=none∧H T=none)∧T≠e∧h.get? T=some oT∧oT.data=.fields ts∧ts[3]? = some .none
 new:h0.get? e=none
 un:H e=none
def CXe (P:Program)(w:World):CXT:=fun outer H s E ev s'=>∃ e cls H',ev=.ref e∧s'.os=s.os∧AllBare s'.gens∧Un (frs outer) [] H H' s.heap s'.heap∧HOk P w H' s'.heap∧Fly s.heap H' s'.heap e cls∧E cls none H'
theorem bc {P:Program}{w:World}:bv (CXe P w):=fun _ _ _ _ _ ⟨_,_,_,_,_,_,_,_,_,h⟩=>h
theorem lZ {h b b':Heap}:∀ {l:List Env},h.FunFrames b l→(∀ a∈frs l,b'.get? a=none)→h.FunFrames b' l
 | [],_,_=>trivial
 | env::r,⟨hk,⟨L,o,hf,hn,ho,hd⟩,hr⟩,k=>by
  have e:frs (env::r)=L::frs r:=by unfold frs;rw[C_,hf]
  rw[e]at k;exact⟨hk,⟨L,o,hf,k L CN,ho,hd⟩,lZ hr fun a ha=>k a (Cp _ ha)⟩
abbrev fX (h:Heap)(l:List Addr):Heap:=PySem.W.hideAll h l
theorem fW (h:Heap)(l:List Addr):(fX h l).StaysIn h:=fun _ _ e=>PySem.W.of_hideAll l e
section
variable {P:Program}{w:World}{H':Hp}{h h' h'' bs:Heap}{l:List Env}{hid:List Addr}
theorem og (u:Un (frs l) [] H H' h h')(ok:HOk P w H' h')(fr:h'.FunFrames bs l)(fre:∀ b∈frs l,H' b=none)(hh:∀ b∈hid,h.get? b=none∧H' b=none)
  (st:(fX h' (hid++frs l)).StaysIn h'') (up:h'.UpToSlots h''):Un (frs l) [] H H' h h''∧HOk P w H' h'':=by
 have kp:∀ b o,h'.get? b=some o→b∉hid→b∉frs l→h''.get? b=some o:=fun b o e n1 n2=>st b o (PySem.W.hideAll_get _ e fun z=>(Cm.mp z).elim n1 n2);have nh:∀ b o,h.get? b=some o→b∉hid:=fun b o e z=>by rw[(hh b z).1]at e;cases e
 have fs:∀ b o,h'.get? b=some o→b∈frs l→∃ sl,h''.get? b=some { o with slots:=sl }:=fun b o e hb=>by
  obtain⟨_,o',e',nf⟩:=fr.mem hb;rw[e]at e';cases e';exact up b o e nf
 refine⟨⟨fun b o e n hb hx=>kp b o (u.keep b o e n hb hx) (nh b o e) hb,fun b o e n hb hx =>?_,u.free,fun b o e hx =>?_,u.tups,u.frzs,u.tbls⟩,fun a o e =>?_⟩
 ·obtain⟨sl,e1⟩:=u.slot b o e n hb hx;obtain⟨sl',e2⟩:=fs b _ e1 hb;exact⟨sl',e2⟩
 ·obtain⟨o',e1⟩:=u.there b o e hx;by_cases hb:b∈frs l
  ·obtain⟨sl',e2⟩:=fs b _ e1 hb;exact⟨_,e2⟩
  ·exact⟨o',kp b o' e1 (nh b o e) hb⟩
 ·refine (ok a o e).stay (fun b v hb q =>?_) (fun _ q=>q) fun _ _ q=>q;have tr:∃ v,H' b=some v:=by
   rcases hb with z|z
   ·exact⟨o,z▸e⟩
   ·exact⟨_,z⟩
  obtain⟨v',tr⟩:=tr;refine kp b v q (fun z =>?_) fun z =>?_
  ·rw[(hh b z).2]at tr;cases tr
  ·rw[fre b z]at tr;cases tr
theorem nX (u:Un (frs l) [] H H' h h')(ok:HOk P w H' h')(fr:h'.FunFrames bs l)(hh:∀ b∈hid,h.get? b=none∧H' b=none)(up:h'.UpToSlots h''){T:Addr}{oT:Obj}{ts:Array Value}
  (e:h''.get? T=some oT) (d:oT.data=.fields ts) (n:(fX h' (hid++frs l)).get? T=none):h.get? T=none∧H' T=none:=by
 have nf:T∉frs l:=fun z=>by
  obtain⟨_,o',e',nf⟩:=fr.mem z;obtain⟨sl,q⟩:=up T o' e' nf;rw[e]at q;cases q;exact nf ts d
 by_cases hb:T∈hid
 ·exact hh T hb
 ·have z:h'.get? T=none:=by
   cases q:h'.get? T with
   | none=>rfl
   | some o =>
    have z:(fX h' (hid++frs l)).get? T=some o:=PySem.W.hideAll_get _ q fun z=>(Cm.mp z).elim hb nf;rw[n]at z;cases z
  refine⟨?_,ok.not z⟩;cases q:h.get? T with
  | none=>rfl
  | some o =>
   obtain⟨o',q'⟩:=u.there T o q (by simp);rw[z]at q';cases q'
end
theorem xu {fs:List Addr}{H H':Hp}{h h':Heap}(u:Un fs [] H H' h h'){a:Addr}(e:h'.get? a=none):h.get? a=none:=by
 cases q:h.get? a with
 | none=>rfl
 | some o =>
  obtain⟨o',q'⟩:=u.there a o q (by simp);rw[e]at q';cases q'
section
variable {P:Program}{w:World}{mg:Str→Option Value}{base:Heap}{N:List Str}{qual:Str}{scope:Scope}{f:Addr}{cd:Value}{outer:List Env}{s0:Shared}{H0:Hp}{E:XK}
theorem sJ {pins:List (Addr × Obj)}{σ:St}{H:Hp}{s:Shared}{h':Heap}{e:Addr}{cls:Value}{args:List Value}(I:Inv (fe (CXe P w) P w K mg base N qual scope f cd A outer s0 H0 E) pins σ H s)
  (hx:Heap.MadeExcOf s.heap h' e cls args) (q:E cls none H):(fe (CXe P w) P w K mg base N qual scope f cd A outer s0 H0 E).xe (.ref e) { s with heap:=h' }:=by
 have fr:s.heap.FunFrames _ (fe (CXe P w) P w K mg base N qual scope f cd A outer s0 H0 E).stack:=I.stack;have kin:=I.stkFree;refine Bc (base:=fX s.heap ([]++frs (fe (CXe P w) P w K mg base N qual scope f cd A outer s0 H0 E).stack)) (h:=s.heap) (L:=s0.heap.objs.size) I.ok.frames rfl (fW _ _)
  (lZ fr fun a ha=>PySem.W.hideAll_none _ (Ce _ ha)) hx fun h'' a0 x1 x4 =>?_
 have up:s.heap.UpToSlots h'':=(Heap.UpToSlots.of_keeps hx.keeps).trans x4;obtain⟨y1,y2,y3,oe,vs,T,oT,ts,z1,z2,z3,z4,z5,z6,z7,z8,z9⟩:=x1;obtain⟨u,ok⟩:=og (H:=H) (hid:=[]) Un.refl I.hok fr kin (fun b z=>by cases z) y1 up;have J:=I.call' (s':={ s with heap:=h'' }) (ch:=[]) rfl u ok I.bare (fun b z=>by cases z);obtain⟨n1,n2⟩:=nX (H:=H) (hid:=[]) Un.refl I.hok fr (fun b z=>by cases z) up z7 z8 z5;exact⟨e,cls,H,rfl,J.os,J.bare,J.base,ok,⟨⟨oe,vs,_,T,oT,ts,z1,z2,z3,z4,⟨xu I.base n1,n2⟩,z6,z7,z8,z9⟩,xu I.base hx.new,I.hok.not hx.new⟩,q⟩
theorem wX {pins:List (Addr × Obj)}{σ:St}{H:Hp}{s s':Shared}{e:Value}(I:Inv (fe (CXe P w) P w K mg base N qual scope f cd A outer s0 H0 E) pins σ H s)
  (c:CXe P w (fe (CXe P w) P w K mg base N qual scope f cd A outer s0 H0 E).stack H s E e s'):(fe (CXe P w) P w K mg base N qual scope f cd A outer s0 H0 E).xe e s':=by
 obtain⟨ea,cls,H',rfl,c1,c2,c3,c4,⟨⟨oe,vs,a0,T,oT,ts,f1,f2,f3,f4,f5,f6,f7,f8,f9⟩,fn,fu⟩,q⟩:=c;have J:=I.call' (s':=s') (ch:=[]) c1 c3 c4 c2 (fun b z=>by cases z);have fr:s'.heap.FunFrames _ (fe (CXe P w) P w K mg base N qual scope f cd A outer s0 H0 E).stack:=J.stack;have hh:∀ b∈[ea,T],s.heap.get? b=none∧H' b=none:=fun b hb=>by
  rcases B6.mp hb with rfl|hb
  ·exact⟨fn,fu⟩
  ·rcases B6.mp hb with rfl|hb
   ·exact f5
   ·cases hb
 refine zT (base:=fX s'.heap ([ea,T]++frs (fe (CXe P w) P w K mg base N qual scope f cd A outer s0 H0 E).stack)) (L:=s0.heap.objs.size) (cls:=cls) (a0:=a0) I.ok.frames rfl
  ⟨fW _ _,PySem.W.hideAll_none _ (by simp),lZ fr fun a ha=>PySem.W.hideAll_none _ (Ce _ ha),oe,vs,T,oT,ts,f1,f2,f3,f4,PySem.W.hideAll_none _ (by simp),f6,f7,f8,f9⟩ fun h'' x1 x4 =>?_
 obtain⟨y1,y2,y3,oe',vs',T',oT',ts',z1,z2,z3,z4,z5,z6,z7,z8,z9⟩:=x1;obtain⟨u,ok⟩:=og c3 c4 fr J.stkFree hh y1 x4;have J':=I.call' (s':={ s' with heap:=h'' }) (ch:=[]) c1 u ok c2 (fun b z=>by cases z);obtain⟨n1,n2⟩:=nX c3 c4 fr hh x4 z7 z8 z5;exact⟨ea,cls,H',rfl,J'.os,J'.bare,J'.base,ok,⟨⟨oe',vs',_,T',oT',ts',z1,z2,z3,z4,⟨xu I.base n1,n2⟩,z6,z7,z8,z9⟩,xu I.base fn,fu⟩,q⟩
theorem bj:eI (CXe P w) (fe (CXe P w) P w K mg base N qual scope f cd A outer s0 H0 E) E:=fun _ _ _ _ _ _ I c=>wX I c
end
abbrev bmV:List Value:=[.type "ValueError",.type "Exception",.type "BaseException",.type "object"]
structure mO (K:PySem.W.Frag)(mg:Str→Option Value)(x:Str)(C:Addr):Prop where
 m:mg x=some (.ref C)
 ok:PySem.W.excIn K C bmV "ValueError.__new__" = true
theorem ya {K:PySem.W.Frag}{h:Heap}{C:Addr}{bmB:List Value}{newId:String}(X:K.In h)(q:PySem.W.excIn K C bmB newId=true):
  ∃ bm N nm qn bs hd sn sub ab col dd k0 k1 k2 k3 k5 mN,h.get? C=some (excClassObj nm qn C N bs bm hd sn sub ab col dd k0 k1 k2 k3 k5 newId)∧h.Ns N mN∧mN "__init__" = none∧OwnTail h bmB bm:=by
 unfold PySem.W.excIn at q
 split at q
 ·rename_i dct cdt slo hob
  split at q
  ·rename_i C2 bmx j0 j1 j2 j3 nw j5 hmr hsl
   simp only[Cy,beq_iff_eq,Bool.not_eq_true']at q;obtain⟨⟨⟨⟨⟨q1,q2⟩,q3⟩,q4⟩,q5⟩,q6⟩:=q;subst q1 q2;obtain⟨nm,bs,mro,ns,qn,hd,sn,sub,ab,col,del⟩:=cdt;dsimp only at hmr q3 q5 q6;subst hmr q3;have es:slo = #[j0,j1,j2,j3,some (.builtin nw),j5]:=by
    obtain⟨l⟩:=slo;simp only at hsl;rw[hsl]
   subst es;exact⟨bmx,ns,nm,qn,bs,hd,sn,sub,ab,col,dct,j0,j1,j2,j3,j5,_,X _ _ hob,.of_isNs (PySem.W.isNs_of_in X q5),PySem.W.nsMap_none_of_in X q5 q6,PySem.W.tail_of_in X q4⟩
  ·cases q
 ·cases q
def xw (X:Cx)(E:XK):Prop:=∀ (pins:List (Addr × Obj)) (σ:St) (H:Hp) (s:Shared) (h':Heap) (e:Addr) (cls:Value) (args:List Value),Inv X pins σ H s→Heap.MadeExcOf s.heap h' e cls args→E cls none H→X.xe (.ref e) { s with heap:=h' }
theorem bD {P:Program}{w:World}{K:PySem.W.Frag}{mg:Str→Option Value}{base:Heap}{N:List Str}{qual:Str}{scope:Scope}{f:Addr}{cd:Value}{A:Around}{outer:List Env}{s0:Shared}{H0:Hp}{E:XK}:
  xw (fe (CXe P w) P w K mg base N qual scope f cd A outer s0 H0 E) E:=fun _ _ _ _ _ _ _ _ I hx q=>sJ I hx q
def vW (te:TE)(cls:Value)(E:XK):TS:=fun _ σ H=>te σ H fun _ H1=>E cls none H1
section
theorem bf {x:Str}{C:Addr}{np cpos pos:Pos}{e:Expr}{te:TE}{E:XK}(o:mO X.K X.mg x C)(hE:xw X E)(ha:PE X e te)(hc:X.calm=true:=by rfl)(hg:Gl X x:=by rfl)(hd:(x == ("__debug__" : Str))=false:=by decide)
  (he:starEach [e] X.env=(false,eval e X.env)::starEach [] X.env:=by rfl):PS X (.Raise (some (.Call (.Name x np) [e] [] cpos)) none pos) (vW te (.ref C) E):=by
 intro pins s σ H D I h;obtain⟨bm,N,nm,qn,bs,hdt,sn,sub,ab,col,dd,k0,k1,k2,k3,k5,mN,hC,hN,hni,T⟩:=ya I.mod.kin o.ok;refine wpAny_Raise_call_subT (C:=C) (nm:=nm) (q:=qn) (N:=N) (bs:=bs) (bm:=bm) (hdct:=hdt) (sn:=sn) (sub:=sub) (ab:=ab) (col:=col) (dd:=dd) (k0:=k0) (k1:=k1) (k2:=k2) (k3:=k3) (k5:=k5) (mN:=mN)
  F.excBase_ValueError (T.hasType F.excBase_ValueError.hasBase) (I.ok.hd hc) (by rw[he];rfl) hni (fY I hg o.m ⟨rfl,?_⟩ hd)
 have ha0:=aa ha af he;have ha':=@ha0 cpos pins s σ H (fun vs H1=>vs.length=1∧E (.ref C) none H1) I (by
  refine (?_:dS te gk σ H _);exact (show te σ H _ from by
   have e1:(fun x H1=>gk σ H1 fun xs H2=>(x::xs).length=1∧E (Value.ref C) none H2)=fun (_:V) H1=>E (Value.ref C) none H1:=by
    funext x H1;simp[gk]
   rw[e1];exact h))
 rw[he]at ha' ⊢;refine Calls.evalArgs_plain (Cv ha' (fun us s2 z =>?_) fun _ _ y=>y);obtain⟨vs,H1,I2,r,hl,q⟩:=z;refine⟨rfl,by rw[← r.length,hl];decide,I2.bk _ _ hC,hN.keeps I2.bk,T.keeps I2.bk,fun h' e hm=>hE pins σ H1 s2 h' e _ us I2 hm q⟩
end
def mS (e:Addr)(cls:Value)(h:Heap):Prop:=∃ o vs,h.get? e=some o∧o.cls=cls∧o.data=.fields vs∧vs[2]? = some .none
structure jG (K:PySem.W.Frag)(C:Addr):Prop where
 ga:PySem.W.findIn K (.ref C) "__getattribute__" = some (some (.builtin "BaseException.__getattribute__"))
 gt:PySem.W.findIn K (.ref C) "__getattr__" = some none
 ca:PySem.W.findIn K (.ref C) "__class__" = some (some (.builtin "object.__class__"))
 m1:PySem.W.subIn K (.ref C) (.type "object")=some true
 m2:PySem.W.subIn K (.ref C) (.type "BaseException")=some true
 cl:(PySem.W.clsIn K C).isSome=true
section
variable {w:World}{E:Value→Shared→Prop}{h:Heap}{g:Array GenState}{d:Drawn}{t:Nat}{os:OsState}{a C:Addr}{o:Obj}{vs:Array Value}
theorem vH {R:Result→Shared→Prop}(hx:h.get? a=some o)(hc:o.cls=.ref C)(S:PySem.W.Looks (model prog w) h (isSubtype (.ref C) (.type "object")) true)(hq:R (.ok (.ret (.ref C))) ⟨h,g,d,t,os⟩):
  codeAny (model prog w) A (.call (.builtin "getset_descriptor.__get__") ⟨[.builtin "object.__class__",.ref a,.ref C],[]⟩) R ⟨h,g,d,t,os⟩:=by
 have hT5:(⟨h,g,d,t,os⟩:Shared).TypeIs (.builtin "object.__class__") "getset_descriptor" := F.typeOf_object_class
 have S':PySem.W.Looks (model prog w) h (isSubtype (.ref C) (.type (".".intercalate ("object.__class__".cutAt '.').dropLast))) true:=by rw[F.owner_object_class];exact S
 refine codeAny_call_builtin F.slot_gs_get.plain F.entry_gs_get (F.slot_gs_get.check _ _ _ _ _ _ _ _ hT5 (F.args_gs_get _ _ _) ?_)
 repeat (any_goals (first | assumption | (with_reducible refine wpAny_loadPart_at hx ?_;rw[hc]) | with_reducible refine S'.at ?_ | wp_step))
 refine⟨Code.quiet_builtin _ (by decide +kernel),codeAny_builtin F.entry_object_class ?_⟩
 repeat (any_goals (first | assumption | (with_reducible refine wpAny_loadPart_at hx ?_;rw[hc]) | wp_step))
theorem q_ {tk:Tok}{Q:Fin→Shared→Prop}(hx:h.get? a=some o)(hc:o.cls=.ref C)(S:PySem.W.Looks (model prog w) h (isSubtype (.ref C) (.type "object")) true)
  (L:PySem.W.Looks (model prog w) h (typeLookup (.ref C) "__class__") (some (.builtin "object.__class__"))) (hq:Q (.done (.ret (.ref C))) ⟨h,g,d,t,os⟩) :
  wpAny (model prog w) A (Builtin.«object.__getattribute__» ⟨[.ref a,.str "__class__" tk],[]⟩) Q E ⟨h,g,d,t,os⟩:=by
 have hT5:(⟨h,g,d,t,os⟩:Shared).TypeIs (.builtin "object.__class__") "getset_descriptor" := F.typeOf_object_class
 have f5:=F.typeOf_object_class;have f6:=F.slot_gs_get.lookup;have f7:=F.slot_gs_set.lookup
 repeat (any_goals (first | assumption | (with_reducible refine wpAny_loadPart_at hx ?_;rw[hc]) | with_reducible refine L.at ?_ | wp_step))
 refine vH hx hc S ?_
 repeat (any_goals (first | assumption | wp_step))
theorem ra {M:Model}{nv:Value}{Q:Unit→Shared→Prop}(hx:h.get? a=some o)(hc:o.cls=.ref C)(S:PySem.W.Looks M h (isSubtype (.ref C) (.type "BaseException")) true)(hq:Q () ⟨h,g,d,t,os⟩):
  wpAny M A (checkBuiltinCall "BaseException.__getattribute__" ⟨[.ref a,nv],[]⟩) Q E ⟨h,g,d,t,os⟩:=by
 have hk:builtinKind "BaseException.__getattribute__" = some .slot:=by decide +kernel
 have hs:splitId "BaseException.__getattribute__" = some ("BaseException","__getattribute__"):=by decide +kernel
 have ha:=F.args_bexc_ga (.ref a) nv;simp only[checkBuiltinCall,hk,hs];refine B4 ?_;unfold isInstance
 repeat (first | (with_reducible refine wpAny_loadPart_at hx ?_;rw[hc]) | with_reducible refine S.at ?_ | wp_step)
 exact hq
theorem xz {tk:Tok}{Q:Value→Shared→Prop}(hx:h.get? a=some o)(hc:o.cls=.ref C)(S:PySem.W.Looks (model prog w) h (isSubtype (.ref C) (.type "object")) true)(S2:PySem.W.Looks (model prog w) h (isSubtype (.ref C) (.type "BaseException")) true)
  (L:PySem.W.Looks (model prog w) h (typeLookup (.ref C) "__class__") (some (.builtin "object.__class__"))) (L1:PySem.W.Looks (model prog w) h (typeLookup (.ref C) "__getattribute__") (some (.builtin "BaseException.__getattribute__")))
  (L2:PySem.W.Looks (model prog w) h (typeLookup (.ref C) "__getattr__") none) (sl:Slot "ValueError" "__getattribute__" "BaseException.__getattribute__") (hq:Q (.ref C) ⟨h,g,d,t,os⟩):wpAny (model prog w) A (getAttrBy (.ref a) (.str "__class__" tk) false) Q E ⟨h,g,d,t,os⟩:=by
 have f3:=sl.bind (.ref a);have hx2:(Value.builtin "BaseException.__getattribute__" == Value.builtin "object.__getattribute__")=false:=by decide +kernel
 have hx1:(onTheHeap (Value.ref C) && Value.builtin "BaseException.__getattribute__" == Value.builtin "object.__getattribute__")=false:=by rw[hx2];rfl
 repeat (any_goals (first | assumption | (with_reducible refine wpAny_loadPart_at hx ?_;rw[hc]) | with_reducible refine L1.at ?_ | with_reducible refine L2.at ?_ | wp_step))
 refine codeAny_call_builtin sl.plain F.entry_bexc_ga (ra hx hc S2 (q_ hx hc S L ?_))
 repeat (any_goals (first | assumption | wp_step))
theorem uk {Q:Option Value→Shared→Prop}(hx:h.get? a=some o)(hc:o.cls=.ref C)(S:PySem.W.Looks (model prog w) h (isSubtype (.ref C) (.type "object")) true)(S2:PySem.W.Looks (model prog w) h (isSubtype (.ref C) (.type "BaseException")) true)
  (L:PySem.W.Looks (model prog w) h (typeLookup (.ref C) "__class__") (some (.builtin "object.__class__"))) (L1:PySem.W.Looks (model prog w) h (typeLookup (.ref C) "__getattribute__") (some (.builtin "BaseException.__getattribute__")))
  (L2:PySem.W.Looks (model prog w) h (typeLookup (.ref C) "__getattr__") none) (sl:Slot "ValueError" "__getattribute__" "BaseException.__getattribute__") (hq:Q (some (.ref C)) ⟨h,g,d,t + 1,os⟩):wpAny (model prog w) A (getAttr? (.ref a) "__class__") Q E ⟨h,g,d,t,os⟩:=by
 unfold getAttr? getAttrBy?
 repeat (any_goals (first | assumption | with_reducible apply xz hx hc S S2 L L1 L2 sl | wp_step))
end
theorem qG {K:PySem.W.Frag}{e C:Addr}(c:jG K C)(sl:Slot "ValueError" "__getattribute__" "BaseException.__getattribute__"):PySem.W.KitX K (.ref e) (.ref C) (mS e (.ref C)) where
 ty:=fun M h _ p=>by
  obtain⟨o,vs,h1,h2,_⟩:=p;exact h2▸(PySem.W.Looks.ld h1).andThen .now
 it:=fun M h X _=>by
  have z:=c.cl;unfold PySem.W.clsIn at z
  split at z
  ·rename_i c' d' cd' sl' ho
   intro A' Q' E' s' k q;unfold isType loadHead;exact B4 (wpAny_loadPart (k _ _ (X _ _ ho)) (Ch q))
  ·cases z
 ne:=fun h tp dd its n sl X htp=>by
  have z:=c.cl;refine Bool.eq_false_iff.mpr fun q =>?_;have e:C=tp:=Value.ref.inj (beq_iff_eq.mp q);subst e;unfold PySem.W.clsIn at z
  split at z
  ·rename_i c' d' cd' sl' ho
   have y:=(X _ _ ho).symm.trans htp;cases y
  ·cases z
 ca:=fun {prog w A E Q s} X p k=>by
  obtain⟨o,vs,h1,h2,_⟩:=p;obtain⟨hh,g,d,t,os⟩:=s;exact uk h1 h2 (PySem.W.looks_subIn X c.m1) (PySem.W.looks_subIn X c.m2) (PySem.W.looks_findIn X c.ca) (PySem.W.looks_findIn X c.ga) (PySem.W.looks_findIn X c.gt) sl k
section
def AV (K:PySem.W.Frag)(T:String):List V→Hp→VK→Prop:=fun xs H Q=>∃ e C b,xs=[.ref e,.ty T]∧H e=some (.ext (mS e (.ref C)))∧jG K C∧PySem.W.kitOne K (.ref C) (.type T)=some b∧Q (.bl b) H
def AW (K:PySem.W.Frag):List V→Hp→VK→Prop:=fun xs H Q=>∃ e C D b,xs=[.ref e,.ref D]∧H e=some (.ext (mS e (.ref C)))∧jG K C∧PySem.W.kitOne K (.ref C) (.ref D)=some b∧Q (.bl b) H
theorem vC {K:PySem.W.Frag}(T:String)(hK:X.K=K:=by rfl):eJ X (.builtin "isinstance") (AV K T):=by
 subst hK;intro pins s σ H xs us Q I r h;obtain⟨e,C,b,rfl,he,c,hk,q⟩:=h;obtain⟨u,c',rfl,rx,rc⟩:=pQ r;cases (show c'=.type T from rc);cases (show u=.ref e from rx);exact PySem.W.kia_one (qG c F.attr_ValueError.ga) I.kIn (I.hok e _ he).1 hk (fun z=>nomatch z) fun tk=>⟨.bl b,H,I.tok _,rfl,q⟩
theorem bV {K:PySem.W.Frag}(hK:X.K=K:=by rfl):eJ X (.builtin "isinstance") (AW K):=by
 subst hK;intro pins s σ H xs us Q I r h;obtain⟨e,C,D,b,rfl,he,c,hk,q⟩:=h;obtain⟨u,c',rfl,rx,rc⟩:=pQ r;cases (show c'=.ref D from rc);cases (show u=.ref e from rx);exact PySem.W.kia_one (qG c F.attr_ValueError.ga) I.kIn (I.hok e _ he).1 hk (fun z=>nomatch z) fun tk=>⟨.bl b,H,I.tok _,rfl,q⟩
end
abbrev Xs (X:Cx)(e:Addr):Cx:={ X with A:=X.A.mark (some (.ref e)),calm:=false,xe:=fun _ _=>False }
abbrev Xb (X:Cx)(W:Value→Shared→Prop)(pn:List (Addr × Obj)):Cx:={ X with xe:=W,pn:=pn }
section
variable {pins:List (Addr × Obj)}{σ:St}
theorem Inv.toXs (I:Inv X pins σ H s)(e:Addr):Inv (Xs X e) pins σ H s :=
 ⟨⟨I.ok.mod,I.ok.kind,I.ok.glob,I.ok.blt,I.ok.above,I.ok.inj,I.ok.has,I.ok.cab,(fun z=>nomatch z),I.ok.frames,I.ok.stk,I.ok.exf,I.ok.bs,I.ok.bsz,I.ok.noex,I.ok.exfs,I.ok.funs,I.ok.frf⟩,I.os,I.bare,I.base,I.loc,I.cell,I.free,I.freeC,I.pin,I.hok,I.len⟩
theorem Inv.ofXs {e:Addr}(I:Inv (Xs X e) pins σ H s)(ok:X.Ok):Inv X pins σ H s:=⟨ok,I.os,I.bare,I.base,I.loc,I.cell,I.free,I.freeC,I.pin,I.hok,I.len⟩
theorem Inv.toXb (I:Inv X pins σ H s)(W:Value→Shared→Prop):Inv (Xb X W (X.pn++pins)) [] σ H s :=
 ⟨⟨I.ok.mod,I.ok.kind,I.ok.glob,I.ok.blt,I.ok.above,I.ok.inj,I.ok.has,I.ok.cab,I.ok.hd,I.ok.frames,I.ok.stk,I.ok.exf,I.ok.bs,I.ok.bsz,I.ok.noex,I.ok.exfs,I.ok.funs,I.ok.frf⟩,I.os,I.bare,I.base,I.loc,I.cell,I.free,I.freeC,fun p hp=>I.pin p (by simpa using hp),I.hok,I.len⟩
theorem Inv.ofXb {W:Value→Shared→Prop}{pins':List (Addr × Obj)}(ok:X.Ok)(I:Inv (Xb X W (X.pn++pins)) pins' σ H s):Inv X pins σ H s :=
 ⟨ok,I.os,I.bare,I.base,I.loc,I.cell,I.free,I.freeC,fun p hp=>I.pin p (Do _ hp),I.hok,I.len⟩
theorem SP.ofXb {W:Value→Shared→Prop}{pins':List (Addr × Obj)}{D:hJ}{f:Flow}(ok:X.Ok)(h:SP (Xb X W (X.pn++pins)) pins' D f s):SP X pins D f s:=by
 cases f with
 | next=>obtain⟨σ',H',I,q⟩:=h;exact⟨σ',H',I.ofXb ok,q⟩
 | brk=>obtain⟨σ',H',I,q⟩:=h;exact⟨σ',H',I.ofXb ok,q⟩
 | cont=>obtain⟨σ',H',I,q⟩:=h;exact⟨σ',H',I.ofXb ok,q⟩
 | ret u=>obtain⟨v,σ',H',I,r,q⟩:=h;exact⟨v,σ',H',I.ofXb ok,r,q⟩
theorem Inv.track {a:Addr}{o:HO}(I:Inv X pins σ H s)(new:X.s₀.heap.get? a=none)(hx:H a=none)(h1:a≠X.env.locals)(h2:∀ x c,X.env.cells.lookup x=some c→c≠a)(h3:∀ p∈X.pn++pins,p.1≠a)
  (ok:bT X.prog X.w (upd H a o) s.heap a o):Inv X pins σ (upd H a o) s:=by
 refine⟨I.ok,I.os,I.bare,⟨I.base.keep,I.base.slot,fun b u e n hb =>?_,I.base.there,fun b xs e =>?_,fun b u v e =>?_,fun b ps e =>?_⟩,I.loc,I.cell,?_,fun x c e =>?_,fun p hp =>?_,fun b u e =>?_,I.len⟩
 ·have ne:b≠a:=fun z=>by rw[z,new]at e;cases e
  rw[aL ne];exact I.base.free b u e n hb
 ·have z:=I.base.tups b xs e;rw[aL (bI z hx)];exact z
 ·have z:=I.base.frzs b u v e;rw[aL (bI z hx)];exact z
 ·obtain⟨more,z⟩:=I.base.tbls b ps e;exact⟨more,by rw[aL (bI z hx)];exact z⟩
 ·rw[aL (Ne.symm h1)];exact I.free
 ·rw[aL (h2 x c e)];exact I.freeC x c e
 ·obtain⟨a1,a2,a3⟩:=I.pin p hp;exact⟨a1,by rw[aL (h3 p hp)];exact a2,a3⟩
 ·by_cases hb:b=a
  ·subst hb;rw[aj]at e;cases e;exact ok
  ·rw[aL hb]at e;exact (I.hok b u e).stay (fun _ _ _ q=>q) (fun c q=>by rw[aL (bI q hx)];exact q) fun c xs q=>by rw[aL (bI q hx)];exact q
theorem Inv.nameless {h':Heap}{m':Str→Option Value}{t':Nat}(I:Inv X pins σ H s)(hn:h'.Ns X.env.locals m')(hs:Heap.SameBut X.env.locals s.heap h'):
  Inv X pins (List.replicate X.N.length none) H { s with heap:=h',toks:=t' }:=by
 have neL:∀ b o,X.s₀.heap.get? b=some o→b≠X.env.locals:=fun b o e=>Cn (Co (B9 e) I.ok.above);refine⟨I.ok,I.os,I.bare,⟨fun b o e n hb hx =>?_,fun b o e n hb hx =>?_,I.base.free,fun b o e hx =>?_,I.base.tups,I.base.frzs,I.base.tbls⟩,⟨m',hn,fun i x v e1 e2 e3 =>?_⟩,fun x c e =>?_,I.free,I.freeC,fun p hp =>?_,fun b u e =>?_,by simp⟩
 ·exact (hs.2 b (neL b o e)).trans (I.base.keep b o e n hb hx)
 ·obtain⟨sl,e1⟩:=I.base.slot b o e n hb hx;exact⟨sl,(hs.2 b (neL b o e)).trans e1⟩
 ·obtain⟨o',e1⟩:=I.base.there b o e hx;exact⟨o',(hs.2 b (neL b o e)).trans e1⟩
 ·rw[C9]at e2
  split at e2<;>cases e2
 ·obtain⟨v,z⟩:=I.cell x c e;exact⟨v,z.sameBut hs (I.cne x c e)⟩
 ·obtain⟨a1,a2,a3,a4⟩:=I.pin p hp;exact⟨(hs.2 p.1 a3).trans a1,a2,a3,a4⟩
 ·refine (I.hok b u e).stay (fun c v hc q=>(hs.2 c ?_).trans q) (fun _ q=>q) fun _ _ q=>q;rintro rfl;rcases hc with rfl | hc
  ·rw[I.free]at e;cases e
  ·rw[I.free]at hc;cases hc
end
abbrev xP (D:hJ):hJ:={ nx:=fun _ _=>False,rt:=D.rt }
def Bz (K:PySem.W.Frag)(C:Value)(i:Nat)(tb:(Value→St→Hp→Prop)→TS)(ts:Addr→TS):TS:=fun D σ H =>
 tb (fun cls σ' H'=>PySem.W.exmOne K cls C=some true∧∀ e,H' e=none→ts e (xP D) (σ'.set i (some (.ref e))) (upd H' e (.ext (mS e cls)))) D σ H
def ze (X:Cx)(W:Value→Shared→Prop)(pn:List (Addr × Obj))(R:Value→St→Hp→Prop):Prop :=
 ∀ (pins:List (Addr × Obj)) (σ:St) (H:Hp) (s:Shared) (e:Value) (s':Shared),Inv (Xb X W pn) pins σ H s→CXe X.prog X.w X.stack H s (fun cls _ H'=>R cls σ H') e s'→W e s'
section
theorem zz {body suite:List Stmt}{b₀:Stmt}{cx n:Str}{np hp pos:Pos}{i:Nat}{C:Value}{tb:(Value→St→Hp→Prop)→TS}{ts:Addr→TS}(hnd:X.N.Nodup)(hi:X.N[i]? = some n)(hl:X.env.kindOf n=some .local)
  (hex:X.ex=[]) (hst:X.stack=X.env::X.outer) (hf:X.env.frame=some X.env.locals) (hm:X.mg cx=some C) (hg:Gl X cx) (hd:(cx == ("__debug__" : Str))=false)
  (hb:∀ W pn R,ze X W pn R→PSs (Xb X W pn) body (tb R)) (hs:∀ e,PSs (Xs X e) (b₀::suite) (ts e)) :
  PS X (.Try body [.ExceptHandler (some (.Name cx np)) (some n) (b₀::suite) hp] [] [] pos) (Bz X.K C i tb ts):=by
 intro pins s σ H D I h;refine wpAny_Try_except ?_;have key:=@hb (fun e s₁=>wpAny (model X.prog X.w) X.A (noteFrame e X.env) (fun _ s₂=>wpAny (model X.prog X.w) X.A (setFlight e none) (fun _ s₃ =>
   wpAny (model X.prog X.w) X.A (handleBy e X.env [.ExceptHandler (some (.Name cx np)) (some n) (b₀::suite) hp]) (SP X pins D) X.xe s₃) X.xe s₂) X.xe s₁) (X.pn++pins) _ (?_) [] s σ H D (I.toXb _) h
 ·refine Cv key (fun f s₁ q =>?_) fun _ _ z=>z;have q':=q.ofXb I.ok;cases f with
  | next=>exact wpAny_execs_nil q'
  | brk=>exact q'
  | cont=>exact q'
  | ret u=>exact q'
 ·intro pins' σ' H1 s1 e s' I' c;have I1:Inv X pins σ' H1 s1:=I'.ofXb I.ok;obtain⟨ea,cls,H',rfl,c1,c2,c3,c4,⟨⟨oe,vs,a0,T,oT,ts',f1,f2,f3,f4,f5,f6,f7,f8,f9⟩,fn,fu⟩,hx,q⟩:=c;have J:=I1.call' (s':=s') (ch:=[]) c1 c3 c4 c2 (fun b z=>by cases z);have fr:s'.heap.FunFrames _ X.stack:=J.stack;have fr':=fr;rw[hst]at fr';have hh:∀ b∈[ea,T],s1.heap.get? b=none∧H' b=none:=fun b hb=>by
   rcases B6.mp hb with rfl|hb
   ·exact⟨fn,fu⟩
   ·rcases B6.mp hb with rfl|hb
    ·exact f5
    ·cases hb
  have hfr:X.A.frames=some (X.env::X.outer):=by rw[← hst];exact I.ok.frames
  have stp:∀ h'':Heap,(fX s'.heap ([ea,T]++frs X.stack)).StaysIn h''→s'.heap.UpToSlots h''→Inv X pins σ' H' { s' with heap:=h'' }:=fun h'' y1 y2=>by
   obtain⟨u,ok⟩:=og c3 c4 fr J.stkFree hh y1 y2;exact I1.call' (s':={ s' with heap:=h'' }) (ch:=[]) c1 u ok c2 (fun b z=>by cases z)
  refine wW (base:=fX s'.heap ([ea,T]++frs X.stack)) (L:=X.env.locals) (cls:=cls) (a0:=a0) hfr hf
   ⟨fW _ _,PySem.W.hideAll_none _ (by simp),lZ fr' fun a ha=>PySem.W.hideAll_none _ (Ce _ (by rw[hst];exact ha)),oe,vs,T,oT,ts',f1,f2,f3,f4,PySem.W.hideAll_none _ (by simp),f6,f7,f8,f9⟩ fun h1 g1 up1 =>?_
  refine wL g1 fun h2 g2 up2 =>?_;have up12:=up1.trans up2;have J2:=stp h2 g2.1 up12;have Js:=J2.toXs ea;refine wpAny_handleBy_cons (codeAny_handlers_test (fY (X:=Xs X ea) Js hg hm ?_ hd)) (by intro z;cases z);have LT:PySem.W.Looks (model X.prog X.w) h2 (typeOf (.ref ea)) cls:=by
   obtain⟨_,_,_,oe2,vs2,T2,oT2,ts2,z1,z2,_⟩:=g2;exact z2.1▸(PySem.W.Looks.ld z1).andThen .now
  refine (PySem.W.exm_one (K:=X.K) J2.kIn LT hx).here ?_;refine codeAny_handlers_suite_as (wL g2 fun h3 g3 up3 =>?_);have J3:=stp h3 g3.1 (up12.trans up3);obtain⟨_,_,_,oe3,vs3,T3,oT3,ts3,z1,z2,z3,_⟩:=g3;have old:∀ b o,s1.heap.get? b=some o→b≠ea:=fun b o e z=>by rw[z,fn]at e;cases e
  have b0:Un X.fs [] X.H₀ H1 X.s₀.heap s1.heap:=by
   have z:=I1.base;rw[hex]at z;exact z
  have J4:Inv X pins σ' (upd H' ea (.ext (mS ea cls))) { s' with heap:=h3 }:=by
   refine J3.track (xu b0 fn) fu ?_ (fun x c e =>?_) (fun p hp' =>?_) ⟨⟨oe3,vs3,z1,z2.1,z3,z2.2.2⟩,⟨oe3,z1⟩,fun h1 h2 ⟨o,v,a1,a2,a3,a4⟩ k=>⟨o,v,k o a1,a2,a3,a4⟩⟩
   ·obtain⟨m,⟨o,_,_,ho,_⟩,_⟩:=I1.loc;exact Ne.symm (old _ o ho)
   ·obtain⟨v,o,ho,_⟩:=I1.cell x c e;exact old c o ho
   ·exact old _ _ (I1.pin p hp').1
  refine gp (X:=Xs X ea) (J4.toXs ea) hnd hi (.inl hl) (v:=.ref ea) rfl (fun s5 J5 =>?_) (.inr hl);refine Cv (@hs ea pins s5 _ _ _ J5 (q ea fu)) (fun f s6 z =>?_) fun _ _ z=>False.elim z;cases f with
  | next=>obtain⟨_,_,_,z⟩:=z;exact False.elim z
  | brk=>obtain⟨_,_,_,z⟩:=z;exact False.elim z
  | cont=>obtain⟨_,_,_,z⟩:=z;exact False.elim z
  | ret u =>
   obtain⟨v,σ6,H6,J6,r6,q6⟩:=z;have J6':=J6.ofXs I.ok;obtain⟨m,hn,_⟩:=J6'.loc;refine wpAny_nameGoes hl hn (by rw[I.ok.kind];rfl) fun h7 m7 hn7 sb =>?_;exact⟨v,_,H6,J6'.nameless hn7 sb,r6,q6⟩
end
section
variable {w:World}{E:Value→Shared→Prop}{x:Str}{t:Tok}
end
section
variable {tg:Expr}
end
def clo (env:Env)(xs:List Str):List (Str × Addr):=xs.map fun x=>(x,(env.cells.lookup x).getD 0)
def gf (env:Env)(scope:Scope)(xs caps:List Str):Prop:=∀ x∈caps,env.kindOf x=some .cell∧(relabel scope env).names.lookup x=some .cell∧x∈xs
theorem b9 {env:Env}{scope:Scope}{xs:List Str}:gf env scope xs []:=fun _ h=>by cases h
theorem c5 {env:Env}{scope:Scope}{xs:List Str}{x:Str}{r:List Str}(h1:env.kindOf x=some .cell)(h2:(relabel scope env).names.lookup x=some .cell)(h3:x∈xs)(h:gf env scope xs r):gf env scope xs (x::r):=fun y hy=>by
 rcases B6.mp hy with rfl|hy
 ·exact⟨h1,h2,h3⟩
 ·exact h y hy
theorem pF {env:Env}{x:Str}{c:Addr}:∀ {xs:List Str},x∈xs→env.cells.lookup x=some c→(clo env xs).lookup x=some c
 | [],h,_=>by cases h
 | y::r,h,e=>by
  unfold clo;rw[Ct,C5];by_cases z:x=y
  ·subst z;simp[e]
  ·have zb:(x == y)=false:=by simpa using z
   rw[zb];rcases B6.mp h with q | q
   ·exact absurd q z
   ·exact pF q e
theorem f_ {env:Env}{x:Str}:∀ {xs:List Str},x∈xs→∃ c,(clo env xs).lookup x=some c
 | [],h=>by cases h
 | y::r,h=>by
  unfold clo;rw[Ct,C5];by_cases z:x=y
  ·subst z;exact⟨_,by simp;rfl⟩
  ·have zb:(x == y)=false:=by simpa using z
   rw[zb];rcases B6.mp h with q | q
   ·exact absurd q z
   ·exact f_ q
theorem pE {env:Env}{x:Str}{c:Addr}{xs:List Str}(hin:(xs.all fun x=>(env.cells.lookup x).isSome)=true)(e:(clo env xs).lookup x=some c):env.cells.lookup x=some c:=by
 induction xs with
 | nil=>cases e
 | cons y r ih =>
  unfold clo at e;rw[Ct,C5]at e;rw[DK,Cy]at hin;by_cases z:x=y
  ·subst z;obtain⟨a,ha⟩:=CO.mp hin.1;rw[ha]at e ⊢;simpa using e
  ·have zb:(x == y)=false:=by simpa using z
   rw[zb]at e;exact ih hin.2 e
theorem fA {σ:St}{vs:List V}{is:List Nat}{N N' caps:List Str}{k:Nat}(hvs:is.map (fun i=>σ[i]?)=vs.map fun v=>some (some v))(his:is.map (N[·]?)=caps.map some)(hN:N'.drop k=caps)(hk:k≤N'.length):
  (List.replicate k (none:Option V)++vs.map some).length=N'.length:=by
 have h1:=Cs List.length hvs;have h2:=Cs List.length his;have h3:=Cs List.length hN;simp only[B_,CT,B3,CZ]at *;omega
theorem pG {σ:St}{vs:List V}{is:List Nat}{N N' caps:List Str}{k i:Nat}{x:Str}{v:V}(hvs:is.map (fun i=>σ[i]?)=vs.map fun v=>some (some v))(his:is.map (N[·]?)=caps.map some)(hN:N'.drop k=caps)
  (e1:N'[i]? = some x) (e2:(List.replicate k (none:Option V)++vs.map some)[i]? = some (some v)):∃ j:Nat,N[j]? = some x∧x∈caps∧σ[j]? = some (some v):=by
 have hik:k≤i:=by
  by_cases h:k≤i
  ·exact h
  ·rw[Cz (by simpa using h),C9]at e2
   split at e2<;>cases e2
 rw[CG (by simpa using hik),CZ]at e2;have e1':caps[i - k]? = some x:=by rw[← hN,List.getElem?_drop,Nat.add_sub_cancel' hik];exact e1
 have ev:vs[i - k]? = some v:=by
  rw[CK]at e2;cases z:vs[i - k]? with
  | none=>rw[z]at e2;cases e2
  | some a=>rw[z]at e2;cases e2;rfl
 have q1:=Cs (·[i - k]?) hvs;have q2:=Cs (·[i - k]?) his;simp only[CK,ev,e1',Option.map_some]at q1 q2;cases z:is[i - k]? with
 | none=>rw[z]at q1;cases q1
 | some j =>
  rw[z]at q1 q2;exact⟨j,Option.some.inj q2,Cw e1',Option.some.inj q1⟩
theorem ke {σ:St}{vs:List V}{k:Nat}(h:σ.drop k=vs.map some)(i:Nat)(v:V)(e:(List.replicate k (none:Option V)++vs.map some)[i]? = some (some v)):σ[i]? = some (some v):=by
 have hik:k≤i:=by
  by_cases h:k≤i
  ·exact h
  ·rw[Cz (by simpa using h),C9]at e
   split at e<;>cases e
 rw[CG (by simpa using hik),CZ,← h,List.getElem?_drop,Nat.add_sub_cancel' hik]at e;exact e
theorem sW {names:List (Str × NameKind)}{xs:List Str}(h:(names.all fun y => !(y.2 == .cell || y.2 == .free) || xs.contains y.1)=true):∀ y∈names,(y.2=.cell∨y.2=.free)→y.1∈xs:=fun y hy hk=>by
 have z:=CC.mp h y hy;rcases hk with e | e
 ·rw[e]at z;exact List.contains_iff_mem.mp (by simpa using z)
 ·rw[e]at z;exact List.contains_iff_mem.mp (by simpa using z)
def a8 (X:Cx)(N':List Str)(scope:Scope)(xs:List Str)(C:Addr)(s0:Shared)(H0:Hp)(fp:List Addr)(pins:List (Addr × Obj)):Cx where
 prog:=X.prog
 w:=X.w
 K:=X.K
 mg:=X.mg
 base:=X.base
 A:=X.A
 N:=N'
 s₀:=s0
 H₀:=H0
 env:=compEnvC scope (clo X.env xs) C X.env
 outer:=X.stack
 stack:=X.stack
 ex:=fp
 fn:=fun _=>false
 calm:=X.calm
 pn:=X.pn++pins
 xe:=fun _ _=>False
def ff (σ0:St)(k:Nat)(cs:St)(g:TG)(te:TE)(Q:VK):It→Hp→Prop:=fun J H1=>∀ D,H1 D=none→∃ W:Nat→Nat→List V→Hp→Prop,(∃ m,W 0 m [] (upd H1 D (.lst []))) ∧
 ∀ i m ys H2,W i m ys H2→H2 D=some (.lst ys)∧((J.stop i H2∧Q (.ref D) H2)∨(J.go i H2∧ys.length < sizeLine ∧
  ∀ x H',J.yld i H2 x H'→g x σ0 H' fun σ2 H3=>σ2.drop k=cs∧te σ2 H3 fun y H4=>H4 D=some (.lst ys)∧∃ m',m' < m∧W (i + 1) m' (ys++[y]) (upd H4 D (.lst (ys++[y])))))
def lE (is:List Nat)(k:Nat)(wi:TI)(g:TG)(te:TE):TE:=fun σ H Q=>∃ vs:List V,is.map (fun i=>σ[i]?)=vs.map (fun v=>some (some v))∧wi σ H (ff (List.replicate k none++vs.map some) k (vs.map some) g te Q)
def ue (σ0:St)(k:Nat)(cs:St)(g:TG)(tt:TT)(te:TE)(Q:VK):It→Hp→Prop:=fun J H1=>∀ D,H1 D=none→∃ W:Nat→Nat→List V→Hp→Prop,(∃ m,W 0 m [] (upd H1 D (.lst []))) ∧
 ∀ i m ys H2,W i m ys H2→H2 D=some (.lst ys)∧((J.stop i H2∧Q (.ref D) H2)∨(J.go i H2∧ys.length < sizeLine ∧
  ∀ x H',J.yld i H2 x H'→g x σ0 H' fun σ2 H3=>σ2.drop k=cs∧tt σ2 H3 fun b H4=>if b=true then te σ2 H4 fun y H5=>H5 D=some (.lst ys)∧∃ m',m' < m∧W (i + 1) m' (ys++[y]) (upd H5 D (.lst (ys++[y])))
   else ∃ m',m' < m∧W (i + 1) m' ys H4))
def iW (is:List Nat)(k:Nat)(wi:TI)(g:TG)(tt:TT)(te:TE):TE:=fun σ H Q=>∃ vs:List V,is.map (fun i=>σ[i]?)=vs.map (fun v=>some (some v))∧wi σ H (ue (List.replicate k none++vs.map some) k (vs.map some) g tt te Q)
def PTs (X:Cx)(ifs:List Expr)(tt:TT):Prop:=∀ (pins:List (Addr × Obj)) (s:Shared) (σ:St) (H:Hp) (Q:Bool→Hp→Prop),Inv X pins σ H s→tt σ H Q→wpAny (model X.prog X.w) X.A (vT ifs X.env) (fun ok s'=>∃ H',Inv X pins σ H' s'∧Q ok H') X.xe s
def zk:TT:=fun _ H Q=>Q true H
theorem oO {X:Cx}:PTs X [] zk:=fun _ _ _ H _ I q=>wpAny_tests_nil ⟨H,I,q⟩
theorem j_ (is:List Nat)(k:Nat)(wi:TI)(g:TG)(te:TE):lE is k wi g te=iW is k wi g zk te:=by
 unfold lE iW ff ue zk;simp only[if_true]
section
variable {elt tg iter cnd:Expr}{ifs:List Expr}{scope:Scope}{N':List Str}{wi:TI}{g:TG}{te:TE}{tt:TT}
theorem wA (xs caps:List Str)(is:List Nat)(k:Nat)(hclos:closureFor scope X.env=pure (clo X.env xs))(hin:(xs.all fun x=>(X.env.cells.lookup x).isSome)=true)(hcap:gf X.env scope xs caps)(his:is.map (X.N[·]?)=caps.map some)(hN:N'.drop k=caps)(hk:k≤N'.length)
  (hallB:((relabel scope X.env).names.all fun y => !(y.2 == .cell || y.2 == .free) || xs.contains y.1)=true) (hcell:∀ y∈scope.names,y.2≠.cell) (hkind:scope.kind=.function) (hnames:∀ y∈scope.names,y.2=.local→scope.names.lookup y.1=some .local)
  (hcalm:X.calm=true) (hi:PI X tg iter wi) (hg:∀ C s0 H0 fp pins,PG (a8 X N' scope xs C s0 H0 fp pins) tg g) (ht:∀ C s0 H0 fp pins,PTs (a8 X N' scope xs C s0 H0 fp pins) ifs tt) (he:∀ C s0 H0 fp pins,PE (a8 X N' scope xs C s0 H0 fp pins) elt te)
  (hs:∀ x,foldedSetIterable iter X.env x=pure x:=by intro _;rfl):PE X (.ListComp elt [⟨tg,iter,ifs,0⟩] scope pos) (iW is k wi g tt te):=by
 intro pins s σ H Q I h;have hall:=sW hallB;obtain⟨vs,hvs,h⟩:=h;rw[eval_ListComp];refine wpAny_comprehension_free (use:=none) rfl hs hclos hkind hnames (thn (@hi pins s σ H _ I h) fun v s1 h1=>thn h1 fun itv s2 h2 =>?_);obtain⟨it,fp,tn,J,H2,e,I2,T,st2,f2,hW⟩:=h2;subst e;refine wpAny_newObj_type (wpAny_newFunctionEnv hcell (by intro y hy;simp at hy) (fun h₁ hns₁ hsb₁ =>?_) hkind);dsimp only at hns₁ hsb₁ ⊢;generalize hH2:s2.heap.push { cls:=.type "list",dict:=none,data:=.seq ([]:List Value).toArray }=P2 at hns₁ hsb₁ ⊢
 have hC:P2.objs.size=s2.heap.objs.size + 1:=by rw[← hH2,CY]
 have below:∀ b,b < s2.heap.objs.size→b≠P2.objs.size∧b≠s2.heap.objs.size:=fun b hb=>⟨by rw[hC];exact Cn (C8 hb),Cn hb⟩;have hDC:s2.heap.objs.size≠P2.objs.size:=by rw[hC];exact Cn (Db _)
 have old:∀ b o,s2.heap.get? b=some o→h₁.get? b=some o:=fun b o e=>hsb₁.extBut b o (below b (B9 e)).1 (B2 _ (hH2▸B2 _ e));have hD:h₁.get? s2.heap.objs.size=some { cls:=.type "list",dict:=none,data:=.seq ([]:List Value).toArray }:=hsb₁.extBut _ _ hDC (B2 _ (hH2▸Ca _ rfl))
 have frD:H2 s2.heap.objs.size=none:=I2.hok.fresh (B7 _);have frC:H2 P2.objs.size=none:=I2.hok.fresh (by rw[hC];exact Dh _);have hfp:∀ b∈fp,b < s2.heap.objs.size:=fun b hb=>by
  obtain⟨o,e,_⟩:=T.obj _ _ st2 b hb;exact B9 e
 have nst:∀ b,b≠X.env.locals→b∉X.fs→b∉frs X.stack:=fun b n1 n2 z=>by
  rcases B6.mp (I2.stkSub b z) with e|e
  ·exact n1 e
  ·exact n2 e
 obtain⟨W,⟨m0,w0⟩,turn⟩:=hW s2.heap.objs.size frD;have csub:∀ (x:Str) (c:Addr),(clo X.env xs).lookup x=some c→X.env.cells.lookup x=some c:=fun x c e=>pE hin e;have cold:∀ (x:Str) (c:Addr),(clo X.env xs).lookup x=some c→∃ v,s2.heap.IsCell c v:=fun x c e=>I2.cell x c (csub x c e);have clt:∀ (x:Str) (c:Addr),(clo X.env xs).lookup x=some c→c < s2.heap.objs.size:=fun x c e=>by
  obtain⟨v,o,ho,_⟩:=cold x c e;exact B9 ho
 have ok':(a8 X N' scope xs P2.objs.size s2 H2 fp pins).Ok:=by
  refine⟨I2.ok.mod,hkind,I2.ok.glob,I2.ok.blt,?_,fun x y c e e'=>I2.ok.inj x y c (csub x c e) (csub y c e'),fun x hx =>?_,(fun x c z _=>by cases z),I2.ok.hd,I2.ok.frames,.inl rfl,fun b hb=>⟨(below b (hfp b hb)).1,fun x c e=>(f2 b hb).2.2.2.2.1 x c (csub x c e)⟩,I2.bs,Cq I2.ok.bsz I2.sz,fun b o e hb =>?_,fun b hb=>nst b (f2 b hb).2.1 (f2 b hb).2.2.1,I2.stack,I2.stkFree⟩
  ·show s2.heap.objs.size≤P2.objs.size;rw[hC];exact Dh _
  ·have hx':(relabel scope X.env).names.lookup x=some .cell∨(relabel scope X.env).names.lookup x=some .free:=hx;rcases hx' with z | z
   ·exact f_ (hall _ (PySem.mem_of_lookup z) (.inl rfl))
   ·exact f_ (hall _ (PySem.mem_of_lookup z) (.inr rfl))
  ·rcases (f2 b hb).2.2.2.1 with z|z
   ·exact I2.ok.noex b o e z
   ·exact absurd (Co (B9 (I2.ok.bs b o e).1) z) (CV _)
 have I':Inv (a8 X N' scope xs P2.objs.size s2 H2 fp pins) [] (List.replicate k none++vs.map some) (upd H2 s2.heap.objs.size (.lst [])) { s2 with heap:=h₁,toks:=s2.toks + ([]:List (Str × Value)).length }:=by
  refine⟨ok',rfl,I2.bare,Un.laid old (B7 _) frD,⟨_,hns₁,fun i x v e1 e2 e3 =>?_⟩,fun x c e =>?_,?_,fun x c e =>?_,fun p hp =>?_,I2.hok.laid old (B7 _) ⟨by simp,[],0,.nil,hD⟩,?_⟩
  ·obtain⟨j,ej,hj1,hj2⟩:=pG hvs his hN e1 e2;obtain⟨hc1,hc2,hc3⟩:=hcap x hj1;obtain⟨m,hn,hl⟩:=I2.loc;obtain⟨u,r,l⟩:=hl j x v ej hj2 (.inr (.inl hc1));refine⟨u,r,.inr ⟨.inl hc2,?_⟩⟩;rcases l with⟨z,_⟩|⟨_,c,ec,⟨o,ho,hd⟩⟩
   ·rw[show X.env.kindOf x=some .cell from hc1]at z;cases z
   ·exact⟨c,pF hc3 ec,o,old _ _ ho,hd⟩
  ·obtain⟨v,o,ho,hd⟩:=cold x c e;exact⟨v,o,old _ _ ho,hd⟩
  ·show upd H2 s2.heap.objs.size (.lst []) P2.objs.size=none;rw[aL (Ne.symm hDC)];exact frC
  ·show upd H2 s2.heap.objs.size (.lst []) c=none;rw[aL (below _ (clt x c e)).2];exact I2.freeC x c (csub x c e)
  ·have hp':p∈X.pn++pins:=by
    rcases Cm.mp hp with z|z
    ·exact z
    ·cases z
   obtain⟨a1,a2,a3,a4,a5⟩:=I2.pin p hp';refine⟨old _ _ a1,?_,(below _ (B9 a1)).1,nst _ a3 a4,a5⟩;rw[aL (below _ (B9 a1)).2];exact a2
  ·show (List.replicate k none++vs.map some).length=N'.length;exact fA hvs his hN hk
 have stat:∀ {H':Hp},(∀ b∈fp,H' b=none)→∀ b∈fp,mP (a8 X N' scope xs P2.objs.size s2 H2 fp pins) [] H' b:=fun {H'} hn b hb =>
  ⟨hn b hb,(below b (hfp b hb)).1,nst b (f2 b hb).2.1 (f2 b hb).2.2.1,.inl hb,fun x c e=>(f2 b hb).2.2.2.2.1 x c (csub x c e),fun p hp=>(f2 b hb).2.2.2.2.2 p (by
   rcases Cm.mp hp with z|z
   ·exact z
   ·cases z)⟩
 have fin:∀ (ys:List V) (σ':St) (H':Hp) (s':Shared),Inv (a8 X N' scope xs P2.objs.size s2 H2 fp pins) [] σ' H' s'→Q (.ref s2.heap.objs.size) H' →
   ∃ m,s'.heap.Ns P2.objs.size m∧∀ h',Heap.SameBut P2.objs.size s'.heap h'→EP X pins σ Q (.ref s2.heap.objs.size) { s' with heap:=h' }:=by
  intro ys σ' H' s' J1 q;obtain⟨m,hm,_⟩:=id J1.loc;refine⟨m,hm,fun h' sb=>⟨.ref s2.heap.objs.size,H',?_,rfl,q⟩⟩;have ne:∀ b o,s2.heap.get? b=some o→b≠P2.objs.size:=fun b o e=>(below b (B9 e)).1;refine I2.call' (s':={ s' with heap:=h' }) (ch:=fp) J1.os ⟨fun b o e n hb hx =>?_,fun b o e n hb hx =>?_,fun b o e n hx=>J1.base.free b o e n hx,fun b o e hx =>?_,J1.base.tups,J1.base.frzs,J1.base.tbls⟩ (J1.hok.but J1.free fun b u hb q=>(sb.2 b hb).trans q) J1.bare fun b hb=>⟨(f2 b hb).2.2.2.1,(f2 b hb).2.1,(f2 b hb).2.2.2.2.1,(f2 b hb).2.2.2.2.2⟩
  ·exact (sb.2 b (ne b o e)).trans (J1.base.keep b o e n hb hx)
  ·obtain⟨sl,z⟩:=J1.base.slot b o e n hb hx;exact⟨sl,(sb.2 b (ne b o e)).trans z⟩
  ·obtain⟨o',z⟩:=J1.base.there b o e hx;exact⟨o',(sb.2 b (ne b o e)).trans z⟩
 have loop:codeAny (model X.prog X.w) X.A (.compLoop (.ListComp elt [⟨tg,iter,ifs,0⟩] scope pos) 0 (.ref it) (.ref s2.heap.objs.size) (compEnvC scope (clo X.env xs) P2.objs.size X.env))
   (compPost (model X.prog X.w) X.A X.xe none (EP X pins σ Q) (.ref s2.heap.objs.size) P2.objs.size)
   { s2 with heap:=h₁,toks:=s2.toks + ([]:List (Str × Value)).length }:=by
  refine gW (fun n s'=>∃ i ys σ' H',σ'.drop k=vs.map some∧Inv (a8 X N' scope xs P2.objs.size s2 H2 fp pins) [] σ' H' s'∧tn i s'.heap∧(∀ b∈fp,H' b=none)∧W i n ys H') ?_ m0
   ⟨0,[],List.replicate k none++vs.map some,_,by simp,I',T.keep _ _ _ st2 (fun b hb o e=>old b o e),fun b hb=>by rw[aL (below b (hfp b hb)).2];exact (f2 b hb).1,w0⟩
  rintro n s3 ⟨i,ys,σ3,H3,hd3,J3,st3,fr3,w3⟩;obtain⟨hl,q3⟩:=turn i n ys H3 w3;rcases q3 with⟨stop,q⟩ | ⟨go,hlt,step⟩
  ·refine thn (T.done (a8 X N' scope xs P2.objs.size s2 H2 fp pins) rfl rfl rfl hcalm i [] s3 σ3 H3 _ J3 (stat fr3) st3 stop) fun r s4 ⟨hr,J4⟩ =>?_;subst hr;exact fin ys σ3 H3 s4 J4 q
  ·refine thn (T.item (a8 X N' scope xs P2.objs.size s2 H2 fp pins) rfl rfl rfl hcalm i [] s3 σ3 H3 _ J3 (stat fr3) st3 go) fun r s4 ⟨u,hr,h4⟩ =>?_;subst hr;refine thn h4 fun _ s5 ⟨x,H5,J5,r5,y5,st5,fr5⟩ =>?_;have J5':=J5.pinned (stat fr5) (T.obj _ _ st5);have J6:Inv (a8 X N' scope xs P2.objs.size s2 H2 fp pins) ([]++iO fp s5.heap) (List.replicate k none++vs.map some) H5 s5:=J5'.weak (by rw[J5'.len];exact fA hvs his hN hk) (ke hd3);refine Cv (hg _ _ _ _ _ _ s5 _ H5 x u _ J6 r5 (step x H5 y5)) (fun _ s6 ⟨σ6,H6,J7,hd6,q6⟩ =>?_) fun _ _ z=>False.elim z;refine Cv (ht _ _ _ _ _ _ s6 σ6 H6 _ J7 q6) (fun ok s6b ⟨H6b,J7b,q6b⟩ =>?_) fun _ _ z=>False.elim z;cases ok with
   | false =>
    rw[if_neg (by decide)];rw[if_neg (by decide)]at q6b;obtain⟨m',hm',w7⟩:=q6b;have pk:∀ b∈fp,∀ o,s5.heap.get? b=some o→s6b.heap.get? b=some o∧H6b b=none:=fun b hb o e =>
     let z:=J7b.pin (b,o) (Ce _ (Ce _ (cI hb e)))
     ⟨z.1,z.2.1⟩
    refine⟨m',hm',i + 1,ys,σ6,_,hd6,J7b.unpinned,T.keep _ _ _ st5 fun b hb o e=>(pk b hb o e).1,fun b hb =>?_,w7⟩;obtain⟨o,e,_⟩:=T.obj _ _ st5 b hb;exact (pk b hb o e).2
   | true =>
    rw[if_pos rfl];rw[if_pos rfl]at q6b;refine Cv (@he _ _ _ _ _ _ s6b σ6 H6b _ J7b q6b) (fun yv s7 ⟨y,H7,J8,r7,q7⟩ =>?_) fun _ _ z=>False.elim z;obtain⟨hl7,m',hm',w7⟩:=q7;refine Cv (dE (X:=a8 X N' scope xs P2.objs.size s2 H2 fp pins) _ s7 σ6 H7 (.ref s2.heap.objs.size) [y] (.ref s2.heap.objs.size) [yv] (fun v H8=>H8=upd H7 s2.heap.objs.size (.lst (ys++[y]))) J8 rfl (.cons r7 .nil) ⟨_,ys,y,rfl,rfl,hl7,hlt,rfl⟩) (fun _ s8 ⟨v8,H8,J9,r8,e8⟩ =>?_) fun _ _ z=>False.elim z;subst e8;have pk:∀ b∈fp,∀ o,s5.heap.get? b=some o→s8.heap.get? b=some o∧upd H7 s2.heap.objs.size (.lst (ys++[y])) b=none:=fun b hb o e =>
     let z:=J9.pin (b,o) (Ce _ (Ce _ (cI hb e)))
     ⟨z.1,z.2.1⟩
    refine⟨m',hm',i + 1,ys++[y],σ6,_,hd6,J9.unpinned,T.keep _ _ _ st5 fun b hb o e=>(pk b hb o e).1,fun b hb =>?_,w7⟩;obtain⟨o,e,_⟩:=T.obj _ _ st5 b hb;exact (pk b hb o e).2
 exact codeAny_compStart_list loop (T.self X.A 0 { s2 with heap:=h₁,toks:=s2.toks + ([]:List (Str × Value)).length } _ _ (T.keep _ _ _ st2 fun b hb o e=>old b o e) loop)
theorem dM (xs caps:List Str)(is:List Nat)(k:Nat)(hclos:closureFor scope X.env=pure (clo X.env xs))(hin:(xs.all fun x=>(X.env.cells.lookup x).isSome)=true)(hcap:gf X.env scope xs caps)(his:is.map (X.N[·]?)=caps.map some)(hN:N'.drop k=caps)(hk:k≤N'.length)
  (hallB:((relabel scope X.env).names.all fun y => !(y.2 == .cell || y.2 == .free) || xs.contains y.1)=true) (hcell:∀ y∈scope.names,y.2≠.cell) (hkind:scope.kind=.function) (hnames:∀ y∈scope.names,y.2=.local→scope.names.lookup y.1=some .local)
  (hcalm:X.calm=true) (hi:PI X tg iter wi) (hg:∀ C s0 H0 fp pins,PG (a8 X N' scope xs C s0 H0 fp pins) tg g) (he:∀ C s0 H0 fp pins,PE (a8 X N' scope xs C s0 H0 fp pins) elt te)
  (hs:∀ x,foldedSetIterable iter X.env x=pure x:=by intro _;rfl):PE X (.ListComp elt [⟨tg,iter,[],0⟩] scope pos) (lE is k wi g te):=by
 rw[j_];exact wA xs caps is k hclos hin hcap his hN hk hallB hcell hkind hnames hcalm hi hg (fun _ _ _ _ _=>oO) he hs
end
section
theorem yF:bootBuiltins "enumerate" = some (.type "enumerate"):=by decide +kernel
end
mutual
inductive Dat (H:Hp):V→PyData→Prop
 | non:Dat H .non .none
 | bl (b:Bool):Dat H (.bl b) (.bool b)
 | int (i:Int):Dat H (.int i) (.int i)
 | str (x:Str):Dat H (.str x) (.str x)
 | lst {a:Addr} {xs:List V} {ds:List PyData}:H a=some (.lst xs)→Dats H xs ds→Dat H (.ref a) (.list ds)
 | tup {a:Addr} {xs:List V} {ds:List PyData}:H a=some (.tup xs)→Dats H xs ds→Dat H (.ref a) (.tuple ds)
inductive Dats (H:Hp):List V→List PyData→Prop
 | nil:Dats H [] []
 | cons {x:V} {xs:List V} {d:PyData} {ds:List PyData}:Dat H x d→Dats H xs ds→Dats H (x::xs) (d::ds)
end
section
variable {P:Program}{w:World}{H:Hp}{h:Heap}
mutual
theorem Dat.reads (ok:HOk P w H h):∀ {x:V} {d:PyData} {u:Value},Dat H x d→a_ x u→∃ as,Reads h u d as
 | _,_,u,.non,r=>by cases (show u=Value.none from r);exact⟨_,.none⟩
 | _,_,u,.bl b,r=>by cases (show u=Value.bool b from r);exact⟨_,.bool b⟩
 | _,_,u,.int i,r=>by obtain⟨t,rfl⟩:=r;exact⟨_,.int i t⟩
 | _,_,u,.str x,r=>by obtain⟨t,rfl⟩:=r;exact⟨_,.str x t⟩
 | _,_,u,.lst (a:=a) e q,r=>by
  cases (show u=Value.ref a from r);obtain⟨_,its,n,rv,g⟩:=ok a _ e;obtain⟨as,rs⟩:=Dats.reads ok q rv;exact⟨_,.list g rfl rfl rs⟩
 | _,_,u,.tup (a:=a) e q,r=>by
  cases (show u=Value.ref a from r);obtain⟨_,its,rv,o,g,c,n,dd⟩:=ok a _ e;obtain⟨as,rs⟩:=Dats.reads ok q rv;exact⟨_,.tuple g c dd rs⟩
theorem Dats.reads (ok:HOk P w H h):∀ {xs:List V} {ds:List PyData} {us:List Value},Dats H xs ds→aX xs us→∃ as,ReadsAll h us ds as
 | _,_,_,.nil,.nil=>⟨_,.nil⟩
 | _,_,_,.cons p q,.cons r s=>by
  obtain⟨as,x⟩:=Dat.reads ok p r;obtain⟨bs,y⟩:=Dats.reads ok q s;exact⟨_,.cons x y⟩
end
end
def zw (neg:Bool):R2:=fun x y H Q=>∃ d1 d2,Dat H x d1∧Dat H y d2∧SeqAt.shaped d1=true∧SeqAt.shaped d2=true∧Q (.bl (if neg then !PyData.eqv d1 d2 else PyData.eqv d1 d2)) H
section
variable {X:Cx}
theorem zH {k:Nat}(hr:cy k X.A):OpR X (compareOp .Eq) (zw false):=by
 intro pins s σ H x y v u Q I rx ry h;obtain⟨d1,d2,p,q,s1,s2,h⟩:=h;obtain⟨as,r1⟩:=p.reads I.hok rx;obtain⟨bs,r2⟩:=q.reads I.hok ry;exact eq_dataH r1 r2 s1 s2 hr.units ⟨.bl _,H,I,rfl,h⟩
theorem oU {k:Nat}(hr:cy k X.A):OpR X (compareOp .NotEq) (zw true):=by
 intro pins s σ H x y v u Q I rx ry h;obtain⟨d1,d2,p,q,s1,s2,h⟩:=h;obtain⟨as,r1⟩:=p.reads I.hok rx;obtain⟨bs,r2⟩:=q.reads I.hok ry;exact ne_dataH r1 r2 s1 s2 hr.units ⟨.bl _,H,I,rfl,h⟩
end
end L2
namespace L2
open PySem PySem.Spec PyProof.Rows
variable {H:Hp}{X:Cx}{s:Shared}{pos:Pos}{prog:Program}{A:Around}{K:PySem.W.Frag}
section
theorem xt (hc:X.calm=true):eJ X (.builtin "any") (fun xs H Q=>∃ (a:Addr) (bs:List Bool),xs=[.ref a]∧SqL X.K H a (bs.map V.bl)∧Q (.bl (bs.any id)) H):=by
 intro pins s σ H xs us Q I r h;obtain⟨a,bs,rfl,hS,q⟩:=h;obtain⟨u,rfl,ru⟩:=iV r;cases ru;obtain⟨its,rv,pl,_⟩:=I.list hS;have hb:=gZ rv;have hlt:a < s.heap.objs.size:=by obtain⟨_,e,_⟩:=pl.isList;exact B9 e
 refine call_any_walk (wpAny_pyIter_list pl.isList ?_);refine⟨s.heap.objs.size,[s.heap.objs.size,a],[s.heap.objs.size],its.toArray.size,_,_,fun i=>(bs[i]?).getD false,rfl,Walks.list (A:=X.A.in1) (I.ok.hd hc) _ a (Cn hlt) its.toArray,
  ⟨⟨_,Ca _ rfl,rfl,rfl⟩,pl.isList.push _⟩,fun i v s' Q' E' hP hQ =>?_,fun h' tk hk =>?_⟩
 ·obtain⟨b,e,rfl⟩:=hb.get i v (by simpa using hP);simp only[e,Option.getD_some]at hQ;exact wpAny_truthy_bool hQ
 ·have e:((List.range its.toArray.size).any fun i=>(bs[i]?).getD false)=bs.any id:=by
   rw[Cj,hb.length];exact LSm.range_any bs
  rw[e];exact⟨.bl _,H,I.kept (LSm.kept_iter hk),rfl,q⟩
end
section
theorem yr (hK:X.K=K:=by rfl):IxR X (AU K):=hK▸bg
end
section
variable {σ0 cs:St}{k:Nat}{g:TG}{te:TE}{tt:TT}{H1:Hp}{Q:VK}
theorem jB {J:It}(n:Nat)(gv:Nat→V→Prop)(Pv:Addr→Nat→List V→Hp→Prop)(hn:n≤sizeLine)
  (hgo:∀ D i ys H,i < n→Pv D i ys H→J.go i H) (hst:∀ D ys H,Pv D n ys H→J.stop n H) (hy:∀ D i ys H x H',i < n→Pv D i ys H→J.yld i H x H'→H'=H∧gv i x)
  (hl:∀ D i ys H,Pv D i ys H→H D=some (.lst ys)∧ys.length≤i) (h0:∀ D,H1 D=none→Pv D 0 [] (upd H1 D (.lst [])))
  (hs:∀ D i x ys H,i < n→gv i x→H1 D=none→Pv D i ys H→g x σ0 H fun σ2 H3=>σ2.drop k=cs∧te σ2 H3 fun y H4=>H4 D=some (.lst ys)∧Pv D (i + 1) (ys++[y]) (upd H4 D (.lst (ys++[y]))))
  (hd:∀ D ys H,H1 D=none→Pv D n ys H→Q (.ref D) H) (mono:∀ x σ H (R R':St→Hp→Prop),(∀ σ' H',R σ' H'→R' σ' H')→g x σ H R→g x σ H R')
  (mono2:∀ σ H (R R':VK),(∀ v H',R v H'→R' v H')→te σ H R→te σ H R'):ff σ0 k cs g te Q J H1:=by
 intro D hD;refine⟨fun i m ys H=>m=n - i∧i≤n∧Pv D i ys H,⟨n,rfl,Cr _,h0 D hD⟩,?_⟩;rintro i m ys H ⟨rfl,hi,p⟩;obtain⟨e1,e2⟩:=hl D i ys H p;refine⟨e1,?_⟩;by_cases hlt:i < n
 ·refine .inr ⟨hgo D i ys H hlt p,by omega,fun x H' y =>?_⟩;obtain⟨rfl,hx⟩:=hy D i ys H x H' hlt p y;refine mono _ _ _ _ _ (fun σ2 H3 ⟨z1,z2⟩=>⟨z1,mono2 _ _ _ _ (fun v H4 ⟨z3,z4⟩=>⟨z3,n - (i + 1),by omega,rfl,hlt,z4⟩) z2⟩) (hs D i x ys H' hlt hx hD p)
 ·have e:i=n:=by omega
  subst e;exact .inl ⟨hst D ys H p,hd D ys H hD p⟩
theorem mM {a:Addr}(xs:List V)(Pv:Addr→Nat→List V→Hp→Prop)(hn:xs.length≤sizeLine)(hq:∀ D i ys H,Pv D i ys H→SqL K H a xs)
  (hl:∀ D i ys H,Pv D i ys H→H D=some (.lst ys)∧ys.length≤i) (h0:∀ D,H1 D=none→Pv D 0 [] (upd H1 D (.lst [])))
  (hs:∀ D i x ys H,xs[i]? = some x→H1 D=none→Pv D i ys H→g x σ0 H fun σ2 H3=>σ2.drop k=cs∧te σ2 H3 fun y H4=>H4 D=some (.lst ys)∧Pv D (i + 1) (ys++[y]) (upd H4 D (.lst (ys++[y]))))
  (hd:∀ D ys H,H1 D=none→Pv D xs.length ys H→Q (.ref D) H) (mono:∀ x σ H (R R':St→Hp→Prop),(∀ σ' H',R σ' H'→R' σ' H')→g x σ H R→g x σ H R')
  (mono2:∀ σ H (R R':VK),(∀ v H',R v H'→R' v H')→te σ H R→te σ H R'):ff σ0 k cs g te Q (Itl K a) H1 :=
 jB xs.length (fun i x=>xs[i]? = some x) Pv hn (fun D i ys H hi p=>⟨xs,xs[i],hq D i ys H p,by simp[hi]⟩) (fun D ys H p=>⟨xs,hq D _ ys H p,B7 _⟩)
  (fun D i ys H x H' hi p y=>⟨y.1,y.2 xs (hq D i ys H p)⟩) hl h0 (fun D i x ys H hi hx hD p=>hs D i x ys H hx hD p) hd mono mono2
theorem nZ {a:Addr}(xs:List V)(Pv:Addr→Nat→List V→Hp→Prop)(hn:xs.length≤sizeLine)(hq:∀ D i ys H,Pv D i ys H→SqT K H a xs)
  (hl:∀ D i ys H,Pv D i ys H→H D=some (.lst ys)∧ys.length≤i) (h0:∀ D,H1 D=none→Pv D 0 [] (upd H1 D (.lst [])))
  (hs:∀ D i x ys H,xs[i]? = some x→H1 D=none→Pv D i ys H→g x σ0 H fun σ2 H3=>σ2.drop k=cs∧te σ2 H3 fun y H4=>H4 D=some (.lst ys)∧Pv D (i + 1) (ys++[y]) (upd H4 D (.lst (ys++[y]))))
  (hd:∀ D ys H,H1 D=none→Pv D xs.length ys H→Q (.ref D) H) (mono:∀ x σ H (R R':St→Hp→Prop),(∀ σ' H',R σ' H'→R' σ' H')→g x σ H R→g x σ H R')
  (mono2:∀ σ H (R R':VK),(∀ v H',R v H'→R' v H')→te σ H R→te σ H R'):ff σ0 k cs g te Q (Itt K a) H1 :=
 jB xs.length (fun i x=>xs[i]? = some x) Pv hn (fun D i ys H hi p=>⟨xs,xs[i],hq D i ys H p,by simp[hi]⟩) (fun D ys H p=>⟨xs,hq D _ ys H p,B7 _⟩)
  (fun D i ys H x H' hi p y=>⟨y.1,y.2 xs (hq D i ys H p)⟩) hl h0 (fun D i x ys H hi hx hD p=>hs D i x ys H hx hD p) hd mono mono2
end
theorem SqL.up {K:PySem.W.Frag}{H H':Hp}{a:Addr}{xs:List V}(h:SqL K H a xs)(s:al H H'):SqL K H' a xs:=by
 rcases h with (h|⟨o,h⟩)|h
 ·exact .inl (.inl (s _ _ h))
 ·exact .inl (.inr ⟨o,s _ _ h⟩)
 ·exact .inr h
inductive Tr where
 | col (i:Int)
 | four (a b c d:Tr)
deriving DecidableEq
def Tr.data:Tr→PyData
 | .col i=>.int i
 | .four a b c d=>.tuple [a.data,b.data,c.data,d.data]
def Tr.deep:Tr→Nat
 | .col _=>0
 | .four a b c d=>max a.deep (max b.deep (max c.deep d.deep)) + 1
def Tr.isCol:Tr→Bool
 | .col _=>true
 | .four ..=>false
inductive bH (H:Hp):V→Tr→Prop
 | col (i:Int):bH H (.int i) (.col i)
 | four {p:Addr} {a b c d:V} {ta tb tc td:Tr}:H p=some (.tup [a,b,c,d])→bH H a ta→bH H b tb→bH H c tc→bH H d td→bH H (.ref p) (.four ta tb tc td)
def eG (H H':Hp):Prop:=∀ b xs,H b=some (.tup xs)→H' b=some (.tup xs)
theorem al.tups {H H':Hp}(s:al H H'):eG H H':=fun b xs e=>s b _ e
theorem eG.trans {H H' H'':Hp}(s:eG H H')(t:eG H' H''):eG H H'':=fun b xs e=>t b xs (s b xs e)
theorem eG.lst {H:Hp}{l:Addr}{xs ys:List V}(e:H l=some (.lst xs)):eG H (upd H l (.lst ys)):=fun b zs q=>by
 rw[aL (mx q e (by intro z;cases z))];exact q
theorem bH.up {H H':Hp}(s:eG H H'):∀ {v:V} {t:Tr},bH H v t→bH H' v t
 | _,_,.col i=>.col i
 | _,_,.four e a b c d=>.four (s _ _ e) (bH.up s a) (bH.up s b) (bH.up s c) (bH.up s d)
theorem bH.dat {H:Hp}:∀ {v:V} {t:Tr},bH H v t→Dat H v t.data
 | _,_,.col i=>.int i
 | _,_,.four e a b c d=>.tup e (.cons a.dat (.cons b.dat (.cons c.dat (.cons d.dat .nil))))
theorem Tr.eqv:∀ t u:Tr,PyData.eqv t.data u.data=decide (t=u)
 | .col i,.col j=>by
  show (i == j)=_;by_cases h:i=j<;>simp[h]
 | .col i,.four ..=>by
  show false=_;simp
 | .four ..,.col j=>by
  show false=_;simp
 | .four a b c d,.four a' b' c' d'=>by
  show (PyData.eqv a.data a'.data && (PyData.eqv b.data b'.data && (PyData.eqv c.data c'.data && (PyData.eqv d.data d'.data && true))))=_;rw[Tr.eqv a a',Tr.eqv b b',Tr.eqv c c',Tr.eqv d d'];by_cases h1:a=a'<;>by_cases h2:b=b'<;>by_cases h3:c=c'<;>by_cases h4:d=d'<;>simp[h1,h2,h3,h4]
theorem Tr.lay:∀ t:Tr,t.data.canLay0=true
 | .col i=>rfl
 | .four a b c d=>by
  show (a.data.canLay0 && (b.data.canLay0 && (c.data.canLay0 && (d.data.canLay0 && true))))=true;rw[Tr.lay a,Tr.lay b,Tr.lay c,Tr.lay d];rfl
theorem Tr.depth:∀ t:Tr,t.data.depth=t.deep
 | .col i=>rfl
 | .four a b c d=>by
  show max a.data.depth (max b.data.depth (max c.data.depth (max d.data.depth 0))) + 1=_;rw[Tr.depth a,Tr.depth b,Tr.depth c,Tr.depth d,Nat.max_zero];rfl
theorem Tr.shaped {t:Tr}(h:t.deep≤64):SeqAt.shaped t.data=true:=by
 unfold SeqAt.shaped;rw[Tr.lay,Tr.depth,B8 h];rfl
theorem bH.ty {K:PySem.W.Frag}{H:Hp}{v:V}{t:Tr}(h:bH H v t):fg K H v (if t.isCol then .type "int" else .type "tuple"):=by
 cases h with
 | col i=>exact .int i
 | four e=>exact .tup e
section
variable {elt tg iter cnd:Expr}{ifs:List Expr}{scope:Scope}{N':List Str}{wi:TI}{g:TG}{te:TE}{tt:TT}
theorem xV {y:Str}{py spos:Pos}{i0:Nat}(xs caps:List Str)(is:List Nat)(k:Nat)(hclos:closureFor scope X.env=pure (clo X.env xs))(hin:(xs.all fun x=>(X.env.cells.lookup x).isSome)=true)(hcap:gf X.env scope xs caps)(his:is.map (X.N[·]?)=caps.map some)(hN:N'.drop k=caps)(hk:k≤N'.length)
  (hallB:((relabel scope X.env).names.all fun y => !(y.2 == .cell || y.2 == .free) || xs.contains y.1)=true) (hcell:∀ y∈scope.names,y.2≠.cell) (hkind:scope.kind=.function) (hnames:∀ y∈scope.names,y.2=.local→scope.names.lookup y.1=some .local)
  (hcalm:X.calm=true) (hi:PI X tg iter wi) (hg:∀ C s0 H0 fp pins,PG (a8 X N' scope xs C s0 H0 fp pins) tg g) (ht:∀ C s0 H0 fp pins,PTs (a8 X N' scope xs C s0 H0 fp pins) ifs tt) (he:∀ C s0 H0 fp pins,PE (a8 X N' scope xs C s0 H0 fp pins) elt te)
  (hNd:X.N.Nodup) (hi0:X.N[i0]? = some y) (hy:Loc X.env.scope y) (hsw:swapsWith (.ListComp elt [⟨tg,iter,ifs,0⟩] scope pos) (some (.Name y py)) spos.line X.env=pure true) (hf:X.fn y=true∨X.env.scope.names.lookup y=some .local)
  (hs:∀ x,foldedSetIterable iter X.env x=pure x:=by intro _;rfl):PS X (.Assign [.Name y py] (.ListComp elt [⟨tg,iter,ifs,0⟩] scope pos) spos) (mV (iW is k wi g tt te) (ir i0)):=by
 intro pins s σ H D0 I h;have hall:=sW hallB;obtain⟨vs,hvs,h⟩:=h;rw[exec_Assign_Name_used _ _ _ _ hsw];refine B4 (wpAny_standAt (B4 ?_));show wpAny _ X.A (do let _ ← comprehension (.ListComp elt [⟨tg,iter,ifs,0⟩] scope pos) scope X.env _ (newList []) false (eval iter X.env) (some (assign (.Name y py) X.env))) _ _ s;refine B4 (Cv (wpAny_comprehension_free (use:=some (assign (.Name y py) X.env)) (Q:=fun _ s'=>SP X pins D0 .next s') rfl hs hclos hkind hnames (thn (@hi pins s σ H _ I h) fun v s1 h1=>thn h1 fun itv s2 h2 =>?_)) (fun _ s' hq=>Ch (Ch hq)) fun _ _ e=>e);obtain⟨it,fp,tn,J,H2,e,I2,T,st2,f2,hW⟩:=h2;subst e;refine wpAny_newObj_type (wpAny_newFunctionEnv hcell (by intro y hy;simp at hy) (fun h₁ hns₁ hsb₁ =>?_) hkind);dsimp only at hns₁ hsb₁ ⊢;generalize hH2:s2.heap.push { cls:=.type "list",dict:=none,data:=.seq ([]:List Value).toArray }=P2 at hns₁ hsb₁ ⊢
 have hC:P2.objs.size=s2.heap.objs.size + 1:=by rw[← hH2,CY]
 have below:∀ b,b < s2.heap.objs.size→b≠P2.objs.size∧b≠s2.heap.objs.size:=fun b hb=>⟨by rw[hC];exact Cn (C8 hb),Cn hb⟩;have hDC:s2.heap.objs.size≠P2.objs.size:=by rw[hC];exact Cn (Db _)
 have old:∀ b o,s2.heap.get? b=some o→h₁.get? b=some o:=fun b o e=>hsb₁.extBut b o (below b (B9 e)).1 (B2 _ (hH2▸B2 _ e));have hD:h₁.get? s2.heap.objs.size=some { cls:=.type "list",dict:=none,data:=.seq ([]:List Value).toArray }:=hsb₁.extBut _ _ hDC (B2 _ (hH2▸Ca _ rfl))
 have frD:H2 s2.heap.objs.size=none:=I2.hok.fresh (B7 _);have frC:H2 P2.objs.size=none:=I2.hok.fresh (by rw[hC];exact Dh _);have hfp:∀ b∈fp,b < s2.heap.objs.size:=fun b hb=>by
  obtain⟨o,e,_⟩:=T.obj _ _ st2 b hb;exact B9 e
 have nst:∀ b,b≠X.env.locals→b∉X.fs→b∉frs X.stack:=fun b n1 n2 z=>by
  rcases B6.mp (I2.stkSub b z) with e|e
  ·exact n1 e
  ·exact n2 e
 obtain⟨W,⟨m0,w0⟩,turn⟩:=hW s2.heap.objs.size frD;have csub:∀ (x:Str) (c:Addr),(clo X.env xs).lookup x=some c→X.env.cells.lookup x=some c:=fun x c e=>pE hin e;have cold:∀ (x:Str) (c:Addr),(clo X.env xs).lookup x=some c→∃ v,s2.heap.IsCell c v:=fun x c e=>I2.cell x c (csub x c e);have clt:∀ (x:Str) (c:Addr),(clo X.env xs).lookup x=some c→c < s2.heap.objs.size:=fun x c e=>by
  obtain⟨v,o,ho,_⟩:=cold x c e;exact B9 ho
 have ok':(a8 X N' scope xs P2.objs.size s2 H2 fp pins).Ok:=by
  refine⟨I2.ok.mod,hkind,I2.ok.glob,I2.ok.blt,?_,fun x y c e e'=>I2.ok.inj x y c (csub x c e) (csub y c e'),fun x hx =>?_,(fun x c z _=>by cases z),I2.ok.hd,I2.ok.frames,.inl rfl,fun b hb=>⟨(below b (hfp b hb)).1,fun x c e=>(f2 b hb).2.2.2.2.1 x c (csub x c e)⟩,I2.bs,Cq I2.ok.bsz I2.sz,fun b o e hb =>?_,fun b hb=>nst b (f2 b hb).2.1 (f2 b hb).2.2.1,I2.stack,I2.stkFree⟩
  ·show s2.heap.objs.size≤P2.objs.size;rw[hC];exact Dh _
  ·have hx':(relabel scope X.env).names.lookup x=some .cell∨(relabel scope X.env).names.lookup x=some .free:=hx;rcases hx' with z | z
   ·exact f_ (hall _ (PySem.mem_of_lookup z) (.inl rfl))
   ·exact f_ (hall _ (PySem.mem_of_lookup z) (.inr rfl))
  ·rcases (f2 b hb).2.2.2.1 with z|z
   ·exact I2.ok.noex b o e z
   ·exact absurd (Co (B9 (I2.ok.bs b o e).1) z) (CV _)
 have I':Inv (a8 X N' scope xs P2.objs.size s2 H2 fp pins) [] (List.replicate k none++vs.map some) (upd H2 s2.heap.objs.size (.lst [])) { s2 with heap:=h₁,toks:=s2.toks + ([]:List (Str × Value)).length }:=by
  refine⟨ok',rfl,I2.bare,Un.laid old (B7 _) frD,⟨_,hns₁,fun i x v e1 e2 e3 =>?_⟩,fun x c e =>?_,?_,fun x c e =>?_,fun p hp =>?_,I2.hok.laid old (B7 _) ⟨by simp,[],0,.nil,hD⟩,?_⟩
  ·obtain⟨j,ej,hj1,hj2⟩:=pG hvs his hN e1 e2;obtain⟨hc1,hc2,hc3⟩:=hcap x hj1;obtain⟨m,hn,hl⟩:=I2.loc;obtain⟨u,r,l⟩:=hl j x v ej hj2 (.inr (.inl hc1));refine⟨u,r,.inr ⟨.inl hc2,?_⟩⟩;rcases l with⟨z,_⟩|⟨_,c,ec,⟨o,ho,hd⟩⟩
   ·rw[show X.env.kindOf x=some .cell from hc1]at z;cases z
   ·exact⟨c,pF hc3 ec,o,old _ _ ho,hd⟩
  ·obtain⟨v,o,ho,hd⟩:=cold x c e;exact⟨v,o,old _ _ ho,hd⟩
  ·show upd H2 s2.heap.objs.size (.lst []) P2.objs.size=none;rw[aL (Ne.symm hDC)];exact frC
  ·show upd H2 s2.heap.objs.size (.lst []) c=none;rw[aL (below _ (clt x c e)).2];exact I2.freeC x c (csub x c e)
  ·have hp':p∈X.pn++pins:=by
    rcases Cm.mp hp with z|z
    ·exact z
    ·cases z
   obtain⟨a1,a2,a3,a4,a5⟩:=I2.pin p hp';refine⟨old _ _ a1,?_,(below _ (B9 a1)).1,nst _ a3 a4,a5⟩;rw[aL (below _ (B9 a1)).2];exact a2
  ·show (List.replicate k none++vs.map some).length=N'.length;exact fA hvs his hN hk
 have stat:∀ {H':Hp},(∀ b∈fp,H' b=none)→∀ b∈fp,mP (a8 X N' scope xs P2.objs.size s2 H2 fp pins) [] H' b:=fun {H'} hn b hb =>
  ⟨hn b hb,(below b (hfp b hb)).1,nst b (f2 b hb).2.1 (f2 b hb).2.2.1,.inl hb,fun x c e=>(f2 b hb).2.2.2.2.1 x c (csub x c e),fun p hp=>(f2 b hb).2.2.2.2.2 p (by
   rcases Cm.mp hp with z|z
   ·exact z
   ·cases z)⟩
 have fin:∀ (ys:List V) (σ':St) (H':Hp) (s':Shared),Inv (a8 X N' scope xs P2.objs.size s2 H2 fp pins) [] σ' H' s'→D0.nx (σ.set i0 (some (.ref s2.heap.objs.size))) H' →
   wpAny (model X.prog X.w) X.A (assign (.Name y py) X.env (.ref s2.heap.objs.size)) (fun _ s''=>∃ m,s''.heap.Ns P2.objs.size m∧∀ h',Heap.SameBut P2.objs.size s''.heap h'→SP X pins D0 .next { s'' with heap:=h' }) X.xe s':=by
  intro ys σ' H' s' J1 q;obtain⟨m,hm,_⟩:=id J1.loc;have J2:Inv X pins σ H' s':=I2.call' (s':=s') (ch:=fp) J1.os ⟨J1.base.keep,J1.base.slot,J1.base.free,J1.base.there,J1.base.tups,J1.base.frzs,J1.base.tbls⟩ J1.hok J1.bare fun b hb=>⟨(f2 b hb).2.2.2.1,(f2 b hb).2.1,(f2 b hb).2.2.2.2.1,(f2 b hb).2.2.2.2.2⟩;have s0C:X.s₀.heap.objs.size≤P2.objs.size:=Cq I2.sz (by rw[hC];exact Dh _);have neL:P2.objs.size≠X.env.locals:=Ne.symm (below _ I2.lt).1;have neC:∀ x c,X.env.cells.lookup x=some c→c≠P2.objs.size:=fun x c e=>by
   obtain⟨v,o,ho,_⟩:=I2.cell x c e;exact (below _ (B9 ho)).1
  have neP:∀ p∈X.pn++pins,p.1≠P2.objs.size:=fun p hp=>(below _ (B9 (I2.pin p hp).1)).1;refine wpAny_assign_Name (nA J2 hNd hi0 hy (v:=.ref s2.heap.objs.size) rfl (fun s5 J5 hsb =>?_) hf);obtain⟨a,sb,ha⟩:=hsb;have nea:P2.objs.size≠a:=by
   rcases ha with rfl|ha
   ·exact neL
   ·exact Ne.symm (neC _ _ ha)
  refine⟨m,hm.sameBut sb nea,fun h' sb'=>⟨_,H',?_,q⟩⟩;exact J5.turned (t':=s5.toks) (fun b o hb e=>(sb'.2 b hb).trans e) J1.free neL (.inr s0C) neC neP
 have loop:codeAny (model X.prog X.w) X.A (.compLoop (.ListComp elt [⟨tg,iter,ifs,0⟩] scope pos) 0 (.ref it) (.ref s2.heap.objs.size) (compEnvC scope (clo X.env xs) P2.objs.size X.env))
   (compPost (model X.prog X.w) X.A X.xe (some (assign (.Name y py) X.env)) (fun _ s'=>SP X pins D0 .next s') (.ref s2.heap.objs.size) P2.objs.size)
   { s2 with heap:=h₁,toks:=s2.toks + ([]:List (Str × Value)).length }:=by
  refine gW (fun n s'=>∃ i ys σ' H',σ'.drop k=vs.map some∧Inv (a8 X N' scope xs P2.objs.size s2 H2 fp pins) [] σ' H' s'∧tn i s'.heap∧(∀ b∈fp,H' b=none)∧W i n ys H') ?_ m0
   ⟨0,[],List.replicate k none++vs.map some,_,by simp,I',T.keep _ _ _ st2 (fun b hb o e=>old b o e),fun b hb=>by rw[aL (below b (hfp b hb)).2];exact (f2 b hb).1,w0⟩
  rintro n s3 ⟨i,ys,σ3,H3,hd3,J3,st3,fr3,w3⟩;obtain⟨hl,q3⟩:=turn i n ys H3 w3;rcases q3 with⟨stop,q⟩ | ⟨go,hlt,step⟩
  ·refine thn (T.done (a8 X N' scope xs P2.objs.size s2 H2 fp pins) rfl rfl rfl hcalm i [] s3 σ3 H3 _ J3 (stat fr3) st3 stop) fun r s4 ⟨hr,J4⟩ =>?_;subst hr;exact fin ys σ3 H3 s4 J4 q
  ·refine thn (T.item (a8 X N' scope xs P2.objs.size s2 H2 fp pins) rfl rfl rfl hcalm i [] s3 σ3 H3 _ J3 (stat fr3) st3 go) fun r s4 ⟨u,hr,h4⟩ =>?_;subst hr;refine thn h4 fun _ s5 ⟨x,H5,J5,r5,y5,st5,fr5⟩ =>?_;have J5':=J5.pinned (stat fr5) (T.obj _ _ st5);have J6:Inv (a8 X N' scope xs P2.objs.size s2 H2 fp pins) ([]++iO fp s5.heap) (List.replicate k none++vs.map some) H5 s5:=J5'.weak (by rw[J5'.len];exact fA hvs his hN hk) (ke hd3);refine Cv (hg _ _ _ _ _ _ s5 _ H5 x u _ J6 r5 (step x H5 y5)) (fun _ s6 ⟨σ6,H6,J7,hd6,q6⟩ =>?_) fun _ _ z=>False.elim z;refine Cv (ht _ _ _ _ _ _ s6 σ6 H6 _ J7 q6) (fun ok s6b ⟨H6b,J7b,q6b⟩ =>?_) fun _ _ z=>False.elim z;cases ok with
   | false =>
    rw[if_neg (by decide)];rw[if_neg (by decide)]at q6b;obtain⟨m',hm',w7⟩:=q6b;have pk:∀ b∈fp,∀ o,s5.heap.get? b=some o→s6b.heap.get? b=some o∧H6b b=none:=fun b hb o e =>
     let z:=J7b.pin (b,o) (Ce _ (Ce _ (cI hb e)))
     ⟨z.1,z.2.1⟩
    refine⟨m',hm',i + 1,ys,σ6,_,hd6,J7b.unpinned,T.keep _ _ _ st5 fun b hb o e=>(pk b hb o e).1,fun b hb =>?_,w7⟩;obtain⟨o,e,_⟩:=T.obj _ _ st5 b hb;exact (pk b hb o e).2
   | true =>
    rw[if_pos rfl];rw[if_pos rfl]at q6b;refine Cv (@he _ _ _ _ _ _ s6b σ6 H6b _ J7b q6b) (fun yv s7 ⟨y,H7,J8,r7,q7⟩ =>?_) fun _ _ z=>False.elim z;obtain⟨hl7,m',hm',w7⟩:=q7;refine Cv (dE (X:=a8 X N' scope xs P2.objs.size s2 H2 fp pins) _ s7 σ6 H7 (.ref s2.heap.objs.size) [y] (.ref s2.heap.objs.size) [yv] (fun v H8=>H8=upd H7 s2.heap.objs.size (.lst (ys++[y]))) J8 rfl (.cons r7 .nil) ⟨_,ys,y,rfl,rfl,hl7,hlt,rfl⟩) (fun _ s8 ⟨v8,H8,J9,r8,e8⟩ =>?_) fun _ _ z=>False.elim z;subst e8;have pk:∀ b∈fp,∀ o,s5.heap.get? b=some o→s8.heap.get? b=some o∧upd H7 s2.heap.objs.size (.lst (ys++[y])) b=none:=fun b hb o e =>
     let z:=J9.pin (b,o) (Ce _ (Ce _ (cI hb e)))
     ⟨z.1,z.2.1⟩
    refine⟨m',hm',i + 1,ys++[y],σ6,_,hd6,J9.unpinned,T.keep _ _ _ st5 fun b hb o e=>(pk b hb o e).1,fun b hb =>?_,w7⟩;obtain⟨o,e,_⟩:=T.obj _ _ st5 b hb;exact (pk b hb o e).2
 exact codeAny_compStart_list loop (T.self X.A 0 { s2 with heap:=h₁,toks:=s2.toks + ([]:List (Str × Value)).length } _ _ (T.keep _ _ _ st2 fun b hb o e=>old b o e) loop)
theorem xW {y:Str}{py spos:Pos}{i0:Nat}(xs caps:List Str)(is:List Nat)(k:Nat)(hclos:closureFor scope X.env=pure (clo X.env xs))(hin:(xs.all fun x=>(X.env.cells.lookup x).isSome)=true)(hcap:gf X.env scope xs caps)(his:is.map (X.N[·]?)=caps.map some)(hN:N'.drop k=caps)(hk:k≤N'.length)
  (hallB:((relabel scope X.env).names.all fun y => !(y.2 == .cell || y.2 == .free) || xs.contains y.1)=true) (hcell:∀ y∈scope.names,y.2≠.cell) (hkind:scope.kind=.function) (hnames:∀ y∈scope.names,y.2=.local→scope.names.lookup y.1=some .local)
  (hcalm:X.calm=true) (hi:PI X tg iter wi) (hg:∀ C s0 H0 fp pins,PG (a8 X N' scope xs C s0 H0 fp pins) tg g) (he:∀ C s0 H0 fp pins,PE (a8 X N' scope xs C s0 H0 fp pins) elt te)
  (hNd:X.N.Nodup) (hi0:X.N[i0]? = some y) (hy:Loc X.env.scope y) (hsw:swapsWith (.ListComp elt [⟨tg,iter,[],0⟩] scope pos) (some (.Name y py)) spos.line X.env=pure true:=by rfl) (hf:X.fn y=true∨X.env.scope.names.lookup y=some .local:=by first | exact .inl rfl | exact .inr rfl | assumption)
  (hs:∀ x,foldedSetIterable iter X.env x=pure x:=by intro _;rfl):PS X (.Assign [.Name y py] (.ListComp elt [⟨tg,iter,[],0⟩] scope pos) spos) (mV (lE is k wi g te) (ir i0)):=by
 rw[j_];exact xV xs caps is k hclos hin hcap his hN hk hallB hcell hkind hnames hcalm hi hg (fun _ _ _ _ _=>oO) he hNd hi0 hy hsw hf hs
end
section
end
section
theorem tG {K:PySem.W.Frag}{es:List Expr}{k:Nat}{t:TGs}{n:Nat}(hc:X.calm=true)(h:PGs X es t)(hK:X.K=K:=by rfl)
  (hn:(assignEach es X.env).length=n:=by rfl) (hst:(assignEach es X.env).findIdx? (·.1)=none:=by rfl):PG X (.Tuple es k pos) (Bl K n t):=by
 subst hK;exact mf hc h hn hst
end
def BD (t:TS):TS:=fun D σ H=>∃ Pv:St→Hp→Prop,t { D with nx:=Pv } σ H∧∀ σ' H',Pv σ' H'→D.nx σ' H'
section
variable {st:Stmt}{t:TS}
theorem rP (h:PS X st t):PS X st (BD t):=by
 intro pins s σ H D I ⟨Pv,h1,h2⟩;refine thn (@h pins s σ H { D with nx:=Pv } I h1) fun f s1 q =>?_;cases f with
 | next =>
  obtain⟨σ',H',I',q⟩:=q;exact⟨σ',H',I',h2 _ _ q⟩
 | ret v=>exact q
 | brk=>exact q
 | cont=>exact q
end
section
variable {w:World}{E:Value→Shared→Prop}
end
section
variable {tg:Expr}
end
section
variable {σ0 cs:St}{k:Nat}{g:TG}{te:TE}{tt:TT}{H1:Hp}{Q:VK}
end
section
variable {o e:Expr}{es:List Expr}{to:TE}{t:TA}{name:Str}{apos cpos:Pos}{T id:String}{r:V→List V→Hp→VK→Prop}
end
end L2
namespace L2
open PySem PySem.Spec PySem.Calls PyProof.Rows
variable {H:Hp}{X:Cx}{s:Shared}{pos:Pos}{prog:Program}{A:Around}{K:PySem.W.Frag}
section
theorem pq:MtR X "str.partition" (fun x vs H Q=>∃ z y,x=.str z∧vs=[.str y]∧(y.length == 0)=false∧z.length≤sizeLine ∧
  ∀ p,H p=none→Q (.ref p) (upd H p (.tup [.str (Txt.partition z y).1,.str (Txt.partition z y).2.1,.str (Txt.partition z y).2.2]))):=by
 intro pins s σ H x vs v us Q I rx rv h;obtain⟨z,y,rfl,rfl,hy,hz,q⟩:=h;obtain⟨t,rfl⟩:=rx;obtain⟨u,rfl,tu,rfl⟩:=rv.one;refine call_meets F.slot_str_partition (typeIs_str _ _ _) F.entry_str_partition (F.args_str_partition_2 _ _) (meets_str_partition z y t tu hy hz) ?_;have hf:H s.heap.objs.size=none:=I.hok.fresh (B7 _);have q':=q _ hf;unfold Txt.partition at q'
 revert q'
 cases Builtin.Str.occurrences z y 0 z.length 1 with
 | nil =>
  intro q';refine⟨.ref s.heap.objs.size,upd H s.heap.objs.size (.tup [.str z,.str Str.empty,.str Str.empty]),I.laid (t':=s.toks + 1) (fun b u e=>B2 _ e) (B7 _) ?_,rfl,q'⟩;exact⟨(by show 3≤sizeLine;decide),_,.cons ⟨_,rfl⟩ (.cons ⟨_,rfl⟩ (.cons ⟨_,rfl⟩ .nil)),⟨_,Ca _ rfl,rfl,_,rfl⟩⟩
 | cons i r =>
  intro q';refine⟨.ref s.heap.objs.size,upd H s.heap.objs.size (.tup [.str _,.str y,.str _]),I.laid (t':=s.toks + 1 + 1) (fun b u e=>B2 _ e) (B7 _) ?_,rfl,q'⟩;exact⟨(by show 3≤sizeLine;decide),_,.cons ⟨_,rfl⟩ (.cons ⟨_,rfl⟩ (.cons ⟨_,rfl⟩ .nil)),⟨_,Ca _ rfl,rfl,_,rfl⟩⟩
end
section
variable {σ0 cs:St}{k:Nat}{g:TG}{te:TE}{tt:TT}{H1:Hp}{Q:VK}
theorem vx {n:Nat}{g':Nat→V}(Pv:Addr→Nat→List V→Hp→Prop)(hn:n≤sizeLine)
  (hl:∀ D i ys H,Pv D i ys H→H D=some (.lst ys)∧ys.length≤i) (h0:∀ D,H1 D=none→Pv D 0 [] (upd H1 D (.lst [])))
  (hs:∀ D i ys H,i < n→H1 D=none→Pv D i ys H→g (g' i) σ0 H fun σ2 H3=>σ2.drop k=cs∧te σ2 H3 fun y H4=>H4 D=some (.lst ys)∧Pv D (i + 1) (ys++[y]) (upd H4 D (.lst (ys++[y]))))
  (hd:∀ D ys H,H1 D=none→Pv D n ys H→Q (.ref D) H) (mono:∀ x σ H (R R':St→Hp→Prop),(∀ σ' H',R σ' H'→R' σ' H')→g x σ H R→g x σ H R')
  (mono2:∀ σ H (R R':VK),(∀ v H',R v H'→R' v H')→te σ H R→te σ H R'):ff σ0 k cs g te Q (Itg n g') H1 :=
 jB n (fun i x=>x=g' i) Pv hn (fun D i ys H hi p=>hi) (fun D ys H p=>B7 _)
  (fun D i ys H x H' hi p y=>y) hl h0 (fun D i x ys H hi hx hD p=>hx▸hs D i ys H hi hD p) hd mono mono2
theorem qT {lo:Int}{n:Nat}(Pv:Addr→Nat→List V→Hp→Prop)(hn:n≤sizeLine)
  (hl:∀ D i ys H,Pv D i ys H→H D=some (.lst ys)∧ys.length≤i) (h0:∀ D,H1 D=none→Pv D 0 [] (upd H1 D (.lst [])))
  (hs:∀ D i ys H,i < n→H1 D=none→Pv D i ys H→g (.int (lo + i)) σ0 H fun σ2 H3=>σ2.drop k=cs∧te σ2 H3 fun y H4=>H4 D=some (.lst ys)∧Pv D (i + 1) (ys++[y]) (upd H4 D (.lst (ys++[y]))))
  (hd:∀ D ys H,H1 D=none→Pv D n ys H→Q (.ref D) H) (mono:∀ x σ H (R R':St→Hp→Prop),(∀ σ' H',R σ' H'→R' σ' H')→g x σ H R→g x σ H R')
  (mono2:∀ σ H (R R':VK),(∀ v H',R v H'→R' v H')→te σ H R→te σ H R'):ff σ0 k cs g te Q (Itr lo n) H1 :=
 jB n (fun i x=>x=.int (lo + i)) Pv hn (fun D i ys H hi p=>hi) (fun D ys H p=>B7 _)
  (fun D i ys H x H' hi p y=>y) hl h0 (fun D i x ys H hi hx hD p=>hx▸hs D i ys H hi hD p) hd mono mono2
end
section
end
structure iu (k:Nat)(A:Around):Prop where
 dp:A.depth + 3 * k + 5 < recursionLimit
 un:A.units + 16 * k + 200 < cLine
theorem iu.mono {j k:Nat}{A:Around}(r:iu k A)(h:j≤k):iu j A:=⟨by have:=r.dp;omega,by have:=r.un;omega⟩
theorem cy.inX {k:Nat}{X:Cx}{e:Addr}(r:cy k X.A):iu k (Xs X e).A:=⟨r.dp,r.un⟩
structure mR (P:Program)(w:World)(K:PySem.W.Frag)(mg:Str→Option Value)(base:Heap)(CX:CXT)(k:Nat)(f:Addr)(fd:FuncData)(ps:List Str)(sp:Sp):Prop where
 len:∀ vs H Q E,sp vs H Q E→vs.length=ps.length
 run:∀ (A:Around) (outer:List Env) (s:Shared) (H:Hp) (args:Args) (us:List Value) (vs:List V) (Q:VK) (E:XK),iu k A→nt P w K mg base A outer s H→BindsTo s fd args (ps.zip us)→aX vs us→sp vs H Q E →
  codeAny (model P w) A (.call (.ref f) args) (CR CX outer P w H s Q E) s
abbrev cxH (CX:CXT)(P:Program)(w:World)(K:PySem.W.Frag)(mg:Str→Option Value)(base:Heap)(N:List Str)(qual:Str)(scope:Scope)(f:Addr)(cd:Value)(A:Around)(outer:List Env)(s:Shared)(H:Hp)(E:XK):Cx :=
 { fe CX P w K mg base N qual scope f cd A outer s H E with calm:=false }
theorem sN {CX:CXT}{P:Program}{w:World}{K:PySem.W.Frag}{mg:Str→Option Value}{base:Heap}{N ps:List Str}{qual:Str}{scope:Scope}{f:Addr}{cd:Value}{A:Around}{outer:List Env}{s s1:Shared}{H:Hp}{E:XK}{us:List Value}{vs:List V}
  (S:ap N ps scope) (e0:nt P w K mg base A outer s H) (hl:vs.length=ps.length) (r:aX vs us)
  (x:InCallC s s.heap.objs.size (bindL (envOfC qual scope s.heap.objs.size f cd).kindOf (ps.zip us) fun _=>none) (cellsFrom (s.heap.objs.size + 1) scope.names []) (bindC (envOfC qual scope s.heap.objs.size f cd).kindOf (ps.zip us) fun _=>none) s1) :
  Inv (cxH CX P w K mg base N qual scope f cd A outer s H E) [] (dI N vs) H s1:=by
 have e0':nt P w K mg base { A with handled:=none } outer s H:=⟨e0.frames,e0.mod,e0.bs,e0.bsz,e0.funs,e0.frf,e0.hok,e0.bare⟩;have I:Inv (fe CX P w K mg base N qual scope f cd { A with handled:=none } outer s H E) [] (dI N vs) H s1:=nU S rfl e0' hl r x;exact⟨⟨I.ok.mod,I.ok.kind,I.ok.glob,I.ok.blt,I.ok.above,I.ok.inj,I.ok.has,I.ok.cab,(fun z=>nomatch z),Around.frames_deeper e0.frames,I.ok.stk,I.ok.exf,I.ok.bs,I.ok.bsz,I.ok.noex,I.ok.exfs,I.ok.funs,I.ok.frf⟩,I.os,I.bare,I.base,I.loc,I.cell,I.free,I.freeC,I.pin,I.hok,I.len⟩
theorem Af {CX:CXT}{P:Program}{w:World}{K:PySem.W.Frag}{mg:Str→Option Value}{base:Heap}{k:Nat}{f:Addr}{name qual:Str}{params:Arguments}{body:List Stmt}{scope:Scope}{dV kV doc pm cdv ct oc:Value}{an od:Option Addr}
  {osl:Array (Option Value)} {N ps:List Str} {sp:Sp} (lk:K.lookup f=some ⟨oc,od,.func (PySem.W.fnOf name qual params body scope dV kV doc pm an cdv ct),osl⟩) (hcd:PySem.W.codeIn K cdv qual=true) (S:ap N ps scope)
  (len:∀ vs H Q E,sp vs H Q E→vs.length=ps.length)
  (hbody:∀ (A:Around) (outer:List Env) (s:Shared) (H:Hp) (vs:List V) (Q:VK) (E:XK),iu k (A.deeper (envOfC qual scope s.heap.objs.size f cdv))→sp vs H Q E →
   ∃ t,PSs (cxH CX P w K mg base N qual scope f cdv A outer s H E) body t∧t { nx:=fun _ H'=>Q .non H',rt:=Q } (dI N vs) H) :
  mR P w K mg base CX (k + 1) f (PySem.W.fnOf name qual params body scope dV kV doc pm an cdv ct) ps sp:=by
 refine⟨len,fun A outer s H args us vs Q E hr e0 hb r hsp =>?_⟩;have hl:=len _ _ _ _ hsp;have KX:K.In s.heap:=e0.mod.kin.keeps fun b o e=>(e0.bs b o e).1;have lim:s.heap.NoLimit:=e0.mod.nolimit.keeps fun b o e=>(e0.bs b o e).1;have hkind:∀ y∈ps.zip us,scope.names.lookup y.1=some .local∨(scope.names.lookup y.1=some .cell∧((cellsFrom (s.heap.objs.size + 1) scope.names []).lookup y.1).isSome=true):=fun⟨n,v⟩ hy=>by
  rcases S.par n (DF hy).1 with q|q
  ·exact .inl q
  ·exact .inr ⟨q,PySem.W.cellsFrom_some _ _ _ (.inl q)⟩
 have dpt:A.depth < recursionLimit:=by have:=hr.dp;omega
 have rd:iu k (A.deeper (envOfC qual scope s.heap.objs.size f cdv)):=⟨by have:=hr.dp;show A.depth + 1 + 3 * k + 5 < _;omega,by have:=hr.un;show A.units + 3 + 16 * k + 200 < _;omega⟩;refine codeAny_call_function dpt (KX _ _ lk) rfl S.co S.gen rfl (PySem.W.codeRec_of KX hcd) (hb _ _ _ _ ?_);refine wpAny_newFunctionEnv_cells S.kind hkind fun env he s1 x =>?_;subst he;refine⟨lim.keeps x.toInCall.keep,codeAny_func ?_⟩;obtain⟨t,ht,hq⟩:=hbody A outer s H vs Q E rd hsp;have I:Inv (cxH CX P w K mg base N qual scope f cdv A outer s H E) [] (dI N vs) H s1:=sN S e0 hl r x;refine Cv (@ht [] s1 (dI N vs) H _ I hq) (fun fl s' hs =>?_) fun e s' hs=>hs;have fin:∀ {σ':St} {H':Hp} {v:V} {u:Value},Inv (cxH CX P w K mg base N qual scope f cdv A outer s H E) [] σ' H' s'→a_ v u→Q v H'→CE outer P w H s Q u s' :=
  fun {σ' H' v u} J rv q=>⟨v,H',J.os,J.bare,J.base,J.hok,rv,q⟩
 cases fl with
 | ret u =>
  obtain⟨v,σ',H',J,rv,q⟩:=hs;exact fin J rv q
 | next =>
  obtain⟨σ',H',J,q⟩:=hs;exact fin (v:=V.non) (u:=Value.none) J rfl q
 | brk =>
  obtain⟨_,_,_,q⟩:=hs;exact False.elim q
 | cont =>
  obtain⟨_,_,_,q⟩:=hs;exact False.elim q
section
variable {P:Program}{w:World}{mg:Str→Option Value}{base:Heap}
theorem aN.okH {x qual:Str}{st:Stmt}{f:Addr}{fd:FuncData}{dV:Value}{N ps:List Str}{k:Nat}{sp:Sp}{CX:CXT}(F:aN K x qual st f fd dV)(S:ap N ps (ai st))(len:∀ vs H Q E,sp vs H Q E→vs.length=ps.length)
  (hbody:∀ (cdv:Value) (A:Around) (outer:List Env) (s:Shared) (H:Hp) (vs:List V) (Q:VK) (E:XK),iu k (A.deeper (envOfC qual (ai st) s.heap.objs.size f cdv))→sp vs H Q E →
   ∃ t,PSs (cxH CX P w K mg base N qual (ai st) f cdv A outer s H E).nox (bt st) t∧t { nx:=fun _ H'=>Q .non H',rt:=Q } (dI N vs) H):mR P w K mg base CX (k + 1) f fd ps sp:=by
 obtain⟨oc,od,kV,doc,pm,an,cdv,ct,osl,rfl,lk,hcd⟩:=F.ex;refine Af lk hcd S len fun A outer s H vs Q E hr hsp =>?_;obtain⟨t,h,q⟩:=hbody cdv A outer s H vs Q E hr hsp;exact⟨t,h.nox,q⟩
structure yL (P:Program)(w:World)(K:PySem.W.Frag)(mg:Str→Option Value)(base:Heap)(CX:CXT)(j:Nat)(x:Str)(ps:List Str)(sp:Sp):Prop where
 ex:∃ f fd,mR P w K mg base CX j f fd ps sp∧bU K fd ps []∧PySem.W.keepIn K (.ref f)=true∧mg x=some (.ref f)
theorem BV {CX:CXT}{j:Nat}{x qual:Str}{st:Stmt}{f:Addr}{fd:FuncData}{dV:Value}{ps:List Str}{sp:Sp}(F:aN K x qual st f fd dV)(G:mR P w K mg base CX j f fd ps sp)(b:bU K fd ps [])(m:mg x=some (.ref f)):
  yL P w K mg base CX j x ps sp:=⟨f,fd,G,b,F.kp,m⟩
end
section
variable {CX:CXT}{j k:Nat}{ps:List Str}{sp:Sp}{x:Str}{p:Pos}{e:Expr}{es:List Expr}{t:TA}
theorem wB (F:yL X.prog X.w X.K X.mg X.base CX j x ps sp)(q:bv CX)(hr:iu k X.A)(ha:PA X (e::es) t)(hj:j≤k:=by decide)(hg:Gl X x:=by rfl)
  (hdb:(x == ("__debug__" : Str))=false:=by decide) (he:starEach (e::es) X.env=(false,eval e X.env)::starEach es X.env:=by rfl) (hpl:(backTo pos (starEach es X.env)).any (·.1)=false:=by rfl) :
  PE X (.Call (.Name x p) (e::es) [] pos) (lF sp [] E0 t):=by
 obtain⟨f,fd,G,b,kp,m⟩:=F.ex;intro pins s σ H Q I h;refine wpAny_Call_Name_kw (fY I hg m ?_ hdb);refine PySem.W.callWith_K (h₀:=X.base) I.ok.mod.kin kp (thn (@ha pos pins s σ H _ I h) fun us s1 ⟨vs,H1,I1,r,z⟩=>⟨I1.kIn,?_⟩) he hpl;have r2:aX (vs++[]) (us++[]):=by simpa using r
 have hl:(us++([]:List Value)).length=ps.length:=by rw[← r2.length];exact G.len _ _ _ _ z
 refine wpAny_call (codeAny_mono (G.run X.A X.stack s1 H1 ⟨us,[]⟩ (us++[]) (vs++[]) Q E0 (hr.mono hj) I1.env0 (b s1 us I1.kIn hl) r2 z) fun r s' hq =>?_);cases r with
 | error e=>exact (q _ _ _ _ _ hq).elim
 | ok fl =>
  cases fl with
  | ret u=>exact I1.after hq
  | next=>exact False.elim hq
  | brk=>exact False.elim hq
  | cont=>exact False.elim hq
theorem mL {x:V}:∀ {xs:List V} {us:List Value},aX xs us→xs.all eR=true→us.countP (eqU x)=xs.countP fun y=>eqV y x
 | _,_,.nil,_=>rfl
 | y::xs,u::us,.cons r t,f=>by
  rw[DK,Cy]at f;rw[List.countP_cons,List.countP_cons,pC r f.1,mL t f.2]
theorem wP:MtR X "list.count" (fun x vs H Q=>∃ l y xs,x=.ref l∧vs=[y]∧H l=some (.lst xs)∧eR y=true∧xs.all eR=true∧Q (.int ((xs.countP fun z=>eqV z y:Nat):Int)) H):=by
 intro pins s σ H x vs v us Q I rx rv h;obtain⟨l,y,xs,rfl,rfl,hH,fy,fx,q⟩:=h;cases rx;obtain⟨u,rfl,ru⟩:=rv.one;obtain⟨z,its,n,r,hl,e⟩:=I.lstM hH;refine call_meets F.slot_list_count ⟨_,e,rfl⟩ F.entry_list_count (F.args_list_count_2 _ _) (SeqAt.list_countAt l its.toArray n none #[] u (eqU y)) ⟨e,fun v hv=>gT ru fy r fx v (by simpa using hv),?_⟩;exact⟨.int _,H,I.tok _,⟨_,rfl⟩,by rw[show its.toArray.toList=its from rfl,mL r fx];exact q⟩
theorem aX.getD {xs:List V}{us:List Value}(r:aX xs us){i:Nat}(h:i < us.length):∃ y,xs[i]? = some y∧a_ y us[i]:=by
 have h':i < xs.length:=by rw[r.length];exact h
 obtain⟨u,hu,ru⟩:=r.get (Cf h');exact⟨_,Cf h',by rw[Cf h]at hu;cases hu;exact ru⟩
theorem uT:MtR X "list.index" (fun x vs H Q=>∃ (l:Addr) (y:V) (xs:List V) (j:Nat) (w:V),x=.ref l∧vs=[y]∧H l=some (.lst xs)∧eR y=true∧xs.all eR=true∧xs[j]? = some w∧eqV w y=true∧(∀ (i:Nat) (v:V),i < j→xs[i]? = some v→eqV v y=false)∧Q (.int (j:Int)) H):=by
 intro pins s σ H x vs v us Q I rx rv h;obtain⟨l,y,xs,j,wv,rfl,rfl,hH,fy,fx,hj,hit,hno,q⟩:=h;cases rx;obtain⟨u,rfl,ru⟩:=rv.one;obtain⟨z,its,n,r,hl,e⟩:=I.lstM hH;have flat:∀ (i:Nat) (v:V),xs[i]? = some v→eR v=true:=fun i v hv=>CC.mp fx v (Cw hv);have hjl:j < xs.length:=by
  rcases Dt j xs.length with h|h
  ·exact h
  ·rw[List.getElem?_eq_none h]at hj;cases hj
 have hj':j < its.toArray.size:=by rw[Cj];omega
 have key:∀ m (hm:m < its.toArray.size),∃ v,xs[m]? = some v∧eqU y its.toArray[m]=eqV v y:=fun m hm=>by
  obtain⟨v,hv,rv⟩:=aX.getD r (i:=m) (by simpa using hm);exact⟨v,hv,by rw[show its.toArray[m]=its[m]'(by simpa using hm) by simp];exact pC rv (flat m v hv)⟩
 refine call_meets F.slot_list_index ⟨_,e,rfl⟩ F.entry_list_index (F.args_list_index_2 _ _) (SeqAt.list_indexAt l its.toArray n none #[] u (eqU y) j hj' ?_ ?_ ?_) ⟨e,fun v hv=>gT ru fy r fx v (by simpa using hv),?_⟩
 ·have:sizeLine < 2 ^ 62:=by decide
  have h63:((2:Int) ^ 63)=9223372036854775808:=by decide
  have h62:(2:Nat) ^ 62=4611686018427387904:=by decide
  rw[h63];omega
 ·obtain⟨v,hv,e1⟩:=key j hj';rw[e1];rw[hj]at hv;cases hv;exact hit
 ·intro m hm hlt;obtain⟨v,hv,e1⟩:=key m hm;rw[e1];exact hno m v hlt hv
 ·exact⟨.int _,H,I.tok _,⟨_,rfl⟩,q⟩
end
end L2
namespace Qs
open PySem L2
theorem eB (z:Str):z.length=z.cps.toList.length:=by
 show z.cps.size=z.cps.toList.length;rw[Dr]
def IsC (z:Str):Prop:=∀ c∈z.cps.toList,48≤c∧c≤51
def dig (z:Str):List Nat:=z.cps.toList.map (· - 48)
theorem pD (z:Str):(dig z).length=z.length:=by simp[dig,eB]
theorem zu {z:Str}{i:Nat}(hz:IsC z)(h:i < z.length):48≤z.cps.getD i 0∧z.cps.getD i 0≤51:=by
 have h':i < z.cps.size:=h;refine hz _ ?_;have e:z.cps.getD i 0=z.cps[i]:=by simp[CF,h']
 rw[e];exact Array.getElem_mem_toList h'
def one (d:Nat):Str:=⟨#[48 + d]⟩
theorem xI {z:Str}{i:Nat}(hz:IsC z)(h:i < z.length):∃ d,d < 4∧sgn z i=one d∧z.cps.getD i 0 - 48=d:=by
 obtain⟨h1,h2⟩:=zu hz h;refine⟨z.cps.getD i 0 - 48,by omega,?_,rfl⟩;unfold sgn one;have e:48 + (z.cps.getD i 0 - 48)=z.cps.getD i 0:=by omega
 rw[e]
theorem four {P:Nat→Prop}(h0:P 0)(h1:P 1)(h2:P 2)(h3:P 3){d:Nat}(h:d < 4):P d:=by
 rcases d with _|_|_|_|d
 ·exact h0
 ·exact h1
 ·exact h2
 ·exact h3
 ·omega
theorem yt {d:Nat}(h:d < 4):PySem.intText? (one d)=some (d:Int) :=
 four (P:=fun d=>PySem.intText? (one d)=some (d:Int)) (by decide +kernel) (by decide +kernel) (by decide +kernel) (by decide +kernel) h
theorem IsC.nil:IsC ⟨#[]⟩:=fun c h=>by simp at h
theorem IsC.app {a b:Str}(ha:IsC a)(hb:IsC b):IsC (a++b):=fun c h=>by
 have e:(a++b).cps.toList=a.cps.toList++b.cps.toList:=by
  show (a.cps++b.cps).toList=_;simp
 rw[e]at h;rcases Cm.mp h with h | h
 ·exact ha c h
 ·exact hb c h
theorem IsC.one {d:Nat}(h:d < 4):IsC (one d):=fun c hc=>by
 have e:c=48 + d:=by simpa[Qs.one] using hc
 omega
end Qs
namespace L2
open PySem PySem.Spec PyProof.Rows
variable {H:Hp}{X:Cx}{s:Shared}{pos:Pos}{prog:Program}{A:Around}{K:PySem.W.Frag}
section
theorem fS {x:Str}{i:Int}{pos:Pos}(h:∃ t,X.mg x=some (.int i t))(hg:Gl X x:=by rfl)(hd:(x == ("__debug__" : Str))=false:=by decide):PE X (.Name x pos) (tC (.int i)):=by
 obtain⟨t,h⟩:=h;exact bB hg h ⟨t,rfl⟩ hd
theorem fR {x z:Str}{pos:Pos}(h:∃ t,X.mg x=some (.str z t))(hg:Gl X x:=by rfl)(hd:(x == ("__debug__" : Str))=false:=by decide):PE X (.Name x pos) (tC (.str z)):=by
 obtain⟨t,h⟩:=h;exact bB hg h ⟨t,rfl⟩ hd
theorem de {x:Str}{n:String}{pos:Pos}(hm:X.mg x=none)(hv:bootBuiltins x=some (.type n))(hg:Gl X x:=by rfl)(hn:x ≠ "__name__" := by decide)(hd:(x == ("__debug__" : Str))=false:=by decide):PE X (.Name x pos) (tC (.ty n)) :=
 x9 hg hm hv rfl hn hd
end
theorem al.new {H:Hp}{p:Addr}(h:H p=none)(o:HO):al H (upd H p o):=fun b u q=>by rw[aL (bI q h)];exact q
theorem al.set {H:Hp}{H':Hp}{p:Addr}(h:al H H')(hp:H p=none)(o:HO):al H (upd H' p o):=fun b u q=>by rw[aL (bI q hp)];exact h b u q
theorem a9 {n:Nat}(h:n≤1000):n≤sizeLine:=DM (nJ h)
def ju:PySem.Expr→Bool
 | .Starred _ _=>false
 | _=>true
theorem xG {e:PySem.Expr}{es:List PySem.Expr}{env:Env}(h:ju e=true):starEach (e::es) env=(false,eval e env)::starEach es env:=by
 cases e<;>first | rfl | (cases h)
theorem A0 {X:Cx}{e:PySem.Expr}{es:List PySem.Expr}{te:TE}{t:TA}(ha:PE X e te)(hr:PA X es t)(h:ju e=true:=by rfl):PA X (e::es) (dS te t):=aa ha hr (xG h)
structure PAx (X:Cx)(es:List PySem.Expr)(t:TA):Prop where
 h:PA X es t
section
variable {e:PySem.Expr}{es:List PySem.Expr}{te:TE}{t:TA}
theorem am:PAx X [] gk:=⟨af⟩
theorem aH (ha:PE X e te)(hr:PAx X es t)(h:ju e=true:=by rfl):PAx X (e::es) (dS te t):=⟨A0 ha hr.h h⟩
theorem bA {x1}(h:PAx X es t):PE X (.Tuple es x1 pos) (xB t):=wn h.h
theorem bQ (h:PAx X es t):PE X (.List es pos) (mU t):=wu h.h
end
end L2
namespace L2
open PySem PySem.Spec PySem.Calls PyProof.Rows
variable {H:Hp}{X:Cx}{s:Shared}{pos:Pos}{prog:Program}{A:Around}{K:PySem.W.Frag}
def sU:PySem.Expr→Option V
 | .Constant (.int i) _ _=>some (.int i)
 | .Constant (.bool b) _ _=>some (.bl b)
 | .Constant .none _ _=>some .non
 | .Constant (.str x) _ _=>some (.str x)
 | _=>none
def jA:List PySem.Expr→Option (List V)
 | []=>some []
 | e::es=>match sU e with
  | none=>none
  | some v=>match jA es with
   | none=>none
   | some vs=>some (v::vs)
section
theorem xo {e:PySem.Expr}{v:V}(h:sU e=some v):PE X e (tC v)∧ju e=true:=by
 unfold sU at h
 split at h
 ·cases h;exact⟨ac,rfl⟩
 ·cases h;exact⟨fw,rfl⟩
 ·cases h;exact⟨jZ,rfl⟩
 ·cases h;exact⟨ah,rfl⟩
 ·cases h
def AG (vs:List V)(t:TA):TA:=fun σ H Q=>t σ H fun xs H'=>Q (vs++xs) H'
def tKs (vs:List V):TA:=fun _ H Q=>Q vs H
theorem rT:∀ (es1 es2:List PySem.Expr) (vs:List V) (t:TA),jA es1=some vs→PA X es2 t→PA X (es1++es2) (AG vs t)
 | [],es2,vs,t,h,k=>by
  have e:vs=[]:=(Option.some.inj h).symm;subst e;intro pos pins s σ H Q I q;exact @k pos pins s σ H _ I q
 | e::es1,es2,vs,t,h,k=>by
  unfold jA at h
  split at h
  ·cases h
  ·rename_i v hv
   split at h
   ·cases h
   ·rename_i ws hw
    cases h;obtain⟨h1,h2⟩:=xo (X:=X) hv;exact A0 h1 (rT es1 es2 ws t hw k) h2
theorem wD {es:List PySem.Expr}{vs:List V}{t:TA}(n:Nat)(hk:jA (es.take n)=some vs)(hr:PAx X (es.drop n) t):PAx X es (AG vs t):=⟨by
 have h:=rT (X:=X) (es.take n) (es.drop n) vs t hk hr.h;rw[List.take_append_drop]at h;exact h⟩
theorem fU {es:List PySem.Expr}{vs:List V}(hk:jA es=some vs):PAx X es (tKs vs):=⟨by
 have h:=rT (X:=X) es [] vs gk hk af;rw[CJ]at h;intro pos pins s σ H Q I q;refine @h pos pins s σ H Q I ?_;show Q (vs++[]) H;rw[CJ];exact q⟩
end
def yn:PySem.Expr→Bool
 | .ListComp _ _ _ _=>false
 | .SetComp _ _ _ _=>false
 | .DictComp _ _ _ _ _=>false
 | _=>true
theorem iX {e:PySem.Expr}{t:Option PySem.Expr}{l:Nat}{env:Env}(h:yn e=true):swapsWith e t l env=pure false:=by
 cases e<;>first | rfl | (cases h)
structure PEx (X:Cx)(e:PySem.Expr)(t:TE):Prop where
 h:PE X e t
structure PSx (X:Cx)(st:Stmt)(t:TS):Prop where
 h:PS X st t
structure qZ (X:Cx)(st:List Stmt)(t:TS):Prop where
 h:PSs X st t
section
variable {st:Stmt}{rest:List Stmt}{t u:TS}
theorem bF (h:PSx X st t):qZ X [st] t:=⟨ag h.h⟩
theorem aJ (h1:PSx X st t)(h2:qZ X rest u):qZ X (st::rest) (rk t u):=⟨ae h1.h h2.h⟩
theorem bi {es:List PySem.Expr}{ta:TA}{pos:Pos}(h:PAx X es ta):PEx X (.List es pos) (mU ta):=⟨wu h.h⟩
theorem kZ {i:Nat}{x:Str}{es:List PySem.Expr}{lp:Pos}{te:TE}{pos pos':Pos}(hN:X.N.Nodup)(hi:X.N[i]? = some x)(hx:Loc X.env.scope x)(he:PEx X (.List es lp) te)
  (hf:X.fn x=true∨X.env.scope.names.lookup x=some .local:=by first | exact .inl rfl | exact .inr rfl | assumption):PSx X (.Assign [.Name x pos'] (.List es lp) pos) (mV te (ir i)) :=
 ⟨aE hN hi hx he.h (iX rfl) hf⟩
end
section
variable {P:Program}{w:World}{mg:Str→Option Value}{base:Heap}
theorem aN.oks {x qual:Str}{st:Stmt}{f:Addr}{fd:FuncData}{dV:Value}{N ps:List Str}{k:Nat}{sp:Sp}{CX:CXT}(F:aN K x qual st f fd dV)(S:ap N ps (ai st))(len:∀ vs H Q E,sp vs H Q E→vs.length=ps.length)
  (hbody:∀ (cdv:Value) (A:Around) (outer:List Env) (s:Shared) (H:Hp) (vs:List V) (Q:VK) (E:XK),cy k (A.deeper (envOfC qual (ai st) s.heap.objs.size f cdv))→sp vs H Q E →
   ∃ t,qZ (fe CX P w K mg base N qual (ai st) f cdv A outer s H E).nox (bt st) t∧t { nx:=fun _ H'=>Q .non H',rt:=Q } (dI N vs) H):aO P w K mg base CX (k + 1) f fd ps sp :=
 F.ok S len fun cdv A outer s H vs Q E hr h=>by
  obtain⟨t,h1,h2⟩:=hbody cdv A outer s H vs Q E hr h;exact⟨t,h1.h,h2⟩
theorem aN.okHs {x qual:Str}{st:Stmt}{f:Addr}{fd:FuncData}{dV:Value}{N ps:List Str}{k:Nat}{sp:Sp}{CX:CXT}(F:aN K x qual st f fd dV)(S:ap N ps (ai st))(len:∀ vs H Q E,sp vs H Q E→vs.length=ps.length)
  (hbody:∀ (cdv:Value) (A:Around) (outer:List Env) (s:Shared) (H:Hp) (vs:List V) (Q:VK) (E:XK),iu k (A.deeper (envOfC qual (ai st) s.heap.objs.size f cdv))→sp vs H Q E →
   ∃ t,qZ (cxH CX P w K mg base N qual (ai st) f cdv A outer s H E).nox (bt st) t∧t { nx:=fun _ H'=>Q .non H',rt:=Q } (dI N vs) H):mR P w K mg base CX (k + 1) f fd ps sp :=
 F.okH S len fun cdv A outer s H vs Q E hr h=>by
  obtain⟨t,h1,h2⟩:=hbody cdv A outer s H vs Q E hr h;exact⟨t,h1.h,h2⟩
end
section
end
namespace HT
section
variable {w:World}{E:Value→Shared→Prop}
end
end HT
section
theorem ak {e:PySem.Expr}{es:List PySem.Expr}{te:TE}{t:TA}(ha:PEx X e te)(hr:PAx X es t)(h:ju e=true:=by rfl):PAx X (e::es) (dS te t):=aH ha.h hr h
theorem aI {es:List PySem.Expr}{ta:TA}{x1}{pos:Pos}(h:PAx X es ta):PEx X (.Tuple es x1 pos) (xB ta):=⟨wn h.h⟩
theorem eA {a b:PySem.Expr}{ta tb:TE}{pos:Pos}{op:Operator}{r:R2}(ho:OpR X (binaryOp op) r)(ha:PEx X a ta)(hb:PEx X b tb):PEx X (.BinOp a op b pos) (tOp r ta tb):=⟨ar ho ha.h hb.h⟩
theorem cg {i:Nat}{x:Str}{a b:PySem.Expr}{op:Operator}{lp:Pos}{te:TE}{pos pos':Pos}(hN:X.N.Nodup)(hi:X.N[i]? = some x)(hx:Loc X.env.scope x)(he:PEx X (.BinOp a op b lp) te)
  (hf:X.fn x=true∨X.env.scope.names.lookup x=some .local:=by first | exact .inl rfl | exact .inr rfl | assumption):PSx X (.Assign [.Name x pos'] (.BinOp a op b lp) pos) (mV te (ir i)) :=
 ⟨aE hN hi hx he.h (iX rfl) hf⟩
end
section
variable {σ0 cs:St}{k:Nat}{g:TG}{te:TE}{H1:Hp}{Q:VK}
theorem vw {k1 k2:SK}{l1 l2:Addr}(xs zs:List V)(Pv:Addr→Nat→List V→Hp→Prop)(hn:xs.length≤sizeLine)(hq:∀ D i ys H,Pv D i ys H→k1.Sq K H l1 xs∧k2.Sq K H l2 zs)
  (hl:∀ D i ys H,Pv D i ys H→H D=some (.lst ys)∧ys.length≤i) (h0:∀ D,H1 D=none→Pv D 0 [] (upd H1 D (.lst [])))
  (hs:∀ D i x y p ys H,xs[i]? = some x→zs[i]? = some y→H1 D=none→Pv D i ys H→H p=none→g (.ref p) σ0 (upd H p (.tup [x,y])) fun σ2 H3=>σ2.drop k=cs∧te σ2 H3 fun v H4=>H4 D=some (.lst ys)∧Pv D (i + 1) (ys++[v]) (upd H4 D (.lst (ys++[v]))))
  (hd:∀ D ys H,H1 D=none→Pv D (min xs.length zs.length) ys H→Q (.ref D) H) (mono:∀ x σ H (R R':St→Hp→Prop),(∀ σ' H',R σ' H'→R' σ' H')→g x σ H R→g x σ H R')
  (mono2:∀ σ H (R R':VK),(∀ v H',R v H'→R' v H')→te σ H R→te σ H R'):ff σ0 k cs g te Q (Itz K k1 k2 l1 l2) H1:=by
 intro D hD;refine⟨fun i m ys H=>m=min xs.length zs.length - i∧i≤min xs.length zs.length∧Pv D i ys H,⟨min xs.length zs.length,rfl,Cr _,h0 D hD⟩,?_⟩;rintro i m ys H ⟨rfl,hi,p⟩;obtain⟨e1,e2⟩:=hl D i ys H p;obtain⟨q1,q2⟩:=hq D i ys H p;refine⟨e1,?_⟩;by_cases hlt:i < min xs.length zs.length
 ·have a1:i < xs.length:=by omega
  have a2:i < zs.length:=by omega
  refine .inr ⟨⟨xs,zs,xs[i],zs[i],q1,q2,by simp[a1],by simp[a2]⟩,by omega,fun v H' y =>?_⟩;obtain⟨a,x,y,hna,rfl,rfl,f1,f2⟩:=y;refine mono _ _ _ _ _ (fun σ2 H3 ⟨z1,z2⟩=>⟨z1,mono2 _ _ _ _ (fun u H4 ⟨z3,z4⟩=>⟨z3,min xs.length zs.length - (i + 1),by omega,rfl,hlt,z4⟩) z2⟩) (hs D i x y a ys H (f1 xs q1) (f2 zs q2) hD p hna)
 ·have e:i=min xs.length zs.length:=by omega
  subst e;exact .inl ⟨⟨xs,zs,q1,q2,by omega⟩,hd D ys H hD p⟩
end
section
end
section
variable {w:World}{E:Value→Shared→Prop}
end
section
variable {pins:List (Addr × Obj)}{σ:St}
end
end L2
namespace L2
open PySem PySem.Spec PySem.Calls PyProof.Rows PySem.W
variable {H:Hp}{X:Cx}{s:Shared}{pos:Pos}{prog:Program}{A:Around}{K:PySem.W.Frag}
def Pw {α:Type}(n:Nat)(b:Nat→Nat→Bool):KasT α→(α→Prop)→Prop
 | .ret a,Q=>Q a
 | .ask i j k,Q=>i < n∧j < n∧i≠j∧Pw n b (k (b i j)) Q
theorem Pw.wp {α:Type}{n:Nat}{b:Nat→Nat→Bool}{cmp:Nat→Nat→(Bool→Shared→Prop)→Shared→Prop}{s:Shared}(hc:∀ i j C,i < n→j < n→i≠j→C (b i j) s→cmp i j C s){Q:α→Prop}{R:α→Shared→Prop}(hR:∀ a,Q a→R a s):
  ∀ {t:KasT α},Pw n b t Q→t.kasWp cmp R s
 | .ret _,h=>hR _ h
 | .ask i j k,h=>hc i j _ h.1 h.2.1 h.2.2.1 (Pw.wp hc hR (t:=k _) h.2.2.2)
section
variable {N:Nat}{f:Nat→Int}
end
section
variable {w:World}{E:Value→Shared→Prop}
end
theorem vD:bootBuiltins "sorted" = some (.builtin "sorted"):=by decide +kernel
section
variable {pins:List (Addr × Obj)}{σ:St}{H':Hp}{h':Heap}
theorem kE {h:Heap}{vs:List Value}{out:Array Value}{b:Addr}{o:Obj}(e:h.get? b=some o):(sortedHeap (h.push (seqObj "list" vs.toArray 0)) h.objs.size vs out).get? b=some o:=by
 rw[sortedHeap_old (Cn (B9 e)) (by rw[size_push'];exact C8 (B9 e))];exact B2 _ e
theorem mW {h:Heap}{vs:List Value}{out:Array Value}:∃ n,(sortedHeap (h.push (seqObj "list" vs.toArray 0)) h.objs.size vs out).get? h.objs.size=some (seqObj "list" out n) :=
 sortedHeap_at (n:=0) (Ca _ rfl)
end
end L2
namespace L2
open PySem PySem.Spec PySem.Calls PyProof.Rows
variable {H:Hp}{X:Cx}{s:Shared}{pos:Pos}{prog:Program}{A:Around}{K:PySem.W.Frag}
section
theorem cy.dic {k:Nat}{A:Around}(r:cy k A):A.units + 1 < PySem.cLine:=by have:=r.un;omega
end
end L2
namespace L2
open PySem PySem.Spec PySem.Calls PyProof.Rows PySem.W
variable {H:Hp}{X:Cx}{s:Shared}{pos:Pos}{prog:Program}{A:Around}{K:PySem.W.Frag}
section
variable {pins:List (Addr × Obj)}{σ:St}{Z:List (Addr × Obj)}
end
section
variable {P:Program}{w:World}{mg:Str→Option Value}{base:Heap}{Z:List (Addr × Obj)}
end
section
variable {CX:CXT}{k j:Nat}{f:Addr}{fd:FuncData}{ps:List Str}{sp:Sp}{x:Str}{p:Pos}{e:Expr}{es:List Expr}{t:TA}{Z:List (Addr × Obj)}
end
section
end
section
variable {P:Program}{w:World}{mg:Str→Option Value}{base:Heap}{Z:List (Addr × Obj)}
end
section
end
section
variable {w:World}{E:Value→Shared→Prop}
end
section
end
end L2
namespace Tim
open PySem PyProof.Rows
variable {prog:Program}{A:Around}{E:Value→Shared→Prop}{s:Shared}{a₀:Array Keyed}{κ:SortKind}{key:Keyed→Int}
section
variable {w:World}
end
section
variable {w:World}
end
section
variable {w:World}
end
section
variable {w:World}
end
section
variable {w:World}
end
section
variable {w:World}
end
section
variable {w:World}
end
section
variable {w:World}
end
end Tim
namespace L2
open PySem PySem.Spec PySem.Calls PyProof.Rows PySem.W
variable {H:Hp}{X:Cx}{s:Shared}{pos:Pos}{prog:Program}{A:Around}{K:PySem.W.Frag}
section
variable {w:World}{E:Value→Shared→Prop}{α:Type}{lt:α→α→Bool}{kf:Value→α}
end
section
variable {w:World}
end
section
theorem Inv.sortd {pins:List (Addr × Obj)}{σ:St}{H:Hp}{s:Shared}{a:Addr}{its out:List Value}{us:List V}(I:Inv X pins σ H s)(hz:us.length≤sizeLine)(ho:aX us out):
  ∃ S,H S=none∧Inv X pins σ (upd H S (.lst us)) { s with heap:=sortedHeap (((s.heap.push (seqObj "list" #[] 0)).update s.heap.objs.size (Obj.mapSeq (· ++ its.toArray))).push (seqObj "list" its.toArray 0)) ((s.heap.push (seqObj "list" #[] 0)).update s.heap.objs.size (Obj.mapSeq (· ++ its.toArray))).objs.size its out.toArray } ∧
   S=((s.heap.push (seqObj "list" #[] 0)).update s.heap.objs.size (Obj.mapSeq (· ++ its.toArray))).objs.size:=by
 have kp:∀ b o,s.heap.get? b=some o→((s.heap.push (seqObj "list" #[] 0)).update s.heap.objs.size (Obj.mapSeq (· ++ its.toArray))).get? b=some o:=fun b o e =>
  (Cu _ _ (Ne.symm (Cn (B9 e)))).trans (B2 _ e)
 have I1:Inv X pins σ H { s with heap:=(s.heap.push (seqObj "list" #[] 0)).update s.heap.objs.size (Obj.mapSeq (· ++ its.toArray)) }:=I.kept (t':=s.toks) kp
 obtain⟨n2,hS⟩:=mW (h:=(s.heap.push (seqObj "list" #[] 0)).update s.heap.objs.size (Obj.mapSeq (· ++ its.toArray))) (vs:=its) (out:=out.toArray)
 refine⟨_,I1.hok.fresh (B7 _),I1.laid (t':=s.toks) (fun b o e=>kE e) (B7 _) ⟨hz,out,n2,ho,hS⟩,rfl⟩
end
section
variable {w:World}
end
section
end
section
variable {e lo st:Expr}{te:TE}{tl ts:TO}{p2:Pos}
end
section
variable {w:World}{E:Value→Shared→Prop}{a:Addr}{o:Obj}{xs:Array Value}{k:Nat}
end
section
variable {w:World}{E:Value→Shared→Prop}
end
section
theorem uK (hu:X.A.units + 1 < cLine):OpR X (compareOp .NotIn) (fun x y H Q=>∃ (a:Addr) (o:Option V),y=.ref a∧q9 H a x o∧Q (.bl (!o.isSome)) H):=by
 intro pins s σ H x y v u Q I rx ry h;obtain⟨a,o,rfl,g,q⟩:=h;cases ry;exact yD hu I g rx fun s' I'=>⟨.bl _,H,I',rfl,q⟩
end
section
variable {P:Program}{w:World}{mg:Str→Option Value}{base:Heap}{N:List Str}{qual:Str}{scope:Scope}{f:Addr}{cd:Value}{cl:List (Str × Addr)}{outer:List Env}{s0:Shared}{H0:Hp}{E:XK}
end
section
end
end L2
namespace L2
open PySem PySem.Spec PySem.Calls PyProof.Rows
variable {H:Hp}{X:Cx}{s:Shared}{pos:Pos}{prog:Program}{A:Around}{K:PySem.W.Frag}
section
variable {st:Stmt}{rest:List Stmt}{t u:TS}{e a b:PySem.Expr}{te ta tb:TE}
theorem cz:qZ X [] vX:=⟨aA⟩
theorem cL (h:PEx X e te):PSx X (.Return (some e) pos) (zm te):=⟨av h.h⟩
theorem dR {c:PySem.Expr}{l r:List Stmt}{tc:TT}(hc:PT X c tc)(ha:qZ X l t)(hb:qZ X r u):PSx X (.If c l r pos) (zp tc t u):=⟨aV hc ha.h hb.h⟩
theorem fc {r:R2}(hr:IxR X r)(ha:PEx X a ta)(hb:PE X b tb)(hs:ug b):PEx X (.Subscript a b pos) (tOp r ta tb):=⟨aq hr ha.h hb hs⟩
end
section
variable {P:Program}{w:World}{mg:Str→Option Value}{base:Heap}
end
section
variable {tg:Expr}
end
section
end
end L2
namespace L2
open PySem PySem.Spec PySem.Calls PyProof.Rows PySem.W
variable {H:Hp}{X:Cx}{s:Shared}{pos:Pos}{prog:Program}{A:Around}{K:PySem.W.Frag}
section
variable {w:World}{E:Value→Shared→Prop}
end
section
theorem vL {ss:List Str}:∀ {its:List Value},aX (ss.map V.str) its→∀ (i:Nat) (v:Value),its[i]? = some v→∃ x t,ss[i]? = some x∧v=.str x t:=by
 induction ss with
 | nil =>
  intro its r i v hv;cases r;simp at hv
 | cons x ss ih =>
  intro its r i v hv;cases r with
  | cons h t =>
   cases i with
   | zero =>
    obtain⟨tk,rfl⟩:=h;exact⟨x,tk,rfl,by simpa using hv.symm⟩
   | succ i=>exact ih t i v hv
end
theorem nW:entryFor table "set.update.loop" = some Builtin.«set.update.loop» := PyProof.Rows.F.entry_set_update_loop
section
variable {w:World}{E:Value→Shared→Prop}
abbrev di (b:Bool):Obj:={ cls:=.type "set",dict:=none,data:=.set #[] 0 (.fresh 0 0 b) }
end
theorem Aq:bootBuiltins "set" = some (.type "set"):=by decide +kernel
section
end
section
end
section
variable {prog:Program}{w:World}{K:Type}[DecidableEq K]{knd:HeapKind prog w K}{A:Around}{E:Value→Shared→Prop}{s:Shared}{d b:Addr}{k:K}{ps:List (K × Addr × Value)}
end
section
variable {o e f:Expr}{apos cpos:Pos}{td ty tx:TE}
end
section
open PySem.SeqAt
open PySem.AutoSeq1 (wpAny_loadPart')
open PySem.MeetsSeq PySem.MeetsSeq2 PySem.MeetsSeq3
end
section
end
section
variable {tg:Expr}
end
section
variable {σ0 cs:St}{k:Nat}{g:TG}{te:TE}{tt:TT}{H1:Hp}{Q:VK}
end
section
variable {w:World}{E:Value→Shared→Prop}{α:Type}{lt:α→α→Bool}
end
section
end
section
end
section
variable {w:World}{E:Value→Shared→Prop}
end
section
end
section
variable {w:World}{E:Value→Shared→Prop}
end
section
end
section
variable {prog:Program}{w:World}{κ:Type}[DecidableEq κ]{knd:HeapKind prog w κ}{A:Around}{E:Value→Shared→Prop}{s:Shared}
end
section
end
end L2
namespace L2
open PySem PySem.Spec PySem.Calls PyProof.Rows
variable {H:Hp}{X:Cx}{s:Shared}{pos:Pos}{prog:Program}{A:Around}{K:PySem.W.Frag}
section
variable {w:World}{E:Value→Shared→Prop}
end
section
variable {tg:Expr}
end
section
variable {elt tg iter cnd:Expr}{scope:Scope}{N':List Str}{wi:TI}{g:TG}{te:TE}{tt:TT}
end
section
end
end L2
namespace L2
open PySem PySem.Spec PySem.Calls PyProof.Rows PySem.W
variable {H:Hp}{X:Cx}{s:Shared}{pos:Pos}{prog:Program}{A:Around}{K:PySem.W.Frag}
section
variable {P:Program}{w:World}{h h':Heap}{a d:Addr}{k x y:NK}
end
section
variable {P:Program}{w:World}{E:Value→Shared→Prop}{k x y:NK}{a b:Addr}
end
section
variable {P:Program}{w:World}{H':Hp}{h:Heap}{a b d:Addr}{xs:List NE}{k:NK}{v:V}
end
section
end
section
variable {w:World}{E:Value→Shared→Prop}{d I:Addr}{es:Array DictEntry}{ep i:Nat}
end
section
variable {w:World}{E:Value→Shared→Prop}
end
section
variable {w:World}{E:Value→Shared→Prop}
end
section
variable {w:World}{E:Value→Shared→Prop}
end
section
end
section
variable {σ0 cs:St}{k:Nat}{g:TG}{te:TE}{tt:TT}{H1:Hp}{Q:VK}
end
section
variable {w:World}{R:Result→Shared→Prop}{I:Addr}{fp wr:List Addr}{n:Nat}{P:Nat→Value→Prop}{St:Nat→Heap→Prop}{Kp:Heap→Prop}
end
section
open PySem.SeqAt
open PySem.AutoSeq1 (wpAny_loadPart')
open PySem.MeetsSeq PySem.MeetsSeq2 PySem.MeetsSeq3
end
section
open PySem.SeqAt
open PySem.AutoSeq1 (wpAny_loadPart')
open PySem.MeetsSeq PySem.MeetsSeq2 PySem.MeetsSeq3
end
section
end
section
variable {tg:Expr}
end
section
end
section
variable {w:World}{E:Value→Shared→Prop}
end
section
end
section
variable {w:World}{E:Value→Shared→Prop}{d v:Addr}{es:Array DictEntry}{ep:Nat}
end
section
variable {α:Type}{lt:α→α→Bool}
end
section
variable {CX:CXT}{k:Nat}{f:Addr}{fd:FuncData}{ps:List Str}{sp:Sp}
end
section
end
section
abbrev TF:=St→Hp→Str→(Str→Hp→Prop)→Prop
def PF (X:Cx)(es:List Expr)(t:TF):Prop:=∀ (pins:List (Addr × Obj)) (s:Shared) (σ:St) (H:Hp) (acc:Str) (Q:Str→Hp→Prop),Inv X pins σ H s→t σ H acc Q →
 Joins (model X.prog X.w) X.A X.xe (evalEach es X.env) acc (fun out s1=>∃ H1,Inv X pins σ H1 s1∧out.length≤sizeLine∧Q out H1) s
def tFn:TF:=fun _ H acc Q=>acc.length≤sizeLine∧Q acc H
theorem bZ:PF X [] tFn:=fun pins s σ H acc Q I h=>⟨H,I,h⟩
def tFc (x:Str)(t:TF):TF:=fun σ H acc Q=>(acc++x).length≤sizeLine∧t σ H (acc++x) Q
theorem bG {x:Str}{j:Nat}{pos:Pos}{es:List Expr}{t:TF}(h:PF X es t):PF X (.Constant (.str x) j pos::es) (tFc x t):=fun pins s σ H acc Q I q =>
 Calls.Constant_str ⟨x,_,rfl,q.1,@h pins _ σ H _ Q (I.tok _) q.2⟩
def Shw (v:V)(y:Str):Prop:=(v=.str y∧y.length≤sizeLine)∨∃ i:Int,v=.int i∧i.natAbs.log2 < 1920∧y=toString i
def tFv (te:TE)(t:TF):TF:=fun σ H acc Q=>te σ H fun v H1=>∃ y,Shw v y∧(acc++y).length≤sizeLine∧t σ H1 (acc++y) Q
theorem cq {e:Expr}{te:TE}{pos:Pos}{es:List Expr}{t:TF}(he:PE X e te)(h:PF X es t):PF X (.FormattedValue e (-1) none pos::es) (tFv te t):=fun pins s σ H acc Q I q=>by
 show wpAny _ _ (eval (.FormattedValue e (-1) none pos) X.env) _ _ _;refine wpAny_FormattedValue_plain (thn (@he pins s σ H _ I q) fun v s1 ⟨x,H1,I1,r1,y,sh,z,q1⟩ =>?_);rcases sh with⟨rfl,hy⟩ | ⟨i,rfl,hi,rfl⟩
 ·obtain⟨t,rfl⟩:=r1;exact wpAny_formatField_str ⟨y,_,rfl,z,@h pins _ σ H1 _ Q I1 q1⟩ ⟨y,_,rfl,z,@h pins _ σ H1 _ Q (I1.tok _) q1⟩ hy
 ·obtain⟨t,rfl⟩:=r1;exact wpAny_formatField_int hi ⟨_,_,rfl,z,@h pins _ σ H1 _ Q ((I1.tok _).tok _) q1⟩
def cB (t:TF):TE:=fun σ H Q=>t σ H Str.empty fun out H1=>Q (.str out) H1
theorem bE {a b:Expr}{es:List Expr}{t:TF}{pos:Pos}(h:PF X (a::b::es) t):PE X (.JoinedStr (a::b::es) pos) (cB t):=fun pins s σ H Q I q=>by
 refine wpAny_JoinedStr ?_;have mono:∀ (l:List (Sem Value)) (acc:Str) (P P':Str→Shared→Prop) (s:Shared),(∀ o s,P o s→P' o s)→Joins (model X.prog X.w) X.A X.xe l acc P s→Joins (model X.prog X.w) X.A X.xe l acc P' s:=fun l=>by
  induction l with
  | nil=>exact fun acc P P' s f h=>f _ _ h
  | cons m l ih=>exact fun acc P P' s f h=>Cv h (fun v s1 ⟨y,t,e,z,k⟩=>⟨y,t,e,z,ih _ _ _ _ f k⟩) fun _ _ e=>e
 refine mono _ _ _ _ _ (fun o s1 ⟨H1,I1,z,q1⟩=>⟨z,.str o,H1,I1.tok _,⟨_,rfl⟩,q1⟩) (@h pins s σ H _ _ I q)
end
section
theorem nz:∀ (ps:List Str) (k:Nat),aX (ps.map V.str) (strsFrom k ps)
 | [],_=>.nil
 | p::ps,k=>.cons ⟨_,rfl⟩ (nz ps (k + 1))
theorem my:MtR X "str.split" (fun x vs H Q=>∃ z y,x=.str z∧vs=[.str y]∧(y.length == 0)=false∧z.length≤sizeLine∧(Txt.split z y).length≤sizeLine ∧
  ∀ l,H l=none→Q (.ref l) (upd H l (.lst ((Txt.split z y).map V.str)))):=by
 intro pins s σ H x vs v us Q I rx rv h;obtain⟨z,y,rfl,rfl,hy,hz,hn,q⟩:=h;obtain⟨t,rfl⟩:=rx;obtain⟨u,rfl,tu,rfl⟩:=rv.one;have q':=q _ (I.hok.fresh (B7 _));have one:Txt.split z y=[z]→EP X pins σ Q (.ref s.heap.objs.size) { s with heap:=s.heap.push { cls:=.type "list",data:=.seq #[.str z t] } }:=fun e=>by
  rw[e]at q';exact⟨.ref s.heap.objs.size,upd H s.heap.objs.size (.lst [.str z]),I.laid (t':=s.toks) (fun b u e=>B2 _ e) (B7 _) ⟨(by show 1≤sizeLine;decide),[.str z t],_,.cons ⟨_,rfl⟩ .nil,Ca _ rfl⟩,rfl,q'⟩
 cases h1:(decide (z.length < y.length) || decide (Builtin.Str.strKind z < Builtin.Str.strKind y))
 ·cases hf:(Builtin.Str.occurrences z y 0 z.length (z.length + 1)).isEmpty
  ·have e:Txt.split z y=Builtin.Str.partsBetween z (Builtin.Str.occurrences z y 0 z.length (z.length + 1)) y.length:=(if_neg (ne_true_of_eq_false h1)).trans (if_neg (ne_true_of_eq_false hf));rw[e]at hn q';refine call_meets F.slot_str_split (typeIs_str _ _ _) F.entry_str_split (F.args_str_split_2 _ _) (meets_str_split_sep z y t tu h1 hy hf hz hn) ?_;exact⟨.ref s.heap.objs.size,upd H s.heap.objs.size (.lst ((Builtin.Str.partsBetween z (Builtin.Str.occurrences z y 0 z.length (z.length + 1)) y.length).map V.str)),I.laid (fun b u e=>B2 _ e) (B7 _) ⟨by rw[B_];exact hn,_,_,nz _ _,Ca _ rfl⟩,rfl,q'⟩
  ·exact call_meets F.slot_str_split (typeIs_str _ _ _) F.entry_str_split (F.args_str_split_2 _ _) (meets_str_split_not_found z y t tu h1 hy hf) (one ((if_neg (ne_true_of_eq_false h1)).trans (if_pos hf)))
 ·exact call_meets F.slot_str_split (typeIs_str _ _ _) F.entry_str_split (F.args_str_split_2 _ _) (meets_str_split_cannot_occur z y t tu h1) (one (if_pos h1))
theorem wN:MtR X "str.upper" (fun x vs H Q=>∃ z,x=.str z∧vs=[]∧Builtin.Str.tooLong (Txt.upper z).length=false∧(Txt.upper z).length≤sizeLine∧Q (.str (Txt.upper z)) H):=by
 intro pins s σ H x vs v us Q I rx rv h;obtain⟨z,rfl,rfl,hf,hz,q⟩:=h;obtain⟨t,rfl⟩:=rx;cases rv;exact call_gives F.slot_str_upper (typeIs_str _ _ _) F.entry_str_upper (F.args_str_upper_1 _) (gives_str_upper z t hf) ⟨hz,.str _,H,I.tok _,⟨_,rfl⟩,q⟩
end
section
variable {M:Model}{E:Value→Shared→Prop}{base:Heap}{env:Env}{outer l:List Env}{L e:Addr}{cls a0 fl:Value}{Q:Unit→Shared→Prop}
theorem BL (fa:Option Addr)(f:On3 base l e cls a0 fl s.heap)(q:∀ h',On3 base l e cls a0 (fa.elim .none fun f=>rawInt f) h'→s.heap.UpToSlots h'→Q () { s with heap:=h' }):wpAny M A (setFlight (.ref e) fa) Q E s:=by
 obtain⟨st,ne,fr,oe,vs,T,oT,ts,he,hc,hd,h1,nT,Te,hT,dT,h3⟩:=f;have lt:=(CM.mp h3).1;unfold setFlight;refine B4 (wpAny_field he hd h1 ?_);rw[if_pos (by simp)];refine wpAny_setField hT dT lt ?_;obtain⟨a1,a2,a3⟩:=On3.poke st fr hT dT nT (h':=s.heap.update T (Obj.mapFields (·.setIfInBounds 3 (fa.elim Value.none fun f=>rawInt f)))) fun b hb=>Cu _ _ (Ne.symm hb);exact q _ ⟨a1,ne,a2,oe,vs,T,_,_,(Cu _ _ Te).trans he,hc,hd,h1,nT,Te,C7 _ hT (Obj.isFreed_of_fields (Obj.data_mapFields dT _)),Obj.data_mapFields dT _,by simp[lt]⟩ fun b o hb nf=>⟨o.slots,a3 b o hb nf⟩
theorem zS (hfr:A.frames=some (env::outer))(hf:env.frame=some L)(f:On3 base (env::outer) e cls a0 fl s.heap)(q:∀ h',On3 base outer e cls a0 .none h'→s.heap.UpToSlots h'→Q () { s with heap:=h' }):
  wpAny M A (leaving env (.ref e)) Q E s:=by
 unfold leaving;have fin:∀ h' fl',On3 base (env::outer) e cls a0 fl' h'→s.heap.UpToSlots h'→wpAny M A (setFlight (.ref e) none) Q E { s with heap:=h' }:=fun h' fl' o u=>wL (s:={ s with heap:=h' }) o fun h2 o2 u2=>by
  obtain⟨b1,b2,⟨_,_,b3⟩,b4⟩:=o2;exact q h2 ⟨b1,b2,b3,b4⟩ (u.trans u2)
 obtain⟨st,ne,fr,oe,vs,T,oT,ts,he,hc,hd,h1,nT,Te,hT,dT,h3⟩:=id f;refine B4 ?_;unfold noteFrame;simp only[hf];refine B4 (wpAny_field he hd h1 ?_);rw[if_pos (by simp)];refine B4 (wpAny_field hT dT h3 ?_);by_cases c:(fl == rawInt L)=true
 ·rw[if_pos c];exact Ch (fin _ _ f fun b o hb _=>⟨o.slots,hb⟩)
 ·rw[if_neg c];refine B4 (wpAny_setField hT dT (CM.mp h3).1 ?_);obtain⟨a1,a2,a3⟩:=On3.poke st fr hT dT nT (h':=s.heap.update T (Obj.mapFields (·.setIfInBounds 3 Value.none))) fun b hb=>Cu _ _ (Ne.symm hb);exact sS hfr hf a1 ne a2 ((Cu _ _ Te).trans he) hd (CM.mp h1).1 hc fun h' o u=>fin h' _ o fun b o' hb nf=>u b o' (a3 b o' hb nf) nf
end
section
variable {P:Program}{w:World}{H':Hp}{h h' h'' bs:Heap}{l:List Env}{hid ex:List Addr}
theorem vN (u:Un (frs l) ex H H' h h')(ok:HOk P w H' h')(fr:h'.FunFrames bs l)(fre:∀ b∈frs l,H' b=none)(hh:∀ b∈hid,(b∉ex→h.get? b=none)∧H' b=none)
  (st:(fX h' (hid++frs l)).StaysIn h'') (up:∀ b∈frs l,∀ o,h'.get? b=some o→(∀ vs,o.data≠.fields vs)→∃ sl,h''.get? b=some { o with slots:=sl }):Un (frs l) ex H H' h h''∧HOk P w H' h'':=by
 have kp:∀ b o,h'.get? b=some o→b∉hid→b∉frs l→h''.get? b=some o:=fun b o e n1 n2=>st b o (PySem.W.hideAll_get _ e fun z=>(Cm.mp z).elim n1 n2);have nh:∀ b o,h.get? b=some o→b∉ex→b∉hid:=fun b o e hx z=>by rw[(hh b z).1 hx]at e;cases e
 have fs:∀ b o,h'.get? b=some o→b∈frs l→∃ sl,h''.get? b=some { o with slots:=sl }:=fun b o e hb=>by
  obtain⟨_,o',e',nf⟩:=fr.mem hb;rw[e]at e';cases e';exact up b hb o e nf
 refine⟨⟨fun b o e n hb hx=>kp b o (u.keep b o e n hb hx) (nh b o e hx) hb,fun b o e n hb hx =>?_,u.free,fun b o e hx =>?_,u.tups,u.frzs,u.tbls⟩,fun a o e =>?_⟩
 ·obtain⟨sl,e1⟩:=u.slot b o e n hb hx;obtain⟨sl',e2⟩:=fs b _ e1 hb;exact⟨sl',e2⟩
 ·obtain⟨o',e1⟩:=u.there b o e hx;by_cases hb:b∈frs l
  ·obtain⟨sl',e2⟩:=fs b _ e1 hb;exact⟨_,e2⟩
  ·exact⟨o',kp b o' e1 (nh b o e hx) hb⟩
 ·refine (ok a o e).stay (fun b v hb q =>?_) (fun _ q=>q) fun _ _ q=>q;have tr:∃ v,H' b=some v:=by
   rcases hb with z|z
   ·exact⟨o,z▸e⟩
   ·exact⟨_,z⟩
  obtain⟨v',tr⟩:=tr;refine kp b v q (fun z =>?_) fun z =>?_
  ·rw[(hh b z).2]at tr;cases tr
  ·rw[fre b z]at tr;cases tr
theorem sR (u:Un (frs l) ex H H' h h')(ok:HOk P w H' h')(fr:h'.FunFrames bs l)(hh:∀ b∈hid,(b∉ex→h.get? b=none)∧H' b=none)(up:∀ b∈frs l,∀ o,h'.get? b=some o→(∀ vs,o.data≠.fields vs)→∃ sl,h''.get? b=some { o with slots:=sl }){T:Addr}{oT:Obj}{ts:Array Value}
  (e:h''.get? T=some oT) (d:oT.data=.fields ts) (n:(fX h' (hid++frs l)).get? T=none):(T∉ex→h.get? T=none)∧H' T=none:=by
 have nf:T∉frs l:=fun z=>by
  obtain⟨_,o',e',nf⟩:=fr.mem z;obtain⟨sl,q⟩:=up T z o' e' nf;rw[e]at q;cases q;exact nf ts d
 by_cases hb:T∈hid
 ·exact hh T hb
 ·have z:h'.get? T=none:=by
   cases q:h'.get? T with
   | none=>rfl
   | some o =>
    have z:(fX h' (hid++frs l)).get? T=some o:=PySem.W.hideAll_get _ q fun z=>(Cm.mp z).elim hb nf;rw[n]at z;cases z
  refine⟨fun hx =>?_,ok.not z⟩;cases q:h.get? T with
  | none=>rfl
  | some o =>
   obtain⟨o',q'⟩:=u.there T o q hx;rw[z]at q';cases q'
end
section
variable {outer:List Env}{E:XK}
def uh (X:Cx)(C:Addr)(x:Value)(s:Shared):Prop:=∃ m,s.heap.Ns C m∧∀ h',Heap.SameBut C s.heap h'→∀ cenv:Env,cenv.locals=C→wpAny (model X.prog X.w) X.A (PySem.passOn "comprehension.variables-let-go" x cenv:Sem Value) (fun _ _=>False) X.xe { s with heap:=h' }
theorem xi {h h' b b':Heap}{C:Addr}(sb:Heap.SameBut C h h'):∀ {l:List Env},h.FunFrames b l→(∀ a∈frs l,a≠C∧b'.get? a=none)→h'.FunFrames b' l
 | [],_,_=>trivial
 | env::r,⟨hk,⟨L,o,hf,hn,ho,hd⟩,hr⟩,k=>by
  have e:frs (env::r)=L::frs r:=by unfold frs;rw[C_,hf]
  rw[e]at k;exact⟨hk,⟨L,o,hf,(k L CN).2,(sb.2 L (k L CN).1).trans ho,hd⟩,xi sb hr fun a ha=>k a (Cp _ ha)⟩
structure Bu (X:Cx)(outer:List Env)(L:Addr)(E:XK):Prop where
 st:X.stack=X.env::outer
 fr:X.env.frame=some L
 fs:X.fs=frs outer
 ex:X.ex=[]
 xe:X.xe=fun e s'=>wpAny (model X.prog X.w) X.A (leaving X.env e) (fun _ s''=>CXe X.prog X.w outer X.H₀ X.s₀ E e s'') (fun e' s''=>CXe X.prog X.w outer X.H₀ X.s₀ E e' s'') s'
theorem sK {X:Cx}{L:Addr}{pins:List (Addr × Obj)}{σ:St}{H2 H3:Hp}{s2 s3 s':Shared}{C:Addr}{ch:List Addr}{ev:Value}(O:Bu X outer L E)(I2:Inv X pins σ H2 s2)
  (hch:∀ b∈ch,(b∈X.ex∨X.s₀.heap.objs.size≤b)∧b≠X.env.locals∧(∀ x c,X.env.cells.lookup x=some c→c≠b)∧∀ p∈X.pn++pins,p.1≠b)
  (hC2:s2.heap.get? C=none) (u3:Un (frs X.stack) ch H2 H3 s2.heap s3.heap) (o3:s3.os=s2.os)
  (nC:H3 C=none) (hns:∃ m,s3.heap.Ns C m) (c:CXe X.prog X.w X.stack H3 s3 E ev s') :
  wpAny (model X.prog X.w) X.A (noteFrame ev X.env) (fun _ s''=>uh X C ev s'') (uh X C) s':=by
 obtain⟨hst,hL,hfs,hex,hx⟩:=O;obtain⟨ea,cls,H',rfl,c1,c2,c3,c4,⟨⟨oe,vs,a0,T,oT,ts,f1,f2,f3,f4,f5,f6,f7,f8,f9⟩,fn,fu⟩,q⟩:=c;have uA:Un (frs X.stack) ch H2 H' s2.heap s'.heap:=u3.trans (c3.mono (fun _ h=>h) (fun _ h=>by cases h));have J:=I2.call' (s':=s') (ch:=ch) (c1.trans o3) uA c4 c2 hch;obtain⟨m,oC,es,ep,hoC,hdC,hkC,hmC⟩:=hns;have fr2:=I2.stack;have hCf:C∉frs X.stack:=fun z=>by
  obtain⟨_,o',e',_⟩:=fr2.mem z;rw[hC2]at e';cases e'
 have hC':s'.heap.get? C=some oC:=c3.keep C oC hoC nC hCf (by simp);have nC':H' C=none:=c3.free C oC hoC nC (by simp);have eC:ea≠C:=fun z=>by rw[← z,fn]at hoC;cases hoC
 have TC:T≠C:=fun z=>by rw[← z,f5.1]at hoC;cases hoC
 have fr:=J.stack;have cN:∀ {a:Addr},s3.heap.get? a=none→a∉ch→s2.heap.get? a=none:=fun {a} ha hb=>by
  cases z:s2.heap.get? a with
  | none=>rfl
  | some o =>
   obtain⟨o',e⟩:=u3.there a o z hb;rw[ha]at e;cases e
 have hh:∀ b∈[ea,T,C],(b∉ch→s2.heap.get? b=none)∧H' b=none:=fun b hb=>by
  simp only[B6,Cc,or_false]at hb;rcases hb with rfl | rfl | rfl
  ·exact⟨cN fn,fu⟩
  ·exact⟨cN f5.1,f5.2⟩
  ·exact⟨fun _=>hC2,nC'⟩
 have hfr:X.A.frames=some (X.env::outer):=by rw[← hst];exact I2.ok.frames
 have bn:∀ b∈[ea,T]++frs X.stack,(fX s'.heap ([ea,T]++frs X.stack)).get? b=none:=fun b hb=>PySem.W.hideAll_none _ hb;have on0:On3 (fX s'.heap ([ea,T]++frs X.stack)) (X.env::outer) ea cls a0 .none s'.heap:=⟨fW _ _,bn _ (by simp),by rw[← hst];exact lZ fr fun a ha=>bn _ (Ce _ ha),oe,vs,T,oT,ts,f1,f2,f3,f4,bn _ (by simp),f6,f7,f8,f9⟩;refine wW hfr hL on0 fun h1 o1 u1 =>?_;obtain⟨st1,ne1,fr1,oe1,vs1,T1,oT1,ts1,g1,g2,g3,g4,g5,g6,g7,g8,g9⟩:=o1;have kC:h1.get? C=some oC:=st1 C oC (PySem.W.hideAll_get _ hC' fun z=>by
  rcases Cm.mp z with z|z
  ·simp only[B6,Cc,or_false]at z;rcases z with z | z
   ·exact eC z.symm
   ·exact TC z.symm
  ·exact hCf z)
 refine⟨m,⟨oC,es,ep,kC,hdC,hkC,hmC⟩,fun h2 sb cenv hcl =>?_⟩;have T1C:T1≠C:=fun z=>by
  rw[z,kC]at g7;cases g7;rw[hdC]at g8;cases g8
 have bs1:∀ b o,(fX s'.heap ([ea,T,C]++frs X.stack)).get? b=some o→(fX s'.heap ([ea,T]++frs X.stack)).get? b=some o∧b≠C:=fun b o e=>by
  have hb:b∉[ea,T,C]++frs X.stack:=fun z=>by rw[PySem.W.hideAll_none _ z]at e;cases e
  refine⟨PySem.W.hideAll_get _ (PySem.W.of_hideAll _ e) fun z=>hb ?_,fun z=>hb (by simp[z])⟩;rcases Cm.mp z with z | z
  ·exact Do _ (by simp at z ⊢;rcases z with z | z<;>simp[z])
  ·exact Ce _ z
 have bn1:∀ {b:Addr},(fX s'.heap ([ea,T]++frs X.stack)).get? b=none→(fX s'.heap ([ea,T,C]++frs X.stack)).get? b=none:=fun {b} hb=>by
  cases z:(fX s'.heap ([ea,T,C]++frs X.stack)).get? b with
  | none=>rfl
  | some o=>rw[(bs1 b o z).1]at hb;cases hb
 have on2:On3 (fX s'.heap ([ea,T,C]++frs X.stack)) (X.env::outer) ea cls a0 (rawInt L) h2 :=
  ⟨fun b o e=>(sb.2 b (bs1 b o e).2).trans (st1 b o (bs1 b o e).1),bn1 ne1,xi sb fr1 fun a ha=>⟨fun z=>hCf (by rw[hst];exact z▸ha),PySem.W.hideAll_none _ (Ce _ (by rw[hst];exact ha))⟩,
   oe1,vs1,T1,oT1,ts1,(sb.2 ea eC).trans g1,g2,g3,g4,bn1 g5,g6,(sb.2 T1 T1C).trans g7,g8,g9⟩
 unfold PySem.passOn;refine B4 (wpAny_field ((sb.2 ea eC).trans g1) g3 g4 ?_);rw[if_neg (by simp)];refine B4 (BL (s:={ s' with heap:=h2 }) cenv.frame on2 fun h3 o3' u3'=>wpAny_throw ?_);rw[hx];refine zS (s:={ s' with heap:=h3 }) hfr hL o3' fun h4 o4 u4 =>?_;obtain⟨y1,y2,y3,oe',vs',T',oT',ts',z1,z2,z3,z4,z5,z6,z7,z8,z9⟩:=o4;have up:∀ b∈frs X.stack,∀ o,s'.heap.get? b=some o→(∀ vs,o.data≠.fields vs)→∃ sl,h4.get? b=some { o with slots:=sl }:=fun b hb o e nf=>by
  obtain⟨s1,e1⟩:=u1 b o e nf;obtain⟨s2,e2⟩:=u3' b _ ((sb.2 b fun z=>hCf (z▸hb)).trans e1) nf;obtain⟨s3,e3⟩:=u4 b _ e2 nf;exact⟨s3,e3⟩
 obtain⟨u,ok⟩:=vN (hid:=[ea,T,C]) uA c4 fr J.stkFree hh y1 up;have J':=I2.call' (s':={ s' with heap:=h4 }) (ch:=ch) (c1.trans o3) u ok c2 hch;obtain⟨n1,n2⟩:=sR uA c4 fr hh up z7 z8 z5;have bk:∀ {a:Addr},(a∉ch→s2.heap.get? a=none)→X.s₀.heap.get? a=none:=fun {a} ha=>by
  cases z:X.s₀.heap.get? a with
  | none=>rfl
  | some o =>
   by_cases hb:a∈ch
   ·rcases (hch a hb).1 with k|k
    ·rw[hex]at k;cases k
    ·exact absurd (Co (B9 z) k) (CV _)
   ·obtain⟨o',e⟩:=I2.base.there a o z (by rw[hex];simp);rw[ha hb]at e;cases e
 have jb:=J'.base;rw[hfs,hex]at jb;exact⟨ea,cls,H',rfl,J'.os,J'.bare,jb,ok,⟨⟨oe',vs',_,T',oT',ts',z1,z2,z3,z4,⟨bk n1,n2⟩,z6,z7,z8,z9⟩,bk (cN fn),fu⟩,q⟩
def cr (X:Cx)(N':List Str)(scope:Scope)(xs:List Str)(C:Addr)(s0:Shared)(H0:Hp)(fp:List Addr)(pins:List (Addr × Obj)):Cx where
 prog:=X.prog
 w:=X.w
 K:=X.K
 mg:=X.mg
 base:=X.base
 A:=X.A
 N:=N'
 s₀:=s0
 H₀:=H0
 env:=compEnvC scope (clo X.env xs) C X.env
 outer:=X.stack
 stack:=X.stack
 ex:=fp
 fn:=fun _=>false
 calm:=X.calm
 pn:=X.pn++pins
 xe:=fun e s'=>wpAny (model X.prog X.w) X.A (noteFrame e X.env) (fun _ s''=>uh X C e s'') (uh X C) s'
structure pO (X:Cx)(C:Addr)(s0:Shared)(H0:Hp)(fp:List Addr)(pins:List (Addr × Obj)):Prop where
 inv:∃ σ,Inv X pins σ H0 s0
 new:s0.heap.get? C=none
 hch:∀ b∈fp,(b∈X.ex∨X.s₀.heap.objs.size≤b)∧b≠X.env.locals∧(∀ x c,X.env.cells.lookup x=some c→c≠b)∧∀ p∈X.pn++pins,p.1≠b
theorem AZ {X:Cx}{L:Addr}{N':List Str}{scope:Scope}{xs:List Str}{C:Addr}{s0:Shared}{H0:Hp}{fp:List Addr}{pins:List (Addr × Obj)}(O:Bu X outer L E)(a:pO X C s0 H0 fp pins):eI (CXe X.prog X.w) (cr X N' scope xs C s0 H0 fp pins) E:=fun pins' σ' H s e s' I c=>by
 obtain⟨σ,I2⟩:=a.inv;obtain⟨m,hm,_⟩:=I.loc;exact sK O I2 a.hch a.new I.base I.os I.free ⟨m,hm⟩ c
end
end L2
namespace L2
open PySem PySem.Spec PyProof.Rows
variable {H:Hp}{X:Cx}{s:Shared}{pos:Pos}{prog:Program}{A:Around}{K:PySem.W.Frag}
section
variable {elt tg iter cnd:Expr}{ifs:List Expr}{scope:Scope}{N':List Str}{wi:TI}{g:TG}{te:TE}{tt:TT}
theorem uI (xs caps:List Str)(is:List Nat)(k:Nat)(hclos:closureFor scope X.env=pure (clo X.env xs))(hin:(xs.all fun x=>(X.env.cells.lookup x).isSome)=true)(hcap:gf X.env scope xs caps)(his:is.map (X.N[·]?)=caps.map some)(hN:N'.drop k=caps)(hk:k≤N'.length)
  (hallB:((relabel scope X.env).names.all fun y => !(y.2 == .cell || y.2 == .free) || xs.contains y.1)=true) (hcell:∀ y∈scope.names,y.2≠.cell) (hkind:scope.kind=.function) (hnames:∀ y∈scope.names,y.2=.local→scope.names.lookup y.1=some .local)
  (hcalm:X.calm=true) (hi:PI X tg iter wi) (hg:∀ C s0 H0 fp pins,PG (cr X N' scope xs C s0 H0 fp pins) tg g) (ht:∀ C s0 H0 fp pins,PTs (cr X N' scope xs C s0 H0 fp pins) ifs tt) (he:∀ C s0 H0 fp pins,pO X C s0 H0 fp pins→PE (cr X N' scope xs C s0 H0 fp pins) elt te)
  (hs:∀ x,foldedSetIterable iter X.env x=pure x:=by intro _;rfl):PE X (.ListComp elt [⟨tg,iter,ifs,0⟩] scope pos) (iW is k wi g tt te):=by
 intro pins s σ H Q I h;have hall:=sW hallB;obtain⟨vs,hvs,h⟩:=h;rw[eval_ListComp];refine wpAny_comprehension_free (use:=none) rfl hs hclos hkind hnames (thn (@hi pins s σ H _ I h) fun v s1 h1=>thn h1 fun itv s2 h2 =>?_);obtain⟨it,fp,tn,J,H2,e,I2,T,st2,f2,hW⟩:=h2;subst e;refine wpAny_newObj_type (wpAny_newFunctionEnv hcell (by intro y hy;simp at hy) (fun h₁ hns₁ hsb₁ =>?_) hkind);dsimp only at hns₁ hsb₁ ⊢;generalize hH2:s2.heap.push { cls:=.type "list",dict:=none,data:=.seq ([]:List Value).toArray }=P2 at hns₁ hsb₁ ⊢
 have hC:P2.objs.size=s2.heap.objs.size + 1:=by rw[← hH2,CY]
 have below:∀ b,b < s2.heap.objs.size→b≠P2.objs.size∧b≠s2.heap.objs.size:=fun b hb=>⟨by rw[hC];exact Cn (C8 hb),Cn hb⟩;have hDC:s2.heap.objs.size≠P2.objs.size:=by rw[hC];exact Cn (Db _)
 have old:∀ b o,s2.heap.get? b=some o→h₁.get? b=some o:=fun b o e=>hsb₁.extBut b o (below b (B9 e)).1 (B2 _ (hH2▸B2 _ e));have hD:h₁.get? s2.heap.objs.size=some { cls:=.type "list",dict:=none,data:=.seq ([]:List Value).toArray }:=hsb₁.extBut _ _ hDC (B2 _ (hH2▸Ca _ rfl))
 have frD:H2 s2.heap.objs.size=none:=I2.hok.fresh (B7 _);have frC:H2 P2.objs.size=none:=I2.hok.fresh (by rw[hC];exact Dh _);have hfp:∀ b∈fp,b < s2.heap.objs.size:=fun b hb=>by
  obtain⟨o,e,_⟩:=T.obj _ _ st2 b hb;exact B9 e
 have nst:∀ b,b≠X.env.locals→b∉X.fs→b∉frs X.stack:=fun b n1 n2 z=>by
  rcases B6.mp (I2.stkSub b z) with e|e
  ·exact n1 e
  ·exact n2 e
 obtain⟨W,⟨m0,w0⟩,turn⟩:=hW s2.heap.objs.size frD;have csub:∀ (x:Str) (c:Addr),(clo X.env xs).lookup x=some c→X.env.cells.lookup x=some c:=fun x c e=>pE hin e;have cold:∀ (x:Str) (c:Addr),(clo X.env xs).lookup x=some c→∃ v,s2.heap.IsCell c v:=fun x c e=>I2.cell x c (csub x c e);have clt:∀ (x:Str) (c:Addr),(clo X.env xs).lookup x=some c→c < s2.heap.objs.size:=fun x c e=>by
  obtain⟨v,o,ho,_⟩:=cold x c e;exact B9 ho
 have ok':(cr X N' scope xs P2.objs.size s2 H2 fp pins).Ok:=by
  refine⟨I2.ok.mod,hkind,I2.ok.glob,I2.ok.blt,?_,fun x y c e e'=>I2.ok.inj x y c (csub x c e) (csub y c e'),fun x hx =>?_,(fun x c z _=>by cases z),I2.ok.hd,I2.ok.frames,.inl rfl,fun b hb=>⟨(below b (hfp b hb)).1,fun x c e=>(f2 b hb).2.2.2.2.1 x c (csub x c e)⟩,I2.bs,Cq I2.ok.bsz I2.sz,fun b o e hb =>?_,fun b hb=>nst b (f2 b hb).2.1 (f2 b hb).2.2.1,I2.stack,I2.stkFree⟩
  ·show s2.heap.objs.size≤P2.objs.size;rw[hC];exact Dh _
  ·have hx':(relabel scope X.env).names.lookup x=some .cell∨(relabel scope X.env).names.lookup x=some .free:=hx;rcases hx' with z | z
   ·exact f_ (hall _ (PySem.mem_of_lookup z) (.inl rfl))
   ·exact f_ (hall _ (PySem.mem_of_lookup z) (.inr rfl))
  ·rcases (f2 b hb).2.2.2.1 with z|z
   ·exact I2.ok.noex b o e z
   ·exact absurd (Co (B9 (I2.ok.bs b o e).1) z) (CV _)
 have I':Inv (cr X N' scope xs P2.objs.size s2 H2 fp pins) [] (List.replicate k none++vs.map some) (upd H2 s2.heap.objs.size (.lst [])) { s2 with heap:=h₁,toks:=s2.toks + ([]:List (Str × Value)).length }:=by
  refine⟨ok',rfl,I2.bare,Un.laid old (B7 _) frD,⟨_,hns₁,fun i x v e1 e2 e3 =>?_⟩,fun x c e =>?_,?_,fun x c e =>?_,fun p hp =>?_,I2.hok.laid old (B7 _) ⟨by simp,[],0,.nil,hD⟩,?_⟩
  ·obtain⟨j,ej,hj1,hj2⟩:=pG hvs his hN e1 e2;obtain⟨hc1,hc2,hc3⟩:=hcap x hj1;obtain⟨m,hn,hl⟩:=I2.loc;obtain⟨u,r,l⟩:=hl j x v ej hj2 (.inr (.inl hc1));refine⟨u,r,.inr ⟨.inl hc2,?_⟩⟩;rcases l with⟨z,_⟩|⟨_,c,ec,⟨o,ho,hd⟩⟩
   ·rw[show X.env.kindOf x=some .cell from hc1]at z;cases z
   ·exact⟨c,pF hc3 ec,o,old _ _ ho,hd⟩
  ·obtain⟨v,o,ho,hd⟩:=cold x c e;exact⟨v,o,old _ _ ho,hd⟩
  ·show upd H2 s2.heap.objs.size (.lst []) P2.objs.size=none;rw[aL (Ne.symm hDC)];exact frC
  ·show upd H2 s2.heap.objs.size (.lst []) c=none;rw[aL (below _ (clt x c e)).2];exact I2.freeC x c (csub x c e)
  ·have hp':p∈X.pn++pins:=by
    rcases Cm.mp hp with z|z
    ·exact z
    ·cases z
   obtain⟨a1,a2,a3,a4,a5⟩:=I2.pin p hp';refine⟨old _ _ a1,?_,(below _ (B9 a1)).1,nst _ a3 a4,a5⟩;rw[aL (below _ (B9 a1)).2];exact a2
  ·show (List.replicate k none++vs.map some).length=N'.length;exact fA hvs his hN hk
 have stat:∀ {H':Hp},(∀ b∈fp,H' b=none)→∀ b∈fp,mP (cr X N' scope xs P2.objs.size s2 H2 fp pins) [] H' b:=fun {H'} hn b hb =>
  ⟨hn b hb,(below b (hfp b hb)).1,nst b (f2 b hb).2.1 (f2 b hb).2.2.1,.inl hb,fun x c e=>(f2 b hb).2.2.2.2.1 x c (csub x c e),fun p hp=>(f2 b hb).2.2.2.2.2 p (by
   rcases Cm.mp hp with z|z
   ·exact z
   ·cases z)⟩
 have fin:∀ (ys:List V) (σ':St) (H':Hp) (s':Shared),Inv (cr X N' scope xs P2.objs.size s2 H2 fp pins) [] σ' H' s'→Q (.ref s2.heap.objs.size) H' →
   ∃ m,s'.heap.Ns P2.objs.size m∧∀ h',Heap.SameBut P2.objs.size s'.heap h'→EP X pins σ Q (.ref s2.heap.objs.size) { s' with heap:=h' }:=by
  intro ys σ' H' s' J1 q;obtain⟨m,hm,_⟩:=id J1.loc;refine⟨m,hm,fun h' sb=>⟨.ref s2.heap.objs.size,H',?_,rfl,q⟩⟩;have ne:∀ b o,s2.heap.get? b=some o→b≠P2.objs.size:=fun b o e=>(below b (B9 e)).1;refine I2.call' (s':={ s' with heap:=h' }) (ch:=fp) J1.os ⟨fun b o e n hb hx =>?_,fun b o e n hb hx =>?_,fun b o e n hx=>J1.base.free b o e n hx,fun b o e hx =>?_,J1.base.tups,J1.base.frzs,J1.base.tbls⟩ (J1.hok.but J1.free fun b u hb q=>(sb.2 b hb).trans q) J1.bare fun b hb=>⟨(f2 b hb).2.2.2.1,(f2 b hb).2.1,(f2 b hb).2.2.2.2.1,(f2 b hb).2.2.2.2.2⟩
  ·exact (sb.2 b (ne b o e)).trans (J1.base.keep b o e n hb hx)
  ·obtain⟨sl,z⟩:=J1.base.slot b o e n hb hx;exact⟨sl,(sb.2 b (ne b o e)).trans z⟩
  ·obtain⟨o',z⟩:=J1.base.there b o e hx;exact⟨o',(sb.2 b (ne b o e)).trans z⟩
 have cat:pO X P2.objs.size s2 H2 fp pins:=⟨⟨σ,I2⟩,Heap.get?_none_of_le (by rw[hC];exact Dh _),fun b hb=>⟨(f2 b hb).2.2.2.1,(f2 b hb).2.1,(f2 b hb).2.2.2.2.1,(f2 b hb).2.2.2.2.2⟩⟩;have loop:codeAny (model X.prog X.w) X.A (.compLoop (.ListComp elt [⟨tg,iter,ifs,0⟩] scope pos) 0 (.ref it) (.ref s2.heap.objs.size) (compEnvC scope (clo X.env xs) P2.objs.size X.env))
   (compPost (model X.prog X.w) X.A X.xe none (EP X pins σ Q) (.ref s2.heap.objs.size) P2.objs.size)
   { s2 with heap:=h₁,toks:=s2.toks + ([]:List (Str × Value)).length }:=by
  refine gW (fun n s'=>∃ i ys σ' H',σ'.drop k=vs.map some∧Inv (cr X N' scope xs P2.objs.size s2 H2 fp pins) [] σ' H' s'∧tn i s'.heap∧(∀ b∈fp,H' b=none)∧W i n ys H') ?_ m0
   ⟨0,[],List.replicate k none++vs.map some,_,by simp,I',T.keep _ _ _ st2 (fun b hb o e=>old b o e),fun b hb=>by rw[aL (below b (hfp b hb)).2];exact (f2 b hb).1,w0⟩
  rintro n s3 ⟨i,ys,σ3,H3,hd3,J3,st3,fr3,w3⟩;obtain⟨hl,q3⟩:=turn i n ys H3 w3;rcases q3 with⟨stop,q⟩ | ⟨go,hlt,step⟩
  ·refine thn (T.done (cr X N' scope xs P2.objs.size s2 H2 fp pins) rfl rfl rfl hcalm i [] s3 σ3 H3 _ J3 (stat fr3) st3 stop) fun r s4 ⟨hr,J4⟩ =>?_;subst hr;exact fin ys σ3 H3 s4 J4 q
  ·refine thn (T.item (cr X N' scope xs P2.objs.size s2 H2 fp pins) rfl rfl rfl hcalm i [] s3 σ3 H3 _ J3 (stat fr3) st3 go) fun r s4 ⟨u,hr,h4⟩ =>?_;subst hr;refine thn h4 fun _ s5 ⟨x,H5,J5,r5,y5,st5,fr5⟩ =>?_;have J5':=J5.pinned (stat fr5) (T.obj _ _ st5);have J6:Inv (cr X N' scope xs P2.objs.size s2 H2 fp pins) ([]++iO fp s5.heap) (List.replicate k none++vs.map some) H5 s5:=J5'.weak (by rw[J5'.len];exact fA hvs his hN hk) (ke hd3);refine Cv (hg _ _ _ _ _ _ s5 _ H5 x u _ J6 r5 (step x H5 y5)) (fun _ s6 ⟨σ6,H6,J7,hd6,q6⟩ =>?_) fun _ _ z=>z;refine Cv (ht _ _ _ _ _ _ s6 σ6 H6 _ J7 q6) (fun ok s6b ⟨H6b,J7b,q6b⟩ =>?_) fun _ _ z=>z;cases ok with
   | false =>
    rw[if_neg (by decide)];rw[if_neg (by decide)]at q6b;obtain⟨m',hm',w7⟩:=q6b;have pk:∀ b∈fp,∀ o,s5.heap.get? b=some o→s6b.heap.get? b=some o∧H6b b=none:=fun b hb o e =>
     let z:=J7b.pin (b,o) (Ce _ (Ce _ (cI hb e)))
     ⟨z.1,z.2.1⟩
    refine⟨m',hm',i + 1,ys,σ6,_,hd6,J7b.unpinned,T.keep _ _ _ st5 fun b hb o e=>(pk b hb o e).1,fun b hb =>?_,w7⟩;obtain⟨o,e,_⟩:=T.obj _ _ st5 b hb;exact (pk b hb o e).2
   | true =>
    rw[if_pos rfl];rw[if_pos rfl]at q6b;refine Cv (@he _ _ _ _ _ cat _ s6b σ6 H6b _ J7b q6b) (fun yv s7 ⟨y,H7,J8,r7,q7⟩ =>?_) fun _ _ z=>z;obtain⟨hl7,m',hm',w7⟩:=q7;refine Cv (dE (X:=cr X N' scope xs P2.objs.size s2 H2 fp pins) _ s7 σ6 H7 (.ref s2.heap.objs.size) [y] (.ref s2.heap.objs.size) [yv] (fun v H8=>H8=upd H7 s2.heap.objs.size (.lst (ys++[y]))) J8 rfl (.cons r7 .nil) ⟨_,ys,y,rfl,rfl,hl7,hlt,rfl⟩) (fun _ s8 ⟨v8,H8,J9,r8,e8⟩ =>?_) fun _ _ z=>z;subst e8;have pk:∀ b∈fp,∀ o,s5.heap.get? b=some o→s8.heap.get? b=some o∧upd H7 s2.heap.objs.size (.lst (ys++[y])) b=none:=fun b hb o e =>
     let z:=J9.pin (b,o) (Ce _ (Ce _ (cI hb e)))
     ⟨z.1,z.2.1⟩
    refine⟨m',hm',i + 1,ys++[y],σ6,_,hd6,J9.unpinned,T.keep _ _ _ st5 fun b hb o e=>(pk b hb o e).1,fun b hb =>?_,w7⟩;obtain⟨o,e,_⟩:=T.obj _ _ st5 b hb;exact (pk b hb o e).2
 exact codeAny_compStart_list loop (T.self X.A 0 { s2 with heap:=h₁,toks:=s2.toks + ([]:List (Str × Value)).length } _ _ (T.keep _ _ _ st2 fun b hb o e=>old b o e) loop)
theorem wz (xs caps:List Str)(is:List Nat)(k:Nat)(hclos:closureFor scope X.env=pure (clo X.env xs))(hin:(xs.all fun x=>(X.env.cells.lookup x).isSome)=true)(hcap:gf X.env scope xs caps)(his:is.map (X.N[·]?)=caps.map some)(hN:N'.drop k=caps)(hk:k≤N'.length)
  (hallB:((relabel scope X.env).names.all fun y => !(y.2 == .cell || y.2 == .free) || xs.contains y.1)=true) (hcell:∀ y∈scope.names,y.2≠.cell) (hkind:scope.kind=.function) (hnames:∀ y∈scope.names,y.2=.local→scope.names.lookup y.1=some .local)
  (hcalm:X.calm=true) (hi:PI X tg iter wi) (hg:∀ C s0 H0 fp pins,PG (cr X N' scope xs C s0 H0 fp pins) tg g) (he:∀ C s0 H0 fp pins,pO X C s0 H0 fp pins→PE (cr X N' scope xs C s0 H0 fp pins) elt te)
  (hs:∀ x,foldedSetIterable iter X.env x=pure x:=by intro _;rfl):PE X (.ListComp elt [⟨tg,iter,[],0⟩] scope pos) (lE is k wi g te):=by
 rw[j_];exact uI xs caps is k hclos hin hcap his hN hk hallB hcell hkind hnames hcalm hi hg (fun _ _ _ _ _=>oO) he hs
end
end L2
namespace L2
open PySem PySem.Spec PySem.Calls PyProof.Rows PySem.W
variable {H:Hp}{X:Cx}{s:Shared}{pos:Pos}{prog:Program}{A:Around}{K:PySem.W.Frag}
section
variable {CX:CXT}{j k:Nat}{E:XK}{func e:Expr}{es:List Expr}{tf:TE}{t:TA}
def mQ (P:Program)(w:World)(K:PySem.W.Frag)(mg:Str→Option Value)(base:Heap)(CX:CXT)(j:Nat)(Fn:Addr→Sp→Prop):Prop:=∀ f sp,Fn f sp→∃ fd ps,aO P w K mg base CX j f fd ps sp∧bU K fd ps []∧PySem.W.keepIn K (.ref f)=true
def zr (Fn:Addr→Sp→Prop)(E:XK)(tf:TE)(t:TA):TE:=fun σ H Q=>tf σ H fun v H1=>∃ f sp,v=.ref f∧Fn f sp∧t σ H1 fun vs H2=>sp vs H2 Q E
theorem mi {Fn:Addr→Sp→Prop}(F:mQ X.prog X.w X.K X.mg X.base CX j Fn)(hr:cy k X.A)(hx:eI CX X E)(hf:PE X func tf)(ha:PA X (e::es) t)(hj:j≤k:=by decide)
  (hc:eval (.Call func (e::es) [] pos) X.env=(do callWith pos (← eval func X.env) [] (backTo pos (starEach (e::es) X.env)) (backToKw pos (keywordEach [] X.env))):=by rfl)
  (he:starEach (e::es) X.env=(false,eval e X.env)::starEach es X.env:=by rfl) (hpl:(backTo pos (starEach es X.env)).any (·.1)=false:=by rfl) :
  PE X (.Call func (e::es) [] pos) (zr Fn E tf t):=by
 intro pins s σ H Q I h;refine Call_ (thn (@hf pins s σ H _ I h) fun u s1 ⟨v,H1,I1,r1,f,sp,e1,fn,q1⟩ =>?_) hc;subst e1;cases r1;obtain⟨fd,ps,G,b,kp⟩:=F f sp fn;refine PySem.W.callWith_K (h₀:=X.base) I1.ok.mod.kin kp (thn (@ha pos pins s1 σ H1 _ I1 q1) fun us s2 ⟨vs,H2,I2,r,q⟩=>⟨I2.kIn,?_⟩) he hpl;exact oK G (hr.mono hj) b .nil hx I2 r (by rw[CJ];exact q)
end
def AD (z:Str):It :=
 ⟨fun i _=>i < z.length,fun i H v H'=>∃ p,H p=none∧v=.ref p∧H'=upd H p (.tup [.int (i:Int),.str (sgn z i)]),fun i _=>z.length≤i⟩
theorem rh {P:Program}{w:World}{K:PySem.W.Frag}{elts:List Expr}{kk:Nat}{tp:Pos}{e it:Addr}{z:Str}{t:Tok}(hne:e≠it):
  sY P w K (.Tuple elts kk tp) (AD z) [e,it] e (fun i h=>i≤z.length∧(∃ old,IsEnum h e it (i:Int) old)∧h.IsStrIter it "str_ascii_iterator" z t i) where
 mem:=by simp
 obj:=fun i h st b hb=>by
  obtain⟨_,⟨old,he⟩,⟨o,ho,hc,hd⟩⟩:=st;simp only[B6,Cc,or_false]at hb;rcases hb with rfl|rfl
  ·exact⟨_,he,fun v q=>by cases q⟩
  ·exact⟨o,ho,fun v q=>by rw[hd]at q;cases q⟩
 keep:=fun i h h' st k=>by
  obtain⟨h1,⟨old,he⟩,⟨o,ho,r⟩⟩:=st;exact⟨h1,⟨old,k _ (by simp) _ he⟩,⟨o,k _ (by simp) _ ho,r⟩⟩
 item:=by
  intro X hP hw hK hc i pins s σ H E I hf st hg;subst hP hw hK;obtain⟨_,⟨old,he⟩,hit⟩:=st;have hn:H s.heap.objs.size=none:=I.hok.fresh (B7 _);refine wpAny_pyNext_enum_itemD (Draws.strAscii (A:=X.A.in1) (I.ok.hd hc) it z t) he hit hg hne (by simpa using hne) fun x' g tk hP z' j1 tp' sz kp=>⟨_,rfl,?_⟩;have rx:a_ (.str (sgn z i)) x':=rq hP;have lt:∀ {b:Addr} {o:Obj},s.heap.get? b=some o→s.heap.objs.size≠b:=fun e=>Ds (B9 e);refine wpAny_letOwnedTupleGo_enum z' fun g' z'' sb =>?_;have I1:Inv X pins σ (upd H s.heap.objs.size (.tup [.int (i:Int),.str (sgn z i)])) { s with heap:=s.heap.push { cls:=.type "tuple",data:=.seq #[.int i tk,x'] } } :=
   I.laid (t':=s.toks) (fun b u e=>B2 _ e) (B7 _) ⟨(by show 2≤sizeLine;decide),[.int i tk,x'],.cons ⟨_,rfl⟩ (.cons rx .nil),⟨_,Ca _ rfl,rfl,_,rfl⟩⟩
  obtain⟨oi,hoi,_⟩:=id hit;have fp':∀ b∈[e,it],s.heap.objs.size≠b∧upd H s.heap.objs.size (.tup [.int (i:Int),.str (sgn z i)]) b=none:=fun b hb=>by
   have q:s.heap.objs.size≠b:=by
    simp only[B6,Cc,or_false]at hb;rcases hb with rfl | rfl
    ·exact lt he
    ·exact lt hoi
   exact⟨q,by rw[aL (Ne.symm q)];exact (hf b hb).1⟩
  have I2:Inv X pins σ (upd H s.heap.objs.size (.tup [.int (i:Int),.str (sgn z i)])) { s with heap:=g',toks:=tk + 1 }:=by
   refine Inv.turnedL (s:={ s with heap:=s.heap.push { cls:=.type "tuple",data:=.seq #[.int i tk,x'] } }) (h':=g') (t':=tk + 1) (L:=[e,it]) I1 (fun b o hb q =>?_) fun b hb =>?_
   ·have b1:b≠e:=fun z=>hb (by simp[z]);have b2:b≠it:=fun z=>hb (by simp[z]);rcases Heap.get?_push_cases q with⟨e1,e2⟩ | e1
    ·subst e1 e2;exact sb.extBut _ _ b1 tp'
    ·exact sb.extBut _ _ b1 (kp b o b1 b2 e1)
   ·obtain⟨f0,f1,f2,f3,f4,f5⟩:=hf b hb;exact⟨(fp' b hb).2,f1,f2,f3,f4,f5⟩
  exact⟨.ref s.heap.objs.size,_,I2,rfl,⟨_,hn,rfl,rfl⟩,⟨hg,⟨_,by exact_mod_cast z''⟩,let ⟨o,ho,r⟩:=j1;⟨o,sb.extBut _ _ (Ne.symm hne) ho,r⟩⟩,fun b hb=>(fp' b hb).2⟩
 done:=by
  intro X hP hw hK hc i pins s σ H E I hf st hg;subst hP hw hK;obtain⟨h1,⟨old,he⟩,hit⟩:=st;obtain rfl:i=z.length:=Nat.le_antisymm h1 hg;exact wpAny_pyNext_enum_endD (Draws.strAscii (A:=X.A.in1) (I.ok.hd hc) it z t) he hit fun g kp=>⟨rfl,I.turnedL (t':=s.toks) (L:=[e,it]) (fun b o hb q=>kp b o (fun z=>hb (by simp[z])) q) fun b hb=>hf b hb⟩
 self:=fun _ _ _ _ _ st h=>let ⟨_,⟨_,he⟩,_⟩:=st;wpAny_pyIter_enum he h
section
def Ae (ta:TA):TI:=fun σ H R=>ta σ H fun vs H1=>∃ z,vs=[.str z]∧z.cps.all (· < 128)=true∧R (AD z) H1
theorem wm {a:Expr}{ta:TA}{p pos:Pos}{elts:List Expr}{kk:Nat}{tp:Pos}(hg:Gl X "enumerate")(hm:X.mg "enumerate" = none)(ha:PA X [a] ta)
  (hs:starEach [a] X.env=(false,eval a X.env)::starEach [] X.env:=by rfl) (hpl:(backTo pos (starEach [] X.env)).any (·.1)=false:=by rfl) :
  PI X (.Tuple elts kk tp) (.Call (.Name "enumerate" p) [a] [] pos) (Ae ta):=by
 intro pins s σ H R I h;refine Call_ (fZ I hg hm yF (PyProof.Rows.callWith_type1 (thn (@ha pos pins s σ H _ I h) fun us s1 ⟨vs,H1,I1,r1,q1⟩ =>?_) hs hpl));obtain⟨z,e,az,q⟩:=q1;subst e;obtain⟨u,rfl,ru⟩:=iV r1;obtain⟨t,rfl⟩:=ru;refine call_enumerate_str fun g he hit sz kp=>wpAny_pyIter_enum he ?_;have hit':g.IsStrIter s1.heap.objs.size "str_ascii_iterator" z t 0:=by simpa[strIterType,az] using hit
 refine⟨_,[s1.heap.objs.size + 1,s1.heap.objs.size],_,_,H1,rfl,I1.kept (t':=s1.toks) kp,rh (z:=z) (t:=t) (Nat.succ_ne_self _),⟨Cr _,⟨_,he⟩,hit'⟩,fun b hb =>?_,q⟩;have hb':s1.heap.objs.size≤b:=by
  simp only[B6,Cc,or_false]at hb;rcases hb with h | h
  ·rw[h];exact Dq _ _
  ·rw[h];exact B7 _
 exact I1.fpOk hb' (I1.hok.fresh hb')
def AY (P:Program)(w:World)(K:PySem.W.Frag)(neg:Bool):R2:=fun x y H Q=>∃ (a:Addr) (kvs:List (Key × V)) (k:Key),x=kV k∧y=.ref a∧KD P w K a kvs∧(a == sysModules)=false∧Q (.bl (neg ^^ (dk kvs k).isSome)) H
theorem yb:OpR X (compareOp .In) (AY X.prog X.w X.K false):=by
 intro pins s σ H x y v u Q I rx ry h;obtain⟨a,kvs,k,rfl,rfl,⟨ob,vs,hk,rel,dd⟩,hs,q⟩:=h;cases ry;have dd':s.heap.DictOf (bW X.prog X.w) a vs:=DP.mpr ⟨ob,I.kIn a ob hk,dd⟩;refine wpAny_in_of (jy rx) hs dd'.mapOf ?_;rw[← (rel.val k).isSome_eq];exact⟨.bl _,H,I.tok _,rfl,by simpa using q⟩
theorem rV:OpR X (compareOp .NotIn) (AY X.prog X.w X.K true):=by
 intro pins s σ H x y v u Q I rx ry h;obtain⟨a,kvs,k,rfl,rfl,⟨ob,vs,hk,rel,dd⟩,hs,q⟩:=h;cases ry;have dd':s.heap.DictOf (bW X.prog X.w) a vs:=DP.mpr ⟨ob,I.kIn a ob hk,dd⟩;refine wpAny_notIn_of (jy rx) hs dd'.mapOf ?_;rw[← (rel.val k).isSome_eq];exact⟨.bl _,H,I.tok _,rfl,by simpa using q⟩
end
theorem zx (b:Nat→Nat→Bool):Pw 2 b (kas_sort 2) (fun p=>p=if b 1 0 then #[1,0] else #[0,1]):=by
 refine⟨by decide,by decide,by decide,?_⟩;show Pw 2 b (KasT.bind (KasT.bind (if b 1 0=true then _ else _) _) _) _;cases e:b 1 0
 ·exact rfl
 ·exact rfl
section
variable {w:World}{E:Value→Shared→Prop}
theorem nn {a:Addr}{i j:Int}{t u:Tok}{n:Nat}{P:PySem.Fin→Shared→Prop}(ho:s.heap.get? a=some (seqObj "list" #[.int i t,.int j u] n))
  (h:P (.done (.ret .none)) { s with heap:=sortedHeap s.heap a [.int i t,.int j u] (if j < i then #[.int j u,.int i t] else #[.int i t,.int j u]) }) :
  wpAny (model prog w) A (Builtin.«list.sort» ⟨[.ref a],[]⟩) P E s:=by
 have ha:a < s.heap.objs.size:=B9 ho;rw[list_sort_plain];refine B4 (listItems_at ho rfl ?_);refine B4 (listUpdate_at ho rfl ?_ (show 2≤sizeLine by decide) (Cr _));obtain⟨e1,ho1⟩:∃ e1,(s.heap.update a (Obj.mapSeq fun _=>(#[]:Array Value))).get? a=some (seqObj "list" #[] e1):=⟨_,get?_update_seq ho fun _ => #[]⟩
 refine B4 (seqEpoch_at ho1 rfl ?_);refine B4 (wpAny_newTuple ?_ (show 2≤sizeLine by decide));refine B4 (wpAny_newList ?_ (Cr _));refine wpAny_holding ?_;show wpAny (model prog w) A _ P E { s with heap:=((s.heap.update a (Obj.mapSeq fun _=>(#[]:Array Value))).push (seqObj "tuple" #[.int i t,.int j u] 0)).push (seqObj "list" #[] 0) }
 dsimp only;have ho6:(((s.heap.update a (Obj.mapSeq fun _=>(#[]:Array Value))).push (seqObj "tuple" #[.int i t,.int j u] 0)).push (seqObj "list" #[] 0)).get? a=some (seqObj "list" #[] e1):=B2 _ (B2 _ ho1)
 have h2:¬ (#[Value.int i t,.int j u]:Array Value).size < 2:=CV 2;rw[if_neg h2,if_neg h2];refine B4 (Cv (kas_kind (Q:=fun κ' s'=>κ'=oneType'∧s'=_) (T:=.type "int") (vs:=[.int i t,.int j u]) (E:=fun _ _=>False) (B7 2) (fun v hv =>?_) (by decide) (by decide) ⟨rfl,rfl⟩) (fun κ' s' hk =>?_) fun _ _ x=>x.elim)
 ·simp only[B6,Cc,or_false]at hv;rcases hv with rfl | rfl<;>exact Looks.now
 obtain⟨rfl,rfl⟩:=hk
 let s6:Shared:={ s with heap:=((s.heap.update a (Obj.mapSeq fun _=>(#[]:Array Value))).push (seqObj "tuple" #[.int i t,.int j u] 0)).push (seqObj "list" #[] 0) }
 let bb:Nat→Nat→Bool:=fun x y=>decide (([i,j].getD x 0) < ([i,j].getD y 0))
 refine B4 (Cv (kat_run (Q:=fun st' s'=>∃ p:Array Nat,p.size=2∧arrOf st'=p.map (kas_item ((#[.int i t,.int j u]:Array Value).zip #[.int i t,.int j u]))∧failedOf st'=none∧((p=if bb 1 0 then #[1,0] else #[0,1])∧s'=s6))
  (G:=fun p s'=>(p=if bb 1 0 then #[1,0] else #[0,1])∧s'=s6)
  (ks:=[.int i t,.int j u]) rfl (B7 2) (show 2 < 64 by decide) (fun p' st' s' a1 a2 a3 a4=>⟨p',a1,a2,a3,a4⟩)
  (Pw.wp (n:=2) (b:=bb) (fun x y C a1 a2 a3 a4 =>?_) (Q:=fun p=>p=if bb 1 0 then #[1,0] else #[0,1]) (fun p hp=>⟨hp,rfl⟩) (zx bb))) ?_ fun _ _ e=>e)
 ·have hx:x=0∨x=1:=by omega
  have hy:y=0∨y=1:=by omega
  rcases hx with rfl|rfl<;>rcases hy with rfl|rfl
  ·exact absurd rfl a3
  ·exact kat_lt_int a4
  ·exact kat_lt_int a4
  ·exact absurd rfl a3
 rintro⟨⟨⟩,st'⟩ s' ⟨p,hp,har,hfl,o,rfl⟩;dsimp only;refine B4 (seqEpoch_at ho6 rfl ?_);have hout:=kat_snds (ks:=[.int i t,.int j u]) rfl har;rw[hout];refine B4 (listUpdate_at ho6 rfl ?_ (Cr _) (by rw[Cj,B_,Dr,hp];decide));rw[hfl];simp only[bne_self_eq_false,Dg,if_false];refine Ch ?_;have e:(List.map (fun i_1=>([Value.int i t,Value.int j u].getD i_1 Value.none)) p.toList).toArray=if j < i then #[.int j u,.int i t] else #[.int i t,.int j u]:=by
  rw[o];by_cases c:j < i
  ·have:bb 1 0=true:=B8 c
   rw[this,if_pos c];rfl
  ·have:bb 1 0=false:=Cg c
   rw[this,if_neg c];rfl
 rw[e];exact h
end
section
theorem sV:eJ X (.builtin "sorted") (fun xs H Q=>∃ (a:Addr) (i j:Int),xs=[.ref a]∧SqL X.K H a [.int i,.int j]∧∀ S,H S=none→Q (.ref S) (upd H S (.lst (if j < i then [.int j,.int i] else [.int i,.int j])))):=by
 intro pins s σ H xs us Q I r h;obtain⟨a,i,j,rfl,hS,q⟩:=h;obtain⟨u,rfl,ru⟩:=iV r;cases ru;obtain⟨its,rv,pl,sz⟩:=I.list hS;obtain⟨t,t',rfl⟩:∃ t t',its=[.int i t,.int j t']:=by
  cases rv with | cons r1 rv=>cases rv with | cons r2 rv=>cases rv;obtain⟨t,rfl⟩:=r1;obtain⟨t',rfl⟩:=r2;exact⟨t,t',rfl⟩
 refine Calls.call_function_entry kind_sorted plain_sorted entry_sorted (args_sorted1 _) ?_;unfold Builtin.«sorted»;refine B4 (m:=checkCount "sorted" 1 1 _) (Ch ?_)
 refine B4 (collect_list pl.isList ?_ (show 2≤sizeLine by decide));refine B4 (wpAny_newList ?_ (show 2≤sizeLine by decide));have hoL:∀ h:Heap,(h.push (seqObj "list" #[.int i t,.int j t'] 0)).get? h.objs.size=some (seqObj "list" #[.int i t,.int j t'] 0):=fun h=>Ca _ rfl
 refine B4 (wpAny_holding (wpAny_call_entry slot_list_sort ⟨_,hoL _,rfl⟩ entry_list_sort (nn (hoL _) ⟨_,rfl,?_⟩) (args_list_sort _)));refine Ch ⟨_,rfl,?_⟩;obtain⟨S,h1,h2,h3⟩:=I.sortd (a:=a) (its:=[.int i t,.int j t']) (out:=if j < i then [.int j t',.int i t] else [.int i t,.int j t']) (us:=if j < i then [.int j,.int i] else [.int i,.int j]) (by split<;>exact (show 2≤sizeLine by decide)) (by
  split
  ·exact .cons ⟨_,rfl⟩ (.cons ⟨_,rfl⟩ .nil)
  ·exact .cons ⟨_,rfl⟩ (.cons ⟨_,rfl⟩ .nil))
 subst h3;refine⟨.ref _,_,?_,rfl,q _ h1⟩;rw[show (if j < i then #[Value.int j t',.int i t] else #[.int i t,.int j t'])=(if j < i then [Value.int j t',.int i t] else [.int i t,.int j t']).toArray by split<;>rfl];exact h2
end
def zc (s:Stmt)(j:Nat):Stmt:=match s with
 | .ClassDef _ _ _ b _ _ _ _ _ _ _=>b.getD j (.Pass ⟨0,0,0,0⟩)
 | _=>.Pass ⟨0,0,0,0⟩
structure MOk (P:Program)(w:World)(K:PySem.W.Frag)(mg:Str→Option Value)(base:Heap)(CX:CXT)(j:Nat)(C:Addr)(m:Str)(ps:List Str)(sp:Sp):Prop where
 ex:∃ f fd,Cls K C∧AC K C m f∧aO P w K mg base CX j f fd ps sp∧bU K fd ps []
section
variable {CX:CXT}{j k:Nat}{C:Addr}{m:Str}{ps:List Str}{sp:Sp}{E:XK}{o e:Expr}{es:List Expr}{ta:TE}{t:TA}{apos:Pos}
theorem qh {pl:Sem Bool}(M:MOk X.prog X.w X.K X.mg X.base CX j C m ps sp)(q:bv CX)(hr:cy k X.A)(he:PE X o ta)(ha:PA X (e::es) t)(hj:j≤k:=by decide)
  (hst:starEach (e::es) X.env=(false,eval e X.env)::starEach es X.env:=by rfl) (hpl:(backTo pos (starEach es X.env)).any (·.1)=false:=by rfl)
  (ht:eval (.Call (.Attribute o m apos) (e::es) [] pos) X.env=(do
   let ov ← eval o X.env
   standAt apos.atName
   let (f,first) ← holding [ov] (getMethod ov m pl)
   callWith pos f first (backTo pos (starEach (e::es) X.env)) (backToKw pos (keywordEach [] X.env))):=by rfl) :
  PE X (.Call (.Attribute o m apos) (e::es) [] pos) (yQ C m sp [] E0 ta t):=by
 obtain⟨f,fd,c,hm,F,b⟩:=M.ex;exact xZ (pl:=pl) he c hm F (hr.mono hj) b .nil (tH q) ha hst hpl ht
def zo (C:Addr)(m:Str)(sp:Sp)(R:Value→St→Hp→Prop)(ta:TE)(t:TA):TE:=fun σ H Q=>ta σ H fun x H1=>∃ a dx fs,x=.ref a∧H1 a=some (.ins C dx fs)∧fs.lookup m=none ∧
 t σ H1 fun vs H2=>sp (x::vs) H2 Q (fun cls _ H'=>R cls σ H')
theorem wq {W:Value→Shared→Prop}{pn:List (Addr × Obj)}{R:Value→St→Hp→Prop}{pl:Sem Bool}(M:MOk X.prog X.w X.K X.mg X.base (CXe X.prog X.w) j C m ps sp)(hr:cy k X.A)(pt:ze X W pn R)(he:PE (Xb X W pn) o ta)(ha:PA (Xb X W pn) (e::es) t)(hj:j≤k:=by decide)
  (hst:starEach (e::es) X.env=(false,eval e X.env)::starEach es X.env:=by rfl) (hpl:(backTo pos (starEach es X.env)).any (·.1)=false:=by rfl)
  (ht:eval (.Call (.Attribute o m apos) (e::es) [] pos) X.env=(do
   let ov ← eval o X.env
   standAt apos.atName
   let (f,first) ← holding [ov] (getMethod ov m pl)
   callWith pos f first (backTo pos (starEach (e::es) X.env)) (backToKw pos (keywordEach [] X.env))):=by rfl) :
  PE (Xb X W pn) (.Call (.Attribute o m apos) (e::es) [] pos) (zo C m sp R ta t):=by
 obtain⟨f,fd,c,hm,G,b⟩:=M.ex;intro pins s σ H Q I h;refine PySem.W.methodCall_KW (pl:=pl) (thn (@he pins s σ H _ I h) fun u s1 ⟨x,H1,I1,rx,a,dx,fs,ex,ea,l,q⟩ =>?_) ht;subst ex;obtain rfl:u=Value.ref a:=rx;refine mF (X:=Xb X W pn) I1 ea c hm l ?_;refine PySem.W.callWith_K (first:=[.ref a]) (h₀:=X.base) I.ok.mod.kin hm.kp (thn (@ha pos pins s1 σ H1 _ I1 q) fun us s2 ⟨vs,H2,I2,r,q2⟩=>⟨I2.kIn,?_⟩) hst hpl;have r2:aX (V.ref a::vs) (Value.ref a::us):=.cons rfl r;have hl:(Value.ref a::us).length=ps.length:=by rw[← r2.length];exact G.len _ _ _ _ q2
 have bb:=b s2 (.ref a::us) I2.kIn (by rw[CJ];exact hl);rw[CJ]at bb;refine wpAny_call (codeAny_mono (G.run X.A X.stack s2 H2 ⟨.ref a::us,[]⟩ (.ref a::us) (.ref a::vs) Q _ (hr.mono hj) I2.env0 bb r2 q2) fun r s' hq =>?_);cases r with
 | error e=>exact pt pins σ H2 s2 e s' I2 hq
 | ok fl =>
  cases fl with
  | ret u=>exact I2.after hq
  | next=>exact False.elim hq
  | brk=>exact False.elim hq
  | cont=>exact False.elim hq
structure xx (P:Program)(w:World)(K:PySem.W.Frag)(mg:Str→Option Value)(base:Heap)(CX:CXT)(j:Nat)(x:Str)(C:Addr)(ps:List Str)(sp:Sp):Prop where
 ex:∃ f fd,Mk K C f∧aO P w K mg base CX j f fd ps sp∧bU K fd ps []∧mg x=some (.ref C)
theorem xY {x:Str}{p:Pos}(M:xx X.prog X.w X.K X.mg X.base CX j x C ps sp)(q:bv CX)(hr:cy k X.A)(hj:j + 1≤k:=by decide)(hg:Gl X x:=by rfl)(hdb:(x == ("__debug__" : Str))=false:=by decide):
  PE X (.Call (.Name x p) [] [] pos) (yR C sp [] E0 gk):=by
 obtain⟨f,fd,M,F,b,hm⟩:=M.ex;exact wt M F (hr.mono hj) hg hm b .nil (tH q) hdb
end
def uqR:List Str→Nat
 | []=>0
 | x::xs=>uqR xs + if x∈xs then 0 else 1
def uq (ss:List Str):Nat:=uqR ss.reverse
theorem zi (ss:List Str)(x:Str):uq (ss++[x])=uq ss + if x∈ss then 0 else 1:=by
 unfold uq;rw[List.reverse_append];show uqR (x::ss.reverse)=_;simp[uqR]
theorem vM:∀ ss:List Str,uqR ss≤ss.length∧(ss.Nodup↔uqR ss=ss.length)
 | []=>⟨B7 _,by simp[uqR]⟩
 | x::xs=>by
  obtain⟨h1,h2⟩:=vM xs;by_cases c:x∈xs
  ·refine⟨by simp[uqR,c];omega,?_⟩;simp only[CQ,c,not_true,false_and,uqR,if_true,B5,false_iff];omega
  ·refine⟨by simp[uqR,c];omega,?_⟩;simp only[CQ,c,not_false_iff,true_and,uqR,if_false,B5,h2];omega
theorem lC (ss:List Str):uq ss≤ss.length∧(ss.Nodup↔uq ss=ss.length):=by
 have h:=vM ss.reverse;rw[List.length_reverse,(List.reverse_perm ss).nodup_iff]at h;exact h
section
variable {w:World}{E:Value→Shared→Prop}
def vE (prog:Program)(w:World)(h:Heap)(a:Addr)(ss:List Str):Prop:=h.SetOf (PySem.strKind prog w) a (fun k=>decide (k∈ss)) (uq ss)
theorem xD {R:Result→Shared→Prop}{a it l:Addr}{items:Array Value}{ss:List Str}(hh:A.handled=none)(hal:a≠l)(hai:a≠it)(hli:l≠it)(hV:∀ (i:Nat) (v:Value),items[i]? = some v→∃ x t,ss[i]? = some x∧v=.str x t)(hn:items.size=ss.length)(hb:ss.length + 1 < scanBound):
  ∀ (m i:Nat) (s:Shared),ss.length - i=m→i≤ss.length→s.heap.IsListIter it l i→s.heap.IsList l items→vE prog w s.heap a (ss.take i) →
   (∀ h' tk',vE prog w h' a ss→(∀ b u,b≠a→b≠it→s.heap.get? b=some u→h'.get? b=some u)→R (.ok (.ret .none)) { s with heap:=h',toks:=tk' }) →
   codeAny (model prog w) A (.builtin "set.update.loop" ⟨[.ref a,.ref it],[]⟩) R s:=by
 intro m
 induction m with
 | zero =>
  intro i s hm hi hit hl hS hR;have e:i=items.size:=by omega
  subst e;refine codeAny_builtin nW ?_;rw[Around.under_plainId PyProof.Rows.F.plain_set_update_loop _];show wpAny _ A.in1 (pyNext (.ref it) >>= _) _ _ s;refine B4 ((Walks.list (A:=A.in1) hh it l hli items).done s _ _ ⟨hit,hl⟩ fun h' tk' kk =>?_);show wpAny _ A.in1 (ret Value.none) _ _ _;refine Ch (hR h' tk' ?_ fun b u _ hb e=>kk b u (by simpa using hb) e);rw[hn,List.take_length]at hS;obtain⟨o,es,ep,t,ho,r⟩:=hS;exact⟨o,es,ep,t,kk a o (by simpa using hai) ho,r⟩
 | succ m ih =>
  intro i s hm hi hit hl hS hR;have hlt:i < items.size:=by omega
  refine codeAny_builtin nW ?_;rw[Around.under_plainId PyProof.Rows.F.plain_set_update_loop _];show wpAny _ A.in1 (pyNext (.ref it) >>= _) _ _ s;refine B4 ((Walks.list (A:=A.in1) hh it l hli items).item i s _ _ hlt ⟨hit,hl⟩ fun v h' tk' hv st' kk =>?_);obtain⟨x,t,hx,rfl⟩:=hV i v hv;have hS':vE prog w h' a (ss.take i):=by
   obtain⟨o,es,ep,tb,ho,r⟩:=hS;exact⟨o,es,ep,tb,kk a o (by simpa using hai) ho,r⟩
  have et:ss.take (i + 1)=ss.take i++[x]:=by rw[Dj,hx];rfl
  have lt:(ss.take i).length≤ss.length:=by rw[CH];omega
  show wpAny _ A.in1 (holding [Value.str x t] (setAdd a (.str x t)) >>= _) _ _ _;refine B4 (wpAny_holding ?_);unfold setAdd;refine wpAny_holding (B4 ((PySem.strKind prog w).pyHash (k:=x) (strKind_is _ _ _ _) ?_));have ul:=(lC (ss.take i)).1;refine wpAny_setAddHashed_of (knd:=PySem.strKind prog w) (strKind_is _ _ _ _) rfl hS' (by omega) fun h2 sb hS2 =>?_;have hS3:vE prog w h2 a (ss.take (i + 1)):=by
   refine PyProof.Rows.SetOf_congr hS2 (fun k =>?_) ?_
   ·rw[et];simp[DJ]
   ·rw[et,zi];by_cases c:x∈ss.take i<;>simp[c]
  refine Ch ⟨plainId_quiet PyProof.Rows.F.plain_set_update_loop _,ih (i + 1) _ (by omega) (by omega) ?_ ?_ hS3 fun h3 tk3 q1 q2 =>?_⟩
  ·exact st'.1.at fun o e=>(sb.2 it (Ne.symm hai)).trans e
  ·exact st'.2.at fun o e=>(sb.2 l (Ne.symm hal)).trans e
  ·exact hR h3 tk3 q1 fun b u hb1 hb2 e=>q2 b u hb1 hb2 ((sb.2 b hb1).trans (kk b u (by simpa using hb2) e))
theorem vz {l:Addr}{its:Array Value}{ss:List Str}{Q:Value→Shared→Prop}(hh:A.handled=none)(hl:PlainL s.heap l its)(hV:∀ (i:Nat) (v:Value),its[i]? = some v→∃ x t,ss[i]? = some x∧v=.str x t)(hn:its.size=ss.length)(hb:ss.length + 1 < scanBound)
  (q:∀ h' tk,vE prog w h' s.heap.objs.size ss→(∀ b u,s.heap.get? b=some u→h'.get? b=some u)→Q (.ref s.heap.objs.size) { s with heap:=h',toks:=tk }):wpAny (model prog w) A (call (.type "set") [.ref l]) Q E s:=by
 obtain⟨_,_,hmro⟩:=PySem.F.called_set.mro;have g1:=PySem.F.called_set.made;have g2:=PySem.F.called_set.sub;have g3:=PySem.F.called_set.notType;have g4:=PySem.F.called_set.canCreate;have g5:=PySem.F.typeCall_set_1 (.ref l);refine wpAny_call (codeAny_of_tree (show wpAny _ _ (callAny (.type "set") _) _ _ _ from Ch ⟨Code.quiet_builtin _ (by decide +kernel),codeAny_builtin PySem.F.entry_type_call ?_⟩))
 rw[Around.under_plain (weight_type_call_type "set" [.ref l] []) rfl]
 repeat any_goals first | assumption | wp_step
 refine codeAny_mono (code_set_new_1 (.ref l) (E:=E) (Q₁:=fun v s1=>∃ b:Bool,v=.ref s.heap.objs.size∧s1={ s with heap:=s.heap.push (di b) }) fun b=>⟨b,rfl,rfl⟩) fun r s1 hr =>?_
 match r,hr with
 | .error _,hr=>exact hr
 | .ok (.ret _),⟨b,e1,e2⟩ =>
  subst e1 e2;have w1:(s.heap.push (di b)).get? s.heap.objs.size=some (di b):=Ca _ rfl;have hT:Shared.TypeIs { s with heap:=s.heap.push (di b) } (.ref s.heap.objs.size) "set" := ⟨_,w1,rfl⟩
  have g6:=PySem.F.called_set.init.lookup;have g7:=PySem.F.called_set.init.bind (.ref s.heap.objs.size)
  repeat any_goals first | assumption | wp_step
  refine codeAny_mono (codeAny_call_builtin (R:=wants (fun r s2=>r=.none∧∃ h' tk,s2={ s with heap:=h',toks:=tk }∧vE prog w h' s.heap.objs.size ss∧∀ b u,s.heap.get? b=some u→h'.get? b=some u) E) PySem.F.called_set.init.plain PySem.F.entry_set_init (check_set_init_1 hT ?_)) fun r2 s2 hr2 =>?_
  ·obtain⟨o,n,ho,hc,hd,hdat⟩:=hl;have ho1:(s.heap.push (di b)).get? l=some o:=B2 _ ho;have hl1:(s.heap.push (di b)).IsList l its:=⟨o,ho1,hc,n,hdat⟩;have hlt:=B9 ho;have hTl:Shared.TypeIs { s with heap:=s.heap.push (di b) } (.ref l) "list" := ⟨_,ho1,hc⟩
   have g8:=PySem.F.sub_list_set;have g9:=PySem.F.sub_list_frozenset;have g10:(Value.type "list" == Value.type "dict")=false:=by decide
   unfold Builtin.«set.__init__»;unfold noKeywords Builtin.Frozenset.updateFrom;generalize hg:pyIter=it
   wp_walk
   subst hg;refine wpAny_pyIter_list hl1 (B4 (wpAny_runValue ?_));have e0:(s.heap.push (di b)).objs.size=s.heap.objs.size + 1:=CY _ _;refine xD (it:=(s.heap.push (di b)).objs.size) (ss:=ss) (l:=l) (items:=its) (show A.in1.in1.handled=none by simp[hh]) (Ds hlt) (by rw[e0];exact Cn (Db _)) (by rw[e0];exact Cn (C8 hlt)) hV hn hb ss.length 0 _ (Nat.sub_zero _) (Cr _) ?_ ?_ ?_ fun h2 tk2 q1 q2 =>?_
   ·exact⟨_,Ca _ rfl,rfl,rfl⟩
   ·exact hl1.push _
   ·have w2:=B2 { cls:=.type "list_iterator",data:=.fields #[.ref l,.int 0 0] } w1
    exact PyProof.Rows.SetOf_congr ((PyProof.Rows.setObjOf_fresh (knd:=PySem.strKind prog w) b).setOf w2 (by unfold scanBound;omega)) (fun k=>by simp) rfl
   ·refine Ch (Ch ⟨rfl,h2,tk2,rfl,q1,fun b' u e =>?_⟩);have hb':=B9 e;exact q2 b' u (Cn hb') (by rw[e0];exact Cn (C8 hb')) (B2 _ (B2 _ e))
  ·match r2,hr2 with
   | .error _,hr2=>exact hr2
   | .ok (.ret _),⟨e3,h',tk,e4,hS,kp⟩ =>
    subst e3 e4
    repeat any_goals first | assumption | wp_step
    exact q _ _ hS kp
end
section
def AK (K:PySem.W.Frag)(te:TE):TE:=fun σ H Q=>te σ H fun x H1=>∃ (a:Addr) (ss:List Str),x=.ref a∧SqL K H1 a (ss.map V.str)∧ss.length < 4000∧Q (.int (uq ss)) H1
theorem x0 {e:Expr}{te:TE}{p1 p2 q1 q2:Pos}(hc:X.calm=true)(hg1:Gl X "len")(hm1:X.mg "len" = none)(hg2:Gl X "set")(hm2:X.mg "set" = none)(ho:PE X e te)
  (hs1:starEach [Expr.Call (.Name "set" p2) [e] [] q2] X.env=[(false,eval (Expr.Call (.Name "set" p2) [e] [] q2) X.env)]:=by rfl) (hs2:starEach [e] X.env=[(false,eval e X.env)]:=by rfl) :
  PE X (.Call (.Name "len" p1) [.Call (.Name "set" p2) [e] [] q2] [] q1) (AK X.K te):=by
 intro pins s σ H Q I h;refine wpAny_Call_Name_kw (fZ I hg1 hm1 ck ?_);refine PyProof.Rows.callWith_builtin1 ?_ hs1 rfl;rw[hs1];show wpAny _ _ (spliced [(false,eval (Expr.Call (.Name "set" p2) [e] [] q2) X.env)]) _ _ s
 refine Calls.spliced_cons ?_;refine wpAny_Call_Name_kw (fZ I hg2 hm2 Aq ?_);refine PyProof.Rows.callWith_type1 ?_ hs2 rfl;rw[hs2];show wpAny _ _ (spliced [(false,eval e X.env)]) _ _ s;refine Calls.spliced_cons (thn (@ho pins s σ H _ I h) fun u s1 ⟨x,H1,I1,rx,a,ss,ex,hS,hl,q⟩=>Calls.spliced_nil ?_);subst ex;obtain rfl:u=Value.ref a:=rx;obtain⟨its,rv,pl,sz⟩:=I1.list hS;have ln:=rv.length;rw[B_]at ln;refine vz (ss:=ss) (I1.ok.hd hc) pl (fun i v hv=>vL rv i v (by simpa using hv)) (by rw[Cj];omega) (by unfold scanBound;omega) fun h' tk hS' kp =>?_;refine Calls.spliced_nil ?_;obtain⟨o,es,ep,t,ho',hex,hd,hel,hmem,hb,hf,hn⟩:=hS';have ul:=(lC ss).1;refine call_len_set (s:={ s1 with heap:=h',toks:=tk }) ho' hex hd hf (by rw[hn];omega) ?_;have I2:Inv X pins σ H1 { s1 with heap:=h',toks:=tk + 1 + 1 }:=I1.kept kp;rw[hn];exact⟨.int _,H1,I2,⟨_,rfl⟩,q⟩
end
section
variable {w:World}{E:Value→Shared→Prop}
theorem nY {it l:Addr}{items:Array Value}(hh:A.handled=none)(hne:l≠it):∀ (n i:Nat) (s:Shared) (Q:List Value→Shared→Prop),s.heap.IsListIter it l i→s.heap.IsList l items→i + n≤items.size →
  (∀ h' tk,h'.IsListIter it l (i + n)→h'.IsList l items→(∀ b o,b≠it→s.heap.get? b=some o→h'.get? b=some o)→Q ((items.toList.drop i).take n) { s with heap:=h',toks:=tk })→wpAny (model prog w) A (draw (.ref it) n) Q E s
 | 0,i,s,Q,hit,hl,_,hQ=>by
  show wpAny _ _ (pure []) Q E s;exact Ch (by simpa using hQ s.heap s.toks hit hl fun _ _ _ e=>e)
 | n + 1,i,s,Q,hit,hl,hle,hQ=>by
  have hlt:i < items.size:=by omega
  show wpAny _ _ (pyNext (.ref it) >>= _) Q E s;refine B4 ((Walks.list (A:=A) hh it l hne items).item i s _ _ hlt ⟨hit,hl⟩ fun v h1 tk1 hv st1 k1 =>?_);obtain rfl:v=items[i]:=by simpa[hlt,eq_comm] using hv
  refine B4 (wpAny_holding (nY hh hne n (i + 1) _ _ st1.1 st1.2 (by omega) fun h2 tk2 hit2 hl2 k2=>Ch ?_));have hd:items.toList.drop i=items[i]::items.toList.drop (i + 1):=by simp[CW,hlt]
  have:=hQ h2 tk2 (by rw[show i + (n + 1)=i + 1 + n by omega];exact hit2) hl2 fun b o hb e=>k2 b o hb (k1 b o (by simpa using hb) e)
  rw[hd,List.take_succ_cons]at this;exact this
theorem jF {env:Env}{elts:List Expr}{x1}{pos:Pos}{l:Addr}{items:Array Value}{Q:Unit→Shared→Prop}(hh:A.handled=none)(hl:s.heap.IsList l items)
  (hn:(assignEach elts env).length=items.size) (hstar:(assignEach elts env).findIdx? (·.1)=none)
  (h:∀ h' tk,(∀ b o,s.heap.get? b=some o→h'.get? b=some o)→wpAny (model prog w) A (assignInOrder ((assignEach elts env).map (·.2)) items.toList) Q E { s with heap:=h',toks:=tk }) :
  wpAny (model prog w) A (assign (.Tuple elts x1 pos) env (.ref l)) Q E s:=by
 have hlt:l < s.heap.objs.size:=by obtain⟨_,e,_⟩:=hl;exact B9 e
 rw[assign_Tuple];refine B4 (wpAny_standAt ?_);unfold unpack;rw[hn,hstar];refine B4 (wpAny_holding ?_);unfold unpackItems;refine B4 ?_;unfold notIterableAtAll;refine B4 (wpAny_specialOf hl.typeIs F.slot_list_iter.lookup ?_);refine Ch ?_;simp only[Dg,if_false];refine B4 (wpAny_holding (wpAny_pyIter_list hl ?_));refine B4 (wpAny_holding (nY hh (Cn hlt) items.size 0 _ _ ⟨_,Ca _ rfl,rfl,rfl⟩ (hl.push _) (by omega) fun h1 tk1 hit1 hl1 k1 =>?_));have hall:List.take items.size (List.drop 0 items.toList)=items.toList:=by
  rw[DI];exact CU (by simp)
 rw[hall,if_neg (by simp)];refine B4 (wpAny_holding ((Walks.list (A:=A) hh s.heap.objs.size l (Cn hlt) items).done { s with heap:=h1,toks:=tk1 } _ _ ⟨by simpa using hit1,hl1⟩ fun h2 tk2 k2 =>?_));simp only[Option.isSome_none,Dg,if_false];exact Ch (h h2 tk2 fun b o e=>k2 b o (by simpa using Cn (B9 e)) (k1 b o (Cn (B9 e)) (B2 _ e)))
end
section
def BU (K:PySem.W.Frag)(n:Nat)(t:TGs):TG:=fun v σ H Q=>∃ a xs,v=.ref a∧SqL K H a xs∧xs.length=n∧t xs σ H Q
theorem zD {es:List Expr}{k:Nat}{t:TGs}{n:Nat}(hc:X.calm=true)(h:PGs X es t)
  (hn:(assignEach es X.env).length=n:=by rfl) (hst:(assignEach es X.env).findIdx? (·.1)=none:=by rfl):PG X (.Tuple es k pos) (BU X.K n t):=by
 intro pins s σ H v u Q I r hw;obtain⟨a,xs,e1,hq,hl,hw⟩:=hw;subst e1;cases r;obtain⟨its,rv,pl,hz⟩:=I.list hq;refine jF (I.ok.hd hc) pl.isList (by simp[hn,← hl,rv.length]) hst fun h' tk hx =>?_;have I1:Inv X pins σ H { s with heap:=h',toks:=tk }:=I.kept hx;exact @h pins _ σ H xs _ Q I1 (by simpa using rv) hw
end
end L2
namespace Qs
open PySem L2
def top (i:Nat):Stmt:=PySem.Challenge.pw_quartersheet_k82_refused_rows_change_not.main.body.getD i (.Pass ⟨0,0,0,0⟩)
structure Tx (K:PySem.W.Frag)(mg:Str→Option Value):Prop where
 b_isinstance:mg "isinstance" = none
 b_int:mg "int" = none
 b_bool:mg "bool" = none
 c_MOST:∃ t,mg "MOST" = some (.int 40 t)
 c_LAST_COLOUR:∃ t,mg "LAST_COLOUR" = some (.int 35 t)
 b_all:mg "all" = none
 b_str:mg "str" = none
 b_len:mg "len" = none
 c_QUARTERS:∃ t,mg "QUARTERS" = some (.str "0123" t)
 c_MOST_SMALL:∃ t,mg "MOST_SMALL" = some (.int 6 t)
 b_range:mg "range" = none
 b_tuple:mg "tuple" = none
 b_list:mg "list" = none
 b_sorted:mg "sorted" = none
 b_max:mg "max" = none
 b_min:mg "min" = none
 b_dict:mg "dict" = none
 b_any:mg "any" = none
 c_FIGURES:∃ t,mg "FIGURES" = some (.str "0123456789" t)
 c_SIGNS:∃ t,mg "SIGNS" = some (.str "0123456789abcdefghijklmnopqrstuvwxyz" t)
 c_MOST_LETTERS:∃ t,mg "MOST_LETTERS" = some (.int 8 t)
 c_LETTERS:∃ t,mg "LETTERS" = some (.str "abcdefghijklmnopqrstuvwxyz" t)
 c_MOST_FIGURES:∃ t,mg "MOST_FIGURES" = some (.int 30 t)
 b_zip:mg "zip" = none
 b_enumerate:mg "enumerate" = none
 b_ValueError:mg "ValueError" = none
 b_set:mg "set" = none
theorem fC {a b:Str}(h:a.cps.toList=b.cps.toList):a=b:=by
 obtain⟨a⟩:=a;obtain⟨b⟩:=b;have h':a.toList=b.toList:=h;have e:a=b:=Array.toList_inj.mp h';rw[e]
theorem mH:("" : Str)=⟨#[]⟩:=by decide +kernel
def pre (z:Str)(k:Nat):Str:=⟨(z.cps.toList.take k).toArray⟩
theorem jI (z:Str)(k:Nat):Txt.slice z none (some (k:Int))=pre z k:=by
 by_cases h:k≤z.length
 ·have e:=PyProof.Rows.slice_closes_to (x:=z) (j:=(k:Int)) ⟨by omega,by rw[← eB];omega⟩;rw[beq_iff_eq]at e;rw[e];unfold pre;simp
 ·have e:Builtin.Str.strSliceIndices none (some (k:Int)) 1 z.length=(List.range z.length).map fun j:Nat=>(0 + 1 * (j:Int)).toNat:=by
   unfold Builtin.Str.strSliceIndices;dsimp only;unfold sliceRange;have h1:¬ (k:Int) < 0:=by omega
   have h2:max (0:Int) (min (k:Int) (z.length:Int))=(z.length:Int):=by omega
   simp only[show (1:Int) > 0 by decide,if_true,h1,if_false,h2];by_cases h0:(0:Int) < (z.length:Int)
   ·rw[if_pos h0];have e3:(((z.length:Int) - 0 + 1 - 1) / 1).toNat=z.length:=by omega
    rw[e3]
   ·rw[if_neg h0];have e3:z.length=0:=by omega
    rw[e3];rfl
  unfold Txt.slice;rw[e,B_,List.length_range];rw[if_pos (by simp)];refine fC ?_;unfold pre;rw[CU (by rw[← eB];omega)]
theorem wM {z:Str}{n:Nat}(h:z.length≤100)(hn:n≤100):MulOk z (n:Int):=by
 refine⟨?_,fun _ _ =>?_,fun _ _ =>?_⟩
 ·rw[Cg (by omega),Cg (by omega)];rfl
 ·have h1:(2 ^ 63 - 1:Int) / (n:Int) ≥ 100∨n=0:=by
   by_cases h0:n=0
   ·exact .inr h0
   ·refine .inl ?_;have hp:(0:Int) < (n:Int):=by omega
    exact (Int.le_ediv_iff_mul_le hp).mpr (by omega)
  rcases h1 with h1|h1
  ·omega
  ·subst h1;simp at *
 ·have e:z.length * ((n:Int)).toNat≤100 * 100:=Nat.mul_le_mul h (by rw[CL];exact hn);unfold Builtin.Str.tooLong;have hs:sizeLine=16777216:=sizeLine_eq;exact Cg (by omega)
theorem yK (a b:Str):(a++b).length=a.length + b.length:=by
 show (a.cps++b.cps).size=_;rw[Array.size_append];rfl
def rX (a b c d:Tr):Bool:=a.isCol && (decide (a=a) && (decide (b=a) && (decide (c=a) && (decide (d=a) && true))))
def fz (a b c d:Tr):Tr:=if rX a b c d then a else .four a b c d
def q0:Tr→Tr | .col i=>.col i | .four a _ _ _=>a
def q1:Tr→Tr | .col i=>.col i | .four _ b _ _=>b
def q2:Tr→Tr | .col i=>.col i | .four _ _ c _=>c
def q3:Tr→Tr | .col i=>.col i | .four _ _ _ d=>d
theorem qj {a b c d:Tr}:rX a b c d=true↔a.isCol=true∧b=a∧c=a∧d=a:=by
 unfold rX;simp only[Cy,decide_eq_true_eq,and_true,true_and]
theorem vi {a b c d:Tr}{n:Nat}(ha:a.deep≤n)(hb:b.deep≤n)(hc:c.deep≤n)(hd:d.deep≤n):(fz a b c d).deep≤n + 1:=by
 unfold fz
 split
 ·omega
 ·show max a.deep (max b.deep (max c.deep d.deep)) + 1≤n + 1;omega
def fB (H:Hp)(v:V)(n:Int)(t:Tr):Prop:=∃ p x,v=.ref p∧H p=some (.tup [.int n,x])∧bH H x t
theorem fB.up {H H':Hp}{v:V}{n:Int}{t:Tr}(h:fB H v n t)(s:eG H H'):fB H' v n t:=by
 obtain⟨p,x,e,hp,ht⟩:=h;exact⟨p,x,e,s _ _ hp,ht.up s⟩
theorem iR {K:PySem.W.Frag}:PySem.W.kitOne K (.type "int") (.type "tuple")=some false:=by kernel_rfl
def qk (t:Tr):Nat→Tr
 | 0=>q0 t
 | 1=>q1 t
 | 2=>q2 t
 | _=>q3 t
def oN (t:Tr)(d:Nat)(x:Tr):Tr:=fz (if d=0 then x else q0 t) (if d=1 then x else q1 t) (if d=2 then x else q2 t) (if d=3 then x else q3 t)
def jk (t:Tr):List Nat→Tr→Tr
 | [],o=>o
 | d::ds,o=>oN t d (jk (qk t d) ds o)
theorem hZ {t:Tr}{n d:Nat}(h:t.deep≤n + 1):(qk t d).deep≤n:=by
 cases t with
 | col i=>rcases d with _ | _ | _ | d<;>exact Cr _
 | four a b c e =>
  have h':max a.deep (max b.deep (max c.deep e.deep)) + 1≤n + 1:=h;rcases d with _ | _ | _ | d
  ·show a.deep≤n;omega
  ·show b.deep≤n;omega
  ·show c.deep≤n;omega
  ·show e.deep≤n;omega
theorem fv {t:Tr}{n d:Nat}(h:t.deep≤n):(qk t d).deep≤n:=by
 rcases n with _|n
 ·cases t with
  | col i=>rcases d with _ | _ | _ | d<;>exact Cr _
  | four a b c e=>exact absurd h (by show ¬ _ + 1≤0;omega)
 ·exact Nat.le_succ_of_le (hZ h)
theorem uF {t x:Tr}{n d:Nat}(h:t.deep≤n + 1)(hx:x.deep≤n):(oN t d x).deep≤n + 1:=by
 unfold oN;have h0:=hZ (d:=0) h;have h1:=hZ (d:=1) h;have h2:=hZ (d:=2) h;have h3:=hZ (d:=3) h;refine vi ?_ ?_ ?_ ?_<;>split<;>assumption
def bh:Nat→Tr→Prop
 | _,.col i=>0≤i∧i≤35
 | 0,.four ..=>False
 | n + 1,.four a b c d=>bh n a∧bh n b∧bh n c∧bh n d∧rX a b c d=false
theorem bh.deep:∀ {n:Nat} {t:Tr},bh n t→t.deep≤n
 | _,.col i,_=>Cr _
 | 0,.four ..,h=>h.elim
 | n + 1,.four a b c d,⟨ha,hb,hc,hd,_⟩=>by
  have:=ha.deep
  have:=hb.deep
  have:=hc.deep
  have:=hd.deep
  show max a.deep (max b.deep (max c.deep d.deep)) + 1≤n + 1;omega
theorem bh.col {n:Nat}{i:Int}(h:0≤i∧i≤35):bh n (.col i):=by cases n<;>exact h
theorem bh.q {n:Nat}{t:Tr}(h:bh (n + 1) t)(k:Nat):bh n (qk t k):=by
 cases t with
 | col i =>
  have z:bh n (.col i):=bh.col h;rcases k with _ | _ | _ | k<;>exact z
 | four a b c d =>
  obtain⟨ha,hb,hc,hd,_⟩:=h;rcases k with _|_|_|k
  ·exact ha
  ·exact hb
  ·exact hc
  ·exact hd
theorem bh.up {n:Nat}{t:Tr}(h:bh n t):bh (n + 1) t:=by
 induction t generalizing n with
 | col i=>exact bh.col (by cases n<;>exact h)
 | four a b c d ia ib ic id =>
  cases n with
  | zero=>exact h.elim
  | succ n =>
   obtain⟨ha,hb,hc,hd,ho⟩:=h;exact⟨ia ha,ib hb,ic hc,id hd,ho⟩
theorem nV {n:Nat}{a b c d:Tr}(ha:bh n a)(hb:bh n b)(hc:bh n c)(hd:bh n d):bh (n + 1) (fz a b c d):=by
 unfold fz
 split
 ·exact ha.up
 ·rename_i h
  exact⟨ha,hb,hc,hd,by simpa using h⟩
theorem vh {n d:Nat}{t x:Tr}(h:bh (n + 1) t)(hx:bh n x):bh (n + 1) (oN t d x):=by
 unfold oN;have h0:=h.q 0;have h1:=h.q 1;have h2:=h.q 2;have h3:=h.q 3;refine nV ?_ ?_ ?_ ?_<;>split<;>assumption
theorem mE:∀ {n:Nat} {ds:List Nat} {t o:Tr},ds.length≤n→bh n t→bh (n - ds.length) o→bh n (jk t ds o)
 | n,[],t,o,_,_,h=>h
 | 0,d::ds,t,o,hl,_,_=>by simp at hl
 | n + 1,d::ds,t,o,hl,ht,ho=>by
  have hl':ds.length≤n:=by simpa using hl
  refine vh ht (mE hl' (ht.q d) ?_);have e:n + 1 - (d::ds).length=n - ds.length:=by simp
  rw[e]at ho;exact ho
theorem me:∀ (ds:List Nat) (n:Nat) (t o:Tr),t.deep≤n→o.deep + ds.length≤n→(jk t ds o).deep≤n
 | [],n,t,o,_,h=>by show o.deep≤n;simpa using h
 | d::ds,0,t,o,_,h=>by simp at h
 | d::ds,n + 1,t,o,ht,ho=>by
  have ho':o.deep + ds.length≤n:=by simp at ho;omega
  exact uF ht (me ds n (qk t d) o (hZ ht) ho')
section
variable {P:Program}{w:World}{K:PySem.W.Frag}{mg:Str→Option Value}{base:Heap}{CX:CXT}{f:Addr}{fd:FuncData}
theorem at4 {α:Type}{a b c d x:α}{i:Nat}(h:[a,b,c,d][i]? = some x):(i=0∧x=a)∨(i=1∧x=b)∨(i=2∧x=c)∨(i=3∧x=d):=by
 rcases i with _|_|_|_|i
 ·exact .inl ⟨rfl,(Option.some.inj h).symm⟩
 ·exact .inr (.inl ⟨rfl,(Option.some.inj h).symm⟩)
 ·exact .inr (.inr (.inl ⟨rfl,(Option.some.inj h).symm⟩))
 ·exact .inr (.inr (.inr ⟨rfl,(Option.some.inj h).symm⟩))
 ·simp at h
theorem rm {z:Str}:(z=("" : Str))↔z.length=0:=by
 constructor
 ·rintro rfl;decide +kernel
 ·intro h;apply fC
  have e:z.cps.toList=[]:=CB (by rw[← eB];exact h);rw[e];decide +kernel
def rst (z:Str):Str:=⟨(z.cps.toList.drop 1).toArray⟩
theorem jH {z:Str}(h:0 < z.length):Txt.slice z (some 1) none=rst z:=by
 have e:=PyProof.Rows.slice_closes_from (x:=z) (i:=1) ⟨by decide,by rw[← eB];omega⟩;rw[beq_iff_eq]at e;rw[e];unfold rst
 congr 2
 show (z.cps.toList.drop 1).take ((z.cps.toList.length:Int) - 1).toNat=_;rw[CU];rw[CT,← eB];omega
theorem xN (z:Str):(rst z).length=z.length - 1:=by rw[eB,eB];simp[rst]
theorem xO {z:Str}(h:IsC z):IsC (rst z):=fun c hc=>h c (by
 have hc':c∈z.cps.toList.drop 1:=by simpa[rst] using hc
 exact Dl hc')
theorem uf {z:Str}(h:0 < z.length):atI z.cps.toList 0=some (z.cps.getD 0 0):=by
 have hs:0 < z.cps.size:=h;refine dH (j:=0) ?_;simp[CF,hs]
theorem al.none {H H':Hp}{l:Addr}(s:al H H')(h:H' l=none):H l=none:=by
 cases q:H l with
 | none=>rfl
 | some o=>rw[s _ _ q]at h;cases h
theorem vk:dig ("" : Str)=[]:=by decide +kernel
theorem yC {z:Str}(h:0 < z.length):dig z=(z.cps.getD 0 0 - 48)::dig (rst z):=by
 have hs:0 < z.cps.size:=h;have hl:0 < z.cps.toList.length:=by simpa using hs
 have e:z.cps.toList=z.cps.getD 0 0::z.cps.toList.drop 1:=by
  have e1:=CW (l:=z.cps.toList) (i:=0) hl;rw[DI]at e1;have e2:z.cps.getD 0 0=z.cps.toList[0]:=by simp[CF,hs]
  rw[e2];exact e1
 unfold dig rst
 conv=>lhs;rw[e]
 rfl
end
def cnt:Tr→Nat
 | .col _=>1
 | .four a b c d=>cnt a + cnt b + cnt c + cnt d
theorem xq (a b c d:Tr):cnt (fz a b c d)≤cnt a + cnt b + cnt c + cnt d:=by
 unfold fz
 split
 ·omega
 ·exact B7 _
theorem Bt {t:Tr}:cnt (q0 t) + cnt (q1 t) + cnt (q2 t) + cnt (q3 t)≤cnt t + 3:=by
 cases t with
 | col i=>show 1 + 1 + 1 + 1≤1 + 3;decide
 | four a b c d=>show cnt a + cnt b + cnt c + cnt d≤cnt a + cnt b + cnt c + cnt d + 3;omega
theorem xp {t x:Tr}{d:Nat}(hd:d < 4):cnt (oN t d x) + cnt (qk t d)≤cnt t + 3 + cnt x:=by
 unfold oN;have h:=xq (if d=0 then x else q0 t) (if d=1 then x else q1 t) (if d=2 then x else q2 t) (if d=3 then x else q3 t);have h2:=Bt (t:=t);generalize fz (if d=0 then x else q0 t) (if d=1 then x else q1 t) (if d=2 then x else q2 t) (if d=3 then x else q3 t)=g at *;rcases d with _ | _ | _ | _ | d
 ·have h':cnt g≤cnt x + cnt (q1 t) + cnt (q2 t) + cnt (q3 t):=h;show cnt g + cnt (q0 t)≤_;omega
 ·have h':cnt g≤cnt (q0 t) + cnt x + cnt (q2 t) + cnt (q3 t):=h;show cnt g + cnt (q1 t)≤_;omega
 ·have h':cnt g≤cnt (q0 t) + cnt (q1 t) + cnt x + cnt (q3 t):=h;show cnt g + cnt (q2 t)≤_;omega
 ·have h':cnt g≤cnt (q0 t) + cnt (q1 t) + cnt (q2 t) + cnt x:=h;show cnt g + cnt (q3 t)≤_;omega
 ·omega
theorem n4:∀ (ds:List Nat) (t o:Tr),(∀ d∈ds,d < 4)→cnt (jk t ds o)≤cnt t + 3 * ds.length + cnt o
 | [],t,o,_=>by show cnt o≤_;omega
 | d::ds,t,o,h=>by
  have h1:=xp (t:=t) (x:=jk (qk t d) ds o) (h d CN);have h2:=n4 ds (qk t d) o fun x hx=>h x (Cp _ hx);show cnt (oN t d (jk (qk t d) ds o))≤_;rw[B5];omega
theorem yy (m:Int):∃ d:Nat,d < 4∧m % 4=(d:Int):=⟨(m % 4).toNat,by omega,by omega⟩
theorem Aj {z:Str}(hz:IsC z):∀ d∈dig z,d < 4:=fun d h=>by
 obtain⟨c,hc,rfl⟩:=DA.mp h
 have:=hz c hc
 omega
def cp (c:Nat):Nat:=if c < 10 then 48 + c else 87 + c
def tx (l:List Nat):Str:=⟨l.toArray⟩
theorem s_ (z:Str):tx z.cps.toList=z:=by unfold tx;simp
theorem br (l:List Nat):(tx l).cps.toList=l:=by unfold tx;simp
theorem aw (l:List Nat):(tx l).length=l.length:=by rw[eB,br]
theorem bo (a b:List Nat):tx a++tx b=tx (a++b):=by
 refine fC ?_;show ((tx a).cps++(tx b).cps).toList=_;rw[Array.toList_append,br,br,br]
theorem oh:∀ ls:List (List Nat),Txt.join ("" : Str) (ls.map tx)=tx ls.flatten:=by
 intro ls;have key:∀ ls:List (List Nat),Str.join ⟨#[]⟩ (ls.map tx)=tx ls.flatten:=by
  intro ls
  induction ls with
  | nil=>rfl
  | cons d r ih =>
   cases r with
   | nil =>
    show tx d=tx (d++[]);rw[CJ]
   | cons e r =>
    show (tx d++⟨#[]⟩++Str.join ⟨#[]⟩ ((e::r).map tx))=_;rw[ih];have e0:(⟨#[]⟩:Str)=tx []:=rfl;rw[e0,bo,bo,CJ];rfl
 rw[mH];show Builtin.Str.glued ⟨#[]⟩ (ls.map tx)=_;rw[StrLaws.glued_eq_join];exact key ls
def wr:Tr→List Nat
 | .col i=>[cp i.toNat]
 | .four a b c d=>43::(wr a++(wr b++(wr c++wr d)))
theorem yx {a b c d:Tr}(h:rX a b c d=false):fz a b c d=.four a b c d:=by
 unfold fz;rw[if_neg (by rw[h];decide)]
theorem gl:∀ t:Tr,(wr t).length + 1≤2 * cnt t
 | .col i=>by show 1 + 1≤2 * 1;decide
 | .four a b c d=>by
  have ha:=gl a;have hb:=gl b;have hc:=gl c;have hd:=gl d;show (wr a++(wr b++(wr c++wr d))).length + 1 + 1≤2 * (cnt a + cnt b + cnt c + cnt d);rw[B3,B3,B3];omega
theorem ur {z:Str}{k c:Nat}(h:z.cps.toList[k]? = some c):Txt.slice z (some (k:Int)) (some ((k:Int) + 1))=tx [c]:=by
 have hk:k < z.cps.toList.length:=(Ck.mp h).1;have e:=PyProof.Rows.slice_closes (x:=z) (i:=(k:Int)) (j:=(k:Int) + 1) ⟨by omega,by omega,by omega⟩;rw[beq_iff_eq]at e;rw[e];have e1:((k:Int) + 1 - (k:Int)).toNat=1:=by omega
 rw[e1,CL];unfold tx
 congr 2
 obtain⟨hi,e2⟩:=Ck.mp h;rw[CW hi,e2];rfl
theorem h9:("+" : Str)=tx [43]:=by decide +kernel
theorem jC:(":" : Str)=tx [58]:=by decide +kernel
theorem wa:("0123456789abcdefghijklmnopqrstuvwxyz" : Str)=tx ((List.range 36).map cp):=by decide +kernel
theorem Br {c:Nat}(h:c < 36):cp c≠43:=by unfold cp;split<;>omega
theorem dO {a b:List Nat}(h:tx a=tx b):a=b:=by
 have:=Cs (fun s:Str=>s.cps.toList) h
 simpa[tx] using this
theorem qA:∀ c,c < 36→Builtin.Str.occurrences ("0123456789abcdefghijklmnopqrstuvwxyz" : Str) (tx [cp c]) 0 ("0123456789abcdefghijklmnopqrstuvwxyz" : Str).length 1=[c]:=by decide +kernel
theorem pJ:∀ c:Nat,c < 36→atI ("0123456789abcdefghijklmnopqrstuvwxyz" : Str).cps.toList (c:Int)=some (cp c):=by decide +kernel
def lv (n:Nat):List Nat:=if n < 10 then [48 + n] else [48 + n / 10,48 + n % 10]
theorem pw:∀ n:Nat,n < 41→(Str.ofString (toString (n:Int)))=tx (lv n):=by decide +kernel
theorem zO:∀ n:Nat,n < 41→intText? (tx (lv n))=some (n:Int):=by decide +kernel
theorem wT:∀ n:Nat,n < 41→∀ c∈lv n,48≤c∧c≤57:=by decide +kernel
theorem sH:∀ n:Nat,n < 41→1≤(lv n).length∧(lv n).length≤2:=by decide +kernel
theorem yq {n:Nat}(h:n < 41):58∉lv n:=fun z=>by
 have:=wT n h 58 z
 omega
theorem fg.up {K:PySem.W.Frag}{H H':Hp}{x:V}{t:Value}(sm:al H H')(h:fg K H x t):fg K H' x t:=by
 cases h with
 | non=>exact .non
 | bl x=>exact .bl x
 | int i=>exact .int i
 | str x=>exact .str x
 | flt x=>exact .flt x
 | lst e=>exact .lst (sm _ _ e)
 | frz e=>exact .frz (sm _ _ e)
 | tup e=>exact .tup (sm _ _ e)
 | dK e=>exact .dK (sm _ _ e)
 | dT e=>exact .dT (sm _ _ e)
 | ins e cl ha hn htk hm=>exact .ins (sm _ _ e) cl ha hn htk hm
def sgI (c:Nat):Option Nat:=if 48≤c∧c≤57 then some (c - 48) else if 97≤c∧c≤122 then some (c - 87) else none
theorem i7 {c d:Nat}(h:sgI c=some d):d < 36∧c=cp d:=by
 unfold sgI at h
 split at h
 ·cases h;refine⟨by omega,?_⟩;unfold cp;rw[if_pos (by omega)];omega
 ·split at h
  ·cases h;refine⟨by omega,?_⟩;unfold cp;rw[if_neg (by omega)];omega
  ·cases h
theorem rz:∀ d:Nat,d < 36→sgI (cp d)=some d:=by decide +kernel
theorem wb {c:Nat}(h:sgI c=none):c∉("0123456789abcdefghijklmnopqrstuvwxyz" : Str).cps.toList:=by
 rw[wa,br];intro hc;obtain⟨d,hd,rfl⟩:=DA.mp hc;rw[rz d (Dz.mp hd)]at h;cases h
theorem xJ {c:Nat}(h:sgI c=none):Builtin.Str.occurrences ("0123456789abcdefghijklmnopqrstuvwxyz" : Str) (tx [c]) 0 ("0123456789abcdefghijklmnopqrstuvwxyz" : Str).length 1=[]:=by
 have f:=PySem.StrLaws.found_one ("0123456789abcdefghijklmnopqrstuvwxyz" : Str) c
 rw[Cg (wb h)]at f;have f':(!(Builtin.Str.occurrences ("0123456789abcdefghijklmnopqrstuvwxyz" : Str) (tx [c]) 0 ("0123456789abcdefghijklmnopqrstuvwxyz" : Str).length 1).isEmpty)=false:=f
 cases e:Builtin.Str.occurrences ("0123456789abcdefghijklmnopqrstuvwxyz" : Str) (tx [c]) 0 ("0123456789abcdefghijklmnopqrstuvwxyz" : Str).length 1 with
 | nil=>rfl
 | cons a r=>rw[e]at f';cases f'
def w_:List Tr→Tr
 | [a,b,c,d]=>fz a b c d
 | _=>.col 0
def rdN (sub:List Nat→Option (Tr × List Nat)):Nat→List Nat→Option (List Tr × List Nat)
 | 0,w=>some ([],w)
 | k + 1,w=>match rdN sub k w with
  | none=>none
  | some (ts,r)=>match sub r with
   | none=>none
   | some (t,r')=>some (ts++[t],r')
def rdH (sub:List Nat→Option (Tr × List Nat)):List Nat→Option (Tr × List Nat)
 | []=>none
 | c::r=>match sgI c with
  | some d=>some (.col (d:Int),r)
  | none=>if c=43 then (match rdN sub 4 r with | none=>none | some (ts,r')=>some (w_ ts,r')) else none
theorem fq (sub:List Nat→Option (Tr × List Nat))(c:Nat)(r:List Nat):rdH sub (c::r)=(match sgI c with | some d=>some (.col (d:Int),r) | none=>if c=43 then (match rdN sub 4 r with | none=>none | some (ts,r')=>some (w_ ts,r')) else none):=rfl
def rdT:Nat→List Nat→Option (Tr × List Nat)
 | 0=>rdH fun _=>none
 | l + 1=>rdH (rdT l)
theorem kX:∀ l,rdT l []=none
 | 0=>rfl
 | _ + 1=>rfl
theorem jg {c d:Nat}(h:sgI c=some d)(r:List Nat):∀ l,rdT l (c::r)=some (.col (d:Int),r)
 | 0=>by show rdH _ (c::r)=_;rw[fq,h]
 | _ + 1=>by show rdH _ (c::r)=_;rw[fq,h]
theorem jY {c:Nat}(h:sgI c=none)(h3:c≠43)(r:List Nat):∀ l,rdT l (c::r)=none
 | 0=>by show rdH _ (c::r)=_;rw[fq,h];exact if_neg h3
 | _ + 1=>by show rdH _ (c::r)=_;rw[fq,h];exact if_neg h3
theorem p7:sgI 43=none:=by decide
theorem ji (sub:List Nat→Option (Tr × List Nat)){k:Nat}{w:List Nat}(h:rdN sub k w=none):∀ j,rdN sub (k + j) w=none
 | 0=>h
 | j + 1=>by
  show (match rdN sub (k + j) w with | none=>none | some (ts,r)=>_)=_;rw[ji sub h j]
theorem nL (r:List Nat):rdT 0 (43::r)=none:=by
 show rdH _ (43::r)=_;rw[fq,p7];have h1:rdN (fun _=>none) 1 r=none:=rfl;have h4:=ji (fun _=>none) h1 3;show (if 43=43 then _ else _)=_;rw[if_pos rfl,h4]
theorem jh (l:Nat)(r:List Nat):rdT (l + 1) (43::r)=(match rdN (rdT l) 4 r with | none=>none | some (ts,r')=>some (w_ ts,r')):=by
 show rdH _ (43::r)=_;rw[fq,p7];exact if_pos rfl
theorem fj (sub:List Nat→Option (Tr × List Nat)){k:Nat}{w r r':List Nat}{ts:List Tr}{t:Tr}(h:rdN sub k w=some (ts,r))(h2:sub r=some (t,r')):rdN sub (k + 1) w=some (ts++[t],r'):=by
 show (match rdN sub k w with | none=>none | some (ts,r)=>_)=_;rw[h];show (match sub r with | none=>none | some (t,r')=>_)=_;rw[h2]
theorem qf (sub:List Nat→Option (Tr × List Nat)){k:Nat}{w r:List Nat}{ts:List Tr}(h:rdN sub k w=some (ts,r))(h2:sub r=none):rdN sub (k + 1) w=none:=by
 show (match rdN sub k w with | none=>none | some (ts,r)=>_)=_;rw[h];show (match sub r with | none=>none | some (t,r')=>_)=_;rw[h2]
theorem oM {sub:List Nat→Option (Tr × List Nat)}{n:Nat}(hs:∀ w t r,sub w=some (t,r)→bh n t∧r <:+ w):∀ (k:Nat) (w:List Nat) (ts:List Tr) (r:List Nat),rdN sub k w=some (ts,r)→(∀ t∈ts,bh n t)∧r <:+ w∧ts.length=k
 | 0,w,ts,r,h=>by
  cases h;exact⟨(fun t ht=>by cases ht),List.suffix_refl _,rfl⟩
 | k + 1,w,ts,r,h=>by
  cases h1:rdN sub k w with
  | none=>rw[ji sub h1 1]at h;cases h
  | some p =>
   obtain⟨ts',r'⟩:=p;obtain⟨g,sf,ln⟩:=oM hs k w ts' r' h1;cases h2:sub r' with
   | none=>rw[qf sub h1 h2]at h;cases h
   | some p =>
    obtain⟨t,r''⟩:=p;rw[fj sub h1 h2]at h;cases h;obtain⟨g2,sf2⟩:=hs _ _ _ h2;refine⟨fun x hx =>?_,sf2.trans sf,by rw[B3,ln];rfl⟩;rcases Cm.mp hx with hx|hx
    ·exact g x hx
    ·rw[CA.mp hx];exact g2
theorem ma:∀ (l:Nat) (w:List Nat) (t:Tr) (r:List Nat),rdT l w=some (t,r)→bh l t∧r <:+ w:=by
 intro l
 induction l with
 | zero =>
  intro w t r h;rcases w with _ | ⟨c,w⟩
  ·rw[kX]at h;cases h
  cases hs:sgI c with
  | some d =>
   rw[jg hs]at h;cases h
   have:=(i7 hs).1
   exact⟨bh.col ⟨by omega,by omega⟩,DB _ _⟩
  | none =>
   by_cases h3:c=43
   ·subst h3;rw[nL]at h;cases h
   ·rw[jY hs h3]at h;cases h
 | succ l ih =>
  intro w t r h;rcases w with _ | ⟨c,w⟩
  ·rw[kX]at h;cases h
  cases hs:sgI c with
  | some d =>
   rw[jg hs]at h;cases h
   have:=(i7 hs).1
   exact⟨bh.col ⟨by omega,by omega⟩,DB _ _⟩
  | none =>
   by_cases h3:c=43
   ·subst h3;rw[jh]at h;cases h4:rdN (rdT l) 4 w with
    | none=>rw[h4]at h;cases h
    | some p =>
     obtain⟨ts,r'⟩:=p;rw[h4]at h;cases h;obtain⟨g,sf,ln⟩:=oM ih 4 w ts r h4;refine⟨?_,sf.trans (DB _ _)⟩
     match ts,ln with
     | [a,b,c,d],_=>exact nV (g a (by simp)) (g b (by simp)) (g c (by simp)) (g d (by simp))
   ·rw[jY hs h3]at h;cases h
theorem zt {r w0:List Nat}(h:r <:+ w0):w0.drop (w0.length - r.length)=r:=(List.suffix_iff_eq_drop.mp h).symm
theorem xE {c:Nat}{r w0:List Nat}(h:c::r <:+ w0):w0[w0.length - (c::r).length]? = some c:=by
 have e:=zt h
 have:(w0.drop (w0.length - (c::r).length))[0]? = some c:=by rw[e];rfl
 simpa using this
theorem v5 {c:Nat}{r w0:List Nat}(h:c::r <:+ w0):w0.length - (c::r).length + 1=w0.length - r.length:=by
 have:=h.length_le
 rw[B5]at this ⊢;omega
def mK (w:List Nat):Option (List Nat × List Nat):=if 58∈w then some (w.takeWhile (fun c=>c != 58),(w.dropWhile (fun c=>c != 58)).drop 1) else none
theorem mI {w a b:List Nat}(h:mK w=some (a,b)):w=a++58::b∧58∉a:=by
 unfold mK at h
 split at h
 ·rename_i hm
  cases h;refine⟨?_,fun hx =>?_⟩
  ·have e:=List.takeWhile_append_dropWhile (p:=fun c=>c != 58) (l:=w);cases hd:w.dropWhile (fun c=>c != 58) with
   | nil =>
    rw[hd,CJ]at e;rw[← e]at hm
    have:=CC.mp List.all_takeWhile _ hm
    simp at this
   | cons c r =>
    have hc:c=58:=by
     have:=List.head_dropWhile_not (p:=fun c=>c != 58) (l:=w) (by rw[hd];simp)
     simp only[hd,List.head_cons]at this;simpa using this
    rw[hd,hc]at e;rw[List.drop_one,List.tail_cons];exact e.symm
  ·have:=CC.mp List.all_takeWhile _ hx
   simp at this
 ·cases h
theorem mJ {w:List Nat}(h:mK w=none):58∉w:=by
 unfold mK at h
 split at h
 ·cases h
 ·assumption
def lvI (w:List Nat):Option Nat:=(List.range 41).find? fun k=>lv k == w
theorem zP:∀ a:Nat,a < 41→∀ b:Nat,b < 41→lv a=lv b→a=b:=by decide +kernel
theorem mz {w:List Nat}{n:Nat}(h:lvI w=some n):n≤40∧w=lv n:=by
 unfold lvI at h;have h1:=List.find?_some h;have h2:=Dz.mp (List.mem_of_find?_eq_some h);exact⟨by omega,(beq_iff_eq.mp h1).symm⟩
theorem wU {n:Nat}(h:n≤40):lvI (lv n)=some n:=by
 cases e:lvI (lv n) with
 | none =>
  unfold lvI at e
  have:=DH.mp e n (Dz.mpr (by omega))
  simp at this
 | some k =>
  obtain⟨h1,h2⟩:=mz e;rw[zP n (by omega) k (by omega) h2]
def rdS (w:List Nat):Option (Nat × Tr):=match mK w with
 | none=>none
 | some (a,b)=>match lvI a with
  | none=>none
  | some n=>match rdT n b with
   | some (t,[])=>some (n,t)
   | _=>none
theorem yJ {w:List Nat}{i:Nat}:PySem.StrLaws.At (tx w) (tx [58]) (tx w).length i↔w[i]? = some 58:=by
 have l1:(tx [58]).length=1:=aw _;unfold PySem.StrLaws.At;rw[PySem.StrLaws.subAt_eq,br,br,l1,aw,beq_iff_eq];constructor
 ·rintro⟨h1,h2⟩;cases hd:w.drop i with
  | nil=>rw[hd]at h2;cases h2
  | cons e r =>
   rw[hd]at h2;have e1:e=58:=by simpa using h2
   have e2:w[i]? = (w.drop i)[0]? := by simp
   rw[e2,hd,e1];rfl
 ·intro h;obtain⟨hi,e⟩:=Ck.mp h;refine⟨by omega,?_⟩;rw[CW hi,e];rfl
theorem zL {w:List Nat}(h:58∉w):Builtin.Str.occurrences (tx w) (tx [58]) 0 (tx w).length 1=[]:=by
 rcases PySem.StrLaws.occ_head (tx w) (tx [58]) 1 (B7 _) with⟨e,_⟩|⟨i,r,_,ha,_⟩
 ·exact e
 ·exact absurd (Cw (yJ.mp ha)) h
theorem yj {a b:List Nat}(h:58∉a):∃ r,Builtin.Str.occurrences (tx (a++58::b)) (tx [58]) 0 (tx (a++58::b)).length 1=a.length::r:=by
 have here:(a++58::b)[a.length]? = some 58:=by simp
 rcases PySem.StrLaws.occ_head (tx (a++58::b)) (tx [58]) 1 (B7 _) with⟨_,no⟩|⟨i,r,e,ha,hb⟩
 ·exact absurd (yJ.mpr here) (no a.length)
 ·have gi:=yJ.mp ha;have h1:¬ i < a.length:=fun hi=>by
   rw[Cz hi]at gi;exact h (Cw gi)
  have h2:¬ a.length < i:=fun hi=>hb a.length hi (yJ.mpr here);have ei:i=a.length:=by omega
  subst ei;exact⟨r,e⟩
theorem x_ {w:List Nat}(h:58∉w):Txt.partition (tx w) (":" : Str)=(tx w,tx [],tx []):=by
 rw[jC];unfold Txt.partition;rw[zL h];rfl
theorem wE {a b:List Nat}(h:58∉a):Txt.partition (tx (a++58::b)) (":" : Str)=(tx a,tx [58],tx b):=by
 rw[jC];obtain⟨r,e⟩:=yj (b:=b) h;have l1:(tx [58]).length=1:=aw _;unfold Txt.partition;rw[e];show (Builtin.Str.strSub _ 0 a.length,tx [58],Builtin.Str.strSub _ (a.length + (tx [58]).length) _)=_;have e1:Builtin.Str.strSub (tx (a++58::b)) 0 a.length=tx a:=by
  refine fC ?_;rw[PySem.StrLaws.strSub_toList,br,br,DI,Nat.sub_zero];simp
 have e2:Builtin.Str.strSub (tx (a++58::b)) (a.length + (tx [58]).length) (tx (a++58::b)).length=tx b:=by
  refine fC ?_;rw[PySem.StrLaws.strSub_toList,br,br,aw,l1];have e3:(a++58::b).drop (a.length + 1)=b:=by
   rw[show a++58::b=(a++[58])++b by simp];exact List.drop_left' (by simp)
  rw[e3];exact CU (by simp;omega)
 rw[e1,e2]
theorem ut (w:List Nat):Txt.slice (tx w) (some ((w.length:Nat):Int)) (some (((w.length:Nat):Int) + 1))=tx []:=by
 have e:Builtin.Str.strSliceIndices (some ((w.length:Nat):Int)) (some (((w.length:Nat):Int) + 1)) 1 (tx w).length=[]:=by
  rw[aw];unfold Builtin.Str.strSliceIndices;dsimp only;unfold sliceRange;have h1:¬ ((w.length:Nat):Int) < 0:=by omega
  have h3:¬ ((w.length:Nat):Int) + 1 < 0:=by omega
  have h2:max (0:Int) (min ((w.length:Nat):Int) ((w.length:Nat):Int))=((w.length:Nat):Int):=by omega
  have h4:max (0:Int) (min (((w.length:Nat):Int) + 1) ((w.length:Nat):Int))=((w.length:Nat):Int):=by omega
  simp only[show (1:Int) > 0 by decide,if_true,h1,h3,if_false,h2,h4];rw[if_neg (by omega)]
  first | rfl | simp
 unfold Txt.slice;rw[e];refine fC ?_;rw[br];by_cases h0:w.length=0
 ·have:w=[]:=List.length_eq_zero_iff.mp h0
  subst this;decide +kernel
 ·first | rw[if_neg (by simp[aw];omega)] | skip
  first | rfl | simp
def glu:List (List Nat)→List Nat
 | []=>[]
 | [w]=>w
 | w::v::r=>w++32::glu (v::r)
theorem jz (w:List Nat){r:List (List Nat)}(h:r≠[]):glu (w::r)=w++32::glu r:=by
 cases r with
 | nil=>exact absurd rfl h
 | cons v r=>rfl
theorem jE:(" " : Str)=tx [32]:=by decide +kernel
theorem mD:∀ ws:List (List Nat),Str.join (tx [32]) (ws.map tx)=tx (glu ws)
 | []=>rfl
 | [w]=>rfl
 | w::v::r=>by
  show tx w++tx [32]++Str.join (tx [32]) ((v::r).map tx)=_;rw[mD (v::r),bo,bo,Dk];rfl
theorem Ac (ws:List (List Nat)):Txt.join (" " : Str) (ws.map tx)=tx (glu ws):=by
 rw[jE];show Builtin.Str.glued _ _=_;rw[StrLaws.glued_eq_join];exact mD ws
theorem qQ {a b x y:List Nat}{g:Nat}(ha:g∉a)(hb:g∉b)(h:a++g::x=b++g::y):a=b∧x=y:=by
 induction a generalizing b with
 | nil =>
  cases b with
  | nil=>exact⟨rfl,by simpa using h⟩
  | cons c b =>
   have:g=c:=by simpa using (List.cons.inj h).1
   exact absurd (by simp[this]) hb
 | cons c a ih =>
  cases b with
  | nil =>
   have:c=g:=by simpa using (List.cons.inj h).1
   exact absurd (by simp[this]) ha
  | cons d b =>
   obtain⟨e,h⟩:=List.cons.inj h;obtain⟨h1,h2⟩:=ih (b:=b) (fun z=>ha (Cp _ z)) (fun z=>hb (Cp _ z)) h;exact⟨by rw[e,h1],h2⟩
theorem qI:∀ ws us:List (List Nat),ws≠[]→us≠[]→(∀ w∈ws,32∉w)→(∀ w∈us,32∉w)→glu ws=glu us→ws=us
 | [],_,h,_,_,_,_=>absurd rfl h
 | _,[],_,h,_,_,_=>absurd rfl h
 | [w],[u],_,_,_,_,h=>by rw[show w=u from h]
 | [w],u::u'::r,_,_,hw,_,h=>by
  have h':w=u++32::glu (u'::r):=h;exact absurd (by rw[h'];simp) (hw w (by simp))
 | w::w'::r,[u],_,_,_,hu,h=>by
  have h':w++32::glu (w'::r)=u:=h;exact absurd (by rw[← h'];simp) (hu u (by simp))
 | w::w'::r,u::u'::q,_,_,hw,hu,h=>by
  obtain⟨h1,h2⟩:=qQ (hw w (by simp)) (hu u (by simp)) (show w++32::glu (w'::r)=u++32::glu (u'::q) from h);rw[h1,qI (w'::r) (u'::q) (by simp) (by simp) (fun z hz=>hw z (Cp _ hz)) (fun z hz=>hu z (Cp _ hz)) h2]
theorem v6 (x y:Str):Txt.split x y≠[]:=by
 unfold Txt.split
 split
 ·simp
 ·split
  ·simp
  ·intro e
   have:=Cs List.length e
   unfold Builtin.Str.partsBetween at this;simp at this
theorem nB {ws:List (List Nat)}(hn:ws≠[])(hf:∀ w∈ws,32∉w):Txt.split (tx (glu ws)) (" " : Str)=ws.map tx:=by
 have e1:=StrLaws.join_split (tx (glu ws)) (" " : Str)
 have fr:=StrLaws.split_free (tx (glu ws)) 32;have ne:=v6 (tx (glu ws)) (" " : Str)
 rw[jE]at e1 ne ⊢;have fr':∀ p∈Txt.split (tx (glu ws)) (tx [32]),32∉p.cps.toList:=fr;generalize Txt.split (tx (glu ws)) (tx [32])=S at *;have es:(S.map fun z=>z.cps.toList).map tx=S:=by
  rw[C6]
  have:(tx ∘ fun z:Str=>z.cps.toList)=id:=by funext z;exact s_ z
  rw[this,List.map_id]
 rw[← es,mD]at e1;have e2:=qI (S.map fun z=>z.cps.toList) ws (by simpa using ne) hn (fun w hw=>by
  obtain⟨z,hz,rfl⟩:=DA.mp hw;exact fr' z hz) hf (dO e1)
 rw[← es,e2]
theorem tS:∀ ws:List (List Nat),ws.length≤(glu ws).length + 1
 | []=>Cr _
 | [w]=>by simp
 | w::v::r=>by
  have:=tS (v::r)
  show (v::r).length + 1≤(w++32::glu (v::r)).length + 1;rw[B3,B5 (a:=32)];omega
theorem tR:∀ {ws:List (List Nat)} {w:List Nat},w∈ws→w.length≤(glu ws).length
 | [],_,h=>by cases h
 | [w],_,h=>by
  rw[CA.mp h];exact B7 _
 | w::v::r,u,h=>by
  show u.length≤(w++32::glu (v::r)).length;rw[B3,B5];rcases B6.mp h with rfl | h
  ·omega
  ·have:=tR h
   omega
def ce (w:List Nat):Bool:=decide (1≤w.length) && (decide (w.length≤8) && w.all fun c=>decide (97≤c∧c≤122))
theorem cH {w:List Nat}:ce w=true↔1≤w.length∧w.length≤8∧∀ c∈w,97≤c∧c≤122:=by
 unfold ce;simp[Cy,CC]
theorem cZ {w:List Nat}(h:ce w=true):32∉w:=fun z=>by
 have:=(cH.mp h).2.2 32 z
 omega
def mw (m:Nat)(w:List Nat):Bool:=decide (w=[48]) || (decide (1≤w.length) && (decide (w.length≤m) && (decide (w[0]? ≠ some 48) && w.all fun c=>decide (48≤c∧c≤57))))
abbrev ym:=mw 2
def mG (w:List Nat):List Nat:=if w[0]? = some 45 then w.drop 1 else w
def nwB (w:List Nat):Bool:=decide (w≠[45,48]) && mw 30 (mG w)
def vy (w:List Nat):Bool:=decide (w=[45]) || (decide (w≠[]) && (decide (w.length≤40) && w.all fun c=>decide (48≤c∧c≤51)))
def Ao (w:List Nat):List Nat:=if w=[45] then [] else w
def Bs (w:List Nat):Option Nat:=match w with
 | [c]=>sgI c
 | _=>none
def pY (w:List Nat):Bool:=decide (w=[117,112]∨w=[114,105,103,104,116]∨w=[100,111,119,110]∨w=[108,101,102,116])
def dg (m:Nat):List Nat:=(Nat.toDigits 10 m).map Char.toNat
theorem Ak (m:Nat):Str.ofString (toString ((m:Nat):Int))=tx (dg m):=by
 refine fC ?_;rw[PySem.W.KIN.signs_num,br];rfl
theorem dgc:∀ d:Nat,d < 10→(Nat.digitChar d).toNat=48 + d:=by decide
theorem qP {m:Nat}(h:m < 10):dg m=[48 + m]:=by
 unfold dg;rw[Nat.toDigits_of_lt_base h];show [(Nat.digitChar m).toNat]=_;rw[dgc m h]
theorem An {m:Nat}(h:10≤m):dg m=dg (m / 10)++[48 + m % 10]:=by
 have hm:m % 10 < 10:=Nat.mod_lt m (by decide);have t:Nat.toDigits 10 (m / 10)++Nat.toDigits 10 (m % 10)=Nat.toDigits 10 (10 * (m / 10) + m % 10):=Nat.toDigits_append_toDigits (by decide) (by omega) hm;rw[Nat.div_add_mod]at t;unfold dg;rw[← t,CD,Nat.toDigits_of_lt_base hm];show _++[(Nat.digitChar (m % 10)).toNat]=_;rw[dgc _ hm]
theorem t_:∀ (k m:Nat),m < 10 ^ (k + 1)→(dg m).length≤k + 1∧1≤(dg m).length∧(∀ c∈dg m,48≤c∧c≤57)∧(m≠0→(dg m)[0]? ≠ some 48)
 | 0,m,h=>by
  have h':m < 10:=h;rw[qP h'];refine⟨B7 _,B7 _,fun c hc =>?_,fun hm =>?_⟩
  ·rw[CA.mp hc];omega
  ·intro e
   have:48 + m=48:=by simpa using e
   omega
 | k + 1,m,h=>by
  by_cases h':m < 10
  ·rw[qP h'];refine⟨by simp,B7 _,fun c hc =>?_,fun hm =>?_⟩
   ·rw[CA.mp hc];omega
   ·intro e
    have:48 + m=48:=by simpa using e
    omega
  ·obtain⟨h1,h2,h3,h4⟩:=t_ k (m / 10) (by rw[Nat.pow_succ]at h;omega);rw[An (by omega)];refine⟨by rw[B3];show _ + 1≤_;omega,by rw[B3];omega,fun c hc =>?_,fun _ =>?_⟩
   ·rcases Cm.mp hc with hc|hc
    ·exact h3 c hc
    ·rw[CA.mp hc]
     have:=Nat.mod_lt m (show 0 < 10 by decide)
     omega
   ·rw[Cz (by omega)];exact h4 (by omega)
theorem Am {m:Nat}(h:m < 10 ^ 30):intText? (tx (dg m))=some (m:Int):=by
 obtain⟨h1,h2,h3,_⟩:=t_ 29 m h;have e:=PySem.intText_digits (x:=tx (dg m)) (by rw[br];exact h3) (by rw[br];intro z;rw[z]at h2;exact absurd h2 (by decide)) (by rw[aw];omega);rw[br]at e;rw[e]
 have:=PySem.W.KIN.val_back m
 show some ((NumText.digitsVal (dg m):Nat):Int)=_;rw[show NumText.digitsVal (dg m)=m from this]
theorem Al {m:Nat}(h:m < 10 ^ 30):nwB (dg m)=true:=by
 obtain⟨h1,h2,h3,h4⟩:=t_ 29 m h;have n45:(dg m)[0]? ≠ some 45:=fun e=>by
  have:=h3 45 (Cw e)
  omega
 unfold nwB mG;rw[if_neg n45,Cy];refine⟨B8 fun e=>by rw[e]at n45;exact n45 rfl,?_⟩;unfold mw;by_cases hm:m=0
 ·rw[hm];decide
 ·rw[DQ];refine .inr ?_;rw[B8 h2,B8 (show (dg m).length≤30 by omega),B8 (h4 hm),CS,CS,CS,CC];exact fun c hc=>B8 (h3 c hc)
set_option genInjectivity false in
structure Yx (K:PySem.W.Frag)(mg:Str→Option Value) where
 c_NoLevel:Addr
 c_NoCode:Addr
 c_NoColour:Addr
 c_NoPlace:Addr
 c_NoSide:Addr
 c_NoLeaf:Addr
 c_Twice:Addr
 c_Gap:Addr
 c_NoText:Addr
 c_NoName:Addr
 c_NoNumber:Addr
 c_NoRow:Addr
 c_SheetError:Addr
 m_NoLevel:mg "NoLevel" = some (.ref c_NoLevel)
 m_NoCode:mg "NoCode" = some (.ref c_NoCode)
 m_NoColour:mg "NoColour" = some (.ref c_NoColour)
 m_NoPlace:mg "NoPlace" = some (.ref c_NoPlace)
 m_NoSide:mg "NoSide" = some (.ref c_NoSide)
 m_NoLeaf:mg "NoLeaf" = some (.ref c_NoLeaf)
 m_Twice:mg "Twice" = some (.ref c_Twice)
 m_Gap:mg "Gap" = some (.ref c_Gap)
 m_NoText:mg "NoText" = some (.ref c_NoText)
 m_NoName:mg "NoName" = some (.ref c_NoName)
 m_NoNumber:mg "NoNumber" = some (.ref c_NoNumber)
 m_NoRow:mg "NoRow" = some (.ref c_NoRow)
 m_SheetError:mg "SheetError" = some (.ref c_SheetError)
 x_NoLevel:mO K mg "NoLevel" c_NoLevel
 k_NoLevel:jG K c_NoLevel
 s_NoLevel:PySem.W.exmOne K (.ref c_NoLevel) (.ref c_SheetError)=some true
 v_NoLevel:PySem.W.kitOne K (.ref c_NoLevel) (.type "ValueError")=some true
 t_NoLevel_NoCode:PySem.W.kitOne K (.ref c_NoLevel) (.ref c_NoCode)=some false
 t_NoLevel_NoColour:PySem.W.kitOne K (.ref c_NoLevel) (.ref c_NoColour)=some false
 t_NoLevel_NoPlace:PySem.W.kitOne K (.ref c_NoLevel) (.ref c_NoPlace)=some false
 t_NoLevel_NoSide:PySem.W.kitOne K (.ref c_NoLevel) (.ref c_NoSide)=some false
 t_NoLevel_NoLeaf:PySem.W.kitOne K (.ref c_NoLevel) (.ref c_NoLeaf)=some false
 t_NoLevel_Twice:PySem.W.kitOne K (.ref c_NoLevel) (.ref c_Twice)=some false
 t_NoLevel_Gap:PySem.W.kitOne K (.ref c_NoLevel) (.ref c_Gap)=some false
 t_NoLevel_NoText:PySem.W.kitOne K (.ref c_NoLevel) (.ref c_NoText)=some false
 t_NoLevel_NoName:PySem.W.kitOne K (.ref c_NoLevel) (.ref c_NoName)=some false
 t_NoLevel_NoNumber:PySem.W.kitOne K (.ref c_NoLevel) (.ref c_NoNumber)=some false
 t_NoLevel_NoRow:PySem.W.kitOne K (.ref c_NoLevel) (.ref c_NoRow)=some false
 x_NoCode:mO K mg "NoCode" c_NoCode
 k_NoCode:jG K c_NoCode
 s_NoCode:PySem.W.exmOne K (.ref c_NoCode) (.ref c_SheetError)=some true
 v_NoCode:PySem.W.kitOne K (.ref c_NoCode) (.type "ValueError")=some true
 t_NoCode_NoLevel:PySem.W.kitOne K (.ref c_NoCode) (.ref c_NoLevel)=some false
 t_NoCode_NoColour:PySem.W.kitOne K (.ref c_NoCode) (.ref c_NoColour)=some false
 t_NoCode_NoPlace:PySem.W.kitOne K (.ref c_NoCode) (.ref c_NoPlace)=some false
 t_NoCode_NoSide:PySem.W.kitOne K (.ref c_NoCode) (.ref c_NoSide)=some false
 t_NoCode_NoLeaf:PySem.W.kitOne K (.ref c_NoCode) (.ref c_NoLeaf)=some false
 t_NoCode_Twice:PySem.W.kitOne K (.ref c_NoCode) (.ref c_Twice)=some false
 t_NoCode_Gap:PySem.W.kitOne K (.ref c_NoCode) (.ref c_Gap)=some false
 t_NoCode_NoText:PySem.W.kitOne K (.ref c_NoCode) (.ref c_NoText)=some false
 t_NoCode_NoName:PySem.W.kitOne K (.ref c_NoCode) (.ref c_NoName)=some false
 t_NoCode_NoNumber:PySem.W.kitOne K (.ref c_NoCode) (.ref c_NoNumber)=some false
 t_NoCode_NoRow:PySem.W.kitOne K (.ref c_NoCode) (.ref c_NoRow)=some false
 x_NoColour:mO K mg "NoColour" c_NoColour
 k_NoColour:jG K c_NoColour
 s_NoColour:PySem.W.exmOne K (.ref c_NoColour) (.ref c_SheetError)=some true
 v_NoColour:PySem.W.kitOne K (.ref c_NoColour) (.type "ValueError")=some true
 t_NoColour_NoLevel:PySem.W.kitOne K (.ref c_NoColour) (.ref c_NoLevel)=some false
 t_NoColour_NoCode:PySem.W.kitOne K (.ref c_NoColour) (.ref c_NoCode)=some false
 t_NoColour_NoPlace:PySem.W.kitOne K (.ref c_NoColour) (.ref c_NoPlace)=some false
 t_NoColour_NoSide:PySem.W.kitOne K (.ref c_NoColour) (.ref c_NoSide)=some false
 t_NoColour_NoLeaf:PySem.W.kitOne K (.ref c_NoColour) (.ref c_NoLeaf)=some false
 t_NoColour_Twice:PySem.W.kitOne K (.ref c_NoColour) (.ref c_Twice)=some false
 t_NoColour_Gap:PySem.W.kitOne K (.ref c_NoColour) (.ref c_Gap)=some false
 t_NoColour_NoText:PySem.W.kitOne K (.ref c_NoColour) (.ref c_NoText)=some false
 t_NoColour_NoName:PySem.W.kitOne K (.ref c_NoColour) (.ref c_NoName)=some false
 t_NoColour_NoNumber:PySem.W.kitOne K (.ref c_NoColour) (.ref c_NoNumber)=some false
 t_NoColour_NoRow:PySem.W.kitOne K (.ref c_NoColour) (.ref c_NoRow)=some false
 x_NoPlace:mO K mg "NoPlace" c_NoPlace
 k_NoPlace:jG K c_NoPlace
 s_NoPlace:PySem.W.exmOne K (.ref c_NoPlace) (.ref c_SheetError)=some true
 v_NoPlace:PySem.W.kitOne K (.ref c_NoPlace) (.type "ValueError")=some true
 t_NoPlace_NoLevel:PySem.W.kitOne K (.ref c_NoPlace) (.ref c_NoLevel)=some false
 t_NoPlace_NoCode:PySem.W.kitOne K (.ref c_NoPlace) (.ref c_NoCode)=some false
 t_NoPlace_NoColour:PySem.W.kitOne K (.ref c_NoPlace) (.ref c_NoColour)=some false
 t_NoPlace_NoSide:PySem.W.kitOne K (.ref c_NoPlace) (.ref c_NoSide)=some false
 t_NoPlace_NoLeaf:PySem.W.kitOne K (.ref c_NoPlace) (.ref c_NoLeaf)=some false
 t_NoPlace_Twice:PySem.W.kitOne K (.ref c_NoPlace) (.ref c_Twice)=some false
 t_NoPlace_Gap:PySem.W.kitOne K (.ref c_NoPlace) (.ref c_Gap)=some false
 t_NoPlace_NoText:PySem.W.kitOne K (.ref c_NoPlace) (.ref c_NoText)=some false
 t_NoPlace_NoName:PySem.W.kitOne K (.ref c_NoPlace) (.ref c_NoName)=some false
 t_NoPlace_NoNumber:PySem.W.kitOne K (.ref c_NoPlace) (.ref c_NoNumber)=some false
 t_NoPlace_NoRow:PySem.W.kitOne K (.ref c_NoPlace) (.ref c_NoRow)=some false
 x_NoSide:mO K mg "NoSide" c_NoSide
 k_NoSide:jG K c_NoSide
 s_NoSide:PySem.W.exmOne K (.ref c_NoSide) (.ref c_SheetError)=some true
 v_NoSide:PySem.W.kitOne K (.ref c_NoSide) (.type "ValueError")=some true
 t_NoSide_NoLevel:PySem.W.kitOne K (.ref c_NoSide) (.ref c_NoLevel)=some false
 t_NoSide_NoCode:PySem.W.kitOne K (.ref c_NoSide) (.ref c_NoCode)=some false
 t_NoSide_NoColour:PySem.W.kitOne K (.ref c_NoSide) (.ref c_NoColour)=some false
 t_NoSide_NoPlace:PySem.W.kitOne K (.ref c_NoSide) (.ref c_NoPlace)=some false
 t_NoSide_NoLeaf:PySem.W.kitOne K (.ref c_NoSide) (.ref c_NoLeaf)=some false
 t_NoSide_Twice:PySem.W.kitOne K (.ref c_NoSide) (.ref c_Twice)=some false
 t_NoSide_Gap:PySem.W.kitOne K (.ref c_NoSide) (.ref c_Gap)=some false
 t_NoSide_NoText:PySem.W.kitOne K (.ref c_NoSide) (.ref c_NoText)=some false
 t_NoSide_NoName:PySem.W.kitOne K (.ref c_NoSide) (.ref c_NoName)=some false
 t_NoSide_NoNumber:PySem.W.kitOne K (.ref c_NoSide) (.ref c_NoNumber)=some false
 t_NoSide_NoRow:PySem.W.kitOne K (.ref c_NoSide) (.ref c_NoRow)=some false
 x_NoLeaf:mO K mg "NoLeaf" c_NoLeaf
 k_NoLeaf:jG K c_NoLeaf
 s_NoLeaf:PySem.W.exmOne K (.ref c_NoLeaf) (.ref c_SheetError)=some true
 v_NoLeaf:PySem.W.kitOne K (.ref c_NoLeaf) (.type "ValueError")=some true
 t_NoLeaf_NoLevel:PySem.W.kitOne K (.ref c_NoLeaf) (.ref c_NoLevel)=some false
 t_NoLeaf_NoCode:PySem.W.kitOne K (.ref c_NoLeaf) (.ref c_NoCode)=some false
 t_NoLeaf_NoColour:PySem.W.kitOne K (.ref c_NoLeaf) (.ref c_NoColour)=some false
 t_NoLeaf_NoPlace:PySem.W.kitOne K (.ref c_NoLeaf) (.ref c_NoPlace)=some false
 t_NoLeaf_NoSide:PySem.W.kitOne K (.ref c_NoLeaf) (.ref c_NoSide)=some false
 t_NoLeaf_Twice:PySem.W.kitOne K (.ref c_NoLeaf) (.ref c_Twice)=some false
 t_NoLeaf_Gap:PySem.W.kitOne K (.ref c_NoLeaf) (.ref c_Gap)=some false
 t_NoLeaf_NoText:PySem.W.kitOne K (.ref c_NoLeaf) (.ref c_NoText)=some false
 t_NoLeaf_NoName:PySem.W.kitOne K (.ref c_NoLeaf) (.ref c_NoName)=some false
 t_NoLeaf_NoNumber:PySem.W.kitOne K (.ref c_NoLeaf) (.ref c_NoNumber)=some false
 t_NoLeaf_NoRow:PySem.W.kitOne K (.ref c_NoLeaf) (.ref c_NoRow)=some false
 x_NoText:mO K mg "NoText" c_NoText
 k_NoText:jG K c_NoText
 s_NoText:PySem.W.exmOne K (.ref c_NoText) (.ref c_SheetError)=some true
 v_NoText:PySem.W.kitOne K (.ref c_NoText) (.type "ValueError")=some true
 t_NoText_NoLevel:PySem.W.kitOne K (.ref c_NoText) (.ref c_NoLevel)=some false
 t_NoText_NoCode:PySem.W.kitOne K (.ref c_NoText) (.ref c_NoCode)=some false
 t_NoText_NoColour:PySem.W.kitOne K (.ref c_NoText) (.ref c_NoColour)=some false
 t_NoText_NoPlace:PySem.W.kitOne K (.ref c_NoText) (.ref c_NoPlace)=some false
 t_NoText_NoSide:PySem.W.kitOne K (.ref c_NoText) (.ref c_NoSide)=some false
 t_NoText_NoLeaf:PySem.W.kitOne K (.ref c_NoText) (.ref c_NoLeaf)=some false
 t_NoText_Twice:PySem.W.kitOne K (.ref c_NoText) (.ref c_Twice)=some false
 t_NoText_Gap:PySem.W.kitOne K (.ref c_NoText) (.ref c_Gap)=some false
 t_NoText_NoName:PySem.W.kitOne K (.ref c_NoText) (.ref c_NoName)=some false
 t_NoText_NoNumber:PySem.W.kitOne K (.ref c_NoText) (.ref c_NoNumber)=some false
 t_NoText_NoRow:PySem.W.kitOne K (.ref c_NoText) (.ref c_NoRow)=some false
 x_NoName:mO K mg "NoName" c_NoName
 k_NoName:jG K c_NoName
 s_NoName:PySem.W.exmOne K (.ref c_NoName) (.ref c_SheetError)=some true
 v_NoName:PySem.W.kitOne K (.ref c_NoName) (.type "ValueError")=some true
 t_NoName_NoLevel:PySem.W.kitOne K (.ref c_NoName) (.ref c_NoLevel)=some false
 t_NoName_NoCode:PySem.W.kitOne K (.ref c_NoName) (.ref c_NoCode)=some false
 t_NoName_NoColour:PySem.W.kitOne K (.ref c_NoName) (.ref c_NoColour)=some false
 t_NoName_NoPlace:PySem.W.kitOne K (.ref c_NoName) (.ref c_NoPlace)=some false
 t_NoName_NoSide:PySem.W.kitOne K (.ref c_NoName) (.ref c_NoSide)=some false
 t_NoName_NoLeaf:PySem.W.kitOne K (.ref c_NoName) (.ref c_NoLeaf)=some false
 t_NoName_Twice:PySem.W.kitOne K (.ref c_NoName) (.ref c_Twice)=some false
 t_NoName_Gap:PySem.W.kitOne K (.ref c_NoName) (.ref c_Gap)=some false
 t_NoName_NoText:PySem.W.kitOne K (.ref c_NoName) (.ref c_NoText)=some false
 t_NoName_NoNumber:PySem.W.kitOne K (.ref c_NoName) (.ref c_NoNumber)=some false
 t_NoName_NoRow:PySem.W.kitOne K (.ref c_NoName) (.ref c_NoRow)=some false
 x_NoNumber:mO K mg "NoNumber" c_NoNumber
 k_NoNumber:jG K c_NoNumber
 s_NoNumber:PySem.W.exmOne K (.ref c_NoNumber) (.ref c_SheetError)=some true
 v_NoNumber:PySem.W.kitOne K (.ref c_NoNumber) (.type "ValueError")=some true
 t_NoNumber_NoLevel:PySem.W.kitOne K (.ref c_NoNumber) (.ref c_NoLevel)=some false
 t_NoNumber_NoCode:PySem.W.kitOne K (.ref c_NoNumber) (.ref c_NoCode)=some false
 t_NoNumber_NoColour:PySem.W.kitOne K (.ref c_NoNumber) (.ref c_NoColour)=some false
 t_NoNumber_NoPlace:PySem.W.kitOne K (.ref c_NoNumber) (.ref c_NoPlace)=some false
 t_NoNumber_NoSide:PySem.W.kitOne K (.ref c_NoNumber) (.ref c_NoSide)=some false
 t_NoNumber_NoLeaf:PySem.W.kitOne K (.ref c_NoNumber) (.ref c_NoLeaf)=some false
 t_NoNumber_Twice:PySem.W.kitOne K (.ref c_NoNumber) (.ref c_Twice)=some false
 t_NoNumber_Gap:PySem.W.kitOne K (.ref c_NoNumber) (.ref c_Gap)=some false
 t_NoNumber_NoText:PySem.W.kitOne K (.ref c_NoNumber) (.ref c_NoText)=some false
 t_NoNumber_NoName:PySem.W.kitOne K (.ref c_NoNumber) (.ref c_NoName)=some false
 t_NoNumber_NoRow:PySem.W.kitOne K (.ref c_NoNumber) (.ref c_NoRow)=some false
 x_NoRow:mO K mg "NoRow" c_NoRow
 k_NoRow:jG K c_NoRow
 s_NoRow:PySem.W.exmOne K (.ref c_NoRow) (.ref c_SheetError)=some true
 v_NoRow:PySem.W.kitOne K (.ref c_NoRow) (.type "ValueError")=some true
 t_NoRow_NoLevel:PySem.W.kitOne K (.ref c_NoRow) (.ref c_NoLevel)=some false
 t_NoRow_NoCode:PySem.W.kitOne K (.ref c_NoRow) (.ref c_NoCode)=some false
 t_NoRow_NoColour:PySem.W.kitOne K (.ref c_NoRow) (.ref c_NoColour)=some false
 t_NoRow_NoPlace:PySem.W.kitOne K (.ref c_NoRow) (.ref c_NoPlace)=some false
 t_NoRow_NoSide:PySem.W.kitOne K (.ref c_NoRow) (.ref c_NoSide)=some false
 t_NoRow_NoLeaf:PySem.W.kitOne K (.ref c_NoRow) (.ref c_NoLeaf)=some false
 t_NoRow_Twice:PySem.W.kitOne K (.ref c_NoRow) (.ref c_Twice)=some false
 t_NoRow_Gap:PySem.W.kitOne K (.ref c_NoRow) (.ref c_Gap)=some false
 t_NoRow_NoText:PySem.W.kitOne K (.ref c_NoRow) (.ref c_NoText)=some false
 t_NoRow_NoName:PySem.W.kitOne K (.ref c_NoRow) (.ref c_NoName)=some false
 t_NoRow_NoNumber:PySem.W.kitOne K (.ref c_NoRow) (.ref c_NoNumber)=some false
theorem cP {K:PySem.W.Frag}{v:Value}:PySem.W.kitOne K v v=some true:=by unfold PySem.W.kitOne;simp
theorem sX {w:List Nat}{Z:Str}{p:Nat→Bool}{H:Hp}{Q:VK}(hz:∀ c,(!(Builtin.Str.occurrences Z (tx [c]) 0 Z.length 1).isEmpty)=p c)(hw:w.length≤40000)(q:∀ D H',al H H'→H' D=some (.lst ((w.map p).map V.bl))→Q (.ref D) H'):
  ff [none] 1 [] (fun x σ H R=>R (σ.set 0 (some x)) H) (fun σ H R=>∃ v,σ[0]? = some (some v)∧∃ i j,v=.str i∧V.str Z=.str j∧R (.bl (!(Builtin.Str.occurrences j i 0 j.length 1).isEmpty)) H) Q (Itg (tx w).length fun i=>.str (sgn (tx w) i)) H:=by
 have lw:=aw w;refine vx (fun D (j:Nat) ys H'=>al H H'∧H' D=some (.lst ys)∧j≤w.length∧ys=((w.map p).take j).map V.bl) (Cq (show _≤40000 by omega) (by decide)) (fun D j ys H' h=>⟨h.2.1,by rw[h.2.2.2];simp;omega⟩) (fun D hD=>⟨al.new hD _,aj,Cr _,rfl⟩) ?_ ?_ (fun _ _ _ _ _ k h=>k _ _ h) ?_
 ·rintro D j ys H' hj hD ⟨b1,b2,b3,b4⟩;have hj':j < w.length:=by omega
  obtain⟨cj,hcj⟩:∃ cj,w[j]? = some cj:=⟨_,Cf hj'⟩;have ej:sgn (tx w) j=tx [cj]:=by
   unfold sgn tx
   have:w.toArray.getD j 0=cj:=by simp[CF,hcj]
   rw[this]
  refine⟨rfl,_,rfl,_,_,rfl,rfl,b2,al.set b1 hD _,aj,hj',?_⟩;rw[ej,hz cj,Dj,CK,hcj,b4,CD];rfl
 ·rintro D ys H' hD ⟨b1,b2,b3,b4⟩;rw[CU (by rw[B_];omega)]at b4;exact q D H' b1 (by rw[b2,b4])
 ·rintro σ H' R R' k ⟨a1,e1,a2,a3,e2,e3,h⟩;exact⟨a1,e1,a2,a3,e2,e3,k _ _ h⟩
theorem qH {Z:Str}{l:List Nat}{p:Nat→Bool}(e:Z.cps.toList=l)(h:∀ c,decide (c∈l)=p c)(c:Nat):(!(Builtin.Str.occurrences Z (tx [c]) 0 Z.length 1).isEmpty)=p c:=by
 have f:=PySem.StrLaws.found_one Z c;rw[e,h]at f;exact f
theorem yu (c:Nat):(!(Builtin.Str.occurrences ("0123" : Str) (tx [c]) 0 ("0123" : Str).length 1).isEmpty)=decide (48≤c∧c≤51) :=
 qH (Z := "0123") (p:=fun c=>decide (48≤c∧c≤51)) (l:=[48,49,50,51]) (by decide +kernel) (fun c=>by
  rw[decide_eq_decide];simp only[B6,Cc,or_false];omega) c
theorem sO (c:Nat):(!(Builtin.Str.occurrences ("abcdefghijklmnopqrstuvwxyz" : Str) (tx [c]) 0 ("abcdefghijklmnopqrstuvwxyz" : Str).length 1).isEmpty)=decide (97≤c∧c≤122) :=
 qH (Z := "abcdefghijklmnopqrstuvwxyz") (p:=fun c=>decide (97≤c∧c≤122)) (l:=(List.range 26).map (97 + ·)) (by decide +kernel) (fun c=>by
  rw[decide_eq_decide];simp only[DA,Dz];exact⟨fun⟨a,h1,h2⟩=>by omega,fun h=>⟨c - 97,by omega,by omega⟩⟩) c
def icB (w:List Nat):Bool:=decide (w.length≤40) && w.all fun c=>decide (48≤c∧c≤51)
theorem yZ {c A R:Prop}[Decidable c](h:¬ c)(r:A):if (!decide c)=true then A else R:=by rw[Cg h];exact r
theorem ba {c A R:Prop}[Decidable c](h:¬ c)(r:R):if decide c=true then A else R:=by rw[Cg h];exact r
section
variable {P:Program}{w:World}{K:PySem.W.Frag}{mg:Str→Option Value}{base:Heap}{CX:CXT}{f:Addr}{fd:FuncData}
abbrev iK:Stmt:=top 20
theorem qc:ap ["thing"] ["thing"] (ai iK):=⟨rfl,rfl,rfl,by decide +kernel,rfl,by decide +kernel,by decide +kernel⟩
def dJ:Sp:=fun vs H Q _=>∃ i,vs=[.int i]∧Q (.bl true) H
theorem qx (T:Tx K mg)(F:aN K "is_whole" "is_whole" iK f fd .none):aO P w K mg base CX 1 f fd ["thing"] dJ:=by
 refine F.ok qc (fun vs H Q E h =>?_) (fun cdv A outer s H vs Q E hr h =>?_)
 ·obtain⟨x,rfl,_⟩:=h;rfl
 obtain⟨i,rfl,q⟩:=h;refine⟨_,(ag (av (mj (ax (bN "int") rfl T.b_isinstance ay (aa (pv 0) (aa (de T.b_int gY) af))) (oQ (wo (ax (bN "bool") rfl T.b_isinstance ay (aa (pv 0) (aa (de T.b_bool yG) af)))))))),?_⟩
 refine⟨_,rfl,_,_,_,rfl,.int i,zX,_,rfl,cD ?_⟩;exact⟨_,rfl,_,_,_,rfl,.int i,zY,_,rfl,q⟩
abbrev iL:Stmt:=top 21
theorem qd:ap ["thing"] ["thing"] (ai iL):=⟨rfl,rfl,rfl,by decide +kernel,rfl,by decide +kernel,by decide +kernel⟩
def hU (m:Int):Sp:=fun vs H Q _=>∃ i,vs=[.int i]∧(0≤i∧i≤m→Q (.bl true) H)∧(¬ (0≤i∧i≤m)→Q (.bl false) H)
theorem AF {m i:Int}{Q:VK}{H:Hp}(h1:0≤i∧i≤m→Q (.bl true) H)(h2:¬ (0≤i∧i≤m)→Q (.bl false) H)(h0:0≤i):Q (.bl (decide (i≤m))) H:=by
 by_cases h:i≤m
 ·rw[B8 h];exact h1 ⟨h0,h⟩
 ·rw[Cg h];exact h2 fun z=>h z.2
theorem qy (T:Tx K mg)(q:bv CX)(F:aN K "is_level" "is_level" iL f fd .none)(C_is_whole:Fok P w K mg base CX 1 "is_whole" ["thing"] [] dJ):aO P w K mg base CX 2 f fd ["thing"] (hU 40):=by
 refine F.ok qd (fun vs H Q E h =>?_) (fun cdv A outer s H vs Q E hr h =>?_)
 ·obtain⟨x,rfl,_⟩:=h;rfl
 obtain⟨i,rfl,h1,h2⟩:=h;refine⟨_,(ag (av (mj (au C_is_whole q hr (aa (pv 0) af)) (oQ (mh gQ gQ ac (pv 0) (fS T.c_MOST)))))),?_⟩;refine⟨_,rfl,i,rfl,_,rfl,cD ?_⟩;refine⟨_,rfl,_,_,rfl,rfl,_,rfl,bM (fun c =>?_) (fun c =>?_)⟩
 ·exact⟨_,_,rfl,rfl,AF h1 h2 (Cd c)⟩
 ·exact h2 fun z=>c (B8 z.1)
abbrev gM:Stmt:=top 22
theorem oE:ap ["thing"] ["thing"] (ai gM):=⟨rfl,rfl,rfl,by decide +kernel,rfl,by decide +kernel,by decide +kernel⟩
theorem ph (T:Tx K mg)(q:bv CX)(F:aN K "is_colour" "is_colour" gM f fd .none)(C_is_whole:Fok P w K mg base CX 1 "is_whole" ["thing"] [] dJ):aO P w K mg base CX 2 f fd ["thing"] (hU 35):=by
 refine F.ok oE (fun vs H Q E h =>?_) (fun cdv A outer s H vs Q E hr h =>?_)
 ·obtain⟨x,rfl,_⟩:=h;rfl
 obtain⟨i,rfl,h1,h2⟩:=h;refine⟨_,(ag (av (mj (au C_is_whole q hr (aa (pv 0) af)) (oQ (mh gQ gQ ac (pv 0) (fS T.c_LAST_COLOUR)))))),?_⟩;refine⟨_,rfl,i,rfl,_,rfl,cD ?_⟩;refine⟨_,rfl,_,_,rfl,rfl,_,rfl,bM (fun c =>?_) (fun c =>?_)⟩
 ·exact⟨_,_,rfl,rfl,AF h1 h2 (Cd c)⟩
 ·exact h2 fun z=>c (B8 z.1)
abbrev jV:Stmt:=top 24
theorem rK:ap ["thing"] ["thing"] (ai jV):=⟨rfl,rfl,rfl,by decide +kernel,rfl,by decide +kernel,by decide +kernel⟩
def fG:Sp:=fun vs H Q _=>∃ w:List Nat,vs=[.str (tx w)]∧w.length≤40000∧∀ H',al H H'→Q (.bl (icB w)) H'
theorem so (T:Tx K mg)(F:aN K "is_code" "is_code" jV f fd .none):aO P w K mg base CX 1 f fd ["thing"] fG:=by
 refine F.ok rK (fun vs H Q E h =>?_) (fun cdv A outer s H vs Q E hr h =>?_)
 ·obtain⟨x,rfl,_⟩:=h;rfl
 obtain⟨w',rfl,hw,q⟩:=h;refine⟨_,(ae (aV (PW.pt (eu (bP (bz (ax (bN "str") rfl T.b_isinstance ay (aa (pv 0) (aa (de T.b_str eF) af))))) (cV (aB tI (ax bu rfl T.b_len ck (aa (pv 0) af)) (fS T.c_MOST) (aK _))))) (ag (av fw)) aA) (ag (av (ax (jD rfl) rfl T.b_all pI (aa (dM (N':=["sign"]) [] [] [] 1 (by with_unfolding_all rfl) rfl b9 rfl rfl (by decide) rfl (by decide +kernel) rfl (by decide +kernel) rfl (oP (pv 0)) (fun C s0 H0 fp pins=>(aQ (i:=0) (show (["sign"]:List Str).Nodup by decide +kernel) rfl (Or.inl rfl) (Or.inr rfl))) (fun C s0 H0 fp pins=>(fT j6 (pv 0) (fR T.c_QUARTERS) (by with_unfolding_all rfl)))) af))))),?_⟩
 have lw:=aw w';refine⟨_,rfl,_,_,_,rfl,.str _,sM,_,rfl,cA ?_⟩;refine⟨_,rfl,_,_,rfl,⟨Cq (show _≤40000 by omega) (by decide),rfl⟩,_,_,rfl,rfl,_,rfl,bM (fun c =>?_) (fun c =>?_)⟩
 ·have c':(40:Int) < ((tx w').length:Int):=Cd c;have r:=q H (al.refl H);rw[show icB w'=false by unfold icB;rw[Cg (by omega)];rfl]at r;exact r
 ·have c':¬ (40:Int) < ((tx w').length:Int):=fun w=>c (B8 w);refine⟨[],rfl,_,rfl,tx w',rfl,sX yu hw fun D H' s' u'=>⟨D,_,rfl,SqL.of u',?_⟩⟩;have r:=q H' s';unfold icB at r;rw[B8 (show w'.length≤40 by omega),CS]at r;rw[List.all_map];exact r
end
def eQ:List (Key × V):=[(.inr "plain",.str "NEW NUMBER COLOUR"),(.inr "read",.str "NEW TEXT"),(.inr "copy",.str "NEW ONE"),(.inr "drop",.str "ONE"),(.inr "part",.str "NEW ONE CODE"),(.inr "window",.str "NEW ONE NUMBER NUMBER NUMBER COLOUR"),(.inr "over",.str "NEW ONE ONE COLOUR"),(.inr "paint",.str "ONE CODE COLOUR"),(.inr "map",.str "ONE COLOUR COLOUR"),(.inr "turn",.str "ONE"),(.inr "mirror",.str "ONE"),(.inr "swap",.str "ONE"),(.inr "put",.str "ONE CODE ONE"),(.inr "lay",.str "ONE NUMBER NUMBER ONE"),(.inr "finer",.str "ONE NUMBER"),(.inr "coarser",.str "ONE NUMBER"),(.inr "show",.str "ONE"),(.inr "at",.str "ONE NUMBER NUMBER"),(.inr "same",.str "ONE ONE"),(.inr "area",.str "ONE COLOUR"),(.inr "leaves",.str "ONE"),(.inr "beyond",.str "ONE CODE SIDE"),(.inr "lands",.str "ONE"),(.inr "steps",.str "ONE NUMBER NUMBER NUMBER NUMBER"),(.inr "rings",.str "ONE NUMBER NUMBER")]
def Sht (H:Hp)(v:V)(n:Nat):Prop:=∃ t,fB H v (n:Int) t∧bh n t∧n≤40
theorem Sht.up {H H':Hp}{v:V}{n:Nat}(h:Sht H v n)(s:al H H'):Sht H' v n:=let ⟨t,h1,h2⟩:=h;⟨t,h1.up s.tups,h2⟩
structure Ux (P:Program)(w:World)(K:PySem.W.Frag)(mg:Str→Option Value):Prop where
 sides:∃ a,mg "SIDES" = some (.ref a)∧KTu K a [.str "up",.str "right",.str "down",.str "left"]
 forms:∃ a,mg "FORMS" = some (.ref a)∧KD P w K a eQ∧(a == sysModules)=false
theorem xH (w:List Nat):inV (.str (tx w)) [.str "up",.str "right",.str "down",.str "left"]=pY w:=by
 have e:∀ {a:Str} {l:List Nat},a=tx l→(a == tx w)=decide (w=l):=fun {a l} h=>by
  rw[h,Di,beq_iff_eq,DG];exact⟨fun z=>(dO z).symm,fun z=>by rw[z]⟩
 have e1:=e (a := "up") (l:=[117,112]) (by decide +kernel)
 have e2:=e (a := "right") (l:=[114,105,103,104,116]) (by decide +kernel)
 have e3:=e (a := "down") (l:=[100,111,119,110]) (by decide +kernel)
 have e4:=e (a := "left") (l:=[108,101,102,116]) (by decide +kernel)
 unfold pY;rw[DJ,DJ,DJ,← e1,← e2,← e3,← e4];show (_ || (_ || (_ || (_ || false))))=_;rw[Bool.or_false];rfl
section
variable {P:Program}{w:World}{K:PySem.W.Frag}{mg:Str→Option Value}{base:Heap}{CX:CXT}{f:Addr}{fd:FuncData}
abbrev jT:Stmt:=top 23
theorem rJ:ap ["thing"] ["thing"] (ai jT):=⟨rfl,rfl,rfl,by decide +kernel,rfl,by decide +kernel,by decide +kernel⟩
def lK:Sp:=fun vs H Q _=>∃ w,vs=[.str (tx w)]∧Q (.bl (pY w)) H
theorem sj (T:Tx K mg)(U:Ux P w K mg)(F:aN K "is_side" "is_side" jT f fd .none):aO P w K mg base CX 1 f fd ["thing"] lK:=by
 refine F.ok rJ (fun vs H Q E h =>?_) (fun cdv A outer s H vs Q E hr h =>?_)
 ·obtain⟨_,rfl,_⟩:=h;rfl
 obtain⟨z,rfl,q'⟩:=h;obtain⟨aS,g_SIDES,kS⟩:=U.sides;refine⟨_,(ag (av (fT uL (pv 0) (bB (v:=.ref _) rfl g_SIDES rfl) (by with_unfolding_all rfl)))),?_⟩;refine⟨_,rfl,aS,_,rfl,.inr kS.sq,rfl,rfl,?_⟩;show Q (.bl (inV (.str (tx z)) _)) H;rw[xH];exact q'
abbrev gE:Stmt:=top 30
theorem oy:ap ["side"] ["side"] (ai gE):=⟨rfl,rfl,rfl,by decide +kernel,rfl,by decide +kernel,by decide +kernel⟩
def iZ (Y:Yx K mg):Sp:=fun vs H Q E=>∃ w,vs=[.str (tx w)]∧(pY w=true→Q .non H)∧(pY w=false→E (.ref Y.c_NoSide) none H)
theorem oY (T:Tx K mg)(Y:Yx K mg)(q:bv (CXe P w))(F:aN K "need_side" "need_side" gE f fd .none)(C_is_side:Fok P w K mg base (CXe P w) 1 "is_side" ["thing"] [] lK):aO P w K mg base (CXe P w) 2 f fd ["side"] (iZ Y):=by
 refine F.okX oy (fun vs H Q E h =>?_) (fun cdv A outer s H vs Q E hr h =>?_)
 ·obtain⟨_,rfl,_⟩:=h;rfl
 obtain⟨z,rfl,h1,h2⟩:=h;refine⟨_,(ag (aV (bP (bz (au C_is_side q hr (aa (pv 0) af)))) (ag (bf Y.x_NoSide bD ah)) aA)),?_⟩;refine⟨_,rfl,z,rfl,?_⟩;cases e:pY z with
 | true=>exact⟨_,rfl,cA (h1 e)⟩
 | false=>exact⟨_,rfl,cD (h2 e)⟩
abbrev cK:Stmt:=top 25
theorem mZ:ap ["level","least"] ["level","least"] (ai cK):=⟨rfl,rfl,rfl,by decide +kernel,rfl,by decide +kernel,by decide +kernel⟩
def dG (Y:Yx K mg):Sp:=fun vs H Q E=>∃ i:Int,vs=[.int i,.int 0]∧(0≤i∧i≤40→Q .non H)∧(¬ (0≤i∧i≤40)→E (.ref Y.c_NoLevel) none H)
theorem nc {dV:Value}(T:Tx K mg)(Y:Yx K mg)(q:bv (CXe P w))(F:aN K "need_level" "need_level" cK f fd dV)(C_is_level:Fok P w K mg base (CXe P w) 2 "is_level" ["thing"] [] (hU 40)):aO P w K mg base (CXe P w) 3 f fd ["level","least"] (dG Y):=by
 refine F.okX mZ (fun vs H Q E h =>?_) (fun cdv A outer s H vs Q E hr h =>?_)
 ·obtain⟨_,rfl,_⟩:=h;rfl
 obtain⟨i,rfl,h1,h2⟩:=h;refine⟨_,(ag (aV (PW.pt (eu (bP (bz (au C_is_level q hr (aa (pv 0) af)))) (cV (aB qi (pv 0) (pv 1) (aK _))))) (ag (bf Y.x_NoLevel bD ah)) aA)),?_⟩;exact⟨_,rfl,i,rfl,fun c=>⟨_,rfl,cA ⟨_,rfl,_,rfl,_,_,rfl,rfl,_,rfl,ba (show ¬ i < 0 by omega) (h1 c)⟩⟩,fun c=>⟨_,rfl,cD (h2 c)⟩⟩
abbrev cS:Stmt:=top 26
theorem ie:ap ["level"] ["level"] (ai cS):=⟨rfl,rfl,rfl,by decide +kernel,rfl,by decide +kernel,by decide +kernel⟩
def eS (Y:Yx K mg):Sp:=fun vs H Q E=>∃ i:Int,vs=[.int i]∧(0≤i∧i≤6→Q .non H)∧(¬ (0≤i∧i≤6)→E (.ref Y.c_NoLevel) none H)
theorem ij (T:Tx K mg)(Y:Yx K mg)(q:bv (CXe P w))(F:aN K "need_small_level" "need_small_level" cS f fd .none)(C_is_level:Fok P w K mg base (CXe P w) 2 "is_level" ["thing"] [] (hU 40)):aO P w K mg base (CXe P w) 3 f fd ["level"] (eS Y):=by
 refine F.okX ie (fun vs H Q E h =>?_) (fun cdv A outer s H vs Q E hr h =>?_)
 ·obtain⟨_,rfl,_⟩:=h;rfl
 obtain⟨i,rfl,h1,h2⟩:=h;refine⟨_,(ag (aV (PW.pt (eu (bP (bz (au C_is_level q hr (aa (pv 0) af)))) (cV (aB tI (pv 0) (fS T.c_MOST_SMALL) (aK _))))) (ag (bf Y.x_NoLevel bD ah)) aA)),?_⟩;refine⟨_,rfl,i,rfl,fun c=>⟨_,rfl,cA ⟨_,rfl,_,_,rfl,rfl,_,rfl,bM (fun d=>h2 ?_) (fun d=>h1 ?_)⟩⟩,fun c=>⟨_,rfl,cD (h2 fun z=>c ⟨z.1,by omega⟩)⟩⟩
 ·have d':(6:Int) < i:=Cd d;omega
 ·have d':¬ (6:Int) < i:=fun h=>d (B8 h);omega
abbrev cT:Stmt:=top 28
theorem ig:ap ["code","level"] ["code","level"] (ai cT):=⟨rfl,rfl,rfl,by decide +kernel,rfl,by decide +kernel,by decide +kernel⟩
def fE (Y:Yx K mg):Sp:=fun vs H Q E=>∃ (w:List Nat) (n:Nat),vs=[.str (tx w),.int n]∧icB w=true∧(w.length≤n→∀ H',al H H'→Q .non H')∧(¬ w.length≤n→∀ H',al H H'→E (.ref Y.c_NoCode) none H')
theorem tP {w:List Nat}(h:icB w=true):w.length≤40:=Cd (Cy _ _▸h).1
theorem ik (T:Tx K mg)(Y:Yx K mg)(q:bv (CXe P w))(F:aN K "need_code_within" "need_code_within" cT f fd .none)(C_is_code:Fok P w K mg base (CXe P w) 1 "is_code" ["thing"] [] fG):aO P w K mg base (CXe P w) 2 f fd ["code","level"] (fE Y):=by
 refine F.okX ig (fun vs H Q E h =>?_) (fun cdv A outer s H vs Q E hr h =>?_)
 ·obtain⟨_,_,rfl,_⟩:=h;rfl
 obtain⟨w',n,rfl,hc,h1,h2⟩:=h;refine⟨_,(ag (aV (PW.pt (eu (bP (bz (au C_is_code q hr (aa (pv 0) af)))) (cV (aB tI (ax bu rfl T.b_len ck (aa (pv 0) af)) (pv 1) (aK _))))) (ag (bf Y.x_NoCode bD ah)) aA)),?_⟩;have lw:=aw w';have l4:=tP hc;refine⟨_,rfl,w',rfl,by omega,fun H1 s1 =>?_⟩;rw[hc];refine⟨_,rfl,cA ⟨_,rfl,_,_,rfl,⟨a9 (by omega),rfl⟩,_,rfl,_,_,rfl,rfl,_,rfl,bM (fun c=>h2 ?_ H1 s1) (fun c=>h1 ?_ H1 s1)⟩⟩
 ·have c':(n:Int) < ((tx w').length:Int):=Cd c;omega
 ·have c':¬ (n:Int) < ((tx w').length:Int):=fun h=>c (B8 h);omega
abbrev eY:Stmt:=top 29
theorem lR:ap ["colour"] ["colour"] (ai eY):=⟨rfl,rfl,rfl,by decide +kernel,rfl,by decide +kernel,by decide +kernel⟩
def gr:Sp:=fun vs H Q _=>∃ i:Int,vs=[.int i]∧(0≤i∧i≤35)∧Q .non H
theorem mq (T:Tx K mg)(q:bv CX)(F:aN K "need_colour" "need_colour" eY f fd .none)(C_is_colour:Fok P w K mg base CX 2 "is_colour" ["thing"] [] (hU 35)):aO P w K mg base CX 3 f fd ["colour"] gr:=by
 refine F.ok lR (fun vs H Q E h =>?_) (fun cdv A outer s H vs Q E hr h =>?_)
 ·obtain⟨_,rfl,_⟩:=h;rfl
 obtain⟨i,rfl,hi,q'⟩:=h;refine⟨_,(ag (aV (bP (bz (au C_is_colour q hr (aa (pv 0) af)))) (ag aY) aA)),?_⟩;exact⟨_,rfl,i,rfl,fun _=>⟨_,rfl,cA q'⟩,fun c=>absurd hi c⟩
abbrev iB:Stmt:=top 33
theorem eK:ap ["level","wide","step"] ["level"] (ai iB):=⟨rfl,rfl,rfl,by decide +kernel,rfl,by decide +kernel,by decide +kernel⟩
def kj:Sp:=fun vs H Q _=>∃ n:Nat,vs=[.int n]∧n≤64∧Q (.int ((2 ^ n:Nat):Int)) H
theorem qm (T:Tx K mg)(F:aN K "width_of" "width_of" iB f fd .none):aO P w K mg base CX 1 f fd ["level"] kj:=by
 refine F.ok eK (fun vs H Q E h =>?_) (fun cdv A outer s H vs Q E hr h =>?_)
 ·obtain⟨x,rfl,_⟩:=h;rfl
 obtain⟨n,rfl,hn,q'⟩:=h;refine⟨_,(ae (aE (i:=1) eK.nd rfl (Or.inl rfl) ac) (ae (dD CP rfl (cM rfl T.b_range (aa (pv 0) af)) (aQ (i:=2) eK.nd rfl (Or.inl rfl)) (ag (aE (i:=1) eK.nd rfl (Or.inl rfl) (ar iP (pv 1) ac)))) (ag (av (pv 1))))),?_⟩;refine⟨_,rfl,_,rfl,by omega,by omega,cO (fun i σ H2=>H2=H∧∃ x v,x=((2 ^ i:Nat):Int)∧σ=[some (.int n),some (.int x),v]) ⟨rfl,1,none,rfl,rfl⟩ ?_ ?_⟩
 ·rintro i σ H2 hi ⟨rfl,x,v,rfl,rfl⟩;refine⟨_,rfl,_,_,rfl,rfl,.inr ⟨by decide,by decide⟩,rfl,_,_,?_,rfl⟩;rw[Nat.pow_succ,Int.natCast_mul];rfl
 ·rintro σ H2 ⟨rfl,x,v,rfl,rfl⟩;have e:((n:Int)).toNat=n:=CL n;refine⟨_,rfl,?_⟩;rw[e];exact q'
abbrev fL:Stmt:=top 34
theorem eU:ap ["x","y","level","wide","along"] ["x","y","level"] (ai fL):=⟨rfl,rfl,rfl,by decide +kernel,rfl,by decide +kernel,by decide +kernel⟩
def gj (n:Nat)(x y:Int):Prop:=(0≤x∧x < ((2 ^ n:Nat):Int))∧0≤y∧y < ((2 ^ n:Nat):Int)
def im (Y:Yx K mg):Sp:=fun vs H Q E=>∃ (x y:Int) (n:Nat),vs=[.int x,.int y,.int n]∧n≤40∧(gj n x y→∀ H',al H H'→Q .non H')∧(¬ gj n x y→∀ H',al H H'→E (.ref Y.c_NoPlace) none H')
theorem m_ (T:Tx K mg)(Y:Yx K mg)(q:bv (CXe P w))(F:aN K "need_place" "need_place" fL f fd .none)(C_width_of:Fok P w K mg base (CXe P w) 1 "width_of" ["level"] [] kj)(C_is_whole:Fok P w K mg base (CXe P w) 1 "is_whole" ["thing"] [] dJ):
  aO P w K mg base (CXe P w) 2 f fd ["x","y","level"] (im Y):=by
 refine F.okX eU (fun vs H Q E h =>?_) (fun cdv A outer s H vs Q E hr h =>?_)
 ·obtain⟨_,_,_,rfl,_⟩:=h;rfl
 obtain⟨x,y,n,rfl,hn,h1,h2⟩:=h;refine⟨_,(ae (aE (i:=3) eU.nd rfl (Or.inl rfl) (au C_width_of q hr (aa (pv 2) af))) (ag (dD Dx rfl (rR (bA (aH (pv 0) (aH (pv 1) am)))) (aQ (i:=4) eU.nd rfl (Or.inl rfl)) (ag (aV (PW.pt (eu (bP (bz (au C_is_whole q hr (aa (pv 4) af)))) (cV (bP (md gQ qi ac (pv 4) (pv 3)))))) (ag (bf Y.x_NoPlace bD ah)) aA))))),?_⟩;refine⟨_,rfl,n,rfl,by omega,?_⟩;refine⟨_,rfl,_,rfl,(by show 2≤sizeLine;decide),fun p hp=>⟨p,rfl,⟨_,SqT.of aj⟩,yz (xs:=[.int x,.int y]) (fun i σ H2=>(∀ j a,j < i→[x,y][j]? = some a→0≤a∧a < ((2 ^ n:Nat):Int))∧H2=upd H p (.tup [.int x,.int y])∧∃ v,σ=[some (.int x),some (.int y),some (.int n),some (.int ((2 ^ n:Nat):Int)),v]) ⟨fun j a hj=>absurd hj (Du _),rfl,none,rfl⟩ (fun i σ H2 _ h2=>by rw[h2.2.1];exact SqT.of aj) ?_ ?_⟩⟩
 ·rintro i u σ H2 hu ⟨gd,rfl,v,rfl⟩;obtain⟨a,rfl,ea⟩:∃ a,u=.int a∧[x,y][i]? = some a:=by
   rcases i with _|_|i
   ·exact⟨x,(Option.some.inj hu).symm,rfl⟩
   ·exact⟨y,(Option.some.inj hu).symm,rfl⟩
   ·cases hu
  have bad:¬ (0≤a∧a < ((2 ^ n:Nat):Int))→¬ gj n x y:=fun hb g=>by
   rcases i with _|_|i
   ·cases ea;exact hb g.1
   ·cases ea;exact hb g.2
   ·cases ea
  have sm:=al.new hp (.tup [.int x,.int y]);refine⟨_,rfl,a,rfl,_,rfl,cA ?_⟩;refine⟨_,rfl,_,_,rfl,rfl,_,rfl,bM (fun c0 =>?_) (fun c0=>⟨_,rfl,cD (h2 (bad fun z=>c0 (B8 z.1)) _ sm)⟩)⟩;refine⟨_,rfl,_,_,rfl,rfl,_,rfl,?_⟩;by_cases c1:a < ((2 ^ n:Nat):Int)
  ·refine nQ c1 ⟨fun j b hj hb =>?_,rfl,_,rfl⟩;rcases Dt j i with z | z
   ·exact gd j b z hb
   ·rw[show j=i by omega,ea]at hb;cases hb;exact⟨Cd c0,c1⟩
  ·exact yZ c1 (h2 (bad fun z=>c1 z.2) _ sm)
 ·rintro σ H2 ⟨gd,rfl,v,rfl⟩;exact h1 ⟨gd 0 x (by show 0 < 2;decide) rfl,gd 1 y (by show 1 < 2;decide) rfl⟩ _ (al.new hp _)
abbrev jW:Stmt:=top 36
theorem dw:ap ["x","y","level","code","step"] ["x","y","level"] (ai jW):=⟨rfl,rfl,rfl,by decide +kernel,rfl,by decide +kernel,by decide +kernel⟩
def iz (Y:Yx K mg):Sp:=fun vs H Q E=>∃ (x y:Int) (n:Nat),vs=[.int x,.int y,.int n]∧n≤40∧((x=0∧y=0∧∀ H',al H H'→Q (.str (tx (List.replicate n 48))) H')∨(¬ gj n x y∧∀ H',al H H'→E (.ref Y.c_NoPlace) none H'))
theorem AQ:Str.ofString (toString (0:Int))=tx [48]:=by decide +kernel
theorem sr (T:Tx K mg)(Y:Yx K mg)(q:bv (CXe P w))(F:aN K "code_at" "code_at" jW f fd .none)(C_need_level_1:Fok P w K mg base (CXe P w) 3 "need_level" ["level","least"] [.int 0] (dG Y))(C_need_place:Fok P w K mg base (CXe P w) 2 "need_place" ["x","y","level"] [] (im Y)):
  aO P w K mg base (CXe P w) 4 f fd ["x","y","level"] (iz Y):=by
 refine F.okX dw (fun vs H Q E h =>?_) (fun cdv A outer s H vs Q E hr h =>?_)
 ·obtain⟨_,_,_,rfl,_⟩:=h;rfl
 obtain⟨x,y,n,rfl,hn,h⟩:=h;refine⟨_,(ae (bL (aG C_need_level_1 hr bj (aa (pv 2) af))) (ae (bL (aG C_need_place hr bj (aa (pv 0) (aa (pv 1) (aa (pv 2) af))))) (ae (aE (i:=3) dw.nd rfl (Or.inl rfl) ah) (ae (dD Dx rfl (cM rfl T.b_range (aa (pv 2) af)) (aQ (i:=4) dw.nd rfl (Or.inl rfl)) (ae (aE (i:=3) dw.nd rfl (Or.inl rfl) (ar aP (bq bY rfl T.b_str eF (aa (ar bC (ar iP (ar aU (pv 1) ac) ac) (ar aU (pv 0) ac)) af)) (pv 3))) (ae (aE (i:=0) dw.nd rfl (Or.inl rfl) (ar cF (pv 0) ac)) (ag (aE (i:=1) dw.nd rfl (Or.inl rfl) (ar cF (pv 1) ac)))))) (ag (av (pv 3))))))),?_⟩;refine⟨_,rfl,(n:Int),rfl,fun _ =>?_,fun c=>absurd ⟨by omega,by omega⟩ c⟩;rcases h with⟨rfl,rfl,q'⟩|⟨bp,q'⟩
 rotate_left
 ·exact⟨_,rfl,_,rfl,_,rfl,x,y,n,rfl,hn,fun g=>absurd g bp,fun _=>q'⟩
 have h2n:(0:Int) < ((2 ^ n:Nat):Int):=by exact_mod_cast Nat.two_pow_pos n
 refine⟨_,rfl,_,rfl,_,rfl,0,0,n,rfl,hn,fun _ H1 s1 =>?_,fun b=>absurd ⟨⟨Int.le_refl _,h2n⟩,Int.le_refl _,h2n⟩ b⟩;refine⟨_,rfl,_,rfl,by omega,by omega,cO (fun i σ H2=>H2=H1∧∃ z v,z=tx (List.replicate i 48)∧σ=[some (.int 0),some (.int 0),some (.int n),some (.str z),v]) ⟨rfl,_,none,mH,rfl⟩ ?_ ?_⟩
 ·rintro i σ H2 hi ⟨rfl,z,v,rfl,rfl⟩;have hi':i < n:=by omega
  refine⟨_,rfl,_,_,rfl,rfl,(by show (0:Int) < 2;decide),_,_,rfl,rfl,.inr ⟨by decide,by decide⟩,_,rfl,_,_,rfl,rfl,(by show (0:Int) < 2;decide),_,_,rfl,rfl,0,rfl,by decide +kernel,?_⟩;rw[AQ];refine⟨_,rfl,_,_,rfl,rfl,a9 (by rw[aw,aw,CZ];show 1 + i≤1000;omega),?_⟩;refine⟨_,rfl,_,_,rfl,rfl,gX (by decide) (by decide),_,rfl,_,_,rfl,rfl,gX (by decide) (by decide),rfl,_,_,?_,rfl⟩;rw[bo];rfl
 ·rintro σ H2 ⟨rfl,z,v,rfl,rfl⟩;have e:((n:Int)).toNat=n:=CL n;refine⟨_,rfl,?_⟩;rw[e];exact q' _ s1
abbrev jQ:Stmt:=top 47
theorem dv:ap ["sheet","x","y","code","tree","signs"] ["sheet","x","y"] (ai jQ):=⟨rfl,rfl,rfl,by decide +kernel,rfl,by decide +kernel,by decide +kernel⟩
def iy (Y:Yx K mg):Sp:=fun vs H Q E=>∃ (v:V) (x y:Int) (n:Nat),vs=[v,.int x,.int y]∧Sht H v n∧((x=0∧y=0∧∀ z H',al H H'→Q (.str z) H')∨(¬ gj n x y∧∀ H',al H H'→E (.ref Y.c_NoPlace) none H'))
theorem Ad:intText? (tx [48])=some 0:=by decide +kernel
theorem sd (T:Tx K mg)(Y:Yx K mg)(q:bv (CXe P w))(F:aN K "leaf_at" "leaf_at" jQ f fd .none)(C_code_at:Fok P w K mg base (CXe P w) 4 "code_at" ["x","y","level"] [] (iz Y)):aO P w K mg base (CXe P w) 5 f fd ["sheet","x","y"] (iy Y):=by
 refine F.okX dv (fun vs H Q E h =>?_) (fun cdv A outer s H vs Q E hr h =>?_)
 ·obtain⟨_,_,_,_,rfl,_⟩:=h;rfl
 obtain⟨v,x,y,n,rfl,⟨t,⟨p,vt,rfl,hp,ht⟩,gt,hn⟩,h⟩:=h;refine⟨_,(ae (aE (i:=3) dv.nd rfl (Or.inl rfl) (aG C_code_at hr bj (aa (pv 1) (aa (pv 2) (aa (aq bg (pv 0) ac (fun _ _=>rfl)) af))))) (ae (aE (i:=4) dv.nd rfl (Or.inl rfl) (aq bg (pv 0) ac (fun _ _=>rfl))) (ae (aE (i:=5) dv.nd rfl (Or.inl rfl) ac) (ae (wl Dx (bz (ax (bN "tuple") rfl T.b_isinstance ay (aa (pv 4) (aa (de T.b_tuple dj) af)))) (ae (aE (i:=4) dv.nd rfl (Or.inl rfl) (aq bg (pv 4) (bq cu rfl T.b_int gY (aa (aq eE (pv 3) (pv 5) (fun _ _=>rfl)) af)) (fun _ _=>rfl))) (ag (aE (i:=5) dv.nd rfl (Or.inl rfl) (ar bC (pv 5) ac))))) (ag (av (ci eT (pv 3) c_ (cm (pv 5))))))))),?_⟩
 refine⟨_,rfl,_,rfl,_,rfl,p,_,_,_,rfl,rfl,SqT.of hp,rfl,x,y,n,rfl,hn,?_⟩;rcases h with⟨rfl,rfl,q'⟩ | ⟨bp,q'⟩
 rotate_left
 ·exact .inr ⟨bp,q'⟩
 refine .inl ⟨rfl,rfl,fun H1 s1 =>?_⟩;have zl:(tx (List.replicate n 48)).length=n:=by rw[aw,CZ]
 have zs:(tx (List.replicate n 48)).length≤sizeLine:=by rw[zl];exact a9 (by omega)
 refine⟨_,rfl,p,_,_,_,rfl,rfl,SqT.of (s1 _ _ hp),rfl,?_⟩;refine vJ (fun σ H2=>H2=H1∧∃ (i:Nat) (v':V) (t':Tr),i≤n∧bH H1 v' t'∧bh (n - i) t'∧σ=[some (.ref p),some (.int 0),some (.int 0),some (.str (tx (List.replicate n 48))),some v',some (.int (i:Int))]) (fun σ H2=>match σ with | [_,_,_,_,_,some (.int i)]=>n - i.toNat | _=>0) ⟨rfl,0,vt,t,Cr _,ht.up s1.tups,gt,rfl⟩ ?_ ?_
 ·rintro σ H2 ⟨rfl,i,v',t',hi,ht',gt',rfl⟩;cases ht' with
  | col j =>
   refine⟨_,rfl,_,_,_,rfl,.int j,iR,_,rfl,cA ?_⟩;exact⟨_,rfl,_,rfl,_,rfl,_,rfl,zs,q' _ H2 s1⟩
  | @four r xa xb xc xd ta tb tc td e ja jb jc jd =>
   have hi1:i < n:=by
    rcases Dt i n with z|z
    ·exact z
    ·rw[show n - i=0 by omega]at gt';exact gt'.elim
   rw[show n - i=(n - (i + 1)) + 1 by omega]at gt';have at':atI (tx (List.replicate n 48)).cps.toList (i:Int)=some 48:=dH (by rw[br];simp[hi1]);refine⟨_,rfl,_,_,_,rfl,.tup e,iQ,_,rfl,cD ?_⟩;refine⟨_,rfl,_,rfl,_,rfl,_,i,48,rfl,rfl,zs,at',_,0,rfl,Ad,by show (1:Nat)≤640;decide,r,_,_,xa,rfl,rfl,SqT.of e,rfl,?_⟩;refine⟨_,rfl,_,_,rfl,rfl,⟨rfl,i + 1,xa,_,by omega,ja,gt'.1,by simp⟩,?_⟩;show n - ((i:Int) + 1).toNat < n - ((i:Int)).toNat;omega
 ·rintro σ H2 Q1 Q2 k h;obtain⟨a,e1,b,c,d,e2,e3,e4,k',f1,f2⟩:=h;exact⟨a,e1,b,c,d,e2,e3,e4,k',f1,k _ _ f2⟩
end
section
variable {P:Program}{w:World}{K:PySem.W.Frag}{mg:Str→Option Value}{base:Heap}{CX:CXT}{f:Addr}{fd:FuncData}
abbrev cU:Stmt:=top 39
theorem dU:ap ["parts","first"] ["parts"] (ai cU):=⟨rfl,rfl,rfl,by decide +kernel,rfl,by decide +kernel,by decide +kernel⟩
def nH:Sp:=fun vs H Q _=>∃ (l:Addr) (a b c d:V) (ta tb tc td:Tr),vs=[.ref l]∧H l=some (.lst [a,b,c,d])∧bH H a ta∧bH H b tb∧bH H c tc∧bH H d td ∧
 (ta.deep≤60∧tb.deep≤60∧tc.deep≤60∧td.deep≤60)∧∀ H',al H H'→Q (.bl (rX ta tb tc td)) H'
theorem il (T:Tx K mg)(F:aN K "is_of_one_colour" "is_of_one_colour" cU f fd .none):aO P w K mg base CX 1 f fd ["parts"] nH:=by
 refine F.ok dU (fun vs H Q E h =>?_) (fun cdv A outer s H vs Q E hr h =>?_)
 ·obtain⟨_,_,_,_,_,_,_,_,_,rfl,_⟩:=h;rfl
 obtain⟨l,a,b,c,d,ta,tb,tc,td,rfl,hl,ha,hb,hc,hd,⟨da,db,dc,dd⟩,q'⟩:=h;refine⟨_,(ae (aE (i:=1) dU.nd rfl (Or.inr rfl) (aq ao (pv 0) ac (fun _ _=>rfl))) (ae (aV (bz (ax (bN "tuple") rfl T.b_isinstance ay (aa (pv 1) (aa (de T.b_tuple dj) af)))) (ag (av fw)) aA) (ag (av (ax (jD rfl) rfl T.b_all pI (aa (dM (N':=["part","first"]) ["first"] ["first"] [1] 1 (by with_unfolding_all rfl) rfl (c5 rfl rfl (by decide) b9) rfl rfl (by decide) rfl (by decide +kernel) rfl (by decide +kernel) rfl (k_ (pv 0)) (fun C s0 H0 fp pins=>(aQ (i:=0) (show (["part","first"]:List Str).Nodup by decide +kernel) rfl (Or.inl rfl) (Or.inr rfl))) (fun C s0 H0 fp pins=>(fT (zH hr) (pv 0) (pv 1) (aK _)))) af)))))),?_⟩
 refine⟨_,rfl,l,_,_,a,rfl,rfl,SqL.of hl,rfl,?_⟩;cases ha with
 | four e =>
  refine⟨_,rfl,_,_,_,rfl,.tup e,iQ,_,rfl,cD ?_⟩;exact q' H (al.refl H)
 | col i =>
  refine⟨_,rfl,_,_,_,rfl,.int i,iR,_,rfl,cA ?_⟩;have full:∃ bs:List Bool,bs=[decide (Tr.col i=Tr.col i),decide (tb=.col i),decide (tc=.col i),decide (td=.col i)]:=⟨_,rfl⟩;obtain⟨bs,ebs⟩:=full;have hi:bH H (.int i) (.col i):=.col i;refine⟨[.int i],rfl,_,rfl,l,rfl,⟨_,SqL.of hl⟩,mM [.int i,b,c,d] (fun D j ys H'=>al H H'∧H' D=some (.lst ys)∧j≤4∧ys=(bs.take j).map V.bl) (by show 4≤sizeLine;decide) (fun D j ys H' h=>SqL.of (h.1 _ _ hl))
   (fun D j ys H' h=>⟨h.2.1,by rw[h.2.2.2];simp;omega⟩) (fun D hD=>⟨al.new hD _,aj,by decide,rfl⟩) ?_ ?_ (fun _ _ _ _ _ k h=>k _ _ h) ?_⟩
  ·rintro D j x ys H' hx hD ⟨s1,s2,s3,s4⟩;have key:∃ tx,bH H x tx∧tx.deep≤60∧bs[j]? = some (decide (tx=.col i)):=by
    rcases at4 hx with⟨rfl,rfl⟩|⟨rfl,rfl⟩|⟨rfl,rfl⟩|⟨rfl,rfl⟩
    ·exact⟨_,hi,Cr _,by rw[ebs];rfl⟩
    ·exact⟨_,hb,db,by rw[ebs];rfl⟩
    ·exact⟨_,hc,dc,by rw[ebs];rfl⟩
    ·exact⟨_,hd,dd,by rw[ebs];rfl⟩
   obtain⟨tx,htx,dx,ex⟩:=key;refine⟨rfl,_,rfl,_,rfl,tx.data,(Tr.col i).data,(htx.up s1.tups).dat,.int i,Tr.shaped (by omega),Tr.shaped (Cr _),s2,al.set s1 hD _,aj,?_,?_⟩
   ·have:=(Ck.mp hx).1
    exact this
   ·rw[Tr.eqv,Dj,ex,s4,CD];rfl
  ·rintro D ys H' hD ⟨s1,s2,s3,s4⟩;refine⟨D,bs,rfl,SqL.of (by rw[s2,s4];congr 2;rw[ebs];rfl),?_⟩;have e:bs.all id=rX (.col i) tb tc td:=by rw[ebs];rfl
   rw[e];exact q' H' s1
  ·intro σ H' R R' k h;obtain⟨x1,e1,x2,e2,d1,d2,p1,p2,p3,p4,h⟩:=h;exact⟨x1,e1,x2,e2,d1,d2,p1,p2,p3,p4,k _ _ h⟩
abbrev iM:Stmt:=top 40
theorem qe:ap ["parts"] ["parts"] (ai iM):=⟨rfl,rfl,rfl,by decide +kernel,rfl,by decide +kernel,by decide +kernel⟩
def kr:Sp:=fun vs H Q _=>∃ (l:Addr) (a b c d:V) (ta tb tc td:Tr),vs=[.ref l]∧H l=some (.lst [a,b,c,d])∧bH H a ta∧bH H b tb∧bH H c tc∧bH H d td ∧
 (ta.deep≤60∧tb.deep≤60∧tc.deep≤60∧td.deep≤60)∧∀ v H',al H H'→bH H' v (fz ta tb tc td)→Q v H'
theorem qz (T:Tx K mg)(q:bv CX)(F:aN K "gathered" "gathered" iM f fd .none)(C_is_of_one_colour:Fok P w K mg base CX 1 "is_of_one_colour" ["parts"] [] nH):aO P w K mg base CX 2 f fd ["parts"] kr:=by
 refine F.ok qe (fun vs H Q E h =>?_) (fun cdv A outer s H vs Q E hr h =>?_)
 ·obtain⟨_,_,_,_,_,_,_,_,_,rfl,_⟩:=h;rfl
 obtain⟨l,a,b,c,d,ta,tb,tc,td,rfl,hl,ha,hb,hc,hd,dp,q'⟩:=h;refine⟨_,(ae (aV (bz (au C_is_of_one_colour q hr (aa (pv 0) af))) (ag (av (aq ao (pv 0) ac (fun _ _=>rfl)))) aA) (ag (av (bq nq rfl T.b_tuple dj (aa (pv 0) af))))),?_⟩;refine⟨_,rfl,l,a,b,c,d,ta,tb,tc,td,rfl,hl,ha,hb,hc,hd,dp,fun H1 s1=>⟨_,rfl,bM (fun e =>?_) (fun e =>?_)⟩⟩
 ·refine⟨_,rfl,l,_,_,a,rfl,rfl,SqL.of (s1 _ _ hl),rfl,q' a H1 s1 ?_⟩;unfold fz;rw[if_pos e];exact ha.up s1.tups
 ·refine⟨_,rfl,l,_,rfl,.inl ⟨SqL.of (s1 _ _ hl),fun p hp=>q' _ _ (s1.trans (al.new hp _)) ?_⟩⟩;unfold fz;rw[if_neg e];have s2:=(s1.trans (al.new hp (.tup [a,b,c,d]))).tups;exact .four aj (ha.up s2) (hb.up s2) (hc.up s2) (hd.up s2)
end
theorem jJ:("0123456789abcdefghijklmnopqrstuvwxyz" : Str).length≤sizeLine:=by decide +kernel
theorem uX:∀ n:Nat,n≤40→((n:Int)).natAbs.log2 < 1920:=fun n h=>by
 have e:∀ n:Nat,n < 41→((n:Int)).natAbs.log2 < 1920:=by decide +kernel
 exact e n (by omega)
theorem yl:∀ n:Nat,n < 41→ym (lv n)=true:=by decide +kernel
theorem qF:∀ n:Nat,n < 100→intText? (tx (lv n))=some (n:Int):=by decide +kernel
theorem wS:∀ n:Nat,n < 100→∀ k:Nat,k < 41→lv n=lv k→n=k:=by decide +kernel
theorem zM {w:List Nat}(h:ym w=true):∃ n,n < 100∧w=lv n:=by
 unfold ym mw at h;rw[DQ]at h;rcases h with h | h
 ·exact⟨0,by decide,Cd h⟩
 rw[Cy,Cy,Cy,CC]at h;obtain⟨h1,h2,h3,h4⟩:=h;have h1:=Cd h1;have h2:=Cd h2;have h3:=Cd h3;rcases w with _ | ⟨a,_ | ⟨b,_ | ⟨c,r⟩⟩⟩
 ·simp at h1
 ·have ha:=Cd (h4 a (by simp));refine⟨a - 48,by omega,?_⟩;unfold lv;rw[if_pos (by omega),show 48 + (a - 48)=a by omega]
 ·have ha:=Cd (h4 a (by simp));have hb:=Cd (h4 b (by simp));have na:a≠48:=fun e=>h3 (by rw[e];rfl);refine⟨10 * (a - 48) + (b - 48),by omega,?_⟩;unfold lv;rw[if_neg (by omega),show 48 + (10 * (a - 48) + (b - 48)) / 10=a by omega,show 48 + (10 * (a - 48) + (b - 48)) % 10=b by omega]
 ·simp at h2
theorem zQ {w:List Nat}(h:ym w=false):lvI w=none:=by
 cases e:lvI w with
 | none=>rfl
 | some n =>
  obtain⟨h1,h2⟩:=mz e;rw[h2,yl n (by omega)]at h;cases h
theorem wV {n:Nat}(h:n < 100)(h4:40 < n):lvI (lv n)=none:=by
 cases e:lvI (lv n) with
 | none=>rfl
 | some k =>
  obtain⟨h1,h2⟩:=mz e
  have:=wS n h k (by omega) h2
  omega
theorem uD (w:List Nat):∃ (a b:List Nat) (sep:Str),Txt.partition (tx w) (":" : Str)=(tx a,sep,tx b)∧a.length≤w.length∧b.length≤w.length∧rdS w=(match lvI a with | none=>none | some n=>match rdT n b with | some (t,[])=>some (n,t) | _=>none):=by
 cases e:mK w with
 | none =>
  refine⟨w,[],tx [],x_ (mJ e),B7 _,Cr _,?_⟩;unfold rdS;rw[e];cases lvI w with
  | none=>rfl
  | some n=>simp only[kX]
 | some p =>
  obtain⟨a,b⟩:=p;obtain⟨ew,na⟩:=mI e;refine⟨a,b,tx [58],by rw[ew];exact wE na,?_,?_,?_⟩
  ·rw[ew,B3];omega
  ·rw[ew,B3,B5];omega
  ·unfold rdS;rw[e]
   try rfl
theorem Ag (c:Nat):(!(Builtin.Str.occurrences ("0123456789" : Str) (tx [c]) 0 ("0123456789" : Str).length 1).isEmpty)=decide (48≤c∧c≤57):=by
 have f:=PySem.StrLaws.found_one ("0123456789" : Str) c
 have e:("0123456789" : Str).cps.toList=[48,49,50,51,52,53,54,55,56,57]:=by decide +kernel
 rw[e]at f;refine f.trans ?_;rw[Di,DG,DG];simp only[B6,Cc,or_false];omega
section
variable {P:Program}{w:World}{K:PySem.W.Frag}{mg:Str→Option Value}{base:Heap}{CX:CXT}{f:Addr}{fd:FuncData}
abbrev dB:Stmt:=top 94
theorem je:ap ["word","most"] ["word","most"] (ai dB):=⟨rfl,rfl,rfl,by decide +kernel,rfl,by decide +kernel,by decide +kernel⟩
def cC:Sp:=fun vs H Q _=>∃ (w:List Nat) (m:Nat),vs=[.str (tx w),.int m]∧w.length≤40000∧∀ H',al H H'→Q (.bl (mw m w)) H'
theorem js (T:Tx K mg)(F:aN K "is_number_word" "is_number_word" dB f fd .none):aO P w K mg base CX 1 f fd ["word","most"] cC:=by
 refine F.ok je (fun vs H Q E h =>?_) (fun cdv A outer s H vs Q E hr h =>?_)
 ·obtain⟨_,_,rfl,_⟩:=h;rfl
 obtain⟨w',m,rfl,hw,q'⟩:=h;refine⟨_,(ae (aV (aB bS (pv 0) ah (aK _)) (ag (av fw)) aA) (ag (av (mj (mh gQ gQ ac (ax bu rfl T.b_len ck (aa (pv 0) af)) (pv 1)) (mj (fT jm (aq eE (pv 0) ac (fun _ _=>rfl)) ah (aK _)) (oQ (ax (jD rfl) rfl T.b_all pI (aa (dM (N':=["sign"]) [] [] [] 1 (by with_unfolding_all rfl) rfl b9 rfl rfl (by decide) rfl (by decide +kernel) rfl (by decide +kernel) rfl (oP (pv 0)) (fun C s0 H0 fp pins=>(aQ (i:=0) (show (["sign"]:List Str).Nodup by decide +kernel) rfl (Or.inl rfl) (Or.inr rfl))) (fun C s0 H0 fp pins=>(fT j6 (pv 0) (fR T.c_FIGURES) (by with_unfolding_all rfl)))) af)))))))),?_⟩
 have ll:=aw w';have sm:(tx w').length≤sizeLine:=Cq (show _≤40000 by omega) (by decide);have e0:("0" : Str)=tx [48]:=by decide +kernel
 refine⟨_,rfl,rfl,_,rfl,bM (fun c =>?_) (fun c =>?_)⟩
 ·have c':V.str (tx w')=V.str ("0" : Str):=Cd c
  have c2:tx w'=tx [48]:=by rw[← e0];injection c'
  have r:=q' H (al.refl H);rw[dO c2]at r;exact r
 have n0:¬ w'=[48]:=fun e=>c (B8 (by rw[e,e0]));have num:mw m w'=(decide (1≤w'.length) && (decide (w'.length≤m) && (decide (w'[0]? ≠ some 48) && w'.all fun c=>decide (48≤c∧c≤57)))):=by
  unfold mw;rw[Cg n0,DL]
 have fls:mw m w'=false→Q (.bl false) H:=fun e=>by
  have r:=q' H (al.refl H);rw[e]at r;exact r
 refine⟨_,rfl,_,_,rfl,⟨sm,rfl⟩,_,_,rfl,rfl,_,rfl,bM (fun c1 =>?_) (fun c1=>⟨_,rfl,cA (fls ?_)⟩)⟩
 rotate_left
 ·have c1':¬ (1:Int)≤((tx w').length:Int):=fun h=>c1 (B8 h);rw[num,Cg (by omega)];rfl
 have c1':(1:Int)≤((tx w').length:Int):=Cd c1;refine⟨_,rfl,_,_,rfl,rfl,_,rfl,bM (fun c2 =>?_) (fun c2=>fls ?_)⟩
 rotate_left
 ·have c2':¬ ((tx w').length:Int)≤(m:Int):=fun h=>c2 (B8 h);rw[num,B8 (by omega),Cg (by omega)];rfl
 have c2':((tx w').length:Int)≤(m:Int):=Cd c2;obtain⟨c0,hc0⟩:∃ c0,w'[0]? = some c0:=⟨_,Cf (by omega)⟩;have a0:atI (tx w').cps.toList 0=some c0:=by rw[br];exact dH hc0
 refine⟨_,rfl,_,0,c0,rfl,rfl,sm,a0,rfl,_,rfl,bM (fun c3 =>?_) (fun c3=>fls ?_)⟩
 rotate_left
 ·have c3':V.str (⟨#[c0]⟩:Str)=V.str ("0" : Str):=by simpa using c3
  have z1:tx [c0]=tx [48]:=by
   rw[← e0];injection c3'
  have z2:c0=48:=by simpa using dO z1
  rw[num,B8 (by omega),B8 (by omega),Cg (by rw[hc0,z2];simp)];rfl
 have f0:w'[0]? ≠ some 48:=fun e=>by
  rw[hc0]at e;have e':c0=48:=by simpa using e
  have c3':¬ V.str (⟨#[c0]⟩:Str)=V.str ("0" : Str):=by simpa using c3
  refine c3' ?_;rw[e',e0];rfl
 refine⟨[],rfl,_,rfl,tx w',rfl,sX Ag hw fun D H' s' u'=>⟨D,_,rfl,SqL.of u',?_⟩⟩;have r:=q' H' s';rw[num,B8 (show 1≤w'.length by omega),B8 (show w'.length≤m by omega),B8 f0,CS,CS,CS]at r;rw[List.all_map];exact r
abbrev gO:Stmt:=top 95
theorem oF:ap ["word"] ["word"] (ai gO):=⟨rfl,rfl,rfl,by decide +kernel,rfl,by decide +kernel,by decide +kernel⟩
def fH:Sp:=fun vs H Q _=>∃ w:List Nat,vs=[.str (tx w)]∧w.length≤40000∧(∀ c d,w=[c]→sgI c=some d→Q (.int (d:Int)) H)∧(((w=[]∨∃ c,w=[c]∧sgI c=none)∨2≤w.length)→Q .non H)
theorem pi (T:Tx K mg)(F:aN K "colour_of" "colour_of" gO f fd .none):aO P w K mg base CX 1 f fd ["word"] fH:=by
 refine F.ok oF (fun vs H Q E h =>?_) (fun cdv A outer s H vs Q E hr h =>?_)
 ·obtain⟨_,rfl,_⟩:=h;rfl
 obtain⟨w',rfl,hw,q1,q2⟩:=h;refine⟨_,(ae (aV (PW.pt (eu (aB jm (ax bu rfl T.b_len ck (aa (pv 0) af)) ac (aK _)) (cV (aB oR (pv 0) (fR T.c_SIGNS) (by with_unfolding_all rfl))))) (ag (av jZ)) aA) (ag (av (dh PySem.F.plainAttrs_str PySem.F.slot_str_index PySem.F.type_str_index wO (fR T.c_SIGNS) (aa (pv 0) af))))),?_⟩;have ll:=aw w';rcases w' with _|⟨c,_|⟨d,r⟩⟩
 ·refine⟨_,rfl,_,_,rfl,⟨a9 (by rw[aw];decide),rfl⟩,rfl,_,rfl,bM (fun _=>cD (q2 (.inl (.inl rfl)))) (fun h=>absurd (by rw[show (tx []).length=0 from aw []];decide) h)⟩
 ·have l1:(tx [c]).length=1:=aw _;refine⟨_,rfl,_,_,rfl,⟨a9 (by omega),rfl⟩,rfl,_,rfl,nQ (by rw[l1];rfl) ?_⟩;refine⟨_,rfl,_,_,rfl,rfl,_,rfl,?_⟩;cases hs:sgI c with
  | none =>
   rw[xJ hs];exact cD (q2 (.inl (.inr ⟨c,rfl,hs⟩)))
  | some d =>
   obtain⟨hd,rfl⟩:=i7 hs;rw[qA d hd];refine cA ?_;exact⟨rfl,_,rfl,_,_,d,[],rfl,rfl,qA d hd,q1 _ _ rfl hs⟩
 ·have ne:¬ V.int (((tx (c::d::r)).length:Nat):Int)=V.int 1:=fun e=>by
   rw[aw]at e;injection e with e;simp only[B5]at e;omega
  refine⟨_,rfl,_,_,rfl,⟨Cq (show _≤40000 by rw[aw];exact hw) (by decide),rfl⟩,rfl,_,rfl,bM (fun _=>cD (q2 (.inr (by simp)))) (fun h=>absurd (by simpa using ne) h)⟩
abbrev gB:Stmt:=top 98
theorem bK:ap ["signs","at","level","sign","parts","quarter","found","colour"] ["signs","at","level"] (ai gB):=⟨rfl,rfl,rfl,by decide +kernel,rfl,by decide +kernel,by decide +kernel⟩
def fD (Y:Yx K mg)(m:Nat):Sp:=fun vs H Q E=>∃ (w0 r:List Nat) (l:Nat),vs=[.str (tx w0),.int ((w0.length - r.length:Nat):Int),.int (l:Int)]∧r <:+ w0∧w0.length≤40000∧l < m∧m≤41 ∧
 (∀ t r',rdT l r=some (t,r')→∀ p v H',al H H'→H' p=some (.tup [v,.int ((w0.length - r'.length:Nat):Int)])→bH H' v t→Q (.ref p) H')∧(rdT l r=none→∀ H',al H H'→E (.ref Y.c_NoText) none H')
theorem jn (T:Tx K mg)(Y:Yx K mg)(q:bv (CXe P w))(F:aN K "tree_read" "tree_read" gB f fd .none)(C_gathered:Fok P w K mg base (CXe P w) 2 "gathered" ["parts"] [] kr)(C_colour_of:Fok P w K mg base (CXe P w) 1 "colour_of" ["word"] [] fH)(b:bU K fd ["signs","at","level"] [])(m:mg "tree_read" = some (.ref f)):
  ∀ n,aO P w K mg base (CXe P w) (3 + n) f fd ["signs","at","level"] (fD Y n)
 | 0=>by
  refine F.okX bK (fun vs H Q E h =>?_) (fun cdv A outer s H vs Q E hr h =>?_)
  ·obtain⟨_,_,_,rfl,_⟩:=h;rfl
  obtain⟨_,_,_,_,_,_,h,_⟩:=h;exact absurd h (Du _)
 | m' + 1=>by
  have C_tree_read:Fok P w K mg base (CXe P w) (3 + m') "tree_read" ["signs","at","level"] [] (fD Y m'):=fok F (jn T Y q F C_gathered C_colour_of b m m') b m
  refine F.okX bK (fun vs H Q E h =>?_) (fun cdv A outer s H vs Q E hr h =>?_)
  ·obtain⟨_,_,_,rfl,_⟩:=h;rfl
  obtain⟨w0,r,l,rfl,sf,lw,hl,hm,q1,q2⟩:=h;refine⟨_,(ae (aE (i:=3) bK.nd rfl (Or.inl rfl) (ci eT (pv 0) (cm (pv 1)) (cm (ar bC (pv 1) ac)))) (ae (aE (i:=1) bK.nd rfl (Or.inl rfl) (ar bC (pv 1) ac)) (ae (aV (PW.pt (zy (aB bS (pv 3) ah (aK _)) (xT (aB tI (pv 2) ac (aK _))))) (ae (aE (i:=4) bK.nd rfl (Or.inl rfl) (bQ am)) (ae (dD Dx rfl (cM rfl T.b_range (aa ac af)) (aQ (i:=5) bK.nd rfl (Or.inl rfl)) (ae (aE (i:=6) bK.nd rfl (Or.inl rfl) (aG C_tree_read hr bj (aa (pv 0) (aa (pv 1) (aa (ar j4 (pv 2) ac) af))) (hj:=by first|decide|omega|(simp only[DE];omega)))) (ae (bL (dh PySem.F.plainAttrs_list PySem.F.slot_list_append PySem.F.type_list_append dE (pv 4) (aa (aq bg (pv 6) ac (fun _ _=>rfl)) af))) (ag (aE (i:=1) bK.nd rfl (Or.inl rfl) (aq bg (pv 6) ac (fun _ _=>rfl))))))) (ag (av (bA (aH (au C_gathered q hr (aa (pv 4) af) (hj:=by first|decide|omega|(simp only[DE];omega))) (aH (pv 1) am))))))) aA) (ae (aE (i:=7) bK.nd rfl (Or.inl rfl) (au C_colour_of q hr (aa (pv 3) af) (hj:=by first|decide|omega|(simp only[DE];omega)))) (ae (aV (aB rW (pv 7) jZ (aK _)) (ag (bf Y.x_NoText bD ah)) aA) (ag (av (bA (aH (pv 7) (aH (pv 1) am)))))))))),?_⟩;have zl:=aw w0;have zs:(tx w0).length≤sizeLine:=Cq (show _≤40000 by omega) (by decide);refine⟨_,rfl,_,rfl,_,rfl,_,rfl,_,_,rfl,rfl,_,rfl,tx w0,rfl,zs,?_⟩;have noplus:∀ (u:List Nat),u≠[43]→(¬ decide (V.str (tx u)=V.str ("+" : Str))=true):=fun u hu h=>by
   have h':V.str (tx u)=V.str ("+" : Str):=Cd h
   have h2:tx u=tx [43]:=by rw[← h9];injection h'
   exact hu (dO h2)
  rcases r with _|⟨c,r⟩
  ·dsimp only[List.length_nil,Nat.sub_zero];rw[ut];refine⟨_,rfl,_,_,rfl,rfl,?_⟩;refine⟨_,rfl,rfl,_,rfl,bM (fun h=>absurd h (noplus [] (by simp))) (fun _=>cA ?_)⟩;refine⟨_,rfl,[],rfl,by simp,(fun c d e=>by cases e),fun _ =>?_⟩;exact⟨_,rfl,rfl,_,rfl,bM (fun _=>q2 (kX l) H (al.refl H)) (fun h=>absurd (B8 rfl) h)⟩
  have gc:=xE sf;have nx:=v5 sf;have sl:Txt.slice (tx w0) (some ((w0.length - (c::r).length:Nat):Int)) (some (((w0.length - (c::r).length:Nat):Int) + 1))=tx [c]:=ur (by rw[br];exact gc);rw[sl];refine⟨_,rfl,_,_,rfl,rfl,?_⟩;have en:((w0.length - (c::r).length:Nat):Int) + 1=((w0.length - r.length:Nat):Int):=by omega
  dsimp only;rw[en];have sfr:r <:+ w0:=(DB c r).trans sf;have colr:∀ D:Prop,D→D:=fun _ h=>h;cases hs:sgI c with
  | some d =>
   obtain⟨hd,rfl⟩:=i7 hs;refine⟨_,rfl,rfl,_,rfl,bM (fun h=>absurd h (noplus _ (by intro e;exact Br hd (by simpa using e)))) (fun _=>cA ?_)⟩;refine⟨_,rfl,[cp d],rfl,by simp,(fun c' d' e1 e2 =>?_),fun h =>?_⟩
   ·cases e1;rw[hs]at e2;cases e2;refine⟨_,rfl,rfl,_,rfl,bM (fun h=>absurd (Cd h) (by simp)) (fun _ =>?_)⟩;exact⟨_,rfl,_,rfl,(by show 2≤sizeLine;decide),fun p hp=>q1 _ _ (jg hs r l) p (.int d) _ (al.new hp _) aj (.col _)⟩
   ·rcases h with (h|⟨c',e1,e2⟩)|h
    ·cases h
    ·cases e1;rw[hs]at e2;cases e2
    ·exact absurd h (by simp)
  | none =>
   by_cases h3:c=43
   rotate_left
   ·refine⟨_,rfl,rfl,_,rfl,bM (fun h=>absurd h (noplus _ (by intro e;exact h3 (by simpa using e)))) (fun _=>cA ?_)⟩;refine⟨_,rfl,[c],rfl,by simp,(fun c' d' e1 e2=>by cases e1;rw[hs]at e2;cases e2),fun _ =>?_⟩;exact⟨_,rfl,rfl,_,rfl,bM (fun _=>q2 (jY hs h3 r l) H (al.refl H)) (fun h=>absurd (B8 rfl) h)⟩
   subst h3;refine⟨_,rfl,rfl,_,rfl,bM (fun _ =>?_) (fun h=>absurd (B8 (by rw[h9])) h)⟩;rcases l with _ | l
   ·refine⟨_,rfl,_,_,rfl,rfl,_,rfl,bM (fun h=>absurd (Cd h) (by decide)) (fun _ =>?_)⟩;refine⟨_,rfl,[43],rfl,by simp,(fun c' d' e1 e2=>by cases e1;rw[hs]at e2;cases e2),fun _ =>?_⟩;exact⟨_,rfl,rfl,_,rfl,bM (fun _=>q2 (nL r) H (al.refl H)) (fun h=>absurd (B8 rfl) h)⟩
   refine⟨_,rfl,_,_,rfl,rfl,_,rfl,bM (fun _ =>?_) (fun h=>absurd (B8 (by show (0:Int) < ((l + 1:Nat):Int);omega)) h)⟩;refine⟨(by show 0≤sizeLine;decide),fun lp hlp =>?_⟩;have s1:=al.new hlp (.lst []);have u1:upd H lp (.lst []) lp=some (.lst []):=aj;generalize upd H lp (.lst [])=H1 at *;refine⟨4,rfl,by decide,by decide,cO (fun (j:Nat) σ H2=>al H H2∧∃ (ys:List V) (ts:List Tr) (rj:List Nat) (o5 o6:Option V),H2 lp=some (.lst ys)∧ys.length=j∧rdN (rdT l) j r=some (ts,rj)∧(∀ i v,ys[i]? = some v→∃ t,ts[i]? = some t∧bH H2 v t)∧rj <:+ w0∧σ=[some (.str (tx w0)),some (.int ((w0.length - rj.length:Nat):Int)),some (.int ((l + 1:Nat):Int)),some (.str (tx [43])),some (.ref lp),o5,o6,none]) ⟨s1,[],[],r,none,none,u1,rfl,rfl,(fun (i:Nat) (v:V) (h:([]:List V)[i]? = some v)=>absurd h (by simp)),sfr,rfl⟩ ?_ ?_⟩
   ·rintro j σ H2 hj ⟨s2,ys,ts,rj,o5,o6,u2,ly,hrd,hys,sfj,rfl⟩;have hj':j < 4:=hj;have el:((l + 1:Nat):Int) - 1=(l:Int):=by omega
    refine⟨_,rfl,_,rfl,_,rfl,_,_,rfl,rfl,w0,rj,l,(by show [V.str (tx w0),V.int _,V.int (((l + 1:Nat):Int) - 1)]=_;rw[el]),sfj,lw,by omega,by omega,fun t r' ht p v H3 s3 hp hv =>?_,fun hno H3 s3 =>?_⟩
    ·have u3:=s3 _ _ u2;have tl:=eG.lst (ys:=ys++[v]) u3;have lts:=(oM (ma l) j r ts rj hrd).2.2;refine⟨_,rfl,.inl ⟨rfl,_,SqL.of u3⟩,_,rfl,p,_,_,_,rfl,rfl,SqT.of hp,rfl,lp,ys,_,rfl,rfl,u3,nJ (by omega),?_⟩;refine⟨_,rfl,p,_,_,_,rfl,rfl,SqT.of (tl _ _ hp),rfl,al.set (s2.trans s3) hlp _,ys++[v],ts++[t],r',_,_,aj,by rw[B3,ly];rfl,fj (rdT l) hrd ht,fun i g hg =>?_,(ma l _ _ _ ht).2.trans sfj,rfl⟩;rcases Dt i ys.length with hi | hi
     ·rw[Cz hi]at hg;obtain⟨t',e1,e2⟩:=hys i g hg;exact⟨t',by rw[Cz (by omega)];exact e1,e2.up (s3.tups.trans tl)⟩
     ·rw[CG hi]at hg;have hk0:i - ys.length=0:=by
       rcases h:i - ys.length with _|k
       ·rfl
       ·rw[h]at hg;simp at hg
      rw[hk0]at hg;rw[← Option.some.inj hg];refine⟨t,?_,hv.up tl⟩;rw[CG (by omega),show i - ts.length=0 by omega];rfl
    ·have h1:=qf (rdT l) hrd hno;have h4:=ji (rdT l) h1 (3 - j);rw[show j + 1 + (3 - j)=4 by omega]at h4;refine q2 ?_ H3 (s2.trans s3);rw[jh,h4]
   ·rintro σ H2 ⟨s2,ys,ts,rj,o5,o6,u2,ly,hrd,hys,sfj,rfl⟩;have ly':ys.length=4:=ly;obtain⟨gs,_,lts⟩:=oM (ma l) 4 r ts rj hrd;obtain⟨va,vb,vc,vd,rfl⟩:∃ a b c d,ys=[a,b,c,d]:=by
     match ys,ly' with
     | [a,b,c,d],_=>exact⟨a,b,c,d,rfl⟩
    obtain⟨t0,t1,t2,t3,rfl⟩:∃ a b c d,ts=[a,b,c,d]:=by
     match ts,lts with
     | [a,b,c,d],_=>exact⟨a,b,c,d,rfl⟩
    obtain⟨ta',ea,ka⟩:=hys 0 va rfl;obtain⟨tb',eb,kb⟩:=hys 1 vb rfl;obtain⟨tc',ec,kc⟩:=hys 2 vc rfl;obtain⟨td',ed,kd⟩:=hys 3 vd rfl;cases ea;cases eb;cases ec;cases ed;have g0:=(gs t0 (by simp)).deep;have g1:=(gs t1 (by simp)).deep;have g2:=(gs t2 (by simp)).deep;have g3:=(gs t3 (by simp)).deep;refine⟨_,rfl,lp,va,vb,vc,vd,t0,t1,t2,t3,rfl,u2,ka,kb,kc,kd,⟨by omega,by omega,by omega,by omega⟩,fun v H3 s3 hv =>?_⟩;refine⟨_,rfl,(by show 2≤sizeLine;decide),fun p hp=>q1 _ _ ?_ p v _ (s2.trans (s3.trans (al.new hp _))) aj (hv.up (al.new hp _).tups)⟩;have hrd4:rdN (rdT l) 4 r=some ([t0,t1,t2,t3],rj):=hrd;rw[jh,hrd4];rfl
abbrev rM:Stmt:=top 99
theorem kW:ap ["text","parts","level","found"] ["text"] (ai rM):=⟨rfl,rfl,rfl,by decide +kernel,rfl,by decide +kernel,by decide +kernel⟩
def tm (Y:Yx K mg):Sp:=fun vs H Q E=>∃ x:V,vs=[x] ∧
 ((∃ w:List Nat,x=.str (tx w)∧w.length≤40000∧(∀ n t,rdS w=some (n,t)→n≤40→bh n t→∀ v H',al H H'→fB H' v n t→Q v H')∧(rdS w=none→∀ H',al H H'→E (.ref Y.c_NoText) none H'))
 ∨ ((∃ ty,fg K H x ty∧PySem.W.kitOne K ty (.type "str")=some false)∧∀ H',al H H'→E (.ref Y.c_NoText) none H'))
theorem ye (T:Tx K mg)(Y:Yx K mg)(q:bv (CXe P w))(F:aN K "read" "read" rM f fd .none)(C_is_number_word:Fok P w K mg base (CXe P w) 1 "is_number_word" ["word","most"] [] cC)(C_is_level:Fok P w K mg base (CXe P w) 2 "is_level" ["thing"] [] (hU 40))(C_tree_read:Fok P w K mg base (CXe P w) 44 "tree_read" ["signs","at","level"] [] (fD Y 41)):aO P w K mg base (CXe P w) 45 f fd ["text"] (tm Y):=by
 refine F.okX kW (fun vs H Q E h =>?_) (fun cdv A outer s H vs Q E hr h =>?_)
 ·obtain⟨_,rfl,_⟩:=h;rfl
 obtain⟨x,rfl,h⟩:=h;refine⟨_,(ae (aV (bP (bz (ax (bN "str") rfl T.b_isinstance ay (aa (pv 0) (aa (de T.b_str eF) af))))) (ag (bf Y.x_NoText bD ah)) aA) (ae (aE (i:=1) kW.nd rfl (Or.inl rfl) (dh PySem.F.plainAttrs_str PySem.F.slot_str_partition PySem.F.type_str_partition pq (pv 0) (aa ah af))) (ae (aV (PW.pt (eu (bP (bz (au C_is_number_word q hr (aa (aq bg (pv 1) ac (fun _ _=>rfl)) (aa ac af))))) (cV (bP (bz (au C_is_level q hr (aa (bq cu rfl T.b_int gY (aa (aq bg (pv 1) ac (fun _ _=>rfl)) af)) af))))))) (ag (bf Y.x_NoText bD ah)) aA) (ae (aE (i:=2) kW.nd rfl (Or.inl rfl) (bq cu rfl T.b_int gY (aa (aq bg (pv 1) ac (fun _ _=>rfl)) af))) (ae (aE (i:=3) kW.nd rfl (Or.inl rfl) (aG C_tree_read hr bj (aa (aq bg (pv 1) ac (fun _ _=>rfl)) (aa ac (aa (pv 2) af))))) (ae (aV (aB jm (aq bg (pv 3) ac (fun _ _=>rfl)) (ax bu rfl T.b_len ck (aa (aq bg (pv 1) ac (fun _ _=>rfl)) af)) (aK _)) (ag (bf Y.x_NoText bD ah)) aA) (ag (av (bA (aH (pv 2) (aH (aq bg (pv 3) ac (fun _ _=>rfl)) am))))))))))),?_⟩
 rcases h with⟨w',rfl,lw,q1,q2⟩|⟨⟨ty,hty,hk⟩,q'⟩
 rotate_left
 ·exact⟨_,rfl,_,_,_,rfl,hty,hk,_,rfl,cD (q' H (al.refl H))⟩
 have sz:(tx w').length≤sizeLine:=Cq (show _≤40000 by rw[aw];exact lw) (by decide);refine⟨_,rfl,_,_,_,rfl,.str _,sM,_,rfl,cA ?_⟩;refine⟨_,rfl,rfl,_,_,rfl,rfl,by decide +kernel,sz,fun pp hpp =>?_⟩;obtain⟨a,b,sep,ep,la,lb,er⟩:=uD w';rw[ep];have s1:=al.new hpp (.tup [.str (tx a),.str sep,.str (tx b)]);have u1:upd H pp (.tup [.str (tx a),.str sep,.str (tx b)]) pp=some (.tup [.str (tx a),.str sep,.str (tx b)]):=aj;generalize upd H pp (.tup [.str (tx a),.str sep,.str (tx b)])=H1 at *;refine⟨_,rfl,pp,_,_,_,rfl,rfl,SqT.of u1,rfl,a,2,rfl,by omega,fun H2 s2 =>?_⟩;have u2:=s2 _ _ u1;have s12:=s1.trans s2;cases hnum:mw 2 a with
 | false =>
  refine⟨_,rfl,cD (cD (q2 ?_ H2 s12))⟩;rw[er,zQ hnum]
 | true =>
  refine⟨_,rfl,cA ?_⟩;obtain⟨n,hn,rfl⟩:=zM hnum;have hi:(tx (lv n)).length≤640:=by
   rw[aw];unfold lv
   split<;>simp
  refine⟨_,rfl,pp,_,_,_,rfl,rfl,SqT.of u2,rfl,_,(n:Int),rfl,qF n hn,hi,(n:Int),rfl,fun h40=>⟨_,rfl,cA ?_⟩,fun h40=>⟨_,rfl,cD (q2 ?_ H2 s12)⟩⟩
  rotate_left
  ·rw[er,wV hn (by omega)]
  have hn40:n≤40:=by omega
  rw[wU hn40]at er;refine⟨_,rfl,pp,_,_,_,rfl,rfl,SqT.of u2,rfl,_,(n:Int),rfl,qF n hn,hi,?_⟩;refine⟨_,rfl,pp,_,_,_,rfl,rfl,SqT.of u2,rfl,_,rfl,b,b,n,(by rw[Nat.sub_self];rfl),List.suffix_refl _,by omega,by omega,by decide,fun t r ht p v H3 s3 hp hv =>?_,fun hno H3 s3=>q2 ?_ H3 (s12.trans s3)⟩
  rotate_left
  ·rw[er];simp only[hno]
  have er':rdS w'=(match some (t,r) with | some (t,[])=>some (n,t) | _=>none):=by rw[← ht];exact er
  have u3:=s3 _ _ u2;have lbb:(tx b).length=b.length:=aw _;have sfx:=(ma n b t r ht).2.length_le;have gt:=(ma n b t r ht).1;refine⟨_,rfl,p,_,_,_,rfl,rfl,SqT.of hp,rfl,_,rfl,pp,_,_,_,rfl,rfl,SqT.of u3,rfl,_,_,rfl,⟨Cq (show _≤40000 by omega) (by decide),rfl⟩,rfl,_,rfl,?_⟩;rcases r with _ | ⟨c,r⟩
  ·refine nQ (by rw[lbb];simp) ?_;exact⟨_,rfl,_,rfl,p,_,_,_,rfl,rfl,SqT.of hp,rfl,(by show 2≤sizeLine;decide),fun p2 hp2=>q1 n t er' hn40 gt _ _ (s12.trans (s3.trans (al.new hp2 _))) ⟨p2,v,rfl,aj,hv.up (al.new hp2 _).tups⟩⟩
  ·refine bM (fun _=>q2 er' H3 (s12.trans s3)) (fun h=>absurd ?_ h);have ne:¬ V.int ((b.length - (c::r).length:Nat):Int)=V.int (((tx b).length:Nat):Int):=fun e=>by
    injection e with e;rw[B5]at e sfx;omega
   simpa using ne
abbrev dY:Stmt:=top 96
theorem gg:ap ["tree"] ["tree"] (ai dY):=⟨rfl,rfl,rfl,by decide +kernel,rfl,by decide +kernel,by decide +kernel⟩
def dP (m:Nat):Sp:=fun vs H Q _=>∃ (v:V) (t:Tr) (n:Nat),vs=[v]∧bH H v t∧bh n t∧n < m∧m≤41∧cnt t≤1500∧∀ H',al H H'→Q (.str (tx (wr t))) H'
theorem gh (T:Tx K mg)(q:bv CX)(F:aN K "written_tree" "written_tree" dY f fd .none)(b:bU K fd ["tree"] [])(m:mg "written_tree" = some (.ref f)):
  ∀ n,aO P w K mg base CX (1 + n) f fd ["tree"] (dP n)
 | 0=>by
  refine F.ok gg (fun vs H Q E h =>?_) (fun cdv A outer s H vs Q E hr h =>?_)
  ·obtain⟨_,_,_,rfl,_⟩:=h;rfl
  obtain⟨_,_,_,_,_,_,h,_⟩:=h;exact absurd h (Du _)
 | m' + 1=>by
  have C_written_tree:Fok P w K mg base CX (1 + m') "written_tree" ["tree"] [] (dP m'):=fok F (gh T q F b m m') b m
  refine F.ok gg (fun vs H Q E h =>?_) (fun cdv A outer s H vs Q E hr h =>?_)
  ·obtain⟨_,_,_,rfl,_⟩:=h;rfl
  obtain⟨v,t,n,rfl,ht,gt,hn,hm,hc,q'⟩:=h;refine⟨_,(ae (aV (bP (bz (ax (bN "tuple") rfl T.b_isinstance ay (aa (pv 0) (aa (de T.b_tuple dj) af))))) (ag (av (aq eE (fR T.c_SIGNS) (pv 0) (fun _ _=>rfl)))) aA) (ag (av (ar aP ah (dh PySem.F.plainAttrs_str PySem.F.slot_str_join PySem.F.type_str_join fV ah (aa (dM (N':=["part"]) [] [] [] 1 (by with_unfolding_all rfl) rfl b9 rfl rfl (by decide) rfl (by decide +kernel) rfl (by decide +kernel) rfl (rR (pv 0)) (fun C s0 H0 fp pins=>(aQ (i:=0) (show (["part"]:List Str).Nodup by decide +kernel) rfl (Or.inl rfl) (Or.inr rfl))) (fun C s0 H0 fp pins=>(au C_written_tree q hr (aa (pv 0) af) (hj:=by first | decide | omega | (simp only[DE];omega))))) af)))))),?_⟩
  cases ht with
  | col i =>
   have g':0≤i∧i≤35:=by cases n<;>exact gt
   obtain⟨c,rfl⟩:∃ c:Nat,i=(c:Int):=⟨i.toNat,by omega⟩;refine⟨_,rfl,_,_,_,rfl,.int _,iR,_,rfl,cD ?_⟩;refine⟨_,rfl,_,_,cp c,rfl,rfl,jJ,pJ c (by omega),?_⟩;exact q' H (al.refl H)
  | @four p xa xb xc xd ta tb tc td e ja jb jc jd =>
   rcases n with _|n
   ·exact gt.elim
   obtain⟨ga,gb,gc,gd,ho⟩:=gt;refine⟨_,rfl,_,_,_,rfl,.tup e,iQ,_,rfl,cA ?_⟩;have hc':cnt ta + cnt tb + cnt tc + cnt td≤1500:=hc;refine⟨rfl,[],rfl,_,rfl,p,rfl,⟨_,SqT.of e⟩,nZ [xa,xb,xc,xd] (fun D j ys H'=>al H H'∧H' D=some (.lst ys)∧j≤4∧ys=([wr ta,wr tb,wr tc,wr td].take j).map fun l=>V.str (tx l)) (by show 4≤sizeLine;decide) (fun D j ys H' h=>SqT.of (h.1 _ _ e)) (fun D j ys H' h=>⟨h.2.1,by rw[h.2.2.2];simp;omega⟩) (fun D hD=>⟨al.new hD _,aj,by decide,rfl⟩) ?_ ?_ (fun _ _ _ _ _ k h=>k _ _ h) ?_⟩
   ·rintro D j x ys H' hx hD ⟨c1,c2,c3,c4⟩;have key:∃ tx',bH H x tx'∧bh n tx'∧cnt tx'≤1500∧[wr ta,wr tb,wr tc,wr td][j]? = some (wr tx'):=by
     rcases at4 hx with⟨rfl,rfl⟩|⟨rfl,rfl⟩|⟨rfl,rfl⟩|⟨rfl,rfl⟩
     ·exact⟨ta,ja,ga,by omega,rfl⟩
     ·exact⟨tb,jb,gb,by omega,rfl⟩
     ·exact⟨tc,jc,gc,by omega,rfl⟩
     ·exact⟨td,jd,gd,by omega,rfl⟩
    obtain⟨t',k1,k2,k3,k4⟩:=key;have hj:j < 4:=(Ck.mp hx).1;refine⟨rfl,_,rfl,x,t',n,rfl,k1.up c1.tups,k2,by omega,by omega,k3,fun H4 s4=>⟨s4 _ _ c2,al.set (c1.trans s4) hD _,aj,hj,?_⟩⟩;rw[Dj,k4,c4,CD];rfl
   ·rintro D ys H' hD ⟨c1,c2,c3,c4⟩;have l4:=gl (.four ta tb tc td);have lw:(wr (.four ta tb tc td)).length=(wr ta++(wr tb++(wr tc++wr td))).length + 1:=rfl;rw[B3,B3,B3]at lw;have cc:cnt (.four ta tb tc td)≤1500:=hc;refine⟨_,D,[tx (wr ta),tx (wr tb),tx (wr tc),tx (wr td)],rfl,rfl,SqL.of (by rw[c2,c4];rfl),?_,?_⟩
    ·show (tx (wr ta)).length + ((tx (wr tb)).length + ((tx (wr tc)).length + ((tx (wr td)).length + 0))) + 4 * ("" : Str).length≤16777216
     rw[aw,aw,aw,aw,show ("" : Str).length=0 by decide +kernel]
     omega
    ·have ej:Txt.join ("" : Str) [tx (wr ta),tx (wr tb),tx (wr tc),tx (wr td)]=tx (wr ta++(wr tb++(wr tc++wr td))):=by
      have:=oh [wr ta,wr tb,wr tc,wr td]
      simpa using this
     rw[ej];refine⟨_,_,rfl,rfl,?_,?_⟩
     ·rw[h9,aw,aw,B3,B3,B3];show 1 + _≤sizeLine;exact Cq (show _≤3001 by omega) (by decide)
     ·have eq:("+" : Str)++tx (wr ta++(wr tb++(wr tc++wr td)))=tx (wr (.four ta tb tc td)):=by rw[h9,bo];rfl
      dsimp only;rw[eq];exact q' H' c1
   ·rintro σ H' R R' k ⟨a1,e1,v,t,n,h1,h2,h3,h4,h5,h6,h⟩;exact⟨a1,e1,v,t,n,h1,h2,h3,h4,h5,h6,fun H4 s4=>k _ _ (h H4 s4)⟩
abbrev jL:Stmt:=top 97
theorem rC:ap ["sheet"] ["sheet"] (ai jL):=⟨rfl,rfl,rfl,by decide +kernel,rfl,by decide +kernel,by decide +kernel⟩
def lH:Sp:=fun vs H Q _=>∃ (v:V) (t:Tr) (n:Nat),vs=[v]∧fB H v n t∧bh n t∧n≤40∧cnt t≤1500∧∀ H',al H H'→Q (.str (tx (lv n++58::wr t))) H'
theorem rY (T:Tx K mg)(q:bv CX)(F:aN K "written" "written" jL f fd .none)(C_written_tree:Fok P w K mg base CX 42 "written_tree" ["tree"] [] (dP 41)):aO P w K mg base CX 43 f fd ["sheet"] lH:=by
 refine F.ok rC (fun vs H Q E h =>?_) (fun cdv A outer s H vs Q E hr h =>?_)
 ·obtain⟨_,_,_,rfl,_⟩:=h;rfl
 obtain⟨v,t,n,rfl,⟨p,x,rfl,hp,hx⟩,gt,hn,hc,q'⟩:=h;refine⟨_,(ag (av (ar aP (ar aP (bq bY rfl T.b_str eF (aa (aq bg (pv 0) ac (fun _ _=>rfl)) af)) ah) (au C_written_tree q hr (aa (aq bg (pv 0) ac (fun _ _=>rfl)) af))))),?_⟩;have hl:=sH n (by omega);have hw:=gl t;have es:((toString (n:Int):String):Str)=tx (lv n):=pw n (by omega);refine⟨_,rfl,p,_,_,_,rfl,rfl,SqT.of hp,rfl,(n:Int),rfl,uX n hn,?_⟩;rw[es,jC];refine⟨_,_,rfl,rfl,(by rw[aw,aw];exact a9 (by show (lv n).length + 1≤1000;omega)),?_⟩;rw[bo];refine⟨_,rfl,p,_,_,_,rfl,rfl,SqT.of hp,rfl,x,t,n,rfl,hx,gt,by omega,by decide,hc,fun H' s' =>?_⟩;refine⟨_,_,rfl,rfl,(by rw[aw,aw,B3];exact Cq (show _≤3100 by show (lv n).length + 1 + (wr t).length≤3100;omega) (by decide)),?_⟩;dsimp only;rw[bo,Dk];exact q' H' s'
end
def yS:Sp:=fun _ _ _ _=>False
section
variable {P:Program}{w:World}{K:PySem.W.Frag}{mg:Str→Option Value}{base:Heap}{CX:CXT}{f:Addr}{fd:FuncData}
abbrev jU:Stmt:=top 50
theorem fI:ap ["sheet","code","tree","sign"] ["sheet","code"] (ai jU):=⟨rfl,rfl,rfl,by decide +kernel,rfl,by decide +kernel,by decide +kernel⟩
def lM:Sp:=fun vs H Q _=>∃ (v:V) (w:List Nat) (n:Nat),vs=[v,.str (tx w)]∧Sht H v n∧icB w=true∧n < w.length∧Q (.bl false) H
theorem w6:∀ c:Nat,c < 52→48≤c→intText? (tx [c])=some ((c - 48:Nat):Int):=by decide +kernel
theorem sk (T:Tx K mg)(F:aN K "is_leaf" "is_leaf" jU f fd .none):aO P w K mg base CX 1 f fd ["sheet","code"] lM:=by
 refine F.ok fI (fun vs H Q E h =>?_) (fun cdv A outer s H vs Q E hr h =>?_)
 ·obtain⟨_,_,_,rfl,_⟩:=h;rfl
 obtain⟨v,w',n,rfl,⟨t,⟨p,vt,rfl,hp,ht⟩,gt,hn⟩,hc,hl,q'⟩:=h;refine⟨_,(ae (aE (i:=2) fI.nd rfl (Or.inl rfl) (aq bg (pv 0) ac (fun _ _=>rfl))) (ae (dD CP rfl (oP (pv 1)) (aQ (i:=3) fI.nd rfl (Or.inl rfl)) (ae (aV (bP (bz (ax (bN "tuple") rfl T.b_isinstance ay (aa (pv 2) (aa (de T.b_tuple dj) af))))) (ag (av fw)) aA) (ag (aE (i:=2) fI.nd rfl (Or.inl rfl) (aq bg (pv 2) (bq cu rfl T.b_int gY (aa (pv 3) af)) (fun _ _=>rfl)))))) (ag (av (wo (ax (bN "tuple") rfl T.b_isinstance ay (aa (pv 2) (aa (de T.b_tuple dj) af)))))))),?_⟩
 have lw:=aw w';refine⟨_,rfl,p,_,1,_,rfl,rfl,SqT.of hp,rfl,?_⟩;refine⟨_,rfl,tx w',rfl,yA (fun (i:Nat) σ H2=>H2=H∧i≤n∧∃ (v':V) (u:Tr) (o:Option V),bh (n - i) u∧bH H v' u∧σ=[some (.ref p),some (.str (tx w')),some v',o]) ⟨rfl,Cr _,vt,t,none,gt,ht,rfl⟩ ?_ ?_⟩
 ·rintro i σ H2 hi ⟨rfl,hin,v',u,o,gu,hu,rfl⟩;cases hu with
  | col c=>exact⟨_,rfl,_,_,_,rfl,.int _,iR,_,rfl,cD q'⟩
  | @four r xa xb xc xd ta tb tc td e ja jb jc jd =>
   refine⟨_,rfl,_,_,_,rfl,.tup e,iQ,_,rfl,cA ?_⟩;have hi1:i < n:=by
    rcases Dt i n with z|z
    ·exact z
    ·rw[show n - i=0 by omega]at gu;exact gu.elim
   rw[show n - i=(n - (i + 1)) + 1 by omega]at gu;obtain⟨g1,g2,g3,g4,_⟩:=gu;obtain⟨cj,hcj⟩:∃ cj,w'[i]? = some cj:=⟨_,Cf (by omega)⟩;have rg:48≤cj∧cj≤51:=Cd (CC.mp (Cy _ _▸hc).2 cj (Cw hcj));have ej:sgn (tx w') i=tx [cj]:=by
    unfold sgn tx
    have:w'.toArray.getD i 0=cj:=by simp[CF,hcj]
    rw[this]
   have key:∃ x t',atI [xa,xb,xc,xd] ((cj - 48:Nat):Int)=some x∧bH H2 x t'∧bh (n - (i + 1)) t':=by
    obtain⟨d,hd,ed⟩:∃ d,d < 4∧cj - 48=d:=⟨cj - 48,by omega,rfl⟩;rw[ed];rcases d with _|_|_|_|d
    ·exact⟨xa,_,rfl,ja,g1⟩
    ·exact⟨xb,_,rfl,jb,g2⟩
    ·exact⟨xc,_,rfl,jc,g3⟩
    ·exact⟨xd,_,rfl,jd,g4⟩
    ·omega
   obtain⟨x,t',k1,k2,k3⟩:=key;exact⟨_,rfl,_,rfl,_,_,rfl,by rw[ej];exact w6 cj (by omega) rg.1,(by rw[ej];show 1≤640;decide),r,_,_,x,rfl,rfl,SqT.of e,k1,rfl,by omega,x,t',_,k3,k2,rfl⟩
 ·rintro σ H2 ⟨rfl,hin,_⟩;omega
abbrev lY:Stmt:=top 53
theorem uB:ap ["sheet","code","side"] ["sheet","code","side"] (ai lY):=⟨rfl,rfl,rfl,by decide +kernel,rfl,by decide +kernel,by decide +kernel⟩
def nI (Y:Yx K mg):Sp:=fun vs H Q E=>∃ (v s:V) (w:List Nat) (n:Nat),vs=[v,.str (tx w),s]∧Sht H v n∧icB w=true∧n < w.length∧∀ H',al H H'→E (.ref Y.c_NoLeaf) none H'
theorem uP (T:Tx K mg)(Y:Yx K mg)(q:bv (CXe P w))(F:aN K "beyond" "beyond" lY f fd .none)(C_is_code:Fok P w K mg base (CXe P w) 1 "is_code" ["thing"] [] fG)(C_is_leaf:Fok P w K mg base (CXe P w) 1 "is_leaf" ["sheet","code"] [] lM):aO P w K mg base (CXe P w) 2 f fd ["sheet","code","side"] (nI Y):=by
 refine F.okX uB (fun vs H Q E h =>?_) (fun cdv A outer s H vs Q E hr h =>?_)
 ·obtain⟨_,_,_,_,rfl,_⟩:=h;rfl
 obtain⟨v,s',w',n,rfl,hs,hc,hl,q'⟩:=h;refine⟨_,(ae (aV (PW.pt (eu (bP (bz (au C_is_code q hr (aa (pv 1) af)))) (cV (bP (bz (au C_is_leaf q hr (aa (pv 0) (aa (pv 1) af)))))))) (ag (bf Y.x_NoLeaf bD ah)) aA) (ag aY)),?_⟩;refine⟨_,rfl,w',rfl,by have:=tP hc;omega,fun H1 s1 =>?_⟩;rw[hc];exact⟨_,rfl,cA ⟨_,rfl,_,rfl,v,w',n,rfl,hs.up s1,hc,hl,_,rfl,cD (q' H1 s1)⟩⟩
abbrev jN:Stmt:=top 56
theorem rE:ap ["sheet","code"] ["sheet","code"] (ai jN):=⟨rfl,rfl,rfl,by decide +kernel,rfl,by decide +kernel,by decide +kernel⟩
def tq (Y:Yx K mg):Sp:=fun vs H Q E=>∃ (v:V) (w:List Nat) (n:Nat),vs=[v,.str (tx w)]∧Sht H v n∧icB w=true∧n < w.length∧∀ H',al H H'→E (.ref Y.c_NoCode) none H'
theorem r9 (T:Tx K mg)(Y:Yx K mg)(F:aN K "part_at" "part_at" jN f fd .none)(C_need_code_within:Fok P w K mg base (CXe P w) 2 "need_code_within" ["code","level"] [] (fE Y)):aO P w K mg base (CXe P w) 3 f fd ["sheet","code"] (tq Y):=by
 refine F.okX rE (fun vs H Q E h =>?_) (fun cdv A outer s H vs Q E hr h =>?_)
 ·obtain⟨_,_,_,rfl,_⟩:=h;rfl
 obtain⟨v,w',n,rfl,⟨t,⟨p,vt,rfl,hp,ht⟩,gt,hn⟩,hc,hl,q'⟩:=h;refine⟨_,(ae (bL (aG C_need_code_within hr bj (aa (pv 1) (aa (aq bg (pv 0) ac (fun _ _=>rfl)) af)))) (ag aY)),?_⟩;exact⟨_,rfl,_,rfl,p,_,_,_,rfl,rfl,SqT.of hp,rfl,w',n,rfl,hc,fun z=>absurd z (by omega),fun _=>q'⟩
abbrev jO:Stmt:=top 75
theorem rF:ap ["sheet","code","colour"] ["sheet","code","colour"] (ai jO):=⟨rfl,rfl,rfl,by decide +kernel,rfl,by decide +kernel,by decide +kernel⟩
def pW (Y:Yx K mg):Sp:=fun vs H Q E=>∃ (v c:V) (w:List Nat) (n:Nat),vs=[v,.str (tx w),c]∧Sht H v n∧icB w=true∧n < w.length∧∀ H',al H H'→E (.ref Y.c_NoCode) none H'
theorem r_ (T:Tx K mg)(Y:Yx K mg)(F:aN K "painted" "painted" jO f fd .none)(C_need_code_within:Fok P w K mg base (CXe P w) 2 "need_code_within" ["code","level"] [] (fE Y)):aO P w K mg base (CXe P w) 3 f fd ["sheet","code","colour"] (pW Y):=by
 refine F.okX rF (fun vs H Q E h =>?_) (fun cdv A outer s H vs Q E hr h =>?_)
 ·obtain⟨_,_,_,_,rfl,_⟩:=h;rfl
 obtain⟨v,c,w',n,rfl,⟨t,⟨p,vt,rfl,hp,ht⟩,gt,hn⟩,hc,hl,q'⟩:=h;refine⟨_,(ae (bL (aG C_need_code_within hr bj (aa (pv 1) (aa (aq bg (pv 0) ac (fun _ _=>rfl)) af)))) (ae aY (ag aY))),?_⟩;exact⟨_,rfl,_,rfl,p,_,_,_,rfl,rfl,SqT.of hp,rfl,w',n,rfl,hc,fun z=>absurd z (by omega),fun _=>q'⟩
abbrev lV:Stmt:=top 57
theorem uw:ap ["sheet","code","other"] ["sheet","code","other"] (ai lV):=⟨rfl,rfl,rfl,by decide +kernel,rfl,by decide +kernel,by decide +kernel⟩
def v9 (Y:Yx K mg):Sp:=fun vs H Q E=>∃ (v u:V) (w:List Nat) (n m:Nat),vs=[v,.str (tx w),u]∧Sht H v n∧Sht H u m∧icB w=true∧((n < w.length∧∀ H',al H H'→E (.ref Y.c_NoCode) none H')∨(w.length≤n∧m≠n - w.length∧∀ H',al H H'→E (.ref Y.c_NoLevel) none H'))
theorem uN (T:Tx K mg)(Y:Yx K mg)(F:aN K "put_in" "put_in" lV f fd .none)(C_need_code_within:Fok P w K mg base (CXe P w) 2 "need_code_within" ["code","level"] [] (fE Y)):aO P w K mg base (CXe P w) 3 f fd ["sheet","code","other"] (v9 Y):=by
 refine F.okX uw (fun vs H Q E h =>?_) (fun cdv A outer s H vs Q E hr h =>?_)
 ·obtain⟨_,_,_,_,_,rfl,_⟩:=h;rfl
 obtain⟨v,u,w',n,m,rfl,⟨t,⟨p,vt,rfl,hp,ht⟩,gt,hn⟩,⟨t2,⟨po,yo,rfl,hpo,hyo⟩,gu,hm⟩,hc,h⟩:=h;refine⟨_,(ae (bL (aG C_need_code_within hr bj (aa (pv 1) (aa (aq bg (pv 0) ac (fun _ _=>rfl)) af)))) (ae (aV (aB jm (aq bg (pv 2) ac (fun _ _=>rfl)) (ar j4 (aq bg (pv 0) ac (fun _ _=>rfl)) (ax bu rfl T.b_len ck (aa (pv 1) af))) (aK _)) (ag (bf Y.x_NoLevel bD ah)) aA) (ag aY))),?_⟩;have lw:=aw w';refine⟨_,rfl,_,rfl,p,_,_,_,rfl,rfl,SqT.of hp,rfl,w',n,rfl,hc,fun hl H1 s1 =>?_,fun hl =>?_⟩
 rotate_left
 ·rcases h with⟨_,q'⟩|⟨h,_⟩
  ·exact q'
  ·exact absurd h hl
 rcases h with⟨h,_⟩|⟨_,ne,q'⟩
 ·omega
 refine⟨_,rfl,po,_,_,_,rfl,rfl,SqT.of (s1 _ _ hpo),rfl,_,rfl,p,_,_,_,rfl,rfl,SqT.of (s1 _ _ hp),rfl,_,rfl,_,_,rfl,⟨a9 (by omega),rfl⟩,_,_,rfl,rfl,rfl,_,rfl,bM (fun _=>q' H1 s1) (fun c =>?_)⟩;have c':¬ (!decide (V.int (m:Int)=V.int ((n:Int) - ((tx w').length:Int))))=true:=c;have c2:V.int (m:Int)=V.int ((n:Int) - ((tx w').length:Int)):=by simpa using c'
 injection c2 with c3;omega
abbrev lU:Stmt:=top 60
theorem uv:ap ["sheet","x","y","level","colour"] ["sheet","x","y","level","colour"] (ai lU):=⟨rfl,rfl,rfl,by decide +kernel,rfl,by decide +kernel,by decide +kernel⟩
def nE (Y:Yx K mg):Sp:=fun vs H Q E=>∃ (v a b c:V) (n:Nat) (k:Int),vs=[v,a,b,.int k,c]∧Sht H v n∧(6 < n∨¬ (0≤k∧k≤6))∧E (.ref Y.c_NoLevel) none H
theorem uM (T:Tx K mg)(Y:Yx K mg)(F:aN K "window" "window" lU f fd .none)(C_need_small_level:Fok P w K mg base (CXe P w) 3 "need_small_level" ["level"] [] (eS Y)):aO P w K mg base (CXe P w) 4 f fd ["sheet","x","y","level","colour"] (nE Y):=by
 refine F.okX uv (fun vs H Q E h =>?_) (fun cdv A outer s H vs Q E hr h =>?_)
 ·obtain⟨_,_,_,_,_,_,rfl,_⟩:=h;rfl
 obtain⟨v,a,b,c,n,k,rfl,⟨t,⟨p,vt,rfl,hp,ht⟩,gt,hn⟩,h,q'⟩:=h;refine⟨_,(ae (bL (aG C_need_small_level hr bj (aa (aq bg (pv 0) ac (fun _ _=>rfl)) af))) (ae (bL (aG C_need_small_level hr bj (aa (pv 3) af))) (ae aY (ag aY)))),?_⟩;exact⟨_,rfl,p,_,_,_,rfl,rfl,SqT.of hp,rfl,_,rfl,fun z=>⟨_,rfl,k,rfl,fun z2=>absurd z2 (h.resolve_left (by omega)),fun _=>q'⟩,fun _=>q'⟩
abbrev rO:Stmt:=top 61
theorem xM:ap ["sheet","x","y","other"] ["sheet","x","y","other"] (ai rO):=⟨rfl,rfl,rfl,by decide +kernel,rfl,by decide +kernel,by decide +kernel⟩
def tD (Y:Yx K mg):Sp:=fun vs H Q E=>∃ (v a b u:V) (n m:Nat),vs=[v,a,b,u]∧Sht H v n∧Sht H u m∧(6 < n∨6 < m)∧E (.ref Y.c_NoLevel) none H
theorem yg (T:Tx K mg)(Y:Yx K mg)(F:aN K "laid" "laid" rO f fd .none)(C_need_small_level:Fok P w K mg base (CXe P w) 3 "need_small_level" ["level"] [] (eS Y)):aO P w K mg base (CXe P w) 4 f fd ["sheet","x","y","other"] (tD Y):=by
 refine F.okX xM (fun vs H Q E h =>?_) (fun cdv A outer s H vs Q E hr h =>?_)
 ·obtain⟨_,_,_,_,_,_,rfl,_⟩:=h;rfl
 obtain⟨v,a,b,u,n,m,rfl,⟨t,⟨p,vt,rfl,hp,ht⟩,gt,hn⟩,⟨t2,⟨po,yo,rfl,hpo,hyo⟩,gu,hm⟩,h,q'⟩:=h;refine⟨_,(ae (bL (aG C_need_small_level hr bj (aa (aq bg (pv 0) ac (fun _ _=>rfl)) af))) (ae (bL (aG C_need_small_level hr bj (aa (aq bg (pv 3) ac (fun _ _=>rfl)) af))) (ag aY))),?_⟩;exact⟨_,rfl,p,_,_,_,rfl,rfl,SqT.of hp,rfl,_,rfl,fun z=>⟨_,rfl,po,_,_,_,rfl,rfl,SqT.of hpo,rfl,_,rfl,fun z2=>absurd (h.resolve_left (by omega)) (by omega),fun _=>q'⟩,fun _=>q'⟩
abbrev dz:Stmt:=top 67
theorem eM:ap ["sheets","level"] ["sheets"] (ai dz):=⟨rfl,rfl,rfl,by decide +kernel,rfl,by decide +kernel,by decide +kernel⟩
def v_ (Y:Yx K mg):Sp:=fun vs H Q E=>∃ (l:Addr) (v u:V) (n m:Nat),vs=[.ref l]∧H l=some (.lst [v,u])∧Sht H v n∧Sht H u m∧n≠m∧∀ H',al H H'→E (.ref Y.c_NoLevel) none H'
theorem jp (T:Tx K mg)(Y:Yx K mg)(F:aN K "need_one_level" "need_one_level" dz f fd .none):aO P w K mg base (CXe P w) 1 f fd ["sheets"] (v_ Y):=by
 refine F.okX eM (fun vs H Q E h =>?_) (fun cdv A outer s H vs Q E hr h =>?_)
 ·obtain⟨_,_,_,_,_,rfl,_⟩:=h;rfl
 obtain⟨l,v,u,n,m,rfl,hl,⟨t,⟨p,vt,rfl,hp,ht⟩,gt,hn⟩,⟨t2,⟨po,yo,rfl,hpo,hyo⟩,gu,hm⟩,ne,q'⟩:=h;refine⟨_,(ae (aE (i:=1) eM.nd rfl (Or.inr rfl) (aq bg (aq ao (pv 0) ac (fun _ _=>rfl)) ac (fun _ _=>rfl))) (ag (aV (bz (ax (xt rfl) rfl T.b_any Ax (aa (dM (N':=["sheet","level"]) ["level"] ["level"] [1] 1 (by with_unfolding_all rfl) rfl (c5 rfl rfl (by decide) b9) rfl rfl (by decide) rfl (by decide +kernel) rfl (by decide +kernel) rfl (k_ (pv 0)) (fun C s0 H0 fp pins=>(aQ (i:=0) (show (["sheet","level"]:List Str).Nodup by decide +kernel) rfl (Or.inl rfl) (Or.inr rfl))) (fun C s0 H0 fp pins=>(fT jm (aq (yr (K:=K)) (pv 0) ac (fun _ _=>rfl)) (pv 1) (aK _)))) af))) (ag (bf Y.x_NoLevel bD ah)) aA))),?_⟩
 refine⟨_,rfl,l,_,_,_,rfl,rfl,SqL.of hl,rfl,p,_,_,_,rfl,rfl,SqT.of hp,rfl,?_⟩;refine⟨[.int n],rfl,_,rfl,l,rfl,⟨_,SqL.of hl⟩,mM [.ref p,.ref po] (fun D j ys H'=>al H H'∧H' D=some (.lst ys)∧j≤2∧ys=([false,true].take j).map V.bl) (a9 (by show 2≤1000;decide)) (fun D j ys H' h=>SqL.of (h.1 _ _ hl))
   (fun D j ys H' h=>⟨h.2.1,by rw[h.2.2.2,B_,CH];omega⟩) (fun D hD=>⟨al.new hD _,aj,Cr _,rfl⟩) ?_ ?_ (fun _ _ _ _ _ k h=>k _ _ h) ?_⟩
 ·rintro D j x ys H' hx hD ⟨s1,s2,s3,s4⟩;rcases j with _ | _ | j
  ·cases hx;refine⟨rfl,_,rfl,p,_,_,_,rfl,rfl,SqT.of (s1 _ _ hp),rfl,_,rfl,rfl,s2,al.set s1 hD _,aj,by decide,?_⟩;rw[s4];simp
  ·cases hx;refine⟨rfl,_,rfl,po,_,_,_,rfl,rfl,SqT.of (s1 _ _ hpo),rfl,_,rfl,rfl,s2,al.set s1 hD _,aj,by decide,?_⟩;rw[s4]
   have:¬ V.int (m:Int)=V.int (n:Int):=fun z=>ne (by injection z with z;omega)
   simp[this]
  ·cases hx
 ·rintro D ys H' hD ⟨s1,s2,s3,s4⟩;exact⟨D,[false,true],rfl,SqL.of (by rw[s2,s4];rfl),_,rfl,cD (q' H' s1)⟩
 ·intro σ H' R R' k h;obtain⟨x1,e1,p,xs,i,v,e2,e3,e4,e5,x2,e6,e7,h⟩:=h;exact⟨x1,e1,p,xs,i,v,e2,e3,e4,e5,x2,e6,e7,k _ _ h⟩
abbrev rN:Stmt:=top 73
theorem xL:ap ["lower","upper","clear","trees"] ["lower","upper","clear"] (ai rN):=⟨rfl,rfl,rfl,by decide +kernel,rfl,by decide +kernel,by decide +kernel⟩
def tw (Y:Yx K mg):Sp:=fun vs H Q E=>∃ (v u c:V) (n m:Nat),vs=[v,u,c]∧Sht H v n∧Sht H u m∧n≠m∧∀ H',al H H'→E (.ref Y.c_NoLevel) none H'
theorem yf (T:Tx K mg)(Y:Yx K mg)(F:aN K "over" "over" rN f fd .none)(C_need_one_level:Fok P w K mg base (CXe P w) 1 "need_one_level" ["sheets"] [] (v_ Y)):aO P w K mg base (CXe P w) 2 f fd ["lower","upper","clear"] (tw Y):=by
 refine F.okX xL (fun vs H Q E h =>?_) (fun cdv A outer s H vs Q E hr h =>?_)
 ·obtain⟨_,_,_,_,_,rfl,_⟩:=h;rfl
 obtain⟨v,u,c,n,m,rfl,hv,hu,ne,q'⟩:=h;refine⟨_,(ae (bL (aG C_need_one_level hr bj (aa (bQ (aH (pv 0) (aH (pv 1) am))) af))) (ae aY (ae aY (ag aY)))),?_⟩;refine⟨_,rfl,_,rfl,(by show 2≤sizeLine;decide),fun l hl =>?_⟩;have s1:=al.new hl (.lst [v,u]);exact⟨l,v,u,n,m,rfl,aj,hv.up s1,hu.up s1,ne,fun H' s'=>q' H' (s1.trans s')⟩
abbrev oI:Stmt:=top 68
theorem wc:ap ["level","colour"] ["level","colour"] (ai oI):=⟨rfl,rfl,rfl,by decide +kernel,rfl,by decide +kernel,by decide +kernel⟩
def pV (Y:Yx K mg):Sp:=fun vs H Q E=>∃ (l c:Int),vs=[.int l,.int c]∧((¬ (0≤l∧l≤40)∧E (.ref Y.c_NoLevel) none H)∨(∃ n:Nat,l=n∧n≤40∧(0≤c∧c≤35)∧∀ v H',al H H'→fB H' v n (.col c)→Q v H'))
theorem wI (T:Tx K mg)(Y:Yx K mg)(q:bv (CXe P w))(F:aN K "plain" "plain" oI f fd .none)(C_need_level_1:Fok P w K mg base (CXe P w) 3 "need_level" ["level","least"] [.int 0] (dG Y))(C_need_colour:Fok P w K mg base (CXe P w) 3 "need_colour" ["colour"] [] gr):aO P w K mg base (CXe P w) 4 f fd ["level","colour"] (pV Y):=by
 refine F.okX wc (fun vs H Q E h =>?_) (fun cdv A outer s H vs Q E hr h =>?_)
 ·obtain⟨_,_,rfl,_⟩:=h;rfl
 obtain⟨l,c,rfl,h⟩:=h;refine⟨_,(ae (bL (aG C_need_level_1 hr bj (aa (pv 0) af))) (ae (bL (au C_need_colour q hr (aa (pv 1) af))) (ag (av (bA (aH (pv 0) (aH (pv 1) am))))))),?_⟩;refine⟨_,rfl,l,rfl,fun z =>?_,fun z =>?_⟩
 ·rcases h with⟨h,_⟩|⟨n,rfl,hn,hc,q'⟩
  ·exact absurd z h
  exact⟨_,rfl,c,rfl,hc,_,rfl,_,rfl,(by show 2≤sizeLine;decide),fun p hp=>q' _ _ (al.new hp _) ⟨p,.int c,rfl,aj,.col c⟩⟩
 ·rcases h with⟨_,q'⟩|⟨n,rfl,hn,_⟩
  ·exact q'
  ·exact absurd ⟨by omega,by omega⟩ z
abbrev gP:Stmt:=top 69
theorem oG:ap ["sheet","x","y"] ["sheet","x","y"] (ai gP):=⟨rfl,rfl,rfl,by decide +kernel,rfl,by decide +kernel,by decide +kernel⟩
def oo (Y:Yx K mg):Sp:=fun vs H Q E=>∃ (v:V) (x y:Int) (n:Nat),vs=[v,.int x,.int y]∧Sht H v n∧¬ gj n x y∧∀ H',al H H'→E (.ref Y.c_NoPlace) none H'
theorem pj (T:Tx K mg)(Y:Yx K mg)(q:bv (CXe P w))(F:aN K "colour_at" "colour_at" gP f fd .none)(C_code_at:Fok P w K mg base (CXe P w) 4 "code_at" ["x","y","level"] [] (iz Y))(C_tree_at:Fok P w K mg base (CXe P w) 1 "tree_at" ["tree","code"] [] yS):aO P w K mg base (CXe P w) 5 f fd ["sheet","x","y"] (oo Y):=by
 refine F.okX oG (fun vs H Q E h =>?_) (fun cdv A outer s H vs Q E hr h =>?_)
 ·obtain⟨_,_,_,_,rfl,_⟩:=h;rfl
 obtain⟨v,x,y,n,rfl,⟨t,⟨p,vt,rfl,hp,ht⟩,gt,hn⟩,bp,q'⟩:=h;refine⟨_,(ag (av (au C_tree_at q hr (aa (aq bg (pv 0) ac (fun _ _=>rfl)) (aa (aG C_code_at hr bj (aa (pv 1) (aa (pv 2) (aa (aq bg (pv 0) ac (fun _ _=>rfl)) af)))) af))))),?_⟩;exact⟨_,rfl,p,_,_,_,rfl,rfl,SqT.of hp,rfl,_,rfl,_,rfl,_,rfl,p,_,_,_,rfl,rfl,SqT.of hp,rfl,x,y,n,rfl,hn,.inr ⟨bp,q'⟩⟩
abbrev oH:Stmt:=top 82
theorem p9:ap ["sheet","x","y","first","pieces","gone","told","piece","ring","part"] ["sheet","x","y"] (ai oH):=⟨rfl,rfl,rfl,by decide +kernel,rfl,by decide +kernel,by decide +kernel⟩
theorem wH (T:Tx K mg)(Y:Yx K mg)(F:aN K "rings" "rings" oH f fd .none)(C_leaf_at:Fok P w K mg base (CXe P w) 5 "leaf_at" ["sheet","x","y"] [] (iy Y)):aO P w K mg base (CXe P w) 6 f fd ["sheet","x","y"] (oo Y):=by
 refine F.okX p9 (fun vs H Q E h =>?_) (fun cdv A outer s H vs Q E hr h =>?_)
 ·obtain⟨_,_,_,_,rfl,_⟩:=h;rfl
 obtain⟨v,x,y,n,rfl,hs,bp,q'⟩:=h;refine⟨_,(ae (aE (i:=3) p9.nd rfl (Or.inl rfl) (aG C_leaf_at hr bj (aa (pv 0) (aa (pv 1) (aa (pv 2) af))))) (ae aY (ae aY (ae aY (ae aY (ag aY)))))),?_⟩;exact⟨_,rfl,_,rfl,_,rfl,v,x,y,n,rfl,hs,.inr ⟨bp,q'⟩⟩
abbrev eV:Stmt:=top 90
theorem dX:ap ["sheet","x","y","to_x","to_y","first","last","onward","way"] ["sheet","x","y","to_x","to_y"] (ai eV):=⟨rfl,rfl,rfl,by decide +kernel,rfl,by decide +kernel,by decide +kernel⟩
def v7 (Y:Yx K mg):Sp:=fun vs H Q E=>∃ (v:V) (x y:Int) (n:Nat),vs=[v,.int 0,.int 0,.int x,.int y]∧Sht H v n∧¬ gj n x y∧∀ H',al H H'→E (.ref Y.c_NoPlace) none H'
theorem mm (T:Tx K mg)(Y:Yx K mg)(F:aN K "way_between" "way_between" eV f fd .none)(C_leaf_at:Fok P w K mg base (CXe P w) 5 "leaf_at" ["sheet","x","y"] [] (iy Y)):aO P w K mg base (CXe P w) 6 f fd ["sheet","x","y","to_x","to_y"] (v7 Y):=by
 refine F.okX dX (fun vs H Q E h =>?_) (fun cdv A outer s H vs Q E hr h =>?_)
 ·obtain⟨_,_,_,_,rfl,_⟩:=h;rfl
 obtain⟨v,x,y,n,rfl,hs,bp,q'⟩:=h;refine⟨_,(ae (aE (i:=5) dX.nd rfl (Or.inl rfl) (aG C_leaf_at hr bj (aa (pv 0) (aa (pv 1) (aa (pv 2) af))))) (ae (aE (i:=6) dX.nd rfl (Or.inl rfl) (aG C_leaf_at hr bj (aa (pv 0) (aa (pv 3) (aa (pv 4) af))))) (ae aY (ae aY (ae aY (ae aY (ag aY))))))),?_⟩;refine⟨_,rfl,_,rfl,_,rfl,v,0,0,n,rfl,hs,.inl ⟨rfl,rfl,fun z H1 s1 =>?_⟩⟩;exact⟨_,rfl,_,rfl,_,rfl,v,x,y,n,rfl,hs.up s1,.inr ⟨bp,fun H' s'=>q' H' (s1.trans s')⟩⟩
abbrev dA:Stmt:=top 84
theorem i9:ap ["number","most"] ["number","most"] (ai dA):=⟨rfl,rfl,rfl,by decide +kernel,rfl,by decide +kernel,by decide +kernel⟩
def rp (Y:Yx K mg):Sp:=fun vs H Q E=>∃ (i m:Int),vs=[.int i,.int m]∧¬ (0≤i∧i≤m)∧E (.ref Y.c_NoLevel) none H
theorem jq (T:Tx K mg)(Y:Yx K mg)(q:bv (CXe P w))(F:aN K "need_number_to" "need_number_to" dA f fd .none)(C_is_whole:Fok P w K mg base (CXe P w) 1 "is_whole" ["thing"] [] dJ):aO P w K mg base (CXe P w) 2 f fd ["number","most"] (rp Y):=by
 refine F.okX i9 (fun vs H Q E h =>?_) (fun cdv A outer s H vs Q E hr h =>?_)
 ·obtain⟨_,_,rfl,_⟩:=h;rfl
 obtain⟨i,m,rfl,h,q'⟩:=h;refine⟨_,(ag (aV (PW.pt (eu (bP (bz (au C_is_whole q hr (aa (pv 0) af)))) (cV (bP (md gQ gQ ac (pv 0) (pv 1)))))) (ag (bf Y.x_NoLevel bD ah)) aA)),?_⟩;refine⟨_,rfl,i,rfl,_,rfl,cA ?_⟩;refine⟨_,rfl,_,_,rfl,rfl,_,rfl,bM (fun c0 =>?_) (fun c0=>⟨_,rfl,cD q'⟩)⟩;exact⟨_,rfl,_,_,rfl,rfl,_,rfl,yZ (fun z=>h ⟨Cd c0,z⟩) q'⟩
abbrev oJ:Stmt:=top 85
theorem we:ap ["sheet","number"] ["sheet","number"] (ai oJ):=⟨rfl,rfl,rfl,by decide +kernel,rfl,by decide +kernel,by decide +kernel⟩
def pX (Y:Yx K mg):Sp:=fun vs H Q E=>∃ (v:V) (k:Int) (n:Nat),vs=[v,.int k]∧Sht H v n∧¬ (0≤k∧k≤40 - n)∧E (.ref Y.c_NoLevel) none H
theorem wJ (T:Tx K mg)(Y:Yx K mg)(F:aN K "finer" "finer" oJ f fd .none)(C_need_number_to:Fok P w K mg base (CXe P w) 2 "need_number_to" ["number","most"] [] (rp Y)):aO P w K mg base (CXe P w) 3 f fd ["sheet","number"] (pX Y):=by
 refine F.okX we (fun vs H Q E h =>?_) (fun cdv A outer s H vs Q E hr h =>?_)
 ·obtain⟨_,_,_,rfl,_⟩:=h;rfl
 obtain⟨v,k,n,rfl,⟨t,⟨p,vt,rfl,hp,ht⟩,gt,hn⟩,bk,q'⟩:=h;refine⟨_,(ae (bL (aG C_need_number_to hr bj (aa (pv 1) (aa (ar j4 (fS T.c_MOST) (aq bg (pv 0) ac (fun _ _=>rfl))) af)))) (ag aY)),?_⟩;exact⟨_,rfl,_,rfl,p,_,_,_,rfl,rfl,SqT.of hp,rfl,_,_,rfl,rfl,k,_,rfl,bk,q'⟩
abbrev jX:Stmt:=top 88
theorem rL:ap ["sheet","number"] ["sheet","number"] (ai jX):=⟨rfl,rfl,rfl,by decide +kernel,rfl,by decide +kernel,by decide +kernel⟩
def lN (Y:Yx K mg):Sp:=fun vs H Q E=>∃ (v:V) (k:Int) (n:Nat),vs=[v,.int k]∧Sht H v n∧¬ (0≤k∧k≤n)∧E (.ref Y.c_NoLevel) none H
theorem su (T:Tx K mg)(Y:Yx K mg)(F:aN K "coarser" "coarser" jX f fd .none)(C_need_number_to:Fok P w K mg base (CXe P w) 2 "need_number_to" ["number","most"] [] (rp Y)):aO P w K mg base (CXe P w) 3 f fd ["sheet","number"] (lN Y):=by
 refine F.okX rL (fun vs H Q E h =>?_) (fun cdv A outer s H vs Q E hr h =>?_)
 ·obtain⟨_,_,_,rfl,_⟩:=h;rfl
 obtain⟨v,k,n,rfl,⟨t,⟨p,vt,rfl,hp,ht⟩,gt,hn⟩,bk,q'⟩:=h;refine⟨_,(ae (bL (aG C_need_number_to hr bj (aa (pv 1) (aa (aq bg (pv 0) ac (fun _ _=>rfl)) af)))) (ag aY)),?_⟩;exact⟨_,rfl,_,rfl,p,_,_,_,rfl,rfl,SqT.of hp,rfl,k,_,rfl,bk,q'⟩
end
inductive Dn | plain | part | window | over | paint | put | lay | finer | coarser | at_ | rings | steps | beyond
inductive b_ {K:PySem.W.Frag}{mg:Str→Option Value}(Y:Yx K mg)(H:Hp):Dn→List V→Addr→Prop
 | plain {x:V} {l c:Int}:¬ (0≤l∧l≤40)→b_ Y H .plain [x,.int l,.int c] Y.c_NoLevel
 | part {x v:V} {n:Nat} {w:List Nat}:Sht H v n→icB w=true→n < w.length→b_ Y H .part [x,v,.str (tx w)] Y.c_NoCode
 | window {x v a b c:V} {n:Nat} {k:Int}:Sht H v n→(6 < n∨¬ (0≤k∧k≤6))→b_ Y H .window [x,v,a,b,.int k,c] Y.c_NoLevel
 | over {x v u c:V} {n m:Nat}:Sht H v n→Sht H u m→n≠m→b_ Y H .over [x,v,u,c] Y.c_NoLevel
 | paint {v c:V} {n:Nat} {w:List Nat}:Sht H v n→icB w=true→n < w.length→b_ Y H .paint [v,.str (tx w),c] Y.c_NoCode
 | putC {v u:V} {n m:Nat} {w:List Nat}:Sht H v n→Sht H u m→icB w=true→n < w.length→b_ Y H .put [v,.str (tx w),u] Y.c_NoCode
 | putL {v u:V} {n m:Nat} {w:List Nat}:Sht H v n→Sht H u m→icB w=true→w.length≤n→m≠n - w.length→b_ Y H .put [v,.str (tx w),u] Y.c_NoLevel
 | lay {v a b u:V} {n m:Nat}:Sht H v n→Sht H u m→(6 < n∨6 < m)→b_ Y H .lay [v,a,b,u] Y.c_NoLevel
 | finer {v:V} {n:Nat} {k:Int}:Sht H v n→¬ (0≤k∧k≤40 - n)→b_ Y H .finer [v,.int k] Y.c_NoLevel
 | coarser {v:V} {n:Nat} {k:Int}:Sht H v n→¬ (0≤k∧k≤n)→b_ Y H .coarser [v,.int k] Y.c_NoLevel
 | at_ {v:V} {n:Nat} {x y:Int}:Sht H v n→¬ gj n x y→b_ Y H .at_ [v,.int x,.int y] Y.c_NoPlace
 | rings {v:V} {n:Nat} {x y:Int}:Sht H v n→¬ gj n x y→b_ Y H .rings [v,.int x,.int y] Y.c_NoPlace
 | steps {v:V} {n:Nat} {x y:Int}:Sht H v n→¬ gj n x y→b_ Y H .steps [v,.int 0,.int 0,.int x,.int y] Y.c_NoPlace
 | beyond {v s:V} {n:Nat} {w:List Nat}:Sht H v n→icB w=true→n < w.length→b_ Y H .beyond [v,.str (tx w),s] Y.c_NoLeaf
theorem b_.up {K:PySem.W.Frag}{mg:Str→Option Value}{Y:Yx K mg}{H H':Hp}{dn:Dn}{gs:List V}{c:Addr}(s:al H H')(h:b_ Y H dn gs c):b_ Y H' dn gs c:=by
 cases h with
 | plain h=>exact .plain h
 | part a b c=>exact .part (a.up s) b c
 | window a b=>exact .window (a.up s) b
 | over a b c=>exact .over (a.up s) (b.up s) c
 | paint a b c=>exact .paint (a.up s) b c
 | putC a b c d=>exact .putC (a.up s) (b.up s) c d
 | putL a b c d e=>exact .putL (a.up s) (b.up s) c d e
 | lay a b c=>exact .lay (a.up s) (b.up s) c
 | finer a b=>exact .finer (a.up s) b
 | coarser a b=>exact .coarser (a.up s) b
 | at_ a b=>exact .at_ (a.up s) b
 | rings a b=>exact .rings (a.up s) b
 | steps a b=>exact .steps (a.up s) b
 | beyond a b c=>exact .beyond (a.up s) b c
section
variable {P:Program}{w:World}{K:PySem.W.Frag}{mg:Str→Option Value}{base:Heap}{CX:CXT}{f:Addr}{fd:FuncData}
def cf (Y:Yx K mg)(dn:Dn):Sp:=fun vs H _ E=>∃ (l:Addr) (gs:List V) (c:Addr),vs=[.ref l]∧H l=some (.lst gs)∧b_ Y H dn gs c∧∀ H',al H H'→E (.ref c) none H'
abbrev fM:Stmt:=top 123
theorem m4:ap ["given"] ["given"] (ai fM):=⟨rfl,rfl,rfl,by decide +kernel,rfl,by decide +kernel,by decide +kernel⟩
def io (Y:Yx K mg):Sp:=fun vs H Q E=>∃ (p:Addr) (x:V) (l c:Int),vs=[.ref p]∧H p=some (.lst [x,.int l,.int c])∧((¬ (0≤l∧l≤40)∧E (.ref Y.c_NoLevel) none H)∨(∃ n:Nat,l=n∧n≤40∧(0≤c∧c≤35)∧∀ v H',al H H'→fB H' v n (.col c)→Q v H'))
theorem ng (T:Tx K mg)(Y:Yx K mg)(F:aN K "made_plain" "made_plain" fM f fd .none)(C_plain:Fok P w K mg base (CXe P w) 4 "plain" ["level","colour"] [] (pV Y)):aO P w K mg base (CXe P w) 7 f fd ["given"] (io Y):=by
 refine F.okX m4 (fun vs H Q E h =>?_) (fun cdv A outer s H vs Q E hr h =>?_)
 ·obtain⟨_,_,_,_,rfl,_⟩:=h;rfl
 obtain⟨p,x,l,c,rfl,hp,h⟩:=h;refine⟨_,(ag (av (aG C_plain hr bj (aa (aq ao (pv 0) ac (fun _ _=>rfl)) (aa (aq ao (pv 0) ac (fun _ _=>rfl)) af))))),?_⟩;exact⟨_,rfl,p,_,_,_,rfl,rfl,SqL.of hp,rfl,_,rfl,p,_,_,_,rfl,rfl,SqL.of hp,rfl,l,c,rfl,h⟩
abbrev dQ:Stmt:=top 124
theorem jK:ap ["given"] ["given"] (ai dQ):=⟨rfl,rfl,rfl,by decide +kernel,rfl,by decide +kernel,by decide +kernel⟩
def ku:Sp:=fun vs H Q _=>∃ (p:Addr) (x v:V),vs=[.ref p]∧H p=some (.lst [x,v])∧Q v H
theorem j7 (T:Tx K mg)(F:aN K "made_as_it_is" "made_as_it_is" dQ f fd .none):aO P w K mg base CX 7 f fd ["given"] ku:=by
 refine F.ok jK (fun vs H Q E h =>?_) (fun cdv A outer s H vs Q E hr h =>?_)
 ·obtain⟨_,_,_,rfl,_⟩:=h;rfl
 obtain⟨p,x,v,rfl,hp,q'⟩:=h;refine⟨_,(ag (av (aq ao (pv 0) ac (fun _ _=>rfl)))),?_⟩;exact⟨_,rfl,p,_,_,_,rfl,rfl,SqL.of hp,rfl,q'⟩
abbrev gF:Stmt:=top 125
theorem oz:ap ["given"] ["given"] (ai gF):=⟨rfl,rfl,rfl,by decide +kernel,rfl,by decide +kernel,by decide +kernel⟩
theorem oZ (T:Tx K mg)(Y:Yx K mg)(F:aN K "made_part" "made_part" gF f fd .none)(C_part_at:Fok P w K mg base (CXe P w) 3 "part_at" ["sheet","code"] [] (tq Y)):aO P w K mg base (CXe P w) 7 f fd ["given"] (cf Y .part):=by
 refine F.okX oz (fun vs H Q E h =>?_) (fun cdv A outer s H vs Q E hr h =>?_)
 ·obtain⟨_,_,_,rfl,_⟩:=h;rfl
 obtain⟨p,gs,c,rfl,hp,dn,e⟩:=h;refine⟨_,(ag (av (aG C_part_at hr bj (aa (aq ao (pv 0) ac (fun _ _=>rfl)) (aa (aq ao (pv 0) ac (fun _ _=>rfl)) af))))),?_⟩;cases dn with
 | part a b c=>exact⟨_,rfl,p,_,_,_,rfl,rfl,SqL.of hp,rfl,_,rfl,p,_,_,_,rfl,rfl,SqL.of hp,rfl,_,_,_,rfl,a,b,c,e⟩
abbrev eZ:Stmt:=top 126
theorem lS:ap ["given"] ["given"] (ai eZ):=⟨rfl,rfl,rfl,by decide +kernel,rfl,by decide +kernel,by decide +kernel⟩
theorem ms (T:Tx K mg)(Y:Yx K mg)(F:aN K "made_window" "made_window" eZ f fd .none)(C_window:Fok P w K mg base (CXe P w) 4 "window" ["sheet","x","y","level","colour"] [] (nE Y)):aO P w K mg base (CXe P w) 7 f fd ["given"] (cf Y .window):=by
 refine F.okX lS (fun vs H Q E h =>?_) (fun cdv A outer s H vs Q E hr h =>?_)
 ·obtain⟨_,_,_,rfl,_⟩:=h;rfl
 obtain⟨p,gs,c,rfl,hp,dn,e⟩:=h;refine⟨_,(ag (av (aG C_window hr bj (aa (aq ao (pv 0) ac (fun _ _=>rfl)) (aa (aq ao (pv 0) ac (fun _ _=>rfl)) (aa (aq ao (pv 0) ac (fun _ _=>rfl)) (aa (aq ao (pv 0) ac (fun _ _=>rfl)) (aa (aq ao (pv 0) ac (fun _ _=>rfl)) af)))))))),?_⟩;cases dn with
 | window a b=>exact⟨_,rfl,p,_,_,_,rfl,rfl,SqL.of hp,rfl,_,rfl,p,_,_,_,rfl,rfl,SqL.of hp,rfl,_,rfl,p,_,_,_,rfl,rfl,SqL.of hp,rfl,_,rfl,p,_,_,_,rfl,rfl,SqL.of hp,rfl,_,rfl,p,_,_,_,rfl,rfl,SqL.of hp,rfl,_,_,_,_,_,_,rfl,a,b,e H (al.refl H)⟩
abbrev gG:Stmt:=top 127
theorem oA:ap ["given"] ["given"] (ai gG):=⟨rfl,rfl,rfl,by decide +kernel,rfl,by decide +kernel,by decide +kernel⟩
theorem o0 (T:Tx K mg)(Y:Yx K mg)(F:aN K "made_over" "made_over" gG f fd .none)(C_over:Fok P w K mg base (CXe P w) 2 "over" ["lower","upper","clear"] [] (tw Y)):aO P w K mg base (CXe P w) 7 f fd ["given"] (cf Y .over):=by
 refine F.okX oA (fun vs H Q E h =>?_) (fun cdv A outer s H vs Q E hr h =>?_)
 ·obtain⟨_,_,_,rfl,_⟩:=h;rfl
 obtain⟨p,gs,c,rfl,hp,dn,e⟩:=h;refine⟨_,(ag (av (aG C_over hr bj (aa (aq ao (pv 0) ac (fun _ _=>rfl)) (aa (aq ao (pv 0) ac (fun _ _=>rfl)) (aa (aq ao (pv 0) ac (fun _ _=>rfl)) af)))))),?_⟩;cases dn with
 | over a b c=>exact⟨_,rfl,p,_,_,_,rfl,rfl,SqL.of hp,rfl,_,rfl,p,_,_,_,rfl,rfl,SqL.of hp,rfl,_,rfl,p,_,_,_,rfl,rfl,SqL.of hp,rfl,_,_,_,_,_,rfl,a,b,c,e⟩
abbrev d_:Stmt:=top 128
theorem kH:ap ["given"] ["given"] (ai d_):=⟨rfl,rfl,rfl,by decide +kernel,rfl,by decide +kernel,by decide +kernel⟩
theorem kN (T:Tx K mg)(Y:Yx K mg)(F:aN K "made_painted" "made_painted" d_ f fd .none)(C_painted:Fok P w K mg base (CXe P w) 3 "painted" ["sheet","code","colour"] [] (pW Y)):aO P w K mg base (CXe P w) 7 f fd ["given"] (cf Y .paint):=by
 refine F.okX kH (fun vs H Q E h =>?_) (fun cdv A outer s H vs Q E hr h =>?_)
 ·obtain⟨_,_,_,rfl,_⟩:=h;rfl
 obtain⟨p,gs,c,rfl,hp,dn,e⟩:=h;refine⟨_,(ag (av (aG C_painted hr bj (aa (aq ao (pv 0) ac (fun _ _=>rfl)) (aa (aq ao (pv 0) ac (fun _ _=>rfl)) (aa (aq ao (pv 0) ac (fun _ _=>rfl)) af)))))),?_⟩;cases dn with
 | paint a b c=>exact⟨_,rfl,p,_,_,_,rfl,rfl,SqL.of hp,rfl,_,rfl,p,_,_,_,rfl,rfl,SqL.of hp,rfl,_,rfl,p,_,_,_,rfl,rfl,SqL.of hp,rfl,_,_,_,_,rfl,a,b,c,e⟩
abbrev iD:Stmt:=top 133
theorem p_:ap ["given"] ["given"] (ai iD):=⟨rfl,rfl,rfl,by decide +kernel,rfl,by decide +kernel,by decide +kernel⟩
theorem qp (T:Tx K mg)(Y:Yx K mg)(F:aN K "made_put" "made_put" iD f fd .none)(C_put_in:Fok P w K mg base (CXe P w) 3 "put_in" ["sheet","code","other"] [] (v9 Y)):aO P w K mg base (CXe P w) 7 f fd ["given"] (cf Y .put):=by
 refine F.okX p_ (fun vs H Q E h =>?_) (fun cdv A outer s H vs Q E hr h =>?_)
 ·obtain⟨_,_,_,rfl,_⟩:=h;rfl
 obtain⟨p,gs,c,rfl,hp,dn,e⟩:=h;refine⟨_,(ag (av (aG C_put_in hr bj (aa (aq ao (pv 0) ac (fun _ _=>rfl)) (aa (aq ao (pv 0) ac (fun _ _=>rfl)) (aa (aq ao (pv 0) ac (fun _ _=>rfl)) af)))))),?_⟩;cases dn with
 | putC a b c d=>exact⟨_,rfl,p,_,_,_,rfl,rfl,SqL.of hp,rfl,_,rfl,p,_,_,_,rfl,rfl,SqL.of hp,rfl,_,rfl,p,_,_,_,rfl,rfl,SqL.of hp,rfl,_,_,_,_,_,rfl,a,b,c,.inl ⟨d,e⟩⟩
 | putL a b c d d'=>exact⟨_,rfl,p,_,_,_,rfl,rfl,SqL.of hp,rfl,_,rfl,p,_,_,_,rfl,rfl,SqL.of hp,rfl,_,rfl,p,_,_,_,rfl,rfl,SqL.of hp,rfl,_,_,_,_,_,rfl,a,b,c,.inr ⟨d,d',e⟩⟩
abbrev gH:Stmt:=top 134
theorem oB:ap ["given"] ["given"] (ai gH):=⟨rfl,rfl,rfl,by decide +kernel,rfl,by decide +kernel,by decide +kernel⟩
theorem o_ (T:Tx K mg)(Y:Yx K mg)(F:aN K "made_laid" "made_laid" gH f fd .none)(C_laid:Fok P w K mg base (CXe P w) 4 "laid" ["sheet","x","y","other"] [] (tD Y)):aO P w K mg base (CXe P w) 7 f fd ["given"] (cf Y .lay):=by
 refine F.okX oB (fun vs H Q E h =>?_) (fun cdv A outer s H vs Q E hr h =>?_)
 ·obtain⟨_,_,_,rfl,_⟩:=h;rfl
 obtain⟨p,gs,c,rfl,hp,dn,e⟩:=h;refine⟨_,(ag (av (aG C_laid hr bj (aa (aq ao (pv 0) ac (fun _ _=>rfl)) (aa (aq ao (pv 0) ac (fun _ _=>rfl)) (aa (aq ao (pv 0) ac (fun _ _=>rfl)) (aa (aq ao (pv 0) ac (fun _ _=>rfl)) af))))))),?_⟩;cases dn with
 | lay a b c=>exact⟨_,rfl,p,_,_,_,rfl,rfl,SqL.of hp,rfl,_,rfl,p,_,_,_,rfl,rfl,SqL.of hp,rfl,_,rfl,p,_,_,_,rfl,rfl,SqL.of hp,rfl,_,rfl,p,_,_,_,rfl,rfl,SqL.of hp,rfl,_,_,_,_,_,_,rfl,b,a,c.symm,e H (al.refl H)⟩
abbrev fN:Stmt:=top 135
theorem m5:ap ["given"] ["given"] (ai fN):=⟨rfl,rfl,rfl,by decide +kernel,rfl,by decide +kernel,by decide +kernel⟩
theorem ni (T:Tx K mg)(Y:Yx K mg)(F:aN K "made_finer" "made_finer" fN f fd .none)(C_finer:Fok P w K mg base (CXe P w) 3 "finer" ["sheet","number"] [] (pX Y)):aO P w K mg base (CXe P w) 7 f fd ["given"] (cf Y .finer):=by
 refine F.okX m5 (fun vs H Q E h =>?_) (fun cdv A outer s H vs Q E hr h =>?_)
 ·obtain⟨_,_,_,rfl,_⟩:=h;rfl
 obtain⟨p,gs,c,rfl,hp,dn,e⟩:=h;refine⟨_,(ag (av (aG C_finer hr bj (aa (aq ao (pv 0) ac (fun _ _=>rfl)) (aa (aq ao (pv 0) ac (fun _ _=>rfl)) af))))),?_⟩;cases dn with
 | finer a b=>exact⟨_,rfl,p,_,_,_,rfl,rfl,SqL.of hp,rfl,_,rfl,p,_,_,_,rfl,rfl,SqL.of hp,rfl,_,_,_,rfl,a,b,e H (al.refl H)⟩
abbrev eh:Stmt:=top 136
theorem kI:ap ["given"] ["given"] (ai eh):=⟨rfl,rfl,rfl,by decide +kernel,rfl,by decide +kernel,by decide +kernel⟩
theorem kO (T:Tx K mg)(Y:Yx K mg)(F:aN K "made_coarser" "made_coarser" eh f fd .none)(C_coarser:Fok P w K mg base (CXe P w) 3 "coarser" ["sheet","number"] [] (lN Y)):aO P w K mg base (CXe P w) 7 f fd ["given"] (cf Y .coarser):=by
 refine F.okX kI (fun vs H Q E h =>?_) (fun cdv A outer s H vs Q E hr h =>?_)
 ·obtain⟨_,_,_,rfl,_⟩:=h;rfl
 obtain⟨p,gs,c,rfl,hp,dn,e⟩:=h;refine⟨_,(ag (av (aG C_coarser hr bj (aa (aq ao (pv 0) ac (fun _ _=>rfl)) (aa (aq ao (pv 0) ac (fun _ _=>rfl)) af))))),?_⟩;cases dn with
 | coarser a b=>exact⟨_,rfl,p,_,_,_,rfl,rfl,SqL.of hp,rfl,_,rfl,p,_,_,_,rfl,rfl,SqL.of hp,rfl,_,_,_,rfl,a,b,e H (al.refl H)⟩
abbrev gD:Stmt:=top 139
theorem ow:ap ["given"] ["given"] (ai gD):=⟨rfl,rfl,rfl,by decide +kernel,rfl,by decide +kernel,by decide +kernel⟩
theorem oX (T:Tx K mg)(Y:Yx K mg)(F:aN K "told_sign" "told_sign" gD f fd .none)(C_colour_at:Fok P w K mg base (CXe P w) 5 "colour_at" ["sheet","x","y"] [] (oo Y)):aO P w K mg base (CXe P w) 7 f fd ["given"] (cf Y .at_):=by
 refine F.okX ow (fun vs H Q E h =>?_) (fun cdv A outer s H vs Q E hr h =>?_)
 ·obtain⟨_,_,_,rfl,_⟩:=h;rfl
 obtain⟨p,gs,c,rfl,hp,dn,e⟩:=h;refine⟨_,(ag (av (aq eE (fR T.c_SIGNS) (aG C_colour_at hr bj (aa (aq ao (pv 0) ac (fun _ _=>rfl)) (aa (aq ao (pv 0) ac (fun _ _=>rfl)) (aa (aq ao (pv 0) ac (fun _ _=>rfl)) af)))) (fun _ _=>rfl)))),?_⟩;cases dn with
 | at_ a b=>exact⟨_,rfl,p,_,_,_,rfl,rfl,SqL.of hp,rfl,_,rfl,p,_,_,_,rfl,rfl,SqL.of hp,rfl,_,rfl,p,_,_,_,rfl,rfl,SqL.of hp,rfl,_,_,_,_,rfl,a,b,e⟩
abbrev eW:Stmt:=top 143
theorem lP:ap ["given"] ["given"] (ai eW):=⟨rfl,rfl,rfl,by decide +kernel,rfl,by decide +kernel,by decide +kernel⟩
theorem mn (T:Tx K mg)(Y:Yx K mg)(F:aN K "told_beyond" "told_beyond" eW f fd .none)(C_beyond:Fok P w K mg base (CXe P w) 2 "beyond" ["sheet","code","side"] [] (nI Y)):aO P w K mg base (CXe P w) 7 f fd ["given"] (cf Y .beyond):=by
 refine F.okX lP (fun vs H Q E h =>?_) (fun cdv A outer s H vs Q E hr h =>?_)
 ·obtain⟨_,_,_,rfl,_⟩:=h;rfl
 obtain⟨p,gs,c,rfl,hp,dn,e⟩:=h;refine⟨_,(ag (av (dh PySem.F.plainAttrs_str PySem.F.slot_str_join PySem.F.type_str_join fV ah (aa (aG C_beyond hr bj (aa (aq ao (pv 0) ac (fun _ _=>rfl)) (aa (aq ao (pv 0) ac (fun _ _=>rfl)) (aa (aq ao (pv 0) ac (fun _ _=>rfl)) af)))) af)))),?_⟩;cases dn with
 | beyond a b c=>exact⟨rfl,_,rfl,p,_,_,_,rfl,rfl,SqL.of hp,rfl,_,rfl,p,_,_,_,rfl,rfl,SqL.of hp,rfl,_,rfl,p,_,_,_,rfl,rfl,SqL.of hp,rfl,_,_,_,_,rfl,a,b,c,e⟩
abbrev fJ:Stmt:=top 145
theorem iq:ap ["given","way"] ["given"] (ai fJ):=⟨rfl,rfl,rfl,by decide +kernel,rfl,by decide +kernel,by decide +kernel⟩
theorem m8 (T:Tx K mg)(Y:Yx K mg)(F:aN K "told_steps" "told_steps" fJ f fd .none)(C_way_between:Fok P w K mg base (CXe P w) 6 "way_between" ["sheet","x","y","to_x","to_y"] [] (v7 Y)):aO P w K mg base (CXe P w) 7 f fd ["given"] (cf Y .steps):=by
 refine F.okX iq (fun vs H Q E h =>?_) (fun cdv A outer s H vs Q E hr h =>?_)
 ·obtain⟨_,_,_,rfl,_⟩:=h;rfl
 obtain⟨p,gs,c,rfl,hp,dn,e⟩:=h;refine⟨_,(ae (aE (i:=1) iq.nd rfl (Or.inl rfl) (aG C_way_between hr bj (aa (aq ao (pv 0) ac (fun _ _=>rfl)) (aa (aq ao (pv 0) ac (fun _ _=>rfl)) (aa (aq ao (pv 0) ac (fun _ _=>rfl)) (aa (aq ao (pv 0) ac (fun _ _=>rfl)) (aa (aq ao (pv 0) ac (fun _ _=>rfl)) af))))))) (ae (aV (aB rW (pv 1) jZ (aK _)) (ag (av ah)) aA) (ag (av (bq bY rfl T.b_str eF (aa (ar j4 (ax bu rfl T.b_len ck (aa (pv 1) af)) ac) af)))))),?_⟩;cases dn with
 | steps a b=>exact⟨_,rfl,p,_,_,_,rfl,rfl,SqL.of hp,rfl,_,rfl,p,_,_,_,rfl,rfl,SqL.of hp,rfl,_,rfl,p,_,_,_,rfl,rfl,SqL.of hp,rfl,_,rfl,p,_,_,_,rfl,rfl,SqL.of hp,rfl,_,rfl,p,_,_,_,rfl,rfl,SqL.of hp,rfl,_,_,_,_,rfl,a,b,e⟩
abbrev fK:Stmt:=top 146
theorem mY:ap ["given"] ["given"] (ai fK):=⟨rfl,rfl,rfl,by decide +kernel,rfl,by decide +kernel,by decide +kernel⟩
theorem m9 (T:Tx K mg)(Y:Yx K mg)(F:aN K "told_rings" "told_rings" fK f fd .none)(C_rings:Fok P w K mg base (CXe P w) 6 "rings" ["sheet","x","y"] [] (oo Y)):aO P w K mg base (CXe P w) 7 f fd ["given"] (cf Y .rings):=by
 refine F.okX mY (fun vs H Q E h =>?_) (fun cdv A outer s H vs Q E hr h =>?_)
 ·obtain⟨_,_,_,rfl,_⟩:=h;rfl
 obtain⟨p,gs,c,rfl,hp,dn,e⟩:=h;refine⟨_,(ag (av (bq bY rfl T.b_str eF (aa (ax bu rfl T.b_len ck (aa (aG C_rings hr bj (aa (aq ao (pv 0) ac (fun _ _=>rfl)) (aa (aq ao (pv 0) ac (fun _ _=>rfl)) (aa (aq ao (pv 0) ac (fun _ _=>rfl)) af)))) af)) af)))),?_⟩;cases dn with
 | rings a b=>exact⟨_,rfl,p,_,_,_,rfl,rfl,SqL.of hp,rfl,_,rfl,p,_,_,_,rfl,rfl,SqL.of hp,rfl,_,rfl,p,_,_,_,rfl,rfl,SqL.of hp,rfl,_,_,_,_,rfl,a,b,e⟩
abbrev gC:Stmt:=top 138
theorem ou:ap ["given"] ["given"] (ai gC):=⟨rfl,rfl,rfl,by decide +kernel,rfl,by decide +kernel,by decide +kernel⟩
def iY:Sp:=fun vs H Q _=>∃ (p:Addr) (v:V) (n:Nat) (t:Tr),vs=[.ref p]∧H p=some (.lst [v])∧fB H v n t∧bh n t∧n≤40∧cnt t≤1500∧∀ H',al H H'→Q (.str (tx (lv n++58::wr t))) H'
theorem oW (T:Tx K mg)(q:bv CX)(F:aN K "told_text" "told_text" gC f fd .none)(C_written:Fok P w K mg base CX 43 "written" ["sheet"] [] lH):aO P w K mg base CX 44 f fd ["given"] iY:=by
 refine F.ok ou (fun vs H Q E h =>?_) (fun cdv A outer s H vs Q E hr h =>?_)
 ·obtain⟨_,_,_,_,rfl,_⟩:=h;rfl
 obtain⟨p,v,n,t,rfl,hp,hv,gt,hn,hc,q'⟩:=h;refine⟨_,(ag (av (au C_written q hr (aa (aq ao (pv 0) ac (fun _ _=>rfl)) af)))),?_⟩;exact⟨_,rfl,p,_,_,_,rfl,rfl,SqL.of hp,rfl,v,t,n,rfl,hv,gt,hn,hc,q'⟩
end
inductive Kd | new | one | txt | num | col | cod | sid deriving DecidableEq
def Kd.wd:Kd→List Nat
 | .new=>[78,69,87]
 | .one=>[79,78,69]
 | .txt=>[84,69,88,84]
 | .num=>[78,85,77,66,69,82]
 | .col=>[67,79,76,79,85,82]
 | .cod=>[67,79,68,69]
 | .sid=>[83,73,68,69]
def dF (w0:List Nat)(ks:List Kd):Prop:=dk eQ (.inr (tx w0))=some (.str (tx (glu (ks.map Kd.wd))))∧ks≠[]∧ks.length≤6
def g_ (ws:List (List Nat)):Prop:=(∀ w∈ws,32∉w)∧(glu ws).length≤40000
theorem iT {w0:List Nat}{ks:List Kd}(h:dF w0 ks):Txt.split (tx (glu (ks.map Kd.wd))) (" " : Str)=(ks.map Kd.wd).map tx:=by
 refine nB (by simpa using h.2.1) fun w hw =>?_;obtain⟨k,_,rfl⟩:=DA.mp hw;cases k<;>decide
theorem y_:∀ ks:List Kd,(glu (ks.map Kd.wd)).length≤7 * ks.length
 | []=>B7 _
 | [k]=>by cases k<;>decide
 | k::k'::r=>by
  have:=y_ (k'::r)
  have e:k.wd.length≤6:=by cases k<;>decide
  show (k.wd++32::glu ((k'::r).map Kd.wd)).length≤_;rw[B3,B5,B5 (as:=k'::r)];omega
theorem rB:(((" " : Str).length) == 0)=false:=by decide +kernel
theorem qL {w0:List Nat}{ks:List Kd}(h:dF w0 ks):(tx (glu (ks.map Kd.wd))).length≤sizeLine:=by
 have:=y_ ks
 have:=h.2.2
 rw[aw];exact a9 (by omega)
theorem xg {w0:List Nat}{ks:List Kd}(h:dF w0 ks):(Txt.split (tx (glu (ks.map Kd.wd))) (" " : Str)).length≤sizeLine:=by
 rw[iT h,B_,B_];exact a9 (by have:=h.2.2;omega)
theorem xv {α:Type}(x:α)(xs:List α):atI (x::xs) 0=some x:=dH (j:=0) rfl
def kg (K:PySem.W.Frag)(H:Hp)(row:V):Prop:=(∃ ty,fg K H row ty∧PySem.W.kitOne K ty (.type "str")=some false) ∨
 ∃ w0 ws,row=.str (tx (glu (w0::ws)))∧g_ (w0::ws)∧(dk eQ (.inr (tx w0))=none∨∃ ks,dF w0 ks∧ws.length≠ks.length)
def dkv (D:List (List Nat × V)):List (Key × V):=D.map fun e=>(.inr (tx e.1),e.2)
theorem oa (w:List Nat):∀ D:List (List Nat × V),dk (dkv D) (.inr (tx w))=D.lookup w
 | []=>rfl
 | (n,v)::D=>by
  have ih:=oa w D;unfold dk at ih ⊢;show Option.map _ (List.find? _ ((.inr (tx n),v)::dkv D))=_;rw[C0,C5];by_cases h:w=n
  ·subst h;simp
  ·have h1:¬ (Sum.inr (tx n):Key)=Sum.inr (tx w):=fun z=>h (dO (Sum.inr.inj z)).symm;have h2:(w == n)=false:=by simpa using h
   simp only[Cg h1,h2];exact ih
inductive VL | v (x:V) | sh (n:Nat)(t:Tr)
def qX (H:Hp)(x:V):VL→Prop
 | .v y=>x=y
 | .sh n t=>fB H x n t∧bh n t
inductive VOk (D:List (List Nat × V)):Kd→List Nat→VL→Prop
 | new {w:List Nat}:ce w=true→VOk D .new w (.v (.str (tx w)))
 | one {w:List Nat} {x:V}:ce w=true→D.lookup w=some x→VOk D .one w (.v x)
 | txt {w:List Nat} {n:Nat} {t:Tr}:rdS w=some (n,t)→VOk D .txt w (.sh n t)
 | num {w:List Nat} {i:Int}:nwB w=true→intText? (tx w)=some i→VOk D .num w (.v (.int i))
 | col {c d:Nat}:sgI c=some d→VOk D .col [c] (.v (.int d))
 | cod {w:List Nat}:vy w=true→VOk D .cod w (.v (.str (tx (Ao w))))
 | sid {w:List Nat}:pY w=true→VOk D .sid w (.v (.str (tx w)))
inductive VNo {K:PySem.W.Frag}{mg:Str→Option Value}(Y:Yx K mg)(D:List (List Nat × V)):Kd→List Nat→Addr→Prop
 | new {w:List Nat}:ce w=false→VNo Y D .new w Y.c_NoName
 | one {w:List Nat}:ce w=false→VNo Y D .one w Y.c_NoName
 | none {w:List Nat}:ce w=true→D.lookup w=none→VNo Y D .one w Y.c_NoName
 | txt {w:List Nat}:rdS w=none→VNo Y D .txt w Y.c_NoText
 | num {w:List Nat}:nwB w=false→VNo Y D .num w Y.c_NoNumber
 | col {w:List Nat}:Bs w=none→VNo Y D .col w Y.c_NoColour
 | cod {w:List Nat}:vy w=false→VNo Y D .cod w Y.c_NoCode
 | sid {w:List Nat}:pY w=false→VNo Y D .sid w Y.c_NoSide
inductive kU (D:List (List Nat × V)):List Kd→List (List Nat)→List VL→Prop
 | nil:kU D [] [] []
 | cons {k:Kd} {w:List Nat} {r:VL} {ks:List Kd} {ws:List (List Nat)} {rs:List VL}:VOk D k w r→kU D ks ws rs→kU D (k::ks) (w::ws) (r::rs)
inductive pM {K:PySem.W.Frag}{mg:Str→Option Value}(Y:Yx K mg)(D:List (List Nat × V)):List Kd→List (List Nat)→Addr→Prop
 | here {k:Kd} {w:List Nat} {c:Addr} {ks:List Kd} {ws:List (List Nat)}:VNo Y D k w c→pM Y D (k::ks) (w::ws) c
 | there {k:Kd} {w:List Nat} {r:VL} {c:Addr} {ks:List Kd} {ws:List (List Nat)}:VOk D k w r→pM Y D ks ws c→pM Y D (k::ks) (w::ws) c
section
variable {P:Program}{w:World}{K:PySem.W.Frag}{mg:Str→Option Value}{base:Heap}{CX:CXT}{f:Addr}{fd:FuncData}
abbrev iA:Stmt:=top 113
theorem ky:ap ["row","words"] ["row"] (ai iA):=⟨rfl,rfl,rfl,by decide +kernel,rfl,by decide +kernel,by decide +kernel⟩
def ki (Y:Yx K mg):Sp:=fun vs H Q E=>∃ row:V,vs=[row]∧((kg K H row∧∀ H',al H H'→E (.ref Y.c_NoRow) none H') ∨
 (∃ w0 ws ks,row=.str (tx (glu (w0::ws)))∧g_ (w0::ws)∧dF w0 ks∧ws.length=ks.length∧∀ l H',al H H'→H' l=some (.lst ((w0::ws).map fun z=>V.str (tx z)))→Q (.ref l) H'))
theorem ql (T:Tx K mg)(Y:Yx K mg)(U:Ux P w K mg)(F:aN K "words_of" "words_of" iA f fd .none):aO P w K mg base (CXe P w) 1 f fd ["row"] (ki Y):=by
 obtain⟨aF,g_FORMS,kF,sF⟩:=U.forms;refine F.okX ky (fun vs H Q E h =>?_) (fun cdv A outer s H vs Q E hr h =>?_)
 ·obtain⟨_,rfl,_⟩:=h;rfl
 obtain⟨row,rfl,h⟩:=h;refine⟨_,(ae (aV (bP (bz (ax (bN "str") rfl T.b_isinstance ay (aa (pv 0) (aa (de T.b_str eF) af))))) (ag (bf Y.x_NoRow bD ah)) aA) (ae (aE (i:=1) ky.nd rfl (Or.inl rfl) (dh PySem.F.plainAttrs_str PySem.F.slot_str_split PySem.F.type_str_split my (pv 0) (aa ah af))) (ae (aV (aB rV (aq ao (pv 1) ac (fun _ _=>rfl)) (bB (v:=.ref _) rfl g_FORMS rfl) (by with_unfolding_all rfl)) (ag (bf Y.x_NoRow bD ah)) aA) (ae (aV (aB jm (ax bu rfl T.b_len ck (aa (pv 1) af)) (ar bC ac (ax bu rfl T.b_len ck (aa (dh PySem.F.plainAttrs_str PySem.F.slot_str_split PySem.F.type_str_split my (jl (bB (v:=.ref _) rfl g_FORMS rfl) (aq ao (pv 1) ac (fun _ _=>rfl)) (fun _ _=>rfl)) (aa ah af)) af))) (aK _)) (ag (bf Y.x_NoRow bD ah)) aA) (ag (av (pv 1))))))),?_⟩
 have key:(∃ ty,fg K H row ty∧PySem.W.kitOne K ty (.type "str")=some false∧E (.ref Y.c_NoRow) none H)∨∃ w0 ws,row=.str (tx (glu (w0::ws)))∧g_ (w0::ws)∧((dk eQ (.inr (tx w0))=none∧∀ H',al H H'→E (.ref Y.c_NoRow) none H') ∨
   ∃ ks,dF w0 ks∧((ws.length≠ks.length∧∀ H',al H H'→E (.ref Y.c_NoRow) none H')∨(ws.length=ks.length∧∀ l H',al H H'→H' l=some (.lst ((w0::ws).map fun z=>V.str (tx z)))→Q (.ref l) H'))):=by
  rcases h with⟨⟨ty,h1,h2⟩|⟨w0,ws,h1,h2,h3|⟨ks,h3,h4⟩⟩,q'⟩|⟨w0,ws,ks,h1,h2,h3,h4,q'⟩
  ·exact .inl ⟨ty,h1,h2,q' H (al.refl H)⟩
  ·exact .inr ⟨w0,ws,h1,h2,.inl ⟨h3,q'⟩⟩
  ·exact .inr ⟨w0,ws,h1,h2,.inr ⟨ks,h3,.inl ⟨h4,q'⟩⟩⟩
  ·exact .inr ⟨w0,ws,h1,h2,.inr ⟨ks,h3,.inr ⟨h4,q'⟩⟩⟩
 clear h
 rcases key with⟨ty,h1,h2,q'⟩|⟨w0,ws,rfl,rw0,h⟩
 ·exact⟨_,rfl,_,_,_,rfl,h1,h2,_,rfl,cD q'⟩
 have es:=nB (ws:=w0::ws) (by simp) rw0.1;have ln:=tS (w0::ws);have lr:=rw0.2;refine⟨_,rfl,_,_,_,rfl,.str _,sM,_,rfl,cA ?_⟩;refine⟨_,rfl,rfl,_,_,rfl,rfl,rB,Cq (show _≤40000 by rw[aw];exact lr) (by decide),?_,fun l hl =>?_⟩
 ·rw[es,B_];exact Cq (show _≤40001 by omega) (by decide)
 have s1:=al.new hl (.lst ((Txt.split (tx (glu (w0::ws))) (" " : Str)).map V.str))
 have u1:upd H l (.lst ((Txt.split (tx (glu (w0::ws))) (" " : Str)).map V.str)) l=some (.lst ((w0::ws).map fun z=>V.str (tx z))):=by
  rw[aj,es,C6];rfl
 generalize upd H l (.lst ((Txt.split (tx (glu (w0::ws))) (" " : Str)).map V.str))=H1 at *
 refine⟨_,rfl,l,_,_,_,rfl,rfl,SqL.of u1,xv (V.str (tx w0)) _,aF,_,.inr (tx w0),rfl,rfl,kF,sF,?_⟩;rcases h with⟨h,q'⟩ | ⟨ks,hf,h⟩
 ·rw[h];exact⟨_,rfl,cD (q' H1 s1)⟩
 rw[hf.1];refine⟨_,rfl,cA ?_⟩;refine⟨_,rfl,_,_,rfl,.inl ⟨_,SqL.of u1,rfl⟩,_,rfl,l,_,_,_,rfl,rfl,SqL.of u1,xv (V.str (tx w0)) _,aF,_,.inr (tx w0),_,rfl,rfl,kF,hf.1,rfl,_,_,rfl,rfl,rB,qL hf,xg hf,fun l2 hl2 =>?_⟩;have s2:=al.new hl2 (.lst ((Txt.split (tx (glu (ks.map Kd.wd))) (" " : Str)).map V.str))
 have u2:upd H1 l2 (.lst ((Txt.split (tx (glu (ks.map Kd.wd))) (" " : Str)).map V.str)) l2=some (.lst (ks.map fun k=>V.str (tx k.wd))):=by
  rw[aj,iT hf,C6,C6];rfl
 generalize upd H1 l2 (.lst ((Txt.split (tx (glu (ks.map Kd.wd))) (" " : Str)).map V.str))=H2 at *
 refine⟨_,_,rfl,.inl ⟨_,SqL.of u2,rfl⟩,_,_,rfl,rfl,rfl,_,rfl,?_⟩;rcases h with⟨ne,q'⟩ | ⟨eq,q'⟩
 ·refine bM (fun _=>q' H2 (s1.trans s2)) (fun c=>absurd ?_ ne);have c':¬ (!decide (V.int ((((w0::ws).map fun z=>V.str (tx z)).length:Nat):Int)=V.int (1 + (((ks.map fun k=>V.str (tx k.wd)).length:Nat):Int))))=true:=c;have c2:V.int ((((w0::ws).map fun z=>V.str (tx z)).length:Nat):Int)=V.int (1 + (((ks.map fun k=>V.str (tx k.wd)).length:Nat):Int)):=by simpa using c'
  injection c2 with c3;rw[B_,B_,B5]at c3;omega
 ·refine bM (fun c =>?_) (fun _=>⟨_,rfl,q' l H2 (s1.trans s2) (s2 _ _ u1)⟩);have c':(!decide (V.int ((((w0::ws).map fun z=>V.str (tx z)).length:Nat):Int)=V.int (1 + (((ks.map fun k=>V.str (tx k.wd)).length:Nat):Int))))=true:=c;rw[B_,B_,B5,eq,show ((ks.length + 1:Nat):Int)=1 + (ks.length:Int) by omega]at c';simp at c'
abbrev jP:Stmt:=top 114
theorem rG:ap ["word"] ["word"] (ai jP):=⟨rfl,rfl,rfl,by decide +kernel,rfl,by decide +kernel,by decide +kernel⟩
def lI (Y:Yx K mg)(k:Kd):Sp:=fun vs H Q E=>∃ w:List Nat,vs=[.str (tx w)]∧w.length≤40000∧((∃ x,VOk [] k w (.v x)∧∀ H',al H H'→Q x H')∨(∃ c,VNo Y [] k w c∧∀ H',al H H'→E (.ref c) none H'))
def iw (Y:Yx K mg):Sp:=fun vs H Q E=>∃ w:List Nat,vs=[.str (tx w)]∧w.length≤40000∧(ce w=true→∀ H',al H H'→Q (.str (tx w)) H')∧(ce w=false→∀ H',al H H'→E (.ref Y.c_NoName) none H')
theorem mr (T:Tx K mg)(Y:Yx K mg)(F:aN K "name_of" "name_of" jP f fd .none):aO P w K mg base (CXe P w) 1 f fd ["word"] (iw Y):=by
 refine F.okX rG (fun vs H Q E h =>?_) (fun cdv A outer s H vs Q E hr h =>?_)
 ·obtain⟨_,rfl,_⟩:=h;rfl
 obtain⟨w',rfl,lw,q1,q2⟩:=h;refine⟨_,(ae (aV (PW.pt (eu (bP (md gQ gQ ac (ax bu rfl T.b_len ck (aa (pv 0) af)) (fS T.c_MOST_LETTERS))) (cV (bP (bz (ax (jD rfl) rfl T.b_all pI (aa (dM (N':=["sign"]) [] [] [] 1 (by with_unfolding_all rfl) rfl b9 rfl rfl (by decide) rfl (by decide +kernel) rfl (by decide +kernel) rfl (oP (pv 0)) (fun C s0 H0 fp pins=>(aQ (i:=0) (show (["sign"]:List Str).Nodup by decide +kernel) rfl (Or.inl rfl) (Or.inr rfl))) (fun C s0 H0 fp pins=>(fT j6 (pv 0) (fR T.c_LETTERS) (by with_unfolding_all rfl)))) af))))))) (ag (bf Y.x_NoName bD ah)) aA) (ag (av (pv 0)))),?_⟩
 have ll:=aw w';have sm:(tx w').length≤sizeLine:=Cq (show _≤40000 by omega) (by decide);refine⟨_,rfl,_,_,rfl,⟨sm,rfl⟩,_,_,rfl,rfl,_,rfl,bM (fun c0 =>?_) (fun c0=>⟨_,rfl,cD (q2 ?_ H (al.refl H))⟩)⟩
 rotate_left
 ·have c':¬ (1:Int)≤((tx w').length:Int):=fun h=>c0 (B8 h);unfold ce;rw[Cg (by omega)];rfl
 have c0':(1:Int)≤((tx w').length:Int):=Cd c0;refine⟨_,_,rfl,rfl,_,rfl,?_⟩;have c8:decide (((tx w').length:Int)≤8)=decide (w'.length≤8):=decide_eq_decide.mpr ⟨fun h=>by omega,fun h=>by omega⟩;show if (!(decide (((tx w').length:Int)≤8)))=true then _ else _
 rw[c8];by_cases h8:w'.length≤8
 rotate_left
 ·rw[Cg h8];refine cD (q2 ?_ H (al.refl H));unfold ce;rw[Cg h8,Bool.false_and,Bool.and_false]
 rw[B8 h8];refine cA ⟨[],rfl,_,rfl,tx w',rfl,sX sO lw fun D H' s' u'=>⟨D,_,rfl,SqL.of u',?_⟩⟩;have e:((w'.map fun c=>decide (97≤c∧c≤122)).all id)=ce w':=by
  unfold ce;rw[B8 h8,B8 (show 1≤w'.length by omega),CS,CS,List.all_map];rfl
 rw[e];cases hn:ce w' with
 | true=>exact⟨_,rfl,cA ⟨_,rfl,q1 hn H' s'⟩⟩
 | false=>exact⟨_,rfl,cD (q2 hn H' s')⟩
abbrev eX:Stmt:=top 115
theorem lQ:ap ["word","kept"] ["word","kept"] (ai eX):=⟨rfl,rfl,rfl,by decide +kernel,rfl,by decide +kernel,by decide +kernel⟩
def gq (Y:Yx K mg):Sp:=fun vs H Q E=>∃ (w:List Nat) (kd:Addr) (D:List (List Nat × V)),vs=[.str (tx w),.ref kd]∧H kd=some (.dK (dkv D))∧w.length≤40000∧((∃ x,ce w=true∧D.lookup w=some x∧∀ H',al H H'→Q x H')∨((ce w=false∨(ce w=true∧D.lookup w=none))∧∀ H',al H H'→E (.ref Y.c_NoName) none H'))
theorem mo (T:Tx K mg)(Y:Yx K mg)(F:aN K "sheet_named" "sheet_named" eX f fd .none)(C_name_of:Fok P w K mg base (CXe P w) 1 "name_of" ["word"] [] (iw Y)):aO P w K mg base (CXe P w) 2 f fd ["word","kept"] (gq Y):=by
 refine F.okX lQ (fun vs H Q E h =>?_) (fun cdv A outer s H vs Q E hr h =>?_)
 ·obtain⟨_,_,_,rfl,_⟩:=h;rfl
 obtain⟨w',kd,D,rfl,hk,lw,h⟩:=h;refine⟨_,(ae (aV (aB (uK hr.dic) (aG C_name_of hr bj (aa (pv 0) af)) (pv 1) (by with_unfolding_all rfl)) (ag (bf Y.x_NoName bD ah)) aA) (ag (av (x6 hr.dic (pv 1) (pv 0) (fun _ _=>rfl))))),?_⟩;refine⟨_,rfl,w',rfl,lw,fun hn H1 s1 =>?_,fun hn =>?_⟩
 rotate_left
 ·rcases h with⟨x,h,_⟩|⟨_,q'⟩
  ·rw[h]at hn;cases hn
  ·exact q'
 have hk1:=s1 _ _ hk;have dg:=q9.k (k:=.inr (tx w')) hk1;rw[oa]at dg;refine⟨_,rfl,kd,D.lookup w',rfl,dg,_,rfl,?_⟩;rcases h with⟨x,_,hx,q'⟩ | ⟨h,q'⟩
 ·rw[hx]at dg ⊢;exact cA ⟨_,rfl,_,rfl,kd,x,rfl,dg,q' H1 s1⟩
 ·rcases h with h|⟨_,h⟩
  ·rw[h]at hn;cases hn
  ·rw[h];exact cD (q' H1 s1)
abbrev eo:Stmt:=top 116
theorem kJ:ap ["word"] ["word"] (ai eo):=⟨rfl,rfl,rfl,by decide +kernel,rfl,by decide +kernel,by decide +kernel⟩
theorem kP (T:Tx K mg)(Y:Yx K mg)(q:bv (CXe P w))(F:aN K "code_of_word" "code_of_word" eo f fd .none)(C_is_code:Fok P w K mg base (CXe P w) 1 "is_code" ["thing"] [] fG):aO P w K mg base (CXe P w) 3 f fd ["word"] (lI Y .cod):=by
 refine F.okX kJ (fun vs H Q E h =>?_) (fun cdv A outer s H vs Q E hr h =>?_)
 ·obtain⟨_,rfl,_⟩:=h;rfl
 obtain⟨w',rfl,lw,h⟩:=h;refine⟨_,(ae (aV (aB bS (pv 0) ah (aK _)) (ag (av ah)) aA) (ae (aV (PW.pt (eu (aB bS (pv 0) ah (aK _)) (cV (bP (bz (au C_is_code q hr (aa (pv 0) af))))))) (ag (bf Y.x_NoCode bD ah)) aA) (ag (av (pv 0))))),?_⟩;have em:("-" : Str)=tx [45]:=by decide +kernel
 have ee:("" : Str)=tx []:=by decide +kernel
 refine⟨_,rfl,rfl,_,rfl,bM (fun c =>?_) (fun c =>?_)⟩
 ·have c':V.str (tx w')=V.str ("-" : Str):=Cd c
  have e:w'=[45]:=dO (by rw[← em];exact V.str.inj c');subst e;rcases h with⟨x,v,q'⟩ | ⟨c,v,q'⟩
  ·cases v;rw[ee];exact q' H (al.refl H)
  ·cases v with | cod h=>exact absurd h (by decide)
 have n45:w'≠[45]:=fun e=>c (B8 (by rw[e,em]));have cv:Ao w'=w':=if_neg n45;refine⟨_,rfl,rfl,_,rfl,bM (fun c1 =>?_) (fun c1 =>?_)⟩
 ·have c':V.str (tx w')=V.str ("" : Str):=Cd c1
  have e:w'=[]:=dO (by rw[← ee];exact V.str.inj c');subst e;rcases h with⟨x,v,q'⟩ | ⟨c,v,q'⟩
  ·cases v with | cod h=>exact absurd h (by decide)
  ·cases v;exact q' H (al.refl H)
 have n0:w'≠[]:=fun e=>c1 (B8 (by rw[e,ee]));have cb:vy w'=icB w':=by
  unfold vy icB;rw[Cg n45,B8 n0,DL,CS]
 refine⟨_,rfl,w',rfl,lw,fun H1 s1 =>?_⟩;rw[← cb];rcases h with⟨x,v,q'⟩ | ⟨c,v,q'⟩
 ·cases v with
  | cod h =>
   rw[h];refine⟨_,rfl,cA ⟨_,rfl,?_⟩⟩;rw[cv]at q';exact q' H1 s1
 ·cases v with
  | cod h =>
   rw[h];exact⟨_,rfl,cD (q' H1 s1)⟩
abbrev dC:Stmt:=top 117
theorem eO:ap ["word","colour"] ["word"] (ai dC):=⟨rfl,rfl,rfl,by decide +kernel,rfl,by decide +kernel,by decide +kernel⟩
theorem jt (T:Tx K mg)(Y:Yx K mg)(q:bv (CXe P w))(F:aN K "colour_of_word" "colour_of_word" dC f fd .none)(C_colour_of:Fok P w K mg base (CXe P w) 1 "colour_of" ["word"] [] fH):aO P w K mg base (CXe P w) 3 f fd ["word"] (lI Y .col):=by
 refine F.okX eO (fun vs H Q E h =>?_) (fun cdv A outer s H vs Q E hr h =>?_)
 ·obtain⟨_,rfl,_⟩:=h;rfl
 obtain⟨w',rfl,lw,h⟩:=h;refine⟨_,(ae (aE (i:=1) eO.nd rfl (Or.inl rfl) (au C_colour_of q hr (aa (pv 0) af))) (ae (aV (aB rW (pv 1) jZ (aK _)) (ag (bf Y.x_NoColour bD ah)) aA) (ag (av (pv 1))))),?_⟩;refine⟨_,rfl,w',rfl,lw,fun c d e hd =>?_,fun hb =>?_⟩
 ·rcases h with⟨x,v,q'⟩|⟨c',v,q'⟩
  ·cases v with
   | col h =>
    cases e;rw[hd]at h;cases h;exact⟨_,rfl,rfl,_,rfl,bM (fun z=>absurd (Cd z) (by simp)) (fun _=>⟨_,rfl,q' H (al.refl H)⟩)⟩
  ·cases v with
   | col h =>
    rw[e]at h;rw[show Bs [c]=sgI c from rfl,hd]at h;cases h
 ·rcases h with⟨x,v,q'⟩|⟨c',v,q'⟩
  ·cases v with
   | col h =>
    rcases hb with (hb|⟨c,hb,hs⟩)|hb
    ·cases hb
    ·cases hb;rw[hs]at h;cases h
    ·exact absurd hb (by simp)
  ·cases v;exact⟨_,rfl,rfl,_,rfl,bM (fun _=>q' H (al.refl H)) (fun z=>absurd (B8 rfl) z)⟩
abbrev dy:Stmt:=top 118
theorem eL:ap ["word","figures"] ["word"] (ai dy):=⟨rfl,rfl,rfl,by decide +kernel,rfl,by decide +kernel,by decide +kernel⟩
theorem jo (T:Tx K mg)(Y:Yx K mg)(q:bv (CXe P w))(F:aN K "number_of_word" "number_of_word" dy f fd .none)(C_is_number_word:Fok P w K mg base (CXe P w) 1 "is_number_word" ["word","most"] [] cC):aO P w K mg base (CXe P w) 3 f fd ["word"] (lI Y .num):=by
 refine F.okX eL (fun vs H Q E h =>?_) (fun cdv A outer s H vs Q E hr h =>?_)
 ·obtain⟨_,rfl,_⟩:=h;rfl
 obtain⟨w',rfl,lw,h⟩:=h;refine⟨_,(ae (aE (i:=1) eL.nd rfl (Or.inl rfl) (ww (bz (dh PySem.F.plainAttrs_str PySem.F.slot_str_startswith PySem.F.type_str_startswith nk (pv 0) (aa ah af))) (ci eT (pv 0) (cm ac) c_) (pv 0))) (ae (aV (PW.pt (eu (aB bS (pv 0) ah (aK _)) (cV (bP (bz (au C_is_number_word q hr (aa (pv 1) (aa (fS T.c_MOST_FIGURES) af)))))))) (ag (bf Y.x_NoNumber bD ah)) aA) (ag (av (bq cu rfl T.b_int gY (aa (pv 0) af)))))),?_⟩;have ll:=aw w';have sm:(tx w').length≤sizeLine:=Cq (show _≤40000 by omega) (by decide);have em:("-0" : Str)=tx [45,48]:=by decide +kernel
 have key:∀ u:List Nat,u=mG w'→(rk
   (zp
    (tOr (vV (tOp rEq (bO 0) (tC (V.str (Str.ofString "-0")))))
     (AJ (tB (lF cC [] E0 (dS (bO 1) (dS (tC (V.int 30)) gk))))))
    (vW (tC (V.str (Str.ofString "no number"))) (Value.ref Y.c_NoNumber) E) vX)
   (zm
    (tCB (fun xs H Q=>∃ z n,xs=[V.str z]∧intText? z=some n∧z.length≤640∧Q (V.int n) H)
     (dS (bO 0) gk)))) { nx:=fun x H'=>Q V.non H',rt:=Q } [some (.str (tx w')),some (.str (tx u))] H:=by
  rintro u rfl;refine⟨_,rfl,rfl,_,rfl,bM (fun c =>?_) (fun c =>?_)⟩
  ·have c':V.str (tx w')=V.str ("-0" : Str):=Cd c
   have e:w'=[45,48]:=dO (by rw[← em];exact V.str.inj c');subst e;rcases h with⟨x,v,q'⟩ | ⟨c,v,q'⟩
   ·cases v with | num h=>exact absurd h (by decide)
   ·cases v;exact q' H (al.refl H)
  have n0:w'≠[45,48]:=fun e=>c (B8 (by rw[e,em]));have nb:nwB w'=mw 30 (mG w'):=by
   unfold nwB;rw[B8 n0,CS]
  have lf:(mG w').length≤w'.length:=by
   unfold mG
   split
   ·simp
   ·exact B7 _
  refine⟨_,rfl,mG w',30,rfl,by omega,fun H1 s1 =>?_⟩;rw[← nb];rcases h with⟨x,v,q'⟩ | ⟨c,v,q'⟩
  ·cases v with
   | num h hi =>
    have l3:w'.length≤31:=by
     have h2:=h;rw[nb]at h2;unfold mw at h2;have l30:(mG w').length≤30:=by
      rw[DQ]at h2;rcases h2 with h2 | h2
      ·rw[Cd h2];decide
      ·rw[Cy,Cy]at h2;exact Cd h2.2.1
     unfold mG at l30
     split at l30
     ·rw[CT]at l30;omega
     ·omega
    rw[h];exact⟨_,rfl,cA ⟨_,rfl,_,_,rfl,hi,by omega,q' H1 s1⟩⟩
  ·cases v with
   | num h =>
    rw[h];exact⟨_,rfl,cD (q' H1 s1)⟩
 refine⟨_,rfl,rfl,_,_,rfl,rfl,?_⟩;have es:Txt.startswith (tx w') ("-" : Str)=decide (w'[0]? = some 45):=by
  have em1:("-" : Str)=tx [45]:=by decide +kernel
  have l1:(tx [45]).length=1:=aw _;rw[em1];unfold Txt.startswith
  rw[l1,ll,PySem.StrLaws.subAt_eq,br,br,l1];cases w' with
  | nil=>rfl
  | cons a r =>
   simp only[DI,List.take_succ_cons,List.take_zero];simp
   rfl
 rw[es];by_cases c:w'[0]? = some 45
 ·rw[B8 c];have hp:0 < (tx w').length:=by
   cases w' with
   | nil=>cases c
   | cons a r=>rw[aw];simp
  have er:Txt.slice (tx w') (some 1) none=tx (w'.drop 1):=by
   rw[jH hp];unfold rst;rw[br];rfl
  refine⟨_,rfl,cD ⟨_,rfl,_,rfl,_,rfl,sm,?_⟩⟩;rw[er];exact key _ (by unfold mG;rw[if_pos c])
 ·rw[Cg c];exact⟨_,rfl,cA ⟨_,rfl,key w' (by unfold mG;rw[if_neg c])⟩⟩
abbrev dZ:Stmt:=top 119
theorem kG:ap ["word"] ["word"] (ai dZ):=⟨rfl,rfl,rfl,by decide +kernel,rfl,by decide +kernel,by decide +kernel⟩
theorem kL (T:Tx K mg)(Y:Yx K mg)(F:aN K "side_of_word" "side_of_word" dZ f fd .none)(C_need_side:Fok P w K mg base (CXe P w) 2 "need_side" ["side"] [] (iZ Y)):aO P w K mg base (CXe P w) 3 f fd ["word"] (lI Y .sid):=by
 refine F.okX kG (fun vs H Q E h =>?_) (fun cdv A outer s H vs Q E hr h =>?_)
 ·obtain⟨_,rfl,_⟩:=h;rfl
 obtain⟨w',rfl,lw,h⟩:=h;refine⟨_,(ae (bL (aG C_need_side hr bj (aa (pv 0) af))) (ag (av (pv 0)))),?_⟩;refine⟨_,rfl,w',rfl,fun hs =>?_,fun hs =>?_⟩
 ·rcases h with⟨x,v,q'⟩|⟨c,v,q'⟩
  ·cases v;exact⟨_,rfl,q' H (al.refl H)⟩
  ·cases v with | sid h=>rw[hs]at h;cases h
 ·rcases h with⟨x,v,q'⟩|⟨c,v,q'⟩
  ·cases v with | sid h=>rw[hs]at h;cases h
  ·cases v;exact q' H (al.refl H)
end
theorem eP {c A R:Prop}[Decidable c](h:c)(r:A):if decide c=true then A else R:=by rw[B8 h];exact r
theorem zh:∀ k k':Kd,tx k.wd=tx k'.wd→k=k':=by
 intro k k' h;have h':=dO h;cases k<;>cases k'<;>first | rfl | cases h'
theorem yY {z:Str}{k k':Kd}(hz:z=tx k'.wd):decide (V.str (tx k.wd)=V.str z)=decide (k=k'):=by
 rw[hz,decide_eq_decide];exact⟨fun h=>zh _ _ (V.str.inj h),fun h=>by rw[h]⟩
def sL (ks:List Key)(fs:List Addr):List (Key × V):=ks.zip (fs.map V.ref)
theorem gm {k:Key}{f:Addr}:∀ {ks:List Key} {fs:List Addr} {i:Nat},ks.findIdx? (fun x=>decide (x=k))=some i→fs[i]? = some f→dk (sL ks fs) k=some (.ref f)
 | [],_,_,h,_=>by simp at h
 | _::_,[],_,_,h=>by simp at h
 | x::ks,g::fs,i,h,hf=>by
  rw[List.findIdx?_cons]at h;unfold dk;show Option.map _ (List.find? _ ((x,.ref g)::sL ks fs))=_;rw[C0];by_cases c:x=k
  ·rw[B8 c]at h ⊢;simp only[if_true]at h;cases h;cases hf;rfl
  ·rw[Cg c]at h ⊢;simp only[Dg,if_false,C4]at h;obtain⟨j,hj,rfl⟩:=h;exact gm hj (by simpa using hf)
theorem pR {k:Key}:∀ {ks:List Key} {fs:List Addr},ks.findIdx? (fun x=>decide (x=k))=none→dk (sL ks fs) k=none
 | [],_,_=>rfl
 | _::_,[],_=>rfl
 | x::ks,g::fs,h=>by
  rw[List.findIdx?_cons]at h;unfold dk;show Option.map _ (List.find? _ ((x,.ref g)::sL ks fs))=_;rw[C0];by_cases c:x=k
  ·rw[B8 c]at h;simp at h
  ·rw[Cg c]at h ⊢;simp only[Dg,if_false,Dv]at h;exact pR h
def l9:List Key:=[.inr "NEW",.inr "CODE",.inr "COLOUR",.inr "NUMBER",.inr "SIDE"]
def wk:List Kd:=[.new,.cod,.col,.num,.sid]
def jw:List Key:=[.inr "plain",.inr "read",.inr "copy",.inr "part",.inr "window",.inr "over",.inr "paint",.inr "map",.inr "turn",.inr "mirror",.inr "swap",.inr "put",.inr "lay",.inr "finer",.inr "coarser"]
def fh:List Key:=[.inr "show",.inr "at",.inr "same",.inr "area",.inr "leaves",.inr "beyond",.inr "lands",.inr "steps",.inr "rings"]
structure Uf (P:Program)(w:World)(K:PySem.W.Frag)(mg:Str→Option Value)(fr fm ft:List Addr):Prop where
 read:∃ a,mg "READ_BY" = some (.ref a)∧KD P w K a (sL l9 fr)
 made:∃ a,mg "MADE_BY" = some (.ref a)∧KD P w K a (sL jw fm)
 told:∃ a,mg "TOLD_BY" = some (.ref a)∧KD P w K a (sL fh ft)∧(a == sysModules)=false
theorem qX.up {H H':Hp}{x:V}{r:VL}(h:qX H x r)(s:eG H H'):qX H' x r:=by
 cases r with
 | v y=>exact h
 | sh n t=>exact⟨h.1.up s,h.2⟩
theorem kU.get {D:List (List Nat × V)}{ks:List Kd}{ws:List (List Nat)}{rs:List VL}(h:kU D ks ws rs):∀ {i:Nat} {k:Kd} {w:List Nat},ks[i]? = some k→ws[i]? = some w→∃ r,rs[i]? = some r∧VOk D k w r:=by
 induction h with
 | nil=>intro i k w h;simp at h
 | cons a b ih =>
  intro i k w h1 h2;cases i with
  | zero =>
   cases h1;cases h2;exact⟨_,rfl,a⟩
  | succ i=>exact ih h1 h2
theorem kU.len {D:List (List Nat × V)}{ks:List Kd}{ws:List (List Nat)}{rs:List VL}(h:kU D ks ws rs):rs.length=ks.length∧ws.length=ks.length:=by
 induction h with
 | nil=>exact⟨rfl,rfl⟩
 | cons a b ih=>exact⟨Cs (· + 1) ih.1,Cs (· + 1) ih.2⟩
theorem qR (x:V)(xs:List V):gU (x::xs) (some 1) none=xs:=by
 have e1:HT.sIx (x::xs).length 0 (some 1)=1:=by
  unfold HT.sIx;simp
 have e2:HT.sIx (x::xs).length (x::xs).length none=xs.length + 1:=rfl;unfold gU;rw[e1,e2];simp
theorem tX {α:Type}{xs:List α}{i:Nat}{x:α}(h:xs[i]? = some x):xs.drop i=x::xs.drop (i + 1):=by
 obtain⟨h1,h2⟩:=Ck.mp h;rw[CW h1,h2]
section
variable {P:Program}{w:World}{K:PySem.W.Frag}{mg:Str→Option Value}{base:Heap}{CX:CXT}{f:Addr}{fd:FuncData}{fr fm ft:List Addr}
def FnR (Y:Yx K mg)(fr:List Addr):Addr→Sp→Prop:=fun f sp=>∃ (i:Nat) (k:Kd),wk[i]? = some k∧fr[i]? = some f∧sp=lI Y k
abbrev iC:Stmt:=top 121
theorem p8:ap ["kind","word","kept"] ["kind","word","kept"] (ai iC):=⟨rfl,rfl,rfl,by decide +kernel,rfl,by decide +kernel,by decide +kernel⟩
def pU (Y:Yx K mg):Sp:=fun vs H Q E=>∃ (k:Kd) (w:List Nat) (kd:Addr) (D:List (List Nat × V)),vs=[.str (tx k.wd),.str (tx w),.ref kd]∧H kd=some (.dK (dkv D))∧w.length≤40000 ∧
 ((∃ r,VOk D k w r∧∀ x H',al H H'→qX H' x r→Q x H')∨(∃ c,VNo Y D k w c∧∀ H',al H H'→E (.ref c) none H'))
theorem qo (T:Tx K mg)(Y:Yx K mg)(U:Uf P w K mg fr fm ft)(F:aN K "value_of" "value_of" iC f fd .none)(C_sheet_named:Fok P w K mg base (CXe P w) 2 "sheet_named" ["word","kept"] [] (gq Y))(C_read:Fok P w K mg base (CXe P w) 45 "read" ["text"] [] (tm Y))(E_READ_BY:mQ P w K mg base (CXe P w) 3 (FnR Y fr))(lr:fr.length=5):
  aO P w K mg base (CXe P w) 46 f fd ["kind","word","kept"] (pU Y):=by
 obtain⟨aR,g_READ_BY,kR⟩:=U.read;refine F.okX p8 (fun vs H Q E h =>?_) (fun cdv A outer s H vs Q E hr h =>?_)
 ·obtain⟨_,_,_,_,rfl,_⟩:=h;rfl
 obtain⟨k,w',kd,D,rfl,hk,lw,h⟩:=h;refine⟨_,(ae (aV (aB bS (pv 0) ah (aK _)) (ag (av (aG C_sheet_named hr bj (aa (pv 1) (aa (pv 2) af))))) aA) (ae (aV (aB bS (pv 0) ah (aK _)) (ag (av (aG C_read hr bj (aa (pv 1) af)))) aA) (ag (av (mi E_READ_BY hr bj (jl (bB (v:=.ref _) rfl g_READ_BY rfl) (pv 0) (fun _ _=>rfl)) (aa (pv 1) af)))))),?_⟩;refine⟨_,rfl,rfl,_,rfl,?_⟩;rw[yY (k':=.one) (by decide +kernel)];by_cases h1:k=.one
 ·subst h1;refine eP rfl ⟨_,rfl,_,rfl,w',kd,D,rfl,hk,lw,?_⟩;rcases h with⟨r,v,q'⟩ | ⟨c,v,q'⟩
  ·cases v with
   | one a b=>exact .inl ⟨_,a,b,fun H' s'=>q' _ H' s' rfl⟩
  ·cases v with
   | one a=>exact .inr ⟨.inl a,q'⟩
   | none a b=>exact .inr ⟨.inr ⟨a,b⟩,q'⟩
 refine ba h1 ⟨_,rfl,rfl,_,rfl,?_⟩;rw[yY (k':=.txt) (by decide +kernel)];by_cases h2:k=.txt
 ·subst h2;refine eP rfl ⟨_,rfl,_,rfl,.inl ⟨w',rfl,lw,fun n t e hn gt v H' s' hv =>?_,fun e =>?_⟩⟩
  ·rcases h with⟨r,v',q'⟩|⟨c,v',q'⟩
   ·cases v' with
    | txt a =>
     rw[e]at a;cases a;exact q' _ H' s' ⟨hv,gt⟩
   ·cases v' with
    | txt a =>
     rw[e]at a;cases a
  ·rcases h with⟨r,v',q'⟩|⟨c,v',q'⟩
   ·cases v' with
    | txt a =>
     rw[e]at a;cases a
   ·cases v';exact q'
 refine ba h2 ⟨_,rfl,?_⟩;have key:∃ i,wk[i]? = some k∧l9.findIdx? (fun x=>decide (x=.inr (tx k.wd)))=some i∧i < 5:=by
  cases k with
  | one=>exact absurd rfl h1
  | txt=>exact absurd rfl h2
  | new=>exact⟨0,rfl,by decide +kernel,by decide⟩
  | cod=>exact⟨1,rfl,by decide +kernel,by decide⟩
  | col=>exact⟨2,rfl,by decide +kernel,by decide⟩
  | num=>exact⟨3,rfl,by decide +kernel,by decide⟩
  | sid=>exact⟨4,rfl,by decide +kernel,by decide⟩
 obtain⟨i,i1,i2,i3⟩:=key;have hf:fr[i]? = some (fr[i]'(by omega)):=Cf (by omega);refine⟨aR,_,.inr (tx k.wd),_,rfl,rfl,kR,gm i2 hf,_,lI Y k,rfl,⟨i,k,i1,hf,rfl⟩,_,rfl,w',rfl,lw,?_⟩;rcases h with⟨r,v,q'⟩|⟨c,v,q'⟩
 ·refine .inl ?_;cases v with
  | one=>exact absurd rfl h1
  | txt=>exact absurd rfl h2
  | new a=>exact⟨_,.new a,fun H' s'=>q' _ H' s' rfl⟩
  | cod a=>exact⟨_,.cod a,fun H' s'=>q' _ H' s' rfl⟩
  | col a=>exact⟨_,.col a,fun H' s'=>q' _ H' s' rfl⟩
  | num a b=>exact⟨_,.num a b,fun H' s'=>q' _ H' s' rfl⟩
  | sid a=>exact⟨_,.sid a,fun H' s'=>q' _ H' s' rfl⟩
 ·refine .inr ?_;cases v with
  | one=>exact absurd rfl h1
  | none=>exact absurd rfl h1
  | txt=>exact absurd rfl h2
  | new a=>exact⟨_,.new a,q'⟩
  | cod a=>exact⟨_,.cod a,q'⟩
  | col a=>exact⟨_,.col a,q'⟩
  | num a=>exact⟨_,.num a,q'⟩
  | sid a=>exact⟨_,.sid a,q'⟩
abbrev gA:Stmt:=top 122
theorem i8:ap ["words","kept","kinds"] ["words","kept"] (ai gA):=⟨rfl,rfl,rfl,by decide +kernel,rfl,by decide +kernel,by decide +kernel⟩
def nG (Y:Yx K mg):Sp:=fun vs H Q E=>∃ (lw kd:Addr) (w0:List Nat) (ws:List (List Nat)) (ks:List Kd) (D:List (List Nat × V)),vs=[.ref lw,.ref kd]∧H lw=some (.lst ((w0::ws).map fun z=>V.str (tx z)))∧H kd=some (.dK (dkv D))∧g_ (w0::ws)∧dF w0 ks∧ws.length=ks.length ∧
 ((∃ rs,kU D ks ws rs∧∀ l xs H',al H H'→H' l=some (.lst xs)→xs.length=rs.length→(∀ (j:Nat) (x:V),xs[j]? = some x→∃ r,rs[j]? = some r∧qX H' x r)→Q (.ref l) H')∨(∃ c,pM Y D ks ws c∧∀ H',al H H'→E (.ref c) none H'))
theorem oV (T:Tx K mg)(Y:Yx K mg)(U:Ux P w K mg)(F:aN K "values_of" "values_of" gA f fd .none)(C_value_of:Fok P w K mg base (CXe P w) 46 "value_of" ["kind","word","kept"] [] (pU Y)):
  aO P w K mg base (CXe P w) 47 f fd ["words","kept"] (nG Y):=by
 obtain⟨aF,g_FORMS,kF,sF⟩:=U.forms;refine F.okX i8 (fun vs H Q E h =>?_) (fun cdv A outer s H vs Q E hr h =>?_)
 ·obtain⟨_,_,_,_,_,_,rfl,_⟩:=h;rfl
 obtain⟨l,kd,w0,ws,ks,D,rfl,hl,hk,rw0,hf,ln,h⟩:=h;refine⟨_,(ae (aE (i:=2) i8.nd rfl (Or.inl rfl) (dh PySem.F.plainAttrs_str PySem.F.slot_str_split PySem.F.type_str_split my (jl (bB (v:=.ref _) rfl g_FORMS rfl) (aq ao (pv 0) ac (fun _ _=>rfl)) (fun _ _=>rfl)) (aa ah af))) (ag (av (wz (N':=["kind","word","kept"]) ["kept"] ["kept"] [1] 2 (by with_unfolding_all rfl) rfl (c5 rfl rfl (by decide) b9) rfl rfl (by decide) rfl (by decide +kernel) rfl (by decide +kernel) rfl (zC rfl T.b_zip (aa (pv 2) (aa (ci ot (pv 0) (cm ac) c_) af))) (fun C s0 H0 fp pins=>(tG (K:=K) (n:=2) rfl (bJ (aQ (i:=0) (show (["kind","word","kept"]:List Str).Nodup by decide +kernel) rfl (Or.inl rfl) (Or.inr rfl)) (bJ (aQ (i:=1) (show (["kind","word","kept"]:List Str).Nodup by decide +kernel) rfl (Or.inl rfl) (Or.inr rfl)) fQ)))) (fun C s0 H0 fp pins at_=>(aG C_value_of hr (AZ ⟨rfl,rfl,rfl,rfl,rfl⟩ at_) (aa (pv 0) (aa (pv 1) (aa (pv 2) af))))))))),?_⟩
 refine⟨_,rfl,l,_,_,_,rfl,rfl,SqL.of hl,xv (V.str (tx w0)) _,aF,_,.inr (tx w0),_,rfl,rfl,kF,hf.1,rfl,_,_,rfl,rfl,rB,qL hf,xg hf,fun l2 hl2 =>?_⟩;have s2:=al.new hl2 (.lst ((Txt.split (tx (glu (ks.map Kd.wd))) (" " : Str)).map V.str))
 have u2:upd H l2 (.lst ((Txt.split (tx (glu (ks.map Kd.wd))) (" " : Str)).map V.str)) l2=some (.lst (ks.map fun k=>V.str (tx k.wd))):=by
  rw[aj,iT hf,C6,C6];rfl
 generalize upd H l2 (.lst ((Txt.split (tx (glu (ks.map Kd.wd))) (" " : Str)).map V.str))=H2 at *
 refine⟨[.ref kd],rfl,_,rfl,?_⟩;refine⟨_,rfl,_,rfl,l,_,rfl,SqL.of (s2 _ _ hl),fun l3 hl3 =>?_⟩;have u3:upd H2 l3 (.lst (gU ((w0::ws).map fun z=>V.str (tx z)) (some 1) none)) l3=some (.lst (ws.map fun z=>V.str (tx z))):=by
  rw[aj,Ct,qR]
 have s3:=s2.trans (al.new hl3 (.lst (gU ((w0::ws).map fun z=>V.str (tx z)) (some 1) none)));have u2':=al.new hl3 (.lst (gU ((w0::ws).map fun z=>V.str (tx z)) (some 1) none)) _ _ u2;generalize upd H2 l3 (.lst (gU ((w0::ws).map fun z=>V.str (tx z)) (some 1) none))=H3 at *
 clear u2 s2 hl2 hl3
 have hk3:=s3 _ _ hk;refine⟨l2,l3,.l,.l,rfl,⟨_,SqL.of u2'⟩,⟨_,SqL.of u3⟩,vw (ks.map fun k=>V.str (tx k.wd)) (ws.map fun z=>V.str (tx z)) (fun Dd (i:Nat) ys H'=>al H3 H'∧H' Dd=some (.lst ys)∧ys.length=i ∧
  ((∃ rs,kU D ks ws rs∧(∀ l xs H',al H H'→H' l=some (.lst xs)→xs.length=rs.length→(∀ (j:Nat) (x:V),xs[j]? = some x→∃ r,rs[j]? = some r∧qX H' x r)→Q (.ref l) H')∧∀ (j:Nat) (x:V),ys[j]? = some x→∃ r,rs[j]? = some r∧qX H' x r) ∨
   (∃ c,pM Y D (ks.drop i) (ws.drop i) c∧∀ H',al H H'→E (.ref c) none H'))) (a9 (by rw[B_];have:=hf.2.2;omega)) (fun Dd i ys H' h=>⟨SqL.of (h.1 _ _ u2'),SqL.of (h.1 _ _ u3)⟩) (fun Dd i ys H' h=>⟨h.2.1,by rw[h.2.2.1];exact B7 _⟩) (fun Dd hD=>⟨al.new hD _,aj,rfl,?_⟩) ?_ ?_ ?_ ?_⟩
 ·rcases h with⟨rs,vo,q'⟩|⟨c,vn,q'⟩
  ·exact .inl ⟨rs,vo,q',fun j x hx=>by simp at hx⟩
  ·exact .inr ⟨c,vn,q'⟩
 ·rintro Dd i x y p ys H' hx hy hD ⟨b1,b2,b3,b4⟩ hp;rw[CK]at hx hy;obtain⟨k,hki,rfl⟩:=C4.mp hx;obtain⟨wi,hwi,rfl⟩:=C4.mp hy;have s4:=al.new hp (.tup [V.str (tx k.wd),V.str (tx wi)]);have u4:upd H' p (.tup [V.str (tx k.wd),V.str (tx wi)]) p=some (.tup [V.str (tx k.wd),V.str (tx wi)]):=aj;have c2:=s4 _ _ b2;generalize upd H' p (.tup [V.str (tx k.wd),V.str (tx wi)])=H4 at *;have lwi:wi.length≤40000:=by
   have:=tR (ws:=w0::ws) (w:=wi) (by simp[Cw hwi])
   have:=rw0.2
   omega
  have b14:=b1.trans s4;refine⟨p,_,rfl,SqT.of u4,rfl,_,_,rfl,_,_,rfl,rfl,rfl,_,rfl,_,rfl,_,rfl,k,wi,kd,D,rfl,b14 _ _ hk3,lwi,?_⟩;rcases b4 with⟨rs,vo,q',hv⟩ | ⟨c,vn,q'⟩
  ·obtain⟨r,hr',vr⟩:=vo.get hki hwi;refine .inl ⟨r,vr,fun v H5 s5 hvl=>⟨s5 _ _ c2,al.set (b14.trans s5) hD _,aj,by simp[b3],.inl ⟨rs,vo,q',fun j x hj =>?_⟩⟩⟩;have tU:eG H5 (upd H5 Dd (.lst (ys++[v]))):=eG.lst (s5 _ _ c2);rcases Dt j ys.length with hj'|hj'
   ·rw[Cz hj']at hj;obtain⟨r',e1,e2⟩:=hv j x hj;exact⟨r',e1,e2.up ((s4.trans s5).tups.trans tU)⟩
   ·rw[CG hj']at hj;have e0:j - ys.length=0:=by
     rcases e:j - ys.length with _|n
     ·rfl
     ·rw[e]at hj;simp at hj
    rw[e0]at hj;cases hj;exact⟨r,by rw[show j=i by omega];exact hr',hvl.up tU⟩
  ·rw[tX hki,tX hwi]at vn;cases vn with
   | here vn=>exact .inr ⟨c,vn,fun H5 s5=>q' H5 (s3.trans (b14.trans s5))⟩
   | there vr vn=>exact .inl ⟨_,vr,fun v H5 s5 hvl=>⟨s5 _ _ c2,al.set (b14.trans s5) hD _,aj,by simp[b3],.inr ⟨c,vn,q'⟩⟩⟩
 ·rintro Dd ys H' hD ⟨b1,b2,b3,b4⟩;rw[B_,B_,ln,Nat.min_self]at b3;rcases b4 with⟨rs,vo,q',hv⟩ | ⟨c,vn,q'⟩
  ·exact q' Dd ys H' (s3.trans b1) b2 (by rw[b3];exact vo.len.1.symm) hv
  ·rw[B_,B_,ln,Nat.min_self,List.drop_of_length_le (B7 _)]at vn;cases vn
 ·intro x σ H' R R' k h;obtain⟨p,xs,rfl,h1,h2,v1,r1,rfl,v2,r2,rfl,rfl,h⟩:=h;exact⟨p,_,rfl,h1,h2,_,_,rfl,_,_,rfl,rfl,k _ _ h⟩
 ·intro σ H' R R' k h;obtain⟨a1,e1,a2,e2,a3,e3,kk,w1,kd',D',f1,f2,f3,h⟩:=h;refine⟨a1,e1,a2,e2,a3,e3,kk,w1,kd',D',f1,f2,f3,?_⟩;rcases h with⟨r,vr,q'⟩ | h
  ·exact .inl ⟨r,vr,fun x H5 s5 z=>k _ _ (q' x H5 s5 z)⟩
  ·exact .inr h
end
def Dn.nm:Dn→List Nat
 | .plain=>[112,108,97,105,110]
 | .part=>[112,97,114,116]
 | .window=>[119,105,110,100,111,119]
 | .over=>[111,118,101,114]
 | .paint=>[112,97,105,110,116]
 | .put=>[112,117,116]
 | .lay=>[108,97,121]
 | .finer=>[102,105,110,101,114]
 | .coarser=>[99,111,97,114,115,101,114]
 | .at_=>[97,116]
 | .rings=>[114,105,110,103,115]
 | .steps=>[115,116,101,112,115]
 | .beyond=>[98,101,121,111,110,100]
def Dn.told:Dn→Option Nat
 | .at_=>some 1
 | .beyond=>some 5
 | .steps=>some 7
 | .rings=>some 8
 | _=>none
def Dn.made:Dn→Nat
 | .part=>3
 | .window=>4
 | .over=>5
 | .paint=>6
 | .put=>11
 | .lay=>12
 | .finer=>13
 | .coarser=>14
 | _=>0
structure Dc (K:PySem.W.Frag)(C:Addr):Prop where
 cls:Cls K C
 na:iU K C "kept"
def cW (C:Addr)(H:Hp)(d dx kd:Addr)(D:List (List Nat × V)):Prop:=H d=some (.ins C dx [("kept",.ref kd)])∧H kd=some (.dK (dkv D))
theorem cW.up {C:Addr}{H H':Hp}{d dx kd:Addr}{D:List (List Nat × V)}(h:cW C H d dx kd D)(s:al H H'):cW C H' d dx kd D:=⟨s _ _ h.1,s _ _ h.2⟩
theorem xU {k:Key}{v:V}:∀ {kvs:List (Key × V)},dk kvs k=none→jj kvs k v=kvs++[(k,v)]:=by
 intro kvs h;unfold jj;rw[if_neg];intro z;obtain⟨kv,h1,h2⟩:=List.any_eq_true.mp z;unfold dk at h;rw[Dv,DH]at h;exact h kv h1 h2
theorem tF {D:List (List Nat × V)}{n:List Nat}{v:V}(h:D.lookup n=none):jj (dkv D) (.inr (tx n)) v=dkv (D++[(n,v)]):=by
 rw[xU (by rw[oa];exact h)];unfold dkv;rw[CD];rfl
theorem vK {H:Hp}{xs gs:List V}{rs:List VL}(e:rs=gs.map .v)(lx:xs.length=rs.length)(hv:∀ (j:Nat) (x:V),xs[j]? = some x→∃ r,rs[j]? = some r∧qX H x r):xs=gs:=by
 subst e;rw[B_]at lx;refine List.ext_getElem lx fun j h1 h2 =>?_;obtain⟨r,e1,e2⟩:=hv j xs[j] (Cf h1);rw[CK,Cf h2]at e1;cases e1;exact e2
section
variable {P:Program}{w:World}{K:PySem.W.Frag}{mg:Str→Option Value}{base:Heap}{CX:CXT}{f:Addr}{fd:FuncData}{fr fm ft:List Addr}{C:Addr}
def FnM (Y:Yx K mg)(fm:List Addr):Addr→Sp→Prop:=fun f sp=>(fm[0]? = some f∧sp=io Y)∨(fm[1]? = some f∧sp=ku)∨∃ dn:Dn,dn.told=none∧dn.made≠0∧fm[dn.made]? = some f∧sp=cf Y dn
def FnT (Y:Yx K mg)(ft:List Addr):Addr→Sp→Prop:=fun f sp=>(ft[0]? = some f∧sp=iY)∨∃ (dn:Dn) (i:Nat),dn.told=some i∧ft[i]? = some f∧sp=cf Y dn
abbrev lX:Stmt:=zc (top 148) 0
theorem uy:ap ["self"] ["self"] (ai lX):=⟨rfl,rfl,rfl,by decide +kernel,rfl,by decide +kernel,by decide +kernel⟩
def on (C:Addr):Sp:=fun vs H Q _=>∃ (d dx:Addr),vs=[.ref d]∧H d=some (.ins C dx [])∧∀ kd,H kd=none→Q .non (upd (upd H kd (.dK [])) d (.ins C dx [("kept",.ref kd)]))
theorem yh (T:Tx K mg)(dc:Dc K C)(F:aN K "__init__" "Desk.__init__" lX f fd .none):aO P w K mg base CX 1 f fd ["self"] (on C):=by
 refine F.ok uy (fun vs H Q E h =>?_) (fun cdv A outer s H vs Q E hr h =>?_)
 ·obtain⟨_,_,rfl,_⟩:=h;rfl
 obtain⟨d,dx,rfl,hd,q'⟩:=h;refine⟨_,(ag (zB (pv 0) wy (iX rfl))),?_⟩;intro kd hkd;have ne:d≠kd:=fun e=>by rw[← e,hd]at hkd;cases hkd
 exact⟨_,rfl,d,C,dx,[],rfl,by rw[aL ne];exact hd,dc.cls,dc.na,by decide,q' kd hkd⟩
abbrev wg:Stmt:=zc (top 148) 1
theorem ox:ap ["self","row","words","given","first"] ["self","row"] (ai wg):=⟨rfl,rfl,rfl,by decide +kernel,rfl,by decide +kernel,by decide +kernel⟩
def BZ (Y:Yx K mg)(H:Hp)(Q:VK)(E:XK)(kd:Addr)(D:List (List Nat × V))(w0:List Nat)(ws:List (List Nat))(rs:List VL):Prop :=
 (∃ dn gs c,w0=dn.nm∧rs=gs.map .v∧b_ Y H dn gs c∧∀ H',al H H'→E (.ref c) none H') ∨
 (∃ n z x l t,w0=[114,101,97,100]∧ws=[n,z]∧rs=[.v x,.sh l t]∧D.lookup n=none∧∀ v H1,al H H1→fB H1 v l t→bh l t→Q (.str "ok") (upd H1 kd (.dK (dkv (D++[(n,v)]))))) ∨
 (∃ (n a b:List Nat) (x:V) (l:Nat) (c:Int),w0=[112,108,97,105,110]∧ws=[n,a,b]∧rs=[.v x,.v (.int l),.v (.int c)]∧l≤40∧(0≤c∧c≤35)∧D.lookup n=none∧∀ v H1,al H H1→fB H1 v l (.col c)→Q (.str "ok") (upd H1 kd (.dK (dkv (D++[(n,v)]))))) ∨
 (∃ (v:V) (l:Nat) (t:Tr),w0=[115,104,111,119]∧rs=[.v v]∧fB H v l t∧bh l t∧l≤40∧cnt t≤1500∧∀ H',al H H'→Q (.str (tx (lv l++58::wr t))) H')
def oj (Y:Yx K mg)(C:Addr):Sp:=fun vs H Q E=>∃ (d dx kd:Addr) (D:List (List Nat × V)) (row:V),vs=[.ref d,row]∧cW C H d dx kd D∧D.length≤10∧((kg K H row∧∀ H',al H H'→E (.ref Y.c_NoRow) none H') ∨
 ∃ w0 ws ks,row=.str (tx (glu (w0::ws)))∧g_ (w0::ws)∧dF w0 ks∧ws.length=ks.length∧((∃ c,pM Y D ks ws c∧∀ H',al H H'→E (.ref c) none H')∨∃ rs,kU D ks ws rs∧BZ Y H Q E kd D w0 ws rs))
theorem zJ (T:Tx K mg)(Y:Yx K mg)(dc:Dc K C)(U:Uf P w K mg fr fm ft)(lm:fm.length=15)(lt:ft.length=9)(F:aN K "say" "Desk.say" wg f fd .none)(C_words_of:Fok P w K mg base (CXe P w) 1 "words_of" ["row"] [] (ki Y))(C_values_of:Fok P w K mg base (CXe P w) 47 "values_of" ["words","kept"] [] (nG Y))(E_MADE_BY:mQ P w K mg base (CXe P w) 7 (FnM Y fm))(E_TOLD_BY:mQ P w K mg base (CXe P w) 44 (FnT Y ft)):
  aO P w K mg base (CXe P w) 48 f fd ["self","row"] (oj Y C):=by
 obtain⟨aM,g_MADE_BY,kM⟩:=U.made;obtain⟨aT,g_TOLD_BY,kT,sT⟩:=U.told;refine F.okX ox (fun vs H Q E h =>?_) (fun cdv A outer s H vs Q E hr h =>?_)
 ·obtain⟨_,_,_,_,_,rfl,_⟩:=h;rfl
 obtain⟨d,dx,kd,D,row,rfl,hd,lD,h⟩:=h;refine⟨_,(ae (aE (i:=2) ox.nd rfl (Or.inl rfl) (aG C_words_of hr bj (aa (pv 1) af))) (ae (aE (i:=3) ox.nd rfl (Or.inl rfl) (aG C_values_of hr bj (aa (pv 2) (aa (wx (pv 0) rfl) af)))) (ae (aE (i:=4) ox.nd rfl (Or.inl rfl) (aq ao (pv 2) ac (fun _ _=>rfl))) (ae (aV (aB yb (pv 4) (bB (v:=.ref _) rfl g_TOLD_BY rfl) (by with_unfolding_all rfl)) (ag (av (mi E_TOLD_BY hr bj (jl (bB (v:=.ref _) rfl g_TOLD_BY rfl) (pv 4) (fun _ _=>rfl)) (aa (pv 3) af)))) aA) (ae (aV (aB bS (pv 4) ah (aK _)) (ag aY) (ag (xX hr.dic (wx (pv 0) rfl) (aq ao (pv 2) ac (fun _ _=>rfl)) (mi E_MADE_BY hr bj (jl (bB (v:=.ref _) rfl g_MADE_BY rfl) (pv 4) (fun _ _=>rfl)) (aa (pv 3) af)) (iX rfl)))) (ag (av ah))))))),?_⟩;refine⟨_,rfl,row,rfl,?_⟩;rcases h with⟨bad,q'⟩|⟨w0,ws,ks,rfl,hrow,hf,ln,h⟩
 ·exact .inl ⟨bad,q'⟩
 refine .inr ⟨w0,ws,ks,rfl,hrow,hf,ln,fun l H1 s1 u1 =>?_⟩;have hd1:=hd.up s1;refine⟨_,rfl,_,rfl,d,C,dx,_,.ref kd,rfl,hd1.1,dc.cls,dc.na,rfl,l,kd,w0,ws,ks,D,rfl,u1,hd1.2,hrow,hf,ln,?_⟩;rcases h with⟨c,vn,q'⟩ | ⟨rs,vo,h⟩
 ·exact .inr ⟨c,vn,fun H' s'=>q' H' (s1.trans s')⟩
 refine .inl ⟨rs,vo,fun l2 xs H2 s2 u2 lx hv =>?_⟩;have s12:=s1.trans s2;have hd2:=hd.up s12;have u12:=s2 _ _ u1;refine⟨_,rfl,l,_,_,_,rfl,rfl,SqL.of u12,xv (V.str (tx w0)) _,?_⟩
 suffices key:(∃ (i:Nat) (f:Addr) (sp:Sp),fh.findIdx? (fun x=>decide (x=.inr (tx w0)))=some i∧ft[i]? = some f∧FnT Y ft f sp∧sp [.ref l2] H2 Q E) ∨
   (∃ (i:Nat) (f:Addr) (sp:Sp) (n:List Nat) (r:List (List Nat)),fh.findIdx? (fun x=>decide (x=.inr (tx w0)))=none∧w0≠[100,114,111,112]∧jw.findIdx? (fun x=>decide (x=.inr (tx w0)))=some i∧fm[i]? = some f∧FnM Y fm f sp∧ws=n::r ∧
    (∀ R:VK,(∀ v H3,al H2 H3→Q (.str "ok") (upd H3 kd (.dK (jj (dkv D) (.inr (tx n)) v)))→R v H3)→sp [.ref l2] H2 R E)) by
  refine⟨_,rfl,aT,_,.inr (tx w0),rfl,rfl,kT,sT,_,rfl,?_⟩;rcases key with⟨i,f,sp,h1,h2,h3,h4⟩ | ⟨i,f,sp,n,r,h0,hd',h1,h2,h3,rfl,h4⟩
  ·rw[gm h1 h2];exact cD ⟨_,rfl,aT,_,.inr (tx w0),_,rfl,rfl,kT,gm h1 h2,f,sp,rfl,h3,_,rfl,h4⟩
  ·rw[pR h0];refine cA ⟨_,rfl,rfl,_,rfl,bM (fun c =>?_) (fun c =>?_)⟩
   ·have c':V.str (tx w0)=V.str ("drop" : Str):=Cd c
    exact absurd (dO ((V.str.inj c').trans (show ("drop" : Str)=tx [100,114,111,112] by decide +kernel))) hd'
   refine⟨_,rfl,aM,_,.inr (tx w0),_,rfl,rfl,kM,gm h1 h2,f,sp,rfl,h3,_,rfl,h4 _ fun v H3 s3 q' =>?_⟩;have hd3:=hd2.up s3;exact⟨_,rfl,d,C,dx,_,.ref kd,rfl,hd3.1,dc.cls,dc.na,rfl,_,rfl,l,_,_,_,rfl,rfl,SqL.of (s3 _ _ u12),dH (j:=1) rfl,kd,_,rfl,.inl ⟨_,.inr (tx n),hd3.2,rfl,De (show _≤10 by unfold dkv;rw[B_];exact lD) (by decide),rfl⟩,q'⟩
 have at15:∀ i,i < 15→∃ f,fm[i]? = some f:=fun i hi=>⟨_,Cf (by omega)⟩;have at9:∀ i,i < 9→∃ f,ft[i]? = some f:=fun i hi=>⟨_,Cf (by omega)⟩;rcases h with⟨dn,gs,c,rfl,hr',dno,q'⟩ | ⟨n,z,x,lv',t,rfl,rfl,hr',hno,q'⟩ | ⟨n,a,b,x,lv',c,rfl,rfl,hr',hl,hc,hno,q'⟩ | ⟨v,lv',t,rfl,hr',hs,gt,hl,hc,q'⟩
 ·have exs:=vK hr' lx hv;subst exs;have dno2:=dno.up s12;obtain⟨n,r,hw⟩:∃ n r,ws=n::r:=by
   cases ws with
   | nil=>exact absurd (List.length_eq_zero_iff.mp (show ks.length=0 by rw[← ln];rfl)) hf.2.1
   | cons n r=>exact⟨n,r,rfl⟩
  have way:(∃ i,dn.told=some i∧i < 9∧fh.findIdx? (fun x=>decide (x=.inr (tx dn.nm)))=some i)∨(dn.told=none∧dn.made≠0∧dn.made < 15∧fh.findIdx? (fun x=>decide (x=.inr (tx dn.nm)))=none∧dn.nm≠[100,114,111,112]∧jw.findIdx? (fun x=>decide (x=.inr (tx dn.nm)))=some dn.made)∨dn=.plain:=by
   cases dn with
   | plain=>exact .inr (.inr rfl)
   | at_=>exact .inl ⟨1,rfl,by decide,by decide +kernel⟩
   | beyond=>exact .inl ⟨5,rfl,by decide,by decide +kernel⟩
   | steps=>exact .inl ⟨7,rfl,by decide,by decide +kernel⟩
   | rings=>exact .inl ⟨8,rfl,by decide,by decide +kernel⟩
   | part=>exact .inr (.inl ⟨rfl,by decide,by decide,by decide +kernel,by decide,by decide +kernel⟩)
   | window=>exact .inr (.inl ⟨rfl,by decide,by decide,by decide +kernel,by decide,by decide +kernel⟩)
   | over=>exact .inr (.inl ⟨rfl,by decide,by decide,by decide +kernel,by decide,by decide +kernel⟩)
   | paint=>exact .inr (.inl ⟨rfl,by decide,by decide,by decide +kernel,by decide,by decide +kernel⟩)
   | put=>exact .inr (.inl ⟨rfl,by decide,by decide,by decide +kernel,by decide,by decide +kernel⟩)
   | lay=>exact .inr (.inl ⟨rfl,by decide,by decide,by decide +kernel,by decide,by decide +kernel⟩)
   | finer=>exact .inr (.inl ⟨rfl,by decide,by decide,by decide +kernel,by decide,by decide +kernel⟩)
   | coarser=>exact .inr (.inl ⟨rfl,by decide,by decide,by decide +kernel,by decide,by decide +kernel⟩)
  rcases way with⟨i,h1,h2,h3⟩|⟨h1,h2,h3,h4,h5,h6⟩|rfl
  ·obtain⟨f,hf'⟩:=at9 i h2;exact .inl ⟨i,f,cf Y dn,h3,hf',.inr ⟨dn,i,h1,hf',rfl⟩,l2,xs,c,rfl,u2,dno2,fun H' s'=>q' H' (s12.trans s')⟩
  ·obtain⟨f,hf'⟩:=at15 _ h3;exact .inr ⟨_,f,cf Y dn,n,r,h4,h5,h6,hf',.inr (.inr ⟨dn,h1,h2,hf',rfl⟩),hw,fun R hR=>⟨l2,xs,c,rfl,u2,dno2,fun H' s'=>q' H' (s12.trans s')⟩⟩
  ·obtain⟨f,hf'⟩:=at15 0 (by decide);refine .inr ⟨0,f,_,n,r,by decide +kernel,by decide,by decide +kernel,hf',.inl ⟨hf',rfl⟩,hw,fun R hR =>?_⟩;cases dno2 with
   | plain h=>exact⟨l2,_,_,_,rfl,u2,.inl ⟨h,q' H2 s12⟩⟩
 ·obtain⟨f,hf'⟩:=at15 1 (by decide);subst hr';obtain⟨y,u,rfl⟩:∃ y u,xs=[y,u]:=by
   match xs,lx with
   | [y,u],_=>exact⟨y,u,rfl⟩
  obtain⟨_,e1,e2⟩:=hv 1 u rfl;cases e1;refine .inr ⟨1,f,_,n,[z],by decide +kernel,by decide,by decide +kernel,hf',.inr (.inl ⟨hf',rfl⟩),rfl,fun R hR=>⟨l2,y,u,rfl,u2,hR u H2 (al.refl H2) ?_⟩⟩;rw[tF hno];exact q' u H2 s12 e2.1 e2.2
 ·obtain⟨f,hf'⟩:=at15 0 (by decide);have exs:=vK (gs:=[x,.int lv',.int c]) hr' lx hv;subst exs;refine .inr ⟨0,f,_,n,[a,b],by decide +kernel,by decide,by decide +kernel,hf',.inl ⟨hf',rfl⟩,rfl,fun R hR=>⟨l2,x,lv',c,rfl,u2,.inr ⟨lv',rfl,hl,hc,fun v H3 s3 hs=>hR v H3 s3 ?_⟩⟩⟩;rw[tF hno];exact q' v H3 (s12.trans s3) hs
 ·obtain⟨f,hf'⟩:=at9 0 (by decide);have exs:=vK (gs:=[v]) hr' lx hv;subst exs;exact .inl ⟨0,f,_,by decide +kernel,hf',.inl ⟨hf',rfl⟩,l2,v,lv',t,rfl,u2,hs.up s12.tups,gt,hl,hc,fun H' s'=>q' H' (s12.trans s')⟩
end
theorem tE {a b c d:Tr}(ha:a.deep≤60)(hb:b.deep≤60)(hc:c.deep≤60)(hd:d.deep≤60):SeqAt.shaped (.list [a.data,b.data,c.data,d.data])=true:=by
 have e1:(PyData.list [a.data,b.data,c.data,d.data]).canLay0=true:=by
  show (a.data.canLay0 && (b.data.canLay0 && (c.data.canLay0 && (d.data.canLay0 && true))))=true;rw[Tr.lay a,Tr.lay b,Tr.lay c,Tr.lay d];rfl
 have e2:(PyData.list [a.data,b.data,c.data,d.data]).depth≤64:=by
  show max a.data.depth (max b.data.depth (max c.data.depth (max d.data.depth 0))) + 1≤64;rw[Tr.depth a,Tr.depth b,Tr.depth c,Tr.depth d];omega
 unfold SeqAt.shaped;rw[e1,B8 e2];rfl
theorem BX (a b c d a' b' c' d':Tr):PyData.eqv (.list [a.data,b.data,c.data,d.data]) (.list [a'.data,b'.data,c'.data,d'.data])=decide (a=a'∧b=b'∧c=c'∧d=d'):=by
 show (PyData.eqv a.data a'.data && (PyData.eqv b.data b'.data && (PyData.eqv c.data c'.data && (PyData.eqv d.data d'.data && true))))=_;rw[Tr.eqv a a',Tr.eqv b b',Tr.eqv c c',Tr.eqv d d'];by_cases h1:a=a'<;>by_cases h2:b=b'<;>by_cases h3:c=c'<;>by_cases h4:d=d'<;>simp[h1,h2,h3,h4]
theorem or2 {c A R:Prop}[Decidable c](h:A)(g:A→R):if c then A else R:=by
 by_cases hc:c
 ·rw[if_pos hc];exact h
 ·rw[if_neg hc];exact g h
theorem xF {d:Nat}(h:d < 4):Str.ofString (toString ((d:Nat):Int))=one d :=
 four (P:=fun d=>Str.ofString (toString ((d:Nat):Int))=one d) (by decide +kernel) (by decide +kernel) (by decide +kernel) (by decide +kernel) h
def cell (ns:List Int)(k:Nat):Int:=(ns[k]?).getD 0
section
variable {P:Program}{w:World}{K:PySem.W.Frag}{mg:Str→Option Value}{base:Heap}{CX:CXT}{f:Addr}{fd:FuncData}
abbrev lW:Stmt:=top 150
theorem ux:ap ["_law_script","_law_k"] ["_law_script","_law_k"] (ai lW):=⟨rfl,rfl,rfl,by decide +kernel,rfl,by decide +kernel,by decide +kernel⟩
def hX (K:PySem.W.Frag):Sp:=fun vs H Q _=>∃ (a:Addr) (ns:List Int) (k:Nat),vs=[.ref a,.int k]∧SqL K H a (ns.map V.int)∧ns.length≤63∧Q (.int (cell ns k)) H
theorem uO (T:Tx K mg)(F:aN K "_law_at" "_law_at" lW f fd .none):aO P w K mg base CX 1 f fd ["_law_script","_law_k"] (hX K):=by
 refine F.ok ux (fun vs H Q E h =>?_) (fun cdv A outer s H vs Q E hr h =>?_)
 ·obtain⟨_,_,_,rfl,_⟩:=h;rfl
 obtain⟨a,ns,k,rfl,hS,hl,q'⟩:=h;refine⟨_,(ae (aV (aB qi (pv 1) (ax bu rfl T.b_len ck (aa (pv 0) af)) (aK _)) (ag (av (aq ao (pv 0) (pv 1) (fun _ _=>rfl)))) aA) (ag (av ac))),?_⟩;refine⟨_,rfl,_,rfl,_,_,rfl,.inl ⟨_,hS,rfl⟩,_,_,rfl,rfl,_,rfl,bM (fun c =>?_) (fun c =>?_)⟩
 ·have c':(k:Int) < (((ns.map V.int).length:Nat):Int):=Cd c;rw[B_]at c';have hk:k < ns.length:=by omega
  have e:(ns.map V.int)[k]? = some (.int (cell ns k)):=by simp[cell,hk]
  exact⟨_,rfl,_,rfl,a,_,_,_,rfl,rfl,hS,dH e,q'⟩
 ·have c':¬ (k:Int) < (((ns.map V.int).length:Nat):Int):=fun z=>c (B8 z);rw[B_]at c';have e:cell ns k=0:=by
   have:ns[k]? = none:=List.getElem?_eq_none (by omega)
   simp[cell,this]
  rw[e]at q';exact q'
end
theorem vv (xs:List V)(a m:Nat):(gU xs (some (a:Int)) (some ((a:Int) + (m:Int)))).length≤m:=by
 unfold gU;rw[CH];have e0:HT.sIx xs.length 0 (some (a:Int))=min a xs.length:=by
  unfold HT.sIx
  first | (simp;omega) | (dsimp only;split<;>omega)
 have e1:HT.sIx xs.length xs.length (some ((a:Int) + (m:Int)))=min (a + m) xs.length:=by
  unfold HT.sIx
  first | (simp;omega) | (dsimp only;split<;>omega)
 rw[e0,e1];omega
theorem xn {xs:List V}{lo hi:Option Int}{u:V}(h:u∈gU xs lo hi):u∈xs:=by
 unfold gU at h;exact Dl (DC h)
theorem sI:∀ n:Nat,n < 4→((n:Int)).natAbs.log2 < 1920:=by decide +kernel
section
variable {P:Program}{w:World}{K:PySem.W.Frag}{mg:Str→Option Value}{base:Heap}{CX:CXT}{f:Addr}{fd:FuncData}
abbrev jR:Stmt:=top 151
theorem lT:ap ["_law_cell","_law_k","_law_value"] ["_law_cell","_law_k"] (ai jR):=⟨rfl,rfl,rfl,by decide +kernel,rfl,by decide +kernel,by decide +kernel⟩
def du:Sp:=fun vs H Q _=>∃ (c:Int) (k:Nat),vs=[.int c,.int k]∧k≤100000∧∀ m:Int,0≤m→Q (.int m) H
theorem se (T:Tx K mg)(F:aN K "_law_mix" "_law_mix" jR f fd .none):aO P w K mg base CX 1 f fd ["_law_cell","_law_k"] du:=by
 refine F.ok lT (fun vs H Q E h =>?_) (fun cdv A outer s H vs Q E hr h =>?_)
 ·obtain⟨_,_,rfl,_⟩:=h;rfl
 obtain⟨c,k,rfl,hk,q'⟩:=h;refine⟨_,(ae (aE (i:=2) lT.nd rfl (Or.inl rfl) (ar aU (ar iP (ar bC (ar bC (ar aU (pv 0) ac) (ar iP ac (pv 1))) ac) (ar bC ac (ar iP ac (pv 1)))) ac)) (ag (av (ar cF (ar aU (ar iP (ar bC (ar cF (pv 2) ac) (pv 1)) ac) ac) ac)))),?_⟩;refine⟨_,rfl,_,_,rfl,rfl,(by show (0:Int) < 998244353;decide),_,rfl,_,_,rfl,rfl,.inl ⟨by decide,by decide⟩,_,_,rfl,rfl,_,_,rfl,rfl,?_⟩;refine⟨_,rfl,_,_,rfl,rfl,.inl ⟨by decide,by decide⟩,_,_,rfl,rfl,_,_,rfl,rfl,.inr ⟨by omega,by omega⟩,_,_,rfl,rfl,(by show (0:Int) < 2147483647;decide),?_⟩;refine⟨_,rfl,_,_,rfl,rfl,gX (by decide) (by decide),_,rfl,_,_,rfl,rfl,_,_,rfl,rfl,.inr ⟨by decide,by decide⟩,_,_,rfl,rfl,(by show (0:Int) < 2147483629;decide),_,_,rfl,rfl,gX (by decide) (by decide),?_⟩;refine q' _ ?_;exact Int.ediv_nonneg (C3 _ (by decide)) (by decide)
abbrev iJ:Stmt:=top 152
theorem cY:ap ["_law_cell","_law_size","_law_code_here","_law_k"] ["_law_cell","_law_size"] (ai iJ):=⟨rfl,rfl,rfl,by decide +kernel,rfl,by decide +kernel,by decide +kernel⟩
def gy:Sp:=fun vs H Q _=>∃ (c:Int) (n:Nat),vs=[.int c,.int n]∧n≤64∧∀ z:Str,IsC z→z.length=n→Q (.str z) H
theorem qw (T:Tx K mg)(q:bv CX)(F:aN K "_law_code" "_law_code" iJ f fd .none)(C__law_mix:Fok P w K mg base CX 1 "_law_mix" ["_law_cell","_law_k"] [] du):aO P w K mg base CX 2 f fd ["_law_cell","_law_size"] gy:=by
 refine F.ok cY (fun vs H Q E h =>?_) (fun cdv A outer s H vs Q E hr h =>?_)
 ·obtain⟨_,_,rfl,_⟩:=h;rfl
 obtain⟨c,n,rfl,hn,q'⟩:=h;refine⟨_,(ae (aE (i:=2) cY.nd rfl (Or.inl rfl) ah) (ae (dD CP rfl (cM rfl T.b_range (aa (pv 1) af)) (aQ (i:=3) cY.nd rfl (Or.inl rfl)) (ae (aE (i:=2) cY.nd rfl (Or.inl rfl) (ar aP (pv 2) (bq bY rfl T.b_str eF (aa (ar aU (pv 0) ac) af)))) (ae (aE (i:=0) cY.nd rfl (Or.inl rfl) (ar cF (pv 0) ac)) (ag (aV (PW.pt (eu (aB bS (pv 0) ac (aK _)) (cV (aB bS (pv 0) (yV vO ac) (aK _))))) (ag (aE (i:=0) cY.nd rfl (Or.inl rfl) (au C__law_mix q hr (aa (pv 3) (aa (pv 1) af))))) aA))))) (ag (av (pv 2))))),?_⟩;refine⟨_,rfl,_,rfl,by omega,by omega,cO (fun j σ H2=>H2=H∧∃ (z:Str) (c:Int) (o3:Option V),IsC z∧z.length=j∧σ=[some (.int c),some (.int n),some (.str z),o3]) ⟨rfl,_,c,none,mH▸IsC.nil,by decide +kernel,rfl⟩ ?_ ?_⟩
 ·rintro j σ H2 hj ⟨rfl,z,c,o3,hz,lz,rfl⟩;have hj':j < n:=by omega
  rw[show (0:Int) + (j:Int)=(j:Int) from DO _];obtain⟨d,hd,ed⟩:=yy c;refine⟨_,rfl,_,rfl,_,_,rfl,rfl,(by show (0:Int) < 4;decide),(d:Int),(by show [V.int (c % 4)]=_;rw[ed]),sI d hd,?_⟩;rw[xF hd];refine⟨_,_,rfl,rfl,(by rw[lz];show j + 1≤sizeLine;exact a9 (by omega)),?_⟩;refine⟨_,rfl,_,_,rfl,rfl,gX (by decide) (by decide),?_⟩;have nx:∀ c:Int,H2=H2∧∃ (z':Str) (c':Int) (o3:Option V),IsC z'∧z'.length=j + 1∧[some (V.int c),some (V.int n),some (V.str (z++one d)),some (V.int (j:Int))]=[some (.int c'),some (.int n),some (.str z'),o3]:=fun c=>⟨rfl,_,c,_,IsC.app hz (IsC.one hd),by rw[yK,lz];rfl,rfl⟩;refine⟨_,rfl,rfl,_,rfl,or2 ?_ (fun body=>⟨_,rfl,_,rfl,rfl,_,rfl,bM (fun _=>body) (fun _=>nx _)⟩)⟩;refine cD ?_;exact⟨_,rfl,_,rfl,(j:Int),n,rfl,by omega,fun m hm=>nx m⟩
 ·rintro σ H2 ⟨rfl,z,c,o3,hz,lz,rfl⟩;exact⟨_,rfl,q' z hz (by omega)⟩
abbrev iH:Stmt:=top 153
theorem qa:ap ["_law_four"] ["_law_four"] (ai iH):=⟨rfl,rfl,rfl,by decide +kernel,rfl,by decide +kernel,by decide +kernel⟩
def ko:Sp:=fun vs H Q _=>∃ (l:Addr) (xa xb xc xd:V) (ta tb tc td:Tr),vs=[.ref l]∧H l=some (.lst [xa,xb,xc,xd])∧bH H xa ta∧bH H xb tb∧bH H xc tc∧bH H xd td∧(ta.deep≤60∧tb.deep≤60∧tc.deep≤60∧td.deep≤60)∧∀ v H',al H H'→bH H' v (fz ta tb tc td)→Q v H'
theorem qu (T:Tx K mg)(F:aN K "_law_knit" "_law_knit" iH f fd .none):aO P w K mg base CX 1 f fd ["_law_four"] ko:=by
 refine F.ok qa (fun vs H Q E h =>?_) (fun cdv A outer s H vs Q E hr h =>?_)
 ·obtain⟨_,_,_,_,_,_,_,_,_,rfl,_⟩:=h;rfl
 obtain⟨l,xa,xb,xc,xd,ta,tb,tc,td,rfl,u4,ja,jb,jc,jd,⟨da,db,dc,dd⟩,q'⟩:=h;refine⟨_,(ae (aV (PW.pt (eu (bz (ax (bN "tuple") rfl T.b_isinstance ay (aa (aq ao (pv 0) ac (fun _ _=>rfl)) (aa (de T.b_tuple dj) af)))) (cV (aB (oU hr) (pv 0) (bQ (aH (aq ao (pv 0) ac (fun _ _=>rfl)) (aH (aq ao (pv 0) ac (fun _ _=>rfl)) (aH (aq ao (pv 0) ac (fun _ _=>rfl)) (aH (aq ao (pv 0) ac (fun _ _=>rfl)) am))))) (aK _))))) (ag (av (bA (aH (aq ao (pv 0) ac (fun _ _=>rfl)) (aH (aq ao (pv 0) ac (fun _ _=>rfl)) (aH (aq ao (pv 0) ac (fun _ _=>rfl)) (aH (aq ao (pv 0) ac (fun _ _=>rfl)) am))))))) aA) (ag (av (aq ao (pv 0) ac (fun _ _=>rfl))))),?_⟩
 have ty:=ja.ty (K:=K);have fin:∀ H1,al H H1→fz ta tb tc td=.four ta tb tc td→∀ p,H1 p=none→Q (.ref p) (upd H1 p (.tup [xa,xb,xc,xd])):=fun H1 s1 hg p hp=>by
  refine q' _ _ (s1.trans (al.new hp _)) ?_;rw[hg];have sn:=(s1.trans (al.new hp (.tup [xa,xb,xc,xd]))).tups;exact .four aj (ja.up sn) (jb.up sn) (jc.up sn) (jd.up sn)
 have f4:4≤sizeLine:=by decide
 have no:¬ (ta.isCol=true∧tb=ta∧tc=ta∧td=ta)→fz ta tb tc td=.four ta tb tc td:=fun h=>by
  unfold fz;rw[if_neg (fun z=>h (qj.mp z))]
 cases hta:ta.isCol with
 | false =>
  rw[hta]at ty;refine⟨_,rfl,l,_,_,xa,rfl,rfl,SqL.of u4,rfl,_,_,_,rfl,ty,iQ,_,rfl,cD (cD ?_)⟩;exact⟨_,rfl,l,_,_,_,rfl,rfl,SqL.of u4,rfl,_,rfl,l,_,_,_,rfl,rfl,SqL.of u4,rfl,_,rfl,l,_,_,_,rfl,rfl,SqL.of u4,rfl,_,rfl,l,_,_,_,rfl,rfl,SqL.of u4,rfl,f4,fin H (al.refl H) (no fun z=>by rw[hta]at z;cases z.1)⟩
 | true =>
  rw[hta]at ty;refine⟨_,rfl,l,_,_,xa,rfl,rfl,SqL.of u4,rfl,_,_,_,rfl,ty,iR,_,rfl,cA ?_⟩;refine⟨_,rfl,_,rfl,l,_,_,xa,rfl,rfl,SqL.of u4,rfl,_,rfl,l,_,_,xa,rfl,rfl,SqL.of u4,rfl,_,rfl,l,_,_,xa,rfl,rfl,SqL.of u4,rfl,_,rfl,l,_,_,xa,rfl,rfl,SqL.of u4,rfl,f4,fun m hm =>?_⟩;have sy:=al.new hm (.lst [xa,xa,xa,xa]);have um:upd H m (.lst [xa,xa,xa,xa]) m=some (.lst [xa,xa,xa,xa]):=aj;generalize upd H m (.lst [xa,xa,xa,xa])=H5 at *;have u5:=sy _ _ u4;have la:=ja.up sy.tups;refine⟨_,_,.lst u5 (.cons la.dat (.cons (jb.up sy.tups).dat (.cons (jc.up sy.tups).dat (.cons (jd.up sy.tups).dat .nil)))),.lst um (.cons la.dat (.cons la.dat (.cons la.dat (.cons la.dat .nil)))),tE da db dc dd,tE da da da da,?_⟩;rw[BX];refine⟨_,rfl,bM (fun z =>?_) (fun z =>?_)⟩
  ·have z':¬ (ta=ta∧tb=ta∧tc=ta∧td=ta):=fun h=>by
    have h':=B8 h;rw[h']at z;exact absurd z (by decide)
   exact⟨_,rfl,l,_,_,_,rfl,rfl,SqL.of u5,rfl,_,rfl,l,_,_,_,rfl,rfl,SqL.of u5,rfl,_,rfl,l,_,_,_,rfl,rfl,SqL.of u5,rfl,_,rfl,l,_,_,_,rfl,rfl,SqL.of u5,rfl,f4,fin H5 sy (no fun z=>z' ⟨rfl,z.2⟩)⟩
  ·have z':ta=ta∧tb=ta∧tc=ta∧td=ta:=by simpa using z
   refine⟨_,rfl,l,_,_,_,rfl,rfl,SqL.of u5,rfl,q' _ _ sy ?_⟩;unfold fz;rw[if_pos (qj.mpr ⟨hta,z'.2⟩)];exact la
abbrev fb:Stmt:=top 154
theorem c6:ap ["_law_tree_here","_law_code_here","_law_colour_here","_law_four"] ["_law_tree_here","_law_code_here","_law_colour_here"] (ai fb):=⟨rfl,rfl,rfl,by decide +kernel,rfl,by decide +kernel,by decide +kernel⟩
def dW (m:Nat):Sp:=fun vs H Q _=>∃ (v:V) (i:Int) (t:Tr) (z:Str),vs=[v,.str z,.int i]∧bH H v t∧IsC z∧z.length < m∧m≤41∧t.deep≤60∧∀ v' H',al H H'→bH H' v' (jk t (dig z) (.col i))→Q v' H'
theorem gS (T:Tx K mg)(q:bv CX)(F:aN K "_law_painted" "_law_painted" fb f fd .none)(C__law_knit:Fok P w K mg base CX 1 "_law_knit" ["_law_four"] [] ko)(b:bU K fd ["_law_tree_here","_law_code_here","_law_colour_here"] [])(m:mg "_law_painted" = some (.ref f)):
  ∀ n,aO P w K mg base CX (2 + n) f fd ["_law_tree_here","_law_code_here","_law_colour_here"] (dW n)
 | 0=>by
  refine F.ok c6 (fun vs H Q E h =>?_) (fun cdv A outer s H vs Q E hr h =>?_)
  ·obtain⟨_,_,_,_,rfl,_⟩:=h;rfl
  obtain⟨_,_,_,_,_,_,_,h,_⟩:=h;exact absurd h (Du _)
 | n + 1=>by
  have C__law_painted:Fok P w K mg base CX (2 + n) "_law_painted" ["_law_tree_here","_law_code_here","_law_colour_here"] [] (dW n):=fok F (gS T q F C__law_knit b m n) b m
  refine F.ok c6 (fun vs H Q E h =>?_) (fun cdv A outer s H vs Q E hr h =>?_)
  ·obtain⟨_,_,_,_,rfl,_⟩:=h;rfl
  obtain⟨v,i,t,z,rfl,ht,hz,hl,hm,dt,q'⟩:=h;refine⟨_,(ae (aV (aB bS (pv 1) ah (aK _)) (ag (av (pv 2))) aA) (ae (aE (i:=3) c6.nd rfl (Or.inl rfl) (bQ (aH (pv 0) (aH (pv 0) (aH (pv 0) (aH (pv 0) am)))))) (ae (rP (aV (bz (ax (bN "tuple") rfl T.b_isinstance ay (aa (pv 0) (aa (de T.b_tuple dj) af)))) (ag (aE (i:=3) c6.nd rfl (Or.inl rfl) (bq pH rfl T.b_list yE (aa (pv 0) af)))) aA)) (ae (iN (au C__law_painted q hr (aa (aq ao (pv 3) (bq cu rfl T.b_int gY (aa (aq eE (pv 1) ac (fun _ _=>rfl)) af)) (fun _ _=>rfl)) (aa (ci eT (pv 1) (cm ac) c_) (aa (pv 2) af))) (hj:=by first | decide | omega | (simp only[DE];omega))) (rS (pv 3) (bq cu rfl T.b_int gY (aa (aq eE (pv 1) ac (fun _ _=>rfl)) af)) lO)) (ag (av (au C__law_knit q hr (aa (pv 3) af) (hj:=by first | decide | omega | (simp only[DE];omega))))))))),?_⟩
  refine⟨_,rfl,rfl,_,rfl,bM (fun c =>?_) (fun c =>?_)⟩
  ·have e:z=("" : Str):=by simpa using c
   subst e;rw[vk]at q';exact⟨_,rfl,q' (.int i) H (al.refl H) (.col i)⟩
  have pz:0 < z.length:=by
   rcases Nat.eq_zero_or_pos z.length with h0|h0
   ·exact absurd (by simp[rm.mpr h0]) c
   ·exact h0
  have hs:z.length≤sizeLine:=a9 (by omega);refine⟨_,rfl,_,rfl,_,rfl,_,rfl,(by show 4≤sizeLine;decide),fun l0 hl0 =>?_⟩;have s1:=al.new hl0 (.lst [v,v,v,v]);have u1:upd H l0 (.lst [v,v,v,v]) l0=some (.lst [v,v,v,v]):=aj;generalize upd H l0 (.lst [v,v,v,v])=H1 at *;have ht1:=ht.up s1.tups;refine⟨fun σ H2=>al H H2∧∃ (l:Addr) (a b c d:V),H l=none∧H2 l=some (.lst [a,b,c,d])∧bH H2 a (q0 t)∧bH H2 b (q1 t)∧bH H2 c (q2 t)∧bH H2 d (q3 t)∧σ=[some v,some (.str z),some (.int i),some (.ref l)],?_,?_⟩
  ·cases ht1 with
   | col j=>exact⟨_,rfl,_,_,_,rfl,.int j,iR,_,rfl,cA ⟨s1,l0,_,_,_,_,hl0,u1,.col j,.col j,.col j,.col j,rfl⟩⟩
   | @four p xa xb xc xd ta tb tc td e ja jb jc jd =>
    refine⟨_,rfl,_,_,_,rfl,.tup e,iQ,_,rfl,cD ?_⟩;refine⟨_,rfl,p,_,rfl,.inr (SqT.of e),fun l1 hl1 =>?_⟩;have s2:=al.new hl1 (.lst [xa,xb,xc,xd]);exact⟨s1.trans s2,l1,xa,xb,xc,xd,al.none s1 hl1,aj,ja.up s2.tups,jb.up s2.tups,jc.up s2.tups,jd.up s2.tups,rfl⟩
  rintro σ H2 ⟨s2,l,a,b,c,d,hl0',u2,ka,kb,kc,kd,rfl⟩;obtain⟨e,he,e1,e2⟩:=xI hz pz;have key:∃ x,atI [a,b,c,d] (e:Int)=some x∧bH H2 x (qk t e):=by
   rcases e with _|_|_|_|e
   ·exact⟨a,rfl,ka⟩
   ·exact⟨b,rfl,kb⟩
   ·exact⟨c,rfl,kc⟩
   ·exact⟨d,rfl,kd⟩
   ·omega
  obtain⟨x,ex,kx⟩:=key;have it:intText? (sgn z 0)=some (e:Int):=by rw[e1];exact yt he
  refine⟨_,rfl,_,rfl,z,0,z.cps.getD 0 0,rfl,rfl,hs,uf pz,_,(e:Int),rfl,it,(by show (1:Nat)≤640;decide),l,_,_,x,rfl,rfl,SqL.of u2,ex,_,rfl,_,rfl,z,rfl,hs,_,rfl,?_⟩;have rl:=xN z;refine⟨x,i,qk t e,rst z,(by show [x,V.str _,V.int i]=[x,V.str _,V.int i];rw[jH pz]),kx,xO hz,by omega,by omega,fv dt,fun v' H3 s3 hv' =>?_⟩;have u3:=s3 _ _ u2;have hix:ixN [a,b,c,d].length (e:Int)=some e:=by
   unfold ixN;rw[if_pos (by omega),if_pos (by simp;omega),CL]
  refine⟨_,rfl,_,rfl,z,0,z.cps.getD 0 0,rfl,rfl,hs,uf pz,_,(e:Int),rfl,it,(by show (1:Nat)≤640;decide),l,[a,b,c,d],(e:Int),e,rfl,rfl,u3,hix,?_⟩;have t3:=eG.lst (ys:=[a,b,c,d].set e v') u3;have sf:al H (upd H3 l (.lst ([a,b,c,d].set e v'))):=al.set (s2.trans s3) hl0' _;have t23:=s3.tups.trans t3;have dq:=me (dig (rst z)) 60 (qk t e) (.col i) (fv dt) (by rw[pD];show (Tr.col i).deep + _≤60;show 0 + _≤60;omega);have ep:jk t (dig z) (.col i)=oN t e (jk (qk t e) (dig (rst z)) (.col i)):=by rw[yC pz,e2];rfl
  rw[ep]at q';have d0:=fv (d:=0) dt;have d1:=fv (d:=1) dt;have d2:=fv (d:=2) dt;have d3:=fv (d:=3) dt;have kv:=hv'.up t3;rcases e with _ | _ | _ | _ | e
  ·exact⟨_,rfl,l,_,_,_,_,_,_,_,_,rfl,aj,kv,kb.up t23,kc.up t23,kd.up t23,⟨dq,d1,d2,d3⟩,fun v2 H4 s4 h4=>q' v2 H4 (sf.trans s4) h4⟩
  ·exact⟨_,rfl,l,_,_,_,_,_,_,_,_,rfl,aj,ka.up t23,kv,kc.up t23,kd.up t23,⟨d0,dq,d2,d3⟩,fun v2 H4 s4 h4=>q' v2 H4 (sf.trans s4) h4⟩
  ·exact⟨_,rfl,l,_,_,_,_,_,_,_,_,rfl,aj,ka.up t23,kb.up t23,kv,kd.up t23,⟨d0,d1,dq,d3⟩,fun v2 H4 s4 h4=>q' v2 H4 (sf.trans s4) h4⟩
  ·exact⟨_,rfl,l,_,_,_,_,_,_,_,_,rfl,aj,ka.up t23,kb.up t23,kc.up t23,kv,⟨d0,d1,d2,dq⟩,fun v2 H4 s4 h4=>q' v2 H4 (sf.trans s4) h4⟩
  ·omega
abbrev fO:Stmt:=top 155
theorem m6:ap ["_law_cell","_law_few"] ["_law_cell","_law_few"] (ai fO):=⟨rfl,rfl,rfl,by decide +kernel,rfl,by decide +kernel,by decide +kernel⟩
def ip:Sp:=fun vs H Q _=>∃ (c:Int) (p:Addr) (a b:Int),vs=[.int c,.ref p]∧H p=some (.tup [.int a,.int b])∧(0≤a∧a≤35)∧(0≤b∧b≤35)∧∀ i:Int,0≤i→i≤35→Q (.int i) H
theorem nj (T:Tx K mg)(F:aN K "_law_colour" "_law_colour" fO f fd .none):aO P w K mg base CX 1 f fd ["_law_cell","_law_few"] ip:=by
 refine F.ok m6 (fun vs H Q E h =>?_) (fun cdv A outer s H vs Q E hr h =>?_)
 ·obtain⟨_,_,_,_,rfl,_⟩:=h;rfl
 obtain⟨c,p,a,b,rfl,hp,ha,hb,q'⟩:=h;refine⟨_,(ae (aV (aB qi (ar aU (pv 0) ac) ac (aK _)) (ag (av (aq bg (pv 1) (ar aU (pv 0) ac) (fun _ _=>rfl)))) aA) (ag (av (ar aU (ar cF (pv 0) ac) ac)))),?_⟩;refine⟨_,rfl,_,_,rfl,rfl,(by show (0:Int) < 3;decide),_,_,rfl,rfl,_,rfl,bM (fun h =>?_) (fun _ =>?_)⟩
 ·have h':c % 3 < 2:=Cd h;have h2:c % 3=0∨c % 3=1:=by omega
  refine⟨_,rfl,_,rfl,_,_,rfl,rfl,(by show (0:Int) < 3;decide),?_⟩;rcases h2 with h2 | h2
  ·exact⟨p,_,_,.int a,rfl,rfl,SqT.of hp,by rw[h2];rfl,q' a ha.1 ha.2⟩
  ·exact⟨p,_,_,.int b,rfl,rfl,SqT.of hp,by rw[h2];rfl,q' b hb.1 hb.2⟩
 ·exact⟨_,rfl,_,_,rfl,rfl,gX (by decide) (by decide),_,_,rfl,rfl,(by show (0:Int) < 36;decide),q' _ (by show 0≤c / 3 % 36;omega) (by show c / 3 % 36≤35;omega)⟩
abbrev iF:Stmt:=top 156
theorem cX:ap ["_law_script","_law_first","_law_level","_law_most","_law_few","_law_tree_here","_law_cell","_law_size"] ["_law_script","_law_first","_law_level","_law_most"] (ai iF):=⟨rfl,rfl,rfl,by decide +kernel,rfl,by decide +kernel,by decide +kernel⟩
def km (K:PySem.W.Frag):Sp:=fun vs H Q _=>∃ (a:Addr) (ns:List Int) (k n most:Nat),vs=[.ref a,.int k,.int n,.int most]∧SqL K H a (ns.map V.int)∧ns.length≤63∧n≤40∧most≤20∧k≤60 ∧
 ∀ v t H',al H H'→bH H' v t→bh n t→cnt t≤1 + (3 * n + 1) * (most + 1)→Q v H'
theorem qr (T:Tx K mg)(q:bv CX)(F:aN K "_law_tree" "_law_tree" iF f fd .none)(C__law_at:Fok P w K mg base CX 1 "_law_at" ["_law_script","_law_k"] [] (hX K))(C__law_mix:Fok P w K mg base CX 1 "_law_mix" ["_law_cell","_law_k"] [] du)(C__law_painted:Fok P w K mg base CX 43 "_law_painted" ["_law_tree_here","_law_code_here","_law_colour_here"] [] (dW 41))
  (C__law_code:Fok P w K mg base CX 2 "_law_code" ["_law_cell","_law_size"] [] gy) (C__law_colour:Fok P w K mg base CX 1 "_law_colour" ["_law_cell","_law_few"] [] ip):aO P w K mg base CX 44 f fd ["_law_script","_law_first","_law_level","_law_most"] (km K):=by
 refine F.ok cX (fun vs H Q E h =>?_) (fun cdv A outer s H vs Q E hr h =>?_)
 ·obtain⟨_,_,_,_,_,rfl,_⟩:=h;rfl
 obtain⟨a,ns,k,n,most,rfl,hS,h63,hn,hmost,hk,q'⟩:=h;refine⟨_,(ae (aE (i:=4) cX.nd rfl (Or.inl rfl) (bA (aH (ar aU (au C__law_at q hr (aa (pv 0) (aa (pv 1) af))) ac) (aH (ar aU (ar cF (au C__law_at q hr (aa (pv 0) (aa (ar bC (pv 1) ac) af))) ac) ac) am)))) (ae (aE (i:=5) cX.nd rfl (Or.inl rfl) (aq bg (pv 4) ac (fun _ _=>rfl))) (ae (dD CP rfl (k_ (ar cG (ci ot (pv 0) (cm (ar bC (pv 1) ac)) (cm (ar bC (ar bC (pv 1) ac) (pv 3)))) (bQ (aH (au C__law_at q hr (aa (pv 0) (aa (ar bC (pv 1) ac) af))) am)))) (aQ (i:=6) cX.nd rfl (Or.inl rfl)) (ae (aE (i:=7) cX.nd rfl (Or.inl rfl) (ar j4 (pv 2) (ar iP (ar aU (au C__law_mix q hr (aa (pv 6) (aa ac af))) (ar bC (pv 2) ac)) (ar aU (au C__law_mix q hr (aa (pv 6) (aa ac af))) ac)))) (ag (aE (i:=5) cX.nd rfl (Or.inl rfl) (au C__law_painted q hr (aa (pv 5) (aa (au C__law_code q hr (aa (pv 6) (aa (pv 7) af))) (aa (au C__law_colour q hr (aa (au C__law_mix q hr (aa (pv 6) (aa ac af))) (aa (pv 4) af))) af)))))))) (ag (av (pv 5)))))),?_⟩;refine⟨_,rfl,_,rfl,a,ns,k,rfl,hS,h63,_,_,rfl,rfl,(by show (0:Int) < 36;decide),?_⟩;refine⟨_,rfl,_,rfl,_,_,rfl,rfl,a,ns,k + 1,rfl,hS,h63,_,_,rfl,rfl,gX (by decide) (by decide),_,_,rfl,rfl,(by show (0:Int) < 36;decide),(by show 2≤sizeLine;decide),fun pf hpf =>?_⟩;obtain⟨c1,ec1,hc1⟩:∃ c1:Int,cell ns k % 36=c1∧(0≤c1∧c1≤35):=⟨_,rfl,by omega⟩;obtain⟨c2,ec2,hc2⟩:∃ c2:Int,cell ns (k + 1) / 2 % 36=c2∧(0≤c2∧c2≤35):=⟨_,rfl,by omega⟩;rw[show (fun i j:Int=>V.int (i % j)) (cell ns k) 36=V.int c1 from Cs V.int ec1,show (fun i j:Int=>V.int (i % j)) (cell ns (k + 1) / 2) 36=V.int c2 from Cs V.int ec2];have s1:=al.new hpf (.tup [.int c1,.int c2]);have u1:upd H pf (.tup [.int c1,.int c2]) pf=some (.tup [.int c1,.int c2]):=aj;generalize upd H pf (.tup [.int c1,.int c2])=H1 at *;refine⟨_,rfl,pf,_,_,_,rfl,rfl,SqT.of u1,rfl,?_⟩;have hS1:=s1.seq hS;refine⟨_,rfl,_,rfl,_,_,rfl,rfl,(k:Int) + 2,rfl,_,rfl,_,_,rfl,rfl,_,rfl,_,_,rfl,rfl,(k:Int) + 2 + (most:Int),rfl,a,ns.map V.int,rfl,hS1,fun ls hls =>?_⟩;have lc:(gU (ns.map V.int) (some ((k:Int) + 2)) (some ((k:Int) + 2 + (most:Int)))).length≤most:=by
  have:=vv (ns.map V.int) (k + 2) most
  rw[show ((k + 2:Nat):Int)=(k:Int) + 2 by omega]at this;exact this
 have mc:∀ u∈gU (ns.map V.int) (some ((k:Int) + 2)) (some ((k:Int) + 2 + (most:Int))),∃ i:Int,u=.int i:=fun u hu=>by
  obtain⟨i,_,e⟩:=DA.mp (xn hu);exact⟨i,e.symm⟩
 generalize gU (ns.map V.int) (some ((k:Int) + 2)) (some ((k:Int) + 2 + (most:Int)))=cs at *;have s2:=s1.trans (al.new hls (.lst cs));have u2:=(al.new hls (.lst cs)) _ _ u1;have v2:upd H1 ls (.lst cs) ls=some (.lst cs):=aj;generalize upd H1 ls (.lst cs)=H2 at *;refine⟨_,rfl,_,rfl,_,_,rfl,rfl,a,ns,k + 1,rfl,s2.seq hS,h63,(by show 1≤sizeLine;decide),fun l1 hl1 =>?_⟩;have s3:=al.new hl1 (.lst [.int (cell ns (k + 1))]);have v3:=s3 _ _ v2;have u3:=s3 _ _ u2;have w3:upd H2 l1 (.lst [.int (cell ns (k + 1))]) l1=some (.lst [.int (cell ns (k + 1))]):=aj;generalize upd H2 l1 (.lst [.int (cell ns (k + 1))])=H3 at *;refine⟨ls,l1,_,_,rfl,rfl,v3,w3,a9 (by show cs.length + 1≤_;omega),fun l2 hl2 =>?_⟩;have s4:=al.new hl2 (.lst (cs++[.int (cell ns (k + 1))]));have u4:=s4 _ _ u3;have w4:upd H3 l2 (.lst (cs++[.int (cell ns (k + 1))])) l2=some (.lst (cs++[.int (cell ns (k + 1))])):=aj;generalize upd H3 l2 (.lst (cs++[.int (cell ns (k + 1))]))=H4 at *;have s04:=s2.trans (s3.trans s4);have mc':∀ u∈cs++[V.int (cell ns (k + 1))],∃ i:Int,u=.int i:=fun u hu=>by
  rcases Cm.mp hu with hu|hu
  ·exact mc u hu
  ·exact⟨_,CA.mp hu⟩
 have lx:(cs++[V.int (cell ns (k + 1))]).length≤most + 1:=by rw[B3];show cs.length + 1≤most + 1;omega
 generalize cs++[V.int (cell ns (k + 1))]=xs at *;refine⟨l2,rfl,⟨_,SqL.of w4⟩,qM (xs:=xs) (fun j σ Hx=>al H4 Hx∧∃ (v:V) (t:Tr) (o6 o7:Option V),bH Hx v t∧bh n t∧cnt t≤1 + (3 * n + 1) * j∧j≤xs.length∧σ=[some (.ref a),some (.int k),some (.int n),some (.int most),some (.ref pf),some v,o6,o7]) ⟨al.refl _,.int c1,.col c1,none,none,.col c1,bh.col hc1,B7 _,Cr _,rfl⟩ (fun j σ Hx _ h=>SqL.of (h.1 _ _ w4)) ?_ ?_⟩
 ·rintro j u σ Hx hu ⟨sx,v,t,o6,o7,hv,gt,ct,hj,rfl⟩;obtain⟨i,rfl⟩:=mc' u (Cw hu);have hj':j < xs.length:=(Ck.mp hu).1;have pn:(0:Int) < (n:Int) + 1:=by omega
  refine⟨_,rfl,_,rfl,i,7,rfl,by decide,fun m1 hm1 =>?_⟩;refine⟨_,rfl,_,_,rfl,rfl,_,_,rfl,rfl,pn,?_⟩;refine⟨_,rfl,i,8,rfl,by decide,fun m2 hm2=>⟨_,_,rfl,rfl,(by show (0:Int) < 2;decide),_,_,rfl,rfl,?_,_,_,rfl,rfl,?_⟩⟩
  ·refine .inr ⟨?_,?_⟩
   ·show -(2 ^ 64) < m2 % 2;omega
   ·show m2 % 2 < 2 ^ 64;omega
  obtain⟨sg,hsg,esg⟩:∃ sg:Nat,sg≤n∧(n:Int) - m1 % ((n:Int) + 1) * (m2 % 2)=(sg:Int):=by
   have h1:=C3 m1 (show (n:Int) + 1≠0 by omega);have h2:=C1 m1 pn;have h3:m2 % 2=0∨m2 % 2=1:=by omega
   rcases h3 with h3|h3
   ·exact⟨n,B7 _,by rw[h3];omega⟩
   ·exact⟨((n:Int) - m1 % ((n:Int) + 1)).toNat,by omega,by rw[h3];omega⟩
  rw[show (fun i j:Int=>V.int (i - j)) (n:Int) (m1 % ((n:Int) + 1) * (m2 % 2))=V.int (sg:Int) from Cs V.int esg];refine⟨_,rfl,_,rfl,_,rfl,i,sg,rfl,by omega,fun z hz lz =>?_⟩;refine⟨_,rfl,i,9,rfl,by decide,fun m3 hm3=>⟨_,rfl,m3,pf,c1,c2,rfl,sx _ _ u4,hc1,hc2,fun c hc0 hc1' =>?_⟩⟩;have dt:=gt.deep;refine⟨v,c,t,z,rfl,hv,hz,by omega,by decide,by omega,fun v' Hy sy hv'=>⟨sx.trans sy,v',_,_,_,hv',mE (by rw[pD];omega) gt (bh.col ⟨hc0,hc1'⟩),?_,hj',rfl⟩⟩;have cp:=n4 (dig z) t (.col c) (Aj hz);rw[pD]at cp;have c1':cnt (Tr.col c)=1:=rfl;have e3:3 * z.length≤3 * n:=by omega
  rw[Nat.mul_succ];omega
 ·rintro σ Hx ⟨sx,v,t,o6,o7,hv,gt,ct,hj,rfl⟩;refine⟨_,rfl,q' v t Hx (s04.trans sx) hv gt (Cq ct ?_)⟩;exact Nat.add_le_add_left (Nat.mul_le_mul_left _ lx) 1
end
section
variable {P:Program}{w:World}{K:PySem.W.Frag}{mg:Str→Option Value}{base:Heap}{CX:CXT}{f:Addr}{fd:FuncData}
abbrev gI:Stmt:=top 157
theorem i_:ap ["_law_tree_here"] ["_law_tree_here"] (ai gI):=⟨rfl,rfl,rfl,by decide +kernel,rfl,by decide +kernel,by decide +kernel⟩
def fF (m:Nat):Sp:=fun vs H Q _=>∃ (v:V) (t:Tr) (n:Nat),vs=[v]∧bH H v t∧bh n t∧n < m∧m≤41∧cnt t≤1500∧∀ H',al H H'→Q (.str (tx (wr t))) H'
theorem jr (T:Tx K mg)(q:bv CX)(F:aN K "_law_signs" "_law_signs" gI f fd .none)(b:bU K fd ["_law_tree_here"] [])(m:mg "_law_signs" = some (.ref f)):
  ∀ n,aO P w K mg base CX (1 + n) f fd ["_law_tree_here"] (fF n)
 | 0=>by
  refine F.ok i_ (fun vs H Q E h =>?_) (fun cdv A outer s H vs Q E hr h =>?_)
  ·obtain⟨_,_,_,rfl,_⟩:=h;rfl
  obtain⟨_,_,_,_,_,_,h,_⟩:=h;exact absurd h (Du _)
 | m' + 1=>by
  have C__law_signs:Fok P w K mg base CX (1 + m') "_law_signs" ["_law_tree_here"] [] (fF m'):=fok F (jr T q F b m m') b m
  refine F.ok i_ (fun vs H Q E h =>?_) (fun cdv A outer s H vs Q E hr h =>?_)
  ·obtain⟨_,_,_,rfl,_⟩:=h;rfl
  obtain⟨v,t,n,rfl,ht,gt,hn,hm,hc,q'⟩:=h;refine⟨_,(ae (aV (bz (ax (bN "tuple") rfl T.b_isinstance ay (aa (pv 0) (aa (de T.b_tuple dj) af)))) (ag (av (ar aP ah (dh PySem.F.plainAttrs_str PySem.F.slot_str_join PySem.F.type_str_join fV ah (aa (dM (N':=["_law_quarter"]) [] [] [] 1 (by with_unfolding_all rfl) rfl b9 rfl rfl (by decide) rfl (by decide +kernel) rfl (by decide +kernel) rfl (rR (pv 0)) (fun C s0 H0 fp pins=>(aQ (i:=0) (show (["_law_quarter"]:List Str).Nodup by decide +kernel) rfl (Or.inl rfl) (Or.inr rfl))) (fun C s0 H0 fp pins=>(au C__law_signs q hr (aa (pv 0) af) (hj:=by first | decide | omega | (simp only[DE];omega))))) af))))) aA) (ag (av (aq eE ah (pv 0) (fun _ _=>rfl))))),?_⟩
  cases ht with
  | col i =>
   have g':0≤i∧i≤35:=by cases n<;>exact gt
   obtain⟨c,rfl⟩:∃ c:Nat,i=(c:Int):=⟨i.toNat,by omega⟩;refine⟨_,rfl,_,_,_,rfl,.int _,iR,_,rfl,cA ?_⟩;refine⟨_,rfl,_,_,cp c,rfl,rfl,jJ,pJ c (by omega),?_⟩;exact q' H (al.refl H)
  | @four p xa xb xc xd ta tb tc td e ja jb jc jd =>
   rcases n with _|n
   ·exact gt.elim
   obtain⟨ga,gb,gc,gd,ho⟩:=gt;refine⟨_,rfl,_,_,_,rfl,.tup e,iQ,_,rfl,cD ?_⟩;have hc':cnt ta + cnt tb + cnt tc + cnt td≤1500:=hc;refine⟨rfl,[],rfl,_,rfl,p,rfl,⟨_,SqT.of e⟩,nZ [xa,xb,xc,xd] (fun D j ys H'=>al H H'∧H' D=some (.lst ys)∧j≤4∧ys=([wr ta,wr tb,wr tc,wr td].take j).map fun l=>V.str (tx l)) (by show 4≤sizeLine;decide) (fun D j ys H' h=>SqT.of (h.1 _ _ e)) (fun D j ys H' h=>⟨h.2.1,by rw[h.2.2.2];simp;omega⟩) (fun D hD=>⟨al.new hD _,aj,by decide,rfl⟩) ?_ ?_ (fun _ _ _ _ _ k h=>k _ _ h) ?_⟩
   ·rintro D j x ys H' hx hD ⟨c1,c2,c3,c4⟩;have key:∃ tx',bH H x tx'∧bh n tx'∧cnt tx'≤1500∧[wr ta,wr tb,wr tc,wr td][j]? = some (wr tx'):=by
     rcases at4 hx with⟨rfl,rfl⟩|⟨rfl,rfl⟩|⟨rfl,rfl⟩|⟨rfl,rfl⟩
     ·exact⟨ta,ja,ga,by omega,rfl⟩
     ·exact⟨tb,jb,gb,by omega,rfl⟩
     ·exact⟨tc,jc,gc,by omega,rfl⟩
     ·exact⟨td,jd,gd,by omega,rfl⟩
    obtain⟨t',k1,k2,k3,k4⟩:=key;have hj:j < 4:=(Ck.mp hx).1;refine⟨rfl,_,rfl,x,t',n,rfl,k1.up c1.tups,k2,by omega,by omega,k3,fun H4 s4=>⟨s4 _ _ c2,al.set (c1.trans s4) hD _,aj,hj,?_⟩⟩;rw[Dj,k4,c4,CD];rfl
   ·rintro D ys H' hD ⟨c1,c2,c3,c4⟩;have l4:=gl (.four ta tb tc td);have lw:(wr (.four ta tb tc td)).length=(wr ta++(wr tb++(wr tc++wr td))).length + 1:=rfl;rw[B3,B3,B3]at lw;have cc:cnt (.four ta tb tc td)≤1500:=hc;refine⟨_,D,[tx (wr ta),tx (wr tb),tx (wr tc),tx (wr td)],rfl,rfl,SqL.of (by rw[c2,c4];rfl),?_,?_⟩
    ·show (tx (wr ta)).length + ((tx (wr tb)).length + ((tx (wr tc)).length + ((tx (wr td)).length + 0))) + 4 * ("" : Str).length≤16777216
     rw[aw,aw,aw,aw,show ("" : Str).length=0 by decide +kernel]
     omega
    ·have ej:Txt.join ("" : Str) [tx (wr ta),tx (wr tb),tx (wr tc),tx (wr td)]=tx (wr ta++(wr tb++(wr tc++wr td))):=by
      have:=oh [wr ta,wr tb,wr tc,wr td]
      simpa using this
     rw[ej];refine⟨_,_,rfl,rfl,?_,?_⟩
     ·rw[h9,aw,aw,B3,B3,B3];show 1 + _≤sizeLine;exact Cq (show _≤3001 by omega) (by decide)
     ·have eq:("+" : Str)++tx (wr ta++(wr tb++(wr tc++wr td)))=tx (wr (.four ta tb tc td)):=by rw[h9,bo];rfl
      dsimp only;rw[eq];exact q' H' c1
   ·rintro σ H' R R' k ⟨a1,e1,v,t,n,h1,h2,h3,h4,h5,h6,h⟩;exact⟨a1,e1,v,t,n,h1,h2,h3,h4,h5,h6,fun H4 s4=>k _ _ (h H4 s4)⟩
end
def suf (z:Str)(k:Nat):Str:=⟨(z.cps.toList.drop k).toArray⟩
theorem nK {z:Str}{k:Nat}(h:k≤z.length):Txt.slice z (some (k:Int)) none=suf z k:=by
 have e:=PyProof.Rows.slice_closes_from (x:=z) (i:=(k:Int)) ⟨by omega,by rw[← eB];omega⟩;rw[beq_iff_eq]at e;rw[e];unfold suf
 congr 2
 rw[CL,CU];rw[CT,← eB];omega
def q8 (ns:List (List Nat)):Prop:=(∀ n∈ns,ce n=true)∧ns.Nodup
theorem rQ (w:List Nat)(k:Nat):pre (tx w) k=tx (w.take k):=by
 unfold pre;rw[br];rfl
theorem v4 (w:List Nat)(k:Nat):suf (tx w) k=tx (w.drop k):=by
 unfold suf;rw[br];rfl
theorem zR:∀ m:Nat,m < 26→atI ("abcdefghijklmnopqrstuvwxyz" : Str).cps.toList (m:Int)=some (97 + m):=by decide +kernel
theorem Bx:∀ m:Nat,m < 4→atI ("wxyz" : Str).cps.toList (m:Int)=some (119 + m):=by decide +kernel
theorem u_ (us:List Nat):Txt.join ("" : Str) (us.map fun c=>tx [c])=tx us:=by
 have:=oh (us.map fun c=>[c])
 rw[C6]at this;rw[show (us.map fun c=>tx [c])=us.map (tx ∘ fun c=>[c]) from rfl,this]
 congr 1
 clear this
 induction us with
 | nil=>rfl
 | cons a r ih=>rw[Ct,List.flatten_cons,ih];rfl
theorem wG (us:List Nat):((us.map fun c=>tx [c]).map (·.length)).sum=us.length:=by
 induction us with
 | nil=>rfl
 | cons a r ih =>
  rw[Ct,Ct,List.sum_cons,ih,B5,show (tx [a]).length=1 from aw _];omega
section
variable {P:Program}{w:World}{K:PySem.W.Frag}{mg:Str→Option Value}{base:Heap}{CX:CXT}{f:Addr}{fd:FuncData}
abbrev gJ:Stmt:=top 165
theorem cJ:ap ["_law_script","_law_names_here","_law_k","_law_cell","_law_name","_law_spot"] ["_law_script"] (ai gJ):=⟨rfl,rfl,rfl,by decide +kernel,rfl,by decide +kernel,by decide +kernel⟩
def i4 (K:PySem.W.Frag):Sp:=fun vs H Q _=>∃ (a:Addr) (ns:List Int),vs=[.ref a]∧SqL K H a (ns.map V.int)∧ns.length≤63∧∀ (l:Addr) (n0 n1 n2 n3:List Nat) H',al H H'→H' l=some (.lst [.str (tx n0),.str (tx n1),.str (tx n2),.str (tx n3)])→q8 [n0,n1,n2,n3]→Q (.ref l) H'
theorem pb (T:Tx K mg)(q:bv CX)(F:aN K "_law_names" "_law_names" gJ f fd .none)(C__law_at:Fok P w K mg base CX 1 "_law_at" ["_law_script","_law_k"] [] (hX K))(C__law_mix:Fok P w K mg base CX 1 "_law_mix" ["_law_cell","_law_k"] [] du):aO P w K mg base CX 2 f fd ["_law_script"] (i4 K):=by
 refine F.ok cJ (fun vs H Q E h =>?_) (fun cdv A outer s H vs Q E hr h =>?_)
 ·obtain⟨_,_,rfl,_⟩:=h;rfl
 obtain⟨a,ns,rfl,hS,hn,q'⟩:=h;refine⟨_,(ae (aE (i:=1) cJ.nd rfl (Or.inl rfl) (bQ am)) (ae (dD CP rfl (cM rfl T.b_range (aa ac af)) (aQ (i:=2) cJ.nd rfl (Or.inl rfl)) (ae (aE (i:=3) cJ.nd rfl (Or.inr rfl) (au C__law_at q hr (aa (pv 0) (aa (pv 2) af)))) (ae (aE (i:=4) cJ.nd rfl (Or.inl rfl) (dh PySem.F.plainAttrs_str PySem.F.slot_str_join PySem.F.type_str_join fV ah (aa (dM (N':=["_law_j","_law_cell"]) ["_law_cell"] ["_law_cell"] [3] 1 (by with_unfolding_all rfl) rfl (c5 rfl rfl (by decide) b9) rfl rfl (by decide) rfl (by decide +kernel) rfl (by decide +kernel) rfl (cM rfl T.b_range (aa (ar aU (pv 3) ac) af)) (fun C s0 H0 fp pins=>(aQ (i:=0) (show (["_law_j","_law_cell"]:List Str).Nodup by decide +kernel) rfl (Or.inl rfl) (Or.inr rfl))) (fun C s0 H0 fp pins=>(aq eE ah (ar aU (au C__law_mix q hr (aa (pv 1) (aa (ar bC ac (pv 0)) af))) ac) (fun _ _=>rfl)))) af))) (ae (aE (i:=5) cJ.nd rfl (Or.inl rfl) (ar aU (au C__law_mix q hr (aa (pv 3) (aa ac af))) (ar bC (ax bu rfl T.b_len ck (aa (pv 4) af)) ac))) (ag (bL (dh PySem.F.plainAttrs_list PySem.F.slot_list_append PySem.F.type_list_append dE (pv 1) (aa (ar aP (ar aP (ci eT (pv 4) c_ (cm (pv 5))) (aq eE ah (pv 2) (fun _ _=>rfl))) (ci eT (pv 4) (cm (pv 5)) c_)) af)))))))) (ae (aV (aB qi (x0 rfl rfl T.b_len rfl T.b_set (pv 1)) ac (aK _)) (ag (av (bQ (aH ah (aH ah (aH ah (aH ah am))))))) aA) (ag (av (pv 1)))))),?_⟩
 refine⟨(by show 0≤sizeLine;decide),fun l hl =>?_⟩;have s1:=al.new hl (.lst []);have u1:upd H l (.lst []) l=some (.lst []):=aj;generalize upd H l (.lst [])=H1 at *;refine⟨4,rfl,by decide,by decide,cO (fun (j:Nat) σ H2=>al H H2∧∃ (nms:List (List Nat)) (o2 o3 o4 o5:Option V),H2 l=some (.lst (nms.map fun z=>V.str (tx z)))∧nms.length=j∧(∀ n∈nms,ce n=true)∧σ=[some (.ref a),some (.ref l),o2,o3,o4,o5]) ⟨s1,[],none,none,none,none,u1,rfl,(fun n h=>by cases h),rfl⟩ ?_ ?_⟩
 ·rintro j σ H2 hj ⟨s2,nms,o2,o3,o4,o5,u2,lj,hnm,rfl⟩;have hj':j < 4:=hj;rw[show (0:Int) + (j:Int)=(j:Int) from DO _];have hS2:=hS.up s2;refine⟨_,rfl,_,rfl,a,ns,j,rfl,hS2,hn,?_⟩;generalize cell ns j=c;obtain⟨m,hm,em⟩:∃ m:Nat,m < 8∧c % 8=(m:Int):=⟨(c % 8).toNat,by omega,by omega⟩;refine⟨rfl,[.int c],rfl,_,rfl,_,_,rfl,rfl,(by show (0:Int) < 8;decide),c % 8,rfl,by omega,by omega,qT (fun D (i:Nat) ys H'=>al H2 H'∧H' D=some (.lst ys)∧∃ us:List Nat,ys=us.map (fun c=>V.str (tx [c]))∧us.length=i∧∀ c∈us,97≤c∧c≤122) (a9 (by omega)) (fun D i ys H' h=>⟨h.2.1,by obtain⟨us,e1,e2,_⟩:=h.2.2;rw[e1,B_,e2];exact B7 _⟩) (fun D hD=>⟨al.new hD _,aj,[],rfl,rfl,fun c h=>by cases h⟩) ?_ ?_ (fun _ _ _ _ _ k h=>k _ _ h) ?_⟩
  ·rintro D i ys H' hi hD ⟨b1,b2,us,rfl,lu,hu⟩;have ek:(9:Int) + (0 + (i:Int))=((9 + i:Nat):Int):=by omega
   refine⟨rfl,_,rfl,_,rfl,_,_,rfl,rfl,c,9 + i,(by show [V.int c,V.int (9 + (0 + (i:Int)))]=_;rw[ek]),by omega,fun x hx =>?_⟩;obtain⟨y,hy,ey⟩:∃ y:Nat,y < 26∧x % 26=(y:Int):=⟨(x % 26).toNat,by omega,by omega⟩;refine⟨_,_,rfl,rfl,(by show (0:Int) < 26;decide),_,_,97 + y,rfl,rfl,(by decide +kernel),(by rw[ey];exact zR y hy),b2,al.set b1 hD _,aj,us++[97 + y],?_,by simp[lu],fun c' hc' =>?_⟩
   ·rw[CD];rfl
   ·rcases Cm.mp hc' with h|h
    ·exact hu c' h
    ·rw[CA.mp h];omega
  ·rintro D ys H' hD ⟨b1,b2,us,rfl,lu,hu⟩;have l8:us.length≤7:=by omega
   refine⟨_,D,us.map fun c=>tx [c],rfl,rfl,SqL.of (by rw[b2,C6];rfl),?_,?_⟩
   ·rw[wG,B_,show ("" : Str).length=0 by decide +kernel]
    omega
   rw[u_];have lt:=aw us;refine⟨_,rfl,c,8,rfl,by decide,fun x hx=>⟨_,rfl,_,_,rfl,⟨a9 (by omega),rfl⟩,_,_,rfl,rfl,_,_,rfl,rfl,(by omega),?_⟩⟩;obtain⟨sp,hsp,esp⟩:∃ sp:Nat,sp≤us.length∧x % (((tx us).length:Int) + 1)=(sp:Int):=by
    rw[lt];have h1:=C3 x (show ((us.length:Int) + 1)≠0 by omega);have h2:=C1 x (show (0:Int) < (us.length:Int) + 1 by omega);exact⟨(x % ((us.length:Int) + 1)).toNat,by omega,by omega⟩
   dsimp only;rw[esp];have sz:(tx us).length≤sizeLine:=a9 (by omega);have u2':=b1 _ _ u2;refine⟨_,rfl,.inl ⟨rfl,_,SqL.of u2'⟩,_,rfl,_,rfl,_,rfl,_,rfl,sz,_,rfl,_,_,119 + j,rfl,rfl,(by decide +kernel),Bx j hj',?_⟩;rw[jI,rQ];refine⟨_,_,rfl,rfl,a9 (by rw[aw,CH];show _ + 1≤1000;omega),?_⟩;rw[show (⟨#[119 + j]⟩:Str)=tx [119 + j] from rfl,bo];refine⟨_,rfl,_,rfl,_,rfl,_,rfl,sz,?_⟩;rw[nK (by omega),v4];refine⟨_,_,rfl,rfl,a9 (by rw[aw,aw,B3,CH,CT];show _ + 1 + _≤1000;omega),?_⟩;rw[bo];refine⟨l,_,_,rfl,rfl,u2',De (show _≤4 by rw[B_];omega) (by decide),al.set (s2.trans b1) hl _,nms++[us.take sp++[119 + j]++us.drop sp],_,_,_,_,by rw[aj,CD];rfl,by simp[lj],fun n hn' =>?_,rfl⟩;rcases Cm.mp hn' with h | h
   ·exact hnm n h
   ·rw[CA.mp h];refine cH.mpr ⟨?_,?_,fun c' hc' =>?_⟩
    ·simp only[B3,B5,List.length_nil];omega
    ·simp only[B3,B5,List.length_nil,CH,CT];omega
    ·rcases Cm.mp hc' with h|h
     ·rcases Cm.mp h with h|h
      ·exact hu _ (DC h)
      ·rw[CA.mp h];omega
     ·exact hu _ (Dl h)
  ·rintro σ H' R R' k h;obtain⟨a1,e1,a2,e2,i,j,e3,e4,c,kk,f1,f2,h⟩:=h;refine⟨a1,e1,a2,e2,i,j,e3,e4,c,kk,f1,f2,fun m hm =>?_⟩;obtain⟨b1,b2,g1,g2,g3,b3,b4,b5,g4,g5,g6,g7,r⟩:=h m hm;exact⟨b1,b2,g1,g2,g3,b3,b4,b5,g4,g5,g6,g7,k _ _ r⟩
 ·rintro σ H2 ⟨s2,nms,o2,o3,o4,o5,u2,lj,hnm,rfl⟩;have l4:nms.length=4:=lj;have e4:(nms.map tx).map V.str=nms.map fun z=>V.str (tx z):=by
   rw[C6];rfl
  obtain⟨ul,un⟩:=lC (nms.map tx);rw[B_,l4]at ul un;refine⟨_,rfl,l,nms.map tx,rfl,SqL.of (by rw[u2,e4]),by rw[B_];omega,_,_,rfl,rfl,_,rfl,bM (fun c =>?_) (fun c =>?_)⟩
  ·refine⟨(by show 4≤sizeLine;decide),fun p hp=>q' p [119] [119,120] [121] (List.replicate 8 119) _ (s2.trans (al.new hp _)) ?_ ⟨?_,?_⟩⟩
   ·rw[aj]
    congr 2
   ·intro n hn';simp only[B6,Cc,or_false]at hn';rcases hn' with rfl | rfl | rfl | rfl<;>decide
   ·decide
  ·have c':¬ ((uq (nms.map tx):Nat):Int) < 4:=fun h=>c (B8 h);have nd:=un.mpr (by omega)
   match nms,l4 with
   | [n0,n1,n2,n3],_=>exact⟨_,rfl,q' l n0 n1 n2 n3 H2 s2 u2 ⟨hnm,List.Pairwise.of_map tx (fun a b h e=>h (Cs tx e)) nd⟩⟩
end
inductive TpA (H:Hp):List Addr→List (Str × Str)→Prop
 | nil:TpA H [] []
 | cons {p:Addr} {a b:Str} {ps:List Addr} {zs:List (Str × Str)}:H p=some (.tup [.str a,.str b])→TpA H ps zs→TpA H (p::ps) ((a,b)::zs)
theorem TpA.up {H H':Hp}{ps:List Addr}{zs:List (Str × Str)}(h:TpA H ps zs)(s:al H H'):TpA H' ps zs:=by
 induction h with
 | nil=>exact .nil
 | cons a b ih=>exact .cons (s _ _ a) ih
theorem TpA.app {H:Hp}{ps qs:List Addr}{zs ys:List (Str × Str)}(h:TpA H ps zs)(g:TpA H qs ys):TpA H (ps++qs) (zs++ys):=by
 induction h with
 | nil=>exact g
 | cons a b ih=>exact .cons a ih
theorem TpA.len {H:Hp}{ps:List Addr}{zs:List (Str × Str)}(h:TpA H ps zs):ps.length=zs.length:=by
 induction h with
 | nil=>rfl
 | cons a b ih=>exact Cs (· + 1) ih
theorem TpA.get {H:Hp}{ps:List Addr}{zs:List (Str × Str)}(h:TpA H ps zs):∀ {i:Nat} {z:Str × Str},zs[i]? = some z→∃ p,ps[i]? = some p∧H p=some (.tup [.str z.1,.str z.2]):=by
 induction h with
 | nil=>intro i z h;simp at h
 | cons a b ih =>
  intro i z hz;cases i with
  | zero=>cases hz;exact⟨_,rfl,a⟩
  | succ i=>exact ih hz
def kh:List (TE × Str)→TA
 | []=>gk
 | e::r=>dS (xB (dS e.1 (dS (tC (.str e.2)) gk))) (kh r)
inductive Yl (σ:St):List (TE × Str)→List Str→Prop
 | nil:Yl σ [] []
 | cons {te:TE} {b y:Str} {es:List (TE × Str)} {ys:List Str}:(∀ H (R:VK),R (.str y) H→te σ H R)→Yl σ es ys→Yl σ ((te,b)::es) (y::ys)
theorem tZ {σ:St}{es:List (TE × Str)}{ys:List Str}(hy:Yl σ es ys):∀ {H:Hp} {R:List V→Hp→Prop},(∀ ps H',al H H'→TpA H' ps (ys.zip (es.map (·.2)))→R (ps.map V.ref) H')→kh es σ H R:=by
 induction hy with
 | nil=>intro H R q;exact q [] H (al.refl H) .nil
 | @cons te b y es ys h _ ih =>
  intro H R q;refine h H _ ⟨(by show 2≤sizeLine;decide),fun p hp=>ih fun ps H' s' t' =>?_⟩;have s0:=al.new hp (.tup [.str y,.str b]);exact q (p::ps) H' (s0.trans s') (.cons (s' _ _ aj) t')
theorem pr {σ:St}{H:Hp}{R:VK}{l:Addr}{i:Nat}{ps:List Addr}{zs:List (Str × Str)}{es:List (TE × Str)}{ys:List Str}(hi:σ[i]? = some (some (.ref l)))(hl:H l=some (.lst (ps.map V.ref)))(ht:TpA H ps zs)(hy:Yl σ es ys)(hz:zs.length + (ys.zip (es.map (·.2))).length≤100)
  (q:∀ l' ps' H',al H H'→H' l'=some (.lst (ps'.map V.ref))→TpA H' ps' (zs++ys.zip (es.map (·.2)))→R (.ref l') H'):tOp uE (bO i) (mU (kh es)) σ H R:=by
 refine⟨_,hi,tZ hy fun qs H1 s1 t1 =>?_⟩;have e1:=t1.len;have e0:=ht.len;refine⟨a9 (by rw[B_];omega),fun p hp =>?_⟩;have s2:=al.new hp (.lst (qs.map V.ref));refine⟨l,p,_,_,rfl,rfl,s2 _ _ (s1 _ _ hl),aj,a9 (by rw[B_,B_];omega),fun p3 hp3 =>?_⟩;have s3:=s1.trans (s2.trans (al.new hp3 (.lst (ps.map V.ref++qs.map V.ref))));refine q p3 (ps++qs) _ s3 (by rw[aj,CD]) ((ht.up s3).app (t1.up (s2.trans (al.new hp3 _))))
theorem qN {σ:St}{H:Hp}{D:hJ}{rest:TS}{i:Nat}{es:List (TE × Str)}{ys:List Str}(hy:Yl σ es ys)(hz:(ys.zip (es.map (·.2))).length≤100)
  (q:∀ l ps H',al H H'→H' l=some (.lst (ps.map V.ref))→TpA H' ps (ys.zip (es.map (·.2)))→rest D (σ.set i (some (.ref l))) H'):rk (mV (mU (kh es)) (ir i)) rest D σ H :=
 tZ hy fun ps H1 s1 t1=>⟨a9 (by rw[B_,t1.len];omega),fun l hl=>q l ps _ (s1.trans (al.new hl _)) aj (t1.up (al.new hl _))⟩
theorem lh {σ:St}{H:Hp}{D:hJ}{rest:TS}{l:Addr}{i:Nat}{ps:List Addr}{zs:List (Str × Str)}{es:List (TE × Str)}{ys:List Str}(hi:σ[i]? = some (some (.ref l)))(hl:H l=some (.lst (ps.map V.ref)))(ht:TpA H ps zs)(hy:Yl σ es ys)(hz:zs.length + (ys.zip (es.map (·.2))).length≤100)
  (q:∀ l' ps' H',al H H'→H' l'=some (.lst (ps'.map V.ref))→TpA H' ps' (zs++ys.zip (es.map (·.2)))→rest D (σ.set i (some (.ref l'))) H'):rk (mV (tOp uE (bO i) (mU (kh es))) (ir i)) rest D σ H:=pr hi hl ht hy hz q
def iS:List (List Nat × List Nat):=[([112,108,97,105,110],[110,119,111]),([114,101,97,100],[110,116]),([99,111,112,121],[110,102]),([100,114,111,112],[102]),([112,97,114,116],[110,102,99]),([119,105,110,100,111,119],[110,102,119,119,119,111]),([111,118,101,114],[110,102,102,111]),([112,97,105,110,116],[102,99,111]),([109,97,112],[102,111,111]),([116,117,114,110],[102]),([109,105,114,114,111,114],[102]),([115,119,97,112],[102]),([112,117,116],[102,99,102]),([108,97,121],[102,119,119,102]),([102,105,110,101,114],[102,119]),([99,111,97,114,115,101,114],[102,119]),([115,104,111,119],[102]),([97,116],[102,119,119]),([115,97,109,101],[102,102]),([97,114,101,97],[102,111]),([108,101,97,118,101,115],[102]),([98,101,121,111,110,100],[102,99,115]),([108,97,110,100,115],[102]),([115,116,101,112,115],[102,119,119,119,119]),([114,105,110,103,115],[102,119,119])]
theorem xf:iS.map (fun e=>(tx e.1,tx e.2))=([("plain","nwo"),("read","nt"),("copy","nf"),("drop","f"),("part","nfc"),("window","nfwwwo"),("over","nffo"),("paint","fco"),("map","foo"),("turn","f"),("mirror","f"),("swap","f"),("put","fcf"),("lay","fwwf"),("finer","fw"),("coarser","fw"),("show","f"),("at","fww"),("same","ff"),("area","fo"),("leaves","f"),("beyond","fcs"),("lands","f"),("steps","fwwww"),("rings","fww")]:List (Str × Str)):=by decide +kernel
def kdL (c:Nat):Kd:=if c=110 then .new else if c=102 then .one else if c=116 then .txt else if c=119 then .num else if c=111 then .col else if c=99 then .cod else .sid
theorem qK:∀ e∈iS,(dk eQ (.inr (tx e.1))=some (.str (tx (glu ((e.2.map kdL).map Kd.wd)))))∧(e.2≠[]∧e.2.length≤6∧∀ c∈e.2,c∈[110,102,116,119,111,99,115])∧e.1≠[]∧e.1.length≤7∧∀ c∈e.1,97≤c∧c≤122∧c≠113:=by decide +kernel
theorem a6 {e:List Nat × List Nat}(h:e∈iS):dF e.1 (e.2.map kdL):=by
 obtain⟨h1,h2,_⟩:=qK e h;exact⟨h1,by simpa using h2.1,by rw[B_];exact h2.2.1⟩
section
variable {P:Program}{w:World}{K:PySem.W.Frag}{mg:Str→Option Value}{base:Heap}{CX:CXT}{f:Addr}{fd:FuncData}
abbrev gK:Stmt:=top 158
theorem c9:ap ["_law_some"] [] (ai gK):=⟨rfl,rfl,rfl,by decide +kernel,rfl,by decide +kernel,by decide +kernel⟩
def i5:Sp:=fun vs H Q _=>vs=[]∧∀ l ps H',al H H'→H' l=some (.lst (ps.map V.ref))→TpA H' ps (iS.map fun e=>(tx e.1,tx e.2))→Q (.ref l) H'
theorem pc (T:Tx K mg)(F:aN K "_law_forms" "_law_forms" gK f fd .none):aO P w K mg base CX 1 f fd [] i5:=by
 refine F.oks c9 (fun vs H Q E h =>?_) (fun cdv A outer s H vs Q E hr h =>?_)
 ·obtain⟨rfl,_⟩:=h;rfl
 obtain⟨rfl,q'⟩:=h;refine⟨_,(aJ (kZ (i:=0) c9.nd rfl (Or.inl rfl) (bi (ak (aI (ak (PEx.mk ah) (ak (PEx.mk ah) am))) (ak (aI (ak (PEx.mk ah) (ak (PEx.mk ah) am))) (ak (aI (ak (PEx.mk ah) (ak (PEx.mk ah) am))) (ak (aI (ak (PEx.mk ah) (ak (PEx.mk ah) am))) (ak (aI (ak (PEx.mk ah) (ak (PEx.mk ah) am))) (ak (aI (ak (PEx.mk ah) (ak (PEx.mk ah) am))) am)))))))) (aJ (cg (i:=0) c9.nd rfl (Or.inl rfl) (eA cG (PEx.mk (pv 0)) (bi (ak (aI (ak (PEx.mk ah) (ak (PEx.mk ah) am))) (ak (aI (ak (PEx.mk ah) (ak (PEx.mk ah) am))) (ak (aI (ak (PEx.mk ah) (ak (PEx.mk ah) am))) (ak (aI (ak (PEx.mk ah) (ak (PEx.mk ah) am))) (ak (aI (ak (PEx.mk ah) (ak (PEx.mk ah) am))) (ak (aI (ak (PEx.mk ah) (ak (PEx.mk ah) am))) am))))))))) (aJ (cg (i:=0) c9.nd rfl (Or.inl rfl) (eA cG (PEx.mk (pv 0)) (bi (ak (aI (ak (PEx.mk ah) (ak (PEx.mk ah) am))) (ak (aI (ak (PEx.mk ah) (ak (PEx.mk ah) am))) (ak (aI (ak (PEx.mk ah) (ak (PEx.mk ah) am))) (ak (aI (ak (PEx.mk ah) (ak (PEx.mk ah) am))) (ak (aI (ak (PEx.mk ah) (ak (PEx.mk ah) am))) (ak (aI (ak (PEx.mk ah) (ak (PEx.mk ah) am))) am))))))))) (aJ (cg (i:=0) c9.nd rfl (Or.inl rfl) (eA cG (PEx.mk (pv 0)) (bi (ak (aI (ak (PEx.mk ah) (ak (PEx.mk ah) am))) (ak (aI (ak (PEx.mk ah) (ak (PEx.mk ah) am))) (ak (aI (ak (PEx.mk ah) (ak (PEx.mk ah) am))) (ak (aI (ak (PEx.mk ah) (ak (PEx.mk ah) am))) (ak (aI (ak (PEx.mk ah) (ak (PEx.mk ah) am))) am)))))))) (bF (PSx.mk (av (ar cG (pv 0) (bQ (aH (bA (aH ah (aH ah am))) (aH (bA (aH ah (aH ah am))) am))))))))))),?_⟩;refine qN (es:=[(tC (.str "plain"),"nwo"),(tC (.str "read"),"nt"),(tC (.str "copy"),"nf"),(tC (.str "drop"),"f"),(tC (.str "part"),"nfc"),(tC (.str "window"),"nfwwwo")]) (ys:=["plain","read","copy","drop","part","window"]) (.cons (fun _ _ h=>h) (.cons (fun _ _ h=>h) (.cons (fun _ _ h=>h) (.cons (fun _ _ h=>h) (.cons (fun _ _ h=>h) (.cons (fun _ _ h=>h) .nil)))))) (by decide) fun l1 ps1 A1 s1 u1 t1 =>?_
 refine lh (i:=0) rfl u1 t1 (es:=[(tC (.str "over"),"nffo"),(tC (.str "paint"),"fco"),(tC (.str "map"),"foo"),(tC (.str "turn"),"f"),(tC (.str "mirror"),"f"),(tC (.str "swap"),"f")]) (ys:=["over","paint","map","turn","mirror","swap"]) (.cons (fun _ _ h=>h) (.cons (fun _ _ h=>h) (.cons (fun _ _ h=>h) (.cons (fun _ _ h=>h) (.cons (fun _ _ h=>h) (.cons (fun _ _ h=>h) .nil)))))) (by decide) fun l2 ps2 A2 sn u2 t2 =>?_
 have s2:=s1.trans sn;refine lh (i:=0) rfl u2 t2 (es:=[(tC (.str "put"),"fcf"),(tC (.str "lay"),"fwwf"),(tC (.str "finer"),"fw"),(tC (.str "coarser"),"fw"),(tC (.str "show"),"f"),(tC (.str "at"),"fww")]) (ys:=["put","lay","finer","coarser","show","at"]) (.cons (fun _ _ h=>h) (.cons (fun _ _ h=>h) (.cons (fun _ _ h=>h) (.cons (fun _ _ h=>h) (.cons (fun _ _ h=>h) (.cons (fun _ _ h=>h) .nil)))))) (by decide) fun l3 ps3 A3 sn u3 t3 =>?_
 have s3:=s2.trans sn;refine lh (i:=0) rfl u3 t3 (es:=[(tC (.str "same"),"ff"),(tC (.str "area"),"fo"),(tC (.str "leaves"),"f"),(tC (.str "beyond"),"fcs"),(tC (.str "lands"),"f")]) (ys:=["same","area","leaves","beyond","lands"]) (.cons (fun _ _ h=>h) (.cons (fun _ _ h=>h) (.cons (fun _ _ h=>h) (.cons (fun _ _ h=>h) (.cons (fun _ _ h=>h) .nil))))) (by decide) fun l4 ps4 A4 sn u4 t4 =>?_
 have s4:=s3.trans sn;refine pr (i:=0) rfl u4 t4 (es:=[(tC (.str "steps"),"fwwww"),(tC (.str "rings"),"fww")]) (ys:=["steps","rings"]) (.cons (fun _ _ h=>h) (.cons (fun _ _ h=>h) .nil)) (by decide) fun l5 ps5 A5 sn u5 t5 =>?_
 have s5:=s4.trans sn;exact q' l5 ps5 A5 s5 u5 (by
  have e:iS.map (fun e=>(tx e.1,tx e.2))=_:=xf;rw[e];exact t5)
end
def clI (c:Nat):Nat:=if c=110 then 9 else if c=102 then 9 else if c=99 then 1 else if c=111 then 2 else if c=119 then 10 else if c=115 then 4 else 8
def Yc {K:PySem.W.Frag}{mg:Str→Option Value}(Y:Yx K mg):Nat→Addr
 | 0=>Y.c_NoLevel
 | 1=>Y.c_NoCode
 | 2=>Y.c_NoColour
 | 3=>Y.c_NoPlace
 | 4=>Y.c_NoSide
 | 5=>Y.c_NoLeaf
 | 8=>Y.c_NoText
 | 9=>Y.c_NoName
 | 10=>Y.c_NoNumber
 | _=>Y.c_NoRow
def wdI:Nat→Str
 | 0 => "level"
 | 1 => "code"
 | 2 => "colour"
 | 3 => "place"
 | 4 => "side"
 | 5 => "leaf"
 | 8 => "text"
 | 9 => "name"
 | 10 => "number"
 | _ => "row"
def D3 (n0 n1 n2:List Nat)(v0 v1 v2:V):List (List Nat × V):=[(n0,v0),(n1,v1),(n2,v2)]
def NmL (H:Hp)(l:Addr)(n0 n1 n2 n3:List Nat):Prop:=H l=some (.lst [.str (tx n0),.str (tx n1),.str (tx n2),.str (tx n3)])∧q8 [n0,n1,n2,n3]
def kD (n0 n1 n2:List Nat)(kc:Nat)(w:List Nat):Prop:=32∉w∧w.length≤60∧∀ v0 v1 v2,∃ r,VOk (D3 n0 n1 n2 v0 v1 v2) (kdL kc) w r
def mT (n0 n1 n2:List Nat)(kc:Nat)(w:List Nat):Prop:=32∉w∧w.length≤60∧∀ {K:PySem.W.Frag} {mg:Str→Option Value} (Y:Yx K mg) (v0 v1 v2:V),VNo Y (D3 n0 n1 n2 v0 v1 v2) (kdL kc) w (Yc Y (clI kc))
theorem kK {n:Nat}{xs:List V}(c:Int)(h0:0 < n)(hn:xs.length=n):∃ v,v∈xs∧atI xs (c % (n:Int))=some v:=by
 have h1:=C3 c (show (n:Int)≠0 by omega);have h2:=C1 c (show (0:Int) < n by omega);obtain⟨m,hm⟩:=Da h1;rw[hm];have hm':m < xs.length:=by omega
 exact⟨xs[m],List.getElem_mem hm',dH (Cf hm')⟩
theorem jx {n x:List Nat}{v:V}{D:List (List Nat × V)}(h:¬ x=n):((n,v)::D).lookup x=D.lookup x:=by
 rw[C5,show (x == n)=false from beq_false_of_ne h]
theorem nN {n:List Nat}{v:V}{D:List (List Nat × V)}:((n,v)::D).lookup n=some v:=by
 rw[C5,show (n == n)=true from beq_self_eq_true n]
theorem A_ {n0 n1 n2:List Nat}{v0 v1 v2:V}{n:List Nat}(h:n=n0∨n=n1∨n=n2):∃ v,(D3 n0 n1 n2 v0 v1 v2).lookup n=some v:=by
 unfold D3;by_cases h0:n=n0
 ·exact⟨v0,by rw[h0];exact nN⟩
 rw[jx h0];by_cases h1:n=n1
 ·exact⟨v1,by rw[h1];exact nN⟩
 rw[jx h1];exact⟨v2,by rw[(h.resolve_left h0).resolve_left h1];exact nN⟩
theorem yW {n0 n1 n2 n3:List Nat}{v0 v1 v2:V}(h:q8 [n0,n1,n2,n3]):(D3 n0 n1 n2 v0 v1 v2).lookup n3=none:=by
 have nd:=h.2;simp only[CQ,B6,Cc,or_false,not_or]at nd;obtain⟨⟨_,_,a⟩,⟨_,b⟩,c,_⟩:=nd;unfold D3;rw[jx fun z=>a z.symm,jx fun z=>b z.symm,jx fun z=>c z.symm];rfl
def vI (m:Nat):List Nat:=if m < 9 then [45,48 + (9 - m)] else [48 + (m - 9)]
theorem w19:∀ m:Nat,m < 19→Str.ofString (toString ((m:Int) - 9))=tx (vI m)∧nwB (vI m)=true∧intText? (tx (vI m))=some ((m:Int) - 9)∧32∉vI m∧(vI m).length≤2∧((m:Int) - 9).natAbs.log2 < 1920:=by decide +kernel
theorem kY:∀ w∈[[48,58,55],[49,58,43,48,49,50,51],[52,48,58,122],[50,58,43,48,43,97,97,98,98,49,50]],(rdS w).isSome=true:=by decide +kernel
theorem fP:∀ w∈[[],[49,58,43,48,49,50],[48,58],[120,58,49],[52,49,58,48],[48,58,43,48,48,48,48],[55]],(rdS w).isNone=true:=by decide +kernel
section
variable {P:Program}{w:World}{K:PySem.W.Frag}{mg:Str→Option Value}{base:Heap}{CX:CXT}{f:Addr}{fd:FuncData}
abbrev iI:Stmt:=top 159
theorem qb:ap ["_law_kind","_law_cell","_law_names_here"] ["_law_kind","_law_cell","_law_names_here"] (ai iI):=⟨rfl,rfl,rfl,by decide +kernel,rfl,by decide +kernel,by decide +kernel⟩
def kq:Sp:=fun vs H Q _=>∃ (kc:Nat) (c:Int) (l:Addr) (n0 n1 n2 n3:List Nat),vs=[.str (tx [kc]),.int c,.ref l]∧kc∈[110,102,116,119,111,99,115]∧NmL H l n0 n1 n2 n3∧∀ w H',al H H'→kD n0 n1 n2 kc w→Q (.str (tx w)) H'
theorem qv (T:Tx K mg)(F:aN K "_law_good" "_law_good" iI f fd .none):aO P w K mg base CX 1 f fd ["_law_kind","_law_cell","_law_names_here"] kq:=by
 refine F.oks qb (fun vs H Q E h =>?_) (fun cdv A outer s H vs Q E hr h =>?_)
 ·obtain⟨_,_,_,_,_,_,_,rfl,_⟩:=h;rfl
 obtain⟨kc,c,l,n0,n1,n2,n3,rfl,hk,⟨hl,hN⟩,q'⟩:=h;refine⟨_,(aJ (dR (aB bS (pv 0) ah (aK _)) (bF (cL (PEx.mk (aq ao (pv 2) ac (fun _ _=>rfl))))) cz) (aJ (dR (aB bS (pv 0) ah (aK _)) (bF (cL (PEx.mk (aq ao (pv 2) (ar aU (pv 1) ac) (fun _ _=>rfl))))) cz) (aJ (dR (aB bS (pv 0) ah (aK _)) (bF (cL (fc ao (bi (fU rfl)) (ar aU (pv 1) ac) (fun _ _=>rfl)))) cz) (aJ (dR (aB bS (pv 0) ah (aK _)) (bF (cL (PEx.mk (aq eE ah (ar aU (pv 1) ac) (fun _ _=>rfl))))) cz) (aJ (dR (aB bS (pv 0) ah (aK _)) (bF (PSx.mk (av (bq bY rfl T.b_str eF (aa (ar j4 (ar aU (pv 1) ac) ac) af))))) cz) (aJ (dR (aB bS (pv 0) ah (aK _)) (bF (cL (fc ao (bi (fU rfl)) (ar aU (pv 1) ac) (fun _ _=>rfl)))) cz) (bF (cL (fc ao (bi (fU rfl)) (ar aU (pv 1) ac) (fun _ _=>rfl)))))))))),?_⟩;have nm:∀ n∈[n0,n1,n2,n3],ce n=true:=hN.1;have no:∀ {kc:Nat} {z:Str} {w:List Nat},z=tx w→[kc]≠w→¬ V.str (tx [kc])=V.str z:=fun e h z=>h (dO ((V.str.inj z).trans e));have nl:∀ n∈[n0,n1,n2,n3],n.length≤60:=fun n hn=>by
  have:=(cH.mp (nm n hn)).2.1
  omega
 simp only[B6,Cc,or_false]at hk;rcases hk with rfl | rfl | rfl | rfl | rfl | rfl | rfl
 ·refine⟨_,rfl,rfl,_,rfl,eP (by decide +kernel) ?_⟩;exact⟨_,rfl,l,_,_,_,rfl,rfl,SqL.of hl,rfl,q' n3 H (al.refl H) ⟨cZ (nm n3 (by simp)),nl n3 (by simp),fun _ _ _=>⟨_,.new (nm n3 (by simp))⟩⟩⟩
 ·refine⟨_,rfl,rfl,_,rfl,ba (by decide +kernel) ?_⟩;refine⟨_,rfl,rfl,_,rfl,eP (by decide +kernel) ?_⟩;obtain⟨m,hm,em⟩:∃ m:Nat,m < 3∧c % 3=(m:Int):=⟨(c % 3).toNat,by omega,by omega⟩;obtain⟨n,hn,ha⟩:∃ n,(n=n0∨n=n1∨n=n2)∧atI [V.str (tx n0),V.str (tx n1),V.str (tx n2),V.str (tx n3)] (c % 3)=some (.str (tx n)):=by
   rw[em];rcases m with _ | _ | _ | m
   ·exact⟨n0,.inl rfl,rfl⟩
   ·exact⟨n1,.inr (.inl rfl),rfl⟩
   ·exact⟨n2,.inr (.inr rfl),rfl⟩
   ·omega
  have hmem:n∈[n0,n1,n2,n3]:=by rcases hn with rfl | rfl | rfl<;>simp
  exact⟨_,rfl,_,rfl,_,_,rfl,rfl,(by show (0:Int) < 3;decide),l,_,_,_,rfl,rfl,SqL.of hl,ha,q' n H (al.refl H) ⟨cZ (nm n hmem),nl n hmem,fun v0 v1 v2=>let ⟨v,hv⟩:=A_ hn;⟨_,.one (nm n hmem) hv⟩⟩⟩
 ·refine⟨_,rfl,rfl,_,rfl,ba (by decide +kernel) ?_⟩;refine⟨_,rfl,rfl,_,rfl,ba (by decide +kernel) ?_⟩;refine⟨_,rfl,rfl,_,rfl,ba (by decide +kernel) ?_⟩;refine⟨_,rfl,rfl,_,rfl,ba (by decide +kernel) ?_⟩;refine⟨_,rfl,rfl,_,rfl,ba (by decide +kernel) ?_⟩;refine⟨_,rfl,rfl,_,rfl,ba (by decide +kernel) ?_⟩;obtain⟨v,hv,ha⟩:=kK (xs:=[V.str "0:7",V.str "1:+0123",V.str "40:z",V.str "2:+0+aabb12"]) c (n:=4) (by decide) rfl
  refine⟨(by show 4≤sizeLine;decide),fun p hp=>⟨_,rfl,_,_,rfl,rfl,(by show (0:Int) < 4;decide),p,_,_,v,rfl,rfl,SqL.of aj,ha,?_⟩⟩;obtain⟨w',rfl,hw⟩:∃ w,v=.str (tx w)∧kD n0 n1 n2 116 w:=by
   simp only[B6,Cc,or_false]at hv;rcases hv with rfl | rfl | rfl | rfl
   ·exact⟨[48,58,55],by decide +kernel,by decide,by decide,fun _ _ _=>let ⟨_,h⟩:=CO.mp (kY [48,58,55] (by simp));⟨_,.txt h⟩⟩
   ·exact⟨[49,58,43,48,49,50,51],by decide +kernel,by decide,by decide,fun _ _ _=>let ⟨_,h⟩:=CO.mp (kY [49,58,43,48,49,50,51] (by simp));⟨_,.txt h⟩⟩
   ·exact⟨[52,48,58,122],by decide +kernel,by decide,by decide,fun _ _ _=>let ⟨_,h⟩:=CO.mp (kY [52,48,58,122] (by simp));⟨_,.txt h⟩⟩
   ·exact⟨[50,58,43,48,43,97,97,98,98,49,50],by decide +kernel,by decide,by decide,fun _ _ _=>let ⟨_,h⟩:=CO.mp (kY [50,58,43,48,43,97,97,98,98,49,50] (by simp));⟨_,.txt h⟩⟩
  exact q' w' _ (al.new hp _) hw
 ·refine⟨_,rfl,rfl,_,rfl,ba (by decide +kernel) ?_⟩;refine⟨_,rfl,rfl,_,rfl,ba (by decide +kernel) ?_⟩;refine⟨_,rfl,rfl,_,rfl,ba (by decide +kernel) ?_⟩;refine⟨_,rfl,rfl,_,rfl,ba (by decide +kernel) ?_⟩;refine⟨_,rfl,rfl,_,rfl,eP (by decide +kernel) ?_⟩;obtain⟨m,hm,em⟩:∃ m:Nat,m < 19∧c % 19=(m:Int):=⟨(c % 19).toNat,by omega,by omega⟩;obtain⟨e1,e2,e3,e4,e5,e6⟩:=w19 m hm;refine⟨_,rfl,_,_,rfl,rfl,(by show (0:Int) < 19;decide),_,_,rfl,rfl,(m:Int) - 9,(by show [V.int (c % 19 - 9)]=_;rw[em]),e6,?_⟩;rw[e1];exact q' _ H (al.refl H) ⟨e4,by omega,fun _ _ _=>⟨_,.num e2 e3⟩⟩
 ·refine⟨_,rfl,rfl,_,rfl,ba (by decide +kernel) ?_⟩;refine⟨_,rfl,rfl,_,rfl,ba (by decide +kernel) ?_⟩;refine⟨_,rfl,rfl,_,rfl,ba (by decide +kernel) ?_⟩;refine⟨_,rfl,rfl,_,rfl,eP (by decide +kernel) ?_⟩;obtain⟨m,hm,em⟩:∃ m:Nat,m < 36∧c % 36=(m:Int):=⟨(c % 36).toNat,by omega,by omega⟩;refine⟨_,rfl,_,_,rfl,rfl,(by show (0:Int) < 36;decide),_,_,cp m,rfl,rfl,jJ,by rw[em];exact pJ m hm,?_⟩;have c32:cp m≠32:=by unfold cp;split<;>omega
  exact q' [cp m] H (al.refl H) ⟨fun z=>c32 (CA.mp z).symm,by simp,fun _ _ _=>⟨_,.col (rz m hm)⟩⟩
 ·refine⟨_,rfl,rfl,_,rfl,ba (by decide +kernel) ?_⟩;refine⟨_,rfl,rfl,_,rfl,ba (by decide +kernel) ?_⟩;refine⟨_,rfl,rfl,_,rfl,eP (by decide +kernel) ?_⟩;obtain⟨v,hv,ha⟩:=kK (xs:=[V.str "-",V.str "0",V.str "3",V.str "2"]) c (n:=4) (by decide) rfl
  refine⟨(by show 4≤sizeLine;decide),fun p hp=>⟨_,rfl,_,_,rfl,rfl,(by show (0:Int) < 4;decide),p,_,_,v,rfl,rfl,SqL.of aj,ha,?_⟩⟩;obtain⟨w',rfl,hw⟩:∃ w,v=.str (tx w)∧kD n0 n1 n2 99 w:=by
   simp only[B6,Cc,or_false]at hv;rcases hv with rfl | rfl | rfl | rfl
   ·exact⟨[45],by decide +kernel,by decide,by decide,fun _ _ _=>⟨_,.cod (by decide)⟩⟩
   ·exact⟨[48],by decide +kernel,by decide,by decide,fun _ _ _=>⟨_,.cod (by decide)⟩⟩
   ·exact⟨[51],by decide +kernel,by decide,by decide,fun _ _ _=>⟨_,.cod (by decide)⟩⟩
   ·exact⟨[50],by decide +kernel,by decide,by decide,fun _ _ _=>⟨_,.cod (by decide)⟩⟩
  exact q' w' _ (al.new hp _) hw
 ·refine⟨_,rfl,rfl,_,rfl,ba (by decide +kernel) ?_⟩;refine⟨_,rfl,rfl,_,rfl,ba (by decide +kernel) ?_⟩;refine⟨_,rfl,rfl,_,rfl,ba (by decide +kernel) ?_⟩;refine⟨_,rfl,rfl,_,rfl,ba (by decide +kernel) ?_⟩;refine⟨_,rfl,rfl,_,rfl,ba (by decide +kernel) ?_⟩;refine⟨_,rfl,rfl,_,rfl,eP (by decide +kernel) ?_⟩;obtain⟨v,hv,ha⟩:=kK (xs:=[V.str "up",V.str "right",V.str "down",V.str "left"]) c (n:=4) (by decide) rfl
  refine⟨(by show 4≤sizeLine;decide),fun p hp=>⟨_,rfl,_,_,rfl,rfl,(by show (0:Int) < 4;decide),p,_,_,v,rfl,rfl,SqL.of aj,ha,?_⟩⟩;obtain⟨w',rfl,hw⟩:∃ w,v=.str (tx w)∧kD n0 n1 n2 115 w:=by
   simp only[B6,Cc,or_false]at hv;rcases hv with rfl | rfl | rfl | rfl
   ·exact⟨[117,112],by decide +kernel,by decide,by decide,fun _ _ _=>⟨_,.sid (by decide)⟩⟩
   ·exact⟨[114,105,103,104,116],by decide +kernel,by decide,by decide,fun _ _ _=>⟨_,.sid (by decide)⟩⟩
   ·exact⟨[100,111,119,110],by decide +kernel,by decide,by decide,fun _ _ _=>⟨_,.sid (by decide)⟩⟩
   ·exact⟨[108,101,102,116],by decide +kernel,by decide,by decide,fun _ _ _=>⟨_,.sid (by decide)⟩⟩
  exact q' w' _ (al.new hp _) hw
end
section
variable {P:Program}{w:World}{K:PySem.W.Frag}{mg:Str→Option Value}{base:Heap}{CX:CXT}{f:Addr}{fd:FuncData}
theorem qB {w:List Nat}{c:Nat}(h:c∈w)(hc:¬ (97≤c∧c≤122)):ce w=false:=by
 cases e:ce w with
 | false=>rfl
 | true=>exact absurd ((cH.mp e).2.2 c h) hc
theorem uW {w:List Nat}(h:8 < w.length):ce w=false:=by
 cases e:ce w with
 | false=>rfl
 | true=>exact absurd (cH.mp e).2.1 (by omega)
theorem Bb:Txt.mul ("0" : Str) 41=tx (List.replicate 41 48):=by decide +kernel
theorem Ba:Txt.mul ("1" : Str) 31=tx (List.replicate 31 49):=by decide +kernel
abbrev jS:Stmt:=top 160
theorem rH:ap ["_law_kind","_law_cell","_law_names_here"] ["_law_kind","_law_cell","_law_names_here"] (ai jS):=⟨rfl,rfl,rfl,by decide +kernel,rfl,by decide +kernel,by decide +kernel⟩
def lJ:Sp:=fun vs H Q _=>∃ (kc:Nat) (c:Int) (l:Addr) (n0 n1 n2 n3:List Nat),vs=[.str (tx [kc]),.int c,.ref l]∧kc∈[110,102,116,119,111,99,115]∧NmL H l n0 n1 n2 n3∧∀ p w H',al H H'→H' p=some (.tup [.str (tx w),.str (wdI (clI kc))])→mT n0 n1 n2 kc w→Q (.ref p) H'
theorem si (T:Tx K mg)(F:aN K "_law_bad" "_law_bad" jS f fd .none):aO P w K mg base CX 1 f fd ["_law_kind","_law_cell","_law_names_here"] lJ:=by
 refine F.oks rH (fun vs H Q E h =>?_) (fun cdv A outer s H vs Q E hr h =>?_)
 ·obtain⟨_,_,_,_,_,_,_,rfl,_⟩:=h;rfl
 obtain⟨kc,c,l,n0,n1,n2,n3,rfl,hk,⟨hl,hN⟩,q'⟩:=h;refine⟨_,(aJ (dR (aB bS (pv 0) ah (aK _)) (bF (cL (aI (ak (fc ao (bi (wD 5 rfl (ak (PEx.mk (ar aP (aq ao (pv 2) ac (fun _ _=>rfl)) ah)) am))) (ar aU (pv 1) ac) (fun _ _=>rfl)) (ak (PEx.mk ah) am))))) cz) (aJ (dR (aB bS (pv 0) ah (aK _)) (bF (cL (aI (ak (fc ao (bi (ak (PEx.mk ah) (ak (PEx.mk ah) (ak (PEx.mk (ar aP (ar aP (aq ao (pv 2) ac (fun _ _=>rfl)) (aq ao (pv 2) ac (fun _ _=>rfl))) ah)) (ak (PEx.mk (aq ao (pv 2) ac (fun _ _=>rfl))) (ak (PEx.mk ah) (ak (PEx.mk (ar aP (aq ao (pv 2) ac (fun _ _=>rfl)) ah)) am))))))) (ar aU (pv 1) ac) (fun _ _=>rfl)) (ak (PEx.mk ah) am))))) cz) (aJ (dR (aB bS (pv 0) ah (aK _)) (bF (cL (aI (ak (fc ao (bi (wD 4 rfl (ak (PEx.mk (ar ml ah ac)) (ak (PEx.mk ah) am)))) (ar aU (pv 1) ac) (fun _ _=>rfl)) (ak (PEx.mk ah) am))))) cz) (aJ (dR (aB bS (pv 0) ah (aK _)) (bF (cL (aI (ak (fc ao (bi (fU rfl)) (ar aU (pv 1) ac) (fun _ _=>rfl)) (ak (PEx.mk ah) am))))) cz) (aJ (dR (aB bS (pv 0) ah (aK _)) (bF (cL (aI (ak (fc ao (bi (wD 8 rfl (ak (PEx.mk (ar ml ah ac)) (ak (PEx.mk ah) am)))) (ar aU (pv 1) ac) (fun _ _=>rfl)) (ak (PEx.mk ah) am))))) cz) (aJ (dR (aB bS (pv 0) ah (aK _)) (bF (cL (aI (ak (fc ao (bi (fU rfl)) (ar aU (pv 1) ac) (fun _ _=>rfl)) (ak (PEx.mk ah) am))))) cz) (bF (cL (aI (ak (fc ao (bi (fU rfl)) (ar aU (pv 1) ac) (fun _ _=>rfl)) (ak (PEx.mk ah) am))))))))))),?_⟩;have nm:∀ n∈[n0,n1,n2,n3],ce n=true:=hN.1;have nl:∀ n∈[n0,n1,n2,n3],1≤n.length∧n.length≤8:=fun n hn=>⟨(cH.mp (nm n hn)).1,(cH.mp (nm n hn)).2.1⟩;have fr:∀ n∈[n0,n1,n2,n3],32∉n:=fun n hn=>cZ (nm n hn);have l0:=nl n0 (by simp);have l1:=nl n1 (by simp);have l3:=nl n3 (by simp);have f0:=fr n0 (by simp);have f1:=fr n1 (by simp);have e0:=aw n0;have e1:=aw n1;simp only[B6,Cc,or_false]at hk;rcases hk with rfl|rfl|rfl|rfl|rfl|rfl|rfl
 ·refine⟨_,rfl,rfl,_,rfl,eP (by decide +kernel) ?_⟩;obtain⟨v,hv,ha⟩:=kK (xs:=[V.str (""),V.str ("A"),V.str ("abcdefghi"),V.str ("a1"),V.str ("-"),V.str (tx n0 ++ "_")]) c (n:=6) (by decide) rfl
  refine⟨_,rfl,l,_,_,_,rfl,rfl,SqL.of hl,rfl,_,_,rfl,rfl,a9 (by rw[show ("_" : Str).length=1 by decide +kernel];omega),(by show 6≤sizeLine;decide),fun p hp=>⟨_,rfl,_,_,rfl,rfl,(by show (0:Int) < 6;decide),p,_,_,v,rfl,rfl,SqL.of aj,ha,(by show 2≤sizeLine;decide),fun p2 hp2 =>?_⟩⟩
  obtain⟨w',rfl,hw⟩:∃ w,v=.str (tx w)∧mT n0 n1 n2 110 w:=by
   clear ha
   simp only[B6,Cc,or_false]at hv;rcases hv with rfl | rfl | rfl | rfl | rfl | rfl
   ·exact⟨[],by decide +kernel,by decide,by decide,fun _ _ _ _=>.new (by decide)⟩
   ·exact⟨[65],by decide +kernel,by decide,by decide,fun _ _ _ _=>.new (by decide)⟩
   ·exact⟨[97,98,99,100,101,102,103,104,105],by decide +kernel,by decide,by decide,fun _ _ _ _=>.new (by decide)⟩
   ·exact⟨[97,49],by decide +kernel,by decide,by decide,fun _ _ _ _=>.new (by decide)⟩
   ·exact⟨[45],by decide +kernel,by decide,by decide,fun _ _ _ _=>.new (by decide)⟩
   ·exact⟨n0++[95],by rw[show ("_" : Str)=tx [95] by decide +kernel,bo],by simp[f0],by simp;omega,fun _ _ _ _=>.new (qB (c:=95) (by simp) (by decide))⟩
  exact q' p2 w' _ ((al.new hp _).trans (al.new hp2 _)) aj hw
 ·refine⟨_,rfl,rfl,_,rfl,ba (by decide +kernel) ?_⟩;refine⟨_,rfl,rfl,_,rfl,eP (by decide +kernel) ?_⟩;obtain⟨v,hv,ha⟩:=kK (xs:=[V.str (""),V.str ("B"),V.str (tx n0++tx n1 ++ "aaaaaaaa"),V.str (tx n3),V.str ("7"),V.str (tx n1 ++ ".")]) c (n:=6) (by decide) rfl
  refine⟨_,rfl,l,_,_,_,rfl,rfl,SqL.of hl,rfl,_,rfl,l,_,_,_,rfl,rfl,SqL.of hl,rfl,_,_,rfl,rfl,a9 (by omega),_,_,rfl,rfl,a9 (by rw[bo,aw,B3,show ("aaaaaaaa" : Str).length=8 by decide +kernel];omega),_,rfl,l,_,_,_,rfl,rfl,SqL.of hl,rfl,_,rfl,l,_,_,_,rfl,rfl,SqL.of hl,rfl,_,_,rfl,rfl,a9 (by rw[show (".": Str).length=1 by decide +kernel];omega),(by show 6≤sizeLine;decide),fun p hp=>⟨_,rfl,_,_,rfl,rfl,(by show (0:Int) < 6;decide),p,_,_,v,rfl,rfl,SqL.of aj,ha,(by show 2≤sizeLine;decide),fun p2 hp2 =>?_⟩⟩
  obtain⟨w',rfl,hw⟩:∃ w,v=.str (tx w)∧mT n0 n1 n2 102 w:=by
   clear ha
   simp only[B6,Cc,or_false]at hv;rcases hv with rfl | rfl | rfl | rfl | rfl | rfl
   ·exact⟨[],by decide +kernel,by decide,by decide,fun _ _ _ _=>.one (by decide)⟩
   ·exact⟨[66],by decide +kernel,by decide,by decide,fun _ _ _ _=>.one (by decide)⟩
   ·exact⟨n0++n1++List.replicate 8 97,by rw[show ("aaaaaaaa" : Str)=tx (List.replicate 8 97) by decide +kernel,bo,bo],by simp[f0,f1],by simp;omega,fun _ _ _ _=>.one (uW (by simp;omega))⟩
   ·exact⟨n3,rfl,fr n3 (by simp),by omega,fun _ _ _ _=>.none (nm n3 (by simp)) (yW hN)⟩
   ·exact⟨[55],by decide +kernel,by decide,by decide,fun _ _ _ _=>.one (by decide)⟩
   ·exact⟨n1++[46],by rw[show ("." : Str)=tx [46] by decide +kernel,bo],by simp[f1],by simp;omega,fun _ _ _ _=>.one (qB (c:=46) (by simp) (by decide))⟩
  exact q' p2 w' _ ((al.new hp _).trans (al.new hp2 _)) aj hw
 ·refine⟨_,rfl,rfl,_,rfl,ba (by decide +kernel) ?_⟩;refine⟨_,rfl,rfl,_,rfl,ba (by decide +kernel) ?_⟩;refine⟨_,rfl,rfl,_,rfl,ba (by decide +kernel) ?_⟩;refine⟨_,rfl,rfl,_,rfl,ba (by decide +kernel) ?_⟩;refine⟨_,rfl,rfl,_,rfl,ba (by decide +kernel) ?_⟩;refine⟨_,rfl,rfl,_,rfl,ba (by decide +kernel) ?_⟩;obtain⟨v,hv,ha⟩:=kK (xs:=[V.str (""),V.str ("1:+012"),V.str ("0:"),V.str ("x:1"),V.str ("41:0"),V.str ("0:+0000"),V.str ("7")]) c (n:=7) (by decide) rfl
  refine⟨(by show 7≤sizeLine;decide),fun p hp=>⟨_,rfl,_,_,rfl,rfl,(by show (0:Int) < 7;decide),p,_,_,v,rfl,rfl,SqL.of aj,ha,(by show 2≤sizeLine;decide),fun p2 hp2 =>?_⟩⟩;obtain⟨w',rfl,hw⟩:∃ w,v=.str (tx w)∧mT n0 n1 n2 116 w:=by
   clear ha
   simp only[B6,Cc,or_false]at hv;rcases hv with rfl | rfl | rfl | rfl | rfl | rfl | rfl
   ·exact⟨[],by decide +kernel,by decide,by decide,fun _ _ _ _=>.txt (CI.mp (fP [] (by simp)))⟩
   ·exact⟨[49,58,43,48,49,50],by decide +kernel,by decide,by decide,fun _ _ _ _=>.txt (CI.mp (fP [49,58,43,48,49,50] (by simp)))⟩
   ·exact⟨[48,58],by decide +kernel,by decide,by decide,fun _ _ _ _=>.txt (CI.mp (fP [48,58] (by simp)))⟩
   ·exact⟨[120,58,49],by decide +kernel,by decide,by decide,fun _ _ _ _=>.txt (CI.mp (fP [120,58,49] (by simp)))⟩
   ·exact⟨[52,49,58,48],by decide +kernel,by decide,by decide,fun _ _ _ _=>.txt (CI.mp (fP [52,49,58,48] (by simp)))⟩
   ·exact⟨[48,58,43,48,48,48,48],by decide +kernel,by decide,by decide,fun _ _ _ _=>.txt (CI.mp (fP [48,58,43,48,48,48,48] (by simp)))⟩
   ·exact⟨[55],by decide +kernel,by decide,by decide,fun _ _ _ _=>.txt (CI.mp (fP [55] (by simp)))⟩
  exact q' p2 w' _ ((al.new hp _).trans (al.new hp2 _)) aj hw
 ·refine⟨_,rfl,rfl,_,rfl,ba (by decide +kernel) ?_⟩;refine⟨_,rfl,rfl,_,rfl,ba (by decide +kernel) ?_⟩;refine⟨_,rfl,rfl,_,rfl,ba (by decide +kernel) ?_⟩;refine⟨_,rfl,rfl,_,rfl,ba (by decide +kernel) ?_⟩;refine⟨_,rfl,rfl,_,rfl,eP (by decide +kernel) ?_⟩;obtain⟨v,hv,ha⟩:=kK (xs:=[V.str (""),V.str ("00"),V.str ("01"),V.str ("-0"),V.str ("+1"),V.str ("1."),V.str ("a"),V.str ("-"),V.str (Txt.mul "1" 31),V.str ("1_0")]) c (n:=10) (by decide) rfl
  refine⟨_,_,rfl,rfl,wM (n:=31) (by decide +kernel) (by decide),(by show 10≤sizeLine;decide),fun p hp=>⟨_,rfl,_,_,rfl,rfl,(by show (0:Int) < 10;decide),p,_,_,v,rfl,rfl,SqL.of aj,ha,(by show 2≤sizeLine;decide),fun p2 hp2 =>?_⟩⟩;obtain⟨w',rfl,hw⟩:∃ w,v=.str (tx w)∧mT n0 n1 n2 119 w:=by
   clear ha
   simp only[B6,Cc,or_false]at hv;rcases hv with rfl | rfl | rfl | rfl | rfl | rfl | rfl | rfl | rfl | rfl
   ·exact⟨[],by decide +kernel,by decide,by decide,fun _ _ _ _=>.num (by decide)⟩
   ·exact⟨[48,48],by decide +kernel,by decide,by decide,fun _ _ _ _=>.num (by decide)⟩
   ·exact⟨[48,49],by decide +kernel,by decide,by decide,fun _ _ _ _=>.num (by decide)⟩
   ·exact⟨[45,48],by decide +kernel,by decide,by decide,fun _ _ _ _=>.num (by decide)⟩
   ·exact⟨[43,49],by decide +kernel,by decide,by decide,fun _ _ _ _=>.num (by decide)⟩
   ·exact⟨[49,46],by decide +kernel,by decide,by decide,fun _ _ _ _=>.num (by decide)⟩
   ·exact⟨[97],by decide +kernel,by decide,by decide,fun _ _ _ _=>.num (by decide)⟩
   ·exact⟨[45],by decide +kernel,by decide,by decide,fun _ _ _ _=>.num (by decide)⟩
   ·exact⟨List.replicate 31 49,by rw[Ba],by decide,by decide,fun _ _ _ _=>.num (by decide)⟩
   ·exact⟨[49,95,48],by decide +kernel,by decide,by decide,fun _ _ _ _=>.num (by decide)⟩
  exact q' p2 w' _ ((al.new hp _).trans (al.new hp2 _)) aj hw
 ·refine⟨_,rfl,rfl,_,rfl,ba (by decide +kernel) ?_⟩;refine⟨_,rfl,rfl,_,rfl,ba (by decide +kernel) ?_⟩;refine⟨_,rfl,rfl,_,rfl,ba (by decide +kernel) ?_⟩;refine⟨_,rfl,rfl,_,rfl,eP (by decide +kernel) ?_⟩;obtain⟨v,hv,ha⟩:=kK (xs:=[V.str (""),V.str ("A"),V.str ("00"),V.str ("-"),V.str ("10"),V.str ("+")]) c (n:=6) (by decide) rfl
  refine⟨(by show 6≤sizeLine;decide),fun p hp=>⟨_,rfl,_,_,rfl,rfl,(by show (0:Int) < 6;decide),p,_,_,v,rfl,rfl,SqL.of aj,ha,(by show 2≤sizeLine;decide),fun p2 hp2 =>?_⟩⟩;obtain⟨w',rfl,hw⟩:∃ w,v=.str (tx w)∧mT n0 n1 n2 111 w:=by
   clear ha
   simp only[B6,Cc,or_false]at hv;rcases hv with rfl | rfl | rfl | rfl | rfl | rfl
   ·exact⟨[],by decide +kernel,by decide,by decide,fun _ _ _ _=>.col (by decide)⟩
   ·exact⟨[65],by decide +kernel,by decide,by decide,fun _ _ _ _=>.col (by decide)⟩
   ·exact⟨[48,48],by decide +kernel,by decide,by decide,fun _ _ _ _=>.col (by decide)⟩
   ·exact⟨[45],by decide +kernel,by decide,by decide,fun _ _ _ _=>.col (by decide)⟩
   ·exact⟨[49,48],by decide +kernel,by decide,by decide,fun _ _ _ _=>.col (by decide)⟩
   ·exact⟨[43],by decide +kernel,by decide,by decide,fun _ _ _ _=>.col (by decide)⟩
  exact q' p2 w' _ ((al.new hp _).trans (al.new hp2 _)) aj hw
 ·refine⟨_,rfl,rfl,_,rfl,ba (by decide +kernel) ?_⟩;refine⟨_,rfl,rfl,_,rfl,ba (by decide +kernel) ?_⟩;refine⟨_,rfl,rfl,_,rfl,eP (by decide +kernel) ?_⟩;obtain⟨v,hv,ha⟩:=kK (xs:=[V.str (""),V.str ("4"),V.str ("01x"),V.str ("--"),V.str (Txt.mul "0" 41),V.str ("-0")]) c (n:=6) (by decide) rfl
  refine⟨_,_,rfl,rfl,wM (n:=41) (by decide +kernel) (by decide),(by show 6≤sizeLine;decide),fun p hp=>⟨_,rfl,_,_,rfl,rfl,(by show (0:Int) < 6;decide),p,_,_,v,rfl,rfl,SqL.of aj,ha,(by show 2≤sizeLine;decide),fun p2 hp2 =>?_⟩⟩;obtain⟨w',rfl,hw⟩:∃ w,v=.str (tx w)∧mT n0 n1 n2 99 w:=by
   clear ha
   simp only[B6,Cc,or_false]at hv;rcases hv with rfl | rfl | rfl | rfl | rfl | rfl
   ·exact⟨[],by decide +kernel,by decide,by decide,fun _ _ _ _=>.cod (by decide)⟩
   ·exact⟨[52],by decide +kernel,by decide,by decide,fun _ _ _ _=>.cod (by decide)⟩
   ·exact⟨[48,49,120],by decide +kernel,by decide,by decide,fun _ _ _ _=>.cod (by decide)⟩
   ·exact⟨[45,45],by decide +kernel,by decide,by decide,fun _ _ _ _=>.cod (by decide)⟩
   ·exact⟨List.replicate 41 48,by rw[Bb],by decide,by decide,fun _ _ _ _=>.cod (by decide)⟩
   ·exact⟨[45,48],by decide +kernel,by decide,by decide,fun _ _ _ _=>.cod (by decide)⟩
  exact q' p2 w' _ ((al.new hp _).trans (al.new hp2 _)) aj hw
 ·refine⟨_,rfl,rfl,_,rfl,ba (by decide +kernel) ?_⟩;refine⟨_,rfl,rfl,_,rfl,ba (by decide +kernel) ?_⟩;refine⟨_,rfl,rfl,_,rfl,ba (by decide +kernel) ?_⟩;refine⟨_,rfl,rfl,_,rfl,ba (by decide +kernel) ?_⟩;refine⟨_,rfl,rfl,_,rfl,ba (by decide +kernel) ?_⟩;refine⟨_,rfl,rfl,_,rfl,eP (by decide +kernel) ?_⟩;obtain⟨v,hv,ha⟩:=kK (xs:=[V.str (""),V.str ("Up"),V.str ("north"),V.str ("u"),V.str ("updown"),V.str ("-")]) c (n:=6) (by decide) rfl
  refine⟨(by show 6≤sizeLine;decide),fun p hp=>⟨_,rfl,_,_,rfl,rfl,(by show (0:Int) < 6;decide),p,_,_,v,rfl,rfl,SqL.of aj,ha,(by show 2≤sizeLine;decide),fun p2 hp2 =>?_⟩⟩;obtain⟨w',rfl,hw⟩:∃ w,v=.str (tx w)∧mT n0 n1 n2 115 w:=by
   clear ha
   simp only[B6,Cc,or_false]at hv;rcases hv with rfl | rfl | rfl | rfl | rfl | rfl
   ·exact⟨[],by decide +kernel,by decide,by decide,fun _ _ _ _=>.sid (by decide)⟩
   ·exact⟨[85,112],by decide +kernel,by decide,by decide,fun _ _ _ _=>.sid (by decide)⟩
   ·exact⟨[110,111,114,116,104],by decide +kernel,by decide,by decide,fun _ _ _ _=>.sid (by decide)⟩
   ·exact⟨[117],by decide +kernel,by decide,by decide,fun _ _ _ _=>.sid (by decide)⟩
   ·exact⟨[117,112,100,111,119,110],by decide +kernel,by decide,by decide,fun _ _ _ _=>.sid (by decide)⟩
   ·exact⟨[45],by decide +kernel,by decide,by decide,fun _ _ _ _=>.sid (by decide)⟩
  exact q' p2 w' _ ((al.new hp _).trans (al.new hp2 _)) aj hw
end
theorem uJ {X:Cx}{CX:CXT}{j k:Nat}{ps:List Str}{sp:Sp}{dvs:List V}{x:Str}{p pos:Pos}(F:Fok X.prog X.w X.K X.mg X.base CX j x ps dvs sp)(q:bv CX)(hr:cy k X.A)(hj:j≤k:=by decide)(hg:Gl X x:=by rfl)(hdb:(x == ("__debug__" : Str))=false:=by decide):PE X (.Call (.Name x p) [] [] pos) (lF sp dvs E0 gk):=by
 obtain⟨f,fd,ds,G,b,v,kp,m⟩:=F.ex;exact wC G (hr.mono hj) hg m kp b v (tH q) hdb
theorem qU {σ0 cs:St}{k:Nat}{g:TG}{te:TE}{H1:Hp}{Q:VK}(z:Str)(Pv:Addr→Nat→List V→Hp→Prop)(hn:z.length≤sizeLine)(hl:∀ D i ys H,Pv D i ys H→H D=some (.lst ys)∧ys.length≤i)(h0:∀ D,H1 D=none→Pv D 0 [] (upd H1 D (.lst [])))
  (hs:∀ D i p ys H,i < z.length→H1 D=none→Pv D i ys H→H p=none→g (.ref p) σ0 (upd H p (.tup [.int (i:Int),.str (sgn z i)])) fun σ2 H3=>σ2.drop k=cs∧te σ2 H3 fun v H4=>H4 D=some (.lst ys)∧Pv D (i + 1) (ys++[v]) (upd H4 D (.lst (ys++[v]))))
  (hd:∀ D ys H,H1 D=none→Pv D z.length ys H→Q (.ref D) H) (mono:∀ x σ H (R R':St→Hp→Prop),(∀ σ' H',R σ' H'→R' σ' H')→g x σ H R→g x σ H R')
  (mono2:∀ σ H (R R':VK),(∀ v H',R v H'→R' v H')→te σ H R→te σ H R'):ff σ0 k cs g te Q (AD z) H1:=by
 intro D hD;refine⟨fun i m ys H=>m=z.length - i∧i≤z.length∧Pv D i ys H,⟨z.length,rfl,Cr _,h0 D hD⟩,?_⟩;rintro i m ys H ⟨rfl,hi,p⟩;obtain⟨e1,e2⟩:=hl D i ys H p;refine⟨e1,?_⟩;by_cases hlt:i < z.length
 ·refine .inr ⟨hlt,by omega,fun v H' y =>?_⟩;obtain⟨a,hna,rfl,rfl⟩:=y;exact mono _ _ _ _ _ (fun σ2 H3 ⟨z1,z2⟩=>⟨z1,mono2 _ _ _ _ (fun u H4 ⟨z3,z4⟩=>⟨z3,z.length - (i + 1),by omega,rfl,hlt,z4⟩) z2⟩) (hs D i a ys H hlt hD p hna)
 ·obtain rfl:i=z.length:=by omega
  exact .inl ⟨B7 _,hd D ys H hD p⟩
theorem wZ:∀ kv∈eQ,(match kv.1 with | .inr z=>z.cps.toList.all (fun c=>decide (97≤c∧c≤122∧c≠113)) | .inl _=>true)=true:=by decide +kernel
theorem tM {w:List Nat}{c:Nat}(h:c∈w)(hc:¬ (97≤c∧c≤122∧c≠113)):dk eQ (.inr (tx w))=none:=by
 unfold dk;rw[Dv,DH];intro kv hkv z;have e:kv.1=.inr (tx w):=Cd z
 have:=wZ kv hkv
 rw[e]at this;have h2:=CC.mp this c (by rw[br];exact h);exact hc (Cd h2)
theorem qJ (w:List Nat):∀ {ws:List (List Nat)},ws≠[]→glu (ws++[w])=glu ws++32::w
 | [],h=>absurd rfl h
 | [a],_=>rfl
 | a::b::r,_=>by
  show a++32::glu ((b::r)++[w])=(a++32::glu (b::r))++32::w;rw[qJ w (by simp)];simp
theorem rb:∀ c:Nat,c < 123→97≤c→Txt.upper (tx [c])=tx [c - 32]:=by decide +kernel
def ixs:List Nat:=[0,1,2,3,4,5,8,9,10,11]
def zd (n0 n1 n2:List Nat)(row:Str)(i:Nat):Prop :=
 (i=11∧∃ w0 ws,row=tx (glu (w0::ws))∧g_ (w0::ws)∧(dk eQ (.inr (tx w0))=none∨∃ ks,dF w0 ks∧ws.length≠ks.length)) ∨
 i∈ixs∧∃ w0 ws ks,row=tx (glu (w0::ws))∧g_ (w0::ws)∧dF w0 ks∧ws.length=ks.length∧∀ {K:PySem.W.Frag} {mg:Str→Option Value} (Y:Yx K mg) (v0 v1 v2:V),pM Y (D3 n0 n1 n2 v0 v1 v2) ks ws (Yc Y i)
theorem wQ {n0 n1 n2:List Nat}:∀ (a:Nat) (fm:List Nat) (ws:List (List Nat)) (kc:Nat),(∀ (j:Nat) (w:List Nat) (k:Nat),j < a→ws[j]? = some w→fm[j]? = some k→kD n0 n1 n2 k w)→fm[a]? = some kc→(∀ w,ws[a]? = some w→mT n0 n1 n2 kc w)→ws.length=fm.length →
  ∀ {K:PySem.W.Frag} {mg:Str→Option Value} (Y:Yx K mg) (v0 v1 v2:V),pM Y (D3 n0 n1 n2 v0 v1 v2) (fm.map kdL) ws (Yc Y (clI kc))
 | _,[],_,_,_,h,_,_=>by simp at h
 | _,_::_,[],_,_,_,_,h=>by simp at h
 | 0,k::fm,w::ws,kc,_,hk,hb,_=>fun Y v0 v1 v2=>by
  cases hk;exact .here ((hb w rfl).2.2 Y v0 v1 v2)
 | a + 1,k::fm,w::ws,kc,hg,hk,hb,hl=>fun Y v0 v1 v2=>by
  obtain⟨r,hr⟩:=(hg 0 w k (Nat.succ_pos _) rfl rfl).2.2 v0 v1 v2;exact .there hr (wQ a fm ws kc (fun j w' k' hj h1 h2=>hg (j + 1) w' k' (by omega) h1 h2) hk (fun w' h=>hb w' h) (by simpa using hl) Y v0 v1 v2)
theorem sP:∀ (ws:List (List Nat)) (m:Nat),(∀ w∈ws,w.length≤m)→(glu ws).length≤ws.length * (m + 1)
 | [],_,_=>Cr _
 | [w],m,h=>by
  have:=h w (by simp)
  show w.length≤1 * (m + 1);omega
 | w::v::r,m,h=>by
  have h1:=h w (by simp);have h2:=sP (v::r) m fun x hx=>h x (by simp[hx]);show (w++32::glu (v::r)).length≤((v::r).length + 1) * (m + 1);rw[B3,B5,Nat.add_mul];omega
theorem vZ (m:Nat):∀ ws:List (List Nat),(∀ w∈ws,w.length≤m)→((ws.map tx).map (·.length)).sum≤ws.length * m
 | [],_=>Cr _
 | w::r,h=>by
  have h1:=h w (by simp);have h2:=vZ m r fun x hx=>h x (by simp[hx]);rw[Ct,Ct,List.sum_cons,aw,B5,Nat.add_mul];omega
theorem mC {K:PySem.W.Frag}{σ:St}{H:Hp}{R:VK}{i:Nat}{w0:List Nat}{ws:List (List Nat)}{tW:TE}(hi:σ[i]? = some (some (.str (tx w0))))(hW:∀ (H1:Hp) (R':VK),al H H1→(∀ l2 H2,al H1 H2→H2 l2=some (.lst (ws.map fun z=>V.str (tx z)))→R' (.ref l2) H2)→tW σ H1 R')
  (h60:∀ w∈w0::ws,w.length≤60) (hn:ws.length≤7) (q:∀ H',al H H'→R (.str (tx (glu (w0::ws)))) H'):tBM K "str" (yU K) (tC (.str " ")) (dS (tOp uE (mU (dS (bO i) gk)) tW) gk) σ H R:=by
 refine⟨rfl,_,hi,(by show 1≤sizeLine;decide),fun p hp=>hW _ _ (al.new hp _) fun l2 H2 s2 u2 =>?_⟩;refine⟨p,l2,_,_,rfl,rfl,s2 _ _ aj,u2,a9 (by rw[B_];show 1 + _≤1000;omega),fun p3 hp3=>⟨_,p3,(w0::ws).map tx,rfl,rfl,SqL.of (by rw[aj,C6];rfl),?_,?_⟩⟩
 ·have:=vZ 60 (w0::ws) h60
  rw[B_,show (" " : Str).length=1 by decide +kernel]
  rw[B5]at this ⊢;omega
 ·rw[Ac];exact q _ ((al.new hp _).trans (s2.trans (al.new hp3 _)))
theorem bx {ws:List (List Nat)}(h:∀ w∈ws,32∉w∧w.length≤70)(hn:ws.length≤20):g_ ws:=by
 refine⟨fun w hw=>(h w hw).1,?_⟩
 have:=sP ws 70 fun w hw=>(h w hw).2
 have h2:ws.length * 71≤20 * 71:=Nat.mul_le_mul_right _ hn;omega
section
variable {P:Program}{w:World}{K:PySem.W.Frag}{mg:Str→Option Value}{base:Heap}{CX:CXT}{f:Addr}{fd:FuncData}
abbrev e_:Stmt:=top 161
theorem aW:ap ["_law_cell","_law_names_here","_law_forms_here","_law_word_here","_law_form","_law_words","_law_spots","_law_way","_law_row","_law_spot","_law_due","_law_at_here","_law_kind"] ["_law_cell","_law_names_here"] (ai e_):=⟨rfl,rfl,rfl,by decide +kernel,rfl,by decide +kernel,by decide +kernel⟩
def gx:Sp:=fun vs H Q _=>∃ (c:Int) (l:Addr) (n0 n1 n2 n3:List Nat),vs=[.int c,.ref l]∧NmL H l n0 n1 n2 n3∧∀ p row i H',al H H'→H' p=some (.tup [.str row,.str (wdI i)])→zd n0 n1 n2 row i→Q (.ref p) H'
theorem mv (T:Tx K mg)(q:bv CX)(F:aN K "_law_spoiled" "_law_spoiled" e_ f fd .none)(C__law_forms:Fok P w K mg base CX 1 "_law_forms" [] [] i5)(C__law_mix:Fok P w K mg base CX 1 "_law_mix" ["_law_cell","_law_k"] [] du)(C__law_good:Fok P w K mg base CX 1 "_law_good" ["_law_kind","_law_cell","_law_names_here"] [] kq)(C__law_bad:Fok P w K mg base CX 1 "_law_bad" ["_law_kind","_law_cell","_law_names_here"] [] lJ):aO P w K mg base CX 2 f fd ["_law_cell","_law_names_here"] gx:=by
 refine F.ok aW (fun vs H Q E h =>?_) (fun cdv A outer s H vs Q E hr h =>?_)
 ·obtain⟨_,_,_,_,_,_,rfl,_⟩:=h;rfl
 obtain⟨c,l,n0,n1,n2,n3,rfl,⟨hl,hN⟩,q'⟩:=h;refine⟨_,(ae (aE (i:=2) aW.nd rfl (Or.inl rfl) (uJ C__law_forms q hr)) (ae (iN (aq ao (pv 2) (ar aU (au C__law_mix q hr (aa (pv 0) (aa ac af))) (ax bu rfl T.b_len ck (aa (pv 2) af))) (fun _ _=>rfl)) (mf rfl (bJ (aQ (i:=3) aW.nd rfl (Or.inl rfl)) (bJ (aQ (i:=4) aW.nd rfl (Or.inl rfl)) fQ)))) (ae (xW (i0:=5) (N':=["_law_k","_law_kind","_law_names_here","_law_cell"]) ["_law_names_here","_law_cell"] ["_law_names_here","_law_cell"] [1,0] 2 (by with_unfolding_all rfl) rfl (c5 rfl rfl (by decide) (c5 rfl rfl (by decide) b9)) rfl rfl (by decide) rfl (by decide +kernel) rfl (by decide +kernel) rfl (wm rfl T.b_enumerate (aa (pv 4) af)) (fun C s0 H0 fp pins=>(tG (K:=K) (n:=2) rfl (bJ (aQ (i:=0) (show (["_law_k","_law_kind","_law_names_here","_law_cell"]:List Str).Nodup by decide +kernel) rfl (Or.inl rfl) (Or.inr rfl)) (bJ (aQ (i:=1) (show (["_law_k","_law_kind","_law_names_here","_law_cell"]:List Str).Nodup by decide +kernel) rfl (Or.inl rfl) (Or.inr rfl)) fQ)))) (fun C s0 H0 fp pins=>(au C__law_good q hr (aa (pv 1) (aa (au C__law_mix q hr (aa (pv 3) (aa (ar bC ac (pv 0)) af))) (aa (pv 2) af))))) aW.nd rfl (Or.inl rfl)) (ae (aE (i:=6) aW.nd rfl (Or.inl rfl) (ax sV rfl T.b_sorted vD (aa (bQ (aH (ar aU (au C__law_mix q hr (aa (pv 0) (aa ac af))) (ax bu rfl T.b_len ck (aa (pv 4) af))) (aH (ar aU (au C__law_mix q hr (aa (pv 0) (aa ac af))) (ax bu rfl T.b_len ck (aa (pv 4) af))) am))) af))) (ae (aE (i:=7) aW.nd rfl (Or.inl rfl) (ar aU (au C__law_mix q hr (aa (pv 0) (aa ac af))) ac)) (ae (aE (i:=8) aW.nd rfl (Or.inl rfl) (dh PySem.F.plainAttrs_str PySem.F.slot_str_join PySem.F.type_str_join fV ah (aa (ar cG (bQ (aH (pv 3) am)) (pv 5)) af))) (ae (aV (aB bS (pv 7) ac (aK _)) (ag (av (bA (aH (ar aP (ar aP (pv 8) ah) (aq ao (pv 5) ac (fun _ _=>rfl))) (aH ah am))))) aA) (ae (aV (aB bS (pv 7) ac (aK _)) (ag (av (bA (aH (dh PySem.F.plainAttrs_str PySem.F.slot_str_join PySem.F.type_str_join fV ah (aa (ar cG (bQ (aH (pv 3) am)) (ci ot (pv 5) (cm ac) c_)) af)) (aH ah am))))) aA) (ae (aV (aB bS (pv 7) ac (aK _)) (ag (av (bA (aH (ar aP (zF PySem.F.plainAttrs_str PySem.F.slot_str_upper PySem.F.type_str_upper wN (ci eT (pv 3) c_ (cm ac))) (ci eT (pv 8) (cm ac) c_)) (aH ah am))))) aA) (ae (aV (aB bS (pv 7) ac (aK _)) (ae (aE (i:=9) aW.nd rfl (Or.inl rfl) (ar aU (au C__law_mix q hr (aa (pv 0) (aa ac af))) (ar bC (ax bu rfl T.b_len ck (aa (pv 3) af)) ac))) (ag (av (bA (aH (ar aP (ar aP (ci eT (pv 8) c_ (cm (pv 9))) ah) (ci eT (pv 8) (cm (pv 9)) c_)) (aH ah am)))))) aA) (ae (aE (i:=10) aW.nd rfl (Or.inl rfl) ah) (ae (dD CP rfl (k_ (pv 6)) (aQ (i:=11) aW.nd rfl (Or.inl rfl)) (ae (iN (au C__law_bad q hr (aa (aq eE (pv 4) (pv 11) (fun _ _=>rfl)) (aa (au C__law_mix q hr (aa (pv 0) (aa (ar bC ac (pv 11)) af))) (aa (pv 1) af)))) (mf rfl (bJ (rS (pv 5) (pv 11) lO) (bJ (aQ (i:=12) aW.nd rfl (Or.inl rfl)) fQ)))) (ag (aV (aB bS (pv 10) ah (aK _)) (ag (aE (i:=10) aW.nd rfl (Or.inl rfl) (pv 12))) aA)))) (ag (av (bA (aH (dh PySem.F.plainAttrs_str PySem.F.slot_str_join PySem.F.type_str_join fV ah (aa (ar cG (bQ (aH (pv 3) am)) (pv 5)) af)) (aH (pv 10) am))))))))))))))))),?_⟩
 refine⟨rfl,fun lf pf H1 s1 u1 t1 =>?_⟩;have l25:(pf.map V.ref).length=25:=by rw[B_,t1.len];decide
 refine⟨_,rfl,_,rfl,c,1,rfl,by decide,fun x hx=>⟨_,rfl,_,_,rfl,.inl ⟨_,SqL.of u1,rfl⟩,?_⟩⟩;rw[l25];obtain⟨j,hj,ej⟩:∃ j:Nat,j < 25∧x % 25=(j:Int):=⟨(x % 25).toNat,by omega,by omega⟩;obtain⟨e,he⟩:∃ e,iS[j]? = some e:=⟨_,Cf (show j < 25 from hj)⟩;obtain⟨pe,hpe,upe⟩:=t1.get (i:=j) (z:=(tx e.1,tx e.2)) (by rw[CK,he];rfl);have hmem:e∈iS:=Cw he;have hform:=a6 hmem;obtain⟨_,⟨hne,hl6,hlet⟩,w0ne,w0l,w0c⟩:=qK e hmem;obtain⟨w0,fm⟩:=e;dsimp only at *;refine⟨_,_,rfl,rfl,(by show (0:Int) < 25;decide),lf,_,_,_,rfl,rfl,SqL.of u1,(by show atI _ (x % 25)=_;rw[ej];exact dH (by rw[CK,hpe];rfl)),pe,_,rfl,SqT.of upe,rfl,_,_,rfl,_,_,rfl,rfl,?_⟩;have ef:=aw fm;have asc:(tx fm).cps.all (· < 128)=true:=by
  rw[← Array.all_toList,br,CC];intro c' hc'
  have:=hlet c' hc'
  simp only[B6,Cc,or_false]at this;exact B8 (by omega)
 have hl1:=s1 _ _ hl
 clear t1 u1 upe hpe ej hj hx he
 refine⟨[.ref l,.int c],rfl,_,rfl,tx fm,rfl,asc,qU (tx fm) (fun D (i:Nat) ys H'=>al H1 H'∧H' D=some (.lst ys)∧i≤fm.length∧∃ us:List (List Nat),ys=us.map (fun z=>V.str (tx z))∧us.length=i∧∀ (j:Nat) (w:List Nat) (kc:Nat),us[j]? = some w→fm[j]? = some kc→kD n0 n1 n2 kc w) (a9 (by omega)) (fun D i ys H' h=>⟨h.2.1,by obtain⟨us,e1,e2,_⟩:=h.2.2.2;rw[e1,B_,e2];exact B7 _⟩) (fun D hD=>⟨al.new hD _,aj,Cr _,[],rfl,rfl,fun j w kc h=>by simp at h⟩) ?_ ?_ ?_ ?_⟩
 ·rintro D i p ys H' hi hD ⟨b1,b2,b3,us,rfl,lu,hu⟩ hp;have s2:=al.new hp (.tup [.int (i:Int),.str (sgn (tx fm) i)]);have u2:upd H' p (.tup [.int (i:Int),.str (sgn (tx fm) i)]) p=some (.tup [.int (i:Int),.str (sgn (tx fm) i)]):=aj;have b2':=s2 _ _ b2;generalize upd H' p (.tup [.int (i:Int),.str (sgn (tx fm) i)])=H2 at *;obtain⟨kc,hkc⟩:∃ kc,fm[i]? = some kc:=⟨_,Cf (by omega)⟩;have es:sgn (tx fm) i=tx [kc]:=by
   unfold sgn tx
   have:fm.toArray.getD i 0=kc:=by simp[CF,hkc]
   rw[this]
  rw[es]at u2;have ek:(10:Int) + (i:Int)=((10 + i:Nat):Int):=by omega
  refine⟨p,_,rfl,SqT.of u2,rfl,_,_,rfl,_,_,rfl,rfl,rfl,_,rfl,_,rfl,_,rfl,_,_,rfl,rfl,c,10 + i,(by show [V.int c,V.int (10 + (i:Int))]=_;rw[ek]),by omega,fun m hm=>⟨_,rfl,kc,m,l,n0,n1,n2,n3,rfl,hlet kc (Cw hkc),⟨(b1.trans s2) _ _ hl1,hN⟩,fun w' H3 s3 gw=>⟨s3 _ _ b2',al.set ((b1.trans s2).trans s3) hD _,aj,by omega,us++[w'],by rw[CD];rfl,by simp[lu],fun j w2 k2 hj1 hj2 =>?_⟩⟩⟩;rcases Dt j us.length with h | h
  ·rw[Cz h]at hj1;exact hu j w2 k2 hj1 hj2
  ·rw[CG h]at hj1;have e0:j - us.length=0:=by
    rcases e:j - us.length with _|n
    ·rfl
    ·rw[e]at hj1;simp at hj1
   rw[e0]at hj1;cases hj1;rw[show j=i by omega,hkc]at hj2;cases hj2;exact gw
 rotate_left
 ·intro x σ H' R R' k h;obtain⟨p,xs,rfl,h1,h2,v1,r1,rfl,v2,r2,rfl,rfl,h⟩:=h;exact⟨p,_,rfl,h1,h2,_,_,rfl,_,_,rfl,rfl,k _ _ h⟩
 ·intro σ H' R R' k h;obtain⟨a1,e1,a2,e2,a3,e3,i1,i2,e4,e5,c1,k1,f1,f2,h⟩:=h;refine⟨a1,e1,a2,e2,a3,e3,i1,i2,e4,e5,c1,k1,f1,f2,fun m hm =>?_⟩;obtain⟨a4,e6,kc,c2,l2,m0,m1,m2,m3,g1,g2,g3,h⟩:=h m hm;exact⟨a4,e6,kc,c2,l2,m0,m1,m2,m3,g1,g2,g3,fun w' H5 s5 z=>k _ _ (h w' H5 s5 z)⟩
 rintro lw ys H2 hlw ⟨s2,u2,_,ws,rfl,lws,hws⟩;rw[ef]at lws;have n1':0 < fm.length:=by
  cases fm with
  | nil=>exact absurd rfl hne
  | cons a r=>simp
 have szf:(tx fm).length≤sizeLine:=a9 (by omega);have pf':(0:Int) < ((tx fm).length:Int):=by omega
 refine⟨_,rfl,c,2,rfl,by decide,fun x1 hx1=>⟨_,rfl,_,_,rfl,⟨szf,rfl⟩,_,_,rfl,rfl,pf',_,rfl,c,3,rfl,by decide,fun x2 hx2=>⟨_,rfl,_,_,rfl,⟨szf,rfl⟩,_,_,rfl,rfl,pf',(by show 2≤sizeLine;decide),fun p1 hp1=>⟨p1,_,_,rfl,SqL.of aj,fun S hS =>?_⟩⟩⟩⟩;obtain⟨a,b,hab,hb,es⟩:∃ a b:Nat,a≤b∧b < fm.length∧(if x2 % ((tx fm).length:Int) < x1 % ((tx fm).length:Int) then [V.int (x2 % ((tx fm).length:Int)),V.int (x1 % ((tx fm).length:Int))] else [V.int (x1 % ((tx fm).length:Int)),V.int (x2 % ((tx fm).length:Int))])=[.int (a:Int),.int (b:Int)]:=by
  have g1:=C3 x1 (Int.ne_of_gt pf');have g2:=C1 x1 pf';have g3:=C3 x2 (Int.ne_of_gt pf');have g4:=C1 x2 pf';rw[ef]at g1 g2 g3 g4 ⊢;generalize x1 % (fm.length:Int)=y1 at *;generalize x2 % (fm.length:Int)=y2 at *;obtain⟨m1,rfl⟩:=Da g1;obtain⟨m2,rfl⟩:=Da g3;by_cases h:(m2:Int) < (m1:Int)
  ·exact⟨m2,m1,by omega,by omega,if_pos h⟩
  ·exact⟨m1,m2,by omega,by omega,if_neg h⟩
 dsimp only;rw[es];have s3:=s2.trans ((al.new hp1 (.lst [V.int (x1 % ((tx fm).length:Int)),V.int (x2 % ((tx fm).length:Int))])).trans (al.new hS (.lst [V.int (a:Int),V.int (b:Int)])));have u3:=((al.new hp1 (.lst [V.int (x1 % ((tx fm).length:Int)),V.int (x2 % ((tx fm).length:Int))])).trans (al.new hS (.lst [V.int (a:Int),V.int (b:Int)]))) _ _ u2;have uS:upd (upd H2 p1 (.lst [V.int (x1 % ((tx fm).length:Int)),V.int (x2 % ((tx fm).length:Int))])) S (.lst [V.int (a:Int),V.int (b:Int)]) S=some (.lst [V.int (a:Int),V.int (b:Int)]):=aj;generalize upd (upd H2 p1 (.lst [V.int (x1 % ((tx fm).length:Int)),V.int (x2 % ((tx fm).length:Int))])) S (.lst [V.int (a:Int),V.int (b:Int)])=H3 at *;refine⟨_,rfl,c,4,rfl,by decide,fun x3 hx3=>⟨_,_,rfl,rfl,(by show (0:Int) < 8;decide),?_⟩⟩;generalize x3 % 8=way;have hgood:∀ w∈ws,32∉w∧w.length≤60:=fun w' hw'=>by
  obtain⟨j',hj'⟩:=List.mem_iff_getElem?.mp hw';obtain⟨kc,hkc⟩:∃ kc,fm[j']? = some kc:=⟨_,Cf (by have:=(Ck.mp hj').1;omega)⟩
  have:=hws j' w' kc hj' hkc
  exact⟨this.1,this.2.1⟩
 have free0:32∉w0:=fun z=>by have:=(w0c 32 z).1;omega
 have all60:∀ w∈w0::ws,w.length≤60:=fun w' h=>by
  rcases B6.mp h with rfl|h
  ·omega
  ·exact (hgood w' h).2
 refine mC (i:=3) (ws:=ws) rfl (fun H4 R' s4 k=>⟨_,rfl,k lw H4 (al.refl H4) (s4 _ _ u3)⟩) all60 (by omega) fun H4 s4 =>?_;have u4:=s4 _ _ u3;have uS4:=s4 _ _ uS;have s4':=s3.trans s4;obtain⟨y,r,ewr⟩:∃ y r,ws=y::r:=by
  cases ws with
  | nil=>simp at lws;omega
  | cons y r=>exact⟨y,r,rfl⟩
 have hall:∀ w∈w0::ws,32∉w∧w.length≤70:=fun w' h=>by
  rcases B6.mp h with rfl|h
  ·exact⟨free0,by omega⟩
  ·exact⟨(hgood w' h).1,by have:=(hgood w' h).2;omega⟩
 have lks:(fm.map kdL).length=fm.length:=B_ ..;have hrow:=bx hall (by rw[B5];omega);have lrow:(tx (glu (w0::ws))).length≤620:=by
  rw[aw]
  have:=sP (w0::ws) 60 all60
  have h2:(w0::ws).length * 61≤8 * 61:=Nat.mul_le_mul_right _ (by rw[B5];omega);omega
 have srow:(tx (glu (w0::ws))).length≤sizeLine:=a9 (by omega);refine⟨_,rfl,rfl,_,rfl,bM (fun _ =>?_) (fun _ =>?_)⟩
 ·have at0:atI (ws.map fun z=>V.str (tx z)) 0=some (V.str (tx y)):=by rw[ewr];exact xv _ _
  have ly:y.length≤60:=(hgood y (by rw[ewr];simp)).2;have lty:=aw y;refine⟨_,rfl,_,_,rfl,rfl,a9 (by rw[show (" " : Str).length=1 by decide +kernel];omega),_,rfl,lw,_,_,_,rfl,rfl,SqL.of u4,at0,_,_,rfl,rfl,a9 (by rw[jE,bo,aw,B3,← aw (glu (w0::ws))];show _ + 1 + _≤1000;omega),(by show 2≤sizeLine;decide),fun pt hpt=>q' pt _ 11 _ (s1.trans (s4'.trans (al.new hpt _))) aj (.inl ⟨rfl,w0,ws++[y],?_,?_,.inr ⟨_,hform,?_⟩⟩)⟩
  ·rw[jE,bo,bo,← List.cons_append,qJ y (by simp)];simp
  ·refine bx (fun w' h =>?_) (by simp;omega);rw[← List.cons_append]at h;rcases Cm.mp h with h | h
   ·exact hall w' h
   ·rw[CA.mp h];exact hall y (by rw[ewr];simp)
  ·rw[B3,lks];show ws.length + 1≠_;omega
 refine⟨_,rfl,rfl,_,rfl,bM (fun _ =>?_) (fun _ =>?_)⟩
 ·have lr:ws.length=r.length + 1:=by rw[ewr];rfl
  have sub:∀ w∈w0::r,w∈w0::ws:=fun w' h=>by
   rw[ewr];rcases B6.mp h with rfl | h
   ·simp
   ·simp[h]
  refine mC (i:=3) (w0:=w0) (ws:=r) rfl (fun H5 R' s5 k=>⟨_,rfl,_,rfl,lw,_,rfl,SqL.of (s5 _ _ u4),fun p hp=>k p _ (al.new hp _) (by rw[aj,ewr,Ct,qR])⟩) (fun w' h=>all60 w' (sub w' h)) (by omega) fun H5 s5 =>?_;refine⟨(by show 2≤sizeLine;decide),fun pt hpt=>q' pt _ 11 _ (s1.trans (s4'.trans (s5.trans (al.new hpt _)))) aj (.inl ⟨rfl,w0,r,rfl,bx (fun w' h=>hall w' (sub w' h)) (by rw[B5];omega),.inr ⟨_,hform,by omega⟩⟩)⟩
 refine⟨_,rfl,rfl,_,rfl,bM (fun _ =>?_) (fun _ =>?_)⟩
 ·obtain⟨c0,r0,rfl⟩:∃ c0 r0,w0=c0::r0:=by
   cases w0 with
   | nil=>exact absurd rfl w0ne
   | cons a r=>exact⟨a,r,rfl⟩
  have hc0:=w0c c0 (by simp);have e1:Txt.slice (tx (c0::r0)) none (some 1)=tx [c0]:=(jI (tx (c0::r0)) 1).trans (rQ _ 1);have eg:glu ((c0::r0)::ws)=c0::(r0++32::glu ws):=jz _ (by rw[ewr];simp);have e2:Txt.slice (tx (glu ((c0::r0)::ws))) (some 1) none=tx (r0++32::glu ws):=by
   rw[jH (by rw[aw,eg];simp)];unfold rst;rw[br,eg];rfl
  have l1:(tx [c0 - 32]).length=1:=aw _;have lg:=lrow;rw[aw,eg,B5]at lg;refine⟨_,rfl,_,rfl,_,rfl,a9 (by rw[aw];omega),?_⟩;rw[e1];refine⟨rfl,_,rfl,rfl,(by rw[rb c0 (by omega) hc0.1,l1];decide +kernel),(by rw[rb c0 (by omega) hc0.1,l1];decide),?_⟩;rw[rb c0 (by omega) hc0.1];refine⟨_,rfl,_,rfl,_,rfl,srow,?_⟩;rw[e2];refine⟨_,_,rfl,rfl,a9 (by rw[l1,aw];omega),(by show 2≤sizeLine;decide),fun pt hpt=>q' pt _ 11 _ (s1.trans (s4'.trans (al.new hpt _))) aj (.inl ⟨rfl,(c0 - 32)::r0,ws,?_,bx (fun w' h =>?_) (by rw[B5];omega),.inl (tM (c:=c0 - 32) (by simp) (by omega))⟩)⟩
  ·rw[bo,jz _ (by rw[ewr];simp)];rfl
  ·rcases B6.mp h with rfl|h
   ·refine⟨fun z =>?_,by simp only[B5]at w0l ⊢;omega⟩;rcases B6.mp z with z | z
    ·omega
    ·exact free0 (Cp _ z)
   ·exact hall w' (Cp _ h)
 have lw0:=aw w0;refine⟨_,rfl,rfl,_,rfl,bM (fun _ =>?_) (fun _ =>?_)⟩
 ·refine⟨_,rfl,c,5,rfl,by decide,fun x5 hx5=>⟨_,rfl,_,_,rfl,⟨a9 (by omega),rfl⟩,_,_,rfl,rfl,_,_,rfl,rfl,(by omega),?_⟩⟩;obtain⟨sp,hsp,esp⟩:∃ sp:Nat,sp≤w0.length∧x5 % (((tx w0).length:Int) + 1)=(sp:Int):=by
   rw[lw0];have h1:=C3 x5 (show ((w0.length:Int) + 1)≠0 by omega);have h2:=C1 x5 (show (0:Int) < (w0.length:Int) + 1 by omega);exact⟨(x5 % ((w0.length:Int) + 1)).toNat,by omega,by omega⟩
  dsimp only;rw[esp];have eg:glu (w0::ws)=w0++32::glu ws:=jz _ (by rw[ewr];simp);have lg:=aw (glu (w0::ws));have lsp:sp≤(glu (w0::ws)).length:=by
   rw[eg,B3];omega
  refine⟨_,rfl,_,rfl,_,rfl,_,rfl,srow,?_⟩;rw[jI,rQ];refine⟨_,_,rfl,rfl,a9 (by rw[aw,CH,show ("q" : Str).length=1 by decide +kernel];omega),?_⟩
  rw[show ("q" : Str)=tx [113] by decide +kernel,bo]
  refine⟨_,rfl,_,rfl,_,rfl,_,rfl,srow,?_⟩;rw[nK (by omega),v4];refine⟨_,_,rfl,rfl,a9 (by rw[aw,aw,B3,CH,CT];show _ + 1 + _≤1000;omega),(by show 2≤sizeLine;decide),fun pt hpt=>q' pt _ 11 _ (s1.trans (s4'.trans (al.new hpt _))) aj (.inl ⟨rfl,w0.take sp++113::w0.drop sp,ws,?_,bx (fun w' h =>?_) (by rw[B5];omega),.inl (tM (c:=113) (by simp) (by omega))⟩)⟩
  ·rw[bo,eg,List.take_append_of_le_length hsp,List.drop_append_of_le_length hsp,jz _ (by rw[ewr];simp)];simp
  ·rcases B6.mp h with rfl|h
   ·refine⟨fun z =>?_,by rw[B3,B5,CH,CT];omega⟩;rcases Cm.mp z with z | z
    ·exact free0 (DC z)
    ·rcases B6.mp z with z|z
     ·omega
     ·exact free0 (Dl z)
   ·exact hall w' (Cp _ h)
 obtain⟨ka,hka⟩:∃ ka,fm[a]? = some ka:=⟨_,Cf (by omega)⟩;have neS:S≠lw:=fun e=>by
  rw[e,u3,ewr]at uS;cases uS
 have clin:∀ k,clI k∈ixs:=fun k=>by
  unfold clI
  repeat' split
  all_goals decide
 have wdne:∀ k,wdI (clI k)≠("" : Str):=fun k=>by
  unfold clI
  repeat' split
  all_goals decide +kernel
 refine⟨_,rfl,S,rfl,⟨_,SqL.of uS4⟩,qM (xs:=[.int (a:Int),.int (b:Int)]) (fun i σ H5=>al H1 H5∧H5 S=some (.lst [.int (a:Int),.int (b:Int)])∧∃ (us:List (List Nat)) (due:Str) (o11 o12:Option V),H5 lw=some (.lst (us.map fun z=>V.str (tx z)))∧us.length=fm.length∧(∀ w∈us,32∉w∧w.length≤60)∧(∀ (j:Nat) (w:List Nat) (k:Nat),j < a→us[j]? = some w→fm[j]? = some k→kD n0 n1 n2 k w)∧(0 < i→∀ w,us[a]? = some w→mT n0 n1 n2 ka w)∧due=(if i=0 then ("" : Str) else wdI (clI ka)) ∧
   σ=[some (.int c),some (.ref l),some (.ref lf),some (.str (tx w0)),some (.str (tx fm)),some (.ref lw),some (.ref S),some (.int (x3 % 8)),some (.str (tx (glu (w0::ws)))),none,some (.str due),o11,o12]) ⟨s4',uS4,ws,"",none,none,u4,lws,hgood,fun j w' k hj h1 h2=>hws j w' k h1 h2,fun h=>absurd h (CV _),rfl,rfl⟩ (fun i σ H5 _ h=>SqL.of h.2.1) ?_ ?_⟩
 ·rintro i x σ H5 hx ⟨s5,uS5,us,due,o11,o12,u5,lu,hu60,hug,hub,rfl,rfl⟩;obtain⟨sp,kc,rfl,hsp,hkc,h0,h1⟩:∃ (sp kc:Nat),x=.int (sp:Int)∧a≤sp∧fm[sp]? = some kc∧(i=0→sp=a)∧(i=0∨i=1):=by
   rcases i with _|_|i
   ·exact⟨a,ka,(Option.some.inj hx).symm,B7 _,hka,fun _=>rfl,.inl rfl⟩
   ·exact⟨b,fm[b],(Option.some.inj hx).symm,hab,Cf hb,fun h=>absurd h (by decide),.inr rfl⟩
   ·simp at hx
  have ek:(20:Int) + (sp:Int)=((20 + sp:Nat):Int):=by omega
  have lsp:sp < fm.length:=(Ck.mp hkc).1;refine⟨_,rfl,_,rfl,_,_,kc,rfl,rfl,szf,dH (by rw[br];exact hkc),_,rfl,_,rfl,_,_,rfl,rfl,c,20 + sp,(by show [V.int c,V.int (20 + (sp:Int))]=_;rw[ek]),by omega,fun m hm=>⟨_,rfl,kc,m,l,n0,n1,n2,n3,rfl,hlet kc (Cw hkc),⟨s5 _ _ hl1,hN⟩,fun p w' H6 s6 up bw =>?_⟩⟩;have u6:=s6 _ _ u5;refine⟨p,_,rfl,SqT.of up,rfl,_,_,rfl,_,rfl,_,rfl,?_⟩;have ix:ixN (us.map fun z=>V.str (tx z)).length (sp:Int)=some sp:=by
   unfold ixN;rw[if_pos (by omega),if_pos (by rw[B_];omega)];simp
  refine⟨lw,_,_,sp,rfl,rfl,u6,ix,?_⟩;have es':(us.map fun z=>V.str (tx z)).set sp (V.str (tx w'))=(us.set sp w').map fun z=>V.str (tx z):=by rw[List.map_set]
  rw[es'];have sA:al H1 (upd H6 lw (.lst ((us.set sp w').map fun z=>V.str (tx z)))):=al.set (s5.trans s6) hlw _;have uA:upd H6 lw (.lst ((us.set sp w').map fun z=>V.str (tx z))) lw=some (.lst ((us.set sp w').map fun z=>V.str (tx z))):=aj;have uSA:upd H6 lw (.lst ((us.set sp w').map fun z=>V.str (tx z))) S=some (.lst [.int (a:Int),.int (b:Int)]):=by rw[aL neS];exact s6 _ _ uS5
  generalize upd H6 lw (.lst ((us.set sp w').map fun z=>V.str (tx z)))=H7 at *;have f60:∀ w∈us.set sp w',32∉w∧w.length≤60:=fun w2 h=>by
   rcases List.mem_or_eq_of_mem_set h with h|rfl
   ·exact hu60 w2 h
   ·exact⟨bw.1,bw.2.1⟩
  have fgood:∀ (j:Nat) (w:List Nat) (k:Nat),j < a→(us.set sp w')[j]? = some w→fm[j]? = some k→kD n0 n1 n2 k w:=fun j w2 k hj h1 h2=>by
   rw[Dp (by omega)]at h1;exact hug j w2 k hj h1 h2
  have fbad:∀ w,(us.set sp w')[a]? = some w→mT n0 n1 n2 ka w:=fun w2 h=>by
   by_cases e:sp=a
   ·subst e;rw[hka]at hkc;cases hkc;rw[Dw (by omega)]at h;cases h;exact bw
   ·rw[Dp e]at h;exact hub (by
     rcases h1 with h1|h1
     ·exact absurd (h0 h1) e
     ·omega) w2 h
  refine⟨_,_,rfl,rfl,_,rfl,rfl,_,rfl,?_⟩;rcases h1 with rfl | rfl
  ·have e:=h0 rfl;subst e;rw[hka]at hkc;cases hkc;exact bM (fun _=>⟨_,rfl,sA,uSA,_,_,_,_,uA,by simp[lu],f60,fgood,fun _=>fbad,rfl,rfl⟩) (fun h=>absurd (B8 rfl) h)
  ·refine bM (fun h =>?_) (fun _=>⟨sA,uSA,_,_,_,_,uA,by simp[lu],f60,fgood,fun _=>fbad,rfl,rfl⟩);have h':V.str (wdI (clI ka))=V.str ("" : Str):=Cd h
   exact absurd (V.str.inj h') (wdne ka)
 ·rintro σ H5 ⟨s5,uS5,us,due,o11,o12,u5,lu,hu60,hug,hub,rfl,rfl⟩;have a60:∀ w∈w0::us,w.length≤60:=fun w' h=>by
   rcases B6.mp h with rfl|h
   ·omega
   ·exact (hu60 w' h).2
  refine mC (i:=3) (w0:=w0) (ws:=us) rfl (fun H6 R' s6 k=>⟨_,rfl,k lw H6 (al.refl H6) (s6 _ _ u5)⟩) a60 (by omega) fun H6 s6 =>?_;refine⟨_,rfl,(by show 2≤sizeLine;decide),fun pt hpt=>q' pt _ (clI ka) _ (s1.trans (s5.trans (s6.trans (al.new hpt _)))) aj (.inr ⟨clin ka,w0,us,fm.map kdL,rfl,bx (fun w' h =>?_) (by rw[B5];omega),hform,by omega,wQ a fm us ka hug hka (hub (by show 0 < 2;decide)) lu⟩)⟩;rcases B6.mp h with rfl | h
  ·exact⟨free0,by omega⟩
  ·exact⟨(hu60 w' h).1,by have:=(hu60 w' h).2;omega⟩
end
def OkW (w:List Nat):Prop:=32∉w∧w.length≤70
theorem okn:∀ w∈([]:List (List Nat)),32∉w∧w.length≤70:=fun _ h=>by cases h
theorem okw {w:List Nat}{ws:List (List Nat)}(h:OkW w)(t:∀ x∈ws,32∉x∧x.length≤70):∀ x∈w::ws,32∉x∧x.length≤70:=fun x hx=>by
 rcases B6.mp hx with rfl|hx
 ·exact h
 ·exact t x hx
def pN (n0 n1 n2:List Nat)(L0 L1 L2:Nat)(row:Str)(i:Nat):Prop :=
 ∃ w0 ws ks dn,row=tx (glu (w0::ws))∧g_ (w0::ws)∧dF w0 ks∧ws.length=ks.length∧w0=Dn.nm dn ∧
  ∀ {K:PySem.W.Frag} {mg:Str→Option Value} (Y:Yx K mg) (H:Hp) (v0 v1 v2:V),Sht H v0 L0→Sht H v1 L1→Sht H v2 L2→∃ gs,kU (D3 n0 n1 n2 v0 v1 v2) ks ws (gs.map .v)∧b_ Y H dn gs (Yc Y i)
def FR (σ:St)(H:Hp)(t:TF)(y:List Nat):Prop:=∀ (u:List Nat) (Q:Str→Hp→Prop),u.length + y.length≤1000→Q (tx (u++y)) H→t σ H (tx u) Q
theorem cR {σ:St}{H:Hp}:FR σ H tFn []:=fun u Q hl q=>⟨a9 (by rw[aw];simpa using hl),by rw[CJ]at q;exact q⟩
theorem f_c {σ:St}{H:Hp}{t:TF}{y w:List Nat}{x:Str}(e:x=tx w)(h:FR σ H t y):FR σ H (tFc x t) (w++y):=fun u Q hl q=>by
 rw[B3]at hl;subst e;refine⟨?_,?_⟩
 ·rw[bo,aw,B3];exact a9 (by omega)
 ·rw[bo];exact h _ Q (by rw[B3];omega) (by rw[Dk];exact q)
theorem f_v {σ:St}{H:Hp}{t:TF}{y w:List Nat}{te:TE}{v:V}(e:∀ R:VK,R v H→te σ H R)(hs:Shw v (tx w))(h:FR σ H t y):FR σ H (tFv te t) (w++y):=fun u Q hl q=>by
 rw[B3]at hl;refine e _ ⟨tx w,hs,?_,?_⟩
 ·rw[bo,aw,B3];exact a9 (by omega)
 ·rw[bo];exact h _ Q (by rw[B3];omega) (by rw[Dk];exact q)
theorem cQ {σ:St}{H:Hp}{t:TF}{y:List Nat}(h:FR σ H t y)(hl:y.length≤1000)(R:VK)(q:R (.str (tx y)) H):cB t σ H R:=h [] _ (by simpa using hl) q
theorem tK:∀ e∈[([52,49],(41:Int)),([45,49],-1),([48],0),([55],7),([49],1),([52,48],40)],nwB e.1=true∧intText? (tx e.1)=some e.2:=by decide +kernel
theorem b6 {D:List (List Nat × V)}{w:List Nat}{i:Int}(h:(w,i)∈[([52,49],(41:Int)),([45,49],-1),([48],0),([55],7),([49],1),([52,48],40)]):VOk D .num w (.v (.int i)):=.num (tK _ h).1 (tK _ h).2
section
variable {n0 n1 n2 n3:List Nat}{v0 v1 v2:V}
theorem uR {D:List (List Nat × V)}(h:q8 [n0,n1,n2,n3]):VOk D .new n3 (.v (.str (tx n3))):=.new (h.1 n3 (by simp))
theorem gR (h:q8 [n0,n1,n2,n3]):VOk (D3 n0 n1 n2 v0 v1 v2) .one n0 (.v v0):=.one (h.1 n0 (by simp)) nN
theorem yd (h:q8 [n0,n1,n2,n3]):VOk (D3 n0 n1 n2 v0 v1 v2) .one n1 (.v v1):=.one (h.1 n1 (by simp)) (by
 have nd:=h.2;simp only[CQ,B6,Cc,or_false,not_or]at nd;unfold D3;rw[jx fun z=>nd.1.1 z.symm];exact nN)
theorem yc (h:q8 [n0,n1,n2,n3]):VOk (D3 n0 n1 n2 v0 v1 v2) .one n2 (.v v2):=.one (h.1 n2 (by simp)) (by
 have nd:=h.2;simp only[CQ,B6,Cc,or_false,not_or]at nd;unfold D3;rw[jx fun z=>nd.1.2.1 z.symm,jx fun z=>nd.2.1.1 z.symm];exact nN)
end
def yM (L0:Nat)(far:Int)(wf:List Nat):Prop:=Str.ofString (toString far)=tx wf∧far.natAbs.log2 < 1920∧nwB wf=true∧intText? (tx wf)=some far∧32∉wf∧wf.length≤31∧¬ (0≤far∧far < ((2 ^ L0:Nat):Int))
theorem tT {L0 m:Nat}(h:m < 10 ^ 30)(hm:2 ^ L0≤m):yM L0 (m:Int) (dg m):=by
 obtain⟨h1,h2,h3,_⟩:=t_ 29 m h;refine⟨Ak m,?_,Al h,Am h,fun z=>by have:=h3 32 z;omega,by omega,fun⟨_,z⟩=>by omega⟩;rw[Int.natAbs_natCast];by_cases m0:m=0
 ·rw[m0];decide
 ·exact (Nat.log2_lt m0).mpr (Co h (by decide))
theorem yB {L0:Nat}:yM L0 (-1) [45,49]:=⟨by decide +kernel,by decide,by decide,by decide +kernel,by decide,by decide,fun⟨z,_⟩=>by omega⟩
theorem vm {n0 n1 n2 n3 cw wf:List Nat}{L0 L1 L2:Nat}{far:Int}(hN:q8 [n0,n1,n2,n3])(h0:1≤L0∧L0≤5)(h1:L0≠L1)(h2:7≤L2∧L2≤40)(hc:icB cw=true)(lc:cw.length=L0 + 1)(hf:yM L0 far wf):
  ∀ z∈([(tx ([112,108,97,105,110,32]++(n3++([32,52,49,32,48]++[]))),"level"),(tx ([112,108,97,105,110,32]++(n3++([32,45,49,32,48]++[]))),"level"),(tx ([112,97,114,116,32]++(n3++([32]++(n0++([32]++(cw++[])))))),"code"),(tx ([119,105,110,100,111,119,32]++(n3++([32]++(n0++([32,48,32,48,32,55,32,48]++[]))))),"level"),(tx ([119,105,110,100,111,119,32]++(n3++([32]++(n2++([32,48,32,48,32,49,32,48]++[]))))),"level"),(tx ([111,118,101,114,32]++(n3++([32]++(n0++([32]++(n1++([32,48]++[]))))))),"level"),(tx ([112,97,105,110,116,32]++(n0++([32]++(cw++([32,53]++[]))))),"code"),(tx ([112,117,116,32]++(n0++([32,45,32]++(n1++[])))),"level"),(tx ([112,117,116,32]++(n0++([32]++(cw++([32]++(n1++[])))))),"code"),(tx ([108,97,121,32]++(n2++([32,48,32,48,32]++(n0++[])))),"level"),(tx ([108,97,121,32]++(n0++([32,48,32,48,32]++(n2++[])))),"level"),(tx ([102,105,110,101,114,32]++(n0++([32,52,48]++[]))),"level"),(tx ([102,105,110,101,114,32]++(n0++([32,45,49]++[]))),"level"),(tx ([99,111,97,114,115,101,114,32]++(n0++([32,55]++[]))),"level"),(tx ([97,116,32]++(n0++([32]++(wf++([32,48]++[]))))),"place"),(tx ([97,116,32]++(n0++([32,48,32]++(wf++[])))),"place"),(tx ([114,105,110,103,115,32]++(n0++([32,48,32]++(wf++[])))),"place"),(tx ([115,116,101,112,115,32]++(n0++([32,48,32,48,32]++(wf++([32,48]++[]))))),"place"),(tx ([98,101,121,111,110,100,32]++(n0++([32]++(cw++([32,117,112]++[]))))),"leaf")]:List (Str × Str)),∃ i,i∈ixs∧z.2=wdI i∧pN n0 n1 n2 L0 L1 L2 z.1 i:=by
 have k:∀ n∈[n0,n1,n2,n3],OkW n:=fun n hn=>⟨cZ (hN.1 n hn),by have:=(cH.mp (hN.1 n hn)).2.1;omega⟩;have k0:=k n0 (by simp);have k1:=k n1 (by simp);have k2:=k n2 (by simp);have k3:=k n3 (by simp);have c45:cw≠[45]:=fun e=>by rw[e]at lc;simp at lc;omega
 have c0:cw≠[]:=fun e=>by rw[e]at lc;simp at lc
 have cb:vy cw=true:=by
  unfold vy;unfold icB at hc;rw[Cg c45,B8 c0,DL,CS];exact hc
 have cv:Ao cw=cw:=if_neg c45;have kc:OkW cw:=⟨fun z=>by
  unfold icB at hc;rw[Cy,CC]at hc
  have:=Cd (hc.2 32 z)
  omega,by omega⟩
 obtain⟨_,_,fn,fi,f32,fl,fo⟩:=hf;have kf:OkW wf:=⟨f32,by omega⟩;have okc:∀ {D:List (List Nat × V)},VOk D .cod cw (.v (.str (tx cw))):=fun {D}=>by
  have:=VOk.cod (D:=D) cb
  rw[cv]at this;exact this
 have okf:∀ {D:List (List Nat × V)},VOk D .num wf (.v (.int far)):=.num fn fi;have fx:¬ gj L0 far 0:=fun h=>fo h.1;have fy:¬ gj L0 0 far:=fun h=>fo h.2;have cn:L0 < cw.length:=by omega
 intro z hz;simp only[B6,Cc,or_false]at hz;rcases hz with rfl | rfl | rfl | rfl | rfl | rfl | rfl | rfl | rfl | rfl | rfl | rfl | rfl | rfl | rfl | rfl | rfl | rfl | rfl
 ·exact⟨0,by decide,rfl,[112,108,97,105,110],[n3,[52,49],[48]],[.new,.num,.col],.plain,Cs tx (by simp[glu]),bx (okw ⟨by decide,by decide⟩ (okw k3 (okw ⟨by decide,by decide⟩ (okw ⟨by decide,by decide⟩ okn)))) (Cb rfl),a6 (e:=([112,108,97,105,110],[110,119,111])) (by decide),rfl,rfl,fun Y H v0 v1 v2 S0 S1 S2=>⟨[.str (tx n3),.int (41),.int 0],(.cons (uR hN) (.cons (b6 (by decide)) (.cons (.col rfl) .nil))),.plain (by omega)⟩⟩
 ·exact⟨0,by decide,rfl,[112,108,97,105,110],[n3,[45,49],[48]],[.new,.num,.col],.plain,Cs tx (by simp[glu]),bx (okw ⟨by decide,by decide⟩ (okw k3 (okw ⟨by decide,by decide⟩ (okw ⟨by decide,by decide⟩ okn)))) (Cb rfl),a6 (e:=([112,108,97,105,110],[110,119,111])) (by decide),rfl,rfl,fun Y H v0 v1 v2 S0 S1 S2=>⟨[.str (tx n3),.int (-1),.int 0],(.cons (uR hN) (.cons (b6 (by decide)) (.cons (.col rfl) .nil))),.plain (by omega)⟩⟩
 ·exact⟨1,by decide,rfl,[112,97,114,116],[n3,n0,cw],[.new,.one,.cod],.part,Cs tx (by simp[glu]),bx (okw ⟨by decide,by decide⟩ (okw k3 (okw k0 (okw kc okn)))) (Cb rfl),a6 (e:=([112,97,114,116],[110,102,99])) (by decide),rfl,rfl,fun Y H v0 v1 v2 S0 S1 S2=>⟨[.str (tx n3),v0,.str (tx cw)],(.cons (uR hN) (.cons (gR hN) (.cons okc .nil))),.part S0 hc cn⟩⟩
 ·exact⟨0,by decide,rfl,[119,105,110,100,111,119],[n3,n0,[48],[48],[55],[48]],[.new,.one,.num,.num,.num,.col],.window,Cs tx (by simp[glu]),bx (okw ⟨by decide,by decide⟩ (okw k3 (okw k0 (okw ⟨by decide,by decide⟩ (okw ⟨by decide,by decide⟩ (okw ⟨by decide,by decide⟩ (okw ⟨by decide,by decide⟩ okn))))))) (Cb rfl),a6 (e:=([119,105,110,100,111,119],[110,102,119,119,119,111])) (by decide),rfl,rfl,fun Y H v0 v1 v2 S0 S1 S2=>⟨[.str (tx n3),v0,.int (0),.int (0),.int (7),.int 0],(.cons (uR hN) (.cons (gR hN) (.cons (b6 (by decide)) (.cons (b6 (by decide)) (.cons (b6 (by decide)) (.cons (.col rfl) .nil)))))),.window S0 (.inr (by decide))⟩⟩
 ·exact⟨0,by decide,rfl,[119,105,110,100,111,119],[n3,n2,[48],[48],[49],[48]],[.new,.one,.num,.num,.num,.col],.window,Cs tx (by simp[glu]),bx (okw ⟨by decide,by decide⟩ (okw k3 (okw k2 (okw ⟨by decide,by decide⟩ (okw ⟨by decide,by decide⟩ (okw ⟨by decide,by decide⟩ (okw ⟨by decide,by decide⟩ okn))))))) (Cb rfl),a6 (e:=([119,105,110,100,111,119],[110,102,119,119,119,111])) (by decide),rfl,rfl,fun Y H v0 v1 v2 S0 S1 S2=>⟨[.str (tx n3),v2,.int (0),.int (0),.int (1),.int 0],(.cons (uR hN) (.cons (yc hN) (.cons (b6 (by decide)) (.cons (b6 (by decide)) (.cons (b6 (by decide)) (.cons (.col rfl) .nil)))))),.window S2 (.inl (by omega))⟩⟩
 ·exact⟨0,by decide,rfl,[111,118,101,114],[n3,n0,n1,[48]],[.new,.one,.one,.col],.over,Cs tx (by simp[glu]),bx (okw ⟨by decide,by decide⟩ (okw k3 (okw k0 (okw k1 (okw ⟨by decide,by decide⟩ okn))))) (Cb rfl),a6 (e:=([111,118,101,114],[110,102,102,111])) (by decide),rfl,rfl,fun Y H v0 v1 v2 S0 S1 S2=>⟨[.str (tx n3),v0,v1,.int 0],(.cons (uR hN) (.cons (gR hN) (.cons (yd hN) (.cons (.col rfl) .nil)))),.over S0 S1 h1⟩⟩
 ·exact⟨1,by decide,rfl,[112,97,105,110,116],[n0,cw,[53]],[.one,.cod,.col],.paint,Cs tx (by simp[glu]),bx (okw ⟨by decide,by decide⟩ (okw k0 (okw kc (okw ⟨by decide,by decide⟩ okn)))) (Cb rfl),a6 (e:=([112,97,105,110,116],[102,99,111])) (by decide),rfl,rfl,fun Y H v0 v1 v2 S0 S1 S2=>⟨[v0,.str (tx cw),.int 5],(.cons (gR hN) (.cons okc (.cons (.col rfl) .nil))),.paint S0 hc cn⟩⟩
 ·exact⟨0,by decide,rfl,[112,117,116],[n0,[45],n1],[.one,.cod,.one],.put,Cs tx (by simp[glu]),bx (okw ⟨by decide,by decide⟩ (okw k0 (okw ⟨by decide,by decide⟩ (okw k1 okn)))) (Cb rfl),a6 (e:=([112,117,116],[102,99,102])) (by decide),rfl,rfl,fun Y H v0 v1 v2 S0 S1 S2=>⟨[v0,.str (tx []),v1],(.cons (gR hN) (.cons (.cod (by decide)) (.cons (yd hN) .nil))),.putL (w:=[]) S0 S1 (by decide) (by simp) (by simp;omega)⟩⟩
 ·exact⟨1,by decide,rfl,[112,117,116],[n0,cw,n1],[.one,.cod,.one],.put,Cs tx (by simp[glu]),bx (okw ⟨by decide,by decide⟩ (okw k0 (okw kc (okw k1 okn)))) (Cb rfl),a6 (e:=([112,117,116],[102,99,102])) (by decide),rfl,rfl,fun Y H v0 v1 v2 S0 S1 S2=>⟨[v0,.str (tx cw),v1],(.cons (gR hN) (.cons okc (.cons (yd hN) .nil))),.putC S0 S1 hc cn⟩⟩
 ·exact⟨0,by decide,rfl,[108,97,121],[n2,[48],[48],n0],[.one,.num,.num,.one],.lay,Cs tx (by simp[glu]),bx (okw ⟨by decide,by decide⟩ (okw k2 (okw ⟨by decide,by decide⟩ (okw ⟨by decide,by decide⟩ (okw k0 okn))))) (Cb rfl),a6 (e:=([108,97,121],[102,119,119,102])) (by decide),rfl,rfl,fun Y H v0 v1 v2 S0 S1 S2=>⟨[v2,.int (0),.int (0),v0],(.cons (yc hN) (.cons (b6 (by decide)) (.cons (b6 (by decide)) (.cons (gR hN) .nil)))),.lay S2 S0 (.inl (by omega))⟩⟩
 ·exact⟨0,by decide,rfl,[108,97,121],[n0,[48],[48],n2],[.one,.num,.num,.one],.lay,Cs tx (by simp[glu]),bx (okw ⟨by decide,by decide⟩ (okw k0 (okw ⟨by decide,by decide⟩ (okw ⟨by decide,by decide⟩ (okw k2 okn))))) (Cb rfl),a6 (e:=([108,97,121],[102,119,119,102])) (by decide),rfl,rfl,fun Y H v0 v1 v2 S0 S1 S2=>⟨[v0,.int (0),.int (0),v2],(.cons (gR hN) (.cons (b6 (by decide)) (.cons (b6 (by decide)) (.cons (yc hN) .nil)))),.lay S0 S2 (.inr (by omega))⟩⟩
 ·exact⟨0,by decide,rfl,[102,105,110,101,114],[n0,[52,48]],[.one,.num],.finer,Cs tx (by simp[glu]),bx (okw ⟨by decide,by decide⟩ (okw k0 (okw ⟨by decide,by decide⟩ okn))) (Cb rfl),a6 (e:=([102,105,110,101,114],[102,119])) (by decide),rfl,rfl,fun Y H v0 v1 v2 S0 S1 S2=>⟨[v0,.int (40)],(.cons (gR hN) (.cons (b6 (by decide)) .nil)),.finer S0 (by omega)⟩⟩
 ·exact⟨0,by decide,rfl,[102,105,110,101,114],[n0,[45,49]],[.one,.num],.finer,Cs tx (by simp[glu]),bx (okw ⟨by decide,by decide⟩ (okw k0 (okw ⟨by decide,by decide⟩ okn))) (Cb rfl),a6 (e:=([102,105,110,101,114],[102,119])) (by decide),rfl,rfl,fun Y H v0 v1 v2 S0 S1 S2=>⟨[v0,.int (-1)],(.cons (gR hN) (.cons (b6 (by decide)) .nil)),.finer S0 (by omega)⟩⟩
 ·exact⟨0,by decide,rfl,[99,111,97,114,115,101,114],[n0,[55]],[.one,.num],.coarser,Cs tx (by simp[glu]),bx (okw ⟨by decide,by decide⟩ (okw k0 (okw ⟨by decide,by decide⟩ okn))) (Cb rfl),a6 (e:=([99,111,97,114,115,101,114],[102,119])) (by decide),rfl,rfl,fun Y H v0 v1 v2 S0 S1 S2=>⟨[v0,.int (7)],(.cons (gR hN) (.cons (b6 (by decide)) .nil)),.coarser S0 (by omega)⟩⟩
 ·exact⟨3,by decide,rfl,[97,116],[n0,wf,[48]],[.one,.num,.num],.at_,Cs tx (by simp[glu]),bx (okw ⟨by decide,by decide⟩ (okw k0 (okw kf (okw ⟨by decide,by decide⟩ okn)))) (Cb rfl),a6 (e:=([97,116],[102,119,119])) (by decide),rfl,rfl,fun Y H v0 v1 v2 S0 S1 S2=>⟨[v0,.int far,.int (0)],(.cons (gR hN) (.cons okf (.cons (b6 (by decide)) .nil))),.at_ S0 fx⟩⟩
 ·exact⟨3,by decide,rfl,[97,116],[n0,[48],wf],[.one,.num,.num],.at_,Cs tx (by simp[glu]),bx (okw ⟨by decide,by decide⟩ (okw k0 (okw ⟨by decide,by decide⟩ (okw kf okn)))) (Cb rfl),a6 (e:=([97,116],[102,119,119])) (by decide),rfl,rfl,fun Y H v0 v1 v2 S0 S1 S2=>⟨[v0,.int (0),.int far],(.cons (gR hN) (.cons (b6 (by decide)) (.cons okf .nil))),.at_ S0 fy⟩⟩
 ·exact⟨3,by decide,rfl,[114,105,110,103,115],[n0,[48],wf],[.one,.num,.num],.rings,Cs tx (by simp[glu]),bx (okw ⟨by decide,by decide⟩ (okw k0 (okw ⟨by decide,by decide⟩ (okw kf okn)))) (Cb rfl),a6 (e:=([114,105,110,103,115],[102,119,119])) (by decide),rfl,rfl,fun Y H v0 v1 v2 S0 S1 S2=>⟨[v0,.int (0),.int far],(.cons (gR hN) (.cons (b6 (by decide)) (.cons okf .nil))),.rings S0 fy⟩⟩
 ·exact⟨3,by decide,rfl,[115,116,101,112,115],[n0,[48],[48],wf,[48]],[.one,.num,.num,.num,.num],.steps,Cs tx (by simp[glu]),bx (okw ⟨by decide,by decide⟩ (okw k0 (okw ⟨by decide,by decide⟩ (okw ⟨by decide,by decide⟩ (okw kf (okw ⟨by decide,by decide⟩ okn)))))) (Cb rfl),a6 (e:=([115,116,101,112,115],[102,119,119,119,119])) (by decide),rfl,rfl,fun Y H v0 v1 v2 S0 S1 S2=>⟨[v0,.int (0),.int (0),.int far,.int (0)],(.cons (gR hN) (.cons (b6 (by decide)) (.cons (b6 (by decide)) (.cons okf (.cons (b6 (by decide)) .nil))))),.steps S0 fx⟩⟩
 ·exact⟨5,by decide,rfl,[98,101,121,111,110,100],[n0,cw,[117,112]],[.one,.cod,.sid],.beyond,Cs tx (by simp[glu]),bx (okw ⟨by decide,by decide⟩ (okw k0 (okw kc (okw ⟨by decide,by decide⟩ okn)))) (Cb rfl),a6 (e:=([98,101,121,111,110,100],[102,99,115])) (by decide),rfl,rfl,fun Y H v0 v1 v2 S0 S1 S2=>⟨[v0,.str (tx cw),.str (tx [117,112])],(.cons (gR hN) (.cons okc (.cons (.sid (by decide)) .nil))),.beyond S0 hc cn⟩⟩
theorem xh {σ σ':St}{o:Option V}{H:Hp}{D:hJ}{rest:TS}{i:Nat}{es:List (TE × Str)}{ys:List Str}{zs:List (Str × Str)}(e:σ'=σ.set i o)(hy:Yl (σ.set i o) es ys)(hz:ys.zip (es.map (·.2))=zs)(hl:zs.length≤100)
  (q:∀ l ps H',al H H'→H' l=some (.lst (ps.map V.ref))→TpA H' ps zs→rest D (σ.set i (some (.ref l))) H'):rk (mV (mU (kh es)) (ir i)) rest D σ' H:=by
 subst hz e;refine qN hy hl fun l ps H' s u t =>?_;rw[List.set_set];exact q l ps H' s u t
theorem h_ {σ:St}{H:Hp}{D:hJ}{rest:TS}{l:Addr}{i:Nat}{ps:List Addr}{zs zs':List (Str × Str)}{es:List (TE × Str)}{ys:List Str}(hi:(σ.set i (some (.ref l)))[i]? = some (some (.ref l)))(hl:H l=some (.lst (ps.map V.ref)))(ht:TpA H ps zs)(hy:Yl (σ.set i (some (.ref l))) es ys)(hz:zs++ys.zip (es.map (·.2))=zs')(hn:zs'.length≤100)
  (q:∀ l' ps' H',al H H'→H' l'=some (.lst (ps'.map V.ref))→TpA H' ps' zs'→rest D (σ.set i (some (.ref l'))) H'):rk (mV (tOp uE (bO i) (mU (kh es))) (ir i)) rest D (σ.set i (some (.ref l))) H:=by
 subst hz;rw[B3]at hn;refine lh hi hl ht hy hn fun l' ps' H' s u t =>?_;rw[List.set_set];exact q l' ps' H' s u t
theorem yp {σ:St}{H:Hp}{R:VK}{l:Addr}{i:Nat}{ps:List Addr}{zs zs':List (Str × Str)}{es:List (TE × Str)}{ys:List Str}(hi:σ[i]? = some (some (.ref l)))(hl:H l=some (.lst (ps.map V.ref)))(ht:TpA H ps zs)(hy:Yl σ es ys)(hz:zs++ys.zip (es.map (·.2))=zs')(hn:zs'.length≤100)
  (q:∀ l' ps' H',al H H'→H' l'=some (.lst (ps'.map V.ref))→TpA H' ps' zs'→R (.ref l') H'):tOp uE (bO i) (mU (kh es)) σ H R:=by
 subst hz;rw[B3]at hn;exact pr hi hl ht hy hn q
section
variable {P:Program}{w:World}{K:PySem.W.Frag}{mg:Str→Option Value}{base:Heap}{CX:CXT}{f:Addr}{fd:FuncData}
abbrev gL:Stmt:=top 162
theorem aZ:ap ["_law_names_here","_law_levels","_law_cell","_law_one","_law_two","_law_big","_law_new","_law_code_here","_law_far","_law_some"] ["_law_names_here","_law_levels","_law_cell"] (ai gL):=⟨rfl,rfl,rfl,by decide +kernel,rfl,by decide +kernel,by decide +kernel⟩
def i6:Sp:=fun vs H Q _=>∃ (l lv:Addr) (c:Int) (n0 n1 n2 n3:List Nat) (L0 L1 L2:Nat),vs=[.ref l,.ref lv,.int c]∧NmL H l n0 n1 n2 n3∧H lv=some (.lst [.int L0,.int L1,.int L2])∧(1≤L0∧L0≤5)∧L0≠L1∧(7≤L2∧L2≤40) ∧
 ∀ l' ps zs H',al H H'→H' l'=some (.lst (ps.map V.ref))→TpA H' ps zs→zs.length=19→(∀ z∈zs,∃ i,i∈ixs∧z.2=wdI i∧pN n0 n1 n2 L0 L1 L2 z.1 i)→Q (.ref l') H'
theorem pd (T:Tx K mg)(q:bv CX)(F:aN K "_law_deeds" "_law_deeds" gL f fd .none)(C__law_code:Fok P w K mg base CX 2 "_law_code" ["_law_cell","_law_size"] [] gy):aO P w K mg base CX 3 f fd ["_law_names_here","_law_levels","_law_cell"] i6:=by
 refine F.oks aZ (fun vs H Q E h =>?_) (fun cdv A outer s H vs Q E hr h =>?_)
 ·obtain⟨_,_,_,_,_,_,_,_,_,_,rfl,_⟩:=h;rfl
 obtain⟨l,lv,c,n0,n1,n2,n3,L0,L1,L2,rfl,⟨hl,hN⟩,hv,h0,h1,h2,q'⟩:=h;refine⟨_,(aJ (PSx.mk (iN (pv 0) (zD rfl (bJ (aQ (i:=3) aZ.nd rfl (Or.inl rfl)) (bJ (aQ (i:=4) aZ.nd rfl (Or.inl rfl)) (bJ (aQ (i:=5) aZ.nd rfl (Or.inl rfl)) (bJ (aQ (i:=6) aZ.nd rfl (Or.inl rfl)) fQ))))))) (aJ (PSx.mk (aE (i:=7) aZ.nd rfl (Or.inl rfl) (au C__law_code q hr (aa (pv 2) (aa (ar bC (aq ao (pv 1) ac (fun _ _=>rfl)) ac) af))))) (aJ (PSx.mk (aE (i:=8) aZ.nd rfl (Or.inl rfl) (aq ao (bQ (aH (ar zG ac (aq ao (pv 1) ac (fun _ _=>rfl))) (aH (yV vO ac) (aH (ar bC (ar wF ac ac) (ar aU (pv 2) (ar wF ac ac))) am)))) (ar aU (pv 2) ac) (fun _ _=>rfl)))) (aJ (kZ (i:=9) aZ.nd rfl (Or.inl rfl) (bi (ak (aI (ak (PEx.mk (bE (bG (cq (pv 6) (bG bZ))))) (ak (PEx.mk ah) am))) (ak (aI (ak (PEx.mk (bE (bG (cq (pv 6) (bG bZ))))) (ak (PEx.mk ah) am))) (ak (aI (ak (PEx.mk (bE (bG (cq (pv 6) (bG (cq (pv 3) (bG (cq (pv 7) bZ)))))))) (ak (PEx.mk ah) am))) am))))) (aJ (cg (i:=9) aZ.nd rfl (Or.inl rfl) (eA cG (PEx.mk (pv 9)) (bi (ak (aI (ak (PEx.mk (bE (bG (cq (pv 6) (bG (cq (pv 3) (bG bZ))))))) (ak (PEx.mk ah) am))) (ak (aI (ak (PEx.mk (bE (bG (cq (pv 6) (bG (cq (pv 5) (bG bZ))))))) (ak (PEx.mk ah) am))) am))))) (aJ (cg (i:=9) aZ.nd rfl (Or.inl rfl) (eA cG (PEx.mk (pv 9)) (bi (ak (aI (ak (PEx.mk (bE (bG (cq (pv 6) (bG (cq (pv 3) (bG (cq (pv 4) (bG bZ))))))))) (ak (PEx.mk ah) am))) (ak (aI (ak (PEx.mk (bE (bG (cq (pv 3) (bG (cq (pv 7) (bG bZ))))))) (ak (PEx.mk ah) am))) am))))) (aJ (cg (i:=9) aZ.nd rfl (Or.inl rfl) (eA cG (PEx.mk (pv 9)) (bi (ak (aI (ak (PEx.mk (bE (bG (cq (pv 3) (bG (cq (pv 4) bZ)))))) (ak (PEx.mk ah) am))) (ak (aI (ak (PEx.mk (bE (bG (cq (pv 3) (bG (cq (pv 7) (bG (cq (pv 4) bZ)))))))) (ak (PEx.mk ah) am))) am))))) (aJ (cg (i:=9) aZ.nd rfl (Or.inl rfl) (eA cG (PEx.mk (pv 9)) (bi (ak (aI (ak (PEx.mk (bE (bG (cq (pv 5) (bG (cq (pv 3) bZ)))))) (ak (PEx.mk ah) am))) (ak (aI (ak (PEx.mk (bE (bG (cq (pv 3) (bG (cq (pv 5) bZ)))))) (ak (PEx.mk ah) am))) am))))) (aJ (cg (i:=9) aZ.nd rfl (Or.inl rfl) (eA cG (PEx.mk (pv 9)) (bi (ak (aI (ak (PEx.mk (bE (bG (cq (pv 3) (bG bZ))))) (ak (PEx.mk ah) am))) (ak (aI (ak (PEx.mk (bE (bG (cq (pv 3) (bG bZ))))) (ak (PEx.mk ah) am))) (ak (aI (ak (PEx.mk (bE (bG (cq (pv 3) (bG bZ))))) (ak (PEx.mk ah) am))) am)))))) (aJ (cg (i:=9) aZ.nd rfl (Or.inl rfl) (eA cG (PEx.mk (pv 9)) (bi (ak (aI (ak (PEx.mk (bE (bG (cq (pv 3) (bG (cq (pv 8) (bG bZ))))))) (ak (PEx.mk ah) am))) (ak (aI (ak (PEx.mk (bE (bG (cq (pv 3) (bG (cq (pv 8) bZ)))))) (ak (PEx.mk ah) am))) (ak (aI (ak (PEx.mk (bE (bG (cq (pv 3) (bG (cq (pv 8) bZ)))))) (ak (PEx.mk ah) am))) am)))))) (bF (PSx.mk (av (ar cG (pv 9) (bQ (aH (bA (aH (bE (bG (cq (pv 3) (bG (cq (pv 8) (bG bZ)))))) (aH ah am))) (aH (bA (aH (bE (bG (cq (pv 3) (bG (cq (pv 7) (bG bZ)))))) (aH ah am))) am))))))))))))))))),?_⟩;refine⟨_,rfl,l,_,rfl,SqL.of hl,rfl,_,_,rfl,_,_,rfl,_,_,rfl,_,_,rfl,rfl,?_⟩;refine⟨_,rfl,_,rfl,lv,_,_,_,rfl,rfl,SqL.of hv,rfl,_,_,rfl,rfl,c,L0 + 1,rfl,by omega,fun z hz lz =>?_⟩;obtain⟨cw,rfl⟩:∃ cw,z=tx cw:=⟨_,(s_ z).symm⟩;rw[aw]at lz;have hc:icB cw=true:=by
  unfold icB;rw[Cy,CC];exact⟨B8 (by omega),fun d hd=>B8 (hz d (by rw[br];exact hd))⟩
 have cp1:yN 1 (L0:Int):=⟨by omega,by omega,by decide⟩;have cp2:yN 10 12:=⟨by decide,by decide,by decide⟩;have e12:(10:Int) ^ (12:Int).toNat=1000000000000:=by decide
 have p12:(0:Int) < 10 ^ (12:Int).toNat:=by rw[e12];decide
 obtain⟨v,hv',ha⟩:=kK (xs:=[V.int (1 * 2 ^ (L0:Int).toNat),V.int (-1),V.int (10 ^ (12:Int).toNat + c % 10 ^ (12:Int).toNat)]) c (n:=3) (by decide) rfl;obtain⟨far,wf,rfl,hf⟩:∃ far wf,v=.int far∧yM L0 far wf:=by
  clear ha
  have h32:2 ^ L0≤2 ^ 5:=Nat.pow_le_pow_right (by decide) h0.2;have h32':2 ^ L0≤32:=h32;rw[e12]at hv';simp only[B6,Cc,or_false]at hv';rcases hv' with rfl | rfl | rfl
  ·exact⟨((2 ^ L0:Nat):Int),_,by rw[CL,Int.one_mul];rfl,tT (by omega) (B7 _)⟩
  ·exact⟨_,_,rfl,yB⟩
  ·have g1:=C3 c (show (1000000000000:Int)≠0 by decide);have g2:=C1 c (show (0:Int) < 1000000000000 by decide);obtain⟨m,hm⟩:=Da g1;exact⟨((1000000000000 + m:Nat):Int),_,by rw[hm];rfl,tT (by omega) (by omega)⟩
 refine⟨_,rfl,lv,_,_,_,rfl,rfl,SqL.of hv,rfl,_,_,rfl,rfl,cp1,_,rfl,_,_,rfl,rfl,cp2,_,rfl,_,_,rfl,rfl,cp2,_,_,rfl,rfl,p12,_,_,rfl,rfl,(by show 3≤sizeLine;decide),fun pf hpf=>⟨_,rfl,_,_,rfl,rfl,(by show (0:Int) < 3;decide),pf,_,_,_,rfl,rfl,SqL.of aj,ha,?_⟩⟩;have sF:=al.new hpf (.lst [V.int (1 * 2 ^ (L0:Int).toNat),V.int (-1),V.int (10 ^ (12:Int).toNat + c % 10 ^ (12:Int).toNat)]);generalize upd H pf (.lst [V.int (1 * 2 ^ (L0:Int).toNat),V.int (-1),V.int (10 ^ (12:Int).toNat + c % 10 ^ (12:Int).toNat)])=HF at *;have nm:∀ n∈[n0,n1,n2,n3],n.length≤8:=fun n hn=>(cH.mp (hN.1 n hn)).2.1;have e0:=nm n0 (by simp);have e1:=nm n1 (by simp);have e2:=nm n2 (by simp);have e3:=nm n3 (by simp);have ef:=hf.2.2.2.2.2.1;have st:∀ {n:List Nat},n.length≤8→Shw (.str (tx n)) (tx n):=fun h=>.inl ⟨rfl,a9 (by rw[aw];omega)⟩;have s0:=st e0;have s1:=st e1;have s2:=st e2;have s3:=st e3;have sc:=st (n:=cw) (by omega);have sf:Shw (.int far) (tx wf):=.inr ⟨far,rfl,hf.2.1,hf.1.symm⟩;obtain⟨σ0,hσ⟩:∃ σ0:St,[some (V.ref l),some (.ref lv),some (.int c),some (.str (tx n0)),some (.str (tx n1)),some (.str (tx n2)),some (.str (tx n3)),some (.str (tx cw)),some (.int far),none]=σ0:=⟨_,rfl⟩;have z3:∀ x,(σ0.set 9 x)[3]? = some (some (.str (tx n0))):=fun x=>by rw[← hσ];rfl
 have z4:∀ x,(σ0.set 9 x)[4]? = some (some (.str (tx n1))):=fun x=>by rw[← hσ];rfl
 have z5:∀ x,(σ0.set 9 x)[5]? = some (some (.str (tx n2))):=fun x=>by rw[← hσ];rfl
 have z6:∀ x,(σ0.set 9 x)[6]? = some (some (.str (tx n3))):=fun x=>by rw[← hσ];rfl
 have z7:∀ x,(σ0.set 9 x)[7]? = some (some (.str (tx cw))):=fun x=>by rw[← hσ];rfl
 have z8:∀ x,(σ0.set 9 x)[8]? = some (some (.int far)):=fun x=>by rw[← hσ];rfl
 have z9:∀ x,(σ0.set 9 x)[9]? = some x:=fun x=>by rw[← hσ];rfl
 have hs9:[some (V.ref l),some (.ref lv),some (.int c),some (.str (tx n0)),some (.str (tx n1)),some (.str (tx n2)),some (.str (tx n3)),some (.str (tx cw)),some (.int far),none]=σ0.set 9 none:=by rw[← hσ];rfl
 clear hσ
 refine xh (i:=9) (σ:=σ0) (o:=none) ?ee (es:=[(cB (tFc "plain " (tFv (bO 6) (tFc " 41 0" tFn))),"level"),(cB (tFc "plain " (tFv (bO 6) (tFc " -1 0" tFn))),"level"),(cB (tFc "part " (tFv (bO 6) (tFc " " (tFv (bO 3) (tFc " " (tFv (bO 7) tFn)))))),"code")]) (ys:=[tx ([112,108,97,105,110,32]++(n3++([32,52,49,32,48]++[]))),tx ([112,108,97,105,110,32]++(n3++([32,45,49,32,48]++[]))),tx ([112,97,114,116,32]++(n3++([32]++(n0++([32]++(cw++[]))))))]) (zs:=[(tx ([112,108,97,105,110,32]++(n3++([32,52,49,32,48]++[]))),"level"),(tx ([112,108,97,105,110,32]++(n3++([32,45,49,32,48]++[]))),"level"),(tx ([112,97,114,116,32]++(n3++([32]++(n0++([32]++(cw++[])))))),"code")]) (.cons (fun _=>cQ (f_c (w:=[112,108,97,105,110,32]) (by decide +kernel) (f_v (w:=n3) (fun _ r=>⟨_,z6 _,r⟩) s3 (f_c (w:=[32,52,49,32,48]) (by decide +kernel) cR))) (by simp only[B3,B5,List.length_nil];omega)) (.cons (fun _=>cQ (f_c (w:=[112,108,97,105,110,32]) (by decide +kernel) (f_v (w:=n3) (fun _ r=>⟨_,z6 _,r⟩) s3 (f_c (w:=[32,45,49,32,48]) (by decide +kernel) cR))) (by simp only[B3,B5,List.length_nil];omega)) (.cons (fun _=>cQ (f_c (w:=[112,97,114,116,32]) (by decide +kernel) (f_v (w:=n3) (fun _ r=>⟨_,z6 _,r⟩) s3 (f_c (w:=[32]) (by decide +kernel) (f_v (w:=n0) (fun _ r=>⟨_,z3 _,r⟩) s0 (f_c (w:=[32]) (by decide +kernel) (f_v (w:=cw) (fun _ r=>⟨_,z7 _,r⟩) sc cR)))))) (by simp only[B3,B5,List.length_nil];omega)) .nil))) rfl (Cb rfl) fun l1 ps1 A1 g1 u1 t1 =>?_
 case ee=>exact hs9
 refine h_ (σ:=σ0) (i:=9) (z9 _) u1 t1 (es:=[(cB (tFc "window " (tFv (bO 6) (tFc " " (tFv (bO 3) (tFc " 0 0 7 0" tFn))))),"level"),(cB (tFc "window " (tFv (bO 6) (tFc " " (tFv (bO 5) (tFc " 0 0 1 0" tFn))))),"level")]) (ys:=[tx ([119,105,110,100,111,119,32]++(n3++([32]++(n0++([32,48,32,48,32,55,32,48]++[]))))),tx ([119,105,110,100,111,119,32]++(n3++([32]++(n2++([32,48,32,48,32,49,32,48]++[])))))]) (zs':=[(tx ([112,108,97,105,110,32]++(n3++([32,52,49,32,48]++[]))),"level"),(tx ([112,108,97,105,110,32]++(n3++([32,45,49,32,48]++[]))),"level"),(tx ([112,97,114,116,32]++(n3++([32]++(n0++([32]++(cw++[])))))),"code"),(tx ([119,105,110,100,111,119,32]++(n3++([32]++(n0++([32,48,32,48,32,55,32,48]++[]))))),"level"),(tx ([119,105,110,100,111,119,32]++(n3++([32]++(n2++([32,48,32,48,32,49,32,48]++[]))))),"level")]) (.cons (fun _=>cQ (f_c (w:=[119,105,110,100,111,119,32]) (by decide +kernel) (f_v (w:=n3) (fun _ r=>⟨_,z6 _,r⟩) s3 (f_c (w:=[32]) (by decide +kernel) (f_v (w:=n0) (fun _ r=>⟨_,z3 _,r⟩) s0 (f_c (w:=[32,48,32,48,32,55,32,48]) (by decide +kernel) cR))))) (by simp only[B3,B5,List.length_nil];omega)) (.cons (fun _=>cQ (f_c (w:=[119,105,110,100,111,119,32]) (by decide +kernel) (f_v (w:=n3) (fun _ r=>⟨_,z6 _,r⟩) s3 (f_c (w:=[32]) (by decide +kernel) (f_v (w:=n2) (fun _ r=>⟨_,z5 _,r⟩) s2 (f_c (w:=[32,48,32,48,32,49,32,48]) (by decide +kernel) cR))))) (by simp only[B3,B5,List.length_nil];omega)) .nil)) rfl (Cb rfl) fun l2 ps2 A2 gn u2 t2 =>?_
 have g2:=g1.trans gn
 clear u1 t1
 refine h_ (σ:=σ0) (i:=9) (z9 _) u2 t2 (es:=[(cB (tFc "over " (tFv (bO 6) (tFc " " (tFv (bO 3) (tFc " " (tFv (bO 4) (tFc " 0" tFn))))))),"level"),(cB (tFc "paint " (tFv (bO 3) (tFc " " (tFv (bO 7) (tFc " 5" tFn))))),"code")]) (ys:=[tx ([111,118,101,114,32]++(n3++([32]++(n0++([32]++(n1++([32,48]++[]))))))),tx ([112,97,105,110,116,32]++(n0++([32]++(cw++([32,53]++[])))))]) (zs':=[(tx ([112,108,97,105,110,32]++(n3++([32,52,49,32,48]++[]))),"level"),(tx ([112,108,97,105,110,32]++(n3++([32,45,49,32,48]++[]))),"level"),(tx ([112,97,114,116,32]++(n3++([32]++(n0++([32]++(cw++[])))))),"code"),(tx ([119,105,110,100,111,119,32]++(n3++([32]++(n0++([32,48,32,48,32,55,32,48]++[]))))),"level"),(tx ([119,105,110,100,111,119,32]++(n3++([32]++(n2++([32,48,32,48,32,49,32,48]++[]))))),"level"),(tx ([111,118,101,114,32]++(n3++([32]++(n0++([32]++(n1++([32,48]++[]))))))),"level"),(tx ([112,97,105,110,116,32]++(n0++([32]++(cw++([32,53]++[]))))),"code")]) (.cons (fun _=>cQ (f_c (w:=[111,118,101,114,32]) (by decide +kernel) (f_v (w:=n3) (fun _ r=>⟨_,z6 _,r⟩) s3 (f_c (w:=[32]) (by decide +kernel) (f_v (w:=n0) (fun _ r=>⟨_,z3 _,r⟩) s0 (f_c (w:=[32]) (by decide +kernel) (f_v (w:=n1) (fun _ r=>⟨_,z4 _,r⟩) s1 (f_c (w:=[32,48]) (by decide +kernel) cR))))))) (by simp only[B3,B5,List.length_nil];omega)) (.cons (fun _=>cQ (f_c (w:=[112,97,105,110,116,32]) (by decide +kernel) (f_v (w:=n0) (fun _ r=>⟨_,z3 _,r⟩) s0 (f_c (w:=[32]) (by decide +kernel) (f_v (w:=cw) (fun _ r=>⟨_,z7 _,r⟩) sc (f_c (w:=[32,53]) (by decide +kernel) cR))))) (by simp only[B3,B5,List.length_nil];omega)) .nil)) rfl (Cb rfl) fun l3 ps3 A3 gn u3 t3 =>?_
 have g3:=g2.trans gn
 clear u2 t2
 refine h_ (σ:=σ0) (i:=9) (z9 _) u3 t3 (es:=[(cB (tFc "put " (tFv (bO 3) (tFc " - " (tFv (bO 4) tFn)))),"level"),(cB (tFc "put " (tFv (bO 3) (tFc " " (tFv (bO 7) (tFc " " (tFv (bO 4) tFn)))))),"code")]) (ys:=[tx ([112,117,116,32]++(n0++([32,45,32]++(n1++[])))),tx ([112,117,116,32]++(n0++([32]++(cw++([32]++(n1++[]))))))]) (zs':=[(tx ([112,108,97,105,110,32]++(n3++([32,52,49,32,48]++[]))),"level"),(tx ([112,108,97,105,110,32]++(n3++([32,45,49,32,48]++[]))),"level"),(tx ([112,97,114,116,32]++(n3++([32]++(n0++([32]++(cw++[])))))),"code"),(tx ([119,105,110,100,111,119,32]++(n3++([32]++(n0++([32,48,32,48,32,55,32,48]++[]))))),"level"),(tx ([119,105,110,100,111,119,32]++(n3++([32]++(n2++([32,48,32,48,32,49,32,48]++[]))))),"level"),(tx ([111,118,101,114,32]++(n3++([32]++(n0++([32]++(n1++([32,48]++[]))))))),"level"),(tx ([112,97,105,110,116,32]++(n0++([32]++(cw++([32,53]++[]))))),"code"),(tx ([112,117,116,32]++(n0++([32,45,32]++(n1++[])))),"level"),(tx ([112,117,116,32]++(n0++([32]++(cw++([32]++(n1++[])))))),"code")]) (.cons (fun _=>cQ (f_c (w:=[112,117,116,32]) (by decide +kernel) (f_v (w:=n0) (fun _ r=>⟨_,z3 _,r⟩) s0 (f_c (w:=[32,45,32]) (by decide +kernel) (f_v (w:=n1) (fun _ r=>⟨_,z4 _,r⟩) s1 cR)))) (by simp only[B3,B5,List.length_nil];omega)) (.cons (fun _=>cQ (f_c (w:=[112,117,116,32]) (by decide +kernel) (f_v (w:=n0) (fun _ r=>⟨_,z3 _,r⟩) s0 (f_c (w:=[32]) (by decide +kernel) (f_v (w:=cw) (fun _ r=>⟨_,z7 _,r⟩) sc (f_c (w:=[32]) (by decide +kernel) (f_v (w:=n1) (fun _ r=>⟨_,z4 _,r⟩) s1 cR)))))) (by simp only[B3,B5,List.length_nil];omega)) .nil)) rfl (Cb rfl) fun l4 ps4 A4 gn u4 t4 =>?_
 have g4:=g3.trans gn
 clear u3 t3
 refine h_ (σ:=σ0) (i:=9) (z9 _) u4 t4 (es:=[(cB (tFc "lay " (tFv (bO 5) (tFc " 0 0 " (tFv (bO 3) tFn)))),"level"),(cB (tFc "lay " (tFv (bO 3) (tFc " 0 0 " (tFv (bO 5) tFn)))),"level")]) (ys:=[tx ([108,97,121,32]++(n2++([32,48,32,48,32]++(n0++[])))),tx ([108,97,121,32]++(n0++([32,48,32,48,32]++(n2++[]))))]) (zs':=[(tx ([112,108,97,105,110,32]++(n3++([32,52,49,32,48]++[]))),"level"),(tx ([112,108,97,105,110,32]++(n3++([32,45,49,32,48]++[]))),"level"),(tx ([112,97,114,116,32]++(n3++([32]++(n0++([32]++(cw++[])))))),"code"),(tx ([119,105,110,100,111,119,32]++(n3++([32]++(n0++([32,48,32,48,32,55,32,48]++[]))))),"level"),(tx ([119,105,110,100,111,119,32]++(n3++([32]++(n2++([32,48,32,48,32,49,32,48]++[]))))),"level"),(tx ([111,118,101,114,32]++(n3++([32]++(n0++([32]++(n1++([32,48]++[]))))))),"level"),(tx ([112,97,105,110,116,32]++(n0++([32]++(cw++([32,53]++[]))))),"code"),(tx ([112,117,116,32]++(n0++([32,45,32]++(n1++[])))),"level"),(tx ([112,117,116,32]++(n0++([32]++(cw++([32]++(n1++[])))))),"code"),(tx ([108,97,121,32]++(n2++([32,48,32,48,32]++(n0++[])))),"level"),(tx ([108,97,121,32]++(n0++([32,48,32,48,32]++(n2++[])))),"level")]) (.cons (fun _=>cQ (f_c (w:=[108,97,121,32]) (by decide +kernel) (f_v (w:=n2) (fun _ r=>⟨_,z5 _,r⟩) s2 (f_c (w:=[32,48,32,48,32]) (by decide +kernel) (f_v (w:=n0) (fun _ r=>⟨_,z3 _,r⟩) s0 cR)))) (by simp only[B3,B5,List.length_nil];omega)) (.cons (fun _=>cQ (f_c (w:=[108,97,121,32]) (by decide +kernel) (f_v (w:=n0) (fun _ r=>⟨_,z3 _,r⟩) s0 (f_c (w:=[32,48,32,48,32]) (by decide +kernel) (f_v (w:=n2) (fun _ r=>⟨_,z5 _,r⟩) s2 cR)))) (by simp only[B3,B5,List.length_nil];omega)) .nil)) rfl (Cb rfl) fun l5 ps5 A5 gn u5 t5 =>?_
 have g5:=g4.trans gn
 clear u4 t4
 refine h_ (σ:=σ0) (i:=9) (z9 _) u5 t5 (es:=[(cB (tFc "finer " (tFv (bO 3) (tFc " 40" tFn))),"level"),(cB (tFc "finer " (tFv (bO 3) (tFc " -1" tFn))),"level"),(cB (tFc "coarser " (tFv (bO 3) (tFc " 7" tFn))),"level")]) (ys:=[tx ([102,105,110,101,114,32]++(n0++([32,52,48]++[]))),tx ([102,105,110,101,114,32]++(n0++([32,45,49]++[]))),tx ([99,111,97,114,115,101,114,32]++(n0++([32,55]++[])))]) (zs':=[(tx ([112,108,97,105,110,32]++(n3++([32,52,49,32,48]++[]))),"level"),(tx ([112,108,97,105,110,32]++(n3++([32,45,49,32,48]++[]))),"level"),(tx ([112,97,114,116,32]++(n3++([32]++(n0++([32]++(cw++[])))))),"code"),(tx ([119,105,110,100,111,119,32]++(n3++([32]++(n0++([32,48,32,48,32,55,32,48]++[]))))),"level"),(tx ([119,105,110,100,111,119,32]++(n3++([32]++(n2++([32,48,32,48,32,49,32,48]++[]))))),"level"),(tx ([111,118,101,114,32]++(n3++([32]++(n0++([32]++(n1++([32,48]++[]))))))),"level"),(tx ([112,97,105,110,116,32]++(n0++([32]++(cw++([32,53]++[]))))),"code"),(tx ([112,117,116,32]++(n0++([32,45,32]++(n1++[])))),"level"),(tx ([112,117,116,32]++(n0++([32]++(cw++([32]++(n1++[])))))),"code"),(tx ([108,97,121,32]++(n2++([32,48,32,48,32]++(n0++[])))),"level"),(tx ([108,97,121,32]++(n0++([32,48,32,48,32]++(n2++[])))),"level"),(tx ([102,105,110,101,114,32]++(n0++([32,52,48]++[]))),"level"),(tx ([102,105,110,101,114,32]++(n0++([32,45,49]++[]))),"level"),(tx ([99,111,97,114,115,101,114,32]++(n0++([32,55]++[]))),"level")]) (.cons (fun _=>cQ (f_c (w:=[102,105,110,101,114,32]) (by decide +kernel) (f_v (w:=n0) (fun _ r=>⟨_,z3 _,r⟩) s0 (f_c (w:=[32,52,48]) (by decide +kernel) cR))) (by simp only[B3,B5,List.length_nil];omega)) (.cons (fun _=>cQ (f_c (w:=[102,105,110,101,114,32]) (by decide +kernel) (f_v (w:=n0) (fun _ r=>⟨_,z3 _,r⟩) s0 (f_c (w:=[32,45,49]) (by decide +kernel) cR))) (by simp only[B3,B5,List.length_nil];omega)) (.cons (fun _=>cQ (f_c (w:=[99,111,97,114,115,101,114,32]) (by decide +kernel) (f_v (w:=n0) (fun _ r=>⟨_,z3 _,r⟩) s0 (f_c (w:=[32,55]) (by decide +kernel) cR))) (by simp only[B3,B5,List.length_nil];omega)) .nil))) rfl (Cb rfl) fun l6 ps6 A6 gn u6 t6 =>?_
 have g6:=g5.trans gn
 clear u5 t5
 refine h_ (σ:=σ0) (i:=9) (z9 _) u6 t6 (es:=[(cB (tFc "at " (tFv (bO 3) (tFc " " (tFv (bO 8) (tFc " 0" tFn))))),"place"),(cB (tFc "at " (tFv (bO 3) (tFc " 0 " (tFv (bO 8) tFn)))),"place"),(cB (tFc "rings " (tFv (bO 3) (tFc " 0 " (tFv (bO 8) tFn)))),"place")]) (ys:=[tx ([97,116,32]++(n0++([32]++(wf++([32,48]++[]))))),tx ([97,116,32]++(n0++([32,48,32]++(wf++[])))),tx ([114,105,110,103,115,32]++(n0++([32,48,32]++(wf++[]))))]) (zs':=[(tx ([112,108,97,105,110,32]++(n3++([32,52,49,32,48]++[]))),"level"),(tx ([112,108,97,105,110,32]++(n3++([32,45,49,32,48]++[]))),"level"),(tx ([112,97,114,116,32]++(n3++([32]++(n0++([32]++(cw++[])))))),"code"),(tx ([119,105,110,100,111,119,32]++(n3++([32]++(n0++([32,48,32,48,32,55,32,48]++[]))))),"level"),(tx ([119,105,110,100,111,119,32]++(n3++([32]++(n2++([32,48,32,48,32,49,32,48]++[]))))),"level"),(tx ([111,118,101,114,32]++(n3++([32]++(n0++([32]++(n1++([32,48]++[]))))))),"level"),(tx ([112,97,105,110,116,32]++(n0++([32]++(cw++([32,53]++[]))))),"code"),(tx ([112,117,116,32]++(n0++([32,45,32]++(n1++[])))),"level"),(tx ([112,117,116,32]++(n0++([32]++(cw++([32]++(n1++[])))))),"code"),(tx ([108,97,121,32]++(n2++([32,48,32,48,32]++(n0++[])))),"level"),(tx ([108,97,121,32]++(n0++([32,48,32,48,32]++(n2++[])))),"level"),(tx ([102,105,110,101,114,32]++(n0++([32,52,48]++[]))),"level"),(tx ([102,105,110,101,114,32]++(n0++([32,45,49]++[]))),"level"),(tx ([99,111,97,114,115,101,114,32]++(n0++([32,55]++[]))),"level"),(tx ([97,116,32]++(n0++([32]++(wf++([32,48]++[]))))),"place"),(tx ([97,116,32]++(n0++([32,48,32]++(wf++[])))),"place"),(tx ([114,105,110,103,115,32]++(n0++([32,48,32]++(wf++[])))),"place")]) (.cons (fun _=>cQ (f_c (w:=[97,116,32]) (by decide +kernel) (f_v (w:=n0) (fun _ r=>⟨_,z3 _,r⟩) s0 (f_c (w:=[32]) (by decide +kernel) (f_v (w:=wf) (fun _ r=>⟨_,z8 _,r⟩) sf (f_c (w:=[32,48]) (by decide +kernel) cR))))) (by simp only[B3,B5,List.length_nil];omega)) (.cons (fun _=>cQ (f_c (w:=[97,116,32]) (by decide +kernel) (f_v (w:=n0) (fun _ r=>⟨_,z3 _,r⟩) s0 (f_c (w:=[32,48,32]) (by decide +kernel) (f_v (w:=wf) (fun _ r=>⟨_,z8 _,r⟩) sf cR)))) (by simp only[B3,B5,List.length_nil];omega)) (.cons (fun _=>cQ (f_c (w:=[114,105,110,103,115,32]) (by decide +kernel) (f_v (w:=n0) (fun _ r=>⟨_,z3 _,r⟩) s0 (f_c (w:=[32,48,32]) (by decide +kernel) (f_v (w:=wf) (fun _ r=>⟨_,z8 _,r⟩) sf cR)))) (by simp only[B3,B5,List.length_nil];omega)) .nil))) rfl (Cb rfl) fun l7 ps7 A7 gn u7 t7 =>?_
 have g7:=g6.trans gn
 clear u6 t6
 refine yp (i:=9) (z9 _) u7 t7 (es:=[(cB (tFc "steps " (tFv (bO 3) (tFc " 0 0 " (tFv (bO 8) (tFc " 0" tFn))))),"place"),(cB (tFc "beyond " (tFv (bO 3) (tFc " " (tFv (bO 7) (tFc " up" tFn))))),"leaf")]) (ys:=[tx ([115,116,101,112,115,32]++(n0++([32,48,32,48,32]++(wf++([32,48]++[]))))),tx ([98,101,121,111,110,100,32]++(n0++([32]++(cw++([32,117,112]++[])))))]) (zs':=[(tx ([112,108,97,105,110,32]++(n3++([32,52,49,32,48]++[]))),"level"),(tx ([112,108,97,105,110,32]++(n3++([32,45,49,32,48]++[]))),"level"),(tx ([112,97,114,116,32]++(n3++([32]++(n0++([32]++(cw++[])))))),"code"),(tx ([119,105,110,100,111,119,32]++(n3++([32]++(n0++([32,48,32,48,32,55,32,48]++[]))))),"level"),(tx ([119,105,110,100,111,119,32]++(n3++([32]++(n2++([32,48,32,48,32,49,32,48]++[]))))),"level"),(tx ([111,118,101,114,32]++(n3++([32]++(n0++([32]++(n1++([32,48]++[]))))))),"level"),(tx ([112,97,105,110,116,32]++(n0++([32]++(cw++([32,53]++[]))))),"code"),(tx ([112,117,116,32]++(n0++([32,45,32]++(n1++[])))),"level"),(tx ([112,117,116,32]++(n0++([32]++(cw++([32]++(n1++[])))))),"code"),(tx ([108,97,121,32]++(n2++([32,48,32,48,32]++(n0++[])))),"level"),(tx ([108,97,121,32]++(n0++([32,48,32,48,32]++(n2++[])))),"level"),(tx ([102,105,110,101,114,32]++(n0++([32,52,48]++[]))),"level"),(tx ([102,105,110,101,114,32]++(n0++([32,45,49]++[]))),"level"),(tx ([99,111,97,114,115,101,114,32]++(n0++([32,55]++[]))),"level"),(tx ([97,116,32]++(n0++([32]++(wf++([32,48]++[]))))),"place"),(tx ([97,116,32]++(n0++([32,48,32]++(wf++[])))),"place"),(tx ([114,105,110,103,115,32]++(n0++([32,48,32]++(wf++[])))),"place"),(tx ([115,116,101,112,115,32]++(n0++([32,48,32,48,32]++(wf++([32,48]++[]))))),"place"),(tx ([98,101,121,111,110,100,32]++(n0++([32]++(cw++([32,117,112]++[]))))),"leaf")]) (.cons (fun _=>cQ (f_c (w:=[115,116,101,112,115,32]) (by decide +kernel) (f_v (w:=n0) (fun _ r=>⟨_,z3 _,r⟩) s0 (f_c (w:=[32,48,32,48,32]) (by decide +kernel) (f_v (w:=wf) (fun _ r=>⟨_,z8 _,r⟩) sf (f_c (w:=[32,48]) (by decide +kernel) cR))))) (by simp only[B3,B5,List.length_nil];omega)) (.cons (fun _=>cQ (f_c (w:=[98,101,121,111,110,100,32]) (by decide +kernel) (f_v (w:=n0) (fun _ r=>⟨_,z3 _,r⟩) s0 (f_c (w:=[32]) (by decide +kernel) (f_v (w:=cw) (fun _ r=>⟨_,z7 _,r⟩) sc (f_c (w:=[32,117,112]) (by decide +kernel) cR))))) (by simp only[B3,B5,List.length_nil];omega)) .nil)) rfl (Cb rfl) fun l8 ps8 A8 gn u8 t8 =>?_
 have g8:=g7.trans gn
 clear u7 t7
 exact q' l8 ps8 _ A8 (sF.trans g8) u8 t8 rfl (vm hN h0 h1 h2 hc lz hf)
end
theorem l_:∀ (n:Nat) (t:Tr) (r:List Nat),bh n t→rdT n (wr t++r)=some (t,r)
 | n,.col i,r,g=>by
  have g':0≤i∧i≤35:=by cases n<;>exact g
  obtain⟨c,rfl⟩:∃ c:Nat,i=(c:Int):=⟨i.toNat,by omega⟩;show rdT n (cp (c:Int).toNat::r)=_;rw[CL];exact jg (rz c (by omega)) r n
 | 0,.four ..,_,g=>g.elim
 | n + 1,.four a b c d,r,⟨ha,hb,hc,hd,ho⟩=>by
  have h1:=fj (rdT n) (k:=0) (w:=wr a++(wr b++(wr c++(wr d++r)))) rfl (l_ n a _ ha);have h2:=fj _ h1 (l_ n b _ hb);have h3:=fj _ h2 (l_ n c _ hc);have h4:=fj _ h3 (l_ n d _ hd);have e:wr (.four a b c d)++r=43::(wr a++(wr b++(wr c++(wr d++r)))):=by simp[wr]
  rw[e,jh,h4];show some (fz a b c d,r)=_;rw[yx ho]
theorem pP:∀ (n:Nat) (t:Tr),bh n t→∀ c∈wr t,33≤c∧c≤122
 | n,.col i,g,c,h=>by
  have g':0≤i∧i≤35:=by cases n<;>exact g
  rw[CA.mp (show c∈[cp i.toNat] from h)];unfold cp
  split<;>omega
 | 0,.four ..,g,_,_=>g.elim
 | n + 1,.four a b c d,⟨ha,hb,hc,hd,_⟩,e,h=>by
  have h':e∈43::(wr a++(wr b++(wr c++wr d))):=h;simp only[B6,Cm]at h';rcases h' with h | h | h | h | h
  ·omega
  ·exact pP n a ha e h
  ·exact pP n b hb e h
  ·exact pP n c hc e h
  ·exact pP n d hd e h
theorem vQ {n:Nat}{t:Tr}(g:bh n t)(hn:n≤40):∀ c∈lv n++58::wr t,33≤c∧c≤122:=fun c h=>by
 simp only[Cm,B6]at h;rcases h with h | h | h
 ·have:=wT n (by omega) c h
  omega
 ·omega
 ·exact pP n t g c h
theorem vR {n:Nat}{t:Tr}(g:bh n t)(hn:n≤40):32∉lv n++58::wr t:=fun z=>by
 have:=vQ g hn 32 z
 omega
theorem zj {n:Nat}{t:Tr}(g:bh n t)(hn:n≤40):PyData.strOk (tx (lv n++58::wr t))=true:=by
 unfold PyData.strOk;rw[← Array.all_toList,br,CC];intro c h
 have:=vQ g hn c h
 exact B8 (by omega)
theorem yP (i:Nat):PyData.strOk (wdI i)=true:=by
 unfold wdI
 split<;>decide +kernel
theorem zv {n:Nat}{t:Tr}(g:bh n t)(hn:n≤40):rdS (lv n++58::wr t)=some (n,t):=by
 have h0:=yq (n:=n) (by omega);unfold rdS;cases e:mK (lv n++58::wr t) with
 | none=>exact absurd (by simp) (mJ e)
 | some ab =>
  obtain⟨a,b⟩:=ab;obtain⟨e1,e2⟩:=mI e;obtain⟨rfl,rfl⟩:=qQ h0 e2 e1
  have:=l_ n t [] g
  rw[CJ]at this;simp only[wU hn,this]
theorem nr:bootBuiltins "ValueError" = some (.type "ValueError"):=by decide +kernel
theorem sv {v:V}:List.lookup ("say" : Str) [("kept",v)]=none:=by
 rw[C5,show (("say" : Str) == "kept")=false by decide +kernel]
 rfl
def bls (i:Nat):List V:=(List.range 12).map fun j=>.bl (decide (i=j))
theorem Ar {i k:Nat}{v:V}(hk:k < i)(hv:(bls i)[k]? = some v):eqV v (.bl true)=false:=by
 unfold bls at hv;rw[CK]at hv;obtain⟨j,hj,rfl⟩:=C4.mp hv;have e:k=j:=by
  have:=Ck.mp hj
  obtain⟨_,h⟩:=this;simpa using h
 rw[Cg (by omega)];rfl
theorem As:∀ i∈ixs,(bls i)[i]? = some (.bl true):=by
 intro i hi;simp only[ixs,B6,Cc,or_false]at hi;rcases hi with rfl | rfl | rfl | rfl | rfl | rfl | rfl | rfl | rfl | rfl<;>rfl
theorem yH:∀ i∈ixs,((bls i).countP fun z=>eqV z (.bl true))=1:=by
 intro i hi;simp only[ixs,B6,Cc,or_false]at hi;rcases hi with rfl | rfl | rfl | rfl | rfl | rfl | rfl | rfl | rfl | rfl<;>rfl
def wds:List V:=[.str "level",.str "code",.str "colour",.str "place",.str "side",.str "leaf",.str "twice",.str "gap",.str "text",.str "name",.str "number",.str "row"]
theorem zg:∀ i∈ixs,atI wds (i:Int)=some (.str (wdI i)):=by
 intro i hi;simp only[ixs,B6,Cc,or_false]at hi;rcases hi with rfl | rfl | rfl | rfl | rfl | rfl | rfl | rfl | rfl | rfl<;>rfl
def qY {K:PySem.W.Frag}{mg:Str→Option Value}(Y:Yx K mg)(H:Hp)(D:List (List Nat × V))(row:V)(i:Nat):Prop:=(i=11∧kg K H row) ∨
 ∃ w0 ws ks,row=.str (tx (glu (w0::ws)))∧g_ (w0::ws)∧dF w0 ks∧ws.length=ks.length∧(pM Y D ks ws (Yc Y i)∨∃ dn gs,w0=Dn.nm dn∧kU D ks ws (gs.map .v)∧b_ Y H dn gs (Yc Y i))
section
variable {P:Program}{w:World}{K:PySem.W.Frag}{mg:Str→Option Value}{base:Heap}{CX:CXT}{f:Addr}{fd:FuncData}{C:Addr}
theorem kg.up {H H':Hp}{row:V}(s:al H H')(h:kg K H row):kg K H' row:=by
 rcases h with⟨ty,h1,h2⟩|h
 ·exact .inl ⟨ty,fg.up s h1,h2⟩
 ·exact .inr h
theorem qY.up {Y:Yx K mg}{H H':Hp}{D:List (List Nat × V)}{row:V}{i:Nat}(s:al H H')(h:qY Y H D row i):qY Y H' D row i:=by
 rcases h with⟨e,h⟩|⟨w0,ws,ks,h1,h2,h3,h4,h5|⟨dn,gs,h5,h6,h7⟩⟩
 ·exact .inl ⟨e,h.up s⟩
 ·exact .inr ⟨w0,ws,ks,h1,h2,h3,h4,.inl h5⟩
 ·exact .inr ⟨w0,ws,ks,h1,h2,h3,h4,.inr ⟨dn,gs,h5,h6,h7.up s⟩⟩
theorem yO (Y:Yx K mg):∀ i∈ixs,jG K (Yc Y i)∧PySem.W.kitOne K (.ref (Yc Y i)) (.type "ValueError")=some true∧PySem.W.exmOne K (.ref (Yc Y i)) (.ref Y.c_SheetError)=some true∧PySem.W.kitOne K (.ref (Yc Y i)) (.ref Y.c_NoLevel)=some (decide (i=0))∧PySem.W.kitOne K (.ref (Yc Y i)) (.ref Y.c_NoCode)=some (decide (i=1))∧PySem.W.kitOne K (.ref (Yc Y i)) (.ref Y.c_NoColour)=some (decide (i=2))∧PySem.W.kitOne K (.ref (Yc Y i)) (.ref Y.c_NoPlace)=some (decide (i=3))∧PySem.W.kitOne K (.ref (Yc Y i)) (.ref Y.c_NoSide)=some (decide (i=4))∧PySem.W.kitOne K (.ref (Yc Y i)) (.ref Y.c_NoLeaf)=some (decide (i=5))∧PySem.W.kitOne K (.ref (Yc Y i)) (.ref Y.c_Twice)=some (decide (i=6))∧PySem.W.kitOne K (.ref (Yc Y i)) (.ref Y.c_Gap)=some (decide (i=7))∧PySem.W.kitOne K (.ref (Yc Y i)) (.ref Y.c_NoText)=some (decide (i=8))∧PySem.W.kitOne K (.ref (Yc Y i)) (.ref Y.c_NoName)=some (decide (i=9))∧PySem.W.kitOne K (.ref (Yc Y i)) (.ref Y.c_NoNumber)=some (decide (i=10))∧PySem.W.kitOne K (.ref (Yc Y i)) (.ref Y.c_NoRow)=some (decide (i=11)):=by
 intro i hi;simp only[ixs,B6,Cc,or_false]at hi;rcases hi with rfl | rfl | rfl | rfl | rfl | rfl | rfl | rfl | rfl | rfl
 ·exact⟨Y.k_NoLevel,Y.v_NoLevel,Y.s_NoLevel,cP,Y.t_NoLevel_NoCode,Y.t_NoLevel_NoColour,Y.t_NoLevel_NoPlace,Y.t_NoLevel_NoSide,Y.t_NoLevel_NoLeaf,Y.t_NoLevel_Twice,Y.t_NoLevel_Gap,Y.t_NoLevel_NoText,Y.t_NoLevel_NoName,Y.t_NoLevel_NoNumber,Y.t_NoLevel_NoRow⟩
 ·exact⟨Y.k_NoCode,Y.v_NoCode,Y.s_NoCode,Y.t_NoCode_NoLevel,cP,Y.t_NoCode_NoColour,Y.t_NoCode_NoPlace,Y.t_NoCode_NoSide,Y.t_NoCode_NoLeaf,Y.t_NoCode_Twice,Y.t_NoCode_Gap,Y.t_NoCode_NoText,Y.t_NoCode_NoName,Y.t_NoCode_NoNumber,Y.t_NoCode_NoRow⟩
 ·exact⟨Y.k_NoColour,Y.v_NoColour,Y.s_NoColour,Y.t_NoColour_NoLevel,Y.t_NoColour_NoCode,cP,Y.t_NoColour_NoPlace,Y.t_NoColour_NoSide,Y.t_NoColour_NoLeaf,Y.t_NoColour_Twice,Y.t_NoColour_Gap,Y.t_NoColour_NoText,Y.t_NoColour_NoName,Y.t_NoColour_NoNumber,Y.t_NoColour_NoRow⟩
 ·exact⟨Y.k_NoPlace,Y.v_NoPlace,Y.s_NoPlace,Y.t_NoPlace_NoLevel,Y.t_NoPlace_NoCode,Y.t_NoPlace_NoColour,cP,Y.t_NoPlace_NoSide,Y.t_NoPlace_NoLeaf,Y.t_NoPlace_Twice,Y.t_NoPlace_Gap,Y.t_NoPlace_NoText,Y.t_NoPlace_NoName,Y.t_NoPlace_NoNumber,Y.t_NoPlace_NoRow⟩
 ·exact⟨Y.k_NoSide,Y.v_NoSide,Y.s_NoSide,Y.t_NoSide_NoLevel,Y.t_NoSide_NoCode,Y.t_NoSide_NoColour,Y.t_NoSide_NoPlace,cP,Y.t_NoSide_NoLeaf,Y.t_NoSide_Twice,Y.t_NoSide_Gap,Y.t_NoSide_NoText,Y.t_NoSide_NoName,Y.t_NoSide_NoNumber,Y.t_NoSide_NoRow⟩
 ·exact⟨Y.k_NoLeaf,Y.v_NoLeaf,Y.s_NoLeaf,Y.t_NoLeaf_NoLevel,Y.t_NoLeaf_NoCode,Y.t_NoLeaf_NoColour,Y.t_NoLeaf_NoPlace,Y.t_NoLeaf_NoSide,cP,Y.t_NoLeaf_Twice,Y.t_NoLeaf_Gap,Y.t_NoLeaf_NoText,Y.t_NoLeaf_NoName,Y.t_NoLeaf_NoNumber,Y.t_NoLeaf_NoRow⟩
 ·exact⟨Y.k_NoText,Y.v_NoText,Y.s_NoText,Y.t_NoText_NoLevel,Y.t_NoText_NoCode,Y.t_NoText_NoColour,Y.t_NoText_NoPlace,Y.t_NoText_NoSide,Y.t_NoText_NoLeaf,Y.t_NoText_Twice,Y.t_NoText_Gap,cP,Y.t_NoText_NoName,Y.t_NoText_NoNumber,Y.t_NoText_NoRow⟩
 ·exact⟨Y.k_NoName,Y.v_NoName,Y.s_NoName,Y.t_NoName_NoLevel,Y.t_NoName_NoCode,Y.t_NoName_NoColour,Y.t_NoName_NoPlace,Y.t_NoName_NoSide,Y.t_NoName_NoLeaf,Y.t_NoName_Twice,Y.t_NoName_Gap,Y.t_NoName_NoText,cP,Y.t_NoName_NoNumber,Y.t_NoName_NoRow⟩
 ·exact⟨Y.k_NoNumber,Y.v_NoNumber,Y.s_NoNumber,Y.t_NoNumber_NoLevel,Y.t_NoNumber_NoCode,Y.t_NoNumber_NoColour,Y.t_NoNumber_NoPlace,Y.t_NoNumber_NoSide,Y.t_NoNumber_NoLeaf,Y.t_NoNumber_Twice,Y.t_NoNumber_Gap,Y.t_NoNumber_NoText,Y.t_NoNumber_NoName,cP,Y.t_NoNumber_NoRow⟩
 ·exact⟨Y.k_NoRow,Y.v_NoRow,Y.s_NoRow,Y.t_NoRow_NoLevel,Y.t_NoRow_NoCode,Y.t_NoRow_NoColour,Y.t_NoRow_NoPlace,Y.t_NoRow_NoSide,Y.t_NoRow_NoLeaf,Y.t_NoRow_Twice,Y.t_NoRow_Gap,Y.t_NoRow_NoText,Y.t_NoRow_NoName,Y.t_NoRow_NoNumber,cP⟩
abbrev iE:Stmt:=top 163
theorem dL:ap ["_law_e","_law_kinds","_law_words"] ["_law_e"] (ai iE):=⟨rfl,rfl,rfl,by decide +kernel,rfl,by decide +kernel,by decide +kernel⟩
def kl (Y:Yx K mg):Sp:=fun vs H Q _=>∃ (e:Addr) (i:Nat),vs=[.ref e]∧i∈ixs∧H e=some (.ext (mS e (.ref (Yc Y i))))∧∀ H',al H H'→Q (.str (wdI i)) H'
theorem qq (T:Tx K mg)(Y:Yx K mg)(F:aN K "_law_word" "_law_word" iE f fd .none):mR P w K mg base CX 1 f fd ["_law_e"] (kl Y):=by
 refine F.okHs dL (fun vs H Q E h =>?_) (fun cdv A outer s H vs Q E hr h =>?_)
 ·obtain⟨_,_,rfl,_⟩:=h;rfl
 obtain⟨e,i,rfl,hi,he,q'⟩:=h;refine⟨_,(aJ (kZ (i:=1) dL.nd rfl (Or.inl rfl) (bi (ak (PEx.mk (ax (bV (K:=K)) rfl T.b_isinstance ay (aa (pv 0) (aa (bB (v:=.ref _) rfl Y.m_NoLevel rfl) af)))) (ak (PEx.mk (ax (bV (K:=K)) rfl T.b_isinstance ay (aa (pv 0) (aa (bB (v:=.ref _) rfl Y.m_NoCode rfl) af)))) (ak (PEx.mk (ax (bV (K:=K)) rfl T.b_isinstance ay (aa (pv 0) (aa (bB (v:=.ref _) rfl Y.m_NoColour rfl) af)))) (ak (PEx.mk (ax (bV (K:=K)) rfl T.b_isinstance ay (aa (pv 0) (aa (bB (v:=.ref _) rfl Y.m_NoPlace rfl) af)))) am)))))) (aJ (cg (i:=1) dL.nd rfl (Or.inl rfl) (eA cG (PEx.mk (pv 1)) (bi (ak (PEx.mk (ax (bV (K:=K)) rfl T.b_isinstance ay (aa (pv 0) (aa (bB (v:=.ref _) rfl Y.m_NoSide rfl) af)))) (ak (PEx.mk (ax (bV (K:=K)) rfl T.b_isinstance ay (aa (pv 0) (aa (bB (v:=.ref _) rfl Y.m_NoLeaf rfl) af)))) (ak (PEx.mk (ax (bV (K:=K)) rfl T.b_isinstance ay (aa (pv 0) (aa (bB (v:=.ref _) rfl Y.m_Twice rfl) af)))) (ak (PEx.mk (ax (bV (K:=K)) rfl T.b_isinstance ay (aa (pv 0) (aa (bB (v:=.ref _) rfl Y.m_Gap rfl) af)))) am))))))) (aJ (cg (i:=1) dL.nd rfl (Or.inl rfl) (eA cG (PEx.mk (pv 1)) (bi (ak (PEx.mk (ax (bV (K:=K)) rfl T.b_isinstance ay (aa (pv 0) (aa (bB (v:=.ref _) rfl Y.m_NoText rfl) af)))) (ak (PEx.mk (ax (bV (K:=K)) rfl T.b_isinstance ay (aa (pv 0) (aa (bB (v:=.ref _) rfl Y.m_NoName rfl) af)))) (ak (PEx.mk (ax (bV (K:=K)) rfl T.b_isinstance ay (aa (pv 0) (aa (bB (v:=.ref _) rfl Y.m_NoNumber rfl) af)))) (ak (PEx.mk (ax (bV (K:=K)) rfl T.b_isinstance ay (aa (pv 0) (aa (bB (v:=.ref _) rfl Y.m_NoRow rfl) af)))) am))))))) (aJ (PSx.mk (aV (PW.pt (eu (bP (bz (ax (vC (K:=K) "ValueError") rfl T.b_isinstance ay (aa (pv 0) (aa (de T.b_ValueError nr) af))))) (cV (aB jm (dh PySem.F.plainAttrs_list PySem.F.slot_list_count PySem.F.type_list_count wP (pv 1) (aa fw af)) ac (aK _))))) (ag (av ah)) aA)) (aJ (kZ (i:=2) dL.nd rfl (Or.inl rfl) (bi (fU rfl))) (bF (PSx.mk (av (aq ao (pv 2) (dh PySem.F.plainAttrs_list PySem.F.slot_list_index PySem.F.type_list_index uT (pv 1) (aa fw af)) (fun _ _=>rfl)))))))))),?_⟩
 obtain⟨kx,kv,_,k0,k1,k2,k3,k4,k5,k6,k7,k8,k9,k10,k11⟩:=yO Y i hi;refine⟨_,rfl,e,_,_,_,rfl,he,kx,k0,_,rfl,e,_,_,_,rfl,he,kx,k1,_,rfl,e,_,_,_,rfl,he,kx,k2,_,rfl,e,_,_,_,rfl,he,kx,k3,(by show 4≤sizeLine;decide),fun p1 g1 =>?_⟩;generalize e1:upd H p1 _=H1;have s1:al H H1:=e1▸al.new g1 _;have u1:H1 p1=some (.lst [V.bl (decide (i=0)),V.bl (decide (i=1)),V.bl (decide (i=2)),V.bl (decide (i=3))]):=by rw[← e1];exact aj
 refine⟨_,rfl,_,rfl,e,_,_,_,rfl,s1 _ _ he,kx,k4,_,rfl,e,_,_,_,rfl,s1 _ _ he,kx,k5,_,rfl,e,_,_,_,rfl,s1 _ _ he,kx,k6,_,rfl,e,_,_,_,rfl,s1 _ _ he,kx,k7,(by show 4≤sizeLine;decide),fun p2 g2 =>?_⟩;generalize e2:upd H1 p2 _=H2;have s2:al H1 H2:=e2▸al.new g2 _;have u2:H2 p2=some (.lst [V.bl (decide (i=4)),V.bl (decide (i=5)),V.bl (decide (i=6)),V.bl (decide (i=7))]):=by rw[← e2];exact aj
 refine⟨p1,p2,_,_,rfl,rfl,s2 _ _ u1,u2,(by show 8≤sizeLine;decide),fun p3 g3 =>?_⟩;generalize e3:upd H2 p3 _=H3;have s3:al H2 H3:=e3▸al.new g3 _;have u3:H3 p3=some (.lst [V.bl (decide (i=0)),V.bl (decide (i=1)),V.bl (decide (i=2)),V.bl (decide (i=3)),V.bl (decide (i=4)),V.bl (decide (i=5)),V.bl (decide (i=6)),V.bl (decide (i=7))]):=by rw[← e3];exact aj
 have w3:=s1.trans (s2.trans s3);refine⟨_,rfl,_,rfl,e,_,_,_,rfl,w3 _ _ he,kx,k8,_,rfl,e,_,_,_,rfl,w3 _ _ he,kx,k9,_,rfl,e,_,_,_,rfl,w3 _ _ he,kx,k10,_,rfl,e,_,_,_,rfl,w3 _ _ he,kx,k11,(by show 4≤sizeLine;decide),fun p4 g4 =>?_⟩;generalize e4:upd H3 p4 _=H4;have s4:al H3 H4:=e4▸al.new g4 _;have u4:H4 p4=some (.lst [V.bl (decide (i=8)),V.bl (decide (i=9)),V.bl (decide (i=10)),V.bl (decide (i=11))]):=by rw[← e4];exact aj
 refine⟨p3,p4,_,_,rfl,rfl,s4 _ _ u3,u4,(by show 12≤sizeLine;decide),fun p5 g5 =>?_⟩;generalize e5:upd H4 p5 _=H5;have s5:al H4 H5:=e5▸al.new g5 _;have u5:H5 p5=some (.lst (bls i)):=by rw[← e5];exact aj
 have w5:=w3.trans (s4.trans s5);refine⟨_,rfl,e,_,true,rfl,w5 _ _ he,kx,kv,_,rfl,cA ?_⟩;refine⟨_,rfl,.inl ⟨rfl,_,SqL.of u5⟩,p5,.bl true,_,rfl,rfl,u5,rfl,rfl,rfl,_,rfl,nQ ?_ ?_⟩
 ·rw[yH i hi];decide
 refine⟨(by show 12≤sizeLine;decide),fun p6 g6 =>?_⟩;generalize e6:upd H5 p6 _=H6;have s6:al H5 H6:=e6▸al.new g6 _;have u6:H6 p6=some (.lst wds):=by rw[← e6];exact aj
 exact⟨_,rfl,_,rfl,.inl ⟨rfl,_,SqL.of (s6 _ _ u5)⟩,p5,.bl true,_,i,.bl true,rfl,rfl,s6 _ _ u5,rfl,rfl,As i hi,rfl,fun k v hk hv=>Ar hk hv,p6,_,_,_,rfl,rfl,SqL.of u6,zg i hi,q' H6 (w5.trans s6)⟩
abbrev iG:Stmt:=top 164
theorem gz:ap ["_law_desk","_law_row","_law_found","_law_e"] ["_law_desk","_law_row"] (ai iG):=⟨rfl,rfl,rfl,by decide +kernel,rfl,by decide +kernel,by decide +kernel⟩
def kn (Y:Yx K mg)(C:Addr):Sp:=fun vs H Q _=>∃ (d dx kd:Addr) (D:List (List Nat × V)) (row:V),vs=[.ref d,row]∧cW C H d dx kd D∧D.length≤10 ∧
 ((∃ i,i∈ixs∧qY Y H D row i∧∀ p H',al H H'→H' p=some (.tup [.str "refused",.str (wdI i)])→Q (.ref p) H') ∨
  ∃ (n:List Nat) (v:V) (l:Nat) (t:Tr),row=.str (tx (glu [[115,104,111,119],n]))∧ce n=true∧D.lookup n=some v∧fB H v l t∧bh l t∧l≤40∧cnt t≤1500∧∀ p H',al H H'→H' p=some (.tup [.str "told",.str (tx (lv l++58::wr t))])→Q (.ref p) H')
theorem qt (T:Tx K mg)(Y:Yx K mg)(q:bv (CXe P w))(F:aN K "_law_said" "_law_said" iG f fd .none)(M_say:MOk P w K mg base (CXe P w) 48 C "say" ["self","row"] (oj Y C))(C__law_word:yL P w K mg base (CXe P w) 1 "_law_word" ["_law_e"] (kl Y)):
  aO P w K mg base (CXe P w) 49 f fd ["_law_desk","_law_row"] (kn Y C):=by
 refine F.ok gz (fun vs H Q E h =>?_) (fun cdv A outer s H vs Q E hr h =>?_)
 ·obtain⟨_,_,_,_,_,rfl,_⟩:=h;rfl
 obtain⟨d,dx,kd,D,row,rfl,hd,lD,h⟩:=h;refine⟨_,(ae (zz gz.nd (i:=3) rfl rfl rfl rfl rfl Y.m_SheetError rfl (by decide) (fun W pn R pt=>(ag (aE (i:=2) gz.nd rfl (Or.inl rfl) (wq M_say hr pt (pv 0) (aa (pv 1) af))))) (fun e=>(ag (av (bA (aH ah (aH (wB C__law_word q hr.inX (aa (pv 3) af)) am))))))) (ag (av (bA (aH ah (aH (pv 2) am)))))),?_⟩;refine⟨_,rfl,d,dx,_,rfl,hd.1,sv,_,rfl,d,dx,kd,D,row,rfl,hd,lD,?_⟩;rcases h with⟨i,hi,h,q'⟩|⟨n,v,l,t,rfl,hn,hv,hs,gt,hl,hc,q'⟩
 ·have fin:∀ H1 e H2 p,al H H1→H1 e=none→al (upd H1 e (.ext (mS e (.ref (Yc Y i))))) H2→H2 p=none→Q (.ref p) (upd H2 p (.tup [.str "refused",.str (wdI i)])):=fun H1 e H2 p s1 he s2 hp=>q' p _ (s1.trans ((al.new he _).trans (s2.trans (al.new hp _)))) aj
  have yk:=(yO Y i hi).2.2.1;rcases h with⟨rfl,h⟩ | ⟨w0,ws,ks,h1,h2,h3,h4,h5 | ⟨dn,gs,h5,h6,h7⟩⟩
  ·exact .inl ⟨h,fun H1 s1=>⟨yk,fun e he=>⟨_,rfl,e,11,rfl,hi,aj,fun H2 s2=>⟨(by show 2≤sizeLine;decide),fun p hp=>fin H1 e H2 p s1 he s2 hp⟩⟩⟩⟩
  ·exact .inr ⟨w0,ws,ks,h1,h2,h3,h4,.inl ⟨_,h5,fun H1 s1=>⟨yk,fun e he=>⟨_,rfl,e,i,rfl,hi,aj,fun H2 s2=>⟨(by show 2≤sizeLine;decide),fun p hp=>fin H1 e H2 p s1 he s2 hp⟩⟩⟩⟩⟩
  ·exact .inr ⟨w0,ws,ks,h1,h2,h3,h4,.inr ⟨_,h6,.inl ⟨dn,gs,_,h5,rfl,h7,fun H1 s1=>⟨yk,fun e he=>⟨_,rfl,e,i,rfl,hi,aj,fun H2 s2=>⟨(by show 2≤sizeLine;decide),fun p hp=>fin H1 e H2 p s1 he s2 hp⟩⟩⟩⟩⟩⟩
 ·have nl:=cH.mp hn;refine .inr ⟨[115,104,111,119],[n],[.one],rfl,bx (okw ⟨by decide,by decide⟩ (okw ⟨cZ hn,by omega⟩ okn)) (Cb rfl),a6 (e:=([115,104,111,119],[102])) (by decide),rfl,.inr ⟨[.v v],.cons (.one hn hv) .nil,.inr (.inr (.inr ⟨v,l,t,rfl,rfl,hs,gt,hl,hc,fun H1 s1 =>?_⟩))⟩⟩;exact⟨_,rfl,(by show 2≤sizeLine;decide),fun p hp=>q' p _ (s1.trans (al.new hp _)) aj⟩
end
theorem pT {H:Hp}{p b:Addr}{o:HO}(h:upd H p o b=none):b≠p∧H b=none:=by
 by_cases e:b=p
 ·subst e;rw[aj]at h;cases h
 ·rw[aL e]at h;exact⟨e,h⟩
abbrev Ent:=List Nat × V × Nat × Tr
def Ent.tx (e:Ent):List Nat:=lv e.2.2.1++58::wr e.2.2.2
def n_ (H:Hp)(es:List Ent):Prop:=∀ e∈es,fB H e.2.1 e.2.2.1 e.2.2.2∧bh e.2.2.1 e.2.2.2∧e.2.2.1≤40∧cnt e.2.2.2≤1500
theorem n_.up {H H':Hp}{es:List Ent}(s:eG H H')(h:n_ H es):n_ H' es:=fun e he=>⟨(h e he).1.up s,(h e he).2⟩
theorem eG.dK {H:Hp}{d:Addr}{xs ys:List (Key × V)}(e:H d=some (.dK xs)):eG H (upd H d (.dK ys)):=fun b zs q=>by
 by_cases h:b=d
 ·rw[h,e]at q;cases q
 ·rw[aL h];exact q
def dkE (es:List Ent):List (List Nat × V):=es.map fun e=>(e.1,e.2.1)
theorem xk {es:List Ent}{n:List Nat}(h:n∉es.map (·.1)):(dkE es).lookup n=none:=by
 induction es with
 | nil=>rfl
 | cons e es ih =>
  rw[Ct,B6,not_or]at h;show List.lookup n ((e.1,e.2.1)::dkE es)=none;rw[jx h.1];exact ih h.2
theorem big {n:Nat}(h:n≤1000000):n≤sizeLine:=Cq h (by decide)
theorem sG {n:Nat}(h:n≤40):((n:Int)).natAbs.log2 < 1920:=by
 rw[Int.natAbs_natCast];by_cases n0:n=0
 ·rw[n0];decide
 ·exact (Nat.log2_lt n0).mpr (De h (by decide))
theorem cW.put {C:Addr}{H:Hp}{d dx kd ld:Addr}{D:List (List Nat × V)}{xs ys:List V}(h:cW C H d dx kd D)(u:H ld=some (.lst xs)):cW C (upd H ld (.lst ys)) d dx kd D:=by
 refine⟨?_,?_⟩
 ·rw[aL (mx h.1 u (fun z=>by cases z))];exact h.1
 ·rw[aL (mx h.2 u (fun z=>by cases z))];exact h.2
theorem cW.keep {C:Addr}{H:Hp}{d dx kd:Addr}{D D':List (List Nat × V)}(h:cW C H d dx kd D):cW C (upd H kd (.dK (dkv D'))) d dx kd D':=by
 refine⟨?_,aj⟩;rw[aL (mx h.1 h.2 (fun z=>by cases z))];exact h.1
theorem Bn {σ:St}{H:Hp}{t:TF}{y:List Nat}{i:Nat}{z:List Nat}(h:FR σ H t y)(hl:y.length≤1000)(hz:z.length≤10000)(hi:σ[i]? = some (some (.str (tx z))))(R:List V→Hp→Prop)(q:R [.str (tx (y++z))] H):
  dS (tOp (fun x y H Q=>∃ i j,x=V.str i∧y=V.str j∧i.length + j.length≤sizeLine∧Q (V.str (i++j)) H) (cB t) (bO i)) gk σ H R:=by
 unfold dS tOp;refine cQ h hl _ ⟨_,hi,_,_,rfl,rfl,big (by rw[aw,aw];omega),?_⟩;rw[bo];exact q
theorem Bo {σ:St}{H:Hp}{t:TF}{y:List Nat}(h:FR σ H t y)(hl:y.length≤1000)(R:List V→Hp→Prop)(q:R [.str (tx y)] H):dS (cB t) gk σ H R:=by
 show cB t σ H _;exact cQ h hl _ q
theorem zN:∀ n:Nat,n < 41→nwB (lv n)=true∧32∉lv n:=by decide +kernel
theorem vj {H:Hp}{es:List Ent}{e:Ent}(h:n_ H es)(g:fB H e.2.1 e.2.2.1 e.2.2.2∧bh e.2.2.1 e.2.2.2∧e.2.2.1≤40∧cnt e.2.2.2≤1500):n_ H (es++[e]):=fun d hd=>by
 rcases Cm.mp hd with hd|hd
 ·exact h d hd
 ·rw[CA.mp hd];exact g
section
variable {K:PySem.W.Frag}{mg:Str→Option Value}{n0 n1 n2:List Nat}{v0 v1 v2:V}{H:Hp}{row:Str}{i:Nat}
theorem uC (Y:Yx K mg)(h:zd n0 n1 n2 row i):i∈ixs∧qY Y H (D3 n0 n1 n2 v0 v1 v2) (.str row) i:=by
 rcases h with⟨rfl,w0,ws,rfl,h1,h2⟩|⟨hi,w0,ws,ks,rfl,h1,h2,h3,h4⟩
 ·exact⟨by decide,.inl ⟨rfl,.inr ⟨w0,ws,rfl,h1,h2⟩⟩⟩
 ·exact⟨hi,.inr ⟨w0,ws,ks,rfl,h1,h2,h3,.inl (h4 Y v0 v1 v2)⟩⟩
theorem xl {L0 L1 L2:Nat}(Y:Yx K mg)(h:pN n0 n1 n2 L0 L1 L2 row i)(S0:Sht H v0 L0)(S1:Sht H v1 L1)(S2:Sht H v2 L2):qY Y H (D3 n0 n1 n2 v0 v1 v2) (.str row) i:=by
 obtain⟨w0,ws,ks,dn,rfl,h1,h2,h3,h4,h5⟩:=h;obtain⟨gs,g1,g2⟩:=h5 Y H v0 v1 v2 S0 S1 S2;exact .inr ⟨w0,ws,ks,rfl,h1,h2,h3,.inr ⟨dn,gs,h4,g1,g2⟩⟩
theorem sw {H:Hp}{p p':Addr}{a b:Str}{Q:VK}(ha:PyData.strOk a=true)(hb:PyData.strOk b=true)(h:H p=some (.tup [.str a,.str b]))(h':H p'=some (.tup [.str a,.str b]))(q:Q (.bl false) H):zw true (.ref p) (.ref p') H Q:=by
 have sh:SeqAt.shaped (.tuple [.str a,.str b])=true:=by
  show ((PyData.strOk a && (PyData.strOk b && true)) && decide (max 0 (max 0 0) + 1≤64))=true;rw[ha,hb];rfl
 refine⟨.tuple [.str a,.str b],.tuple [.str a,.str b],.tup h (.cons (.str _) (.cons (.str _) .nil)),.tup h' (.cons (.str _) (.cons (.str _) .nil)),sh,sh,?_⟩;rw[SeqAt.eqv_refl _ (SeqAt.canLay_of_shaped sh)];exact q
theorem pZ {n:List Nat}:("show " : Str)++tx n=tx (glu [[115,104,111,119],n]):=by
 rw[show ("show " : Str)=tx [115,104,111,119,32] by decide +kernel,bo]
 rfl
end
section
variable {P:Program}{w:World}{K:PySem.W.Frag}{mg:Str→Option Value}{base:Heap}{CX:CXT}{f:Addr}{fd:FuncData}{C:Addr}
abbrev jf:Stmt:=top 166
theorem cE:ap ["_law_script","_law_names_here","_law_levels","_law_desk","_law_due","_law_k","_law_text","_law_cell","_law_row","_law_word_here","_law_some","_law_turn","_law_j"] ["_law_script"] (ai jf):=⟨rfl,rfl,rfl,by decide +kernel,rfl,by decide +kernel,by decide +kernel⟩
def om (K:PySem.W.Frag):Sp:=fun vs H Q _=>∃ (a:Addr) (ns:List Int),vs=[.ref a]∧SqL K H a (ns.map V.int)∧ns.length≤63∧∀ H',Q (.bl true) H'
theorem zK (T:Tx K mg)(Y:Yx K mg)(q:bv (CXe P w))(F:aN K "law" "law" jf f fd .none)(N_Desk:xx P w K mg base (CXe P w) 1 "Desk" C ["self"] (on C))(M_say:MOk P w K mg base (CXe P w) 48 C "say" ["self","row"] (oj Y C))
  (C__law_names:Fok P w K mg base (CXe P w) 2 "_law_names" ["_law_script"] [] (i4 K)) (C__law_at:Fok P w K mg base (CXe P w) 1 "_law_at" ["_law_script","_law_k"] [] (hX K)) (C__law_mix:Fok P w K mg base (CXe P w) 1 "_law_mix" ["_law_cell","_law_k"] [] du)
  (C__law_tree:Fok P w K mg base (CXe P w) 44 "_law_tree" ["_law_script","_law_first","_law_level","_law_most"] [] (km K)) (C__law_signs:Fok P w K mg base (CXe P w) 42 "_law_signs" ["_law_tree_here"] [] (fF 41)) (C__law_spoiled:Fok P w K mg base (CXe P w) 2 "_law_spoiled" ["_law_cell","_law_names_here"] [] gx)
  (C__law_deeds:Fok P w K mg base (CXe P w) 3 "_law_deeds" ["_law_names_here","_law_levels","_law_cell"] [] i6) (C__law_said:Fok P w K mg base (CXe P w) 49 "_law_said" ["_law_desk","_law_row"] [] (kn Y C)) :
  aO P w K mg base (CXe P w) 50 f fd ["_law_script"] (om K):=by
 refine F.ok cE (fun vs H Q E h =>?_) (fun cdv A outer s H vs Q E hr h =>?_)
 ·obtain⟨_,_,rfl,_⟩:=h;rfl
 obtain⟨a,ns,rfl,hS,h63,q'⟩:=h;refine⟨_,(ae (aE (i:=1) cE.nd rfl (Or.inl rfl) (au C__law_names q hr (aa (pv 0) af))) (ae (aE (i:=2) cE.nd rfl (Or.inl rfl) (bQ (aH (ar bC ac (ar aU (au C__law_at q hr (aa (pv 0) (aa ac af))) ac)) (aH ac (aH (ar bC ac (ar aU (au C__law_at q hr (aa (pv 0) (aa ac af))) ac)) am))))) (ae (iN (ar bC ac (ar aU (ar bC (aq ao (pv 2) ac (fun _ _=>rfl)) (ar aU (ar cF (au C__law_at q hr (aa (pv 0) (aa ac af))) ac) ac)) ac)) (rS (pv 2) ac lO)) (ae (aE (i:=3) cE.nd rfl (Or.inl rfl) (xY N_Desk q hr)) (ae (aE (i:=4) cE.nd rfl (Or.inl rfl) (bQ am)) (ae (dD CP rfl (cM rfl T.b_range (aa ac af)) (aQ (i:=5) cE.nd rfl (Or.inl rfl)) (ae (aE (i:=6) cE.nd rfl (Or.inl rfl) (ar aP (ar aP (bq bY rfl T.b_str eF (aa (aq ao (pv 2) (pv 5) (fun _ _=>rfl)) af)) ah) (au C__law_signs q hr (aa (au C__law_tree q hr (aa (pv 0) (aa (ar bC ac (pv 5)) (aa (aq ao (pv 2) (pv 5) (fun _ _=>rfl)) (aa ac af))))) af)))) (ae (bL (dh PySem.F.plainAttrs_list PySem.F.slot_list_append PySem.F.type_list_append dE (pv 4) (aa (pv 6) af))) (ag (aV (aB jm (qh M_say q hr (pv 3) (aa (ar aP (bE (bG (cq (aq ao (pv 1) (pv 5) (fun _ _=>rfl)) (bG bZ)))) (pv 6)) af)) ah (aK _)) (ag (av fw)) aA))))) (ae (bL (dh PySem.F.plainAttrs_list PySem.F.slot_list_append PySem.F.type_list_append dE (pv 4) (aa (ar aP (bq bY rfl T.b_str eF (aa (aq ao (pv 2) ac (fun _ _=>rfl)) af)) ah) af))) (ae (aV (aB jm (qh M_say q hr (pv 3) (aa (bE (bG (cq (aq ao (pv 1) ac (fun _ _=>rfl)) (bG (cq (aq ao (pv 2) ac (fun _ _=>rfl)) (bG bZ)))))) af)) ah (aK _)) (ag (av fw)) aA) (ae (dD CP rfl (uH rfl T.b_range (aa ac (aa (ax (vB rfl) rfl T.b_max Aw (aa ac (aa (ax (vA rfl) rfl T.b_min Av (aa (ax bu rfl T.b_len ck (aa (pv 0) af)) (aa ac af))) af))) af))) (aQ (i:=5) cE.nd rfl (Or.inl rfl)) (ae (aE (i:=7) cE.nd rfl (Or.inl rfl) (au C__law_mix q hr (aa (au C__law_at q hr (aa (pv 0) (aa (pv 5) af))) (aa (pv 5) af)))) (ae (iN (au C__law_spoiled q hr (aa (pv 7) (aa (pv 1) af))) (mf rfl (bJ (aQ (i:=8) cE.nd rfl (Or.inl rfl)) (bJ (aQ (i:=9) cE.nd rfl (Or.inl rfl)) fQ)))) (ae (rP (aV (aB bS (ar aU (pv 7) ac) ac (aK _)) (ae (aE (i:=10) cE.nd rfl (Or.inl rfl) (au C__law_deeds q hr (aa (pv 1) (aa (pv 2) (aa (ar cF (pv 7) ac) af))))) (ag (iN (aq ao (pv 10) (ar aU (ar cF (pv 7) ac) (ax bu rfl T.b_len ck (aa (pv 10) af))) (fun _ _=>rfl)) (mf rfl (bJ (aQ (i:=8) cE.nd rfl (Or.inl rfl)) (bJ (aQ (i:=9) cE.nd rfl (Or.inl rfl)) fQ)))))) aA)) (ae (rP (aV (aB bS (ar aU (pv 7) ac) ac (aK _)) (ag (zA (i:=8) (j:=9) rfl cE.nd rfl rfl (by decide) rfl rfl (aa (aq ao (bQ (aH jZ (aH ac (aH (bQ (aH (ar aP ah (aq ao (pv 1) ac (fun _ _=>rfl))) am)) (aH (bA (aH ah (aH (aq ao (pv 1) ac (fun _ _=>rfl)) am))) am))))) (ar aU (ar cF (pv 7) ac) ac) (fun _ _=>rfl)) (aa ah af)) rfl)) aA)) (ae (dD CP rfl (cM rfl T.b_range (aa ac af)) (aQ (i:=11) cE.nd rfl (Or.inl rfl)) (ag (aV (aB (oU hr) (au C__law_said q hr (aa (pv 3) (aa (pv 8) af))) (bA (aH ah (aH (pv 9) am))) (aK _)) (ag (av fw)) aA))) (ae (dD CP rfl (cM rfl T.b_range (aa ac af)) (aQ (i:=12) cE.nd rfl (Or.inl rfl)) (ag (aV (aB (oU hr) (au C__law_said q hr (aa (pv 3) (aa (ar aP ah (aq ao (pv 1) (pv 12) (fun _ _=>rfl))) af))) (bA (aH ah (aH (aq ao (pv 4) (pv 12) (fun _ _=>rfl)) am))) (aK _)) (ag (av fw)) aA))) (ag (aV (aB (oU hr) (au C__law_said q hr (aa (pv 3) (aa (ar aP ah (aq ao (pv 1) ac (fun _ _=>rfl))) af))) (bA (aH ah (aH ah am))) (aK _)) (ag (av fw)) aA))))))))) (ag (av fw))))))))))),?_⟩;refine⟨_,rfl,a,ns,rfl,hS,h63,fun l n0 n1 n2 n3 H1 s1 hl hN =>?_⟩;have hS1:=hS.up s1;obtain⟨L0,hL0,eL0⟩:∃ L0:Nat,(1≤L0∧L0≤5)∧1 + cell ns 4 % 5=(L0:Int):=⟨(1 + cell ns 4 % 5).toNat,by omega,by omega⟩;obtain⟨L2,hL2,eL2⟩:∃ L2:Nat,(7≤L2∧L2≤40)∧7 + cell ns 5 % 34=(L2:Int):=⟨(7 + cell ns 5 % 34).toNat,by omega,by omega⟩;obtain⟨L1,hL1,eL1⟩:∃ L1:Nat,(1≤L1∧L1≤5∧L0≠L1)∧1 + ((L0:Int) + cell ns 4 / 5 % 4) % 5=(L1:Int):=⟨(1 + ((L0:Int) + cell ns 4 / 5 % 4) % 5).toNat,by omega,by omega⟩;refine⟨_,rfl,a,ns,4,rfl,hS1,h63,_,_,rfl,rfl,(by show (0:Int) < 5;decide),_,_,rfl,rfl,_,rfl,a,ns,5,rfl,hS1,h63,_,_,rfl,rfl,(by show (0:Int) < 34;decide),_,_,rfl,rfl,(by show 3≤sizeLine;decide),fun la hla =>?_⟩;dsimp only;rw[eL0,eL2];have s2:=al.new hla (.lst [V.int (L0:Int),.int 0,.int (L2:Int)]);have u2:upd H1 la (.lst [V.int (L0:Int),.int 0,.int (L2:Int)]) la=some (.lst [V.int (L0:Int),.int 0,.int (L2:Int)]):=aj;generalize upd H1 la (.lst [V.int (L0:Int),.int 0,.int (L2:Int)])=H2 at *;have hS2:=hS1.up s2;refine⟨_,rfl,la,_,_,_,rfl,rfl,SqL.of u2,rfl,_,rfl,a,ns,4,rfl,hS2,h63,_,_,rfl,rfl,gX (by decide) (by decide),_,_,rfl,rfl,(by show (0:Int) < 4;decide),_,_,rfl,rfl,_,_,rfl,rfl,(by show (0:Int) < 5;decide),_,_,rfl,rfl,_,rfl,la,_,_,1,rfl,rfl,u2,rfl,?_⟩;dsimp only;rw[eL1];generalize e3:upd H2 la _=H3;have s3:al H1 H3:=e3▸al.set s2 hla _;have u3:H3 la=some (.lst [V.int (L0:Int),.int (L1:Int),.int (L2:Int)]):=by rw[← e3];exact aj
 have hl3:=s3 _ _ hl;have hS3:=hS1.up s3
 clear e3 s2 u2 hS2
 intro x dx hx hdx nx';refine⟨x,dx,rfl,aj,fun kd hkd=>⟨rfl,?_⟩⟩;obtain⟨kx,hkd⟩:=pT hkd;obtain⟨kdx,hkd⟩:=pT hkd;generalize e4:upd _ x _=H4;have s4:al H3 H4:=by
  rw[← e4];exact al.set (al.set (al.set (al.new hdx _) hx _) hkd _) hx _
 have d4:cW C H4 x dx kd (dkE []):=by
  rw[← e4];exact⟨aj,by rw[aL kx,aj];rfl⟩
 clear e4
 refine⟨(by show 0≤sizeLine;decide),fun ld hld =>?_⟩;have d5:=d4.up (al.new hld (.lst []));have s5:=s4.trans (al.new hld (.lst []));have u5:upd H4 ld (.lst []) ld=some (.lst []):=aj;have hld3:H3 ld=none:=by
  cases e:H3 ld with
  | none=>rfl
  | some o=>rw[s4 _ _ e]at hld;cases hld
 generalize upd H4 ld (.lst [])=H5 at *;have nm:∀ n∈[n0,n1,n2,n3],ce n=true:=hN.1;have nl:∀ n∈[n0,n1,n2,n3],n.length≤8:=fun n hn=>(cH.mp (nm n hn)).2.1;have nd:=hN.2;simp only[CQ,B6,Cc,or_false,not_or]at nd;refine⟨2,rfl,by decide,by decide,cO (fun (j:Nat) σ H'=>al H3 H'∧∃ (es:List Ent) (o5 o6:Option V),n_ H' es∧cW C H' x dx kd (dkE es)∧H' ld=some (.lst (es.map fun e=>.str (tx e.tx)))∧es.map (·.1)=[n0,n1].take j∧es.map (·.2.2.1)=[L0,L1].take j ∧
  σ=[some (.ref a),some (.ref l),some (.ref la),some (.ref x),some (.ref ld),o5,o6,none,none,none,none,none,none]) ⟨s5,[],none,none,(fun e he=>by cases he),d5,u5,rfl,rfl,rfl⟩ ?_ ?_⟩
 ·rintro j σ H6 hj ⟨s6,es,o5,o6,ok6,d6,u6,en,el,rfl⟩;have hj':j < 2:=hj;rw[show (0:Int) + (j:Int)=(j:Int) from DO _];obtain⟨n,Lk,hn,hno,hLk,atn,atL,tn,tL⟩:∃ (n:List Nat) (Lk:Nat),n∈[n0,n1,n2,n3]∧n∉es.map (·.1)∧(1≤Lk∧Lk≤5)∧atI [V.str (tx n0),V.str (tx n1),V.str (tx n2),V.str (tx n3)] (j:Int)=some (.str (tx n))∧atI [V.int (L0:Int),V.int (L1:Int),V.int (L2:Int)] (j:Int)=some (.int (Lk:Int))∧[n0,n1].take (j + 1)=[n0,n1].take j++[n]∧[L0,L1].take (j + 1)=[L0,L1].take j++[Lk]:=by
   rw[en];rcases j with _ | _ | j
   ·exact⟨n0,L0,by simp,by simp,hL0,rfl,rfl,rfl,rfl⟩
   ·exact⟨n1,L1,by simp,by simpa using fun z=>nd.1.1 z.symm,⟨hL1.1,hL1.2.1⟩,rfl,rfl,rfl,rfl⟩
   ·omega
  have lL:=sH Lk (by omega);have hv6:=s6 _ _ u3;have hl6:=s6 _ _ hl3;refine⟨_,rfl,_,rfl,la,_,_,_,rfl,rfl,SqL.of hv6,atL,(Lk:Int),rfl,sG (by omega),?_⟩;rw[pw Lk (by omega),jC];refine⟨_,_,rfl,rfl,big (by rw[aw,aw];show _ + 1≤_;omega),?_⟩;rw[bo];refine⟨_,rfl,_,rfl,_,_,rfl,rfl,_,rfl,_,rfl,la,_,_,_,rfl,rfl,SqL.of hv6,atL,a,ns,6 + j,Lk,4,rfl,hS3.up s6,h63,by omega,by decide,by omega,fun v t H7 s7 ht gt ct =>?_⟩;have ct':cnt t≤1500:=by
   have:(3 * Lk + 1) * (4 + 1)≤16 * 5:=Nat.mul_le_mul (by omega) (B7 _)
   omega
  refine⟨v,t,Lk,rfl,ht,gt,by omega,by decide,ct',fun H8 s8 =>?_⟩;have lw:=gl t;refine⟨_,_,rfl,rfl,big (by rw[aw,aw,B3];show _ + 1 + _≤_;omega),?_⟩;rw[bo,Dk,List.singleton_append];have s68:=s7.trans s8;have u8:=s68 _ _ u6;have d8:=d6.up s68;have lts:(lv Lk++58::wr t).length≤3100:=by rw[B3,B5];omega
  have hes:es.length≤2:=by
   have:=Cs List.length en
   rw[B_,CH]at this;show _≤2
   have:([n0,n1]:List (List Nat)).length=2:=rfl
   omega
  refine⟨_,rfl,.inl ⟨rfl,_,SqL.of u8⟩,_,rfl,ld,_,_,rfl,rfl,u8,De (show _≤2 by rw[B_];exact hes) (by decide),?_⟩;generalize e9:upd H8 ld _=H9;have s9:al H3 H9:=e9▸al.set (s6.trans s68) hld3 _;have u9:H9 ld=some (.lst ((es.map fun e=>.str (tx e.tx))++[.str (tx (lv Lk++58::wr t))])):=by rw[← e9];exact aj
  have d9:cW C H9 x dx kd (dkE es):=e9▸d8.put u8;have t9:eG H6 H9:=e9▸s68.tups.trans (eG.lst u8)
  clear e9
  have hl9:=s9 _ _ hl3;have ln:=nl n hn;have hrow:g_ [[114,101,97,100],n,lv Lk++58::wr t]:=by
   refine⟨fun w' hw' =>?_,?_⟩
   ·simp only[B6,Cc,or_false]at hw';rcases hw' with rfl | rfl | rfl
    ·decide
    ·exact cZ (nm _ hn)
    ·exact vR gt (by omega)
   ·show ([114,101,97,100]++32::(n++32::(lv Lk++58::wr t))).length≤40000;simp only[B3,B5,List.length_nil]at lts ⊢;omega
  refine⟨_,rfl,x,dx,_,rfl,d9.1,sv,Bn (i:=6) (z:=lv Lk++58::wr t) (f_c (w:=[114,101,97,100,32]) (by decide +kernel) (f_v (w:=n) (fun _ r=>⟨_,rfl,_,rfl,l,_,_,_,rfl,rfl,SqL.of hl9,atn,r⟩) (.inl ⟨rfl,a9 (by rw[aw];omega)⟩) (f_c (w:=[32]) (by decide +kernel) cR))) (by simp only[B3,B5,List.length_nil];omega) (by omega) rfl _ ⟨x,dx,kd,dkE es,_,rfl,d9,(by show (es.map _).length≤10;rw[B_];omega),
   .inr ⟨[114,101,97,100],[n,lv Lk++58::wr t],[.new,.txt],Cs (fun z=>V.str (tx z)) (by simp[glu]),hrow,a6 (e:=([114,101,97,100],[110,116])) (by decide),rfl,.inr ⟨[.v (.str (tx n)),.sh Lk t],.cons (.new (nm n hn)) (.cons (.txt (zv gt (by omega))) .nil),.inr (.inl ⟨n,_,_,Lk,t,rfl,rfl,rfl,xk hno,fun v' H10 s10 hv' gv =>?_⟩)⟩⟩⟩⟩
  have d10:=d9.up s10;have t11:=eG.dK (ys:=dkv (dkE es++[(n,v')])) d10.2;refine⟨rfl,_,rfl,nQ rfl ⟨al.set (s9.trans s10) hkd _,es++[(n,v',Lk,t)],_,_,vj (ok6.up (t9.trans (s10.tups.trans t11))) ⟨hv'.up t11,gt,(by show Lk≤40;omega),ct'⟩,?_,?_,by rw[CD,en,tn];rfl,by rw[CD,el,tL];rfl,rfl⟩⟩
  ·have:=d10.keep (D':=dkE es++[(n,v')])
   rw[show dkE (es++[(n,v',Lk,t)])=dkE es++[(n,v')] from CD ..];exact this
  ·rw[aL (mx (s10 _ _ u9) d10.2 (fun z=>by cases z)),s10 _ _ u9,CD];rfl
 rintro σ H6 ⟨s6,es,o5,o6,ok6,d6,u6,en,el,rfl⟩;have hv6:=s6 _ _ u3;have hl6:=s6 _ _ hl3;have lL:=sH L2 (by omega);have lL2:=zN L2 (by omega);obtain⟨v0,t0,v1,t1,rfl⟩:∃ v0 t0 v1 t1,es=[(n0,v0,L0,t0),(n1,v1,L1,t1)]:=by
  match es,en,el with
  | [(m0,v0,l0,t0),(m1,v1,l1,t1)],en,el =>
   injection en with a1 a2;injection a2 with a2 _;injection el with b1 b2;injection b2 with b2 _;exact⟨v0,t0,v1,t1,by rw[← show m0=n0 from a1,← show m1=n1 from a2,← show l0=L0 from b1,← show l1=L1 from b2]⟩
 refine⟨_,rfl,.inl ⟨rfl,_,SqL.of u6⟩,_,rfl,la,_,_,_,rfl,rfl,SqL.of hv6,rfl,(L2:Int),rfl,sG (by omega),?_⟩;rw[pw L2 (by omega),show (":4" : Str)=tx [58,52] by decide +kernel]
 refine⟨_,_,rfl,rfl,big (by rw[aw,aw];show _ + 2≤_;omega),?_⟩;rw[bo];refine⟨ld,_,_,rfl,rfl,u6,(by show 2 < _;decide),?_⟩;generalize e9:upd H6 ld _=H9;have s9:al H3 H9:=e9▸al.set s6 hld3 _;have u9:H9 ld=some (.lst [.str (tx (lv L0++58::wr t0)),.str (tx (lv L1++58::wr t1)),.str (tx (lv L2++58::wr (.col 4)))]):=by rw[← e9];exact aj
 have d9:cW C H9 x dx kd (dkE [(n0,v0,L0,t0),(n1,v1,L1,t1)]):=e9▸d6.put u6;have t9:eG H6 H9:=e9▸eG.lst u6
 clear e9
 have hl9:=s9 _ _ hl3;have hv9:=s9 _ _ u3;have ln2:=nl n2 (by simp);refine⟨_,rfl,x,dx,_,rfl,d9.1,sv,Bo (f_c (w:=[112,108,97,105,110,32]) (by decide +kernel) (f_v (w:=n2) (fun _ r=>⟨_,rfl,l,_,_,_,rfl,rfl,SqL.of hl9,rfl,r⟩) (.inl ⟨rfl,a9 (by rw[aw];omega)⟩) (f_c (w:=[32]) (by decide +kernel) (f_v (w:=lv L2) (fun _ r=>⟨_,rfl,la,_,_,_,rfl,rfl,SqL.of hv9,rfl,r⟩) (.inr ⟨_,rfl,sG (by omega),(pw L2 (by omega)).symm⟩) (f_c (w:=[32,52]) (by decide +kernel) cR))))) (by simp only[B3,B5,List.length_nil];omega) _ ⟨x,dx,kd,_,_,rfl,d9,(by show 2≤10;decide),
  .inr ⟨[112,108,97,105,110],[n2,lv L2,[52]],[.new,.num,.col],Cs (fun z=>V.str (tx z)) (by simp[glu]),bx (okw ⟨by decide,by decide⟩ (okw ⟨cZ (nm n2 (by simp)),by omega⟩ (okw ⟨lL2.2,by omega⟩ (okw ⟨by decide,by decide⟩ okn)))) (Cb rfl),a6 (e:=([112,108,97,105,110],[110,119,111])) (by decide),rfl,.inr ⟨[.v (.str (tx n2)),.v (.int L2),.v (.int 4)],.cons (.new (nm n2 (by simp))) (.cons (.num lL2.1 (zO L2 (by omega))) (.cons (.col rfl) .nil)),.inr (.inr (.inl ⟨n2,lv L2,[52],_,L2,4,rfl,rfl,rfl,hL2.2,by decide,xk (by simpa using ⟨fun z=>nd.1.2.1 z.symm,fun z=>nd.2.1.1 z.symm⟩),fun v2 H10 s10 hv2 =>?_⟩))⟩⟩⟩⟩
 have d10:=d9.up s10;have t11:=eG.dK (ys:=dkv (dkE [(n0,v0,L0,t0),(n1,v1,L1,t1)]++[(n2,v2)])) d10.2;have d11:=d10.keep (D':=D3 n0 n1 n2 v0 v1 v2);have s11:al H3 (upd H10 kd (.dK (dkv (D3 n0 n1 n2 v0 v1 v2)))):=al.set (s9.trans s10) hkd _;have tt:=t9.trans (s10.tups.trans t11);have k0:=(ok6.up tt) _ (CN ..);have k1:=(ok6.up tt) _ (Cp _ (CN ..));have k2:fB (upd H10 kd (.dK (dkv (D3 n0 n1 n2 v0 v1 v2)))) v2 (L2:Int) (.col 4)∧bh L2 (.col 4)∧L2≤40∧cnt (.col 4)≤1500:=⟨hv2.up t11,bh.col ⟨by decide,by decide⟩,hL2.2,(by show 1≤1500;decide)⟩;have u11:upd H10 kd (.dK (dkv (D3 n0 n1 n2 v0 v1 v2))) ld=some (.lst [.str (tx (lv L0++58::wr t0)),.str (tx (lv L1++58::wr t1)),.str (tx (lv L2++58::wr (.col 4)))]):=by rw[aL (mx (s10 _ _ u9) d10.2 (fun z=>by cases z))];exact s10 _ _ u9
 change fB (upd H10 kd (.dK (dkv (D3 n0 n1 n2 v0 v1 v2)))) v0 (L0:Int) t0∧bh L0 t0∧L0≤40∧cnt t0≤1500 at k0
 change fB (upd H10 kd (.dK (dkv (D3 n0 n1 n2 v0 v1 v2)))) v1 (L1:Int) t1∧bh L1 t1∧L1≤40∧cnt t1≤1500 at k1
 refine⟨rfl,_,rfl,nQ rfl ?_⟩;generalize e11:upd H10 kd _=H11;have e11':upd H10 kd (.dK (dkv (D3 n0 n1 n2 v0 v1 v2)))=H11:=e11;rw[e11']at d11 s11 k0 k1 k2 u11
 clear e11 e11' t11 tt d10 u9 hv9 hl9 t9 d9
 have S0:Sht H11 v0 L0:=⟨t0,k0.1,k0.2.1,k0.2.2.1⟩;have S1:Sht H11 v1 L1:=⟨t1,k1.1,k1.2.1,k1.2.2.1⟩;have S2:Sht H11 v2 L2:=⟨_,k2.1,k2.2.1,k2.2.2.1⟩;have hl11:=s11 _ _ hl3;have hv11:=s11 _ _ u3;have hS11:=hS3.up s11;have lmap:(ns.map V.int).length=ns.length:=B_ ..;have l0:=nl n0 (by simp);have ls0:("show " : Str).length=5:=by decide +kernel
 refine⟨_,rfl,_,_,rfl,.inl ⟨_,hS11,rfl⟩,_,_,rfl,_,_,rfl,_,_,rfl,⟨by decide,by decide,by split<;>(try split)<;>omega,by split<;>(try split)<;>omega⟩,cO (fun (j:Nat) σ H'=>al H11 H'∧∃ o5 o6 o7 o8 o9 o10 o11 o12:Option V,σ=[some (.ref a),some (.ref l),some (.ref la),some (.ref x),some (.ref ld),o5,o6,o7,o8,o9,o10,o11,o12]) ⟨al.refl _,_,_,_,_,_,_,_,_,rfl⟩ ?_ (fun σ H' _=>q' H')⟩;rintro j σ H12 hj ⟨s12,o5,o6,o7,o8,o9,o10,o11,o12,rfl⟩;have hj':j < 20:=by
  refine Co hj ?_
  split<;>(try split)<;>omega
 have ek:(6:Int) + (j:Int)=((6 + j:Nat):Int):=by omega
 rw[ek];refine⟨_,rfl,_,rfl,a,ns,6 + j,rfl,hS11.up s12,h63,_,rfl,cell ns (6 + j),6 + j,rfl,by omega,fun m hm =>?_⟩;refine⟨_,rfl,_,rfl,m,l,n0,n1,n2,n3,rfl,⟨s12 _ _ hl11,hN⟩,fun p row i H13 s13 hp rn =>?_⟩;have s13':=s12.trans s13;refine⟨p,_,rfl,SqT.of hp,rfl,_,_,rfl,_,_,rfl,rfl,?_⟩;obtain⟨hi,hr'⟩:=uC (v0:=v0) (v1:=v1) (v2:=v2) (H:=H13) Y rn
 clear rn
 refine⟨fun σ H'=>al H11 H'∧∃ (rv:Str) (i:Nat) (o10:Option V),i∈ixs∧qY Y H' (D3 n0 n1 n2 v0 v1 v2) (.str rv) i∧σ=[some (.ref a),some (.ref l),some (.ref la),some (.ref x),some (.ref ld),some (.int ((6 + j:Nat):Int)),o6,some (.int m),some (.str rv),some (.str (wdI i)),o10,o11,o12],?_,?_⟩
 ·refine⟨_,rfl,_,_,rfl,rfl,(by show (0:Int) < 3;decide),rfl,_,rfl,bM (fun _ =>?_) (fun _=>⟨s13',row,i,_,hi,hr',rfl⟩)⟩;refine⟨_,rfl,_,rfl,_,rfl,_,_,rfl,rfl,gX (by decide) (by decide),l,la,_,n0,n1,n2,n3,L0,L1,L2,rfl,⟨s13' _ _ hl11,hN⟩,s13' _ _ hv11,hL0,hL1.2.2,hL2,fun l' ps zs H14 s14 ul tz lz hz =>?_⟩;have lps:=tz.len;have e19:(ps.map V.ref).length=19:=by rw[B_];omega
  obtain⟨k,hk,ekk⟩:∃ k:Nat,k < 19∧m / 3 % 19=(k:Int):=⟨(m / 3 % 19).toNat,by omega,by omega⟩;obtain⟨z,hzk⟩:∃ z,zs[k]? = some z:=⟨_,Cf (by omega)⟩;obtain⟨pz,hpz,uz⟩:=tz.get hzk;obtain⟨i',hi',ez,dr⟩:=hz z (Cw hzk);have s14':=s13'.trans s14;rw[ez]at uz;refine⟨_,rfl,_,rfl,_,_,rfl,rfl,gX (by decide) (by decide),_,rfl,_,_,rfl,.inl ⟨_,SqL.of ul,rfl⟩,_,_,rfl,rfl,(by show (0:Int) < (((ps.map V.ref).length:Nat):Int);rw[e19];decide),l',_,_,.ref pz,rfl,rfl,SqL.of ul,?_,pz,_,rfl,SqT.of uz,rfl,_,_,rfl,_,_,rfl,rfl,s14',z.1,i',_,hi',xl Y dr (S0.up s14') (S1.up s14') (S2.up s14'),rfl⟩;show atI _ (m / 3 % (((ps.map V.ref).length:Nat):Int))=_;rw[e19];show atI _ (m / 3 % 19)=_;rw[ekk];exact dH (by rw[CK,hpz];rfl)
 clear hr' hi hp s13' s13
 rintro σ H14 ⟨s14,row,i,o10,hi,hr',rfl⟩;refine⟨fun σ H'=>al H11 H'∧∃ (rv:V) (i:Nat),i∈ixs∧qY Y H' (D3 n0 n1 n2 v0 v1 v2) rv i∧σ=[some (.ref a),some (.ref l),some (.ref la),some (.ref x),some (.ref ld),some (.int ((6 + j:Nat):Int)),o6,some (.int m),some rv,some (.str (wdI i)),o10,o11,o12],?_,?_⟩
 ·refine⟨_,rfl,_,_,rfl,rfl,(by show (0:Int) < 16;decide),rfl,_,rfl,bM (fun _ =>?_) (fun _=>⟨s14,.str row,i,hi,hr',rfl⟩)⟩;have hl14:=s14 _ _ hl11;refine⟨_,rfl,l,_,_,_,rfl,rfl,SqL.of hl14,rfl,_,_,rfl,rfl,a9 (by rw[aw,ls0];omega),(by show 1≤sizeLine;decide),fun p1 hp1 =>?_⟩;have s15:=s14.trans (al.new hp1 (.lst [V.str ("show " ++ tx n0)]))
  have u15:upd H14 p1 (.lst [V.str ("show " ++ tx n0)]) p1=some (.lst [V.str ("show " ++ tx n0)]):=aj
  generalize upd H14 p1 (.lst [V.str ("show " ++ tx n0)])=H15 at *
  refine⟨_,rfl,l,_,_,_,rfl,rfl,SqL.of (s15 _ _ hl11),rfl,(by show 2≤sizeLine;decide),fun p2 hp2 =>?_⟩;have s16:=s15.trans (al.new hp2 (.tup [V.str "show",V.str (tx n0)]))
  have u16:=(al.new hp2 (.tup [V.str "show",V.str (tx n0)])) _ _ u15
  have w16:upd H15 p2 (.tup [V.str "show",V.str (tx n0)]) p2=some (.tup [V.str "show",V.str (tx n0)]):=aj
  generalize upd H15 p2 (.tup [V.str "show",V.str (tx n0)])=H16 at *
  obtain⟨v,hv,ha⟩:=kK (xs:=[V.non,V.int 0,V.ref p1,V.ref p2]) (m / 16) (n:=4) (by decide) rfl;refine⟨(by show 4≤sizeLine;decide),fun p3 hp3=>⟨_,rfl,_,_,rfl,rfl,gX (by decide) (by decide),_,_,rfl,rfl,(by show (0:Int) < 4;decide),p3,_,_,v,rfl,rfl,SqL.of aj,ha,_,_,rfl,s16.trans (al.new hp3 _),v,11,by decide,.inl ⟨rfl,.inl ?_⟩,rfl⟩⟩;have s17:=al.new hp3 (.lst [V.non,V.int 0,V.ref p1,V.ref p2]);simp only[B6,Cc,or_false]at hv;rcases hv with rfl|rfl|rfl|rfl
  ·exact⟨_,.non,zV⟩
  ·exact⟨_,.int _,kit_is⟩
  ·exact⟨_,.lst (s17 _ _ u16),zW⟩
  ·exact⟨_,.tup (s17 _ _ w16),zU⟩
 clear hr' hi
 rintro σ H15 ⟨s15,rv,i,hi,hr',rfl⟩;have d15:=d11.up s15;refine⟨2,rfl,by decide,by decide,cO (fun (_:Nat) σ H'=>al H15 H'∧∃ o11:Option V,σ=[some (.ref a),some (.ref l),some (.ref la),some (.ref x),some (.ref ld),some (.int ((6 + j:Nat):Int)),o6,some (.int m),some rv,some (.str (wdI i)),o10,o11,o12]) ⟨al.refl _,_,rfl⟩ ?_ ?_⟩
 ·rintro k σ H16 hk ⟨s16,o11,rfl⟩;refine⟨_,rfl,_,rfl,x,dx,kd,_,rv,rfl,d15.up s16,(by show 3≤10;decide),.inl ⟨i,hi,hr'.up s16,fun p H17 s17 hp =>?_⟩⟩;refine⟨_,rfl,(by show 2≤sizeLine;decide),fun p2 hp2=>sw (by decide +kernel) (yP i) ((al.new hp2 _) _ _ hp) aj ⟨_,rfl,cA ⟨s16.trans (s17.trans (al.new hp2 _)),_,rfl⟩⟩⟩
 rintro σ H16 ⟨s16,o11',rfl⟩;have sA:=s15.trans s16;refine⟨3,rfl,by decide,by decide,cO (fun (_:Nat) σ H'=>al H16 H'∧∃ o12:Option V,σ=[some (.ref a),some (.ref l),some (.ref la),some (.ref x),some (.ref ld),some (.int ((6 + j:Nat):Int)),o6,some (.int m),some rv,some (.str (wdI i)),o10,o11',o12]) ⟨al.refl _,_,rfl⟩ ?_ ?_⟩
 ·rintro k σ H17 hk ⟨s17,o12,rfl⟩;have hk':k < 3:=hk;rw[show (0:Int) + (k:Int)=(k:Int) from DO _];have sB:=sA.trans s17;obtain⟨n,v,Lk,t,hn,atn,atd,look,⟨sh,gt,hLk,hct⟩⟩:∃ (n:List Nat) (v:V) (Lk:Nat) (t:Tr),n∈[n0,n1,n2,n3]∧atI [V.str (tx n0),V.str (tx n1),V.str (tx n2),V.str (tx n3)] (k:Int)=some (.str (tx n))∧atI [V.str (tx (lv L0++58::wr t0)),.str (tx (lv L1++58::wr t1)),.str (tx (lv L2++58::wr (.col 4)))] (k:Int)=some (.str (tx (lv Lk++58::wr t)))∧(D3 n0 n1 n2 v0 v1 v2).lookup n=some v∧fB H11 v (Lk:Int) t∧bh Lk t∧Lk≤40∧cnt t≤1500:=by
   have g0:VOk (D3 n0 n1 n2 v0 v1 v2) .one n0 (.v v0):=gR hN;have g1:VOk (D3 n0 n1 n2 v0 v1 v2) .one n1 (.v v1):=yd hN;have g2:VOk (D3 n0 n1 n2 v0 v1 v2) .one n2 (.v v2):=yc hN;rcases k with _ | _ | _ | k
   ·cases g0 with | one _ g=>exact⟨n0,v0,L0,t0,by simp,rfl,rfl,g,k0⟩
   ·cases g1 with | one _ g=>exact⟨n1,v1,L1,t1,by simp,rfl,rfl,g,k1⟩
   ·cases g2 with | one _ g=>exact⟨n2,v2,L2,_,by simp,rfl,rfl,g,k2⟩
   ·omega
  have ln:=nl n hn;refine⟨_,rfl,_,rfl,_,rfl,l,_,_,_,rfl,rfl,SqL.of (sB _ _ hl11),atn,_,_,rfl,rfl,a9 (by rw[aw,ls0];omega),x,dx,kd,_,_,rfl,d11.up sB,(by show 3≤10;decide),.inr ⟨n,v,Lk,t,Cs V.str pZ,nm n hn,look,sh.up sB.tups,gt,hLk,hct,fun p H18 s18 hp =>?_⟩⟩;refine⟨_,rfl,_,rfl,ld,_,_,_,rfl,rfl,SqL.of ((sB.trans s18) _ _ u11),atd,(by show 2≤sizeLine;decide),fun p2 hp2=>sw (by decide +kernel) (zj gt hLk) ((al.new hp2 _) _ _ hp) aj ⟨_,rfl,cA ⟨s17.trans (s18.trans (al.new hp2 _)),_,rfl⟩⟩⟩
 rintro σ H17 ⟨s17,o12',rfl⟩;have sB:=sA.trans s17;have ln:=nl n3 (by simp);refine⟨_,rfl,_,rfl,l,_,_,_,rfl,rfl,SqL.of (sB _ _ hl11),rfl,_,_,rfl,rfl,a9 (by rw[aw,ls0];omega),x,dx,kd,_,_,rfl,d11.up sB,(by show 3≤10;decide),.inl ⟨9,by decide,.inr ⟨[115,104,111,119],[n3],[.one],Cs V.str pZ,bx (okw ⟨by decide,by decide⟩ (okw ⟨cZ (nm n3 (by simp)),by omega⟩ okn)) (Cb rfl),a6 (e:=([115,104,111,119],[102])) (by decide),rfl,.inl (.here (.none (nm n3 (by simp)) (yW hN)))⟩,fun p H18 s18 hp =>?_⟩⟩;refine⟨(by show 2≤sizeLine;decide),fun p2 hp2=>sw (by decide +kernel) (yP 9) ((al.new hp2 _) _ _ hp) aj ⟨_,rfl,cA ⟨sB.trans (s18.trans (al.new hp2 _)),_,_,_,_,_,_,_,_,rfl⟩⟩⟩
end
inductive Its (w:World):List (Key × V)→List DictEntry→List (Key × Value)→Prop
 | nil:Its w [] [] []
 | cons {k:Str} {tk:Tok} {v:V} {u:Value} {kvs:List (Key × V)} {es:List DictEntry} {vs:List (Key × Value)}:a_ v u→Its w kvs es vs→Its w ((.inr k,v)::kvs) (⟨PyData.keyHash w.params k,.str k tk,u⟩::es) ((.inr k,u)::vs)
theorem tN {P:Program}{w:World}{K:PySem.W.Frag}{a:Addr}{kvs:List (Key × V)}{es:List DictEntry}{vs:List (Key × Value)}{n:Nat}(h:Its w kvs es vs)(y:K.lookup a=some ⟨.type "dict",none,.dict es.toArray n,#[]⟩)(nd:(kvs.map (·.1)).Nodup):KD P w K a kvs:=by
 refine⟨_,vs,y,?_,_,_,⟨rfl,rfl,rfl⟩,rfl,fun e he =>?_,?_,?_⟩
 ·clear y nd
  induction h with
  | nil=>exact .nil
  | cons r _ ih=>exact .cons ⟨rfl,r⟩ ih
 ·have he':e∈es:=by simpa using he
  clear y nd he
  induction h with
  | nil=>cases he'
  | cons r _ ih =>
   rcases B6.mp he' with rfl|h
   ·exact⟨.inr _,jy ⟨_,rfl⟩,rfl⟩
   ·exact ih h
 ·clear y nd
  induction h with
  | nil=>exact .nil
  | cons r _ ih=>exact .cons (jy ⟨_,rfl⟩) rfl ih
 ·have e:vs.map (·.1)=kvs.map (·.1):=by
   clear y nd
   induction h with
   | nil=>rfl
   | cons r _ ih=>rw[Ct,Ct,ih]
  rw[e];exact nd
section
variable {P:Program}{w:World}{K:PySem.W.Frag}{mg:Str→Option Value}{base:Heap}{CX:CXT}{f:Addr}{fd:FuncData}{C:Addr}
abbrev jM:Stmt:=top 42
theorem rD:ap ["tree","code","sign"] ["tree","code"] (ai jM):=⟨rfl,rfl,rfl,by decide +kernel,rfl,by decide +kernel,by decide +kernel⟩
theorem rZ (T:Tx K mg)(F:aN K "tree_at" "tree_at" jM f fd .none):aO P w K mg base (CXe P w) 1 f fd ["tree","code"] yS:=F.ok rD (fun _ _ _ _ h=>h.elim) (fun _ _ _ _ _ _ _ _ _ h=>h.elim)
theorem xR {Y:Yx K mg}{vs:List V}{H:Hp}{Q:VK}{E:XK}(h:lI Y .new vs H Q E):iw Y vs H Q E:=by
 obtain⟨w',rfl,hw,h⟩:=h;refine⟨w',rfl,hw,fun hn =>?_,fun hn =>?_⟩
 ·rcases h with⟨x,v,q'⟩|⟨c,v,q'⟩
  ·cases v;exact q'
  ·cases v with | new e=>rw[hn]at e;cases e
 ·rcases h with⟨x,v,q'⟩|⟨c,v,q'⟩
  ·cases v with | new e=>rw[hn]at e;cases e
  ·cases v;exact q'
end
theorem eD {us:List Value}{n:Nat}(h:us.length=n + 1):∃ a t,us=a::t∧t.length=n:=by
 cases us with
 | nil=>cases h
 | cons a t=>exact⟨a,t,rfl,Nat.succ.inj h⟩
theorem Bh {us:List Value}(h:us.length=0):us=[]:=by
 have e:=CB h;subst e;exact rfl
theorem Bg {us:List Value}(h:us.length=1):∃ a,us=[a]:=by
 obtain⟨a,u0,e0,h⟩:=eD h;have e:=CB h;subst e;subst e0;exact⟨a,rfl⟩
theorem yX {us:List Value}(h:us.length=2):∃ a b,us=[a,b]:=by
 obtain⟨a,u0,e0,h⟩:=eD h;obtain⟨b,u1,e1,h⟩:=eD h;have e:=CB h;subst e;subst e1;subst e0;exact⟨a,b,rfl⟩
theorem Bf {us:List Value}(h:us.length=3):∃ a b c,us=[a,b,c]:=by
 obtain⟨a,u0,e0,h⟩:=eD h;obtain⟨b,u1,e1,h⟩:=eD h;obtain⟨c,u2,e2,h⟩:=eD h;have e:=CB h;subst e;subst e2;subst e1;subst e0;exact⟨a,b,c,rfl⟩
theorem Be {us:List Value}(h:us.length=4):∃ a b c d,us=[a,b,c,d]:=by
 obtain⟨a,u0,e0,h⟩:=eD h;obtain⟨b,u1,e1,h⟩:=eD h;obtain⟨c,u2,e2,h⟩:=eD h;obtain⟨d,u3,e3,h⟩:=eD h;have e:=CB h;subst e;subst e3;subst e2;subst e1;subst e0;exact⟨a,b,c,d,rfl⟩
theorem Bd {us:List Value}(h:us.length=5):∃ a b c d e,us=[a,b,c,d,e]:=by
 obtain⟨a,u0,e0,h⟩:=eD h;obtain⟨b,u1,e1,h⟩:=eD h;obtain⟨c,u2,e2,h⟩:=eD h;obtain⟨d,u3,e3,h⟩:=eD h;obtain⟨e,u4,e4,h⟩:=eD h;have e:=CB h;subst e;subst e4;subst e3;subst e2;subst e1;subst e0;exact⟨a,b,c,d,e,rfl⟩
theorem BM {us:List Value}{d:Value}(h:(us++[d]).length=2):∃ a,us=[a]:=by
 match us,h with
 | [a],_=>exact⟨a,rfl⟩
 | [],h=>simp at h
 | _::_::_,h=>simp at h
structure Df (K:PySem.W.Frag)(x:Str)(st:Stmt)(f:Addr)(fd:FuncData):Prop where
 F:aN K x x st f fd .none
 a:PySem.W.nsIn K mainGlobals x=some (some (.ref f))
theorem df {K:PySem.W.Frag}{x:Str}{st:Stmt}{f:Addr}{oc:Value}{od an:Option Addr}{osl:Array (Option Value)}{kV doc pm cdv ct:Value}(a:PySem.W.nsIn K mainGlobals x=some (some (.ref f)))(l:K.lookup f=some ⟨oc,od,.func (PySem.W.fnOf x x (bR st) (bt st) (ai st) .none kV doc pm an cdv ct),osl⟩)
  (c:PySem.W.codeIn K cdv x=true) (k:PySem.W.keepIn K (.ref f)=true):Df K x st f (PySem.W.fnOf x x (bR st) (bt st) (ai st) .none kV doc pm an cdv ct):=⟨lq l c k,a⟩
structure Dm (K:PySem.W.Frag)(C:Addr)(x q:Str)(st:Stmt)(f:Addr)(fd:FuncData):Prop where
 F:aN K x q st f fd .none
 a:PySem.W.findIn K (.ref C) x=some (some (.ref f))
 i:PySem.W.isFn K (.ref f)=true
theorem dm {K:PySem.W.Frag}{C:Addr}{x q:Str}{st:Stmt}{f:Addr}{oc:Value}{od an:Option Addr}{osl:Array (Option Value)}{kV doc pm cdv ct:Value}(a:PySem.W.findIn K (.ref C) x=some (some (.ref f)))(i:PySem.W.isFn K (.ref f)=true)(l:K.lookup f=some ⟨oc,od,.func (PySem.W.fnOf x q (bR st) (bt st) (ai st) .none kV doc pm an cdv ct),osl⟩)
  (c:PySem.W.codeIn K cdv q=true) (k:PySem.W.keepIn K (.ref f)=true):Dm K C x q st f (PySem.W.fnOf x q (bR st) (bt st) (ai st) .none kV doc pm an cdv ct):=⟨lq l c k,a,i⟩
theorem bd0 {K:PySem.W.Frag}{x q:Str}{st:Stmt}{f:Addr}{fd:FuncData}{dV:Value}(F:aN K x q st f fd dV)(h:∀ (kV doc pm:Value) (an:Option Addr) (cdv ct:Value),bindArgs (PySem.W.fnOf x q (bR st) (bt st) (ai st) dV kV doc pm an cdv ct) ⟨[],[]⟩=pure []:=by intros;rfl):bU K fd [] []:=F.binds fun _ _ _ _ _ _ us hl=>by
 obtain rfl:=Bh hl;exact h _ _ _ _ _ _ 
theorem bd1 {K:PySem.W.Frag}{x q:Str}{st:Stmt}{f:Addr}{fd:FuncData}{dV:Value}{p0:Str}(F:aN K x q st f fd dV)(h:∀ (kV doc pm:Value) (an:Option Addr) (cdv ct:Value) (a:Value),bindArgs (PySem.W.fnOf x q (bR st) (bt st) (ai st) dV kV doc pm an cdv ct) ⟨[a],[]⟩=pure [(p0,a)]:=by intros;rfl):bU K fd [p0] []:=F.binds fun _ _ _ _ _ _ us hl=>by
 obtain⟨a,rfl⟩:=Bg hl;exact h _ _ _ _ _ _ _ 
theorem bd2 {K:PySem.W.Frag}{x q:Str}{st:Stmt}{f:Addr}{fd:FuncData}{dV:Value}{p0 p1:Str}(F:aN K x q st f fd dV)(h:∀ (kV doc pm:Value) (an:Option Addr) (cdv ct:Value) (a b:Value),bindArgs (PySem.W.fnOf x q (bR st) (bt st) (ai st) dV kV doc pm an cdv ct) ⟨[a,b],[]⟩=pure [(p0,a),(p1,b)]:=by intros;rfl):bU K fd [p0,p1] []:=F.binds fun _ _ _ _ _ _ us hl=>by
 obtain⟨a,b,rfl⟩:=yX hl;exact h _ _ _ _ _ _ _ _ 
theorem bd3 {K:PySem.W.Frag}{x q:Str}{st:Stmt}{f:Addr}{fd:FuncData}{dV:Value}{p0 p1 p2:Str}(F:aN K x q st f fd dV)(h:∀ (kV doc pm:Value) (an:Option Addr) (cdv ct:Value) (a b c:Value),bindArgs (PySem.W.fnOf x q (bR st) (bt st) (ai st) dV kV doc pm an cdv ct) ⟨[a,b,c],[]⟩=pure [(p0,a),(p1,b),(p2,c)]:=by intros;rfl):bU K fd [p0,p1,p2] []:=F.binds fun _ _ _ _ _ _ us hl=>by
 obtain⟨a,b,c,rfl⟩:=Bf hl;exact h _ _ _ _ _ _ _ _ _ 
theorem bd4 {K:PySem.W.Frag}{x q:Str}{st:Stmt}{f:Addr}{fd:FuncData}{dV:Value}{p0 p1 p2 p3:Str}(F:aN K x q st f fd dV)(h:∀ (kV doc pm:Value) (an:Option Addr) (cdv ct:Value) (a b c d:Value),bindArgs (PySem.W.fnOf x q (bR st) (bt st) (ai st) dV kV doc pm an cdv ct) ⟨[a,b,c,d],[]⟩=pure [(p0,a),(p1,b),(p2,c),(p3,d)]:=by intros;rfl):bU K fd [p0,p1,p2,p3] []:=F.binds fun _ _ _ _ _ _ us hl=>by
 obtain⟨a,b,c,d,rfl⟩:=Be hl;exact h _ _ _ _ _ _ _ _ _ _ 
theorem bd5 {K:PySem.W.Frag}{x q:Str}{st:Stmt}{f:Addr}{fd:FuncData}{dV:Value}{p0 p1 p2 p3 p4:Str}(F:aN K x q st f fd dV)(h:∀ (kV doc pm:Value) (an:Option Addr) (cdv ct:Value) (a b c d e:Value),bindArgs (PySem.W.fnOf x q (bR st) (bt st) (ai st) dV kV doc pm an cdv ct) ⟨[a,b,c,d,e],[]⟩=pure [(p0,a),(p1,b),(p2,c),(p3,d),(p4,e)]:=by intros;rfl):bU K fd [p0,p1,p2,p3,p4] []:=F.binds fun _ _ _ _ _ _ us hl=>by
 obtain⟨a,b,c,d,e,rfl⟩:=Bd hl;exact h _ _ _ _ _ _ _ _ _ _ _ 
structure Kt (K:PySem.W.Frag)(a b:Addr):Prop where
 h:PySem.W.kitOne K (.ref a) (.ref b)=some false
structure Kv (K:PySem.W.Frag)(a:Addr):Prop where
 h:PySem.W.kitOne K (.ref a) (.type "ValueError")=some true
structure Ke (K:PySem.W.Frag)(a b:Addr):Prop where
 h:PySem.W.exmOne K (.ref a) (.ref b)=some true
structure Kx (K:PySem.W.Frag)(a:Addr):Prop where
 h:PySem.W.excIn K a bmV "ValueError.__new__" = true
theorem Ay {l:PySem.W.OpenLaw}{w:World}{K:PySem.W.Frag}{h:Heap}{mg:Str→Option Value}{fa C f0 f1 f2 f3 f4 f5 f6 f7 f8 f9 f10 f11 f12 f13 f14 f15 f16 f17 f18 f19 f20 f21 f22 f23 f24 f25 f26 f27 f28 f29 f30 f31 f32 f33 f34 f35 f36 f37 f38 f39 f40 f41 f42 f43 f44 f45 f46 f47 f48 f49 f50 f51 f52 f53 f54 f55 f56 f57 f58 f59 f60 f61 f62 f63 f64 f65 f66 f67 f68 f69 f70 f71 f72 f73 f74 f75 f76 f77 f78 f79 f80 f81:Addr}{g0 g1 g2 g3 g4 g5 g6 g8 g9 g10 g11 g12 g13 g14 g15 g16 g17 g18 g19 g20 g21 g22 g23 g24 g25 g26 g27 g28 g29 g30 g31 g32 g33 g34 g35 g36 g37 g38 g39 g40 g41 g42 g43 g44 g45 g46 g47 g48 g49 g50 g51 g52 g53 g54 g55 g56 g57 g58 g59 g60 g61 g62 g63 g64 g65 g66 g67 g68 g69 g70 g71 g72 g73 g74 g75 g76 g77 g78 g79 g80:FuncData}(X:K.In h)(G:h.Ns mainGlobals mg)(hfa:mg "law" = some (.ref fa))
  {od7 an7:Option Addr} {sl7:Array (Option Value)} {oc7 kV7 dc7 pm7 cd7 ct7:Value} {od81 an81:Option Addr} {sl81:Array (Option Value)} {oc81 kV81 dc81 pm81 cd81 ct81:Value}
  {dt7:Addr} {do7:Option Addr} {dn7:Nat} {dsl7:Array (Option Value)} {dk7:Tok}
  (aC:PySem.W.nsIn K mainGlobals "Desk" = some (some (.ref C)))
  (d_0:Df K "tree_at" jM f0 g0)
  (d_1:Df K "is_whole" iK f1 g1)
  (d_2:Df K "is_level" iL f2 g2)
  (d_3:Df K "is_colour" gM f3 g3)
  (d_4:Df K "is_code" jV f4 g4)
  (d_5:Df K "is_side" jT f5 g5)
  (d_6:Df K "need_side" gE f6 g6)
  (a7:PySem.W.nsIn K mainGlobals "need_level" = some (some (.ref f7))) (l7:K.lookup f7=some ⟨oc7,od7,.func (PySem.W.fnOf "need_level" "need_level" (bR cK) (bt cK) (ai cK) (.ref dt7) kV7 dc7 pm7 an7 cd7 ct7),sl7⟩) (c7:PySem.W.codeIn K cd7 "need_level" = true) (k7:PySem.W.keepIn K (.ref f7)=true)
  (d7:K.lookup dt7=some ⟨.type "tuple",do7,.seq #[.int 0 dk7] dn7,dsl7⟩)
  (d_8:Df K "need_small_level" cS f8 g8)
  (d_9:Df K "need_code_within" cT f9 g9)
  (d_10:Df K "need_colour" eY f10 g10)
  (d_11:Df K "width_of" iB f11 g11)
  (d_12:Df K "need_place" fL f12 g12)
  (d_13:Df K "code_at" jW f13 g13)
  (d_14:Df K "leaf_at" jQ f14 g14)
  (d_15:Df K "is_of_one_colour" cU f15 g15)
  (d_16:Df K "gathered" iM f16 g16)
  (d_17:Df K "is_number_word" dB f17 g17)
  (d_18:Df K "colour_of" gO f18 g18)
  (d_19:Df K "tree_read" gB f19 g19)
  (d_20:Df K "read" rM f20 g20)
  (d_21:Df K "written_tree" dY f21 g21)
  (d_22:Df K "written" jL f22 g22)
  (d_23:Df K "is_leaf" jU f23 g23)
  (d_24:Df K "beyond" lY f24 g24)
  (d_25:Df K "part_at" jN f25 g25)
  (d_26:Df K "painted" jO f26 g26)
  (d_27:Df K "put_in" lV f27 g27)
  (d_28:Df K "window" lU f28 g28)
  (d_29:Df K "laid" rO f29 g29)
  (d_30:Df K "need_one_level" dz f30 g30)
  (d_31:Df K "over" rN f31 g31)
  (d_32:Df K "plain" oI f32 g32)
  (d_33:Df K "colour_at" gP f33 g33)
  (d_34:Df K "rings" oH f34 g34)
  (d_35:Df K "way_between" eV f35 g35)
  (d_36:Df K "need_number_to" dA f36 g36)
  (d_37:Df K "finer" oJ f37 g37)
  (d_38:Df K "coarser" jX f38 g38)
  (d_39:Df K "made_plain" fM f39 g39)
  (d_40:Df K "made_as_it_is" dQ f40 g40)
  (d_41:Df K "made_part" gF f41 g41)
  (d_42:Df K "made_window" eZ f42 g42)
  (d_43:Df K "made_over" gG f43 g43)
  (d_44:Df K "made_painted" d_ f44 g44)
  (d_45:Df K "made_put" iD f45 g45)
  (d_46:Df K "made_laid" gH f46 g46)
  (d_47:Df K "made_finer" fN f47 g47)
  (d_48:Df K "made_coarser" eh f48 g48)
  (d_49:Df K "told_sign" gD f49 g49)
  (d_50:Df K "told_beyond" eW f50 g50)
  (d_51:Df K "told_steps" fJ f51 g51)
  (d_52:Df K "told_rings" fK f52 g52)
  (d_53:Df K "told_text" gC f53 g53)
  (d_54:Df K "words_of" iA f54 g54)
  (d_55:Df K "name_of" jP f55 g55)
  (d_56:Df K "sheet_named" eX f56 g56)
  (d_57:Df K "code_of_word" eo f57 g57)
  (d_58:Df K "colour_of_word" dC f58 g58)
  (d_59:Df K "number_of_word" dy f59 g59)
  (d_60:Df K "side_of_word" dZ f60 g60)
  (d_61:Df K "value_of" iC f61 g61)
  (d_62:Df K "values_of" gA f62 g62)
  (d_63:Dm K C "__init__" "Desk.__init__" lX f63 g63)
  (d_64:Dm K C "say" "Desk.say" wg f64 g64)
  (d_65:Df K "_law_at" lW f65 g65)
  (d_66:Df K "_law_mix" jR f66 g66)
  (d_67:Df K "_law_code" iJ f67 g67)
  (d_68:Df K "_law_knit" iH f68 g68)
  (d_69:Df K "_law_painted" fb f69 g69)
  (d_70:Df K "_law_colour" fO f70 g70)
  (d_71:Df K "_law_tree" iF f71 g71)
  (d_72:Df K "_law_signs" gI f72 g72)
  (d_73:Df K "_law_names" gJ f73 g73)
  (d_74:Df K "_law_forms" gK f74 g74)
  (d_75:Df K "_law_good" iI f75 g75)
  (d_76:Df K "_law_bad" jS f76 g76)
  (d_77:Df K "_law_spoiled" e_ f77 g77)
  (d_78:Df K "_law_deeds" gL f78 g78)
  (d_79:Df K "_law_word" iE f79 g79)
  (d_80:Df K "_law_said" iG f80 g80)
  (a81:PySem.W.nsIn K mainGlobals "law" = some (some (.ref f81))) (l81:K.lookup f81=some ⟨oc81,od81,.func (PySem.W.fnOf "law" "law" (bR jf) (bt jf) (ai jf) .none kV81 dc81 pm81 an81 cd81 ct81),sl81⟩) (c81:PySem.W.codeIn K cd81 "law" = true) (k81:PySem.W.keepIn K (.ref f81)=true)
  (z0:PySem.W.nsIn K mainGlobals "isinstance" = some none)
  (z1:PySem.W.nsIn K mainGlobals "int" = some none)
  (z2:PySem.W.nsIn K mainGlobals "bool" = some none)
  {zt3:Tok} (z3:PySem.W.nsIn K mainGlobals "MOST" = some (some (.int 40 zt3)))
  {zt4:Tok} (z4:PySem.W.nsIn K mainGlobals "LAST_COLOUR" = some (some (.int 35 zt4)))
  (z5:PySem.W.nsIn K mainGlobals "all" = some none)
  (z6:PySem.W.nsIn K mainGlobals "str" = some none)
  (z7:PySem.W.nsIn K mainGlobals "len" = some none)
  {zt8:Tok} (z8:PySem.W.nsIn K mainGlobals "QUARTERS" = some (some (.str "0123" zt8)))
  {zt9:Tok} (z9:PySem.W.nsIn K mainGlobals "MOST_SMALL" = some (some (.int 6 zt9)))
  (z10:PySem.W.nsIn K mainGlobals "range" = some none)
  (z11:PySem.W.nsIn K mainGlobals "tuple" = some none)
  (z12:PySem.W.nsIn K mainGlobals "list" = some none)
  (z13:PySem.W.nsIn K mainGlobals "sorted" = some none)
  (z14:PySem.W.nsIn K mainGlobals "max" = some none)
  (z15:PySem.W.nsIn K mainGlobals "min" = some none)
  (z16:PySem.W.nsIn K mainGlobals "dict" = some none)
  (z17:PySem.W.nsIn K mainGlobals "any" = some none)
  {zt18:Tok} (z18:PySem.W.nsIn K mainGlobals "FIGURES" = some (some (.str "0123456789" zt18)))
  {zt19:Tok} (z19:PySem.W.nsIn K mainGlobals "SIGNS" = some (some (.str "0123456789abcdefghijklmnopqrstuvwxyz" zt19)))
  {zt20:Tok} (z20:PySem.W.nsIn K mainGlobals "MOST_LETTERS" = some (some (.int 8 zt20)))
  {zt21:Tok} (z21:PySem.W.nsIn K mainGlobals "LETTERS" = some (some (.str "abcdefghijklmnopqrstuvwxyz" zt21)))
  {zt22:Tok} (z22:PySem.W.nsIn K mainGlobals "MOST_FIGURES" = some (some (.int 30 zt22)))
  (z23:PySem.W.nsIn K mainGlobals "zip" = some none)
  (z24:PySem.W.nsIn K mainGlobals "enumerate" = some none)
  (z25:PySem.W.nsIn K mainGlobals "ValueError" = some none)
  (z26:PySem.W.nsIn K mainGlobals "set" = some none)
  (pg:PySem.W.plainGet K C Str.empty=true) (hd:PySem.W.hasDictIn K C=true) (po:PySem.W.plainOver K C=true) (sa:PySem.W.findIn K (.ref C) "__setattr__" = some (some (.builtin "object.__setattr__"))) (mk:PySem.W.makesIn K C=true) (kc:PySem.W.keepIn K (.ref C)=true)
  (na0:PySem.W.findIn K (.ref C) "kept" = some none)
  {aS:Addr} {oS:Option Addr} {tS0 tS1 tS2 tS3:Tok} {nS:Nat} {slS:Array (Option Value)} (u0:PySem.W.nsIn K mainGlobals "SIDES" = some (some (.ref aS))) (u1:K.lookup aS=some ⟨.type "tuple",oS,.seq #[.str "up" tS0,.str "right" tS1,.str "down" tS2,.str "left" tS3] nS,slS⟩)
  {aF:Addr} {tF0 tF1 tF2 tF3 tF4 tF5 tF6 tF7 tF8 tF9 tF10 tF11 tF12 tF13 tF14 tF15 tF16 tF17 tF18 tF19 tF20 tF21 tF22 tF23 tF24:Tok} {vF0 vF1 vF2 vF3 vF4 vF5 vF6 vF7 vF8 vF9 vF10 vF11 vF12 vF13 vF14 vF15 vF16 vF17 vF18 vF19 vF20 vF21 vF22 vF23 vF24:Tok} {nF:Nat} (u2:PySem.W.nsIn K mainGlobals "FORMS" = some (some (.ref aF))) (u3:K.lookup aF=some ⟨.type "dict",none,.dict #[⟨PyData.keyHash w.params "plain",.str "plain" tF0,.str "NEW NUMBER COLOUR" vF0⟩,⟨PyData.keyHash w.params "read",.str "read" tF1,.str "NEW TEXT" vF1⟩,⟨PyData.keyHash w.params "copy",.str "copy" tF2,.str "NEW ONE" vF2⟩,⟨PyData.keyHash w.params "drop",.str "drop" tF3,.str "ONE" vF3⟩,⟨PyData.keyHash w.params "part",.str "part" tF4,.str "NEW ONE CODE" vF4⟩,⟨PyData.keyHash w.params "window",.str "window" tF5,.str "NEW ONE NUMBER NUMBER NUMBER COLOUR" vF5⟩,⟨PyData.keyHash w.params "over",.str "over" tF6,.str "NEW ONE ONE COLOUR" vF6⟩,⟨PyData.keyHash w.params "paint",.str "paint" tF7,.str "ONE CODE COLOUR" vF7⟩,⟨PyData.keyHash w.params "map",.str "map" tF8,.str "ONE COLOUR COLOUR" vF8⟩,⟨PyData.keyHash w.params "turn",.str "turn" tF9,.str "ONE" vF9⟩,⟨PyData.keyHash w.params "mirror",.str "mirror" tF10,.str "ONE" vF10⟩,⟨PyData.keyHash w.params "swap",.str "swap" tF11,.str "ONE" vF11⟩,⟨PyData.keyHash w.params "put",.str "put" tF12,.str "ONE CODE ONE" vF12⟩,⟨PyData.keyHash w.params "lay",.str "lay" tF13,.str "ONE NUMBER NUMBER ONE" vF13⟩,⟨PyData.keyHash w.params "finer",.str "finer" tF14,.str "ONE NUMBER" vF14⟩,⟨PyData.keyHash w.params "coarser",.str "coarser" tF15,.str "ONE NUMBER" vF15⟩,⟨PyData.keyHash w.params "show",.str "show" tF16,.str "ONE" vF16⟩,⟨PyData.keyHash w.params "at",.str "at" tF17,.str "ONE NUMBER NUMBER" vF17⟩,⟨PyData.keyHash w.params "same",.str "same" tF18,.str "ONE ONE" vF18⟩,⟨PyData.keyHash w.params "area",.str "area" tF19,.str "ONE COLOUR" vF19⟩,⟨PyData.keyHash w.params "leaves",.str "leaves" tF20,.str "ONE" vF20⟩,⟨PyData.keyHash w.params "beyond",.str "beyond" tF21,.str "ONE CODE SIDE" vF21⟩,⟨PyData.keyHash w.params "lands",.str "lands" tF22,.str "ONE" vF22⟩,⟨PyData.keyHash w.params "steps",.str "steps" tF23,.str "ONE NUMBER NUMBER NUMBER NUMBER" vF23⟩,⟨PyData.keyHash w.params "rings",.str "rings" tF24,.str "ONE NUMBER NUMBER" vF24⟩] nF,#[]⟩) (u4:(aF == sysModules)=false)
  {aR:Addr} {tR0 tR1 tR2 tR3 tR4:Tok}  {nR:Nat} (u5:PySem.W.nsIn K mainGlobals "READ_BY" = some (some (.ref aR))) (u6:K.lookup aR=some ⟨.type "dict",none,.dict #[⟨PyData.keyHash w.params "NEW",.str "NEW" tR0,.ref f55⟩,⟨PyData.keyHash w.params "CODE",.str "CODE" tR1,.ref f57⟩,⟨PyData.keyHash w.params "COLOUR",.str "COLOUR" tR2,.ref f58⟩,⟨PyData.keyHash w.params "NUMBER",.str "NUMBER" tR3,.ref f59⟩,⟨PyData.keyHash w.params "SIDE",.str "SIDE" tR4,.ref f60⟩] nR,#[]⟩) (u7:(aR == sysModules)=false)
  {aM:Addr} {tM0 tM1 tM2 tM3 tM4 tM5 tM6 tM7 tM8 tM9 tM10 tM11 tM12 tM13 tM14:Tok} {xM0 xM1 xM2 xM3:Addr} {nM:Nat} (u8:PySem.W.nsIn K mainGlobals "MADE_BY" = some (some (.ref aM))) (u9:K.lookup aM=some ⟨.type "dict",none,.dict #[⟨PyData.keyHash w.params "plain",.str "plain" tM0,.ref f39⟩,⟨PyData.keyHash w.params "read",.str "read" tM1,.ref f40⟩,⟨PyData.keyHash w.params "copy",.str "copy" tM2,.ref f40⟩,⟨PyData.keyHash w.params "part",.str "part" tM3,.ref f41⟩,⟨PyData.keyHash w.params "window",.str "window" tM4,.ref f42⟩,⟨PyData.keyHash w.params "over",.str "over" tM5,.ref f43⟩,⟨PyData.keyHash w.params "paint",.str "paint" tM6,.ref f44⟩,⟨PyData.keyHash w.params "map",.str "map" tM7,.ref xM0⟩,⟨PyData.keyHash w.params "turn",.str "turn" tM8,.ref xM1⟩,⟨PyData.keyHash w.params "mirror",.str "mirror" tM9,.ref xM2⟩,⟨PyData.keyHash w.params "swap",.str "swap" tM10,.ref xM3⟩,⟨PyData.keyHash w.params "put",.str "put" tM11,.ref f45⟩,⟨PyData.keyHash w.params "lay",.str "lay" tM12,.ref f46⟩,⟨PyData.keyHash w.params "finer",.str "finer" tM13,.ref f47⟩,⟨PyData.keyHash w.params "coarser",.str "coarser" tM14,.ref f48⟩] nM,#[]⟩) (u10:(aM == sysModules)=false)
  {aD:Addr} {tD0 tD1 tD2 tD3 tD4 tD5 tD6 tD7 tD8:Tok} {xD0 xD1 xD2 xD3:Addr} {nD:Nat} (u11:PySem.W.nsIn K mainGlobals "TOLD_BY" = some (some (.ref aD))) (u12:K.lookup aD=some ⟨.type "dict",none,.dict #[⟨PyData.keyHash w.params "show",.str "show" tD0,.ref f53⟩,⟨PyData.keyHash w.params "at",.str "at" tD1,.ref f49⟩,⟨PyData.keyHash w.params "same",.str "same" tD2,.ref xD0⟩,⟨PyData.keyHash w.params "area",.str "area" tD3,.ref xD1⟩,⟨PyData.keyHash w.params "leaves",.str "leaves" tD4,.ref xD2⟩,⟨PyData.keyHash w.params "beyond",.str "beyond" tD5,.ref f50⟩,⟨PyData.keyHash w.params "lands",.str "lands" tD6,.ref xD3⟩,⟨PyData.keyHash w.params "steps",.str "steps" tD7,.ref f51⟩,⟨PyData.keyHash w.params "rings",.str "rings" tD8,.ref f52⟩] nD,#[]⟩) (u13:(aD == sysModules)=false)
  {cNoLevel cNoCode cNoColour cNoPlace cNoSide cNoLeaf cTwice cGap cNoText cNoName cNoNumber cNoRow cSheetError:Addr}
  (y0:PySem.W.nsIn K mainGlobals "NoLevel" = some (some (.ref cNoLevel)))
  (y1:PySem.W.nsIn K mainGlobals "NoCode" = some (some (.ref cNoCode)))
  (y2:PySem.W.nsIn K mainGlobals "NoColour" = some (some (.ref cNoColour)))
  (y3:PySem.W.nsIn K mainGlobals "NoPlace" = some (some (.ref cNoPlace)))
  (y4:PySem.W.nsIn K mainGlobals "NoSide" = some (some (.ref cNoSide)))
  (y5:PySem.W.nsIn K mainGlobals "NoLeaf" = some (some (.ref cNoLeaf)))
  (y6:PySem.W.nsIn K mainGlobals "Twice" = some (some (.ref cTwice)))
  (y7:PySem.W.nsIn K mainGlobals "Gap" = some (some (.ref cGap)))
  (y8:PySem.W.nsIn K mainGlobals "NoText" = some (some (.ref cNoText)))
  (y9:PySem.W.nsIn K mainGlobals "NoName" = some (some (.ref cNoName)))
  (y10:PySem.W.nsIn K mainGlobals "NoNumber" = some (some (.ref cNoNumber)))
  (y11:PySem.W.nsIn K mainGlobals "NoRow" = some (some (.ref cNoRow)))
  (y12:PySem.W.nsIn K mainGlobals "SheetError" = some (some (.ref cSheetError)))
  (y13:Kx K cNoLevel)
  (y14:PySem.W.findIn K (.ref cNoLevel) "__getattribute__" = some (some (.builtin "BaseException.__getattribute__")))
  (y15:PySem.W.findIn K (.ref cNoLevel) "__getattr__" = some none)
  (y16:PySem.W.findIn K (.ref cNoLevel) "__class__" = some (some (.builtin "object.__class__")))
  (y17:PySem.W.subIn K (.ref cNoLevel) (.type "object")=some true)
  (y18:PySem.W.subIn K (.ref cNoLevel) (.type "BaseException")=some true)
  {cdNoLevel:ClassData}
  (y19:PySem.W.clsIn K cNoLevel=some cdNoLevel)
  (y20:Ke K cNoLevel cSheetError)
  (y21:Kv K cNoLevel)
  (y22:Kt K cNoLevel cNoCode)
  (y23:Kt K cNoLevel cNoColour)
  (y24:Kt K cNoLevel cNoPlace)
  (y25:Kt K cNoLevel cNoSide)
  (y26:Kt K cNoLevel cNoLeaf)
  (y27:Kt K cNoLevel cTwice)
  (y28:Kt K cNoLevel cGap)
  (y29:Kt K cNoLevel cNoText)
  (y30:Kt K cNoLevel cNoName)
  (y31:Kt K cNoLevel cNoNumber)
  (y32:Kt K cNoLevel cNoRow)
  (y33:Kx K cNoCode)
  (y34:PySem.W.findIn K (.ref cNoCode) "__getattribute__" = some (some (.builtin "BaseException.__getattribute__")))
  (y35:PySem.W.findIn K (.ref cNoCode) "__getattr__" = some none)
  (y36:PySem.W.findIn K (.ref cNoCode) "__class__" = some (some (.builtin "object.__class__")))
  (y37:PySem.W.subIn K (.ref cNoCode) (.type "object")=some true)
  (y38:PySem.W.subIn K (.ref cNoCode) (.type "BaseException")=some true)
  {cdNoCode:ClassData}
  (y39:PySem.W.clsIn K cNoCode=some cdNoCode)
  (y40:Ke K cNoCode cSheetError)
  (y41:Kv K cNoCode)
  (y42:Kt K cNoCode cNoLevel)
  (y43:Kt K cNoCode cNoColour)
  (y44:Kt K cNoCode cNoPlace)
  (y45:Kt K cNoCode cNoSide)
  (y46:Kt K cNoCode cNoLeaf)
  (y47:Kt K cNoCode cTwice)
  (y48:Kt K cNoCode cGap)
  (y49:Kt K cNoCode cNoText)
  (y50:Kt K cNoCode cNoName)
  (y51:Kt K cNoCode cNoNumber)
  (y52:Kt K cNoCode cNoRow)
  (y53:Kx K cNoColour)
  (y54:PySem.W.findIn K (.ref cNoColour) "__getattribute__" = some (some (.builtin "BaseException.__getattribute__")))
  (y55:PySem.W.findIn K (.ref cNoColour) "__getattr__" = some none)
  (y56:PySem.W.findIn K (.ref cNoColour) "__class__" = some (some (.builtin "object.__class__")))
  (y57:PySem.W.subIn K (.ref cNoColour) (.type "object")=some true)
  (y58:PySem.W.subIn K (.ref cNoColour) (.type "BaseException")=some true)
  {cdNoColour:ClassData}
  (y59:PySem.W.clsIn K cNoColour=some cdNoColour)
  (y60:Ke K cNoColour cSheetError)
  (y61:Kv K cNoColour)
  (y62:Kt K cNoColour cNoLevel)
  (y63:Kt K cNoColour cNoCode)
  (y64:Kt K cNoColour cNoPlace)
  (y65:Kt K cNoColour cNoSide)
  (y66:Kt K cNoColour cNoLeaf)
  (y67:Kt K cNoColour cTwice)
  (y68:Kt K cNoColour cGap)
  (y69:Kt K cNoColour cNoText)
  (y70:Kt K cNoColour cNoName)
  (y71:Kt K cNoColour cNoNumber)
  (y72:Kt K cNoColour cNoRow)
  (y73:Kx K cNoPlace)
  (y74:PySem.W.findIn K (.ref cNoPlace) "__getattribute__" = some (some (.builtin "BaseException.__getattribute__")))
  (y75:PySem.W.findIn K (.ref cNoPlace) "__getattr__" = some none)
  (y76:PySem.W.findIn K (.ref cNoPlace) "__class__" = some (some (.builtin "object.__class__")))
  (y77:PySem.W.subIn K (.ref cNoPlace) (.type "object")=some true)
  (y78:PySem.W.subIn K (.ref cNoPlace) (.type "BaseException")=some true)
  {cdNoPlace:ClassData}
  (y79:PySem.W.clsIn K cNoPlace=some cdNoPlace)
  (y80:Ke K cNoPlace cSheetError)
  (y81:Kv K cNoPlace)
  (y82:Kt K cNoPlace cNoLevel)
  (y83:Kt K cNoPlace cNoCode)
  (y84:Kt K cNoPlace cNoColour)
  (y85:Kt K cNoPlace cNoSide)
  (y86:Kt K cNoPlace cNoLeaf)
  (y87:Kt K cNoPlace cTwice)
  (y88:Kt K cNoPlace cGap)
  (y89:Kt K cNoPlace cNoText)
  (y90:Kt K cNoPlace cNoName)
  (y91:Kt K cNoPlace cNoNumber)
  (y92:Kt K cNoPlace cNoRow)
  (y93:Kx K cNoSide)
  (y94:PySem.W.findIn K (.ref cNoSide) "__getattribute__" = some (some (.builtin "BaseException.__getattribute__")))
  (y95:PySem.W.findIn K (.ref cNoSide) "__getattr__" = some none)
  (y96:PySem.W.findIn K (.ref cNoSide) "__class__" = some (some (.builtin "object.__class__")))
  (y97:PySem.W.subIn K (.ref cNoSide) (.type "object")=some true)
  (y98:PySem.W.subIn K (.ref cNoSide) (.type "BaseException")=some true)
  {cdNoSide:ClassData}
  (y99:PySem.W.clsIn K cNoSide=some cdNoSide)
  (y100:Ke K cNoSide cSheetError)
  (y101:Kv K cNoSide)
  (y102:Kt K cNoSide cNoLevel)
  (y103:Kt K cNoSide cNoCode)
  (y104:Kt K cNoSide cNoColour)
  (y105:Kt K cNoSide cNoPlace)
  (y106:Kt K cNoSide cNoLeaf)
  (y107:Kt K cNoSide cTwice)
  (y108:Kt K cNoSide cGap)
  (y109:Kt K cNoSide cNoText)
  (y110:Kt K cNoSide cNoName)
  (y111:Kt K cNoSide cNoNumber)
  (y112:Kt K cNoSide cNoRow)
  (y113:Kx K cNoLeaf)
  (y114:PySem.W.findIn K (.ref cNoLeaf) "__getattribute__" = some (some (.builtin "BaseException.__getattribute__")))
  (y115:PySem.W.findIn K (.ref cNoLeaf) "__getattr__" = some none)
  (y116:PySem.W.findIn K (.ref cNoLeaf) "__class__" = some (some (.builtin "object.__class__")))
  (y117:PySem.W.subIn K (.ref cNoLeaf) (.type "object")=some true)
  (y118:PySem.W.subIn K (.ref cNoLeaf) (.type "BaseException")=some true)
  {cdNoLeaf:ClassData}
  (y119:PySem.W.clsIn K cNoLeaf=some cdNoLeaf)
  (y120:Ke K cNoLeaf cSheetError)
  (y121:Kv K cNoLeaf)
  (y122:Kt K cNoLeaf cNoLevel)
  (y123:Kt K cNoLeaf cNoCode)
  (y124:Kt K cNoLeaf cNoColour)
  (y125:Kt K cNoLeaf cNoPlace)
  (y126:Kt K cNoLeaf cNoSide)
  (y127:Kt K cNoLeaf cTwice)
  (y128:Kt K cNoLeaf cGap)
  (y129:Kt K cNoLeaf cNoText)
  (y130:Kt K cNoLeaf cNoName)
  (y131:Kt K cNoLeaf cNoNumber)
  (y132:Kt K cNoLeaf cNoRow)
  (y133:Kx K cNoText)
  (y134:PySem.W.findIn K (.ref cNoText) "__getattribute__" = some (some (.builtin "BaseException.__getattribute__")))
  (y135:PySem.W.findIn K (.ref cNoText) "__getattr__" = some none)
  (y136:PySem.W.findIn K (.ref cNoText) "__class__" = some (some (.builtin "object.__class__")))
  (y137:PySem.W.subIn K (.ref cNoText) (.type "object")=some true)
  (y138:PySem.W.subIn K (.ref cNoText) (.type "BaseException")=some true)
  {cdNoText:ClassData}
  (y139:PySem.W.clsIn K cNoText=some cdNoText)
  (y140:Ke K cNoText cSheetError)
  (y141:Kv K cNoText)
  (y142:Kt K cNoText cNoLevel)
  (y143:Kt K cNoText cNoCode)
  (y144:Kt K cNoText cNoColour)
  (y145:Kt K cNoText cNoPlace)
  (y146:Kt K cNoText cNoSide)
  (y147:Kt K cNoText cNoLeaf)
  (y148:Kt K cNoText cTwice)
  (y149:Kt K cNoText cGap)
  (y150:Kt K cNoText cNoName)
  (y151:Kt K cNoText cNoNumber)
  (y152:Kt K cNoText cNoRow)
  (y153:Kx K cNoName)
  (y154:PySem.W.findIn K (.ref cNoName) "__getattribute__" = some (some (.builtin "BaseException.__getattribute__")))
  (y155:PySem.W.findIn K (.ref cNoName) "__getattr__" = some none)
  (y156:PySem.W.findIn K (.ref cNoName) "__class__" = some (some (.builtin "object.__class__")))
  (y157:PySem.W.subIn K (.ref cNoName) (.type "object")=some true)
  (y158:PySem.W.subIn K (.ref cNoName) (.type "BaseException")=some true)
  {cdNoName:ClassData}
  (y159:PySem.W.clsIn K cNoName=some cdNoName)
  (y160:Ke K cNoName cSheetError)
  (y161:Kv K cNoName)
  (y162:Kt K cNoName cNoLevel)
  (y163:Kt K cNoName cNoCode)
  (y164:Kt K cNoName cNoColour)
  (y165:Kt K cNoName cNoPlace)
  (y166:Kt K cNoName cNoSide)
  (y167:Kt K cNoName cNoLeaf)
  (y168:Kt K cNoName cTwice)
  (y169:Kt K cNoName cGap)
  (y170:Kt K cNoName cNoText)
  (y171:Kt K cNoName cNoNumber)
  (y172:Kt K cNoName cNoRow)
  (y173:Kx K cNoNumber)
  (y174:PySem.W.findIn K (.ref cNoNumber) "__getattribute__" = some (some (.builtin "BaseException.__getattribute__")))
  (y175:PySem.W.findIn K (.ref cNoNumber) "__getattr__" = some none)
  (y176:PySem.W.findIn K (.ref cNoNumber) "__class__" = some (some (.builtin "object.__class__")))
  (y177:PySem.W.subIn K (.ref cNoNumber) (.type "object")=some true)
  (y178:PySem.W.subIn K (.ref cNoNumber) (.type "BaseException")=some true)
  {cdNoNumber:ClassData}
  (y179:PySem.W.clsIn K cNoNumber=some cdNoNumber)
  (y180:Ke K cNoNumber cSheetError)
  (y181:Kv K cNoNumber)
  (y182:Kt K cNoNumber cNoLevel)
  (y183:Kt K cNoNumber cNoCode)
  (y184:Kt K cNoNumber cNoColour)
  (y185:Kt K cNoNumber cNoPlace)
  (y186:Kt K cNoNumber cNoSide)
  (y187:Kt K cNoNumber cNoLeaf)
  (y188:Kt K cNoNumber cTwice)
  (y189:Kt K cNoNumber cGap)
  (y190:Kt K cNoNumber cNoText)
  (y191:Kt K cNoNumber cNoName)
  (y192:Kt K cNoNumber cNoRow)
  (y193:Kx K cNoRow)
  (y194:PySem.W.findIn K (.ref cNoRow) "__getattribute__" = some (some (.builtin "BaseException.__getattribute__")))
  (y195:PySem.W.findIn K (.ref cNoRow) "__getattr__" = some none)
  (y196:PySem.W.findIn K (.ref cNoRow) "__class__" = some (some (.builtin "object.__class__")))
  (y197:PySem.W.subIn K (.ref cNoRow) (.type "object")=some true)
  (y198:PySem.W.subIn K (.ref cNoRow) (.type "BaseException")=some true)
  {cdNoRow:ClassData}
  (y199:PySem.W.clsIn K cNoRow=some cdNoRow)
  (y200:Ke K cNoRow cSheetError)
  (y201:Kv K cNoRow)
  (y202:Kt K cNoRow cNoLevel)
  (y203:Kt K cNoRow cNoCode)
  (y204:Kt K cNoRow cNoColour)
  (y205:Kt K cNoRow cNoPlace)
  (y206:Kt K cNoRow cNoSide)
  (y207:Kt K cNoRow cNoLeaf)
  (y208:Kt K cNoRow cTwice)
  (y209:Kt K cNoRow cGap)
  (y210:Kt K cNoRow cNoText)
  (y211:Kt K cNoRow cNoName)
  (y212:Kt K cNoRow cNoNumber)
  : ∃ fd:FuncData,(∀ (s:Shared) (v:Value),BindsTo s fd ⟨[v],[]⟩ [("_law_script",v)])∧∀ base:Heap,K.In base→base.Ns mainGlobals mg→aO l.prog w K mg base (CXe l.prog w) 50 fa fd ["_law_script"] (om K):=by
 have e:=hfa.symm.trans (PySem.W.mg_of X G a81);cases e;have T:Tx K mg:=⟨PySem.W.mg_none_of X G z0,PySem.W.mg_none_of X G z1,PySem.W.mg_none_of X G z2,⟨_,PySem.W.mg_of X G z3⟩,⟨_,PySem.W.mg_of X G z4⟩,PySem.W.mg_none_of X G z5,PySem.W.mg_none_of X G z6,PySem.W.mg_none_of X G z7,⟨_,PySem.W.mg_of X G z8⟩,⟨_,PySem.W.mg_of X G z9⟩,PySem.W.mg_none_of X G z10,PySem.W.mg_none_of X G z11,PySem.W.mg_none_of X G z12,PySem.W.mg_none_of X G z13,PySem.W.mg_none_of X G z14,PySem.W.mg_none_of X G z15,PySem.W.mg_none_of X G z16,PySem.W.mg_none_of X G z17,⟨_,PySem.W.mg_of X G z18⟩,⟨_,PySem.W.mg_of X G z19⟩,⟨_,PySem.W.mg_of X G z20⟩,⟨_,PySem.W.mg_of X G z21⟩,⟨_,PySem.W.mg_of X G z22⟩,PySem.W.mg_none_of X G z23,PySem.W.mg_none_of X G z24,PySem.W.mg_none_of X G z25,PySem.W.mg_none_of X G z26⟩;have U:Ux l.prog w K mg:=⟨⟨aS,PySem.W.mg_of X G u0,_,_,_,u1,rfl,rfl,(by show 4≤sizeLine;decide),(.cons ⟨_,rfl⟩ (.cons ⟨_,rfl⟩ (.cons ⟨_,rfl⟩ (.cons ⟨_,rfl⟩ .nil))))⟩,aF,PySem.W.mg_of X G u2,tN (.cons ⟨_,rfl⟩ (.cons ⟨_,rfl⟩ (.cons ⟨_,rfl⟩ (.cons ⟨_,rfl⟩ (.cons ⟨_,rfl⟩ (.cons ⟨_,rfl⟩ (.cons ⟨_,rfl⟩ (.cons ⟨_,rfl⟩ (.cons ⟨_,rfl⟩ (.cons ⟨_,rfl⟩ (.cons ⟨_,rfl⟩ (.cons ⟨_,rfl⟩ (.cons ⟨_,rfl⟩ (.cons ⟨_,rfl⟩ (.cons ⟨_,rfl⟩ (.cons ⟨_,rfl⟩ (.cons ⟨_,rfl⟩ (.cons ⟨_,rfl⟩ (.cons ⟨_,rfl⟩ (.cons ⟨_,rfl⟩ (.cons ⟨_,rfl⟩ (.cons ⟨_,rfl⟩ (.cons ⟨_,rfl⟩ (.cons ⟨_,rfl⟩ (.cons ⟨_,rfl⟩ .nil))))))))))))))))))))))))) u3 (by decide +kernel),u4⟩;have U':Uf l.prog w K mg [f55,f57,f58,f59,f60] [f39,f40,f40,f41,f42,f43,f44,xM0,xM1,xM2,xM3,f45,f46,f47,f48] [f53,f49,xD0,xD1,xD2,f50,xD3,f51,f52]:=⟨⟨aR,PySem.W.mg_of X G u5,tN (.cons rfl (.cons rfl (.cons rfl (.cons rfl (.cons rfl .nil))))) u6 (by show l9.Nodup;decide +kernel)⟩,⟨aM,PySem.W.mg_of X G u8,tN (.cons rfl (.cons rfl (.cons rfl (.cons rfl (.cons rfl (.cons rfl (.cons rfl (.cons rfl (.cons rfl (.cons rfl (.cons rfl (.cons rfl (.cons rfl (.cons rfl (.cons rfl .nil))))))))))))))) u9 (by show jw.Nodup;decide +kernel)⟩,⟨aD,PySem.W.mg_of X G u11,tN (.cons rfl (.cons rfl (.cons rfl (.cons rfl (.cons rfl (.cons rfl (.cons rfl (.cons rfl (.cons rfl .nil))))))))) u12 (by show fh.Nodup;decide +kernel),u13⟩⟩;have dc:Dc K C:=⟨⟨pg,hd,po,sa⟩,na0⟩;have Y:Yx K mg:=⟨cNoLevel,cNoCode,cNoColour,cNoPlace,cNoSide,cNoLeaf,cTwice,cGap,cNoText,cNoName,cNoNumber,cNoRow,cSheetError,PySem.W.mg_of X G y0,PySem.W.mg_of X G y1,PySem.W.mg_of X G y2,PySem.W.mg_of X G y3,PySem.W.mg_of X G y4,PySem.W.mg_of X G y5,PySem.W.mg_of X G y6,PySem.W.mg_of X G y7,PySem.W.mg_of X G y8,PySem.W.mg_of X G y9,PySem.W.mg_of X G y10,PySem.W.mg_of X G y11,PySem.W.mg_of X G y12,⟨PySem.W.mg_of X G y0,y13.h⟩,⟨y14,y15,y16,y17,y18,by rw[y19];rfl⟩,y20.h,y21.h,y22.h,y23.h,y24.h,y25.h,y26.h,y27.h,y28.h,y29.h,y30.h,y31.h,y32.h,⟨PySem.W.mg_of X G y1,y33.h⟩,⟨y34,y35,y36,y37,y38,by rw[y39];rfl⟩,y40.h,y41.h,y42.h,y43.h,y44.h,y45.h,y46.h,y47.h,y48.h,y49.h,y50.h,y51.h,y52.h,⟨PySem.W.mg_of X G y2,y53.h⟩,⟨y54,y55,y56,y57,y58,by rw[y59];rfl⟩,y60.h,y61.h,y62.h,y63.h,y64.h,y65.h,y66.h,y67.h,y68.h,y69.h,y70.h,y71.h,y72.h,⟨PySem.W.mg_of X G y3,y73.h⟩,⟨y74,y75,y76,y77,y78,by rw[y79];rfl⟩,y80.h,y81.h,y82.h,y83.h,y84.h,y85.h,y86.h,y87.h,y88.h,y89.h,y90.h,y91.h,y92.h,⟨PySem.W.mg_of X G y4,y93.h⟩,⟨y94,y95,y96,y97,y98,by rw[y99];rfl⟩,y100.h,y101.h,y102.h,y103.h,y104.h,y105.h,y106.h,y107.h,y108.h,y109.h,y110.h,y111.h,y112.h,⟨PySem.W.mg_of X G y5,y113.h⟩,⟨y114,y115,y116,y117,y118,by rw[y119];rfl⟩,y120.h,y121.h,y122.h,y123.h,y124.h,y125.h,y126.h,y127.h,y128.h,y129.h,y130.h,y131.h,y132.h,⟨PySem.W.mg_of X G y8,y133.h⟩,⟨y134,y135,y136,y137,y138,by rw[y139];rfl⟩,y140.h,y141.h,y142.h,y143.h,y144.h,y145.h,y146.h,y147.h,y148.h,y149.h,y150.h,y151.h,y152.h,⟨PySem.W.mg_of X G y9,y153.h⟩,⟨y154,y155,y156,y157,y158,by rw[y159];rfl⟩,y160.h,y161.h,y162.h,y163.h,y164.h,y165.h,y166.h,y167.h,y168.h,y169.h,y170.h,y171.h,y172.h,⟨PySem.W.mg_of X G y10,y173.h⟩,⟨y174,y175,y176,y177,y178,by rw[y179];rfl⟩,y180.h,y181.h,y182.h,y183.h,y184.h,y185.h,y186.h,y187.h,y188.h,y189.h,y190.h,y191.h,y192.h,⟨PySem.W.mg_of X G y11,y193.h⟩,⟨y194,y195,y196,y197,y198,by rw[y199];rfl⟩,y200.h,y201.h,y202.h,y203.h,y204.h,y205.h,y206.h,y207.h,y208.h,y209.h,y210.h,y211.h,y212.h⟩;have F7:=lq (st:=cK) l7 c7 k7;have F81:=lq (st:=jf) l81 c81 k81;have b7:=F7.bindsD (ps:=["level","least"]) (ds:=[]) d7 rfl fun _ _ _ _ _ _ us hl=>by obtain⟨a,b,rfl⟩:=yX ((Cs List.length (CJ us)).symm.trans hl);exact⟨_,rfl,rfl⟩
 have bd7:=F7.bindsD (ps:=["level","least"]) (ds:=[.int 0 dk7]) d7 rfl fun _ _ _ _ _ _ us hl=>by obtain⟨a,rfl⟩:=BM hl;exact⟨_,rfl,rfl⟩
 refine⟨PySem.W.fnOf "law" "law" (bR jf) (bt jf) (ai jf) .none kV81 dc81 pm81 an81 cd81 ct81,fun s v=>.of_eq rfl,fun base _ _ =>?_⟩
 have fk:∀ {x st f fd j ps sp},Df K x st f fd→aO l.prog w K mg base (CXe l.prog w) j f fd ps sp→bU K fd ps []→Fok l.prog w K mg base (CXe l.prog w) j x ps [] sp:=fun d o b=>fok d.F o b (PySem.W.mg_of X G d.a);have fkh:∀ {x st f fd j ps sp},Df K x st f fd→mR l.prog w K mg base (CXe l.prog w) j f fd ps sp→bU K fd ps []→yL l.prog w K mg base (CXe l.prog w) j x ps sp:=fun d o b=>BV d.F o b (PySem.W.mg_of X G d.a);have C_tree_at:=fk d_0 (rZ T d_0.F) (bd2 d_0.F);have C_is_whole:=fk d_1 (qx T d_1.F) (bd1 d_1.F);have C_is_level:=fk d_2 (qy T bc d_2.F C_is_whole) (bd1 d_2.F);have C_is_colour:=fk d_3 (ph T bc d_3.F C_is_whole) (bd1 d_3.F);have C_is_code:=fk d_4 (so T d_4.F) (bd1 d_4.F);have C_is_side:=fk d_5 (sj T U d_5.F) (bd1 d_5.F);have C_need_side:=fk d_6 (oY T Y bc d_6.F C_is_side) (bd1 d_6.F);have C_need_level_1:Fok l.prog w K mg base (CXe l.prog w) 3 "need_level" ["level","least"] [.int 0] (dG Y):=BW F7 (nc T Y bc F7 C_is_level) bd7 (.cons ⟨_,rfl⟩ .nil) (PySem.W.mg_of X G a7)
 have C_need_small_level:=fk d_8 (ij T Y bc d_8.F C_is_level) (bd1 d_8.F);have C_need_code_within:=fk d_9 (ik T Y bc d_9.F C_is_code) (bd2 d_9.F);have C_need_colour:=fk d_10 (mq T bc d_10.F C_is_colour) (bd1 d_10.F);have C_width_of:=fk d_11 (qm T d_11.F) (bd1 d_11.F);have C_need_place:=fk d_12 (m_ T Y bc d_12.F C_width_of C_is_whole) (bd3 d_12.F);have C_code_at:=fk d_13 (sr T Y bc d_13.F C_need_level_1 C_need_place) (bd3 d_13.F);have C_leaf_at:=fk d_14 (sd T Y bc d_14.F C_code_at) (bd3 d_14.F);have C_is_of_one_colour:=fk d_15 (il T d_15.F) (bd1 d_15.F);have C_gathered:=fk d_16 (qz T bc d_16.F C_is_of_one_colour) (bd1 d_16.F);have C_is_number_word:=fk d_17 (js T d_17.F) (bd2 d_17.F);have C_colour_of:=fk d_18 (pi T d_18.F) (bd1 d_18.F);have C_tree_read:=fk d_19 (jn T Y bc d_19.F C_gathered C_colour_of (bd3 d_19.F) (PySem.W.mg_of X G d_19.a) 41) (bd3 d_19.F);have C_read:=fk d_20 (ye T Y bc d_20.F C_is_number_word C_is_level C_tree_read) (bd1 d_20.F);have C_written_tree:=fk d_21 (gh T bc d_21.F (bd1 d_21.F) (PySem.W.mg_of X G d_21.a) 41) (bd1 d_21.F);have C_written:=fk d_22 (rY T bc d_22.F C_written_tree) (bd1 d_22.F);have C_is_leaf:=fk d_23 (sk T d_23.F) (bd2 d_23.F);have C_beyond:=fk d_24 (uP T Y bc d_24.F C_is_code C_is_leaf) (bd3 d_24.F);have C_part_at:=fk d_25 (r9 T Y d_25.F C_need_code_within) (bd2 d_25.F);have C_painted:=fk d_26 (r_ T Y d_26.F C_need_code_within) (bd3 d_26.F);have C_put_in:=fk d_27 (uN T Y d_27.F C_need_code_within) (bd3 d_27.F);have C_window:=fk d_28 (uM T Y d_28.F C_need_small_level) (bd5 d_28.F);have C_laid:=fk d_29 (yg T Y d_29.F C_need_small_level) (bd4 d_29.F);have C_need_one_level:=fk d_30 (jp T Y d_30.F) (bd1 d_30.F);have C_over:=fk d_31 (yf T Y d_31.F C_need_one_level) (bd3 d_31.F);have C_plain:=fk d_32 (wI T Y bc d_32.F C_need_level_1 C_need_colour) (bd2 d_32.F);have C_colour_at:=fk d_33 (pj T Y bc d_33.F C_code_at C_tree_at) (bd3 d_33.F);have C_rings:=fk d_34 (wH T Y d_34.F C_leaf_at) (bd3 d_34.F);have C_way_between:=fk d_35 (mm T Y d_35.F C_leaf_at) (bd5 d_35.F);have C_need_number_to:=fk d_36 (jq T Y bc d_36.F C_is_whole) (bd2 d_36.F);have C_finer:=fk d_37 (wJ T Y d_37.F C_need_number_to) (bd2 d_37.F);have C_coarser:=fk d_38 (su T Y d_38.F C_need_number_to) (bd2 d_38.F);have C_words_of:=fk d_54 (ql T Y U d_54.F) (bd1 d_54.F);have C_name_of:=fk d_55 (mr T Y d_55.F) (bd1 d_55.F);have C_sheet_named:=fk d_56 (mo T Y d_56.F C_name_of) (bd2 d_56.F);have E_READ_BY:mQ l.prog w K mg base (CXe l.prog w) 3 (FnR Y [f55,f57,f58,f59,f60]):=by
  rintro f sp ⟨i,k,h1,h2,rfl⟩;rcases i with _ | _ | _ | _ | _ | i
  ·cases h1;cases h2;exact⟨_,_,((mr T Y d_55.F).imp fun _ _ _ _ h=>xR h).mono (by decide),(bd1 d_55.F),d_55.F.kp⟩
  ·cases h1;cases h2;exact⟨_,_,kP T Y bc d_57.F C_is_code,(bd1 d_57.F),d_57.F.kp⟩
  ·cases h1;cases h2;exact⟨_,_,jt T Y bc d_58.F C_colour_of,(bd1 d_58.F),d_58.F.kp⟩
  ·cases h1;cases h2;exact⟨_,_,jo T Y bc d_59.F C_is_number_word,(bd1 d_59.F),d_59.F.kp⟩
  ·cases h1;cases h2;exact⟨_,_,kL T Y d_60.F C_need_side,(bd1 d_60.F),d_60.F.kp⟩
  ·cases h1
 have C_value_of:=fk d_61 (qo T Y U' d_61.F C_sheet_named C_read E_READ_BY rfl) (bd3 d_61.F);have C_values_of:=fk d_62 (oV T Y U d_62.F C_value_of) (bd2 d_62.F);have N_Desk:xx l.prog w K mg base (CXe l.prog w) 1 "Desk" C ["self"] (on C):=⟨_,_,⟨mk,d_63.a,d_63.i,kc⟩,yh T dc d_63.F,(bd1 d_63.F),PySem.W.mg_of X G aC⟩
 have E_MADE_BY:mQ l.prog w K mg base (CXe l.prog w) 7 (FnM Y [f39,f40,f40,f41,f42,f43,f44,xM0,xM1,xM2,xM3,f45,f46,f47,f48]):=by
  rintro f sp (⟨h1,rfl⟩ | ⟨h1,rfl⟩ | ⟨dn,h1,h2,h3,rfl⟩)
  ·cases h1;exact⟨_,_,ng T Y d_39.F C_plain,(bd1 d_39.F),d_39.F.kp⟩
  ·cases h1;exact⟨_,_,j7 T d_40.F,(bd1 d_40.F),d_40.F.kp⟩
  cases dn
  ·exact absurd rfl h2
  ·cases h3;exact⟨_,_,oZ T Y d_41.F C_part_at,(bd1 d_41.F),d_41.F.kp⟩
  ·cases h3;exact⟨_,_,ms T Y d_42.F C_window,(bd1 d_42.F),d_42.F.kp⟩
  ·cases h3;exact⟨_,_,o0 T Y d_43.F C_over,(bd1 d_43.F),d_43.F.kp⟩
  ·cases h3;exact⟨_,_,kN T Y d_44.F C_painted,(bd1 d_44.F),d_44.F.kp⟩
  ·cases h3;exact⟨_,_,qp T Y d_45.F C_put_in,(bd1 d_45.F),d_45.F.kp⟩
  ·cases h3;exact⟨_,_,o_ T Y d_46.F C_laid,(bd1 d_46.F),d_46.F.kp⟩
  ·cases h3;exact⟨_,_,ni T Y d_47.F C_finer,(bd1 d_47.F),d_47.F.kp⟩
  ·cases h3;exact⟨_,_,kO T Y d_48.F C_coarser,(bd1 d_48.F),d_48.F.kp⟩
  ·cases h1
  ·cases h1
  ·cases h1
  ·cases h1
 have E_TOLD_BY:mQ l.prog w K mg base (CXe l.prog w) 44 (FnT Y [f53,f49,xD0,xD1,xD2,f50,xD3,f51,f52]):=by
  rintro f sp (⟨h1,rfl⟩ | ⟨dn,i,h1,h2,rfl⟩)
  ·cases h1;exact⟨_,_,oW T bc d_53.F C_written,(bd1 d_53.F),d_53.F.kp⟩
  cases dn
  ·cases h1
  ·cases h1
  ·cases h1
  ·cases h1
  ·cases h1
  ·cases h1
  ·cases h1
  ·cases h1
  ·cases h1
  ·cases h1;cases h2;exact⟨_,_,(oX T Y d_49.F C_colour_at).mono (by decide),(bd1 d_49.F),d_49.F.kp⟩
  ·cases h1;cases h2;exact⟨_,_,(m9 T Y d_52.F C_rings).mono (by decide),(bd1 d_52.F),d_52.F.kp⟩
  ·cases h1;cases h2;exact⟨_,_,(m8 T Y d_51.F C_way_between).mono (by decide),(bd1 d_51.F),d_51.F.kp⟩
  ·cases h1;cases h2;exact⟨_,_,(mn T Y d_50.F C_beyond).mono (by decide),(bd1 d_50.F),d_50.F.kp⟩
 have M_say:MOk l.prog w K mg base (CXe l.prog w) 48 C "say" ["self","row"] (oj Y C):=⟨_,_,dc.cls,⟨d_64.a,d_64.i,d_64.F.kp⟩,zJ T Y dc U' rfl rfl d_64.F C_words_of C_values_of E_MADE_BY E_TOLD_BY,(bd2 d_64.F)⟩
 have C__law_at:=fk d_65 (uO T d_65.F) (bd2 d_65.F);have C__law_mix:=fk d_66 (se T d_66.F) (bd2 d_66.F);have C__law_code:=fk d_67 (qw T bc d_67.F C__law_mix) (bd2 d_67.F);have C__law_knit:=fk d_68 (qu T d_68.F) (bd1 d_68.F);have C__law_painted:=fk d_69 (gS T bc d_69.F C__law_knit (bd3 d_69.F) (PySem.W.mg_of X G d_69.a) 41) (bd3 d_69.F);have C__law_colour:=fk d_70 (nj T d_70.F) (bd2 d_70.F);have C__law_tree:=fk d_71 (qr T bc d_71.F C__law_at C__law_mix C__law_painted C__law_code C__law_colour) (bd4 d_71.F);have C__law_signs:=fk d_72 (jr T bc d_72.F (bd1 d_72.F) (PySem.W.mg_of X G d_72.a) 41) (bd1 d_72.F);have C__law_names:=fk d_73 (pb T bc d_73.F C__law_at C__law_mix) (bd1 d_73.F);have C__law_forms:=fk d_74 (pc T d_74.F) (bd0 d_74.F);have C__law_good:=fk d_75 (qv T d_75.F) (bd3 d_75.F);have C__law_bad:=fk d_76 (si T d_76.F) (bd3 d_76.F);have C__law_spoiled:=fk d_77 (mv T bc d_77.F C__law_forms C__law_mix C__law_good C__law_bad) (bd2 d_77.F);have C__law_deeds:=fk d_78 (pd T bc d_78.F C__law_code) (bd3 d_78.F);have C__law_word:=fkh d_79 (qq T Y d_79.F) (bd1 d_79.F);have C__law_said:=fk d_80 (qt T Y bc d_80.F M_say C__law_word) (bd2 d_80.F);exact zK T Y bc F81 N_Desk M_say C__law_names C__law_at C__law_mix C__law_tree C__law_signs C__law_spoiled C__law_deeds C__law_said
theorem By {l:PySem.W.OpenLaw}{q:Program}{loose:List Str}{XP:(Str→Option Value)→Heap→Prop}{YP:World→Heap→Prop}{d:DefRec}{K:Params→PySem.W.Frag}(hn:l.most=some 63)(hdf:d.params.defaults=[])
  (hY:∀ (w:World) (h:Heap),YP w h→(K w.params).In h)
  (F:∀ (w:World) (mg:Str→Option Value) (fa:Addr) (h:Heap),(K w.params).In h→h.Ns mainGlobals mg→mg d.name=some (.ref fa) →
   ∃ fd:FuncData,(∀ (s:Shared) (u:Value),BindsTo s fd ⟨[u],[]⟩ [("_law_script",u)])∧∀ base:Heap,(K w.params).In base→base.Ns mainGlobals mg→aO l.prog w (K w.params) mg base (CXe l.prog w) 50 fa fd ["_law_script"] (om (K w.params))) :
  PySem.W.WalkO q loose XP YP l.row.toRowW d [] (fun f vs=>PySem.call f vs) :=
 L2.xA (n:=63) (k:=50) (x := "_law_script") (CX:=fun w=>CXe l.prog w) (sp:=fun w=>om (K w.params)) hn (by decide) hdf ⟨rfl,by decide,by decide⟩ hY F (fun _ _ a ns hl _ hS=>⟨a,ns,rfl,hS,hl,fun _=>rfl⟩) fun _ _ _ _ _ z=>bc _ _ _ _ _ z
end Qs
end
-- The head lays a twin equation for each constant of the run;those of the largest ones are most of its size and are not needed. A name that stands already is not laid anew.
open Lean in
local macro_rules
 | `(#check $s:str) =>return mkNullNode (← (s.getString.splitOn " ").toArray.mapM fun n => `(theorem $(mkIdent (.str `PySem.W.Fast ("tw" ++ n))) : True := ⟨⟩))
#check "13942354181747097580 7460513531750305329 17945906338811273345 10339630446435623011 14556161480209710470 3484865694487811393 7216971008699272177 8838880016022668628 15908895523085605919 15897623624892117049 18192534824164711677 10023556119622884242 16119767026108956795 2686078870312371701 16016951984563126083 4499323479558354990 5192289547549811100 5105147198853457395 9153212072008052225 8408083148809605529 6599437975118943225 2088753784153882241 4851536284274208056 6559492430463069027 6007464933469811683 5242214750870861636 1866867306924099574 5786725549291130502 12959295791513116098 17527902910695152707 14443265554746136233 9110228316604355814 12689383326968863633 8326894119073558810 11968102194261912507 5730931125981797309 13247601134912663365 1318512733147698296 5350573484046675845 3086533675210027273 15510185752507826054 5178126853382965597 6493710889574483236 16233198358120372219 5778201574948624277 15204105290120304809 12908081388105125462 3419484682323810807 10285407624130488031 7316059122083492619 15156295451842923480 3922206741621975586 17057844596828292440 14838579028790991257 11721361141734981761 15509671146909409075 8198474576747776844 6486125120550877127 11552458406306800149 14895762541370269858 14400446311776974846 2862476288240151831 15613272383557523968 2145735444548195602 15403128510925683137 13318783660239460068 6802612874413131177 8798449747123476351 17396021054802450681 4476691688591543291 7455010801651769550 14002826452805158526 16007613666293466644 383930749421462375 4783576918964689864 11993471622296421467 11735819367537071601 17242024018963878428 11547220530433629450 86874851988642663 12516048727621476916 4011032274867018587 12266321999721447793 7038915281173092295 2734975338057415783 628224493277973575 16889916484342752103 18111748986976639551 3021374151544963349 11346986971900160972 11031644494664893591 10378365453698794573 5775917965183732972 8106932815882685914 1336276898849932928 15224566326432285649 11299881737335539493 16100604981298233416 7935300936738181270 6780661025963803662 10071475112671659589 315025322589523076 2620373032582433338 3332502953800251960 9824043468658829728 8397051183599729213 14444229619180562691 5262229462746611517 5277074264816703156 2674354456739684578 9302165962418169071 8654158884540803419 14142351690756328968 3869709575414327168 18073143147384683119 534762426468677352 8327800505073205075 13293544360734708709 2042322416546292868 18113200185096920056 17101027325025315275 10101901635523356191 13385242356169153023 9217314873443924869 5176308896394456693 508276473974600838 5371399915335486199 11636652071716472623 15297656759927877166 1473229165431766961 12242648746520899547 16157839787443401221 6025169609821915895 10772729640941029659 18139626416942409999 1534569480230303973 5374291051002013157 13518724231244501722 13761127785373448711 4522658455000342456 4474813270639109774 8178707287480372273 10291670510046826393 13944637451513418620 2882129823668738725 17775889990408717989 1882986188986889149 18186139674034946944 15795172258255133617 13939162889756095823 16702303976648140049 9762237516833135751 10894890010030628545 14395362643836298144 12521406822542459869 11146441543034717904 12739588699812324604 10563883931751758478 8138267178108468379 7981319148466681218 2694204362667583628 14467624369604958883 13479752844261365967 6468255936430188006 523567403361480 4230198462926396574 11283611889784366743 2804916601245550032 969116535489350151 5606286790751726468 14820924498773802826 15885617475402925240 8350433589830217424 10023898044298483581 291728512115467345 18014704941234879599 12589528791080595114 5171776955317754985 16589359262550909668 2738397174662780769 12012085001767062888 2638409294541934130 13723524683225516984 16967290748444924215 13944523028210262432 16277805927854441697 7226983815662920701 12260642824477516966 16320803350786391677 16128399895988312007 5767001632631990291 2818910580151967384 8702977076814099496 11627474584078901912 3198001661423587086 16803574601177267982 3837123155464687233 7728031490005229399 15401747906753772385 17984020877339610202 1263361704684470834 4425441096016660073 13000437337439096822 11269091681085575298 9619569790063313174 17061885143210183104 14815665622296134049 1554821715036585247 16235713340415899230 383537722535444458 554575811894915428 2776320876768420455 11578339970585492737 13620342631024350613 7107259282414666918 4098117681379557599 13829152518936572520 3820833029133031390 18200256886502157867 10796713193699718924 9345890363428927445 13719280571721910324 964070030146478287 7445441295448346498 4253971111896957921 8955501954630261662 14727133773245296675 5019860130628700121 12959376431760753819 11435869944114529758 4148032172723133166 5205901149077801781 8216247350363514426 2089005838709067674 8729634639663568577 3845276807197148908 8676204010313945425 17619813165976092940 4536472229802550703 14002379123264077092 9549731008783480214 9287694648270224108 4845480620577032042 1211758042800146269 14184076855978068699 5969255772094559872 3764514213435360152 2561107505775881003 12754480764568566580 12335961636712988357 164872212930222402 3625663195009844530 13441870697073416448 12051308655929145043 11743351591860339203 15397518881846287442 11992250815469648610 14086030709603234840 12716388246893956481 3552604626227750383 4992612077973916986 14550924495922877128 1409965667005907951 12161406284078259154 1661330334880708349 5752506124362872192 5483315959781787463 17444274415382864439 18403131280347026562 3075288459074980132 12067932048148313308 12493580145526903944 4543893480752724468 17862520764369604273 13247495522085239304 1305513347357945008 9760217926268671885 16103470503572297361 2786207369548121134 9976301764240468128 12984953641054622720 2286576160104294944 10177311962993960040 6998714745835644663 2743980557799426994 7067308068936407182 6792804754793943767 3967694303704337376 1063228993022199246 508288455149880273 17734033986863443426 5550386681416354397 446359711019734493 10935642937614326007 686520250864851551 16731061426440727421 12675515272242429474 1234028475334698691 3398578388184300760 17920331011391679905 14800271385216977366 2242565597229778947 16216748326325688854 16171389691545241425 10577401384120560807 12119022252309763880 7500775833624756568 16195715039328274770 1018247023603468364 7062810359769706343 8530986185244354640 14759662788302141189 4268166817130663445 10998792522210212913 9901801298395115086 10284845870040906956 4388510814529048486 12361732842756244602 18096054433302514461 12397934112072764815 12574567240967671940 8145495660717543138 3400384576233745781 9852391162042502289 2808023537154758695 11989857077452136087 17546202315739091488 14963017198096550494 17644588019475551556 14199443895485492926 3355192397302641858 6687171046606003145 84682043723060684 16256462075686174702 8568331106959500150 16401288444671825386 14528718934161922116 2147066764059793438 17516029206395577458 7595832957371643951 15814603625169444849 3275196086286691730 10982147620253114098 15214582184951864878 4443146039881608641 11493903153086528235 2954418839160800447 11608243110358586005 5756468199429258345 6754418716586234485 18209844082062441790 18251781664861210730 4141130432184897696 18285600455834594198 6934307616457541848 5211380252077871873 2100476657715463692 11149996708992774180 16882961068411959484 2239098357579613392 16672482840038714491 15833146615477915251 7135827529047294496 8616893099359969703 12073297193856907717 3990534770450611338 12795984009660505360 11379136792543882550 1508143304418748498 3530845681972308008 2782708858019130273 16782561530469958769 5956982686342146 18309170845444983706 14139532521175386101 2096553284951468737 16363746791722171537 10055175640214657831 8305865636859867846 4295370729616738711 6051654862905118447 17383038745219725774 18020892867922124001 5338818747829111570 7618296464203623433 248543582189793625 4286079188710962597 12455147287283290230 4365758260257987768 17281119306035919675 4332639901371044449 14549701968309299097 2030790352151123791 559172635370018161 13297367785672820721 9524805771386028511 13790493295440040961 6364467459355373410 7260998729860860636 8413766332377628635 3099753920739605500 5085280474243924528 12167895536093866193 11118329437892656094 1149323952711914601 19970170010319890 15872485943608147821 2926380889660561577 6821409541904387312 13349261530005554506 11522501963294509429 16802947741081630336 4343446708300742338 11135506863583417341 160906393674997648 4206342685730725106 12329802574437740639 3860989791941504613 12811798695333599927 6219556356539472184 14784168688239530227 8616732322045516859 8718710874254787301 1592167312139622046 895635438929331615 9877211377764228999 2695137153344975722 9584073361424373540 9029078226617452622 4439285441427278444 3128459422198879029 14508783966019172846 14024379986492222354 18404237793002769779 520521864783513627 17397574236576033191 10173115677494924621 203000830819816051 13636632497216029871 9155919428929297949 17245356246086007507 14483764743220085389 17939116742761099514 2778778082733437623 3982896543953689948 7460431514118305389 7909306551282872732 8721770816709283537 16784883439467825901 2469963667347635809 1784480209108829335 12656166613070219425 2423164599195807848 8031120030543824400 11775592777525789515 452576465767827533 3022491056501676450 10651614355567322744 13989689922254559119 6724163876742450066 3578356834901841380 3368699131888612080 4692311066460610190 2596806598973084908 10689197646048039734 16463775578921138018 5130310769812454277 13693897046380331338 8627005602681060121 10327921663821519313 5858207559461241612 14848636147329137692 8670615856891613658 4577429124000106962 2961742246686550360 12920084271966800362 5644835091057085255 9524381681222152584 351655450719076674 8078777047458869307 4710814294590402122 18438759906649693129 7366711106811597922 4587469821584964681 2152183085249765565 951569313961713595 15126047281317001347 6590473418217158414 8578688631547577713 17065671292270362503 11368009543928997955 12484813964081580988 17298571789207558641 9917848854918585830 5001644393968799588 9362839583823560980 1193723581371712215 6089799149114147743 5200553803277603935 14057761360223980492 16074106777248022255 9522258975726197978 11441569631978585315 12381459827407906518 12683279577948349475 16651964804008174816 4927262803929990355 12830099902606290482 11801798489534121905 3945988110628066096 6017566387870304556 13040454952731526372 13463579528536013345 17415719035490351594 15813235128156981952 7187598540515950271 9191546573085880560 8458011896884171692 6861216121554738144 8444479667364183014 9324175524441496661 2912413194606985684 5797570993789717640 8076832308705720852 2344334936451766558 9433342626746482825 17032368905907362968 5373757431205375229 10928851243864399706 1343727941507221933 9860531321280979886 6073101333584909484 5024586572950505949 2497533747948070582 15616978346757862184 2871230715626619742 9677210018065256427 10813000515916097348 13143715269653107174 2460716464813688184 11732343354358175628 8240641163849346446 10915529465837358464 10508176933730765517 10601460779836539908 17726680520672978673 15492451201540867910 2349236611057097087 8165150944955125740 16278624959103297754 14899500799530900010 14379998583730058517 9002682306880947153 8234020383796455231 317874404121650654 12488574852591439681 3885111087525382647 16937259887736452392 15605036039358487812 4717496418617562215 13945600792716738620 11258983257438166498 17200145144412490527 10835258772750054462"
open PySem PySem.W PyProof.Rows
set_option maxRecDepth 100000 in
set_option maxHeartbeats 0 in
theorem PySem.Challenge.cw_quartersheet_k82_refused_rows_change_not_holds : PySem.Challenge.rw_quartersheet_k82_refused_rows_change_not.Holds := by
 w_on;o_law;k_head;(case hw=>w_witness2)
 k_fill
 refine Qs.By (l:=PySem.Challenge.rw_quartersheet_k82_refused_rows_change_not) rfl rfl (fun w h Y=>PySem.W.kIn_of Y) ?F
 case F =>
  intro w mg fa h KX G hmg
  refine' Qs.Ay KX G hmg _ (Qs.df ..) (Qs.df ..) (Qs.df ..) (Qs.df ..) (Qs.df ..) (Qs.df ..) (Qs.df ..) _ _ _ _ _ (Qs.df ..) (Qs.df ..) (Qs.df ..) (Qs.df ..) (Qs.df ..) (Qs.df ..) (Qs.df ..) (Qs.df ..) (Qs.df ..) (Qs.df ..) (Qs.df ..) (Qs.df ..) (Qs.df ..) (Qs.df ..) (Qs.df ..) (Qs.df ..) (Qs.df ..) (Qs.df ..) (Qs.df ..) (Qs.df ..) (Qs.df ..) (Qs.df ..) (Qs.df ..) (Qs.df ..) (Qs.df ..) (Qs.df ..) (Qs.df ..) (Qs.df ..) (Qs.df ..) (Qs.df ..) (Qs.df ..) (Qs.df ..) (Qs.df ..) (Qs.df ..) (Qs.df ..) (Qs.df ..) (Qs.df ..) (Qs.df ..) (Qs.df ..) (Qs.df ..) (Qs.df ..) (Qs.df ..) (Qs.df ..) (Qs.df ..) (Qs.df ..) (Qs.df ..) (Qs.df ..) (Qs.df ..) (Qs.df ..) (Qs.df ..) (Qs.df ..) (Qs.df ..) (Qs.df ..) (Qs.df ..) (Qs.df ..) (Qs.dm ..) (Qs.dm ..) (Qs.df ..) (Qs.df ..) (Qs.df ..) (Qs.df ..) (Qs.df ..) (Qs.df ..) (Qs.df ..) (Qs.df ..) (Qs.df ..) (Qs.df ..) (Qs.df ..) (Qs.df ..) (Qs.df ..) (Qs.df ..) (Qs.df ..) (Qs.df ..) _ _ _ _ _ _ _ _ _ _ _ _ _ _ _ _ _ _ _ _ _ _ _ _ _ _ _ _ _ _ _ _ _ _ _ _ _ _ _ _ _ _ _ _ _ _ _ _ _ _ _ _ _ _ _ _ _ _ _ _ _ _ _ _ _ _ _ _ _ _ _ _ _ _ _ _ _ _ _ _ _ _ _ _ _ _ _ _ _ _ _ _ _ _ _ _ _ _ _ _ _ _ _ _ _ _ _ _ _ _ _ _ _ _ _ _ _ _ _ _ _ _ _ _ _ _ _ _ _ _ _ _ _ _ _ _ _ _ _ _ _ _ _ _ _ _ _ _ _ _ _ _ _ _ _ _ _ _ _ _ _ _ _ _ _ _ _ _ _ _ _ _ _ _ _ _ _ _ _ _ _ _ _ _ _ _ _ _ _ _ _ _ _ _ _ _ _ _ _ _ _ _ _ _ _ _ _ _ _ _ _ _ _ _ _ _ _ _ _ _ _ _ _ _ _ _ _ _ _ _ _ _ _ _ _ _ _ _ _ _ _ _ _ _ _ _ _ _ _ _ _ _ _ _ _ _ _ _ _ _ _ _ _ _ _
  all_goals try first | (refine Qs.Kt.mk ?_;kit_is) | (refine Qs.Kv.mk ?_;kit_is) | (refine Qs.Ke.mk ?_;kts_exm) | (refine Qs.Kx.mk ?_;k_exc) | k_is | exact rfl | kernel_rfl | decide
